import PyProof.Rows.All
import Wide.All
import OpenK.AllK
import Wide.FinOn
import PySem.Challenge.RW_quiltward_k20_written_labels_and_names
import HandS.ForSpec
import HandS.ForMost
import HandS.AnyAll
import HandS.EndTab
import HandS.StrMore
import HandS.FStr
import HandS.IsInst
import HandS.Wide
import HandS.RaiseMore
import HandS.Text
import HandS.Codes
import HandS.RevRange
import HandS.Style
import HandS.More
import HandS.TupLe
import HandS.TupMul
import KE.DataEq
import KE.Datum
import KE.GoesEnum
import PyProof.Draws
import PyProof.EnumMake
import PyProof.StrOps2
import PyProof.StrLawsChain
import PyProof.StrLawsTight
import HandS.Walk
import HandS.Comp
import PyProof.GenQ
import PyProof.ToksMono
import HandS.Dict
import HandS.DictTup
import HandS.DictComp
import HandS.TupLen
import PyProof.DictMoreH
import PyProof.DictTruth
import PyProof.ReprRoads
import HandS.EndOwn
import HandS.StrSplit
import HandS.Replace
set_option Elab.async false
set_option linter.all false
set_option maxRecDepth 100000
set_option maxHeartbeats 4000000
/-! rules of my own over the hand layer -/
namespace QR
open PySem PySem.Spec PyProof.Rows L2 GxR
section
variable {X : Cx} {pins : List (Addr × Obj)} {σ : L2.St} {H : Hp} {s : Shared}

/-! ### all(test for x in source), the test may read captured names -/
/-- what is walked: from the state s1, an iterator of n items, of which item i is one of Pw i; more: what else is looked at -/
def SrcOk (X : Cx) (P : Addr) (u : Value) (s1 : Shared) (n : Nat) (Pw : Nat → Value → Prop) : Prop :=
  ∃ more : List Addr, (∀ b ∈ more, b < s1.heap.objs.size ∧ b ≠ P) ∧
    ∀ Q : Value → Shared → Prop, (∀ (ob : Obj) (St : Nat → Heap → Prop),
        (∀ A' : Around, A'.handled = none → Walks X.prog X.w A' s1.heap.objs.size (s1.heap.objs.size :: more) [s1.heap.objs.size] n Pw St) → St 0 (s1.heap.push ob) →
          Q (.ref s1.heap.objs.size) { s1 with heap := s1.heap.push ob }) → wpAny (model X.prog X.w) X.A (pyIter u) Q X.xe s1
/-- the element is a test: tr i for the item i -/
def EltOk (X : Cx) (P : Addr) (scope : Scope) (x : Str) (elt : Expr) (s1 : Shared) (Pw : Nat → Value → Prop) (tr : Nat → Bool) : Prop :=
  ∀ (ce : Env) (A' : Around) (E' : Value → Shared → Prop) (i : Nat) (v : Value) (s2 : Shared) (m2 : Str → Option Value), A'.handled = none → ce.scope = scope → ce.cells = cloFrom X.env.cells scope.names [] →
    Pw i v → s2.heap.Ns ce.locals m2 → m2 x = some v → (∀ b o, b ≠ P → s1.heap.get? b = some o → s2.heap.get? b = some o) →
      wpAny (model X.prog X.w) A' (eval elt ce) (fun y s3 => y = .bool (tr i) ∧ Keeps s2 s3) E' s2

/-- made: the generator g is ready for its walk -/
def Made (X : Cx) (pins : List (Addr × Obj)) (σ : L2.St) (H1 : Hp) (P : Addr) (n : Nat) (tr : Nat → Bool) (g : Addr) (s5 : Shared) : Prop :=
  ∃ (fp wr : List Addr) (G : Array GenState → Array GenState → Prop) (F : Nat → Value → Prop) (St : Nat → Shared → Prop),
    WalksS X.prog X.w X.A.in1 g fp wr G n F St ∧ St 0 s5 ∧ TruthOf X.prog X.w X.A.in1 F tr ∧
      ∀ s', Moved wr G s5 s' → ∃ H2, Tabbed P H1 H2 ∧ Inv X pins σ H2 s'

theorem gen_make {c P : Addr} {elt iter : Expr} {x : Str} {px gpos : Pos} {scope : Scope} {k : Nat} {Q' : Value → Shared → Prop}
    (hr : Room k X.A) (TB : TabB X.base X.mg c P) (hcode : X.env.code = .ref c) (S : GenS X.env scope x) (hs : ∀ v, genFold iter X.env v = pure v)
    (h : wpAny (model X.prog X.w) X.A (eval iter X.env) (fun u s1 => ∃ (H1 : Hp) (n : Nat) (Pw : Nat → Value → Prop) (tr : Nat → Bool), Inv X pins σ H1 s1 ∧ TabG H1 P ∧ SrcOk X P u s1 n Pw ∧ EltOk X P scope x elt s1 Pw tr ∧
      ∀ g s5, Made X pins σ H1 P n tr g s5 → Q' (.ref g) s5) X.xe s) :
    wpAny (model X.prog X.w) X.A (eval (.GeneratorExp elt [⟨.Name x px, iter, [], 0⟩] scope gpos) X.env) Q' X.xe s := by
  have dp := hr.dp
  refine wpAny_GeneratorExp_walksQ hr.hd S.co (closure_ok S.free) S.cell S.dot S.loc S.kind (by omega) (thn h ?_) hs
  intro u s1 ⟨H1, n, Pw, tr, I1, ⟨ps, hP, hps⟩, ⟨more, hmore, hit⟩, hel, hQ⟩
  refine hit _ fun ob St W st0 => ?_
  -- the table, in the heap before and behind the iterator
  have tb0 : s1.heap.get? P = some { cls := .none, data := .fields ps } := I1.hok P _ hP
  have ltP : P < s1.heap.objs.size := Heap.lt_size tb0
  have tb1 := Heap.get?_push_of_some ob tb0
  have code1 : PySem.W.CodeHd (s1.heap.push ob) c P := TB.code.keeps fun b o e => Heap.get?_push_of_some _ (I1.bk b o e)
  have lim1 := I1.nolimit.push ob
  have lt1 : cStatics < s1.heap.objs.size := let ⟨_, z, _⟩ := I1.nolimit; z.lt
  have neP : cStatics ≠ P := by
    intro e
    obtain ⟨_, ⟨o', es, ep, ho, hd, _⟩, _⟩ := I1.nolimit
    rw [e, tb0] at ho
    cases ho
    cases hd
  have sz1 : (s1.heap.push ob).objs.size = s1.heap.objs.size + 1 := Heap.size_push ..
  have up3 : ∀ h3 : Heap, (s1.heap.push ob).objs.size ≤ h3.objs.size → s1.heap.objs.size < h3.objs.size := fun h3 l => by
    rw [sz1] at l
    exact l
  refine ⟨lim1, ?_⟩
  have rest : ∀ (code : Value) (h3 : Heap) (tk : Nat) (ps3 : Array Value), Heap.ExtBut P (s1.heap.push ob) h3 → (s1.heap.push ob).objs.size ≤ h3.objs.size → h3.get? P = some { cls := .none, data := .fields ps3 } →
      (∃ q, ps3 = ps ++ q) → TriplesOk ps3.toList →
      wpAny (model X.prog X.w) X.A (builtinsFor X.env.globals X.env.builtins) (fun bi s4 =>
        ∃ Ia fp wr n0 Pf St0 pz F, Value.ref s1.heap.objs.size = .ref Ia ∧ (∀ A' : Around, A'.handled = none → Walks X.prog X.w A' Ia fp wr n0 Pf St0) ∧ St0 0 s4.heap ∧ (∀ b ∈ fp, b < s4.heap.objs.size) ∧ s4.heap.NoLimit ∧ cStatics ∉ wr ∧
          (∀ hf : Heap, (∀ b o, s4.heap.get? b = some o → hf.get? b = some o) →
            QuietGen X.prog X.w (genEnv scope (cloFrom X.env.cells scope.names []) s4.heap.objs.size code bi X.env) x [] elt (List.range s4.heap.objs.size) wr Pf pz F hf) ∧
          (∀ a h5 tk gs, gs.bare = true → s4.heap.objs.size < a → h5.objs.size = a + 1 → (∀ b o, s4.heap.get? b = some o → h5.get? b = some o) →
            WalksS X.prog X.w X.A.in4 a (a :: s4.heap.objs.size :: List.range s4.heap.objs.size) (s4.heap.objs.size :: wr) (GenOnlyQ s4.gens.size) (passing pz n0 0).length
              (fun j y => ∃ i, (passing pz n0 0)[j]? = some i ∧ F i y) (GenAt X.prog X.w X.A.in4 a s4.gens.size s4.heap.objs.size (List.range s4.heap.objs.size) wr pz n0 F) →
            GenAt X.prog X.w X.A.in4 a s4.gens.size s4.heap.objs.size (List.range s4.heap.objs.size) wr pz n0 F 0 { s4 with gens := s4.gens.push gs, toks := tk, heap := h5 } →
              Q' (.ref a) { s4 with gens := s4.gens.push gs, toks := tk, heap := h5 })) X.xe { s1 with heap := h3, toks := tk } := by
    intro code h3 tk ps3 ext le3 tb3 hq ok3
    obtain ⟨bm, om, m1, m2, m3, m4, m5, m6, m7, m8⟩ := TB.bm
    have k3 : ∀ b o, b ≠ P → s1.heap.get? b = some o → h3.get? b = some o := fun b o ne e => ext b o ne (Heap.get?_push_of_some _ e)
    refine wpAny_builtinsFor (m := X.mg) ?_ m1 m2 (k3 _ _ m4 (I1.bk _ _ m5)) m6 m7 m8 ?_
    · rw [I1.ok.glob]
      exact ((I1.mod.glob.keeps I1.bk).push ob).extBut ext TB.gP
    refine ⟨s1.heap.objs.size, s1.heap.objs.size :: more, [s1.heap.objs.size], n, Pw, St, fun _ => true, fun i y => y = .bool (tr i), rfl, W, ?_, ?_, lim1.extBut ext neP, ?_, ?_, ?_⟩
    · refine (W X.A hr.hd).frame _ _ _ st0 fun b hb o e => ext b o ?_ e
      intro z
      rcases List.mem_cons.mp hb with q | q
      · rw [z] at q
        rw [q] at ltP
        exact Nat.lt_irrefl _ ltP
      · exact (hmore b q).2 z
    · intro b hb
      show b < h3.objs.size
      rcases List.mem_cons.mp hb with q | q
      · rw [q]
        exact up3 h3 le3
      · exact Nat.lt_trans (hmore b q).1 (up3 h3 le3)
    · intro z
      rcases List.mem_cons.mp z with q | q
      · rw [q] at lt1
        exact Nat.lt_irrefl _ lt1
      · cases q
    · intro hf hk
      constructor
      · intro A' E' i v s2 mm hA hv hn hm hkk
        rw [List.forIn_nil]
        exact wpAny_pure ⟨rfl, keeps_refl _⟩
      · intro A' E' i v s2 mm hA hv _ hn hm hkk
        refine hel _ A' E' i v s2 mm hA rfl rfl hv hn hm fun b o ne e => ?_
        have e3 := k3 b o ne e
        have l1 := Heap.lt_size e
        refine hkk b (List.mem_range.mpr (Heap.lt_size e3)) ?_ o (hk b o e3)
        intro z
        rcases List.mem_cons.mp z with q | q
        · rw [q] at l1
          exact Nat.lt_irrefl _ l1
        · cases q
    · intro g h5 tk5 gs bare5 gt5 sz5 k5 W5 at5
      simp only [GxR.passing_true, List.length_range] at W5
      refine hQ g _ ⟨_, _, _, _, _, W5.in4_1, at5, ?_, fun s' mv => ?_⟩
      · intro j y sj Qj Ej ⟨i, hij, ey⟩ hQj
        obtain ⟨lj, ej⟩ := List.getElem?_eq_some_iff.mp hij
        rw [List.getElem_range] at ej
        rw [ey, ← ej]
        exact wpAny_truthy_bool hQj
      · obtain ⟨q, eq3⟩ := hq
        have out : ∀ b o, s1.heap.get? b = some o → b ∉ h3.objs.size :: [s1.heap.objs.size] := by
          intro b o e hb
          have l1 := Heap.lt_size e
          rcases List.mem_cons.mp hb with z | z
          · rw [z] at l1
            have l2 : h3.objs.size < s1.heap.objs.size := l1
            omega
          · rcases List.mem_cons.mp z with z | z
            · rw [z] at l1
              exact Nat.lt_irrefl _ l1
            · cases z
        have tb' : s'.heap.get? P = some { cls := .none, data := .fields (ps ++ q) } := by
          rw [← eq3]
          exact mv.heap P _ (out P _ tb0) (k5 P _ tb3)
        have J := inv_tab (g' := s'.gens) (d' := s'.drawn) (t' := s'.toks) I1 hP (fun b o ne e => mv.heap b o (out b o e) (k5 b o (k3 b o ne e))) tb' (AllBare.movedS (I1.bare.push bare5) mv)
        rw [sh_eta s1 s' mv.os] at J
        exact ⟨upd H1 P (.tbl (ps ++ q)), ⟨⟨ps ++ q, upd_same, by rw [← eq3]; exact ok3⟩, fun b ne => upd_ne ne⟩, J⟩
  cases hc : codeAmong gpos ps.toList with
  | some cv =>
    exact wpAny_genexprCode_hit hcode (code1.code tb1 hps) hc (rest cv _ s1.toks ps (Heap.ExtBut.refl _ _) (Nat.le_refl _) tb1 ⟨#[], (Array.append_empty).symm⟩ hps)
  | none =>
    refine wpAny_genexprCodeX hcode (code1.code tb1 hps) (code1.tab tb1) hc ?_
    intro c' h' tk ext ge lt isC _ tab' _
    obtain ⟨o1, v1, f1, f2, f3, f4, f5, f6, f7, f8, _, _, _, _, _, _, _, _, _, okT, _⟩ := isC
    exact rest _ h' tk _ ext (Nat.le_trans ge (Nat.le_of_lt lt)) tab'.2 ⟨_, rfl⟩ okT

/-- all of it -/
theorem all_run {c P : Addr} {elt iter : Expr} {x : Str} {px p pos gpos : Pos} {scope : Scope} {k : Nat} {Q : V → Hp → Prop}
    (hr : Room k X.A) (hg : Gl X "all") (hm : X.mg "all" = none) (TB : TabB X.base X.mg c P) (hcode : X.env.code = .ref c) (S : GenS X.env scope x) (hs : ∀ v, genFold iter X.env v = pure v) (I : Inv X pins σ H s)
    (h : wpAny (model X.prog X.w) X.A (eval iter X.env) (fun u s1 => ∃ (H1 : Hp) (n : Nat) (Pw : Nat → Value → Prop) (tr : Nat → Bool), Inv X pins σ H1 s1 ∧ TabG H1 P ∧ SrcOk X P u s1 n Pw ∧ EltOk X P scope x elt s1 Pw tr ∧
      ∀ H2, Tabbed P H1 H2 → Q (.bl ((List.range n).all tr)) H2) X.xe s)
    (he : starEach [.GeneratorExp elt [⟨.Name x px, iter, [], 0⟩] scope gpos] X.env = (false, eval (.GeneratorExp elt [⟨.Name x px, iter, [], 0⟩] scope gpos) X.env) :: starEach [] X.env := by rfl) :
    wpAny (model X.prog X.w) X.A (eval (.Call (.Name "all" p) [.GeneratorExp elt [⟨.Name x px, iter, [], 0⟩] scope gpos] [] pos) X.env) (EP X pins σ Q) X.xe s := by
  refine wpAny_Call_Name_kw (ld_blt I hg hm (show bootBuiltins "all" = some (.builtin "all") by decide +kernel) ?_)
  refine PyProof.Rows.callWith_builtin1 ?_ he (by rfl)
  rw [he]
  refine Calls.spliced_cons (gen_make (pins := pins) (σ := σ) hr TB hcode S hs (thn h ?_))
  intro u s1 ⟨H1, n, Pw, tr, I1, T1, src, el, q⟩
  refine ⟨H1, n, Pw, tr, I1, T1, src, el, fun g s5 mk => ?_⟩
  obtain ⟨fp, wr, G, F, St0, W, st5, tru, back⟩ := mk
  refine Calls.spliced_nil (call_all_walkS (W.self 0 _ _ _ st5 ⟨g, fp, wr, G, n, F, St0, tr, rfl, W, st5, tru, fun s' mv => ?_⟩))
  obtain ⟨H2, t2, I2⟩ := back s' mv
  exact ⟨.bl _, H2, I2, rfl, q H2 t2⟩

/-! ### all(x in y for x in text), y a captured text in the slot i -/
def tAllIn (P : Addr) (i : Nat) (te : TE) : TE := fun σ H Q => te σ H fun v H1 => ∃ a z : Str, v = .str a ∧ σ[i]? = some (some (.str z)) ∧ TabG H1 P ∧
  ∀ H2, Tabbed P H1 H2 → Q (.bl (a.cps.toList.all fun c => decide (c ∈ z.cps.toList))) H2
theorem pe_allIn {c P : Addr} {iter : Expr} {x y : Str} {i : Nat} {px p pos gpos p1 p2 p3 : Pos} {scope : Scope} {te : TE} {k : Nat}
    (hr : Room k X.A) (hg : Gl X "all") (hm : X.mg "all" = none) (TB : TabB X.base X.mg c P) (hcode : X.env.code = .ref c) (S : GenS X.env scope x) (hi : PE X iter te) (hs : ∀ v, genFold iter X.env v = pure v)
    (hN : X.N[i]? = some y) (hv : X.env.kindOf y = some .cell) (hy : scope.names.lookup y = some .free) (hyc : (cloFrom X.env.cells scope.names []).lookup y = X.env.cells.lookup y)
    (he : starEach [.GeneratorExp (.Compare (.Name x p1) [.In] [.Name y p2] p3) [⟨.Name x px, iter, [], 0⟩] scope gpos] X.env = (false, eval (.GeneratorExp (.Compare (.Name x p1) [.In] [.Name y p2] p3) [⟨.Name x px, iter, [], 0⟩] scope gpos) X.env) :: starEach [] X.env := by rfl)
    (hd : (x == ("__debug__" : Str)) = false := by decide) (hd2 : (y == ("__debug__" : Str)) = false := by decide) (hn2 : (y == ("__classdict__" : Str)) = false := by decide) :
    PE X (.Call (.Name "all" p) [.GeneratorExp (.Compare (.Name x p1) [.In] [.Name y p2] p3) [⟨.Name x px, iter, [], 0⟩] scope gpos] [] pos) (tAllIn P i te) := by
  refine ⟨fun pins s σ H Q I h => all_run hr hg hm TB hcode S hs I (thn (hi.run pins s σ H _ I h) ?_) he⟩
  intro u s1 ⟨v, H1, I1, r1, a, z, ev, ez, T1, q⟩
  subst ev
  obtain ⟨t, rfl⟩ := r1
  obtain ⟨m, hm1, hl⟩ := I1.loc
  obtain ⟨uz, rz, lz⟩ := hl i y _ hN ez (.inr (.inl hv))
  obtain ⟨tz, rfl⟩ := rz
  have hcell : ∃ cl, X.env.cells.lookup y = some cl ∧ s1.heap.IsCell cl (some (.str z tz)) := by
    rcases lz with ⟨k1, _⟩ | ⟨_, cl, h1, h2⟩
    · rw [hv] at k1
      cases k1
    · exact ⟨cl, h1, h2⟩
  obtain ⟨cl, hc1, hc2⟩ := hcell
  refine ⟨H1, a.cps.size, SignAt a, trF (fun c => decide (c ∈ z.cps.toList)) a.cps.toList, I1, T1, ⟨[], fun b hb => (nomatch hb), fun Q hQ => wpAny_pyIter_str hQ⟩, ?_, fun H2 t2 => ?_⟩
  · intro ce A' E' j v s2 m2 _ es ec ⟨cc, tc, hcc, ev⟩ hn hmx kp
    subst ev
    refine wpAny_Compare1 ?_ (by with_unfolding_all rfl)
    refine wpAny_Name (wpAny_loadName_local (by rw [es]; exact S.kind) (by show ce.scope.names.lookup x = _; rw [es]; exact S.loc) hn hmx ?_) hd
    refine wpAny_Name (wpAny_loadName_free (c := cl) (v := .str z tz) (by rw [es]; exact S.kind) (by show ce.scope.names.lookup y = _; rw [es]; exact hy) (by rw [ec, hyc]; exact hc1) ?_ ?_ hn2) hd2
    · obtain ⟨oc, ho, hdt⟩ := hc2
      refine ⟨oc, kp cl oc ?_ ho, hdt⟩
      intro e
      obtain ⟨ps, hP, _⟩ := T1
      have tb0 : s1.heap.get? P = some { cls := .none, data := .fields ps } := I1.hok P _ hP
      rw [e, tb0] at ho
      cases ho
      cases hdt
    · refine PyProof.Rows.in_str ⟨?_, keeps_refl _⟩
      have e9 : a.cps.toList[j]? = some cc := by rw [Array.getElem?_toList]; exact hcc
      rw [PySem.StrLaws.found_one z cc, trF_some e9]
  · rw [all_signs a]
    exact q H2 t2

end
end QR
/-! the mathematics of records: no program here -/
namespace TR
open PySem L2 TL
abbrev Sg (l : List Nat) : Str := ⟨l.toArray⟩

/-! ### numbers in digits -/
theorem val_snoc (l : List Nat) (c : Nat) : NumText.digitsVal (l ++ [c]) = NumText.digitsVal l * 10 + (c - 48) := by
  unfold NumText.digitsVal
  rw [List.foldl_append]
  rfl
theorem num_head {n : Nat} (h : 0 < n) : ∃ c r, numL n = c :: r ∧ c ≠ 48 := by
  induction n using Nat.strongRecOn with
  | _ n ih =>
    by_cases h1 : n < 10
    · refine ⟨48 + n, [], numL_lt h1, by omega⟩
    · obtain ⟨c, r, e, ne⟩ := ih (n / 10) (by omega) (by omega)
      exact ⟨c, r ++ [48 + n % 10], by rw [numL_step (by omega), e]; rfl, ne⟩
theorem num_zero : numL 0 = [48] := numL_lt (by decide)
/-- digits without leading zeros are those of their number -/
theorem num_canon : ∀ (k : Nat) (l : List Nat), l.length = k → NumText.AllDigits l → l ≠ [] → (l.head? ≠ some 48 ∨ l = [48]) → numL (NumText.digitsVal l) = l := by
  intro k
  induction k with
  | zero =>
    intro l hl _ ne _
    exact absurd (List.eq_nil_of_length_eq_zero hl) ne
  | succ k ih =>
    intro l hl hd ne hz
    obtain ⟨i, c, rfl⟩ : ∃ i c, l = i ++ [c] := ⟨l.dropLast, l.getLast ne, (List.dropLast_concat_getLast ne).symm⟩
    have hc : 48 ≤ c ∧ c ≤ 57 := hd c (List.mem_append_right _ (List.mem_singleton.mpr rfl))
    have hi : NumText.AllDigits i := fun x hx => hd x (List.mem_append_left _ hx)
    have li : i.length = k := by
      rw [List.length_append, List.length_singleton] at hl
      omega
    by_cases h0 : i = []
    · subst h0
      have e : NumText.digitsVal ([] ++ [c]) = c - 48 := by
        rw [val_snoc]
        show 0 * 10 + (c - 48) = c - 48
        omega
      rw [e, numL_lt (by omega)]
      show [48 + (c - 48)] = [c]
      rw [show 48 + (c - 48) = c by omega]
    · have hh : (i ++ [c]).head? = i.head? := by
        cases i with
        | nil => exact absurd rfl h0
        | cons x r => rfl
      have hz2 : i.head? ≠ some 48 := by
        rcases hz with z | z
        · rw [hh] at z
          exact z
        · have := congrArg List.length z
          rw [List.length_append, List.length_singleton, List.length_singleton] at this
          have : i.length = 0 := by omega
          exact absurd (List.eq_nil_of_length_eq_zero this) h0
      have e1 := ih i li hi h0 (.inl hz2)
      have hp : 0 < NumText.digitsVal i := by
        rcases Nat.eq_zero_or_pos (NumText.digitsVal i) with z | z
        · rw [z, num_zero] at e1
          rw [← e1] at hz2
          exact absurd rfl hz2
        · exact z
      rw [val_snoc, numL_step (by omega)]
      have d1 : (NumText.digitsVal i * 10 + (c - 48)) / 10 = NumText.digitsVal i := by omega
      have d2 : (NumText.digitsVal i * 10 + (c - 48)) % 10 = c - 48 := by omega
      rw [d1, d2, e1, show 48 + (c - 48) = c by omega]
theorem num_len_mono : ∀ (m n : Nat), n ≤ m → (numL n).length ≤ (numL m).length := by
  intro m
  induction m using Nat.strongRecOn with
  | _ m ih =>
    intro n h
    by_cases h1 : n < 10
    · rw [numL_lt h1]
      exact List.length_pos_iff.mpr (numL_ne m)
    · rw [numL_step (n := n) (by omega), numL_step (n := m) (by omega), List.length_append, List.length_append]
      have := ih (m / 10) (by omega) (n / 10) (by omega)
      show _ + 1 ≤ _ + 1
      omega

instance (l : List Nat) : Decidable (NumText.AllDigits l) := inferInstanceAs (Decidable (∀ c ∈ l, 48 ≤ c ∧ c ≤ 57))
def readNum (l : List Nat) (m : Nat) : Option Nat :=
  if l.length = 0 ∨ (numL m).length < l.length ∨ ¬ NumText.AllDigits l then none
  else if l.head? = some 48 ∧ l ≠ [48] then none
  else if NumText.digitsVal l ≤ m then some (NumText.digitsVal l) else none
theorem readNum_some {l : List Nat} {m n : Nat} (h : readNum l m = some n) : l = numL n ∧ n ≤ m := by
  unfold readNum at h
  split at h
  · cases h
  · rename_i h1
    split at h
    · cases h
    · rename_i h2
      split at h
      · rename_i h3
        cases h
        refine ⟨(num_canon _ l rfl (Decidable.byContradiction fun z => h1 (.inr (.inr z))) (fun z => h1 (.inl (by rw [z]; rfl))) ?_).symm, h3⟩
        by_cases z : l.head? = some 48
        · exact .inr (Decidable.byContradiction fun y => h2 ⟨z, y⟩)
        · exact .inl z
      · cases h
theorem readNum_num {m n : Nat} (h : n ≤ m) : readNum (numL n) m = some n := by
  unfold readNum
  have l0 : (numL n).length ≠ 0 := fun z => numL_ne n (List.eq_nil_of_length_eq_zero z)
  have l1 := num_len_mono m n h
  rw [if_neg (by
    rintro (z | z | z)
    · exact l0 z
    · omega
    · exact z (numL_digits n)), if_neg (by
    rintro ⟨z1, z2⟩
    rcases Nat.eq_zero_or_pos n with q | q
    · rw [q, num_zero] at z2
      exact z2 rfl
    · obtain ⟨c, r, e, ne⟩ := num_head q
      rw [e] at z1
      exact ne (Option.some.inj z1)), numL_val, if_pos h]
end TR
/-! rules of my own over the hand layer: text * int, enumerate(text) -/
namespace TR
open PySem PySem.Spec PyProof.Rows L2 TL
theorem sg_tl (s : Str) : Sg (tl s) = s := rfl
/-! ### text * int -/
def repL (l : List Nat) (k : Int) : List Nat := (List.replicate k.toNat l).flatten
def rRepS : R2 := fun x y H Q => ∃ (s : Str) (k : Int), x = .str s ∧ y = .int k ∧ k ≤ 1000 ∧ -1000 ≤ k ∧ s.length ≤ 1000 ∧ Q (.str (Sg (repL (tl s) k))) H
theorem fold_cps (x : Array Nat) : ∀ (m : Nat) (b : Array Nat), ((List.replicate m x).foldl (· ++ ·) b).toList = b.toList ++ (List.replicate m x.toList).flatten
  | 0, b => by simp
  | m + 1, b => by
    rw [List.replicate_succ, List.foldl_cons, fold_cps x m, List.replicate_succ, List.flatten_cons, Array.toList_append, List.append_assoc]
theorem op_repS {X : Cx} : OpR X (binaryOp .Mult) rRepS := by
  intro pins s σ H x y v u Q I rx ry h
  obtain ⟨i, k, rfl, rfl, h1, h2, hz, q⟩ := h
  obtain ⟨t, rfl⟩ := rx
  obtain ⟨t', rfl⟩ := ry
  have hm : (i.length : Int) * k ≤ 1000000 := by
    by_cases kz : 0 ≤ k
    · have a1 : (i.length : Int) * k ≤ 1000 * k := Int.mul_le_mul_of_nonneg_right (by omega) kz
      omega
    · have a1 := Int.mul_nonneg (show (0 : Int) ≤ i.length by omega) (show (0 : Int) ≤ -k by omega)
      rw [Int.mul_neg] at a1
      omega
  refine P.mul_str (by
    rw [decide_eq_false (by omega : ¬ k < -(2 ^ 63 : Int)), decide_eq_false (by omega : ¬ k ≥ 2 ^ 63)]
    rfl) (fun hk _ => ?_) (fun hk _ => ?_) ?_
  · have := (Int.le_ediv_iff_mul_le (show 0 < k by omega)).mpr (show (i.length : Int) * k ≤ 2 ^ 63 - 1 by omega)
    omega
  · have e : i.length * k.toNat ≤ 1000000 := by
      have : ((i.length * k.toNat : Nat) : Int) = (i.length : Int) * k := by
        rw [Int.natCast_mul, Int.toNat_of_nonneg (by omega)]
      omega
    show decide (i.length * k.toNat > sizeLine) = false
    refine decide_eq_false ?_
    rw [sizeLine_eq]
    omega
  · have end_ : ∀ (z : Str), tl z = repL (tl i) k → V.str z = V.str (Sg (repL (tl i) k)) := fun z e => by rw [← e]
    by_cases h1 : k < 1
    · rw [if_pos h1]
      refine ⟨Nat.zero_le _, .str (Sg (repL (tl i) k)), H, I.tok _, ⟨s.toks, ?_⟩, q⟩
      have e : repL (tl i) k = [] := by
        unfold repL
        rw [show k.toNat = 0 by omega]
        rfl
      rw [e]
      rfl
    · rw [if_neg h1]
      cases hc : (k == 1 || i.length == 0)
      · rw [if_neg Bool.false_ne_true]
        have e := fold_cps i.cps k.toNat #[]
        rw [Array.toList_empty, List.nil_append] at e
        have e2 : (⟨(List.replicate k.toNat i.cps).foldl (· ++ ·) #[]⟩ : Str) = Sg (repL (tl i) k) := ext_tl e
        have lz : (repL (tl i) k).length ≤ sizeLine := by
          unfold repL
          rw [PyProof.Rows.lm_len_rep_flat, sizeLine_eq]
          have : ((k.toNat * (tl i).length : Nat) : Int) = (i.length : Int) * k := by
            rw [Int.natCast_mul, Int.toNat_of_nonneg (by omega), Int.mul_comm]
            rfl
          omega
        show (Made.str ⟨(List.replicate k.toNat i.cps).foldl (· ++ ·) #[]⟩).post _ _
        rw [e2]
        exact ⟨lz, .str (Sg (repL (tl i) k)), H, I.tok _, ⟨s.toks, rfl⟩, q⟩
      · rw [if_pos rfl]
        refine ⟨.str (Sg (repL (tl i) k)), H, I, ⟨t, ?_⟩, q⟩
        refine congrArg (Value.str · t) (ext_tl ?_)
        show tl i = repL (tl i) k
        unfold repL
        rcases Bool.or_eq_true_iff.mp hc with z | z
        · rw [beq_iff_eq.mp z]
          show tl i = [tl i].flatten
          simp
        · have z : (tl i) = [] := List.eq_nil_of_length_eq_zero (beq_iff_eq.mp z)
          rw [z]
          simp
/-! ### enumerate(text) -/
def Ites (x : Str) : It := ⟨fun i _ => i < x.cps.size, fun i H v H' => ∃ T c, v = .ref T ∧ H T = none ∧ H' = upd H T (.tup [.int (i : Nat), .str ⟨#[c]⟩]) ∧ x.cps[i]? = some c, fun i _ => i = x.cps.size⟩
theorem turn_enumS {P : Program} {w : World} {K : PySem.W.Frag} {elts : List Expr} {kk : Nat} {tpos : Pos} (x : Str) (t : Tok) (ty : String) (hty : ty = "str_ascii_iterator" ∨ ty = "str_iterator") (e it : Addr) :
    Turn P w K (.Tuple elts kk tpos) (Ites x) [e, it] e (fun i h => (∃ old, IsEnum h e it ((i : Nat) : Int) old) ∧ h.IsStrIter it ty x t i ∧ e ≠ it) where
  mem := by simp
  obj := fun i h st b hb => by
    obtain ⟨⟨old, he⟩, ⟨o, ho, hc, hd⟩, _⟩ := st
    have e' : b = e ∨ b = it := by simpa using hb
    rcases e' with z | z
    · rw [z]; exact ⟨_, he, fun v q => nomatch q⟩
    · rw [z]; exact ⟨o, ho, fun v q => by rw [hd] at q; cases q⟩
  keep := fun i h h' st k => let ⟨⟨old, he⟩, ⟨o, ho, r⟩, hne⟩ := st; ⟨⟨old, k e (by simp) _ he⟩, ⟨o, k it (by simp) o ho, r⟩, hne⟩
  item := by
    intro X hP hw hK hc i pins s σ H E I hf st hg
    subst hP hw hK
    obtain ⟨⟨old, he⟩, hit, hne⟩ := st
    have hel : e < s.heap.objs.size := Heap.lt_size he
    have hil : it < s.heap.objs.size := by obtain ⟨_, q, _⟩ := hit; exact Heap.lt_size q
    have D : Draws X.prog X.w X.A.in1 it [it] x.cps.size (fun i v => ∃ c u, x.cps[i]? = some c ∧ v = .str ⟨#[c]⟩ u) (fun i h => h.IsStrIter it ty x t i) := by
      rcases hty with z | z
      · rw [z]; exact Draws.strAscii (A := X.A.in1) (I.ok.hd hc) it x t
      · rw [z]; exact Draws.strWide (A := X.A.in1) (I.ok.hd hc) it x t
    refine wpAny_pyNext_enum_itemC D he hit hg hne (by simpa using hne) fun y h' tk hy ho hit' hT hsz hk => ?_
    obtain ⟨c, u, hcx, rfl⟩ := hy
    refine ⟨_, rfl, wpAny_letOwnedTupleGo_enum (s := { s with heap := h', toks := tk + 1 }) ho fun h'' he' sb => ?_⟩
    have hT2 : h''.get? s.heap.objs.size = some { cls := .type "tuple", data := .seq #[.int i tk, .str ⟨#[c]⟩ u] } := (sb.2 _ (Nat.ne_of_gt hel)).trans hT
    have new : ObjOk X.prog X.w (upd H s.heap.objs.size (.tup [.int (i : Nat), .str ⟨#[c]⟩])) h'' s.heap.objs.size (.tup [.int (i : Nat), .str ⟨#[c]⟩]) :=
      ⟨by show 2 ≤ sizeLine; decide, [.int i tk, .str ⟨#[c]⟩ u], .cons ⟨_, rfl⟩ (.cons ⟨_, rfl⟩ .nil), ⟨_, hT2, rfl, _, rfl⟩⟩
    have I1 : Inv X pins σ (upd H s.heap.objs.size (.tup [.int (i : Nat), .str ⟨#[c]⟩])) { s with heap := h'', toks := tk + 1 } :=
      I.turnedNew (ch := [e, it]) (fun b ob hb q => (sb.2 b (fun z => hb (by simp [z]))).trans (hk b ob (fun z => hb (by simp [z])) (fun z => hb (by simp [z])) q)) hf (Nat.le_refl _) new
    refine ⟨.ref s.heap.objs.size, _, I1, rfl, ⟨_, c, rfl, I.hok.fresh (Nat.le_refl _), rfl, hcx⟩, ⟨⟨.str ⟨#[c]⟩ u, ?_⟩, ?_, hne⟩, fun b hb => ?_⟩
    · have e1 : ((i + 1 : Nat) : Int) = (i : Int) + 1 := by omega
      rw [e1]; exact he'
    · obtain ⟨o, ho2, r⟩ := hit'
      exact ⟨o, (sb.2 it (Ne.symm hne)).trans ho2, r⟩
    · have hb' : b < s.heap.objs.size := by
        have e' : b = e ∨ b = it := by simpa using hb
        rcases e' with z | z
        · rw [z]; exact hel
        · rw [z]; exact hil
      rw [upd_ne (Nat.ne_of_lt hb')]
      exact (hf b hb).1
  done := by
    intro X hP hw hK hc i pins s σ H E I hf st hg
    subst hP hw hK
    obtain ⟨⟨old, he⟩, hit, hne⟩ := st
    obtain ⟨f0, f1, f2, f3, f4, f5⟩ := hf it (by simp)
    have D : Draws X.prog X.w X.A.in1 it [it] x.cps.size (fun i v => ∃ c u, x.cps[i]? = some c ∧ v = .str ⟨#[c]⟩ u) (fun i h => h.IsStrIter it ty x t i) := by
      rcases hty with z | z
      · rw [z]; exact Draws.strAscii (A := X.A.in1) (I.ok.hd hc) it x t
      · rw [z]; exact Draws.strWide (A := X.A.in1) (I.ok.hd hc) it x t
    have hg' : i = x.cps.size := hg
    subst hg'
    exact wpAny_pyNext_enum_endD D he hit fun h' eb => ⟨rfl, I.turned (t' := s.toks) (fun b o hb q => eb b o hb q) f0 f1 f3 f4 f5⟩
  self := fun A i s Q E st h => let ⟨⟨_, he⟩, _⟩ := st; wpAny_pyIter_enum he h
def iEnumS (ta : TA) : TI := fun σ H R => ta σ H fun vs H1 => ∃ x, vs = [.str x] ∧ R (Ites x) H1
theorem pi_enumS {X : Cx} {e : Expr} {ta : TA} {p pos tpos : Pos} {elts : List Expr} {kk : Nat} (hg : Gl X "enumerate") (hm : X.mg "enumerate" = none) (ha : PA X [e] ta) (hs : starEach [e] X.env = [(false, eval e X.env)] := by rfl) :
    PI X (.Tuple elts kk tpos) (.Call (.Name "enumerate" p) [e] [] pos) (iEnumS ta) := by
  refine ⟨fun pins s σ H R I h => ?_⟩
  refine Call_ (ld_blt I hg hm boot_enumerate (PyProof.Rows.callWith_type1 (thn (ha.run pos pins s σ H _ I h) fun us s1 ⟨vs, H1, I1, r1, q1⟩ => ?_) hs rfl))
  obtain ⟨x, ex, q⟩ := q1
  subst ex
  cases r1 with
  | cons r rr =>
    cases rr
    obtain ⟨t, rfl⟩ := r
    refine call_enumerate_str fun h' he hit hsz hk => wpAny_pyIter_enum he ?_
    have I2 : Inv X pins σ H1 { s1 with heap := h' } := I1.kept (t' := s1.toks) hk
    refine ⟨s1.heap.objs.size + 1, [s1.heap.objs.size + 1, s1.heap.objs.size], _, _, H1, rfl, I2, turn_enumS x t (strIterType x) (by unfold strIterType; split <;> simp) (s1.heap.objs.size + 1) s1.heap.objs.size, ⟨⟨.none, he⟩, hit, Nat.succ_ne_self _⟩, fun b hb => ?_, q⟩
    have e' : b = s1.heap.objs.size + 1 ∨ b = s1.heap.objs.size := by simpa using hb
    have hle : s1.heap.objs.size ≤ b := by
      rcases e' with z | z
      · rw [z]; exact Nat.le_add_right _ _
      · rw [z]; exact Nat.le_refl _
    exact I1.fpOk hle (I1.hok.fresh hle)
theorem walk_enumS (x : Str) : Walk (Ites x) x.cps.size (fun _ => True) (fun i H v H' => ∃ T c, v = .ref T ∧ H T = none ∧ H' = upd H T (.tup [.int (i : Nat), .str ⟨#[c]⟩]) ∧ x.cps[i]? = some c) where
  goes := fun i H h _ => h
  stops := fun H _ => rfl
  yields := fun i H v H' h _ y => y
theorem for_enumS {x : Str} {g : TG} {tb : TS} {D : Ends} {σ : L2.St} {H : Hp} (Pv : Nat → L2.St → Hp → Prop) (h0 : Pv 0 σ H)
    (hs : ∀ i c T σ H, (tl x)[i]? = some c → Pv i σ H → H T = none → g (.ref T) σ (upd H T (.tup [.int (i : Nat), .str ⟨#[c]⟩])) fun σ2 H2 => tb { D with nx := Pv (i + 1), ct := Pv (i + 1), bk := D.nx } σ2 H2) (hd : ∀ σ H, Pv (tl x).length σ H → D.nx σ H) :
    ∃ W : Nat → Nat → L2.St → Hp → Prop, (∃ m, W 0 m σ H) ∧ ∀ i m σ H, W i m σ H →
      ((Ites x).stop i H ∧ D.nx σ H) ∨ ((Ites x).go i H ∧ ∃ N : L2.St → Hp → Prop, (∀ σ' H', N σ' H' → ∃ m', m' < m ∧ W (i + 1) m' σ' H') ∧ ∀ v H', (Ites x).yld i H v H' → g v σ H' fun σ2 H2 => tb { D with nx := N, ct := N, bk := D.nx } σ2 H2) :=
  for_it (walk_enumS x) Pv h0 (fun _ _ _ _ _ => trivial) (fun i v σ H H' hi hp ⟨T, c, e1, e2, e3, e4⟩ => by
    subst e1
    subst e3
    exact hs i c T σ H (by rw [Array.getElem?_toList]; exact e4) hp e2) (fun σ H hp => hd σ H hp)
end TR
namespace QR
open PySem PySem.Spec PyProof.Rows L2
section
variable {X : Cx}
def rEqP (K : PySem.W.Frag) : R2 := fun x y H Q => ∃ d e, Dp K H x d ∧ Dp K H y e ∧ d.plain = true ∧ e.plain = true ∧ d.depth ≤ 60 ∧ Q (.bl (PyData.eqv d e)) H
def rNeP (K : PySem.W.Frag) : R2 := fun x y H Q => ∃ d e, Dp K H x d ∧ Dp K H y e ∧ d.plain = true ∧ e.plain = true ∧ d.depth ≤ 60 ∧ Q (.bl (!PyData.eqv d e)) H
theorem op_eqP (hu : X.A.units + 64 < cLine) : OpR X (compareOp .Eq) (rEqP X.K) := fun pins s σ H x y v u Q I rx ry ⟨d, e, hd, he, pd, pe, dd, q⟩ => by
  obtain ⟨as, r1⟩ := Dp.reads I d x v hd rx
  obtain ⟨bs, r2⟩ := Dp.reads I e y u he ry
  exact PySem.SeqAt.eq_plain r1 r2 pd pe (by omega) ⟨.bl _, H, I, rfl, q⟩
theorem op_neP (hu : X.A.units + 64 < cLine) : OpR X (compareOp .NotEq) (rNeP X.K) := fun pins s σ H x y v u Q I rx ry ⟨d, e, hd, he, pd, pe, dd, q⟩ => by
  obtain ⟨as, r1⟩ := Dp.reads I d x v hd rx
  obtain ⟨bs, r2⟩ := Dp.reads I e y u he ry
  exact PySem.SeqAt.ne_plain r1 r2 pd pe (by omega) ⟨.bl _, H, I, rfl, q⟩
end
/-! ### == and != of values with a Lean type -/
section
variable {α : Type} [DecidableEq α] [PySem.W.Datum α] {K : PySem.W.Frag} {H : Hp} {x y : V} {a b : α} {Q : VK}
theorem eq_dat (hx : Dp K H x (PySem.W.Datum.toD a)) (hy : Dp K H y (PySem.W.Datum.toD b)) (hd : PySem.W.Datum.depth α ≤ 60) (q : Q (.bl (decide (a = b))) H) : rEqP K x y H Q :=
  ⟨_, _, hx, hy, PySem.W.Datum.plain a, PySem.W.Datum.plain b, Nat.le_trans (PySem.W.Datum.depth_le a) hd, by rw [PySem.W.Datum.eqv]; exact q⟩
theorem ne_dat (hx : Dp K H x (PySem.W.Datum.toD a)) (hy : Dp K H y (PySem.W.Datum.toD b)) (hd : PySem.W.Datum.depth α ≤ 60) (q : Q (.bl (!decide (a = b))) H) : rNeP K x y H Q :=
  ⟨_, _, hx, hy, PySem.W.Datum.plain a, PySem.W.Datum.plain b, Nat.le_trans (PySem.W.Datum.depth_le a) hd, by rw [PySem.W.Datum.eqv]; exact q⟩
end
end QR
/-! mathematics of texts and their lines -/
namespace TR
open PySem PySem.Spec PyProof.Rows L2 TL
/-- the parts of l between the c's -/
def cutAt (c : Nat) : List Nat → List (List Nat)
  | [] => [[]]
  | x :: l => if x = c then [] :: cutAt c l else match cutAt c l with
    | [] => [[x]]
    | p :: r => (x :: p) :: r
def joinL (c : Nat) : List (List Nat) → List Nat
  | [] => []
  | [p] => p
  | p :: q :: r => p ++ c :: joinL c (q :: r)
theorem cut_free {c : Nat} : ∀ {p : List Nat}, c ∉ p → cutAt c p = [p]
  | [], _ => rfl
  | x :: p, h => by
    have h1 : x ≠ c := fun e => h (e ▸ List.mem_cons_self)
    have h2 : c ∉ p := fun e => h (List.mem_cons_of_mem _ e)
    unfold cutAt
    rw [if_neg h1, cut_free h2]
theorem cut_app {c : Nat} {l : List Nat} : ∀ {p : List Nat}, c ∉ p → cutAt c (p ++ c :: l) = p :: cutAt c l
  | [], _ => by
    show cutAt c (c :: l) = _
    rw [cutAt, if_pos rfl]
  | x :: p, h => by
    have h1 : x ≠ c := fun e => h (e ▸ List.mem_cons_self)
    have h2 : c ∉ p := fun e => h (List.mem_cons_of_mem _ e)
    show cutAt c (x :: (p ++ c :: l)) = _
    rw [cutAt, if_neg h1, cut_app h2]
theorem cut_join {c : Nat} : ∀ {P : List (List Nat)}, P ≠ [] → (∀ p ∈ P, c ∉ p) → cutAt c (joinL c P) = P
  | [], h, _ => absurd rfl h
  | [p], _, h => cut_free (h p List.mem_cons_self)
  | p :: q :: r, _, h => by
    rw [joinL, cut_app (h p List.mem_cons_self), cut_join (List.cons_ne_nil _ _) fun x hx => h x (List.mem_cons_of_mem _ hx)]
theorem cut_ne (c : Nat) : ∀ l, cutAt c l ≠ []
  | [] => List.cons_ne_nil _ _
  | x :: l => by
    unfold cutAt
    split
    · exact List.cons_ne_nil _ _
    · split <;> exact List.cons_ne_nil _ _
theorem tl_app (a b : Str) : tl (a ++ b) = tl a ++ tl b := by
  show (a.cps ++ b.cps).toList = _
  rw [Array.toList_append]
theorem tl_join (c : Nat) : ∀ P : List Str, tl (Str.join ⟨#[c]⟩ P) = joinL c (P.map tl)
  | [] => rfl
  | [p] => rfl
  | p :: q :: r => by
    show tl (p ++ ⟨#[c]⟩ ++ Str.join ⟨#[c]⟩ (q :: r)) = _
    rw [tl_app, tl_app, tl_join c (q :: r), List.append_assoc]
    rfl
theorem split_ne (x y : Str) : Txt.split x y ≠ [] := by
  unfold Txt.split
  split
  · exact List.cons_ne_nil _ _
  · split
    · exact List.cons_ne_nil _ _
    · unfold Builtin.Str.partsBetween
      generalize Builtin.Str.occurrences x y 0 x.length (x.length + 1) = cs
      cases cs <;> exact List.cons_ne_nil _ _
theorem split_cut (x : Str) (c : Nat) : Txt.split x ⟨#[c]⟩ = (cutAt c (tl x)).map Sg := by
  have h1 : (Txt.split x ⟨#[c]⟩).map tl = cutAt c (tl x) := by
    have e := StrLaws.join_split x ⟨#[c]⟩
    have e2 := tl_join c (Txt.split x ⟨#[c]⟩)
    rw [e] at e2
    rw [e2, cut_join (by
      intro z
      exact split_ne x ⟨#[c]⟩ (List.map_eq_nil_iff.mp z))]
    intro p hp
    obtain ⟨q, hq, rfl⟩ := List.mem_map.mp hp
    exact StrLaws.split_free x c q hq
  rw [← h1, List.map_map]
  conv => lhs; rw [← List.map_id (Txt.split x ⟨#[c]⟩)]
  rfl
theorem tl_join0 : ∀ P : List Str, tl (Str.join Str.empty P) = (P.map tl).flatten
  | [] => rfl
  | [p] => by simp [Str.join]
  | p :: q :: r => by
    show tl (p ++ Str.empty ++ Str.join Str.empty (q :: r)) = _
    rw [tl_app, tl_app, tl_join0 (q :: r), List.map_cons, List.flatten_cons]
    show tl p ++ [] ++ _ = _
    rw [List.append_nil]
    simp
theorem txt_join0 (P : List Str) : Txt.join Str.empty P = Sg ((P.map tl).flatten) := by
  show Builtin.Str.glued _ _ = _
  rw [StrLaws.glued_eq_join]
  exact ext_tl (tl_join0 P)
/-- the text of lines -/
def flatN : List (List Nat) → List Nat
  | [] => []
  | p :: r => p ++ 10 :: flatN r
theorem cut_flat {z : List Nat} (hz : 10 ∉ z) : ∀ {P : List (List Nat)}, (∀ p ∈ P, 10 ∉ p) → cutAt 10 (flatN P ++ z) = P ++ [z]
  | [], _ => cut_free hz
  | p :: r, h => by
    show cutAt 10 ((p ++ 10 :: flatN r) ++ z) = _
    rw [List.append_assoc, List.cons_append, cut_app (h p List.mem_cons_self), cut_flat hz fun x hx => h x (List.mem_cons_of_mem _ hx)]
    rfl
theorem flat_flatten : ∀ P : List (List Nat), (P.map fun p => p ++ [10]).flatten = flatN P
  | [] => rfl
  | p :: r => by
    rw [List.map_cons, List.flatten_cons, flat_flatten r, List.append_assoc]
    rfl
/-- the first place where a text fails -/
def fault : List Nat → Nat → Nat → Nat → Option Nat
  | [], at_, _, size => if size = 0 then none else some at_
  | c :: l, at_, many, size => if many = 200 then some at_ else if c = 10 then fault l (at_ + 1) (many + 1) 0 else if size = 40 then some at_ else fault l (at_ + 1) many (size + 1)
theorem fault_end : ∀ {l : List Nat} {a m s : Nat}, fault l a m s = none → (l = [] ∧ s = 0) ∨ ∃ l', l = l' ++ [10]
  | [], a, m, s, h => by
    unfold fault at h
    split at h
    · rename_i e
      exact .inl ⟨rfl, e⟩
    · cases h
  | c :: l, a, m, s, h => by
    unfold fault at h
    split at h
    · cases h
    · split at h
      · rename_i e
        rcases fault_end h with ⟨e2, _⟩ | ⟨l', e2⟩
        · exact .inr ⟨[], by rw [e2, e]; rfl⟩
        · exact .inr ⟨c :: l', by rw [e2]; rfl⟩
      · split at h
        · cases h
        · rcases fault_end h with ⟨_, e2⟩ | ⟨l', e2⟩
          · cases e2
          · exact .inr ⟨c :: l', by rw [e2]; rfl⟩
theorem fault_nil {l z : List Nat} {a m s : Nat} (h : fault (l ++ z) a m s = none) (hz : 10 ∉ z) : z = [] := by
  rcases List.eq_nil_or_concat z with e | ⟨w, x, e⟩
  · exact e
  · exfalso
    rcases fault_end h with ⟨e2, _⟩ | ⟨l', e2⟩
    · rw [e] at e2
      simp at e2
    · rw [e, List.concat_eq_append, ← List.append_assoc] at e2
      have := List.append_inj_right' e2 rfl
      have e3 : x = 10 := by simpa using this
      exact hz (by rw [e, e3]; simp)
def okT (l : List Nat) : Prop := ∀ c ∈ l, c = 10 ∨ (32 ≤ c ∧ c ≤ 126)
def okL (l : List Nat) : Prop := (∀ c ∈ l, 32 ≤ c ∧ c ≤ 126) ∧ l.length ≤ 50
theorem okL.free {l : List Nat} (h : okL l) : 10 ∉ l := fun z => by
  have := h.1 10 z
  omega
theorem okT_app {a b : List Nat} (ha : okT a) (hb : okT b) : okT (a ++ b) := fun c hc => by
  rcases List.mem_append.mp hc with h | h
  · exact ha c h
  · exact hb c h
theorem okL.t {l : List Nat} (h : okL l) : okT l := fun c hc => .inr (h.1 c hc)
theorem okT_flat : ∀ {P : List (List Nat)}, (∀ p ∈ P, okL p) → okT (flatN P)
  | [], _ => fun c hc => nomatch hc
  | p :: r, h => by
    refine okT_app (h p List.mem_cons_self).t fun c hc => ?_
    rcases List.mem_cons.mp hc with e | hc
    · exact .inl e
    · exact okT_flat (fun x hx => h x (List.mem_cons_of_mem _ hx)) c hc
theorem flat_len : ∀ {P : List (List Nat)}, (∀ p ∈ P, okL p) → (flatN P).length ≤ 51 * P.length
  | [], _ => Nat.le_refl _
  | p :: r, h => by
    have a := (h p List.mem_cons_self).2
    have b := flat_len (P := r) fun x hx => h x (List.mem_cons_of_mem _ hx)
    show (p ++ 10 :: flatN r).length ≤ 51 * (r.length + 1)
    rw [List.length_append, List.length_cons]
    omega
theorem okL_rep {l : List Nat} {k : Int} (h1 : l.length = 1) (hl : ∀ c ∈ l, 32 ≤ c ∧ c ≤ 126) (hk : k ≤ 50) : okL (repL l k) := by
  refine ⟨fun c hc => ?_, ?_⟩
  · obtain ⟨x, hx, hc⟩ := List.mem_flatten.mp hc
    rw [List.eq_of_mem_replicate hx] at hc
    exact hl c hc
  · unfold repL
    rw [PyProof.Rows.lm_len_rep_flat, h1]
    omega
end TR
/-! the array of generators never shrinks -/
namespace GX
open PySem PySem.Spec PyProof.Rows L2 GxR

theorem runs_gens_le {M : Model} {Γ : PySem.Ctx} {p : Pos} {t : Sem Fin} {fs : List Frame} {s s' : Shared} {e : End} (h : Runs M Γ p t fs s e s') : s.gens.size ≤ s'.gens.size := by
  induction h <;> (try simp only [Shared.setGen, Array.size_push, Array.size_setIfInBounds] at *) <;> omega

theorem wakes_gens_le {M : Model} {Γ : PySem.Ctx} {p : Pos} {g : Nat} {r : Resume} {s s' : Shared} {res : GenResult} (h : Wakes M Γ p g r s res s') : s.gens.size ≤ s'.gens.size := by
  have sz : ∀ (z : Shared) x, (z.setGen g x).gens.size = z.gens.size := fun z x => by simp [Shared.setGen]
  unfold Wakes at h
  split at h
  · exact h.elim
  · split at h
    · obtain ⟨e₁, s₁, hr, _, _, rfl⟩ := h
      rw [sz]; exact (sz s .running) ▸ runs_gens_le hr
    · obtain ⟨_, rfl⟩ := h; first | exact Nat.le_refl _ | (rw [sz]; exact Nat.le_refl _)
    · obtain ⟨_, rfl⟩ := h; first | exact Nat.le_refl _ | (rw [sz]; exact Nat.le_refl _)
  · obtain ⟨e₁, s₁, hr, _, _, rfl⟩ := h
    rw [sz]; exact (sz s .running) ▸ runs_gens_le hr
  · obtain ⟨_, rfl⟩ := h; exact Nat.le_refl _
  · obtain ⟨_, rfl⟩ := h; exact Nat.le_refl _

theorem wp_gens {α : Type} (M : Model) (Γ : PySem.Ctx) (n : Nat) (t : Sem α) : ∀ (Q : α → Pos → Shared → Prop) (E : Value → Pos → Shared → Prop) (p : Pos) (s : Shared), n ≤ s.gens.size → Sem.wp M Γ t Q E p s →
    Sem.wp M Γ t (fun a p' s' => n ≤ s'.gens.size ∧ Q a p' s') (fun e p' s' => n ≤ s'.gens.size ∧ E e p' s') p s := by
  induction t with
  | pure a => intro Q E p s hn h; exact ⟨hn, h⟩
  | raise e => intro Q E p s hn h; exact ⟨hn, h⟩
  | unsupported _ => intro Q E p s _ h; exact h
  | finish _ => intro Q E p s _ h; exact h
  | rule _ k ih => intro Q E p s hn h; exact ih () Q E p s hn h
  | «at» p' k ih => intro Q E p s hn h; exact ih () Q E p' s hn h
  | load a _ k ih => intro Q E p s hn h; obtain ⟨o, ho, h⟩ := h; exact ⟨o, ho, ih o Q E p s hn h⟩
  | update a _ f k ih => intro Q E p s hn h; exact ⟨h.1, ih () Q E p _ hn h.2⟩
  | loadIfAlive a k ih => intro Q E p s hn h; exact ih _ Q E p s hn h
  | point _ k ih => intro Q E p s hn h; exact ih () Q E p s hn h
  | register _ _ => intro Q E p s _ h; exact h
  | alloc o k ih => intro Q E p s hn h; exact ih _ Q E p _ hn h
  | fresh k ih => intro Q E p s hn h; exact ih _ Q E p _ hn h
  | ask k ih => intro Q E p s hn h; exact ih _ Q E p s hn h
  | choose src m k ih => intro Q E p s hn h; exact ⟨h.1, ih _ Q E p _ hn h.2⟩
  | os q _ k ih => intro Q E p s hn h; exact ih _ Q E p _ hn h
  | call c hd _ _ k ih => intro Q E p s hn h; obtain ⟨r, s', hr, h⟩ := h; exact ⟨r, s', hr, ih r Q E p s' (Nat.le_trans hn (runs_gens_le hr)) h⟩
  | handled own k ih => intro Q E p s hn h; exact ih _ Q E p s hn h
  | genState g k ih => intro Q E p s hn h; obtain ⟨st, hs, h⟩ := h; exact ⟨st, hs, ih _ Q E p s hn h⟩
  | newGen c k ih => intro Q E p s hn h; exact ih _ Q E p _ (by show n ≤ (s.gens.push _).size; rw [Array.size_push]; exact Nat.le_succ_of_le hn) h
  | resume g r _ k ih => intro Q E p s hn h; obtain ⟨res, s', hw, h⟩ := h; exact ⟨res, s', hw, ih res Q E p s' (Nat.le_trans hn (wakes_gens_le hw)) h⟩
  | yield _ _ _ _ => intro Q E p s _ h; exact h
  | stack k ih => intro Q E p s hn h; exact ih _ Q E p s hn h
  | fork _ _ => intro Q E p s _ h; exact h
  | thread k ih => intro Q E p s hn h; exact ih _ Q E p s hn h
  | await _ _ _ _ _ => intro Q E p s _ h; exact h

theorem wpAny_with_gens {α : Type} {M : Model} {A : Around} {s : Shared} {t : Sem α} {Q : α → Shared → Prop} {E : Value → Shared → Prop} {n : Nat} (hn : n ≤ s.gens.size)
    (h : wpAny M A t (fun a s' => n ≤ s'.gens.size → Q a s') (fun e s' => n ≤ s'.gens.size → E e s') s) : wpAny M A t Q E s :=
  wpAny_mono (Q := fun a s' => n ≤ s'.gens.size ∧ (n ≤ s'.gens.size → Q a s')) (E := fun e s' => n ≤ s'.gens.size ∧ (n ≤ s'.gens.size → E e s')) (fun Γ p hΓ => wp_gens M Γ n t _ _ p s hn (h Γ p hΓ)) (fun _ _ x => x.2 x.1) (fun _ _ x => x.2 x.1)

/-- the invariant speaks of the heap; the generators' array is bare -/
theorem inv_heap {X : Cx} {pins : List (Addr × Obj)} {σ : L2.St} {H : Hp} {s s' : Shared} (I : Inv X pins σ H s) (h : s'.heap = s.heap) (ho : s'.os = s.os) (hb : AllBare s'.gens) : Inv X pins σ H s' := by
  obtain ⟨h1, g1, d1, t1, o1⟩ := s
  obtain ⟨h2, g2, d2, t2, o2⟩ := s'
  obtain rfl : h2 = h1 := h
  obtain rfl : o2 = o1 := ho
  exact ⟨I.ok, I.os, hb, I.base, I.loc, I.cell, I.free, I.freeC, I.pin, I.hok, I.len⟩
theorem bare_set {s : Shared} {g : Nat} {x : GenState} (h : AllBare s.gens) (hx : x.bare = true) : AllBare (s.setGen g x).gens := by
  intro y hy
  have hy : y ∈ s.gens.setIfInBounds g x := hy
  obtain ⟨i, hi, e⟩ := Array.mem_iff_getElem.mp hy
  have hi2 : i < s.gens.size := by simpa using hi
  rw [Array.getElem_setIfInBounds hi2] at e
  split at e
  · rw [← e]; exact hx
  · rw [← e]; exact h _ (Array.getElem_mem _)
end GX
namespace GX
open PySem PySem.Spec PyProof.Rows L2 GxR

/-- the context of a generator's body -/
abbrev gCx (X : Cx) (s : Shared) (H : Hp) (ce : Env) (fp : List Addr) (A' : Around) : Cx := { X with s_0 := s, H_0 := H, env := ce, outer := X.stack, stack := ce :: X.stack, ex := fp, fn := fun _ => false, pn := [], xe := fun _ _ => False, A := A' }

section
variable {X : Cx} {pins : List (Addr × Obj)} {σ : L2.St} {H : Hp} {s : Shared}
theorem gen_start {scope : Scope} {own : List (Str × Nat)} {fp : List Addr} {code : Value} {ce : Env} {a : Addr} {go : Obj} {A' : Around} {s' : Shared} {m : Str → Option Value} (I : Inv X pins σ H s) (ok : BlkOk X.N X.env.scope scope own) (nc : ∀ y ∈ scope.names, y.2 ≠ .cell)
    (hN : X.N.Nodup) (hfp : ∀ b ∈ fp, FpOk X pins H b ∧ b < s.heap.objs.size) (hd : X.calm = true → A'.handled = none) (hfr : A'.frames = some (ce :: X.stack))
    (hce : ce = genEnv scope (cloFrom X.env.cells scope.names []) s.heap.objs.size code builtinsNs X.env) (kp : ∀ b o, s.heap.get? b = some o → s'.heap.get? b = some o) (hns : s'.heap.Ns s.heap.objs.size m)
    (hgo : s'.heap.get? a = some go) (hga : s.heap.objs.size < a) (hgd : ∀ v, go.data ≠ .cell v) (hos : s'.os = s.os) (hb : AllBare s'.gens) :
    Inv (gCx X s H ce fp A') [(a, go)] (wipe σ (own.map (·.2))) H s' := by
  have hfree : ∀ y ∈ scope.names, y.2 = .free → ∃ c, X.env.cells.lookup y.1 = some c := fun y hy e => by
    rcases ok.free y hy e with k | k
    · exact I.ok.has _ (.inl k)
    · exact I.ok.has _ (.inr k)
  have hL : ce.locals = s.heap.objs.size := by rw [hce]; rfl
  have hcl : ce.cells = cloFrom X.env.cells scope.names [] := by rw [hce]; rfl
  have hsc : ce.scope = scope := by rw [hce]; rfl
  have hfm : ce.frame = some ce.locals := by rw [hce]; rfl
  have cm : ∀ {y c}, ce.cells.lookup y = some c → X.env.cells.lookup y = some c ∧ c < s.heap.objs.size := fun {y c} e => by
    rw [hcl] at e
    rcases cloFrom_mem (PySem.mem_of_lookup e) with hm | ⟨h1, rfl⟩
    · cases hm
    · obtain ⟨c, hc⟩ := hfree _ h1 rfl
      rw [hc]
      obtain ⟨w, z⟩ := I.cell _ _ hc
      exact ⟨rfl, z.lt⟩
  have look : ∀ {y}, scope.names.lookup y = some .free → ∃ c, ce.cells.lookup y = some c ∧ X.env.cells.lookup y = some c := fun {y} hl => by
    have hy : (y, NameKind.free) ∈ scope.names := PySem.mem_of_lookup hl
    obtain ⟨c', e'⟩ := mem_lookup (cloFrom_has (cells := X.env.cells) (acc := []) hy)
    rw [← hcl] at e'
    exact ⟨c', e', (cm e').1⟩
  have stk : ∀ b ∈ frs X.stack, b < s.heap.objs.size := fun b hb => by
    obtain ⟨_, o, ho, _⟩ := I.stack.mem hb
    exact Heap.lt_size ho
  have okB : (gCx X s H ce fp A').Ok := by
    refine ⟨I.ok.mod, by show ce.scope.kind = _; rw [hsc]; exact ok.kind, by show ce.globals = _; rw [hce]; exact I.ok.glob, by show ce.builtins = _; rw [hce]; rfl, by show s.heap.objs.size ≤ ce.locals; rw [hL]; exact Nat.le_refl _,
      fun y z c e1 e2 => I.ok.inj y z c (cm e1).1 (cm e2).1, fun y hy => ?_, fun y c z e => (by cases z), hd, hfr, .inr ⟨rfl, hfm⟩, fun b hb => ⟨?_, fun y c e z => (hfp b hb).1.2.2.2.2.1 y c (cm e).1 z⟩, I.bs, Nat.le_trans I.ok.bsz I.sz, fun b o e hb => ?_, fun b hb z => ?_, I.stack, I.stkFree⟩
    · show ∃ c, ce.cells.lookup y = some c
      have hy : ce.scope.names.lookup y = some .cell ∨ ce.scope.names.lookup y = some .free := hy
      rw [hsc] at hy
      rcases hy with hy | hy
      · exact absurd rfl (nc _ (PySem.mem_of_lookup hy))
      · obtain ⟨c, h1, _⟩ := look hy
        exact ⟨c, h1⟩
    · show b ≠ ce.locals
      rw [hL]; exact Nat.ne_of_lt (hfp b hb).2
    · rcases (hfp b hb).1.2.2.2.1 with z | z
      · exact I.ok.noex b o e z
      · exact absurd (Nat.lt_of_lt_of_le (Heap.lt_size e) (Nat.le_trans I.ok.bsz z)) (Nat.lt_irrefl _)
    · rcases List.mem_cons.mp (I.stkSub b z) with z | z
      · exact (hfp b hb).1.2.1 z
      · exact (hfp b hb).1.2.2.1 z
  refine ⟨okB, hos, hb, Un.kept kp, ⟨m, ?_, fun i y av e1 e2 e3 => ?_⟩, fun y c e => ?_, ?_, fun y c e => I.freeC y c (cm e).1, fun p hp => ?_, I.hok.kept kp, by rw [wipe_length]; exact I.len⟩
  · show Heap.Ns _ ce.locals _
    rw [hL]
    exact hns
  · obtain ⟨e2, hne⟩ := wipe_some e2
    have e3 : Vis ce.scope y := e3
    rw [hsc] at e3
    have no : ∀ k, scope.names.lookup y = some k → ¬ (k = .local ∨ k = .cell) := fun k e hh => by
      rcases ok.own _ (PySem.mem_of_lookup e) hh with e' | e'
      · obtain ⟨p, hp, hpy⟩ := List.mem_map.mp e'
        have e3 := ok.ix p hp
        have : p.1 = y := hpy
        rw [this] at e3
        exact hne (List.mem_map.mpr ⟨p, hp, nodup_ix hN e3 e1⟩)
      · exact e' (List.mem_of_getElem? e1)
    have hfr : scope.names.lookup y = some .free := by
      rcases e3 with e3 | e3 | e3
      · exact absurd (.inl rfl) (no _ e3)
      · exact absurd (.inr rfl) (no _ e3)
      · exact e3
    obtain ⟨m, hn, hl⟩ := I.loc
    have hvis : Vis X.env.scope y := (ok.free _ (PySem.mem_of_lookup hfr) rfl).elim (fun k => .inr (.inl k)) (fun k => .inr (.inr k))
    obtain ⟨w, r, q⟩ := hl i y av e1 e2 hvis
    obtain ⟨c, h1, h2⟩ := look hfr
    refine ⟨w, r, .inr ⟨.inr (show ce.scope.names.lookup y = _ by rw [hsc]; exact hfr), c, h1, ?_⟩⟩
    rcases q with ⟨k, _⟩ | ⟨_, c', e', z⟩
    · have k : X.env.scope.names.lookup y = some .local := k
      rcases ok.free _ (PySem.mem_of_lookup hfr) rfl with k' | k' <;> rw [show X.env.scope.names.lookup y = _ from k'] at k <;> cases k
    · rw [h2] at e'; cases e'
      exact z.keeps kp
  · obtain ⟨w, z⟩ := I.cell y c (cm e).1
    exact ⟨w, z.keeps kp⟩
  · show H ce.locals = none
    rw [hL]; exact I.hok.fresh (Nat.le_refl _)
  · have hp : p ∈ [] ++ [(a, go)] := hp
    have e : p = (a, go) := by simpa using hp
    subst e
    refine ⟨hgo, I.hok.fresh (Nat.le_of_lt hga), ?_, fun z => ?_, hgd⟩
    · show a ≠ ce.locals
      rw [hL]; exact Nat.ne_of_gt hga
    · exact absurd (Nat.lt_trans (stk a z) hga) (Nat.lt_irrefl _)
end

/-- what is wanted of a walk: W by the turn and a measure; d: the item that ends it -/
def Wk (d : Bool) (J : It) (g : TG) (tt : TT) (te : TE) (vs : List Nat) (σ : L2.St) (W : Nat → Nat → Hp → Prop) (Qe Qd : Hp → Prop) : Prop := ∀ i m H, W i m H →
  (J.stop i H ∧ Qe H) ∨ (J.go i H ∧ ∃ Nx : Hp → Prop, (∀ H', Nx H' → ∃ m', m' < m ∧ W (i + 1) m' H') ∧ ∀ x H', J.yld i H x H' → g x (wipe σ vs) H' fun σ2 H2 => wipe σ2 vs = wipe σ vs ∧ tt σ2 H2 fun b H3 =>
    if b = true then te σ2 H3 fun y H4 => ∃ c, y = .bl c ∧ if c = d then Qd H4 else Nx H4 else Nx H3)

section
variable {Y : Cx} {A : Around} {σ : L2.St} {vs : List Nat} {a : Addr} {go : Obj}
def YE (Y : Cx) (a : Addr) (go : Obj) (ws : L2.St) (Qe : Hp → Prop) (s : Shared) : Prop := ∃ H, Inv Y [(a, go)] ws H s ∧ Qe H
def YP (d : Bool) (Y : Cx) (a : Addr) (go : Obj) (ws : L2.St) (Qd : Hp → Prop) : Protocol := fun _ _ v s kap =>
  ∃ c H, v = .bool c ∧ Inv Y [(a, go)] ws H s ∧ if c = d then Qd H else ∀ s'' : Shared, s''.heap = s.heap → s''.os = s.os → AllBare s''.gens → kap (.send .none) s''
abbrev YR (Y : Cx) (a : Addr) (go : Obj) (ws : L2.St) (Qe : Hp → Prop) : GenEnd := fun n s₀ r s₁ => r = .ok .next ∧ (fun (_ : Nat) (_ s₁ : Shared) => YE Y a go ws Qe s₁) n s₀ s₁

theorem seg_gl {d : Bool} {tg elt iter : Expr} {ifs : List Expr} {scope : Scope} {pos : Pos} {it : Addr} {fp : List Addr} {tn : Nat → Heap → Prop} {J : It} {g : TG} {tt : TT} {te : TE} {W : Nat → Nat → Hp → Prop} {Qe Qd : Hp → Prop}
    (hA : Y.A = A.over (.compLoop (.GeneratorExp elt [⟨tg, iter, ifs, 0⟩] scope pos) 0 (.ref it) .none Y.env) []) (hc : Y.calm = true) (hco : Y.env.scope.isCoroutine = false) (T : Turn Y.prog Y.w Y.K tg J fp it tn)
    (hx : Y.ex = fp) (hpn : Y.pn = []) (hafp : a ∉ fp) (pg : PG Y tg g) (pt : PTs Y ifs tt) (pe : PE Y elt te) (hW : Wk d J g tt te vs σ W Qe Qd) (hxe : Y.xe = fun _ _ => False) :
    ∀ (m n : Nat), m < n → ∀ (i : Nat) (H : Hp) (s₀ s : Shared), Inv Y [(a, go)] (wipe σ vs) H s → tn i s.heap → (∀ b ∈ fp, H b = none) → W i m H →
      Seg (model Y.prog Y.w) A (YR Y a go (wipe σ vs) Qe) (YP d Y a go (wipe σ vs) Qd) n s₀
        (.compLoop (.GeneratorExp elt [⟨tg, iter, ifs, 0⟩] scope pos) 0 (.ref it) .none Y.env)
        ((model Y.prog Y.w).den (.compLoop (.GeneratorExp elt [⟨tg, iter, ifs, 0⟩] scope pos) 0 (.ref it) .none Y.env)) [] s := by
  intro m
  induction m using Nat.strongRecOn with
  | _ m ih =>
  intro n hmn i H s₀ s I st nf w
  have stat : ∀ {ps : List (Addr × Obj)} {σ' : L2.St} {H' : Hp} {s' : Shared}, Inv Y [(a, go)] σ' H' s' → (∀ b ∈ fp, H' b = none) → ∀ b ∈ fp, FpOk Y [(a, go)] H' b := fun {ps σ' H' s'} I' hn b hb =>
    ⟨hn b hb, (I'.ok.exf b (hx ▸ hb)).1, I'.ok.exfs b (hx ▸ hb), .inl (hx ▸ hb), fun x c e => (I'.ok.exf b (hx ▸ hb)).2 x c e, fun p hp => by
      rw [hpn] at hp
      have e : p = (a, go) := by simpa using hp
      rw [e]
      exact fun z => hafp (by rw [show a = b from z]; exact hb)⟩
  show Seg _ A _ _ _ s₀ _ ((compTurn (.GeneratorExp elt [⟨tg, iter, ifs, 0⟩] scope pos) 0 (.ref it) .none Y.env).onRaise (leaving Y.env)) [] s
  rw [compTurn_gen, Sem.onRaise_eq_wrap]
  refine seg_bind_wrap (wpAny_standAt ?_)
  rcases hW i m H w with ⟨stop, qe⟩ | ⟨go1, Nx, hNx, step⟩
  · refine seg_bind_wrap ?_
    rw [← hA]
    refine thnF (T.done Y rfl rfl rfl hc i _ s _ H (fun _ _ => False) I (stat (ps := []) I nf) st stop) fun r s1 ⟨hr, I1⟩ => ?_
    subst hr
    exact seg_end (.ok .next) ⟨rfl, H, I1, qe⟩
  · refine seg_bind_wrap ?_
    rw [← hA]
    refine thnF (T.item Y rfl rfl rfl hc i _ s _ H (fun _ _ => False) I (stat (ps := []) I nf) st go1) fun r s1 ⟨u, hr, h1⟩ => ?_
    subst hr
    refine seg_bind_wrap ?_
    rw [← hA]
    refine thnF h1 fun _ s2 ⟨x, H2, I2, r2, y2, st2, n2⟩ => ?_
    have I2' := I2.pinned (stat (ps := []) I2 n2) (T.obj _ _ st2)
    have pg1 := pg.run _ s2 _ H2 x u _ I2' r2 (step x H2 y2)
    rw [hxe] at pg1
    refine seg_bind_wrap ?_
    rw [← hA]
    refine thnF pg1 fun _ s3 ⟨σ3, H3, I3, hw3, q3⟩ => ?_
    have pt1 := pt.run _ s3 σ3 H3 _ I3 q3
    rw [hxe] at pt1
    refine seg_bind_wrap ?_
    rw [← hA]
    refine thnF pt1 fun b s4 ⟨H4, I4, q4⟩ => ?_
    -- the turn's end
    have fin : ∀ {s' : Shared} {H' : Hp}, Inv Y ([(a, go)] ++ pinsAt fp s2.heap) σ3 H' s' → Inv Y [(a, go)] (wipe σ vs) H' s' ∧ tn (i + 1) s'.heap ∧ (∀ b ∈ fp, H' b = none) := fun {s' H'} I' => by
      have pin' : ∀ b ∈ fp, ∀ o, s2.heap.get? b = some o → s'.heap.get? b = some o ∧ H' b = none := fun b hb o e =>
        let z := I'.pin (b, o) (List.mem_append_right _ (List.mem_append_right _ (mem_pinsAt hb e)))
        ⟨z.1, z.2.1⟩
      have hl : (wipe σ vs).length = σ3.length := by rw [← hw3, wipe_length]
      refine ⟨(I'.unpinned (pins := [(a, go)])).weak hl (fun j v e => ?_), T.keep _ _ _ st2 fun b hb o e => (pin' b hb o e).1, fun b hb => ?_⟩
      · rw [← hw3] at e
        exact (wipe_some e).1
      · obtain ⟨o, e, _⟩ := T.obj _ _ st2 b hb
        exact (pin' b hb o e).2
    cases b with
    | false =>
      simp only [Bool.false_eq_true, if_false] at q4 ⊢
      obtain ⟨m', hm, w'⟩ := hNx H4 q4
      obtain ⟨J1, J2, J3⟩ := fin I4
      exact seg_again rfl (ih m' hm n (by omega) (i + 1) H4 s₀ s4 J1 J2 J3 w')
    | true =>
      simp only [if_true] at q4 ⊢
      have hy : ∀ v, yieldOut Y.env v = yieldValue v := fun v => by simp only [yieldOut, hco, Bool.false_eq_true, if_false]
      simp only [hy]
      have pe1 := pe.run _ s4 σ3 H4 _ I4 q4
      rw [hxe] at pe1
      rw [Sem.bind_eq_wrap', Sem.bind_eq_wrap', Sem.wrap_wrap, Sem.wrap_wrap]
      refine seg_wrap ?_
      rw [← hA]
      refine thnF pe1 fun z s5 ⟨y, H5, I5, r5, c, ec, q5⟩ => ?_
      subst ec
      cases r5
      obtain ⟨J1, J2, J3⟩ := fin I5
      by_cases hcd : c = d
      · rw [if_pos hcd] at q5
        obtain ⟨n, rfl⟩ : ∃ k, n = k + 1 := ⟨n - 1, by omega⟩
        exact seg_at (seg_yield rfl rfl rfl ⟨c, H5, rfl, J1, by rw [if_pos hcd]; exact q5⟩)
      · rw [if_neg hcd] at q5
        obtain ⟨m', hm, w'⟩ := hNx H5 q5
        obtain ⟨n, rfl⟩ : ∃ k, n = k + 1 := ⟨n - 1, by omega⟩
        refine seg_at (seg_yield rfl rfl rfl ⟨c, H5, rfl, J1, ?_⟩)
        rw [if_neg hcd]
        intro s'' h1 h2 h3
        exact seg_again rfl (ih m' hm n (by omega) (i + 1) H5 s'' s'' (inv_heap J1 h1 h2 h3) (by rw [h1]; exact J2) J3 w')
end
end GX
namespace GX
open PySem PySem.Spec PyProof.Rows L2 GxR

section
variable {Y : Cx} {A : Around} {σ : L2.St} {vs : List Nat} {a : Addr} {go : Obj}
theorem seg_gs {d : Bool} {tg elt iter : Expr} {ifs : List Expr} {scope : Scope} {pos : Pos} {it : Addr} {fp : List Addr} {tn : Nat → Heap → Prop} {J : It} {g : TG} {tt : TT} {te : TE} {W : Nat → Nat → Hp → Prop} {Qe Qd : Hp → Prop}
    (hA : Y.A = A.over (.compLoop (.GeneratorExp elt [⟨tg, iter, ifs, 0⟩] scope pos) 0 (.ref it) .none Y.env) []) (hc : Y.calm = true) (hco : Y.env.scope.isCoroutine = false) (T : Turn Y.prog Y.w Y.K tg J fp it tn)
    (hx : Y.ex = fp) (hpn : Y.pn = []) (hafp : a ∉ fp) (pg : PG Y tg g) (pt : PTs Y ifs tt) (pe : PE Y elt te) (hW : Wk d J g tt te vs σ W Qe Qd) (hxe : Y.xe = fun _ _ => False)
    (m : Nat) (H : Hp) (s₀ s : Shared) (I : Inv Y [(a, go)] (wipe σ vs) H s) (st : tn 0 s.heap) (nf : ∀ b ∈ fp, H b = none) (w : W 0 m H) :
      Seg (model Y.prog Y.w) A (YR Y a go (wipe σ vs) Qe) (YP d Y a go (wipe σ vs) Qd) (m + 1) s₀
        (.compStart (.GeneratorExp elt [⟨tg, iter, ifs, 0⟩] scope pos) 0 (.ref it) .none Y.env)
        ((model Y.prog Y.w).den (.compStart (.GeneratorExp elt [⟨tg, iter, ifs, 0⟩] scope pos) 0 (.ref it) .none Y.env)) [] s := by
  have loop := seg_gl (iter := iter) (scope := scope) (pos := pos) hA hc hco T hx hpn hafp pg pt pe hW hxe m (m + 1) (Nat.lt_succ_self m) 0 H s₀ s I st nf w
  show Seg _ A _ _ _ s₀ _ ((compStart (.GeneratorExp elt [⟨tg, iter, ifs, 0⟩] scope pos) 0 (.ref it) .none Y.env).onRaise (leaving Y.env)) [] s
  unfold compStart
  rw [Sem.onRaise_eq_wrap]
  show Seg _ A _ _ _ s₀ _ ((ask >>= _).wrap _ _ _ _) [] s
  refine seg_bind_wrap (wpAny_askSetting ?_)
  split
  · exact seg_again rfl loop
  · first
      | exact seg_bind_wrap (wpAny_rule (seg_bind_wrap (wpAny_standAt (seg_bind_wrap (T.self _ 0 s _ _ st (seg_again rfl loop))))))
      | (refine seg_bind_wrap (wpAny_rule ?_); show Seg _ A _ _ _ s₀ _ ((standAt iter.pos >>= _).wrap _ _ _ _) [] s; exact seg_bind_wrap (wpAny_standAt (seg_bind_wrap (T.self _ 0 s _ _ st (seg_again rfl loop)))))

/-- the loop of all(..) -/
theorem loop_all {prog : Program} {w : World} {gn : Nat} {ws : L2.St} {Qe Qd : Hp → Prop} {Rr : Result → Shared → Prop} (hh : A.handled = none) (hroom : A.depth < recursionLimit) (hgo : ∀ h : Heap, h.get? a = some go → h.IsGen a gn)
    (hT : ∀ s₁ h', YE Y a go ws Qe s₁ → (∀ b o, s₁.heap.get? b = some o → h'.get? b = some o) → Rr (.ok (.ret (.bool true))) { s₁.setGen gn .finished with heap := h' })
    (hF : ∀ s₁ gs' H, gs'.bare = true → Inv Y [(a, go)] ws H s₁ → Qd H → Rr (.ok (.ret (.bool false))) (s₁.setGen gn gs')) :
    ∀ (n : Nat) (s : Shared) (gs : GenState), s.heap.get? a = some go → s.heap.NoLimit → AllBare s.gens → s.gens[gn]? = some gs →
      (∀ s'' : Shared, s''.heap = s.heap → s''.os = s.os → AllBare s''.gens → gs.Goes (model prog w) A.in1.in1 (YR Y a go ws Qe) (YP false Y a go ws Qd) n (.send .none) s'') →
      codeAny (model prog w) A (.builtin "all.loop" ⟨[.ref a], []⟩) Rr s := by
  intro n
  induction n with
  | zero =>
    intro s gs hg hl hb hgs hgoes
    refine codeAny_builtin F.entry_all_loop ?_
    rw [Around.under_plainId F.plain_all_loop _]
    show wpAny _ A.in1 (pyNext (.ref a) >>= _) _ _ s
    refine wpAny_bind (wpAny_pyNext_genexpQ (P := fun _ _ s₁ => YE Y a go ws Qe s₁) hh hl hroom (hgo _ hg) hgs (hgoes _ rfl rfl (bare_set hb rfl)) (fun v s₁ gs' hb' hv => ?_) (fun s₁ hp h' hk => ?_))
    · obtain ⟨c, H, rfl, I, q⟩ := hv
      cases c with
      | false =>
        rw [if_pos rfl] at q
        refine wpAny_bind (wpAny_holding (wpAny_truthy_bool (wpAny_bind (wpAny_letGo ?_))))
        refine wpAny_bind (wpAny_rule (wpAny_pure ?_))
        exact hF s₁ gs' H hb' I q
      | true =>
        rw [if_neg (by decide)] at q
        exact (q s₁ rfl rfl I.bare).elim
    · refine wpAny_bind (wpAny_rule (wpAny_pure ?_))
      exact hT s₁ h' hp hk
  | succ n ih =>
    intro s gs hg hl hb hgs hgoes
    have hlt : gn < s.gens.size := by
      rcases Nat.lt_or_ge gn s.gens.size with h' | h'
      · exact h'
      · rw [Array.getElem?_eq_none h'] at hgs; cases hgs
    refine codeAny_builtin F.entry_all_loop ?_
    rw [Around.under_plainId F.plain_all_loop _]
    show wpAny _ A.in1 (pyNext (.ref a) >>= _) _ _ s
    refine wpAny_bind (wpAny_with_gens (Nat.le_refl s.gens.size) (wpAny_pyNext_genexpQ (P := fun _ _ s₁ => YE Y a go ws Qe s₁) hh hl hroom (hgo _ hg) hgs (hgoes _ rfl rfl (bare_set hb rfl)) (fun v s₁ gs' hb' hv => ?_) (fun s₁ hp h' hk => ?_)))
    · intro hsz
      have hsz : s.gens.size ≤ s₁.gens.size := by
        have z : s.gens.size ≤ (s₁.setGen gn gs').gens.size := hsz
        simpa [Shared.setGen] using z
      obtain ⟨c, H, rfl, I, q⟩ := hv
      cases c with
      | false =>
        rw [if_pos rfl] at q
        refine wpAny_bind (wpAny_holding (wpAny_truthy_bool (wpAny_bind (wpAny_letGo ?_))))
        refine wpAny_bind (wpAny_rule (wpAny_pure ?_))
        exact hF s₁ gs' H hb' I q
      | true =>
        rw [if_neg (by decide)] at q
        refine wpAny_bind (wpAny_holding (wpAny_truthy_bool (wpAny_bind (wpAny_letGo ?_))))
        refine wpAny_pure ⟨plainId_quiet F.plain_all_loop _, ih (s₁.setGen gn gs') gs' ?_ ?_ (bare_set I.bare hb') ?_ fun s'' h1 h2 h3 => q s'' h1 h2 h3⟩
        · exact (I.pin (a, go) (List.mem_append_right _ (List.mem_singleton.mpr rfl))).1
        · exact I.nolimit
        · show (s₁.gens.setIfInBounds gn gs')[gn]? = some gs'
          rw [Array.getElem?_setIfInBounds_self_of_lt (Nat.lt_of_lt_of_le hlt hsz)]
    · intro _
      refine wpAny_bind (wpAny_rule (wpAny_pure ?_))
      exact hT s₁ h' hp hk

/-- the loop of any(..) -/
theorem loop_any {prog : Program} {w : World} {gn : Nat} {ws : L2.St} {Qe Qd : Hp → Prop} {Rr : Result → Shared → Prop} (hh : A.handled = none) (hroom : A.depth < recursionLimit) (hgo : ∀ h : Heap, h.get? a = some go → h.IsGen a gn)
    (hT : ∀ s₁ h', YE Y a go ws Qe s₁ → (∀ b o, s₁.heap.get? b = some o → h'.get? b = some o) → Rr (.ok (.ret (.bool false))) { s₁.setGen gn .finished with heap := h' })
    (hF : ∀ s₁ gs' H, gs'.bare = true → Inv Y [(a, go)] ws H s₁ → Qd H → Rr (.ok (.ret (.bool true))) (s₁.setGen gn gs')) :
    ∀ (n : Nat) (s : Shared) (gs : GenState), s.heap.get? a = some go → s.heap.NoLimit → AllBare s.gens → s.gens[gn]? = some gs →
      (∀ s'' : Shared, s''.heap = s.heap → s''.os = s.os → AllBare s''.gens → gs.Goes (model prog w) A.in1.in1 (YR Y a go ws Qe) (YP true Y a go ws Qd) n (.send .none) s'') →
      codeAny (model prog w) A (.builtin "any.loop" ⟨[.ref a], []⟩) Rr s := by
  intro n
  induction n with
  | zero =>
    intro s gs hg hl hb hgs hgoes
    refine codeAny_builtin F.entry_any_loop ?_
    rw [Around.under_plainId F.plain_any_loop _]
    show wpAny _ A.in1 (pyNext (.ref a) >>= _) _ _ s
    refine wpAny_bind (wpAny_pyNext_genexpQ (P := fun _ _ s₁ => YE Y a go ws Qe s₁) hh hl hroom (hgo _ hg) hgs (hgoes _ rfl rfl (bare_set hb rfl)) (fun v s₁ gs' hb' hv => ?_) (fun s₁ hp h' hk => ?_))
    · obtain ⟨c, H, rfl, I, q⟩ := hv
      cases c with
      | true =>
        rw [if_pos rfl] at q
        refine wpAny_bind (wpAny_holding (wpAny_truthy_bool (wpAny_bind (wpAny_letGo ?_))))
        refine wpAny_bind (wpAny_rule (wpAny_pure ?_))
        exact hF s₁ gs' H hb' I q
      | false =>
        rw [if_neg (by decide)] at q
        exact (q s₁ rfl rfl I.bare).elim
    · refine wpAny_bind (wpAny_rule (wpAny_pure ?_))
      exact hT s₁ h' hp hk
  | succ n ih =>
    intro s gs hg hl hb hgs hgoes
    have hlt : gn < s.gens.size := by
      rcases Nat.lt_or_ge gn s.gens.size with h' | h'
      · exact h'
      · rw [Array.getElem?_eq_none h'] at hgs; cases hgs
    refine codeAny_builtin F.entry_any_loop ?_
    rw [Around.under_plainId F.plain_any_loop _]
    show wpAny _ A.in1 (pyNext (.ref a) >>= _) _ _ s
    refine wpAny_bind (wpAny_with_gens (Nat.le_refl s.gens.size) (wpAny_pyNext_genexpQ (P := fun _ _ s₁ => YE Y a go ws Qe s₁) hh hl hroom (hgo _ hg) hgs (hgoes _ rfl rfl (bare_set hb rfl)) (fun v s₁ gs' hb' hv => ?_) (fun s₁ hp h' hk => ?_)))
    · intro hsz
      have hsz : s.gens.size ≤ s₁.gens.size := by
        have z : s.gens.size ≤ (s₁.setGen gn gs').gens.size := hsz
        simpa [Shared.setGen] using z
      obtain ⟨c, H, rfl, I, q⟩ := hv
      cases c with
      | true =>
        rw [if_pos rfl] at q
        refine wpAny_bind (wpAny_holding (wpAny_truthy_bool (wpAny_bind (wpAny_letGo ?_))))
        refine wpAny_bind (wpAny_rule (wpAny_pure ?_))
        exact hF s₁ gs' H hb' I q
      | false =>
        rw [if_neg (by decide)] at q
        refine wpAny_bind (wpAny_holding (wpAny_truthy_bool (wpAny_bind (wpAny_letGo ?_))))
        refine wpAny_pure ⟨plainId_quiet F.plain_any_loop _, ih (s₁.setGen gn gs') gs' ?_ ?_ (bare_set I.bare hb') ?_ fun s'' h1 h2 h3 => q s'' h1 h2 h3⟩
        · exact (I.pin (a, go) (List.mem_append_right _ (List.mem_singleton.mpr rfl))).1
        · exact I.nolimit
        · show (s₁.gens.setIfInBounds gn gs')[gn]? = some gs'
          rw [Array.getElem?_setIfInBounds_self_of_lt (Nat.lt_of_lt_of_le hlt hsz)]
    · intro _
      refine wpAny_bind (wpAny_rule (wpAny_pure ?_))
      exact hT s₁ h' hp hk
end

theorem room_over {k : Nat} {A : Around} {elt : Expr} {gs : List Comprehension} {scope : Scope} {pos : Pos} {it acc : Value} {ce : Env} (hr : Room (k + 1) A) : Room k (A.in1.in1.over (.compLoop (.GeneratorExp elt gs scope pos) 0 it acc ce) []) := by
  have h1 := hr.hd
  have h2 := hr.dp
  have h3 := hr.un
  have w : (Code.compLoop (.GeneratorExp elt gs scope pos) 0 it acc ce).weight = 1 := rfl
  have u : (Code.compLoop (.GeneratorExp elt gs scope pos) 0 it acc ce).cUnits = 3 := rfl
  refine ⟨h1, ?_, ?_⟩
  · show A.depth + 0 + _ + 3 * k + 5 < _
    rw [w]; omega
  · show A.units + 1 + 1 + 0 + _ + 16 * k + 200 < _
    rw [u]; omega
theorem frames_over {A : Around} {elt : Expr} {gs : List Comprehension} {scope : Scope} {pos : Pos} {it acc : Value} {ce : Env} {l : List Env} (hf : A.frames = some l) : (A.in1.in1.over (.compLoop (.GeneratorExp elt gs scope pos) 0 it acc ce) []).frames = some (ce :: l) := by
  show pushEnvs [ce] (pushEnvs [] A.frames) = _
  rw [hf]; rfl
end GX
namespace GX
open PySem PySem.Spec PyProof.Rows L2 GxR

/-- a generator expression's names, code, table -/
structure GenX (X : Cx) (scope : Scope) (own : List (Str × Nat)) (c P : Addr) : Prop where
  ok : BlkOk X.N X.env.scope scope own
  nc : ∀ y ∈ scope.names, y.2 ≠ .cell
  co : scope.isCoroutine = false
  dot : scope.names.lookup (".0" : Str) = some NameKind.local
  tb : TabB X.base X.mg c P
  code : X.env.code = .ref c

abbrev gEnv (X : Cx) (scope : Scope) (C : Addr) (code : Value) : Env := genEnv scope (cloFrom X.env.cells scope.names []) C code builtinsNs X.env

section
variable {X : Cx} {pins : List (Addr × Obj)} {σ : L2.St} {H : Hp} {s : Shared}
/-- the generator is made -/
def GReady (d : Bool) (X : Cx) (pins : List (Addr × Obj)) (σ : L2.St) (Qe Qd : Hp → Prop) (u : Value) (s5 : Shared) : Prop :=
  ∃ (a : Addr) (gn : Nat) (go : Obj) (Y : Cx) (ws : L2.St) (n : Nat) (gs : GenState), u = .ref a ∧ (∀ h : Heap, h.get? a = some go → h.IsGen a gn) ∧ s5.heap.get? a = some go ∧ s5.heap.NoLimit ∧ AllBare s5.gens ∧ s5.gens[gn]? = some gs ∧
    (∀ s'' : Shared, s''.heap = s5.heap → s''.os = s5.os → AllBare s''.gens → gs.Goes (model X.prog X.w) X.A.in1.in1 (YR Y a go ws Qe) (YP d Y a go ws Qd) n (.send .none) s'') ∧
    (∀ s₁ H s', Inv Y [(a, go)] ws H s₁ → s'.os = s₁.os → (∀ b o, s₁.heap.get? b = some o → s'.heap.get? b = some o) → AllBare s'.gens → Inv X pins σ H s')

theorem gen_makeG {d : Bool} {tg elt iter : Expr} {ifs : List Expr} {scope : Scope} {own : List (Str × Nat)} {gpos : Pos} {c P : Addr} {wi : TI} {g : TG} {tt : TT} {te : TE} {k : Nat} {Qe Qd : Hp → Prop}
    (hr : Room (k + 1) X.A) (hc : X.calm = true) (hN : X.N.Nodup) (G : GenX X scope own c P) (hs : ∀ v, genFold iter X.env v = pure v) (hi : PI X tg iter wi)
    (hg : ∀ (s : Shared) (H : Hp) (C : Addr) (code : Value) (fp : List Addr) (A' : Around), Room k A' → PG (gCx X s H (gEnv X scope C code) fp A') tg g)
    (ht : ∀ (s : Shared) (H : Hp) (C : Addr) (code : Value) (fp : List Addr) (A' : Around), Room k A' → PTs (gCx X s H (gEnv X scope C code) fp A') ifs tt)
    (he : ∀ (s : Shared) (H : Hp) (C : Addr) (code : Value) (fp : List Addr) (A' : Around), Room k A' → PE (gCx X s H (gEnv X scope C code) fp A') elt te)
    (I : Inv X pins σ H s)
    (h : wi σ H fun J H1 => TabG H1 P ∧ ∀ H2, Tabbed P H1 H2 → ∃ W : Nat → Nat → Hp → Prop, (∃ m, W 0 m H2) ∧ Wk d J g tt te (own.map (·.2)) σ W Qe Qd) :
    wpAny (model X.prog X.w) X.A (eval (.GeneratorExp elt [⟨tg, iter, ifs, 0⟩] scope gpos) X.env) (GReady d X pins σ Qe Qd) X.xe s := by
  have ok := G.ok
  have hfree : ∀ y ∈ scope.names, y.2 = .free → ∃ c, X.env.cells.lookup y.1 = some c := fun y hy e => by
    rcases ok.free y hy e with k | k
    · exact I.ok.has _ (.inl k)
    · exact I.ok.has _ (.inr k)
  have dp := hr.dp
  refine wpAny_GeneratorExp_make G.co (closure_ok hfree) G.nc G.dot ok.kind (by omega) (thn (hi.run pins s σ H _ I h) fun xv s1 hx => thn hx fun itv s2 h2 => ?_) hs
  obtain ⟨it, fp, tn, J, H1, e, I1, T, st1, f1, ⟨ps, hP, hps⟩, q⟩ := h2
  subst e
  refine ⟨I1.nolimit, ?_⟩
  have tb0 : s2.heap.get? P = some { cls := .none, data := .fields ps } := I1.hok P _ hP
  have code1 : PySem.W.CodeHd s2.heap c P := G.tb.code.keeps fun b o e => I1.bk b o e
  have rest : ∀ (code : Value) (h3 : Heap) (tk : Nat) (ps3 : Array Value), Heap.ExtBut P s2.heap h3 → s2.heap.objs.size ≤ h3.objs.size → h3.get? P = some { cls := .none, data := .fields ps3 } →
      (∃ q, ps3 = ps ++ q) → TriplesOk ps3.toList →
      wpAny (model X.prog X.w) X.A (builtinsFor X.env.globals X.env.builtins) (fun bi s4 => ∀ h', h'.Ns s4.heap.objs.size (fun y => if y = ".0" then some (Value.ref it) else none) → Heap.SameBut s4.heap.objs.size (s4.heap.push { cls := .type "frame", data := .dict #[] }) h' →
          GReady d X pins σ Qe Qd (.ref h'.objs.size) { s4 with
            gens := s4.gens.push (.fresh (.compStart (.GeneratorExp elt [⟨tg, iter, ifs, 0⟩] scope gpos) 0 (.ref it) .none (genEnv scope (cloFrom X.env.cells scope.names []) s4.heap.objs.size code bi X.env))),
            toks := s4.toks + 1 + 1 + 1,
            heap := h'.push { cls := .type "generator", data := .fields #[.int s4.gens.size 0, .str "<genexpr>" (s4.toks + 1), .str (X.env.qual ++ "<genexpr>") (s4.toks + 1 + 1)] } }) X.xe { s2 with heap := h3, toks := tk } := by
    intro code h3 tk ps3 ext le3 tb3 ⟨qq, hq⟩ ok3
    obtain ⟨bm, om, m1, m2, m3, m4, m5, m6, m7, m8⟩ := G.tb.bm
    have k3 : ∀ b o, b ≠ P → s2.heap.get? b = some o → h3.get? b = some o := fun b o ne e => ext b o ne e
    refine wpAny_builtinsFor (m := X.mg) ?_ m1 m2 (k3 _ _ m4 (I1.bk _ _ m5)) m6 m7 m8 ?_
    · rw [I1.ok.glob]
      exact (I1.mod.glob.keeps I1.bk).extBut ext G.tb.gP
    rw [hq] at tb3
    have I4 : Inv X pins σ (upd H1 P (.tbl (ps ++ qq))) { s2 with heap := h3, toks := tk } := inv_tab (g' := s2.gens) (d' := s2.drawn) (t' := tk) I1 hP k3 tb3 I1.bare
    generalize hH4 : upd H1 P (.tbl (ps ++ qq)) = H4 at I4
    have TbG : Tabbed P H1 H4 := by
      subst hH4
      exact ⟨⟨ps ++ qq, upd_same, by rw [← hq]; exact ok3⟩, fun b ne => upd_ne ne⟩
    have nP : ∀ b ∈ fp, b ≠ P := fun b hb z => by
      have := (f1 b hb).1
      rw [z, hP] at this
      cases this
    have sz : ∀ b ∈ fp, b < s2.heap.objs.size := fun b hb => by
      obtain ⟨o, e, _⟩ := T.obj _ _ st1 b hb
      exact Heap.lt_size e
    have f4 : ∀ b ∈ fp, FpOk X pins H4 b ∧ b < h3.objs.size := fun b hb =>
      ⟨⟨by rw [TbG.2 b (nP b hb)]; exact (f1 b hb).1, (f1 b hb).2⟩, Nat.lt_of_lt_of_le (sz b hb) le3⟩
    have st3 : tn 0 h3 := T.keep _ _ _ st1 fun b hb o e => k3 b o (nP b hb) e
    obtain ⟨W, ⟨m0, w0⟩, hW⟩ := q H4 TbG
    generalize hs4 : ({ s2 with heap := h3, toks := tk } : Shared) = s4 at I4 ⊢
    have hh4 : s4.heap = h3 := by rw [← hs4]
    have f4 : ∀ b ∈ fp, FpOk X pins H4 b ∧ b < s4.heap.objs.size := by rw [hh4]; exact f4
    have st4 : tn 0 s4.heap := by rw [hh4]; exact st3
    intro h' hn' hs'
    have hsz : h'.objs.size = s4.heap.objs.size + 1 := by rw [hs'.1, Heap.size_push]
    have keep' : ∀ b o, s4.heap.get? b = some o → h'.get? b = some o := fun b o e => hs'.extBut b o (Nat.ne_of_lt (Heap.lt_size e)) (Heap.get?_push_of_some _ e)
    generalize hgo : ({ cls := .type "generator", data := .fields #[.int s4.gens.size 0, .str "<genexpr>" (s4.toks + 1), .str (X.env.qual ++ "<genexpr>") (s4.toks + 1 + 1)] } : Obj) = go
    have gog : ∀ h : Heap, h.get? h'.objs.size = some go → h.IsGen h'.objs.size s4.gens.size := fun h e => by
      rw [← hgo] at e
      exact ⟨_, _, _, e, rfl, rfl, rfl⟩
    have keep5 : ∀ b o, s4.heap.get? b = some o → (h'.push go).get? b = some o := fun b o e => Heap.get?_push_of_some _ (keep' b o e)
    have gfree : go.isFreed = false := by rw [← hgo]; rfl
    have hgoAt : (h'.push go).get? h'.objs.size = some go := Heap.get?_push_size _ gfree
    generalize hce : genEnv scope (cloFrom X.env.cells scope.names []) s4.heap.objs.size code builtinsNs X.env = ce
    generalize hA' : X.A.in1.in1.over (.compLoop (.GeneratorExp elt [⟨tg, iter, ifs, 0⟩] scope gpos) 0 (.ref it) .none ce) [] = A'
    have rm : Room k A' := by rw [← hA']; exact room_over hr
    have fr : A'.frames = some (ce :: X.stack) := by rw [← hA']; exact frames_over I1.ok.frames
    have bare5 : ∀ (x : GenState), x.bare = true → AllBare (s4.gens.push x) := fun x hx => I4.bare.push hx
    have I5 : ∀ (gs : Array GenState) (tk5 : Nat), AllBare gs → Inv (gCx X s4 H4 ce fp A') [(h'.objs.size, go)] (wipe σ (own.map (·.2))) H4 { s4 with gens := gs, toks := tk5, heap := h'.push go } := fun gs tk5 hb =>
      gen_start (X := X) (s := s4) (H := H4) (scope := scope) (own := own) (code := code) (m := fun y => if y = ".0" then some (Value.ref it) else none) I4 ok G.nc hN f4 (fun _ => rm.hd) fr hce.symm keep5 (hn'.push _) hgoAt (by rw [hsz]; exact Nat.lt_succ_self _) (fun v z => by rw [← hgo] at z; cases z) rfl hb
    have pg := hg s4 H4 s4.heap.objs.size code fp A' rm
    have pt := ht s4 H4 s4.heap.objs.size code fp A' rm
    have pe := he s4 H4 s4.heap.objs.size code fp A' rm
    have hce' : gEnv X scope s4.heap.objs.size code = ce := hce
    rw [hce'] at pg pt pe
    have cco : ce.scope.isCoroutine = false := by rw [← hce]; exact G.co
    refine ⟨h'.objs.size, s4.gens.size, go, gCx X s4 H4 ce fp A', wipe σ (own.map (·.2)), m0 + 1, _, rfl, gog, hgoAt, I4.nolimit.keeps keep5, bare5 _ rfl, Array.getElem?_push_size .., fun s'' h1 h2 h3' => ⟨rfl, ?_⟩, fun s₁ H' s' I6 ho kk hb => ?_⟩
    · refine seg_gs (Y := gCx X s4 H4 ce fp A') (fp := fp) (tn := tn) (J := J) (W := W) hA'.symm hc cco T rfl rfl (fun z => ?_) pg pt pe hW rfl m0 H4 s'' s'' (inv_heap (I5 (s4.gens.push .finished) 0 (bare5 _ rfl)) h1 h2 h3') ?_ (fun b hb => (f4 b hb).1.1) w0
      · have z2 : h'.objs.size < s4.heap.objs.size := (f4 _ z).2
        rw [hsz] at z2
        exact absurd z2 (by omega)
      · rw [h1]
        exact T.keep _ _ _ st4 fun b _ o e => keep5 b o e
    · exact I4.call' (ch := fp) (ho.trans I6.os) (Un.trans I6.base (Un.kept kk)) (I6.hok.kept kk) hb fun b hb => ⟨(f4 b hb).1.2.2.2.1, (f4 b hb).1.2.1, (f4 b hb).1.2.2.2.2.1, (f4 b hb).1.2.2.2.2.2⟩
  cases hcd : codeAmong gpos ps.toList with
  | some cv =>
    exact wpAny_genexprCode_hit G.code (code1.code tb0 hps) hcd (rest cv _ s2.toks ps (Heap.ExtBut.refl _ _) (Nat.le_refl _) tb0 ⟨#[], (Array.append_empty).symm⟩ hps)
  | none =>
    refine wpAny_genexprCodeX G.code (code1.code tb0 hps) (code1.tab tb0) hcd ?_
    intro c' h' tk ext ge lt isC _ tab' _
    obtain ⟨o1, v1, f1, f2, f3, f4, f5, f6, f7, f8, _, _, _, _, _, _, _, _, _, okT, _⟩ := isC
    exact rest _ h' tk _ ext (Nat.le_trans ge (Nat.le_of_lt lt)) tab'.2 ⟨_, rfl⟩ okT

/-- all(elt for tg in iter if ..), any(..): W by the turn and a measure -/
def tWalk (d : Bool) (P : Addr) (wi : TI) (g : TG) (tt : TT) (te : TE) (vs : List Nat) : TE := fun σ H Q => wi σ H fun J H1 => TabG H1 P ∧ ∀ H2, Tabbed P H1 H2 → ∃ W : Nat → Nat → Hp → Prop, (∃ m, W 0 m H2) ∧
  Wk d J g tt te vs σ W (fun H => Q (.bl (!d)) H) (fun H => Q (.bl d) H)

theorem pe_allG {tg elt iter : Expr} {ifs : List Expr} {scope : Scope} {own : List (Str × Nat)} {gpos p pos : Pos} {c P : Addr} {wi : TI} {g : TG} {tt : TT} {te : TE} {k : Nat}
    (hr : Room (k + 1) X.A) (hc : X.calm = true) (hN : X.N.Nodup) (hgl : Gl X "all") (hm : X.mg "all" = none) (G : GenX X scope own c P) (hi : PI X tg iter wi)
    (hg : ∀ (s : Shared) (H : Hp) (C : Addr) (code : Value) (fp : List Addr) (A' : Around), Room k A' → PG (gCx X s H (gEnv X scope C code) fp A') tg g)
    (ht : ∀ (s : Shared) (H : Hp) (C : Addr) (code : Value) (fp : List Addr) (A' : Around), Room k A' → PTs (gCx X s H (gEnv X scope C code) fp A') ifs tt)
    (he : ∀ (s : Shared) (H : Hp) (C : Addr) (code : Value) (fp : List Addr) (A' : Around), Room k A' → PE (gCx X s H (gEnv X scope C code) fp A') elt te)
    (hs : ∀ v, genFold iter X.env v = pure v)
    (hst : starEach [.GeneratorExp elt [⟨tg, iter, ifs, 0⟩] scope gpos] X.env = (false, eval (.GeneratorExp elt [⟨tg, iter, ifs, 0⟩] scope gpos) X.env) :: starEach [] X.env := by rfl) :
    PE X (.Call (.Name "all" p) [.GeneratorExp elt [⟨tg, iter, ifs, 0⟩] scope gpos] [] pos) (tWalk false P wi g tt te (own.map (·.2))) := by
  refine ⟨fun pins s σ H Q I h => ?_⟩
  refine wpAny_Call_Name_kw (ld_blt I hgl hm (show bootBuiltins "all" = some (.builtin "all") by decide +kernel) ?_)
  refine PyProof.Rows.callWith_builtin1 ?_ hst (by rfl)
  rw [hst]
  have dp := hr.dp
  refine Calls.spliced_cons (thn (gen_makeG (d := false) hr hc hN G hs hi hg ht he I h) fun u s5 R => ?_)
  obtain ⟨a, gn, go, Y, ws, n, gs, rfl, gog, hgo, hl, hb, hgs, goes, back⟩ := R
  refine Calls.spliced_nil (call_function_tree F.kind_all F.plain_all F.entry_all (F.args_all1 _) ?_)
  unfold Builtin.«all»
  refine wpAny_bind (m := oneArg "all" _) (wpAny_pure ?_)
  refine wpAny_bind (wpAny_pyIter_gen (gog _ hgo) (wpAny_pure ⟨plainId_quiet F.plain_all_loop _, loop_all (Y := Y) (go := go) (ws := ws) (Qe := fun H => Q (.bl (!false)) H) (Qd := fun H => Q (.bl false) H) hr.hd (by omega) gog (fun s₁ h' ⟨H', I', q⟩ hk => ?_) (fun s₁ gs' H' hb' I' q => ?_) n s5 gs hgo hl hb hgs goes⟩))
  · exact ⟨.bl false, H', back s₁ H' _ I' rfl (fun _ _ e => e) (bare_set I'.bare hb'), rfl, q⟩
  · exact ⟨.bl true, H', back s₁ H' _ I' rfl hk (bare_set I'.bare rfl), rfl, q⟩

theorem pe_anyG {tg elt iter : Expr} {ifs : List Expr} {scope : Scope} {own : List (Str × Nat)} {gpos p pos : Pos} {c P : Addr} {wi : TI} {g : TG} {tt : TT} {te : TE} {k : Nat}
    (hr : Room (k + 1) X.A) (hc : X.calm = true) (hN : X.N.Nodup) (hgl : Gl X "any") (hm : X.mg "any" = none) (G : GenX X scope own c P) (hi : PI X tg iter wi)
    (hg : ∀ (s : Shared) (H : Hp) (C : Addr) (code : Value) (fp : List Addr) (A' : Around), Room k A' → PG (gCx X s H (gEnv X scope C code) fp A') tg g)
    (ht : ∀ (s : Shared) (H : Hp) (C : Addr) (code : Value) (fp : List Addr) (A' : Around), Room k A' → PTs (gCx X s H (gEnv X scope C code) fp A') ifs tt)
    (he : ∀ (s : Shared) (H : Hp) (C : Addr) (code : Value) (fp : List Addr) (A' : Around), Room k A' → PE (gCx X s H (gEnv X scope C code) fp A') elt te)
    (hs : ∀ v, genFold iter X.env v = pure v)
    (hst : starEach [.GeneratorExp elt [⟨tg, iter, ifs, 0⟩] scope gpos] X.env = (false, eval (.GeneratorExp elt [⟨tg, iter, ifs, 0⟩] scope gpos) X.env) :: starEach [] X.env := by rfl) :
    PE X (.Call (.Name "any" p) [.GeneratorExp elt [⟨tg, iter, ifs, 0⟩] scope gpos] [] pos) (tWalk true P wi g tt te (own.map (·.2))) := by
  refine ⟨fun pins s σ H Q I h => ?_⟩
  refine wpAny_Call_Name_kw (ld_blt I hgl hm (show bootBuiltins "any" = some (.builtin "any") by decide +kernel) ?_)
  refine PyProof.Rows.callWith_builtin1 ?_ hst (by rfl)
  rw [hst]
  have dp := hr.dp
  refine Calls.spliced_cons (thn (gen_makeG (d := true) hr hc hN G hs hi hg ht he I h) fun u s5 R => ?_)
  obtain ⟨a, gn, go, Y, ws, n, gs, rfl, gog, hgo, hl, hb, hgs, goes, back⟩ := R
  refine Calls.spliced_nil (call_function_tree F.kind_any F.plain_any F.entry_any (F.args_any1 _) ?_)
  unfold Builtin.«any»
  refine wpAny_bind (m := oneArg "any" _) (wpAny_pure ?_)
  refine wpAny_bind (wpAny_pyIter_gen (gog _ hgo) (wpAny_pure ⟨plainId_quiet F.plain_any_loop _, loop_any (Y := Y) (go := go) (ws := ws) (Qe := fun H => Q (.bl (!true)) H) (Qd := fun H => Q (.bl true) H) hr.hd (by omega) gog (fun s₁ h' ⟨H', I', q⟩ hk => ?_) (fun s₁ gs' H' hb' I' q => ?_) n s5 gs hgo hl hb hgs goes⟩))
  · exact ⟨.bl true, H', back s₁ H' _ I' rfl (fun _ _ e => e) (bare_set I'.bare hb'), rfl, q⟩
  · exact ⟨.bl false, H', back s₁ H' _ I' rfl hk (bare_set I'.bare rfl), rfl, q⟩
end
end GX
namespace GX
open PySem PySem.Spec PyProof.Rows L2 GxR
/-! the walks of all(..), any(..) by an invariant -/
theorem wk_range {d : Bool} {lo : Int} {n : Nat} {g : TG} {tt : TT} {te : TE} {vs : List Nat} {σ : L2.St} {Qe Qd : Hp → Prop} {H0 : Hp} (Pv : Nat → Hp → Prop) (h0 : Pv 0 H0)
    (hs : ∀ i H, i < n → Pv i H → g (.int (lo + i)) (wipe σ vs) H fun σ2 H2 => wipe σ2 vs = wipe σ vs ∧ tt σ2 H2 fun b H3 =>
      if b = true then te σ2 H3 fun y H4 => ∃ c, y = .bl c ∧ if c = d then Qd H4 else Pv (i + 1) H4 else Pv (i + 1) H3) (hd : ∀ H, Pv n H → Qe H) :
    ∃ W : Nat → Nat → Hp → Prop, (∃ m, W 0 m H0) ∧ Wk d (Itr lo n) g tt te vs σ W Qe Qd := by
  refine ⟨fun i m H => m = n - i ∧ i ≤ n ∧ Pv i H, ⟨n, by simp, Nat.zero_le _, h0⟩, ?_⟩
  rintro i m H ⟨rfl, hi, p⟩
  by_cases hlt : i < n
  · refine .inr ⟨hlt, Pv (i + 1), fun H' p' => ⟨n - (i + 1), by omega, rfl, hlt, p'⟩, fun x H' y => ?_⟩
    obtain ⟨rfl, rfl⟩ := y
    exact hs i _ hlt p
  · have e : i = n := by omega
    subst e
    exact .inl ⟨Nat.le_refl _, hd H p⟩
theorem wk_list {d : Bool} {K : PySem.W.Frag} {a : Addr} {xs : List V} {g : TG} {tt : TT} {te : TE} {vs : List Nat} {σ : L2.St} {Qe Qd : Hp → Prop} {H0 : Hp} (Pv : Nat → Hp → Prop) (h0 : Pv 0 H0) (hl : ∀ i H, i ≤ xs.length → Pv i H → SqL K H a xs)
    (hs : ∀ i x H, xs[i]? = some x → Pv i H → g x (wipe σ vs) H fun σ2 H2 => wipe σ2 vs = wipe σ vs ∧ tt σ2 H2 fun b H3 =>
      if b = true then te σ2 H3 fun y H4 => ∃ c, y = .bl c ∧ if c = d then Qd H4 else Pv (i + 1) H4 else Pv (i + 1) H3) (hd : ∀ H, Pv xs.length H → Qe H) :
    ∃ W : Nat → Nat → Hp → Prop, (∃ m, W 0 m H0) ∧ Wk d (Itl K a) g tt te vs σ W Qe Qd := by
  refine ⟨fun i m H => m = xs.length - i ∧ i ≤ xs.length ∧ Pv i H, ⟨xs.length, by simp, Nat.zero_le _, h0⟩, ?_⟩
  rintro i m H ⟨rfl, hi, p⟩
  have q := hl i H hi p
  by_cases hlt : i < xs.length
  · refine .inr ⟨⟨xs, xs[i], q, by simp [hlt]⟩, Pv (i + 1), fun H' p' => ⟨xs.length - (i + 1), by omega, rfl, hlt, p'⟩, fun x H' y => ?_⟩
    obtain ⟨rfl, e⟩ := y
    exact hs i x _ (e xs q) p
  · have e : i = xs.length := by omega
    subst e
    exact .inl ⟨⟨xs, q, Nat.le_refl _⟩, hd H p⟩
end GX
/-! dicts keyed by tuples: del, truth, comprehensions; a dict comprehension whatever its keys are -/
namespace GX
open PySem PySem.Spec PyProof.Rows L2 GxR

section
variable {X : Cx}
theorem ktDrop {H : Hp} {kvs : List (List Key × V)} {xs : List (List Key × Addr × Value)} (k : List Key) (h : KT H kvs xs) : KT H (dropK kvs k) (withoutH xs k) := DX.KT_drop k h
/-- del d[y], keys tuples -/
def sDDelT (td ty : TE) : TS := fun D σ H => td σ H fun x H1 => ty σ H1 fun y H2 => ∃ (a : Addr) (kvs : List (List Key × V)) (k : List Key) (b : Addr), x = .ref a ∧ H2 a = some (.dT kvs) ∧ y = .ref b ∧ H2 b = some (.tup (k.map kV)) ∧ (valV kvs k).isSome = true ∧ D.nx σ (upd H2 a (.dT (dropK kvs k)))
theorem ps_ddelT {o i : Expr} {pos tpos : Pos} {td ty : TE} (hu : X.A.units + 1 < cLine) (ho : PE X o td) (hi : PE X i ty) : PS X (.Delete [.Subscript o i tpos] pos) (sDDelT td ty) := by
  refine ⟨fun pins s σ H D I h => ?_⟩
  refine wpAny_Delete (wpAny_deleteEach_cons (wpAny_delete_Subscript (thn (ho.run pins s σ H _ I h) fun u s1 ⟨x, H1, I1, rx, q1⟩ => thn (hi.run pins s1 σ H1 _ I1 q1) fun iv s2 ⟨y, H2, I2, ry, a, kvs, k, b, ex, e, ey, eb, l, q2⟩ => ?_)))
  subst ex ey
  obtain rfl : u = Value.ref a := rx
  obtain rfl : iv = Value.ref b := ry
  obtain ⟨z, hd, xs, rel, dd⟩ := dt_of I2.hok e
  have hz : xs.length ≤ sizeLine := by rw [← Paired.length rel]; exact z
  have r := rel.val k
  obtain ⟨v0, ev⟩ := Option.isSome_iff_exists.mp l
  obtain ⟨w', hw, _⟩ := RelO.some_of (v := v0) (o := (atKey xs k).map (·.2)) (by rw [← ev]; exact r)
  obtain ⟨p, hp, _⟩ := Option.map_eq_some_iff.mp hw
  refine wpAny_delItem_heap (hsz := hz) (tupleKind_room_in1 hu) (key_of I2.hok eb) hd dd hp fun h' dd' hs => ?_
  obtain ⟨q, es, ep, hq, h2, h3, h4, _, h5⟩ := dd'
  refine wpAny_deleteEach_nil ⟨σ, _, d_write (ob := .dT (dropK kvs k)) I2 (by rw [e]; exact True.intro) hs ⟨q, hq⟩ ⟨Nat.le_trans (dropK_le kvs k) z, hd, _, (ktDrop k rel).keeps fun c ys ec => ?_, q, es, ep, hq, h2, h3, h4, h5⟩, q2⟩
  rw [upd_ne (ne_of ec e (fun z => nomatch z))]
  exact ec
end
section
variable {prog : Program} {w : World} {κ : Type} [DecidableEq κ] {knd : HeapKind prog w κ} {A : Around} {E : Value → Shared → Prop} {s : Shared}
/-- the truth of a dict whose keys stand in the heap -/
theorem truthy_dictH {d : Addr} {xs : List (κ × Addr × Value)} {Q : Bool → Shared → Prop} (hd : (d == sysModules) = false) (hm : s.heap.DictOfH knd d xs) (hfit : (xs.length : Int) < 2 ^ 63)
    (h : Q (!xs.isEmpty) { s with toks := s.toks + 1 + 1 }) : wpAny (model prog w) A (truthy (.ref d)) Q E s := by
  have hne : ((xs.length : Int) != 0) = !xs.isEmpty := by cases xs <;> simp <;> omega
  have len : wpAny (model prog w) A (runValue (.builtin "len" ⟨[.ref d], []⟩)) (fun r s' => r = .int xs.length (s.toks + 1) ∧ Q (!xs.isEmpty) s') E s := by
    refine wpAny_runValue (codeAny_builtin entry_len ?_)
    rw [Around.under_plainId plain_len _]
    exact wpAny_mono (wpAny_len_body_dictH (Q := fun r s' => r = .int xs.length (s.toks + 1) ∧ Q (!xs.isEmpty) s') hd hm hfit ⟨rfl, h⟩) (fun fin s' ⟨r, e, q⟩ => by subst e; exact q) fun _ _ e => e
  have fin : ∀ (r : Value) (s' : Shared), (r = .int xs.length (s.toks + 1) ∧ Q (!xs.isEmpty) s') → wpAny (model prog w) A (match r with | .int n _ => pure (n != 0) | _ => pure true) Q E s' := fun r s' ⟨e, q⟩ => by
    subst e
    exact wpAny_pure (hne ▸ q)
  unfold truthy
  first
    | refine wpAny_bind (wpAny_callSpecial?_none (name := Str.ofString "__bool__") hm.typeIs noBool_dict ?_)
    | refine wpAny_bind (wpAny_pure (wpAny_bind (wpAny_callSpecial?_none (name := Str.ofString "__bool__") hm.typeIs noBool_dict ?_)))
  first
    | refine wpAny_bind (wpAny_specialOf (name := Str.ofString "__len__") hm.typeIs F.slot_dict_len.lookup ?_)
    | refine wpAny_bind (wpAny_pure (wpAny_bind (wpAny_specialOf (name := Str.ofString "__len__") hm.typeIs F.slot_dict_len.lookup ?_)))
  first
    | exact wpAny_bind (wpAny_mono len (fun r s' ⟨e, q⟩ => by subst e; exact wpAny_pure (hne ▸ q)) fun _ _ e => e)
    | exact wpAny_bind (wpAny_pure (wpAny_bind (wpAny_mono len (fun r s' ⟨e, q⟩ => by subst e; exact wpAny_pure (hne ▸ q)) fun _ _ e => e)))
end
section
variable {X : Cx}
def tTruT (ta : TE) : TT := fun σ H Q => ta σ H fun x H1 => ∃ (a : Addr) (kvs : List (List Key × V)), x = .ref a ∧ H1 a = some (.dT kvs) ∧ Q (!kvs.isEmpty) H1
theorem pt_truT {e : Expr} {ta : TE} (ha : PE X e ta) (he : ∀ whole, isTrue e X.env whole = (do let v ← whole; standAt e.pos; holding [v] (truthy v))) : PT X e (tTruT ta) := by
  refine ⟨fun pins s σ H Q I h => ?_⟩
  refine isTrue_plain (thn (ha.run pins s σ H _ I h) fun v s1 ⟨x, H1, I1, r1, a, kvs, ex, e1, q⟩ => ?_) (he _)
  subst ex
  obtain rfl : v = Value.ref a := r1
  obtain ⟨z, hd, xs, rel, dd⟩ := dt_of I1.hok e1
  have hl : kvs.length = xs.length := Paired.length rel
  have h63 := line63
  have ee : xs.isEmpty = kvs.isEmpty := by
    cases kvs with
    | nil => cases xs with
      | nil => rfl
      | cons _ _ => cases hl
    | cons _ _ => cases xs with
      | nil => cases hl
      | cons _ _ => rfl
  exact truthy_dictH hd dd (by omega) ⟨H1, I1.tok _, by rw [ee]; exact q⟩

/-! ### a dict comprehension: o0 the empty dict, put the reading of a store -/
def PutR (put : Addr → V → V → Hp → (Hp → Prop) → Prop) (X : Cx) : Prop := ∀ (pins : List (Addr × Obj)) (s : Shared) (σ : L2.St) (H : Hp) (D : Addr) (y z : V) (u r : Value) (N : Hp → Prop), Inv X pins σ H s → RelV y u → RelV z r → put D y z H N →
  wpAny (model X.prog X.w) X.A (dictSet D u r) (fun _ s' => ∃ H', Inv X pins σ H' s' ∧ N H') (fun _ _ => False) s
def tDg (o0 : HO) (put : Addr → V → V → Hp → (Hp → Prop) → Prop) (wi : TI) (g : TG) (tt : TT) (tk tv : TE) (vs : List Nat) : TE := fun σ H Q => wi σ H fun J H1 => ∀ D, H1 D = none → ∃ W : Nat → Nat → Hp → Prop, (∃ m, W 0 m (upd H1 D o0)) ∧ ∀ i m H, W i m H →
  (J.stop i H ∧ Q (.ref D) H) ∨ (J.go i H ∧ ∃ Nx : Hp → Prop, (∀ H', Nx H' → ∃ m', m' < m ∧ W (i + 1) m' H') ∧ ∀ x H', J.yld i H x H' → g x (wipe σ vs) H' fun σ2 H2 => wipe σ2 vs = wipe σ vs ∧ tt σ2 H2 fun b H3 =>
    if b = true then tk σ2 H3 fun y H4 => tv σ2 H4 fun z H5 => put D y z H5 Nx else Nx H3)
theorem dg_core {o0 : HO} {put : Addr → V → V → Hp → (Hp → Prop) → Prop} {pins : List (Addr × Obj)} {s : Shared} {σ : L2.St} {H : Hp} {Q : VK} {kx vx tg iter : Expr} {ifs : List Expr} {scope : Scope} {own : List (Str × Nat)} {pos pos' : Pos} {wi : TI} {g : TG} {tt : TT} {tk tv : TE} {use : Option (Value → Sem Unit)} {Qf : Value → Shared → Prop}
    (he0 : ∀ (H : Hp) (h : Heap), sysModules < h.objs.size → ObjOk X.prog X.w H (h.push { cls := .type "dict", data := .dict #[] }) h.objs.size o0)
    (hc : X.calm = true) (hN : X.N.Nodup) (I : Inv X pins σ H s) (hi : PI X tg iter wi) (ok : BlkOk X.N X.env.scope scope own)
    (hg : ∀ (s : Shared) (H : Hp) (C : Addr) (cl : List (Str × Addr)) (fp : List Addr), PG (X.blk s H scope (compEnvC scope cl C X.env) fp) tg g) (ht : ∀ (s : Shared) (H : Hp) (C : Addr) (cl : List (Str × Addr)) (fp : List Addr), PTs (X.blk s H scope (compEnvC scope cl C X.env) fp) ifs tt)
    (hk : ∀ (s : Shared) (H : Hp) (C : Addr) (cl : List (Str × Addr)) (fp : List Addr), PE (X.blk s H scope (compEnvC scope cl C X.env) fp) kx tk)
    (he : ∀ (s : Shared) (H : Hp) (C : Addr) (cl : List (Str × Addr)) (fp : List Addr), PE (X.blk s H scope (compEnvC scope cl C X.env) fp) vx tv)
    (hp : ∀ (s : Shared) (H : Hp) (C : Addr) (cl : List (Str × Addr)) (fp : List Addr), PutR put (X.blk s H scope (compEnvC scope cl C X.env) fp)) (hs : ∀ x, foldedSetIterable iter X.env x = pure x)
    (h : tDg o0 put wi g tt tk tv (own.map (·.2)) σ H Q)
    (hRR : ∀ D C s' m H', Inv X pins σ H' s' → Q (.ref D) H' → s'.heap.Ns C m → FpOk X pins H' C → compPost (model X.prog X.w) X.A X.xe use Qf (.ref D) C (.ok .next) s') :
    wpAny (model X.prog X.w) X.A (comprehension (.DictComp kx vx [⟨tg, iter, ifs, 0⟩] scope pos) scope X.env pos' newDict false (eval iter X.env) use) Qf X.xe s := by
  have hfree : ∀ y ∈ scope.names, y.2 = .free → ∃ c, X.env.cells.lookup y.1 = some c := fun y hy e => (ok.free y hy e).elim (fun k => I.ok.has _ (.inl k)) fun k => I.ok.has _ (.inr k)
  refine wpAny_comprehension_free (use := use) rfl hs (closure_ok hfree) ok.kind (fun y hy e => by rw [ok.uniq y hy, e]) (thn (hi.run pins s σ H _ I h) fun xv s1 hx => thn hx fun itv s2 ⟨it, fp, tn, J, H2, e, I2, T, st2, f2, q⟩ => ?_)
  subst e
  refine wpAny_newObj_type (newEnv_comp ?_)
  obtain ⟨W, ⟨m0, w0⟩, turn⟩ := q s2.heap.objs.size (I2.hok.fresh (Nat.le_refl _))
  have I3 : Inv X pins σ (upd H2 s2.heap.objs.size o0) { s2 with heap := s2.heap.push { cls := .type "dict", data := .dict #[] } } :=
    I2.laid (t' := s2.toks) (fun b o e => Heap.get?_push_of_some _ e) (Nat.le_refl _) (he0 _ _ I2.big)
  have f3 : ∀ b ∈ fp, FpOk X pins (upd H2 s2.heap.objs.size o0) b ∧ b < (s2.heap.push { cls := .type "dict", data := .dict #[] }).objs.size := fun b hb => by
    obtain ⟨o, e, _⟩ := T.obj _ _ st2 b hb
    have hlt := Heap.lt_size e
    exact ⟨⟨by rw [upd_ne (Nat.ne_of_lt hlt)]; exact (f2 b hb).1, (f2 b hb).2⟩, by rw [Heap.size_push]; exact Nat.lt_succ_of_lt hlt⟩
  have st3 : tn 0 (s2.heap.push { cls := .type "dict", data := .dict #[] }) := T.keep _ _ _ st2 fun b _ o e => Heap.get?_push_of_some _ e
  generalize s2.heap.objs.size = D at I3 f3 w0 turn ⊢
  generalize hs3 : ({ s2 with heap := s2.heap.push { cls := .type "dict", data := .dict #[] } } : Shared) = s3 at I3 ⊢
  have h3 : s2.heap.push { cls := .type "dict", data := .dict #[] } = s3.heap := by rw [← hs3]
  rw [h3] at f3 st3
  have I4 := block_start I3 ok hN f3
  have pg := hg s3 (upd H2 D o0) s3.heap.objs.size (cellsFrom (s3.heap.objs.size + 1) scope.names (cloFrom X.env.cells scope.names [])) fp
  have pt := ht s3 (upd H2 D o0) s3.heap.objs.size (cellsFrom (s3.heap.objs.size + 1) scope.names (cloFrom X.env.cells scope.names [])) fp
  have pk := hk s3 (upd H2 D o0) s3.heap.objs.size (cellsFrom (s3.heap.objs.size + 1) scope.names (cloFrom X.env.cells scope.names [])) fp
  have pe := he s3 (upd H2 D o0) s3.heap.objs.size (cellsFrom (s3.heap.objs.size + 1) scope.names (cloFrom X.env.cells scope.names [])) fp
  have pp := hp s3 (upd H2 D o0) s3.heap.objs.size (cellsFrom (s3.heap.objs.size + 1) scope.names (cloFrom X.env.cells scope.names [])) fp
  show codeAny _ _ (.compStart (.DictComp kx vx [⟨tg, iter, ifs, 0⟩] scope pos) 0 (.ref it) (.ref D) (compEnvC scope (cellsFrom (s3.heap.objs.size + 1) scope.names (cloFrom X.env.cells scope.names [])) s3.heap.objs.size X.env)) (compPost (model X.prog X.w) X.A X.xe use Qf (.ref D) s3.heap.objs.size) { s3 with heap := pushCells (s3.heap.push { cls := .type "dict", data := .dict #[] }) scope.names }
  generalize hce : compEnvC scope (cellsFrom (s3.heap.objs.size + 1) scope.names (cloFrom X.env.cells scope.names [])) s3.heap.objs.size X.env = ce at I4 pg pt pk pe pp ⊢
  have cL : ce.locals = s3.heap.objs.size := by rw [← hce]; rfl
  have nfp : ∀ b ∈ fp, upd H2 D o0 b = none := fun b hb => (f3 b hb).1.1
  generalize upd H2 D o0 = H3 at I3 I4 pg pt pk pe pp w0 nfp f3
  have st4 : tn 0 (pushCells (s3.heap.push { cls := .type "dict", data := .dict #[] }) scope.names) := T.keep _ _ _ st3 fun b _ o e => pushCells_keeps _ _ _ _ (Heap.get?_push_of_some _ e)
  generalize hs4 : ({ s3 with heap := pushCells (s3.heap.push { cls := .type "dict", data := .dict #[] }) scope.names } : Shared) = s4 at I4 ⊢
  have st4 : tn 0 s4.heap := by rw [← hs4]; exact st4
  generalize hY : X.blk s3 H3 scope ce fp = Y at I4 pg pt pk pe pp
  have yx : Y.ex = fp ∧ Y.pn = [] ∧ Y.prog = X.prog ∧ Y.w = X.w ∧ Y.K = X.K ∧ Y.calm = true ∧ Y.A = X.A ∧ Y.env = ce ∧ Y.xe = (fun _ _ => False) ∧ Y.fs = frs X.stack ∧ Y.H_0 = H3 ∧ Y.s_0 = s3 := by
    rw [← hY]
    exact ⟨rfl, rfl, rfl, rfl, rfl, hc, rfl, rfl, rfl, rfl, rfl, rfl⟩
  obtain ⟨y1, y2, y3, y4, y5, y6, y7, y8, y9, y10, y11, y12⟩ := yx
  have T0 := T
  have T : Turn Y.prog Y.w Y.K tg J fp it tn := by rw [y3, y4, y5]; exact T
  have stat : ∀ {σ' : L2.St} {H' : Hp} {s' : Shared}, Inv Y [] σ' H' s' → (∀ b ∈ fp, H' b = none) → ∀ b ∈ fp, FpOk Y [] H' b := fun {σ' H' s'} I' hn b hb =>
    ⟨hn b hb, (I'.ok.exf b (y1 ▸ hb)).1, I'.ok.exfs b (y1 ▸ hb), .inl (y1 ▸ hb), fun x c e => (I'.ok.exf b (y1 ▸ hb)).2 x c e, fun p hp => by rw [y2] at hp; cases hp⟩
  have loop : codeAny (model X.prog X.w) X.A (.compLoop (.DictComp kx vx [⟨tg, iter, ifs, 0⟩] scope pos) 0 (.ref it) (.ref D) ce) (compPost (model X.prog X.w) X.A X.xe use Qf (.ref D) s3.heap.objs.size) s4 := by
    refine compLoop_anyD (fun n s' => ∃ i H', Inv Y [] (wipe σ (own.map (·.2))) H' s' ∧ tn i s'.heap ∧ (∀ b ∈ fp, H' b = none) ∧ W i n H') ?_ m0 ⟨0, H3, I4, st4, nfp, w0⟩
    rw [← y3, ← y4, ← y7, ← y8]
    rintro n s5 ⟨i, H5, I5, st5, n5, w5⟩
    rcases turn i n H5 w5 with ⟨stop, qq⟩ | ⟨go, Nx, hNx, step⟩
    · refine thnF (T.done Y rfl rfl rfl y6 i [] s5 _ H5 (fun _ _ => False) I5 (stat I5 n5) st5 stop) fun r s6 ⟨hr, I6⟩ => ?_
      subst hr
      have b6 := I6.base
      rw [y10, y1, y11, y12] at b6
      have o6 := I6.os
      rw [y12] at o6
      have k6 := I6.hok
      rw [y3, y4] at k6
      have I7 : Inv X pins σ H5 s6 := I3.call' (ch := fp) o6 b6 k6 I6.bare fun b hb => ⟨(f3 b hb).1.2.2.2.1, (f3 b hb).1.2.1, (f3 b hb).1.2.2.2.2.1, (f3 b hb).1.2.2.2.2.2⟩
      have nC : H5 s3.heap.objs.size = none := by
        have z := I6.free
        rw [y8, cL] at z
        exact z
      obtain ⟨m, hn, _⟩ := I6.loc
      rw [y8, cL] at hn
      show compPost _ _ _ _ _ _ _ _ _
      rw [y3, y4, y7]
      exact hRR D s3.heap.objs.size s6 m H5 I7 qq hn (I3.fpOk (Nat.le_refl _) nC)
    · refine thnF (T.item Y rfl rfl rfl y6 i [] s5 _ H5 (fun _ _ => False) I5 (stat I5 n5) st5 go) fun r s6 ⟨u, hr, h6⟩ => ?_
      subst hr
      refine thnF h6 fun _ s7 ⟨x, H7, I7, r7, yy, st7, n7⟩ => ?_
      have I7' := I7.pinned (stat I7 n7) (T.obj _ _ st7)
      have a1 := pg.run _ s7 _ H7 x u _ I7' r7 (step x H7 yy)
      rw [y9] at a1
      refine thnF a1 fun _ s8 ⟨σ8, H8, I8, hw8, q8⟩ => ?_
      have a2 := pt.run _ s8 σ8 H8 _ I8 q8
      rw [y9] at a2
      refine thnF a2 fun b s9 ⟨H9, I9, q9⟩ => ?_
      have fin : ∀ {s' : Shared} {H' : Hp}, Inv Y ([] ++ pinsAt fp s7.heap) σ8 H' s' → Nx H' → ∃ m, m < n ∧ ∃ i H', Inv Y [] (wipe σ (own.map (·.2))) H' s' ∧ tn i s'.heap ∧ (∀ b ∈ fp, H' b = none) ∧ W i m H' := fun {s' H'} I' nx => by
        obtain ⟨m', hm, w'⟩ := hNx H' nx
        have pin' : ∀ b ∈ fp, ∀ o, s7.heap.get? b = some o → s'.heap.get? b = some o ∧ H' b = none := fun b hb o e =>
          let z := I'.pin (b, o) (List.mem_append_right _ (List.mem_append_right _ (mem_pinsAt hb e)))
          ⟨z.1, z.2.1⟩
        refine ⟨m', hm, i + 1, H', (I'.unpinned (pins := [])).weak (by rw [← wipe_length σ8 (own.map (·.2)), hw8]) (fun j v e => ?_), T.keep _ _ _ st7 fun b hb o e => (pin' b hb o e).1, fun b hb => ?_, w'⟩
        · rw [← hw8] at e
          exact (wipe_some e).1
        · obtain ⟨o, e, _⟩ := T.obj _ _ st7 b hb
          exact (pin' b hb o e).2
      cases b with
      | false =>
        simp only [Bool.false_eq_true, if_false] at q9 ⊢
        exact fin I9 q9
      | true =>
        simp only [if_true] at q9 ⊢
        have a3 := pk.run _ s9 σ8 H9 _ I9 q9
        rw [y9] at a3
        refine thnF a3 fun z s10 ⟨yk, H10, I10, r10, q10⟩ => ?_
        have a4 := pe.run _ s10 σ8 H10 _ I10 q10
        rw [y9] at a4
        refine thnF a4 fun z2 s11 ⟨yv, H11, I11, r11, q11⟩ => ?_
        exact thnF (pp _ s11 σ8 H11 D yk yv z z2 Nx I11 r10 r11 q11) fun _ s12 ⟨H12, I12, nx⟩ => fin I12 nx
  exact codeAny_compStart_dict loop (T0.self X.A 0 _ _ _ st4 loop)
theorem pe_dg {o0 : HO} {put : Addr → V → V → Hp → (Hp → Prop) → Prop} {kx vx tg iter : Expr} {ifs : List Expr} {scope : Scope} {own : List (Str × Nat)} {pos : Pos} {wi : TI} {g : TG} {tt : TT} {tk tv : TE}
    (he0 : ∀ (H : Hp) (h : Heap), sysModules < h.objs.size → ObjOk X.prog X.w H (h.push { cls := .type "dict", data := .dict #[] }) h.objs.size o0) (hc : X.calm = true) (hN : X.N.Nodup) (hi : PI X tg iter wi) (ok : BlkOk X.N X.env.scope scope own)
    (hg : ∀ (s : Shared) (H : Hp) (C : Addr) (cl : List (Str × Addr)) (fp : List Addr), PG (X.blk s H scope (compEnvC scope cl C X.env) fp) tg g) (ht : ∀ (s : Shared) (H : Hp) (C : Addr) (cl : List (Str × Addr)) (fp : List Addr), PTs (X.blk s H scope (compEnvC scope cl C X.env) fp) ifs tt)
    (hk : ∀ (s : Shared) (H : Hp) (C : Addr) (cl : List (Str × Addr)) (fp : List Addr), PE (X.blk s H scope (compEnvC scope cl C X.env) fp) kx tk)
    (he : ∀ (s : Shared) (H : Hp) (C : Addr) (cl : List (Str × Addr)) (fp : List Addr), PE (X.blk s H scope (compEnvC scope cl C X.env) fp) vx tv)
    (hp : ∀ (s : Shared) (H : Hp) (C : Addr) (cl : List (Str × Addr)) (fp : List Addr), PutR put (X.blk s H scope (compEnvC scope cl C X.env) fp)) (hs : ∀ x, foldedSetIterable iter X.env x = pure x := by intro _; rfl) :
    PE X (.DictComp kx vx [⟨tg, iter, ifs, 0⟩] scope pos) (tDg o0 put wi g tt tk tv (own.map (·.2))) := by
  refine ⟨fun pins s σ H Q I h => ?_⟩
  rw [arm_eval_DictComp]
  refine dg_core he0 hc hN I hi ok hg ht hk he hp hs h fun D C s' m H' I' q hn ⟨f0, f1, f2, f3, f4, f5⟩ => ⟨m, hn, fun h'' sb => ?_⟩
  exact ⟨.ref D, H', I'.turned (t' := s'.toks) (fun b o hb e => (sb.2 b hb).trans e) f0 f1 f3 f4 f5, rfl, q⟩
theorem sw_dict {kx vx : Expr} {gs : List Comprehension} {scope : Scope} {pos py : Pos} {y : Str} {l : Nat} {env : Env} (hk : env.scope.kind = .function) (hy : env.scope.names.lookup y = some .local) (hl : (py.line == pos.line) = true)
    (ha : (scope.names.any fun (n, k) => n == y && (k == .local || k == .cell)) = false) : swapsWith (.DictComp kx vx gs scope pos) (some (.Name y py)) l env = pure true := by
  have h1 : env.kindOf y = some .local := hy
  have h2 : env.blockKind = .function := by unfold Env.blockKind; rw [hk]; rfl
  unfold swapsWith
  simp only [h2, h1, ha, Expr.pos, hl]
  rfl
/-- name = {..} on one line, the name a local -/
theorem ps_setDg {o0 : HO} {put : Addr → V → V → Hp → (Hp → Prop) → Prop} {i : Nat} {y : Str} {py : Pos} {kx vx tg iter : Expr} {ifs : List Expr} {scope : Scope} {own : List (Str × Nat)} {pos spos : Pos} {wi : TI} {g : TG} {tt : TT} {tk tv : TE}
    (he0 : ∀ (H : Hp) (h : Heap), sysModules < h.objs.size → ObjOk X.prog X.w H (h.push { cls := .type "dict", data := .dict #[] }) h.objs.size o0) (hc : X.calm = true) (hN : X.N.Nodup) (hy : X.N[i]? = some y) (hyl : X.env.scope.names.lookup y = some .local)
    (hsw : swapsWith (.DictComp kx vx [⟨tg, iter, ifs, 0⟩] scope pos) (some (.Name y py)) spos.line X.env = pure true) (hi : PI X tg iter wi) (ok : BlkOk X.N X.env.scope scope own)
    (hg : ∀ (s : Shared) (H : Hp) (C : Addr) (cl : List (Str × Addr)) (fp : List Addr), PG (X.blk s H scope (compEnvC scope cl C X.env) fp) tg g) (ht : ∀ (s : Shared) (H : Hp) (C : Addr) (cl : List (Str × Addr)) (fp : List Addr), PTs (X.blk s H scope (compEnvC scope cl C X.env) fp) ifs tt)
    (hk : ∀ (s : Shared) (H : Hp) (C : Addr) (cl : List (Str × Addr)) (fp : List Addr), PE (X.blk s H scope (compEnvC scope cl C X.env) fp) kx tk)
    (he : ∀ (s : Shared) (H : Hp) (C : Addr) (cl : List (Str × Addr)) (fp : List Addr), PE (X.blk s H scope (compEnvC scope cl C X.env) fp) vx tv)
    (hp : ∀ (s : Shared) (H : Hp) (C : Addr) (cl : List (Str × Addr)) (fp : List Addr), PutR put (X.blk s H scope (compEnvC scope cl C X.env) fp)) (hs : ∀ x, foldedSetIterable iter X.env x = pure x := by intro _; rfl) :
    PS X (.Assign [.Name y py] (.DictComp kx vx [⟨tg, iter, ifs, 0⟩] scope pos) spos) (tAsg (tDg o0 put wi g tt tk tv (own.map (·.2))) (gName i)) := by
  refine ⟨fun pins s σ H D I h => ?_⟩
  rw [exec_Assign_Name_used _ _ _ _ hsw]
  refine wpAny_bind (wpAny_standAt (wpAny_bind ?_))
  show wpAny _ X.A (do let _ ← comprehension (.DictComp kx vx [⟨tg, iter, ifs, 0⟩] scope pos) scope X.env (firstIterPos [⟨tg, iter, ifs, 0⟩] pos) newDict false (eval iter X.env) (some (assign (.Name y py) X.env))) _ _ s
  have h : tDg o0 put wi g tt tk tv (own.map (·.2)) σ H (fun x H1 => gName i x σ H1 D.nx) := h
  refine wpAny_bind (thn (dg_core (Qf := fun _ s' => SP X pins D .next s') he0 hc hN I hi ok hg ht hk he hp hs h fun L C s' m H' I' q hn ⟨f0, f1, f2, f3, f4, f5⟩ => ?_) fun _ s' hq => wpAny_pure (wpAny_pure hq))
  show wpAny _ _ (assign (.Name y py) X.env (.ref L)) _ _ _
  refine wpAny_assign_Name (store_ok2 (v := V.ref L) I' hN hy (.inl hyl) rfl (fun s2 I2 ⟨a, sb, ha⟩ => ?_) (.inr hyl))
  have haC : C ≠ a := ha.elim (fun z => by rw [z]; exact f1) fun z e => f4 y a z e.symm
  exact ⟨m, hn.sameBut sb haC, fun h3 sb3 => ⟨_, H', I2.turned (t' := s2.toks) (fun b o hb e => (sb3.2 b hb).trans e) f0 f1 f3 f4 f5, q⟩⟩
/-- keys tuples of ints and texts -/
def putT (D : Addr) (y z : V) (H : Hp) (N : Hp → Prop) : Prop := ∃ (kvs : List (List Key × V)) (k : List Key) (b : Addr), y = .ref b ∧ H b = some (.tup (k.map kV)) ∧ H D = some (.dT kvs) ∧ kvs.length < sizeLine ∧ N (upd H D (.dT (putK kvs k z)))
theorem putR_T {Y : Cx} (hu : Y.A.units < cLine) : PutR putT Y := by
  intro pins s σ H D y z u r N I ry rz ⟨kvs, k, b, ey, eb, e, l, n⟩
  subst ey
  obtain rfl : u = Value.ref b := ry
  obtain ⟨zz, hd, xs, rel, dd⟩ := dt_of I.hok e
  have hz : xs.length ≤ sizeLine := by rw [← Paired.length rel]; exact zz
  have hl : (putK kvs k z).length ≤ sizeLine := by have := length_putK kvs k z; omega
  refine wpAny_dictSet_heap (hsz := hz) hu (key_of I.hok eb) dd fun h' dd' hs => ⟨_, ?_, n⟩
  obtain ⟨q, es, ep, hq, h2, h3, h4, _, h5⟩ := dd'
  refine d_write I (by rw [e]; exact True.intro) hs ⟨q, hq⟩ ⟨hl, hd, _, (rel.put k eb rz).keeps fun c ys ec => ?_, q, es, ep, hq, h2, h3, h4, h5⟩
  rw [upd_ne (ne_of ec e (fun z => nomatch z))]
  exact ec
end
end GX
/-! repr in a law's body: a def that is called by the caller alone, and the law's end for it -/
namespace GX
open PySem PySem.Spec PyProof.Rows L2 GxR
/-- repr(x), x plain data of lists and tuples -/
def rRepr (K : PySem.W.Frag) : List V → Hp → VK → Prop := fun xs H Q => ∃ (p : Addr) (d : PyData), xs = [.ref p] ∧ Dp K H (.ref p) d ∧ d.showable = true ∧ d.hasDict = false ∧ d.depth ≤ 60 ∧ d.shown.length ≤ sizeLine ∧ Q (.str d.shown) H
theorem cr_repr {X : Cx} (hg : X.A.guards = some []) (hu : X.A.units + 64 < cLine) : CallR X (.builtin "repr") (rRepr X.K) := by
  intro pins s σ H xs us Q I r ⟨p, d, ex, hd, h1, h2, h3, h4, q⟩
  subst ex
  obtain ⟨u, rfl, rx⟩ := vals1 r
  obtain ⟨as, rd⟩ := Dp.reads I d (.ref p) u hd rx
  obtain rfl : u = Value.ref p := rx
  exact repr_of_reads' (hsz := h4) rd h1 (fun z => by rw [h2] at z; cases z) hg (by omega) (fun _ _ e => e) fun h' u tk hk => ⟨.str d.shown, H, I.kept (t' := tk) hk, ⟨u, rfl⟩, q⟩
/-- what a def does when the caller calls it -/
structure FnC (P : Program) (w : World) (K : PySem.W.Frag) (mg : Str → Option Value) (base : Heap) (f : Addr) (fd : FuncData) (ps : List Str) (sp : Sp) : Prop where
  run : ∀ (s : Shared) (H : Hp) (args : Args) (us : List Value) (vs : List V) (Q : VK) (E : XK), Env0 P w K mg base callerA [] s H → BindsTo s fd args (ps.zip us) → Vals vs us → sp vs H Q E →
    codeAny (model P w) callerA (.call (.ref f) args) (CR CX0 [] P w H s Q E) s
theorem fn_C {P : Program} {w : World} {K : PySem.W.Frag} {mg : Str → Option Value} {base : Heap} {k : Nat} {f : Addr} {name qual : Str} {params : Arguments} {body : List Stmt} {scope : Scope} {dV kV doc pm cdv ct oc : Value} {an od : Option Addr}
    {osl : Array (Option Value)} {N ps : List Str} {sp : Sp} (hk : Room (k + 1) callerA) (lk : K.lookup f = some ⟨oc, od, .func (PySem.W.fnOf name qual params body scope dV kV doc pm an cdv ct), osl⟩) (hcd : PySem.W.codeIn K cdv qual = true) (S : FnScope N ps scope)
    (len : ∀ vs H Q E, sp vs H Q E → vs.length = ps.length)
    (hbody : ∀ (A : Around) (outer : List Env) (s : Shared) (H : Hp) (vs : List V) (Q : VK) (E : XK), A.guards = some [] → Room k (A.deeper (envOfC qual scope s.heap.objs.size f cdv)) → sp vs H Q E →
      ∃ t, PSs (cxOf CX0 P w K mg base N qual scope f cdv A outer s H E).nox body t ∧ t { nx := fun _ H' => Q .non H', rt := Q } (start N vs) H) :
    FnC P w K mg base f (PySem.W.fnOf name qual params body scope dV kV doc pm an cdv ct) ps sp where
  run := fun s H args us vs Q E e0 hb r hsp => by
    have bk := fun b o e => (e0.bs b o e).1
    have KX : K.In s.heap := e0.mod.kin.keeps bk
    obtain ⟨t, ht, hq⟩ := hbody callerA [] s H vs Q E rfl (hk.deeper _) hsp
    refine codeAny_call_function hk.depth (KX _ _ lk) rfl S.co S.gen rfl (PySem.W.codeRec_of KX hcd) (hb _ _ _ _ (wpAny_newFunctionEnv_cells S.kind (fun ⟨n, v⟩ hy => ?_) fun env he s1 x => ?_))
    · exact (S.par n (List.of_mem_zip hy).1).imp id fun q => ⟨q, PySem.W.cellsFrom_some _ _ _ (.inl q)⟩
    · subst he
      refine ⟨(e0.mod.nolimit.keeps bk).keeps x.toInCall.keep, codeAny_func (wpAny_mono (ht.nox.run [] s1 (start N vs) H _ (inv_start S hk.hd e0 (len _ _ _ _ hsp) r x) hq) (fun fl s' hs => ?_) fun e s' hs => hs)⟩
      cases fl with
      | ret u => exact let ⟨v, σ', H', J, rv, q⟩ := hs; ⟨v, H', J.os, J.bare, J.base, J.hok, rv, q⟩
      | next => exact let ⟨σ', H', J, q⟩ := hs; ⟨.non, H', J.os, J.bare, J.base, J.hok, rfl, q⟩
      | brk => exact let ⟨_, _, _, q⟩ := hs; q.elim
      | cont => exact let ⟨_, _, _, q⟩ := hs; q.elim
end GX
/-! the end of a law whose body the caller alone calls; ts: the tables of code objects that may grow -/
namespace GX
open PySem PySem.Spec PyProof.Rows L2 GxR
section
variable {P : Program} {w : World} {K : PySem.W.Frag} {mg mb : Str → Option Value} {fa a : Addr} {cs : List (Addr × Addr)} {fd : FuncData} {x : Str} {sp : Sp} {s₁ : Shared} {vs : List Value} {ns : List Int}
/-- what is known at the law's entry: the tables, the script where it is no object of the module -/
def atE (K : PySem.W.Frag) (cs : List (Addr × Addr)) (a : Addr) (vs : List Value) (ns : List Int) : Hp := fun b =>
  if b ∈ cs.map (·.2) then some (.tbl #[]) else if b = a ∧ K.lookup a = none then some (.frz { cls := .type "list", data := .seq vs.toArray } (.lst (ns.map V.int))) else none
theorem law_callC (KX : K.In s₁.heap) (hns : s₁.heap.Ns mainGlobals mg) (hb : s₁.heap.Ns builtinsNs mb) (hbb : ∀ x : Str, x ≠ "__name__" → mb x = bootBuiltins x) (hlim : s₁.heap.NoLimit) (hg : s₁.gens = #[])
    (hT : ∀ p ∈ cs, s₁.heap.get? p.2 = some { cls := .none, data := .fields #[] }) (nT : ∀ p ∈ cs, K.lookup p.2 = none) (C : ∀ p ∈ cs, PySem.W.CodeHd s₁.heap p.1 p.2)
    (hbm : ∃ (bm : Addr) (ob : Obj), mg "__builtins__" = some (.ref bm) ∧ bm ≠ builtinsNs ∧ s₁.heap.get? bm = some ob ∧ ob.cls = .type "module" ∧ ob.dict = some builtinsNs ∧ ob.data = .plain)
    (ha : s₁.heap.get? a = some { cls := .type "list", data := .seq vs.toArray }) (hi : IntsAre vs ns) (hl : ns.length ≤ sizeLine)
    (F : ∀ base : Heap, K.In base → base.Ns mainGlobals mg → (∀ p ∈ cs, TabB base mg p.1 p.2) → FnC P w K mg base fa fd [x] sp) (hbind : ∀ (s : Shared) (u : Value), BindsTo s fd ⟨[u], []⟩ [(x, u)])
    (hsp : ∀ H : Hp, (∀ p ∈ cs, H p.2 = some (.tbl #[])) → SqL K H a (ns.map V.int) → sp [.ref a] H (fun v _ => v = .bl true) fun _ _ _ => False) :
    codeAny (model P w) callerA (.call (.ref fa) ⟨[.ref a], []⟩) (fun r s' => r = .ok (.ret (.bool true)) ∧ OldK s₁.heap s'.heap ∧ s'.os = s₁.os ∧ AllBare s'.gens) s₁ := by
  have tabOf : ∀ b ∈ cs.map (·.2), s₁.heap.get? b = some { cls := .none, data := .fields #[] } := fun b hb => by
    obtain ⟨p, hp, rfl⟩ := List.mem_map.mp hb
    exact hT p hp
  have aOut : a ∉ cs.map (·.2) := fun z => by
    have := tabOf a z
    rw [ha] at this
    exact nomatch congrArg Obj.data (Option.some.inj this)
  have tabIn : ∀ p ∈ cs, p.2 ∈ cs.map (·.2) := fun p hp => List.mem_map.mpr ⟨p, hp, rfl⟩
  generalize hH : atE K cs a vs ns = H
  have H1 : ∀ p ∈ cs, H p.2 = some (.tbl #[]) := fun p hp => by
    rw [← hH]
    exact if_pos (tabIn p hp)
  have H2 : K.lookup a = none → H a = some (.frz { cls := .type "list", data := .seq vs.toArray } (.lst (ns.map V.int))) := fun z => by
    rw [← hH]
    exact (if_neg aOut).trans (if_pos ⟨rfl, z⟩)
  have H3 : ∀ b u, H b = some u → (b ∈ cs.map (·.2) ∧ u = .tbl #[]) ∨ (b = a ∧ K.lookup a = none ∧ u = .frz { cls := .type "list", data := .seq vs.toArray } (.lst (ns.map V.int))) := fun b u e => by
    rw [← hH] at e
    unfold atE at e
    split at e
    · rename_i z
      exact .inl ⟨z, (Option.some.inj e).symm⟩
    · split at e
      · rename_i z
        exact .inr ⟨z.1, z.2, (Option.some.inj e).symm⟩
      · cases e
  -- what is no list and no empty table is not tracked; nor is an object of the module
  have free : ∀ {b : Addr} {o : Obj}, s₁.heap.get? b = some o → (∀ vs n, o.data ≠ .seq vs n) → o.data ≠ .fields #[] → H b = none := fun {b o} e n1 n2 => by
    cases q : H b with
    | none => rfl
    | some u =>
      rcases H3 b u q with ⟨z, _⟩ | ⟨z, _⟩
      · rw [tabOf b z] at e
        cases e
        exact absurd rfl n2
      · rw [z, ha] at e
        cases e
        exact absurd rfl (n1 _ _)
  have freeK : ∀ b o, K.lookup b = some o → H b = none := fun b o e => by
    cases q : H b with
    | none => rfl
    | some u =>
      rcases H3 b u q with ⟨z, _⟩ | ⟨z, y, _⟩
      · obtain ⟨p, hp, rfl⟩ := List.mem_map.mp z
        rw [nT p hp] at e
        cases e
      · rw [z, y] at e
        cases e
  have inB : ∀ {b : Addr} {o : Obj}, s₁.heap.get? b = some o → H b = none → (hidT s₁.heap H).get? b = some o := fun e n => hidT_get e n
  have nsB : ∀ {b : Addr} {m : Str → Option Value}, s₁.heap.Ns b m → (hidT s₁.heap H).Ns b m := fun {b m} ⟨o, es, ep, e, d, r⟩ =>
    ⟨o, es, ep, inB e (free e (fun _ _ z => by rw [d] at z; cases z) fun z => by rw [d] at z; cases z), d, r⟩
  have kB : K.In (hidT s₁.heap H) := fun b o e => inB (KX b o e) (freeK b o e)
  have mo : L2.Mod K mg (hidT s₁.heap H) := ⟨kB, nsB hns, ⟨mb, nsB hb, hbb⟩, hlim.imp fun _ z => ⟨nsB z.1, z.2⟩⟩
  have okH : HOk P w H s₁.heap := fun b u e => by
    rcases H3 b u e with ⟨z, rfl⟩ | ⟨rfl, _, rfl⟩
    · exact tabOf b z
    · exact ⟨ha, by rw [List.length_map]; exact hl, vs, _, vals_ints hi, ha⟩
  have tB : ∀ p ∈ cs, TabB (hidT s₁.heap H) mg p.1 p.2 := fun p hp => by
    have gp := hT p hp
    obtain ⟨og, eg, epg, e1, d1, _⟩ := id hns
    refine ⟨?_, ?_, fun z => by rw [z, gp] at e1; cases e1; cases d1⟩
    · obtain ⟨o, us, file, tf, flags, tg, inF, text, tt, c1, r1, r2, r3, r⟩ := C p hp
      exact ⟨o, us, file, tf, flags, tg, inF, text, tt, inB c1 (free c1 (fun _ _ z => by rw [r2] at z; cases z) (fun z => by rw [r2] at z; cases z; simp at r3)), r1, r2, r3, r⟩
    · obtain ⟨bm, ob, b1, b2, b3, b4, b5, b6⟩ := hbm
      exact ⟨bm, ob, b1, b2, (fun z => by rw [z, e1] at b3; cases b3; rw [d1] at b6; cases b6), (fun z => by rw [z, gp] at b3; cases b3; cases b6), inB b3 (free b3 (fun _ _ z => by rw [b6] at z; cases z) (fun z => by rw [b6] at z; cases z)), b4, b5, b6⟩
  have sq : SqL K H a (ns.map V.int) := by
    cases e : K.lookup a with
    | none => exact .inl (.inr ⟨_, H2 e⟩)
    | some o =>
      have z := KX a o e
      rw [ha] at z
      cases z
      exact .inr ⟨_, vs.toArray, _, e, rfl, rfl, rfl, by rw [List.size_toArray, hi.length]; exact hl, by simpa using vals_ints hi⟩
  refine codeAny_mono ((F _ kB (nsB hns) tB).run s₁ H ⟨[.ref a], []⟩ [.ref a] [.ref a] _ _ ⟨rfl, mo, fun b o e => of_hidT e, Nat.le_of_eq (hidT_size _ _), trivial, (fun b z => nomatch z), okH, .of_eq hg⟩ (hbind s₁ (.ref a)) (.cons rfl .nil) (hsp H H1 sq)) fun r s' h => ?_
  match r, h with
  | .error e, h => exact False.elim h
  | .ok .next, h => exact False.elim h
  | .ok .brk, h => exact False.elim h
  | .ok .cont, h => exact False.elim h
  | .ok (.ret u), ⟨v, H', os, bare, un, ok', rv, q⟩ =>
    obtain rfl : v = .bl true := q
    obtain rfl : u = Value.bool true := rv
    have stay : ∀ b o, b ∉ cs.map (·.2) → s₁.heap.get? b = some o → s'.heap.get? b = some o := fun b o nb e => by
      cases q : H b with
      | none => exact un.keep b o e q (fun z => nomatch z) (fun z => nomatch z)
      | some y =>
        rcases H3 b y q with ⟨z, _⟩ | ⟨_, _, rfl⟩
        · exact absurd z nb
        · have e1 := (okH b _ q).1
          rw [e] at e1
          cases e1
          exact (ok' b _ (un.frzs b _ _ q)).1
    have grow : ∀ b ∈ cs.map (·.2), ∃ (p : Addr × Addr) (more : Array Value), p ∈ cs ∧ p.2 = b ∧ s'.heap.get? b = some { cls := .none, data := .fields (#[] ++ more) } := fun b hb => by
      obtain ⟨p, hp, rfl⟩ := List.mem_map.mp hb
      obtain ⟨more, z⟩ := un.tbls p.2 #[] (H1 p hp)
      exact ⟨p, more, hp, rfl, ok' p.2 _ z⟩
    refine ⟨rfl, ⟨fun b o e => ?_, fun b o e => ?_⟩, os, bare⟩
    · by_cases hb : b ∈ cs.map (·.2)
      · obtain ⟨p, more, hp, rfl, hm⟩ := grow b hb
        rw [hT p hp] at e
        cases e
        exact .inr (.inl ⟨((C p hp).tab (hT p hp)).isCodeTable, rfl, #[], more, rfl, hm⟩)
      · exact .inl (stay b o hb e)
    · by_cases hb : b ∈ cs.map (·.2)
      · obtain ⟨p, more, _, _, hm⟩ := grow b hb
        exact ⟨_, hm⟩
      · exact ⟨o, stay b o hb e⟩
end
/-- what is known of the law's promise at the head's heap h -/
def LawC (l : PySem.W.OpenLaw) (w : World) (K : PySem.W.Frag) (n : Nat) (x : Str) (mg : Str → Option Value) (fa : Addr) (h : Heap) : Prop :=
  ∃ (fd : FuncData) (cs : List (Addr × Addr)) (sp : Sp), (∀ p ∈ cs, h.get? p.2 = some { cls := .none, data := .fields #[] }) ∧ (∀ p ∈ cs, K.lookup p.2 = none) ∧ (∀ p ∈ cs, PySem.W.CodeHd h p.1 p.2) ∧ (∀ (s : Shared) (u : Value), BindsTo s fd ⟨[u], []⟩ [(x, u)]) ∧
    (∀ (H : Hp) (a : Addr) (ns : List Int), ns.length ≤ n → (∀ z ∈ ns, Builtin.Int.intBits z ≤ 1048576) → (∀ p ∈ cs, H p.2 = some (.tbl #[])) → SqL K H a (ns.map V.int) → sp [.ref a] H (fun v _ => v = .bl true) fun _ _ _ => False) ∧
    ∀ base : Heap, K.In base → base.Ns mainGlobals mg → (∀ p ∈ cs, TabB base mg p.1 p.2) → FnC l.prog w K mg base fa fd [x] sp
theorem walk_ofC {l : PySem.W.OpenLaw} {n : Nat} {q : Program} {loose : List Str} {XP : (Str → Option Value) → Heap → Prop} {YP : World → Heap → Prop} {d : DefRec} {K : Params → PySem.W.Frag} {x : Str}
    (hn : l.most = some n) (hn2 : n ≤ sizeLine) (hdf : d.params.defaults = []) (hY : ∀ (w : World) (h : Heap), YP w h → (K w.params).In h)
    (F : ∀ (w : World) (mg : Str → Option Value) (fa : Addr) (h : Heap), YP w h → (K w.params).In h → h.Ns mainGlobals mg → mg d.name = some (.ref fa) → LawC l w (K w.params) n x mg fa h) :
    PySem.W.WalkO q loose XP YP l.row.toRowW d [] (fun f vs => PySem.call f vs) := by
  refine Att.attach_callB hn hdf fun w s₀ s₁ mg mb fa o pm cd doc a vs ns G Y ho hd hcd hmg hobj hints hlen hbits hg => ?_
  have KX := hY w _ Y
  obtain ⟨fd, cs, sp, hT, nT, C, hb, hsp, hF⟩ := F w mg fa _ Y KX G.T.g hmg
  exact law_callC KX G.T.g G.T.b G.T.builtins G.T.nolimit hg hT nT C G.T.bmain hobj hints (Nat.le_trans hlen hn2) hF hb fun H hH hS => hsp H a ns hlen hbits hH hS
end GX
/-! the end of a law that the caller alone calls, where the program's own defs hold generator expressions -/
namespace GX
open PySem PySem.Spec PyProof.Rows L2 GxR
/-- each def of the view q has an empty table -/
def AllTabs (q : Program) (K : PySem.W.Frag) (mg : Str → Option Value) (h : Heap) : Prop :=
  ∀ (x : Str) (f : Addr), ((recsOf q).any fun e => e.name == x) = true → mg x = some (.ref f) → LamX.OwnTab K f h
theorem walk_tabsC {l : PySem.W.OpenLaw} {n : Nat} {q : Program} {loose : List Str} {XP : (Str → Option Value) → Heap → Prop} {YP : World → Heap → Prop} {d : DefRec} {K : Params → PySem.W.Frag} {x : Str}
    (hn : l.most = some n) (hn2 : n ≤ sizeLine) (hdf : d.params.defaults = []) (hY : ∀ (w : World) (h : Heap), YP w h → (K w.params).In h)
    (F : ∀ (w : World) (mg : Str → Option Value) (fa : Addr) (h : Heap), YP w h → (K w.params).In h → h.Ns mainGlobals mg → mg d.name = some (.ref fa) → AllTabs q (K w.params) mg h → LawC l w (K w.params) n x mg fa h) :
    PySem.W.WalkO q loose XP YP l.row.toRowW d [] (fun f vs => PySem.call f vs) := by
  refine Att.attach_callB hn hdf fun w s₀ s₁ mg mb fa o pm cd doc a vs ns G Y ho hd hcd hmg hobj hints hlen hbits hg => ?_
  have KX := hY w _ Y
  have tabs : AllTabs q (K w.params) mg s₁.heap := by
    intro y f hy hf c P o1 f1 e dd ws sl i1 i2 i3 i4 i5
    obtain ⟨r, hr, hr2⟩ := List.any_eq_true.mp hy
    have nm : r.name = y := beq_iff_eq.mp hr2
    obtain ⟨a2, o2, f2, c2, P2, j1, j2, j3, j4, j5, ⟨oc, vc, t1, _, t3, t4⟩, empty⟩ := G.T.tab r hr
    rw [nm, hf] at j1
    cases j1
    have at1 := KX _ _ i1
    rw [at1] at j2
    cases j2
    rw [i2] at j3
    cases j3
    rw [i3] at j4
    cases j4
    have at2 := KX _ _ i4
    rw [at2] at t1
    cases t1
    cases t3
    rw [i5] at t4
    cases t4
    exact empty
  obtain ⟨fd, cs, sp, hT, nT, C, hb, hsp, hF⟩ := F w mg fa _ Y KX G.T.g hmg tabs
  exact law_callC KX G.T.g G.T.b G.T.builtins G.T.nolimit hg hT nT C G.T.bmain hobj hints (Nat.le_trans hlen hn2) hF hb fun H hH hS => hsp H a ns hlen hbits hH hS
end GX
namespace K20
open PySem PySem.Spec PyProof.Rows L2 QR
open GxR (TabB TabG Tabbed GenS)
/-! ### the text -/
def topS (i : Nat) : Stmt := PySem.Challenge.pw_quiltward_k20_written_labels_and_names.main.body.getD i (.Pass ⟨0, 0, 0, 0⟩)
abbrev sWord : Stmt := topS 3
abbrev sNum : Stmt := topS 4
theorem scWord : FnScope ["text", "signs", "most"] ["text", "signs", "most"] (defScope sWord) := ⟨rfl, rfl, rfl, by decide +kernel, rfl, by decide +kernel, by decide +kernel⟩
theorem scNum : FnScope ["text", "most", "number"] ["text", "most"] (defScope sNum) := ⟨rfl, rfl, rfl, by decide +kernel, rfl, by decide +kernel, by decide +kernel⟩

/-! ### what the defs compute -/
def wordB (t z : Str) (m : Int) : Bool := decide ((1 : Int) ≤ (t.length : Int)) && (decide ((t.length : Int) ≤ m) && t.cps.toList.all fun c => decide (c ∈ z.cps.toList))
theorem tabbed_refl {P : Addr} {H : Hp} (h : TabG H P) : Tabbed P H H := ⟨h, fun _ _ => rfl⟩
theorem tabbed_trans {P : Addr} {H H1 H2 : Hp} (a : Tabbed P H H1) (b : Tabbed P H1 H2) : Tabbed P H H2 := ⟨b.1, fun x ne => (b.2 x ne).trans (a.2 x ne)⟩

section
variable {P : Program} {w : World} {K : PySem.W.Frag} {mg : Str → Option Value} {base : Heap}
/-! ### is_word -/
def spWord (T : Addr) : Sp := fun vs H Q _ => ∃ (t z : Str) (m : Int), vs = [.str t, .str z, .int m] ∧ t.length ≤ sizeLine ∧ TabG H T ∧ ∀ H', Tabbed T H H' → Q (.bl (wordB t z m)) H'
theorem ok_word {c T f : Addr} {oc kV doc pm ct : Value} {od an : Option Addr} {osl : Array (Option Value)} (lk : K.lookup f = some ⟨oc, od, .func (PySem.W.fnOf "is_word" "is_word" (defArgs sWord) (defBody sWord) (defScope sWord) .none kV doc pm an (.ref c) ct), osl⟩)
    (hcd : PySem.W.codeIn K (.ref c) "is_word" = true) (TB : TabB base mg c T) (ml : mg "len" = none) (ma : mg "all" = none) :
    FnOk P w K mg base CX0 1 f (PySem.W.fnOf "is_word" "is_word" (defArgs sWord) (defBody sWord) (defScope sWord) .none kV doc pm an (.ref c) ct) ["text", "signs", "most"] (spWord T) := by
  refine fn_of lk hcd scWord (fun vs H Q E h => ?_) fun A outer s H vs Q E hr h => ?_
  · obtain ⟨t, z, m, rfl, _⟩ := h
    rfl
  · obtain ⟨t, z, m, rfl, hl, hT, q⟩ := h
    refine ⟨_, pss_one (ps_ret (pe_and (pe_chain op_le op_le pe_int (pe_callB call_len_str (by rfl) ml PySem.boot_len (pa_cons (pv 0) pa_nil)) (pv 2))
      (pe_one (pe_allIn (i := 1) hr (by rfl) ma TB rfl ⟨rfl, rfl, by decide +kernel, by decide +kernel, by decide +kernel, ?fr⟩ (pv 0) (fun _ => rfl) rfl rfl rfl ?cl)))), ?_⟩
    case fr =>
      intro y hy e
      rcases List.mem_cons.mp hy with rfl | hy
      · cases e
      rcases List.mem_cons.mp hy with rfl | hy
      · cases e
      rcases List.mem_cons.mp hy with rfl | hy
      · exact ⟨_, rfl⟩
      · cases hy
    case cl => rfl
    refine ⟨_, rfl, t, rfl, hl, 1, (t.length : Int), rfl, rfl, _, rfl, ?_⟩
    refine ite2 (fun h1 => ?_) (fun h1 => ?_)
    · refine ⟨_, rfl, _, m, rfl, rfl, _, rfl, ite2 (fun h2 => ?_) (fun h2 => ?_)⟩
      · refine ⟨_, rfl, t, z, rfl, rfl, hT, fun H2 t2 => ?_⟩
        have e : wordB t z m = t.cps.toList.all fun c => decide (c ∈ z.cps.toList) := by
          unfold wordB
          rw [h1, h2, Bool.true_and, Bool.true_and]
        rw [← e]
        exact q H2 t2
      · have e : wordB t z m = false := by
          unfold wordB
          rw [Bool.eq_false_iff.mpr h2, Bool.false_and, Bool.and_false]
        have z0 := q H (tabbed_refl hT)
        rw [e] at z0
        exact z0
    · have e : wordB t z m = false := by
        unfold wordB
        rw [Bool.eq_false_iff.mpr h1, Bool.false_and]
      have z0 := q H (tabbed_refl hT)
      rw [e] at z0
      exact ⟨_, rfl, iteF z0⟩
end
end K20
namespace K20
open PySem PySem.Spec PyProof.Rows L2 QR TL TR
open GxR (TabB TabG Tabbed GenS)
/-! ### what the defs compute, over texts -/
def digitsS : Str := "0123456789"
theorem digits_tl : tl digitsS = [48, 49, 50, 51, 52, 53, 54, 55, 56, 57] := by decide +kernel
theorem digit_mem (c : Nat) : c ∈ tl digitsS ↔ (48 ≤ c ∧ c ≤ 57) := by
  rw [digits_tl]
  constructor
  · intro h
    simp only [List.mem_cons, List.not_mem_nil, or_false] at h
    omega
  · intro h
    simp only [List.mem_cons, List.not_mem_nil, or_false]
    omega
def optV : Option Nat → V
  | none => .non
  | some n => .int (n : Int)
theorem word_digits (t : Str) (m : Nat) : wordB t digitsS ((numL m).length : Nat) = true ↔ ¬ ((tl t).length = 0 ∨ (numL m).length < (tl t).length ∨ ¬ NumText.AllDigits (tl t)) := by
  unfold wordB
  rw [Bool.and_eq_true, Bool.and_eq_true, decide_eq_true_eq, decide_eq_true_eq, List.all_eq_true, len_tl]
  constructor
  · rintro ⟨h1, h2, h3⟩ z
    rcases z with z | z | z
    · omega
    · omega
    · exact z fun c hc => (digit_mem c).mp (of_decide_eq_true (h3 c hc))
  · intro h
    refine ⟨?_, ?_, fun c hc => decide_eq_true ((digit_mem c).mpr ?_)⟩
    · have : (tl t).length ≠ 0 := fun z => h (.inl z)
      omega
    · have : ¬ (numL m).length < (tl t).length := fun z => h (.inr (.inl z))
      omega
    · exact (Decidable.byContradiction fun z => h (.inr (.inr z)) : NumText.AllDigits (tl t)) c hc
theorem log2_small {i : Int} {n : Nat} (h : i.natAbs < 2 ^ n) (hn : 0 < n) (h2 : n ≤ 1920) : i.natAbs.log2 < 1920 := Nat.lt_of_lt_of_le (PySem.Flt.log2_lt_of hn h) h2

section
variable {P : Program} {w : World} {K : PySem.W.Frag} {mg : Str → Option Value} {base : Heap}
/-! ### read_number -/
def spNum (T : Addr) : Sp := fun vs H Q _ => ∃ (t : Str) (m : Nat), vs = [.str t, .int (m : Int)] ∧ t.length ≤ sizeLine ∧ m < 10 ^ 18 ∧ TabG H T ∧ ∀ H', Tabbed T H H' → Q (optV (readNum (tl t) m)) H'
theorem ok_num {T f fW : Addr} {fd fdW : FuncData} {td : Tok} (F : Fun K "read_number" "read_number" sNum f fd) (GW : FnOk P w K mg base CX0 1 fW fdW ["text", "signs", "most"] (spWord T)) (bW : Binds K fdW ["text", "signs", "most"] [])
    (gW : mg "is_word" = some (.ref fW)) (kW : PySem.W.keepIn K (.ref fW) = true) (gD : mg "DIGITS" = some (.str digitsS td)) (ml : mg "len" = none) (ms : mg "str" = none) (mi : mg "int" = none) :
    FnOk P w K mg base CX0 2 f fd ["text", "most"] (spNum T) := by
  refine F.ok scNum (fun vs H Q E h => ?_) (fun cdv A outer s H vs Q E hr h => ?_)
  · obtain ⟨t, m, rfl, _⟩ := h
    rfl
  · obtain ⟨t, m, rfl, hl, hm, hT, q⟩ := h
    refine ⟨_, pss_cons (ps_if (pt_not (pt_val (pe_call GW hr (by rfl) gW kW bW .nil pass0 (pa_cons (pv 0) (pa_cons (pe_glob (v := V.str digitsS) (by rfl) gD ⟨_, rfl⟩)
        (pa_cons (pe_callB call_len_str (by rfl) ml PySem.boot_len (pa_cons (pe_callTy call_str_int (by rfl) ms (by decide +kernel) (pa_cons (pv 1) pa_nil)) pa_nil)) pa_nil)))))) (pss_one (ps_ret pe_non)) pss_nil)
      (pss_cons (ps_if (PW.pt (pw_and (pt_cmpR op_eq (pe_ix ix_str (pv 0) pe_int (fun _ _ => rfl)) pe_str (nomark _)) (pw_and1 (pt_cmpR op_ne (pv 0) pe_str (nomark _))))) (pss_one (ps_ret pe_non)) pss_nil)
      (pss_cons (ps_set (i := 2) scNum.nd rfl (.inl rfl) (pe_callTy call_int_str (by rfl) mi (by decide +kernel) (pa_cons (pv 0) pa_nil)))
      (pss_one (ps_ret (pe_ifExp (pt_cmpR op_le (pv 2) (pv 1) (nomark _)) (pv 2) pe_non))))), ?_⟩
    have p18 : (10 : Nat) ^ 18 < 2 ^ 60 := by decide
    have lm : (numL m).length ≤ 18 := numL_len (by decide) hm
    have em : (Str.ofString (toString (m : Int))).length = (numL m).length := by rw [len_tl, tl_num]
    refine ⟨_, rfl, _, rfl, (m : Int), rfl, log2_small (n := 60) (by omega) (by decide) (by decide), _, rfl, ?_, t, digitsS, _, rfl, hl, hT, fun H1 t1 => ?_⟩
    · rw [sizeLine_eq, em]
      omega
    rw [em]
    refine ⟨_, rfl, ?_⟩
    have qq := q H1 t1
    have wd := word_digits t m
    cases hw : wordB t digitsS ((numL m).length : Nat) with
    | false =>
      have bad : (tl t).length = 0 ∨ (numL m).length < (tl t).length ∨ ¬ NumText.AllDigits (tl t) := Decidable.byContradiction fun z => by
        have := wd.mpr z
        rw [hw] at this
        cases this
      have e : readNum (tl t) m = none := if_pos bad
      rw [e] at qq
      exact iteT qq
    | true =>
      have good := wd.mp hw
      refine iteF ?_
      obtain ⟨c, r, et⟩ : ∃ c r, tl t = c :: r := by
        cases h0 : tl t with
        | nil => exact absurd (.inl (by rw [h0]; rfl)) good
        | cons c r => exact ⟨c, r, rfl⟩
      have len1 : (tl t).length ≤ (numL m).length := Decidable.byContradiction fun z => good (.inr (.inl (by omega)))
      have dig : NumText.AllDigits (tl t) := Decidable.byContradiction fun z => good (.inr (.inr z))
      have hd0 : (tl t).head? = some c := by
        rw [et]
        rfl
      refine ⟨_, rfl, t, 0, c, rfl, rfl, hl, ?_, rfl, _, rfl, ?_⟩
      · show atI (tl t) ((0 : Nat) : Int) = some c
        rw [et]
        exact atI_nat rfl
      have sg : ∀ a : Nat, (V.str ⟨#[a]⟩ = V.str (Str.ofString "0")) ↔ a = 48 := fun a => by
        constructor
        · intro e
          have e2 : (⟨#[a]⟩ : Str) = Str.ofString "0" := V.str.inj e
          have e3 := congrArg tl e2
          rw [show tl (Str.ofString "0") = [48] by decide +kernel] at e3
          exact List.cons.inj e3 |>.1
        · intro e
          rw [e, show Str.ofString "0" = ⟨#[48]⟩ by decide +kernel]
      have sz : (V.str t = V.str (Str.ofString "0")) ↔ tl t = [48] := by
        constructor
        · intro e
          rw [V.str.inj e]
          decide +kernel
        · intro e
          exact congrArg V.str (ext_tl (e.trans (by decide +kernel)))
      have val := PySem.intText_digits (x := t) dig (by rw [show t.cps.toList = c :: r from et]; simp) (by rw [len_tl]; omega)
      by_cases hz : c = 48 ∧ tl t ≠ [48]
      · have e : readNum (tl t) m = none := (if_neg good).trans (if_pos ⟨by rw [hd0, hz.1], hz.2⟩)
        rw [e] at qq
        rw [decide_eq_true ((sg c).mpr hz.1)]
        refine iteT ⟨_, rfl, rfl, _, rfl, ?_⟩
        rw [decide_eq_false fun y => hz.2 (sz.mp y)]
        exact iteT qq
      · have e : readNum (tl t) m = if NumText.digitsVal (tl t) ≤ m then some (NumText.digitsVal (tl t)) else none := (if_neg good).trans (if_neg fun y => hz ⟨by
          have := y.1
          rw [hd0] at this
          exact Option.some.inj this, y.2⟩)
        rw [e] at qq
        by_cases h48 : c = 48
        · have h1 : tl t = [48] := Decidable.byContradiction fun y => hz ⟨h48, y⟩
          rw [decide_eq_true ((sg c).mpr h48)]
          refine iteT ⟨_, rfl, rfl, _, rfl, ?_⟩
          rw [decide_eq_true (sz.mpr h1)]
          refine iteF ?_
          refine ⟨_, rfl, t, _, rfl, val, by rw [len_tl]; omega, ?_⟩
          refine ⟨_, rfl, _, rfl, _, _, rfl, rfl, _, rfl, ite2 (fun y => ?_) (fun y => ?_)⟩
          · have y1 : ((NumText.digitsVal (tl t) : Nat) : Int) ≤ (m : Int) := of_decide_eq_true y
            rw [if_pos (by omega)] at qq
            exact ⟨_, rfl, qq⟩
          · have y1 : ¬ ((NumText.digitsVal (tl t) : Nat) : Int) ≤ (m : Int) := fun z => y (decide_eq_true z)
            rw [if_neg (by omega)] at qq
            exact qq
        · rw [decide_eq_false fun y => h48 ((sg c).mp y)]
          refine iteF (iteF ?_)
          refine ⟨_, rfl, t, _, rfl, val, by rw [len_tl]; omega, ?_⟩
          refine ⟨_, rfl, _, rfl, _, _, rfl, rfl, _, rfl, ite2 (fun y => ?_) (fun y => ?_)⟩
          · have y1 : ((NumText.digitsVal (tl t) : Nat) : Int) ≤ (m : Int) := of_decide_eq_true y
            rw [if_pos (by omega)] at qq
            exact ⟨_, rfl, qq⟩
          · have y1 : ¬ ((NumText.digitsVal (tl t) : Nat) : Int) ≤ (m : Int) := fun z => y (decide_eq_true z)
            rw [if_neg (by omega)] at qq
            exact qq
end
end K20
namespace K20
open PySem PySem.Spec PyProof.Rows L2
abbrev sState : Stmt := topS 24
abbrev sDraw : Stmt := topS 25
abbrev sPick : Stmt := topS 26
theorem scState : FnScope ["script", "seed", "cell"] ["script"] (defScope sState) := ⟨rfl, rfl, rfl, by decide +kernel, rfl, by decide +kernel, by decide +kernel⟩
theorem scDraw : FnScope ["state", "many", "cells", "value", "mixed"] ["state", "many"] (defScope sDraw) := ⟨rfl, rfl, rfl, by decide +kernel, rfl, by decide +kernel, by decide +kernel⟩
theorem scPick : FnScope ["state", "row"] ["state", "row"] (defScope sPick) := ⟨rfl, rfl, rfl, by decide +kernel, rfl, by decide +kernel, by decide +kernel⟩
/-! ### the state of the draws: a list of a list and a number -/
structure StateAt (H : Hp) (p c : Addr) : Prop where
  ex : ∃ (seed : Int) (ms : List Int), H p = some (.lst [.ref c, .int seed]) ∧ H c = some (.lst (ms.map V.int)) ∧ ms.length ≤ 63 ∧ (∀ m ∈ ms, 0 ≤ m) ∧ 0 ≤ seed ∧ seed < 4294967296
  ne : p ≠ c
/-- only the state has changed -/
def Drawn (p c : Addr) (H H' : Hp) : Prop := ∀ b, b ≠ p → b ≠ c → H' b = H b
theorem drawn_refl {p c : Addr} {H : Hp} : Drawn p c H H := fun _ _ _ => rfl
theorem drawn_trans {p c : Addr} {H H1 H2 : Hp} (a : Drawn p c H H1) (b : Drawn p c H1 H2) : Drawn p c H H2 := fun x h1 h2 => (b x h1 h2).trans (a x h1 h2)
theorem StateAt.mono {H H' : Hp} {p c : Addr} (s : StateAt H p c) (hp : ∀ o, H p = some o → H' p = some o) (hc : ∀ o, H c = some o → H' c = some o) : StateAt H' p c := by
  obtain ⟨⟨seed, ms, h1, h2, h3⟩, ne⟩ := s
  exact ⟨⟨seed, ms, hp _ h1, hc _ h2, h3⟩, ne⟩
section
variable {P : Program} {w : World} {K : PySem.W.Frag} {mg : Str → Option Value} {base : Heap}
/-! ### _law_state -/
def spState (K : PySem.W.Frag) : Sp := fun vs H Q _ => ∃ (a : Addr) (ns : List Int), vs = [.ref a] ∧ SqL K H a (ns.map V.int) ∧ ns.length ≤ 63 ∧
  ∀ H' p c, Same H H' → H p = none → H c = none → StateAt H' p c → Q (.ref p) H'
theorem abs_nn (z : Int) : 0 ≤ (if z < 0 then -z else z) := by
  split <;> omega
theorem ok_state {f : Addr} {fd : FuncData} (F : Fun K "_law_state" "_law_state" sState f fd) (ma : mg "abs" = none) (mi : mg "int" = none) : FnOk P w K mg base CX0 1 f fd ["script"] (spState K) := by
  refine F.ok scState (fun vs H Q E h => ?_) (fun cdv A outer s H vs Q E hr h => ?_)
  · obtain ⟨a, ns, rfl, _⟩ := h
    rfl
  · obtain ⟨a, ns, rfl, hS, hl, q⟩ := h
    refine ⟨_, pss_cons (ps_set (i := 1) scState.nd rfl (.inl rfl) pe_int)
      (pss_cons (ps_for PassesOwn.never rfl (pi_list (pv 0)) (pg_name (i := 2) scState.nd rfl (.inl rfl))
        (pss_one (ps_set (i := 1) scState.nd rfl (.inl rfl) (pe_op op_mod (pe_callTy call_int1 (by rfl) mi (by decide +kernel) (pa_cons (pe_op op_add (pe_op op_mul (pv 1) pe_int) (pv 2)) pa_nil)) pe_int))))
      (pss_one (ps_ret (pe_lst (pa_cons (pe_lc (own := [("cell", 2)]) (g := gName 2) (tt := tYes) rfl scState.nd (pi_list (pv 0)) (blkOk_by (N := ["script", "seed", "cell"]) (sc := defScope sState) (by decide +kernel))
          (fun _ _ _ _ _ => pg_name (i := 2) scState.nd rfl (Or.inl rfl)) (fun _ _ _ _ _ => pts_nil) (fun _ _ _ _ _ => pe_callB call_abs (by rfl) ma (by decide +kernel) (pa_cons (pv 2) pa_nil)))
        (pa_cons (pe_op op_add (pv 1) pe_int) pa_nil)))))), ?_⟩
    refine ⟨.ref a, rfl, a, rfl, ⟨_, hS⟩, for_list (xs := ns.map V.int) (fun i σ H' => ∃ (z : Int) (y : Option V), σ = [some (.ref a), some (.int z), y] ∧ 0 ≤ z ∧ z < 1000003 ∧ H' = H) ⟨7, none, rfl, by omega, by omega, rfl⟩ ?_ ?_ ?_⟩
    · rintro i σ H' _ ⟨z, y, _, _, _, rfl⟩
      exact hS
    · rintro i x σ H' hx ⟨z, y, rfl, h0, h1, rfl⟩
      obtain ⟨n, _, rfl⟩ := List.mem_map.mp (List.mem_of_getElem? hx)
      refine ⟨_, rfl, _, _, rfl, rfl, .inl ⟨by omega, by omega⟩, _, rfl, _, _, rfl, rfl, .inl ⟨_, rfl, _, _, rfl, rfl, by show (0 : Int) < 1000003; decide, ?_⟩⟩
      exact ⟨_, _, rfl, Int.emod_nonneg _ (by decide), Int.emod_lt_of_pos _ (by decide), rfl⟩
    · rintro σ H' ⟨z, y, rfl, h0, h1, rfl⟩
      refine ⟨.ref a, rfl, a, rfl, ⟨_, hS⟩, fun D nD => ?_⟩
      refine lc_list (xs := ns.map V.int) (fun i H2 => H2 = upd H' D (.lst (((ns.take i).map fun n => if n < 0 then -n else n).map V.int))) rfl ?_ ?_ ?_
      · rintro i H2 _ rfl
        exact Same.seq (fun b o e => by rw [upd_ne (ne_of_none e nD)]; exact e) hS
      · rintro i x H2 hx rfl
        have hx2 : (ns.map V.int)[i]? = some x := hx
        rw [List.getElem?_map] at hx2
        obtain ⟨n, hn, rfl⟩ := Option.map_eq_some_iff.mp hx2
        refine ⟨rfl, ?_⟩
        refine ⟨_, rfl, n, rfl, _, upd_same, ?_, ?_⟩
        · rw [List.length_map, List.length_map, List.length_take, sizeLine_eq]
          omega
        · rw [upd_upd, List.take_add_one, hn, List.map_append, List.map_append]
          rfl
      · rintro H2 rfl
        refine ⟨_, rfl, _, _, rfl, rfl, by show 2 ≤ sizeLine; rw [sizeLine_eq]; decide, fun p np => ?_⟩
        have eD : (upd H' D (.lst (((ns.take (ns.map V.int).length).map fun n => if n < 0 then -n else n).map V.int))) D = _ := upd_same
        have nDp : D ≠ p := ne_of_none eD np
        have np0 : H' p = none := by
          rw [← np, upd_ne (Ne.symm nDp)]
        refine q _ p D (fun b o e => ?_) np0 nD ⟨⟨z + 1, (ns.take (ns.map V.int).length).map fun n => if n < 0 then -n else n, upd_same, ?_, ?_, ?_, by omega, by omega⟩, Ne.symm nDp⟩
        · rw [upd_ne (ne_of_none e np0), upd_ne (ne_of_none e nD)]
          exact e
        · rw [upd_ne nDp]
          exact upd_same
        · rw [List.length_map, List.length_take]
          omega
        · intro m hm
          obtain ⟨n, _, rfl⟩ := List.mem_map.mp hm
          exact abs_nn n
end
end K20
namespace K20
open PySem PySem.Spec PyProof.Rows L2
theorem seq0 {n : Nat} (h : 0 < n) : seqIndex? 0 n = some 0 := by
  unfold seqIndex?
  simp [h]
theorem ix0 {n : Nat} (h : 0 < n) : ixN n 0 = some 0 := by
  unfold ixN
  simp [h]
section
variable {P : Program} {w : World} {K : PySem.W.Frag} {mg : Str → Option Value} {base : Heap}
/-! ### _law_draw -/
def spDraw : Sp := fun vs H Q _ => ∃ (p c : Addr) (m : Nat), vs = [.ref p, .int (m : Int)] ∧ m < 1000000000 ∧ StateAt H p c ∧
  ∀ H' (r : Nat), (m = 0 → r = 0) → (0 < m → r < m) → StateAt H' p c → Drawn p c H H' → Q (.int (r : Int)) H'
theorem ok_draw {f : Addr} {fd : FuncData} (F : Fun K "_law_draw" "_law_draw" sDraw f fd) (ml : mg "len" = none) (mi : mg "int" = none) : FnOk P w K mg base CX0 1 f fd ["state", "many"] spDraw := by
  refine F.ok scDraw (fun vs H Q E h => ?_) (fun cdv A outer s H vs Q E hr h => ?_)
  · obtain ⟨p, c, m, rfl, _⟩ := h
    rfl
  · obtain ⟨p, c, m, rfl, hm, ⟨⟨seed, ms, hp, hc, hl, h0, s0, s1⟩, npc⟩, q⟩ := h
    refine ⟨_, (pss_cons (ps_if (pt_cmpR op_lt (pv 1) pe_int (nomark _)) (pss_one (ps_ret pe_int)) pss_nil)
      (pss_cons (ps_set (i := 2) scDraw.nd rfl (.inl rfl) (pe_ix ix_list (pv 0) pe_int (fun _ _ => rfl)))
      (pss_cons (ps_while PassesOwn.never (PW.pt (pw_and (pt_cmpR op_gt (pe_callB call_len_seq (by rfl) ml PySem.boot_len (pa_cons (pv 2) pa_nil)) pe_int (nomark _)) (pw_and1 (pt_cmpR op_eq (pe_ix ix_list (pv 2) pe_int (fun _ _ => rfl)) pe_int (nomark _)))))
        (pss_one (ps_expr (pe_bm PySem.F.plainAttrs_list PySem.F.slot_list_pop PySem.F.type_list_pop mt_popAt (pv 2) (pa_cons pe_int pa_nil)))))
      (pss_cons (ps_if (pt_cmpR op_gt (pe_callB call_len_seq (by rfl) ml PySem.boot_len (pa_cons (pv 2) pa_nil)) pe_int (nomark _))
        (pss_cons (ps_set (i := 3) scDraw.nd rfl (.inl rfl) (pe_ix ix_list (pv 2) pe_int (fun _ _ => rfl)))
      (pss_cons (ps_asg (pe_op op_fdiv (pv 3) (pv 1)) (pg_sub (pv 2) pe_int set_list))
      (pss_one (ps_ret (pe_op op_mod (pe_callTy call_int1 (by rfl) mi (by decide +kernel) (pa_cons (pv 3) pa_nil)) (pv 1)))))) pss_nil)
      (pss_cons (ps_set (i := 4) scDraw.nd rfl (.inl rfl) (pe_op op_mod (pe_callTy call_int1 (by rfl) mi (by decide +kernel) (pa_cons (pe_op op_add (pe_op op_mul (pe_ix ix_list (pv 0) pe_int (fun _ _ => rfl)) pe_int) pe_int) pa_nil)) pe_int))
      (pss_cons (ps_asg (pv 4) (pg_sub (pv 0) pe_int set_list))
      (pss_one (ps_ret (pe_op op_mod (pe_callTy call_int1 (by rfl) mi (by decide +kernel) (pa_cons (pe_op op_fdiv (pv 4) pe_int) pa_nil)) (pv 1)))))))))), ?_⟩
    refine ⟨_, rfl, _, _, rfl, rfl, _, rfl, ite2 (fun h1 => ?_) (fun h1 => ?_)⟩
    · have m0 : m = 0 := by
        have := of_decide_eq_true h1
        omega
      exact q H 0 (fun _ => rfl) (fun z => by omega) ⟨⟨seed, ms, hp, hc, hl, h0, s0, s1⟩, npc⟩ drawn_refl
    have mp : 0 < m := by
      have : ¬ ((m : Nat) : Int) < 1 := fun z => h1 (decide_eq_true z)
      omega
    refine ⟨_, rfl, p, _, 0, _, rfl, rfl, SqL.of hp, atI_nat (j := 0) rfl, ?_⟩
    -- while
    refine ⟨fun n σ H' => ∃ ks : List Int, σ = [some (.ref p), some (.int (m : Int)), some (.ref c), none, none] ∧ n = ks.length ∧ Drawn p c H H' ∧ H' p = some (.lst [.ref c, .int seed]) ∧ H' c = some (.lst (ks.map V.int)) ∧ ks.length ≤ 63 ∧ (∀ k ∈ ks, 0 ≤ k),
      ⟨ms.length, ms, rfl, rfl, drawn_refl, hp, hc, hl, h0⟩, ?_⟩
    rintro n σ H' ⟨ks, rfl, rfl, dr, hp', hc', hl', h0'⟩
    refine ⟨_, rfl, c, _, rfl, .inl (SqL.of hc'), _, _, rfl, rfl, _, rfl, ite2 (fun h2 => ?_) (fun h2 => ?_)⟩
    · obtain ⟨k, r, rfl⟩ : ∃ k r, ks = k :: r := by
        cases ks with
        | nil =>
          have := of_decide_eq_true h2
          exact absurd this (by decide)
        | cons k r => exact ⟨k, r, rfl⟩
      refine ⟨_, rfl, c, _, 0, .int k, rfl, rfl, SqL.of hc', atI_nat (j := 0) rfl, rfl, _, rfl, ite2 (fun h3 => ?_) (fun h3 => ?_)⟩
      · refine ⟨fun σ' H2 => ∃ n', n' < (k :: r).length ∧ ∃ ks : List Int, σ' = [some (.ref p), some (.int (m : Int)), some (.ref c), none, none] ∧ n' = ks.length ∧ Drawn p c H H2 ∧ H2 p = some (.lst [.ref c, .int seed]) ∧ H2 c = some (.lst (ks.map V.int)) ∧ ks.length ≤ 63 ∧ (∀ k ∈ ks, 0 ≤ k), fun _ _ z => z, ?_⟩
        refine ⟨_, rfl, .inl ⟨rfl, _, SqL.of hc'⟩, c, _, 0, 0, .int k, rfl, rfl, hc', by decide, by decide, ?_, rfl, ?_⟩
        · show seqIndex? 0 ((k :: r).map V.int).length = some 0
          show seqIndex? 0 (((k :: r).map V.int).length) = some 0
          exact seq0 (by rw [List.length_map, List.length_cons]; omega)
        · refine ⟨r.length, by show r.length < r.length + 1; omega, r, rfl, rfl, ?_, ?_, ?_, ?_, ?_⟩
          · intro b h1 h2
            rw [upd_ne h2]
            exact dr b h1 h2
          · rw [upd_ne npc]
            exact hp'
          · exact upd_same
          · have : r.length + 1 ≤ 63 := hl'
            omega
          · exact fun x hx => h0' x (List.mem_cons_of_mem _ hx)
      · have kne : k ≠ 0 := fun z => h3 (by rw [z]; rfl)
        have k1 := h0' k List.mem_cons_self
        refine ⟨_, rfl, c, _, rfl, .inl (SqL.of hc'), _, _, rfl, rfl, _, rfl, ite2 (fun _ => ?_) (fun z => absurd h2 z)⟩
        refine ⟨_, rfl, c, _, 0, .int k, rfl, rfl, SqL.of hc', atI_nat (j := 0) rfl, ?_⟩
        refine ⟨_, rfl, _, rfl, k, (m : Int), rfl, rfl, ⟨by omega, by omega⟩, _, rfl, c, _, 0, 0, rfl, rfl, hc', ix0 (by rw [List.length_map, List.length_cons]; omega), ?_⟩
        refine ⟨_, rfl, .inl ⟨_, rfl, _, rfl, _, _, rfl, rfl, by show (0 : Int) < (m : Int); omega, ?_⟩⟩
        have e1 : k % (m : Int) = (((k % (m : Int)).toNat : Nat) : Int) := (Int.toNat_of_nonneg (Int.emod_nonneg _ (by omega))).symm
        have e2 := Int.emod_lt_of_pos k (show (0 : Int) < (m : Int) by omega)
        show Q (V.int (k % (m : Int))) _
        rw [e1]
        refine q _ _ (fun z => by omega) (fun _ => by omega) ⟨⟨seed, (k / (m : Int)) :: r, ?_, ?_, hl', ?_, s0, s1⟩, npc⟩ ?_
        · rw [upd_ne npc]
          exact hp'
        · exact upd_same
        · intro x hx
          rcases List.mem_cons.mp hx with rfl | hx
          · exact Int.ediv_nonneg k1 (by omega)
          · exact h0' x (List.mem_cons_of_mem _ hx)
        · intro b z1 z2
          rw [upd_ne z2]
          exact dr b z1 z2
    · have e0 : ks = [] := by
        cases ks with
        | nil => rfl
        | cons k r => exact absurd (decide_eq_true (show (0 : Int) < (((k :: r).map V.int).length : Int) by rw [List.length_map, List.length_cons]; omega)) h2
      subst e0
      refine ⟨_, rfl, c, _, rfl, .inl (SqL.of hc'), _, _, rfl, rfl, _, rfl, ite2 (fun z => absurd z h2) (fun _ => ?_)⟩
      refine ⟨_, rfl, p, _, 1, _, rfl, rfl, SqL.of hp', atI_nat (j := 1) rfl, _, _, rfl, rfl, .inl ⟨by omega, by omega⟩, _, _, rfl, rfl, .inl ⟨_, rfl, _, _, rfl, rfl, by show (0 : Int) < 2147483647; decide, ?_⟩⟩
      have b0 := Int.emod_nonneg (seed * 48271 + 12345) (show (2147483647 : Int) ≠ 0 by decide)
      have b1 := Int.emod_lt_of_pos (seed * 48271 + 12345) (show (0 : Int) < 2147483647 by decide)
      refine ⟨_, rfl, _, rfl, p, _, 1, 1, rfl, rfl, hp', rfl, ?_⟩
      refine ⟨_, rfl, _, _, rfl, rfl, ⟨by show (0 : Int) < 64; decide, by show (64 : Int) < 1073741824; decide⟩, .inl ⟨_, rfl, _, rfl, _, _, rfl, rfl, by show (0 : Int) < (m : Int); omega, ?_⟩⟩
      have e1 : (seed * 48271 + 12345) % 2147483647 / 64 % (m : Int) = ((((seed * 48271 + 12345) % 2147483647 / 64 % (m : Int)).toNat : Nat) : Int) := (Int.toNat_of_nonneg (Int.emod_nonneg _ (by omega))).symm
      have e2 := Int.emod_lt_of_pos ((seed * 48271 + 12345) % 2147483647 / 64) (show (0 : Int) < (m : Int) by omega)
      show Q (V.int ((seed * 48271 + 12345) % 2147483647 / 64 % (m : Int))) _
      rw [e1]
      refine q _ _ (fun z => by omega) (fun _ => by omega) ⟨⟨(seed * 48271 + 12345) % 2147483647, [], upd_same, ?_, by decide, (fun x hx => nomatch hx), b0, by omega⟩, npc⟩ ?_
      · rw [upd_ne (Ne.symm npc)]
        exact hc'
      · intro b z1 z2
        rw [upd_ne z1]
        exact dr b z1 z2
/-! ### _law_pick -/
def spPick : Sp := fun vs H Q _ => ∃ (p c a : Addr) (xs : List V), vs = [.ref p, .ref a] ∧ H a = some (.lst xs) ∧ a ≠ p ∧ a ≠ c ∧ 0 < xs.length ∧ xs.length < 1000 ∧ StateAt H p c ∧
  ∀ H' v, v ∈ xs → StateAt H' p c → Drawn p c H H' → Q v H'
theorem ok_pick {f fD : Addr} {fd fdD : FuncData} (F : Fun K "_law_pick" "_law_pick" sPick f fd) (GD : FnOk P w K mg base CX0 1 fD fdD ["state", "many"] spDraw) (bD : Binds K fdD ["state", "many"] []) (gD : mg "_law_draw" = some (.ref fD)) (kD : PySem.W.keepIn K (.ref fD) = true) (ml : mg "len" = none) :
    FnOk P w K mg base CX0 2 f fd ["state", "row"] spPick := by
  refine F.ok scPick (fun vs H Q E h => ?_) (fun cdv A outer s H vs Q E hr h => ?_)
  · obtain ⟨p, c, a, xs, rfl, _⟩ := h
    rfl
  · obtain ⟨p, c, a, xs, rfl, ha, np, nc, l0, l1, st, q⟩ := h
    refine ⟨_, (pss_one (ps_ret (pe_ix ix_list (pv 1) (pe_call GD hr (by rfl) gD kD bD .nil pass0 (pa_cons (pv 0) (pa_cons (pe_callB call_len_seq (by rfl) ml PySem.boot_len (pa_cons (pv 1) pa_nil)) pa_nil))) (fun _ _ => rfl)))), ?_⟩
    refine ⟨_, rfl, _, rfl, _, rfl, a, _, rfl, .inl (SqL.of ha), p, c, xs.length, rfl, by omega, st, fun H' r _ hr2 st' dr => ?_⟩
    have lt := hr2 l0
    have ha' : H' a = some (.lst xs) := (dr a np nc).trans ha
    refine ⟨a, _, _, xs[r], rfl, rfl, SqL.of ha', atI_nat (List.getElem?_eq_getElem lt), ?_⟩
    exact q H' _ (List.getElem_mem lt) st' dr
end
end K20
namespace GX
open PySem PySem.Spec PyProof.Rows L2 GxR
theorem wk_str {d : Bool} {x : Str} {g : TG} {tt : TT} {te : TE} {vs : List Nat} {σ : L2.St} {Qe Qd : Hp → Prop} {H0 : Hp} (Pv : Nat → Hp → Prop) (h0 : Pv 0 H0)
    (hs : ∀ i c H, x.cps.toList[i]? = some c → Pv i H → g (.str ⟨#[c]⟩) (wipe σ vs) H fun σ2 H2 => wipe σ2 vs = wipe σ vs ∧ tt σ2 H2 fun b H3 =>
      if b = true then te σ2 H3 fun y H4 => ∃ c, y = .bl c ∧ if c = d then Qd H4 else Pv (i + 1) H4 else Pv (i + 1) H3) (hd : ∀ H, Pv x.cps.toList.length H → Qe H) :
    ∃ W : Nat → Nat → Hp → Prop, (∃ m, W 0 m H0) ∧ Wk d (Its x) g tt te vs σ W Qe Qd := by
  refine ⟨fun i m H => m = x.cps.size - i ∧ i ≤ x.cps.size ∧ Pv i H, ⟨x.cps.size, by simp, Nat.zero_le _, h0⟩, ?_⟩
  rintro i m H ⟨rfl, hi, p⟩
  by_cases hlt : i < x.cps.size
  · refine .inr ⟨hlt, Pv (i + 1), fun H' p' => ⟨x.cps.size - (i + 1), by omega, rfl, hlt, p'⟩, fun v H' y => ?_⟩
    obtain ⟨rfl, c, hc, rfl⟩ := y
    exact hs i c _ (by rw [Array.getElem?_toList]; exact hc) p
  · have e : i = x.cps.size := by omega
    subst e
    exact .inl ⟨Nat.le_refl _, hd H p⟩
theorem wk_tup {d : Bool} {K : PySem.W.Frag} {a : Addr} {xs : List V} {g : TG} {tt : TT} {te : TE} {vs : List Nat} {σ : L2.St} {Qe Qd : Hp → Prop} {H0 : Hp} (Pv : Nat → Hp → Prop) (h0 : Pv 0 H0) (hl : ∀ i H, i ≤ xs.length → Pv i H → SqT K H a xs)
    (hs : ∀ i x H, xs[i]? = some x → Pv i H → g x (wipe σ vs) H fun σ2 H2 => wipe σ2 vs = wipe σ vs ∧ tt σ2 H2 fun b H3 =>
      if b = true then te σ2 H3 fun y H4 => ∃ c, y = .bl c ∧ if c = d then Qd H4 else Pv (i + 1) H4 else Pv (i + 1) H3) (hd : ∀ H, Pv xs.length H → Qe H) :
    ∃ W : Nat → Nat → Hp → Prop, (∃ m, W 0 m H0) ∧ Wk d (Itt K a) g tt te vs σ W Qe Qd := by
  refine ⟨fun i m H => m = xs.length - i ∧ i ≤ xs.length ∧ Pv i H, ⟨xs.length, by simp, Nat.zero_le _, h0⟩, ?_⟩
  rintro i m H ⟨rfl, hi, p⟩
  have q := hl i H hi p
  by_cases hlt : i < xs.length
  · refine .inr ⟨⟨xs, xs[i], q, by simp [hlt]⟩, Pv (i + 1), fun H' p' => ⟨xs.length - (i + 1), by omega, rfl, hlt, p'⟩, fun x H' y => ?_⟩
    obtain ⟨rfl, e⟩ := y
    exact hs i x _ (e xs q) p
  · have e : i = xs.length := by omega
    subst e
    exact .inl ⟨⟨xs, q, Nat.le_refl _⟩, hd H p⟩
end GX
namespace K20
open PySem PySem.Spec PyProof.Rows L2 TL TR QR
open GxR (TabB TabG Tabbed)
theorem zl : 2000000 ≤ sizeLine := by
  rw [sizeLine_eq]
  decide
theorem same_new {a : Addr} {H : Hp} {o : HO} (e : H a = none) : Same H (upd H a o) := fun b o' e' => by
  rw [upd_ne (ne_of_none e' e)]
  exact e'
theorem same_upd {a : Addr} {H H1 : Hp} {o : HO} (e : H a = none) (s : Same H H1) : Same H (upd H1 a o) := fun b o' e' => by
  rw [upd_ne (ne_of_none e' e)]
  exact s b o' e'
theorem same_trans {H H1 H2 : Hp} (a : Same H H1) (b : Same H1 H2) : Same H H2 := fun x o e => b x o (a x o e)
theorem same_none {H H' : Hp} {a : Addr} (s : Same H H') (n : H' a = none) : H a = none := by
  cases e : H a with
  | none => rfl
  | some o =>
    rw [s a o e] at n
    cases n
theorem same_refl {H : Hp} : Same H H := fun _ _ e => e
theorem ixN_nat {n j : Nat} (h : j < n) : ixN n (j : Int) = some j := by
  unfold ixN
  rw [if_pos (by omega), if_pos (by omega), Int.toNat_natCast]
theorem atI_s {α : Type} {xs : List α} {j : Nat} {v : α} (h : xs[j + 1]? = some v) : atI xs ((j : Int) + 1) = some v := by
  have := atI_nat h
  rw [Int.natCast_add] at this
  exact this
theorem atI_end {α : Type} {xs : List α} {v : α} (h : xs[xs.length - 1]? = some v) : atI xs (-1) = some v := by
  have l := (List.getElem?_eq_some_iff.mp h).1
  have e : ixN xs.length (-1) = some (xs.length - 1) := by
    unfold ixN
    rw [if_neg (by decide), if_pos (by omega)]
    congr 1
    omega
  unfold atI
  rw [e]
  exact h
def lnV : Option Str → V
  | none => .non
  | some s => .str s
theorem scal_ln (x : Option Str) (y : Str) : scal (lnV x) (.str y) = true := by
  cases x <;> rfl
theorem dec_ln (x : Option Str) (y : Str) : decide (lnV x = V.str y) = decide (x = some y) := by
  cases x with
  | none => rfl
  | some s =>
    rw [Bool.eq_iff_iff]
    simp [lnV]
theorem get_map {α β : Type} {l : List α} {i : Nat} {x : α} (f : α → β) (h : l[i]? = some x) : (l.map f)[i]? = some (f x) := by
  rw [List.getElem?_map, h]
  rfl
theorem map_get {α β : Type} {l : List α} {i : Nat} {y : β} {f : α → β} (h : (l.map f)[i]? = some y) : ∃ x, l[i]? = some x ∧ f x = y := by
  rw [List.getElem?_map] at h
  exact Option.map_eq_some_iff.mp h
theorem flat_rep {α : Type} (n : Nat) (v : α) : (List.replicate n [v]).flatten = (List.range n).map fun _ => v := by
  induction n with
  | zero => rfl
  | succ n ih =>
    rw [List.replicate_succ', List.flatten_append, ih, List.range_succ, List.map_append]
    rfl
theorem upd_self {H : Hp} {a : Addr} {o : HO} (h : H a = some o) : upd H a o = H := by
  funext b
  by_cases e : b = a
  · rw [e, upd_same, h]
  · rw [upd_ne e]
theorem to_dec {R : Bool → Hp → Prop} {H : Hp} {x y : Bool} (e : x = y) (h : R y H) : R x H := e ▸ h
/-- a test of two parts; the parts may lay new objects -/
theorem and_dec {tA tB : TT} {σ : L2.St} {H : Hp} {Q : Bool → Hp → Prop} {p q : Prop} [Decidable p] [Decidable q] (hA : ∀ R : Bool → Hp → Prop, (∀ H1, Same H H1 → R (decide p) H1) → tA σ H R)
    (hB : p → ∀ H1, Same H H1 → ∀ R : Bool → Hp → Prop, (∀ H2, Same H1 H2 → R (decide q) H2) → tB σ H1 R) (h : ∀ H2, Same H H2 → Q (decide (p ∧ q)) H2) : tAnd tA tB σ H Q := by
  refine hA _ fun H1 s1 => ?_
  by_cases hp : p
  · show if decide p = true then tB σ H1 Q else Q false H1
    rw [decide_eq_true hp]
    refine hB hp H1 s1 Q fun H2 s2 => ?_
    have := h H2 (same_trans s1 s2)
    rw [show decide (p ∧ q) = decide q from decide_eq_decide.mpr ⟨fun z => z.2, fun z => ⟨hp, z⟩⟩] at this
    exact this
  · show if decide p = true then tB σ H1 Q else Q false H1
    rw [decide_eq_false hp]
    have := h H1 s1
    rw [decide_eq_false (fun z => hp z.1)] at this
    exact this
theorem or_dec {tA tB : TT} {σ : L2.St} {H : Hp} {Q : Bool → Hp → Prop} {p q : Prop} [Decidable p] [Decidable q] (hA : ∀ R : Bool → Hp → Prop, (∀ H1, Same H H1 → R (decide p) H1) → tA σ H R)
    (hB : ¬ p → ∀ H1, Same H H1 → ∀ R : Bool → Hp → Prop, (∀ H2, Same H1 H2 → R (decide q) H2) → tB σ H1 R) (h : ∀ H2, Same H H2 → Q (decide (p ∨ q)) H2) : tOr tA tB σ H Q := by
  refine hA _ fun H1 s1 => ?_
  by_cases hp : p
  · show if decide p = true then Q true H1 else tB σ H1 Q
    rw [decide_eq_true hp]
    have := h H1 s1
    rw [decide_eq_true (Or.inl hp)] at this
    exact this
  · show if decide p = true then Q true H1 else tB σ H1 Q
    rw [decide_eq_false hp]
    refine hB hp H1 s1 Q fun H2 s2 => ?_
    have := h H2 (same_trans s1 s2)
    rw [show decide (p ∨ q) = decide q from decide_eq_decide.mpr ⟨fun z => z.resolve_left hp, fun z => .inr z⟩] at this
    exact this
theorem dec_lt {α : Type} {i : Nat} {l : List α} {f : α → V} : decide ((i : Int) < ((l.map f).length : Int)) = decide (i < l.length) := by
  rw [List.length_map]
  exact decide_eq_decide.mpr Int.ofNat_lt
theorem dec_nat {i j : Nat} : decide ((V.int (i : Int)) = V.int (j : Int)) = decide (i = j) := by
  refine decide_eq_decide.mpr ⟨fun z => ?_, fun z => by rw [z]⟩
  have := V.int.inj z
  omega
/-- draws were made, objects laid: the state stands, the others stand as before -/
structure Dr (p c : Addr) (H H' : Hp) : Prop where
  st : StateAt H' p c
  ou : ∀ b o, b ≠ p → b ≠ c → H b = some o → H' b = some o
theorem StateAt.some {H : Hp} {p c : Addr} (s : StateAt H p c) : (∃ o, H p = Option.some (.lst o)) ∧ ∃ o, H c = Option.some (.lst o) := by
  obtain ⟨⟨seed, ms, h1, h2, _⟩, _⟩ := s
  exact ⟨⟨_, h1⟩, ⟨_, h2⟩⟩
theorem StateAt.same {H H' : Hp} {p c : Addr} (s : StateAt H p c) (k : Same H H') : StateAt H' p c := s.mono (fun o e => k _ _ e) (fun o e => k _ _ e)
theorem Dr.refl {p c : Addr} {H : Hp} (s : StateAt H p c) : Dr p c H H := ⟨s, fun _ _ _ _ e => e⟩
theorem Dr.trans {p c : Addr} {H H1 H2 : Hp} (a : Dr p c H H1) (b : Dr p c H1 H2) : Dr p c H H2 := ⟨b.st, fun x o n1 n2 e => b.ou x o n1 n2 (a.ou x o n1 n2 e)⟩
theorem Dr.same {p c : Addr} {H H1 H2 : Hp} (a : Dr p c H H1) (b : Same H1 H2) : Dr p c H H2 := ⟨a.st.same b, fun x o n1 n2 e => b _ _ (a.ou x o n1 n2 e)⟩
theorem Dr.drawn {p c : Addr} {H H1 H2 : Hp} (a : Dr p c H H1) (s : StateAt H2 p c) (b : Drawn p c H1 H2) : Dr p c H H2 := ⟨s, fun x o n1 n2 e => (b x n1 n2).trans (a.ou x o n1 n2 e)⟩
theorem Dr.none {p c : Addr} {H H1 : Hp} {x : Addr} (a : Dr p c H H1) (n : H1 x = none) : H x = none := by
  obtain ⟨⟨_, e1⟩, ⟨_, e2⟩⟩ := a.st.some
  cases e : H x with
  | none => rfl
  | some o =>
    have n1 : x ≠ p := fun z => by rw [z, e1] at n; cases n
    have n2 : x ≠ c := fun z => by rw [z, e2] at n; cases n
    rw [a.ou x o n1 n2 e] at n
    cases n
theorem StateAt.new {H : Hp} {p c x : Addr} (s : StateAt H p c) (n : H x = none) : x ≠ p ∧ x ≠ c := by
  obtain ⟨⟨_, e1⟩, ⟨_, e2⟩⟩ := s.some
  exact ⟨fun z => (by rw [z, e1] at n; cases n), fun z => (by rw [z, e2] at n; cases n)⟩
theorem StateAt.upd {H : Hp} {p c x : Addr} {o : HO} (s : StateAt H p c) (n : x ≠ p ∧ x ≠ c) : StateAt (L2.upd H x o) p c :=
  s.mono (fun q e => by rw [upd_ne (Ne.symm n.1)]; exact e) (fun q e => by rw [upd_ne (Ne.symm n.2)]; exact e)
theorem tab_ne {H : Hp} {T b : Addr} {o : HO} (g : TabG H T) (e : H b = some o) (n : ∀ ps, o ≠ .tbl ps) : b ≠ T := fun z => by
  obtain ⟨ps, e1, _⟩ := g
  rw [z, e1] at e
  exact n ps (Option.some.inj e).symm
theorem tab_same {H H' : Hp} {T : Addr} (g : TabG H T) (s : Same H H') : TabG H' T := by
  obtain ⟨ps, e1, e2⟩ := g
  exact ⟨ps, s _ _ e1, e2⟩
/-- the tables stand -/
def TG (Ts : List Addr) (H : Hp) : Prop := ∀ T ∈ Ts, TabG H T
/-- what stood stands, but for the tables -/
structure Tbs (Ts : List Addr) (H H' : Hp) : Prop where
  sm : ∀ b o, b ∉ Ts → H b = some o → H' b = some o
  tg : TG Ts H'
theorem TG.same {Ts : List Addr} {H H' : Hp} (g : TG Ts H) (s : Same H H') : TG Ts H' := fun T hT => tab_same (g T hT) s
theorem Tbs.refl {Ts : List Addr} {H : Hp} (g : TG Ts H) : Tbs Ts H H := ⟨fun _ _ _ e => e, g⟩
theorem Tbs.trans {Ts : List Addr} {H H1 H2 : Hp} (a : Tbs Ts H H1) (b : Tbs Ts H1 H2) : Tbs Ts H H2 := ⟨fun x o n e => b.sm x o n (a.sm x o n e), b.tg⟩
theorem Tbs.same {Ts : List Addr} {H H1 H2 : Hp} (a : Tbs Ts H H1) (s : Same H1 H2) : Tbs Ts H H2 := ⟨fun x o n e => s _ _ (a.sm x o n e), a.tg.same s⟩
theorem Tbs.tab {Ts : List Addr} {H H1 H2 : Hp} {T : Addr} (a : Tbs Ts H H1) (t : Tabbed T H1 H2) (hT : T ∈ Ts) : Tbs Ts H H2 := by
  refine ⟨fun x o n e => (t.2 x fun z => n (z ▸ hT)).trans (a.sm x o n e), fun T' h' => ?_⟩
  by_cases z : T' = T
  · rw [z]
    exact t.1
  · obtain ⟨ps, e1, e2⟩ := a.tg T' h'
    exact ⟨ps, (t.2 T' z).trans e1, e2⟩
theorem Tbs.at_ {Ts : List Addr} {H H' : Hp} (h : Tbs Ts H H') (g : TG Ts H) {b : Addr} {o : HO} (e : H b = some o) (n : ∀ ps, o ≠ .tbl ps) : H' b = some o := h.sm b o (fun z => tab_ne (g b z) e n rfl) e
theorem Tbs.tup {Ts : List Addr} {H H' : Hp} (h : Tbs Ts H H') (g : TG Ts H) {b : Addr} {xs : List V} (e : H b = some (.tup xs)) : H' b = some (.tup xs) := h.at_ g e fun _ z => nomatch z
theorem Tbs.lst {Ts : List Addr} {H H' : Hp} (h : Tbs Ts H H') (g : TG Ts H) {b : Addr} {xs : List V} (e : H b = some (.lst xs)) : H' b = some (.lst xs) := h.at_ g e fun _ z => nomatch z
end K20
namespace K20
open PySem PySem.Spec PyProof.Rows L2 TL TR QR
open GxR (TabB TabG Tabbed)
abbrev sTO : Stmt := topS 7
abbrev nTO : List Str := ["value", "size"]
theorem scTO : FnScope nTO ["value", "size"] (defScope sTO) := ⟨rfl, rfl, rfl, by decide +kernel, rfl, by decide +kernel, by decide +kernel⟩
abbrev sWI : Stmt := topS 8
abbrev nWI : List Str := ["number", "least", "most"]
theorem scWI : FnScope nWI ["number", "least", "most"] (defScope sWI) := ⟨rfl, rfl, rfl, by decide +kernel, rfl, by decide +kernel, by decide +kernel⟩
abbrev sIL : Stmt := topS 9
abbrev nIL : List Str := ["label", "marks", "k", "mark"]
theorem scIL : FnScope nIL ["label"] (defScope sIL) := ⟨rfl, rfl, rfl, by decide +kernel, rfl, by decide +kernel, by decide +kernel⟩
abbrev sIH : Stmt := topS 10
abbrev nIH : List Str := ["name"]
theorem scIH : FnScope nIH ["name"] (defScope sIH) := ⟨rfl, rfl, rfl, by decide +kernel, rfl, by decide +kernel, by decide +kernel⟩
theorem or_decG {Rel : Hp → Hp → Prop} (tr : ∀ a b c, Rel a b → Rel b c → Rel a c) {tA tB : TT} {σ : L2.St} {H : Hp} {Q : Bool → Hp → Prop} {p q : Prop} [Decidable p] [Decidable q] (hA : ∀ R : Bool → Hp → Prop, (∀ H1, Rel H H1 → R (decide p) H1) → tA σ H R)
    (hB : ¬ p → ∀ H1, Rel H H1 → ∀ R : Bool → Hp → Prop, (∀ H2, Rel H1 H2 → R (decide q) H2) → tB σ H1 R) (h : ∀ H2, Rel H H2 → Q (decide (p ∨ q)) H2) : tOr tA tB σ H Q := by
  refine hA _ fun H1 s1 => ?_
  by_cases hp : p
  · show if decide p = true then Q true H1 else tB σ H1 Q
    rw [decide_eq_true hp]
    have := h H1 s1
    rw [decide_eq_true (Or.inl hp)] at this
    exact this
  · show if decide p = true then Q true H1 else tB σ H1 Q
    rw [decide_eq_false hp]
    refine hB hp H1 s1 Q fun H2 s2 => ?_
    have := h H2 (tr _ _ _ s1 s2)
    rw [show decide (p ∨ q) = decide q from decide_eq_decide.mpr ⟨fun z => z.resolve_left hp, fun z => .inr z⟩] at this
    exact this
def LabO (H : Hp) (la ma : Addr) (a : Option Nat) (ms : List (Option Nat)) : Prop := H la = some (.tup [.str "label", optV a, .ref ma]) ∧ H ma = some (.tup (ms.map optV))
def withinB : Option Nat → Nat → Nat → Bool
  | none, _, _ => false
  | some k, l, m => decide (l ≤ k ∧ k ≤ m)
def ascB (l : List (Option Nat)) : Bool := (List.range (l.length - 1)).all fun k => decide ((l.getD k none).getD 0 < (l.getD (k + 1) none).getD 0)
def labB (a : Option Nat) (ms : List (Option Nat)) : Bool := withinB a 0 7 && (ms.all (fun m => withinB m 0 5) && ascB ms)
section
variable {P : Program} {w : World} {K : PySem.W.Frag} {mg : Str → Option Value} {base : Heap}
def spTO : Sp := fun vs H Q _ => ∃ (v : V) (n : Nat), vs = [v, .int (n : Int)] ∧ ((v = .non ∧ Q (.bl false) H) ∨ (∃ a xs, v = .ref a ∧ H a = some (.tup xs) ∧ Q (.bl (decide (xs.length = n))) H))
theorem ok_TO {f : Addr} {fd : FuncData} (F : Fun K "is_tuple_of" "is_tuple_of" sTO f fd)
    (m_len : mg "len" = none) (m_isinstance : mg "isinstance" = none) (m_tuple : mg "tuple" = none) : FnOk P w K mg base CX0 1 f fd ["value", "size"] spTO := by
  refine F.ok scTO (fun vs H Q E h => ?_) (fun cdv A outer s H vs Q E hr h => ?_)
  · obtain ⟨v, n, rfl, _⟩ := h
    rfl
  · obtain ⟨v, n, rfl, h⟩ := h
    have hu := hr.units
    have hu1 := hu_of hr
    have zl := zl
    refine ⟨_, (pss_one (ps_ret (pe_and (pe_callB call_isi (by rfl) m_isinstance (by decide +kernel) (pa_cons (pv 0) (pa_cons (pe_bltn (v := V.ty "tuple") (u := .type "tuple") (by rfl) m_tuple (by decide +kernel) rfl) pa_nil))) (pe_one (pe_cmpR op_eq (pe_callB call_len_seq (by rfl) m_len PySem.boot_len (pa_cons (pv 0) pa_nil)) (pv 1) (nomark _)))))), ?_⟩
    rcases h with ⟨rfl, q⟩ | ⟨a, xs, rfl, ha, q⟩
    · exact ⟨_, rfl, _, _, _, _, false, rfl, .ty _, .base .non, kit_ty (by decide +kernel), _, rfl, ite2 (fun z => absurd z (by decide)) (fun _ => q)⟩
    · refine ⟨_, rfl, _, _, _, _, true, rfl, .ty _, .base (.tup ha), kit_ty (by decide +kernel), _, rfl, ite2 (fun _ => ⟨_, rfl, a, _, rfl, .inr (SqT.of ha), _, rfl, rfl, ?_⟩) (fun z => absurd rfl z)⟩
      rw [dec_nat]
      exact q
def spWI : Sp := fun vs H Q _ => ∃ (o : Option Nat) (l m : Nat), vs = [optV o, .int (l : Int), .int (m : Int)] ∧ Q (.bl (withinB o l m)) H
theorem ok_WI {f : Addr} {fd : FuncData} (F : Fun K "is_within" "is_within" sWI f fd)
    (m_int : mg "int" = none) (m_isinstance : mg "isinstance" = none) : FnOk P w K mg base CX0 1 f fd ["number", "least", "most"] spWI := by
  refine F.ok scWI (fun vs H Q E h => ?_) (fun cdv A outer s H vs Q E hr h => ?_)
  · obtain ⟨o, l, m, rfl, _⟩ := h
    rfl
  · obtain ⟨o, l, m, rfl, q⟩ := h
    have hu := hr.units
    have hu1 := hu_of hr
    have zl := zl
    refine ⟨_, (pss_one (ps_ret (pe_and (pe_callB call_isi (by rfl) m_isinstance (by decide +kernel) (pa_cons (pv 0) (pa_cons (pe_bltn (v := V.ty "int") (u := .type "int") (by rfl) m_int (by decide +kernel) rfl) pa_nil))) (pe_one (pe_chain op_le op_le (pv 1) (pv 0) (pv 2)))))), ?_⟩
    cases o with
    | none => exact ⟨_, rfl, _, _, _, _, false, rfl, .ty _, .base .non, kit_ty (by decide +kernel), _, rfl, ite2 (fun z => absurd z (by decide)) (fun _ => q)⟩
    | some k =>
      refine ⟨_, rfl, _, _, _, _, true, rfl, .ty _, .base (.int _), kit_ty (by decide +kernel), _, rfl, ite2 (fun _ => ⟨_, rfl, _, rfl, _, _, rfl, rfl, _, rfl, ite2 (fun h => ⟨_, rfl, _, _, rfl, rfl, ?_⟩) (fun h => ?_)⟩) (fun z => absurd rfl z)⟩
      · have h := of_decide_eq_true h
        have e : decide ((k : Int) ≤ (m : Int)) = withinB (some k) l m := decide_eq_decide.mpr ⟨fun z => ⟨by omega, by omega⟩, fun z => by omega⟩
        show Q (V.bl (decide ((k : Int) ≤ (m : Int)))) H
        rw [e]
        exact q
      · have h : ¬ (l : Int) ≤ (k : Int) := fun z => h (decide_eq_true z)
        have e : withinB (some k) l m = false := decide_eq_false fun z => h (by omega)
        rw [e] at q
        exact q
def spIH (T : Addr) : Sp := fun vs H Q _ => ∃ (t : Str), vs = [.str t] ∧ t.length ≤ sizeLine ∧ TabG H T ∧ ∀ H', Tabbed T H H' → Q (.bl (wordB t "abcdefghijklmnopqrstuvwxyz" 8)) H'
theorem ok_IH {T1 f fW : Addr} {fd fdW : FuncData} {kLE : Tok} (F : Fun K "is_hand" "is_hand" sIH f fd)
    (GW : FnOk P w K mg base CX0 1 fW fdW ["text", "signs", "most"] (spWord T1)) (bW : Binds K fdW ["text", "signs", "most"] []) (gW : mg "is_word" = some (.ref fW)) (kW : PySem.W.keepIn K (.ref fW) = true)
    (gLE : mg "LETTERS" = some (.str "abcdefghijklmnopqrstuvwxyz" kLE)) (m_isinstance : mg "isinstance" = none) (m_str : mg "str" = none) : FnOk P w K mg base CX0 2 f fd ["name"] (spIH T1) := by
  refine F.ok scIH (fun vs H Q E h => ?_) (fun cdv A outer s H vs Q E hr h => ?_)
  · obtain ⟨t, rfl, _⟩ := h
    rfl
  · obtain ⟨t, rfl, ht, hT, q⟩ := h
    have hu := hr.units
    have hu1 := hu_of hr
    have hr1 : Room 1 _ := hr.mono (by decide)
    have zl := zl
    refine ⟨_, (pss_one (ps_ret (pe_and (pe_callB call_isi (by rfl) m_isinstance (by decide +kernel) (pa_cons (pv 0) (pa_cons (pe_bltn (v := V.ty "str") (u := .type "str") (by rfl) m_str (by decide +kernel) rfl) pa_nil))) (pe_one (pe_call GW hr1 (by rfl) gW kW bW .nil pass0 (pa_cons (pv 0) (pa_cons (pe_glob (v := V.str "abcdefghijklmnopqrstuvwxyz") (by rfl) gLE ⟨_, rfl⟩) (pa_cons (pe_int) pa_nil)))))))), ?_⟩
    exact ⟨_, rfl, _, _, _, _, true, rfl, .ty _, .base (.str _), kit_ty (by decide +kernel), _, rfl, ite2 (fun _ => ⟨_, rfl, t, _, 8, rfl, ht, hT, q⟩) (fun z => absurd rfl z)⟩
def spIL (Ts : List Addr) : Sp := fun vs H Q _ => ∃ (v : V), vs = [v] ∧ TG Ts H ∧ ((v = .non ∧ ∀ H', Tbs Ts H H' → Q (.bl false) H') ∨ (∃ la ma a ms, v = .ref la ∧ LabO H la ma a ms ∧ ms.length ≤ 100000 ∧ ∀ H', Tbs Ts H H' → Q (.bl (labB a ms)) H'))
theorem ok_IL {T2 c f fTO fWI : Addr} {Ts : List Addr} {oc kV doc pm ct : Value} {od an : Option Addr} {osl : Array (Option Value)} {fdTO fdWI : FuncData} (hT2 : T2 ∈ Ts) (lk : K.lookup f = some ⟨oc, od, .func (PySem.W.fnOf "is_label" "is_label" (defArgs sIL) (defBody sIL) (defScope sIL) .none kV doc pm an (.ref c) ct), osl⟩)
    (hcd : PySem.W.codeIn K (.ref c) "is_label" = true) (TB : TabB base mg c T2)
    (GTO : FnOk P w K mg base CX0 1 fTO fdTO ["value", "size"] spTO) (bTO : Binds K fdTO ["value", "size"] []) (gTO : mg "is_tuple_of" = some (.ref fTO)) (kTO : PySem.W.keepIn K (.ref fTO) = true)
    (GWI : FnOk P w K mg base CX0 1 fWI fdWI ["number", "least", "most"] spWI) (bWI : Binds K fdWI ["number", "least", "most"] []) (gWI : mg "is_within" = some (.ref fWI)) (kWI : PySem.W.keepIn K (.ref fWI) = true)
    (m_isinstance : mg "isinstance" = none) (m_tuple : mg "tuple" = none) (m_all : mg "all" = none) (m_range : mg "range" = none) (m_len : mg "len" = none) :
    FnOk P w K mg base CX0 3 f (PySem.W.fnOf "is_label" "is_label" (defArgs sIL) (defBody sIL) (defScope sIL) .none kV doc pm an (.ref c) ct) ["label"] (spIL Ts) := by
  refine fn_of lk hcd scIL (fun vs H Q E h => ?_) fun A outer s H vs Q E hr h => ?_
  · obtain ⟨v, rfl, _⟩ := h
    rfl
  · obtain ⟨v, rfl, g, h⟩ := h
    have hu := hr.units
    have hu1 := hu_of hr
    have hr1 : Room 1 _ := hr.mono (by decide)
    have zl := zl
    have hrX := hr
    refine ⟨_, (pss_cons (ps_if (PW.pt (pw_or (pt_not (pt_val (pe_call GTO hr1 (by rfl) gTO kTO bTO .nil pass0 (pa_cons (pv 0) (pa_cons (pe_int) pa_nil))))) (pw_or (pt_cmpR op_ne (pe_ix ix_tup (pv 0) (pe_int) (fun _ _ => rfl)) (pe_str) (nomark _)) (pw_or1 (pt_not (pt_val (pe_call GWI hr1 (by rfl) gWI kWI bWI .nil pass0 (pa_cons (pe_ix ix_tup (pv 0) (pe_int) (fun _ _ => rfl)) (pa_cons (pe_int) (pa_cons (pe_int) pa_nil))))))))))
      (pss_one (ps_ret (pe_bl))) pss_nil)
      (pss_cons (ps_set (i := 1) scIL.nd rfl (.inr rfl) (pe_ix ix_tup (pv 0) (pe_int) (fun _ _ => rfl)))
      (pss_cons (ps_if (PW.pt (pw_or (pt_not (pt_val (pe_callB call_isi (by rfl) m_isinstance (by decide +kernel) (pa_cons (pv 1) (pa_cons (pe_bltn (v := V.ty "tuple") (u := .type "tuple") (by rfl) m_tuple (by decide +kernel) rfl) pa_nil))))) (pw_or1 (pt_not (pt_truth (GX.pe_allG (k := 1) (own := [("mark", 3)]) (g := gName 3) (tt := tYes) (te := tCall spWI [] E0 (tCons (tVar 3) (tCons (tC (.int 0)) (tCons (tC (.int 5)) tNil)))) hrX rfl scIL.nd (by rfl) m_all ⟨blkOk_by (N := nIL) (sc := defScope sIL) (by decide +kernel), by decide +kernel, rfl, rfl, TB, rfl⟩ (pi_tup (pv 1)) (fun _ _ _ _ _ _ hrG => by exact pg_name (i := 3) scIL.nd rfl (.inl rfl)) (fun _ _ _ _ _ _ hrG => pts_nil) (fun _ _ _ _ _ _ hrG => by exact pe_call GWI (hrG.mono (by decide)) (by rfl) gWI kWI bWI .nil pass0 (pa_cons (pv 3) (pa_cons (pe_int) (pa_cons (pe_int) pa_nil)))) (fun _ => rfl)) (by intro _; rfl))))))
      (pss_one (ps_ret (pe_bl))) pss_nil)
      (pss_one (ps_ret (GX.pe_allG (k := 1) (own := [("k", 2)]) (g := gName 2) (tt := tYes) (te := tOp (rI0 fun i j => .bl (decide (i < j))) (tOp (rIxT K) (tVar 1) (tVar 2)) (tOp (rIxT K) (tVar 1) (tOp (rI0 fun i j => .int (i + j)) (tVar 2) (tC (.int 1))))) hrX rfl scIL.nd (by rfl) m_all ⟨blkOk_by (N := nIL) (sc := defScope sIL) (by decide +kernel), by decide +kernel, rfl, rfl, TB, rfl⟩ (pi_range1 (by rfl) m_range (pa_cons (pe_op op_sub (pe_callB call_len_seq (by rfl) m_len PySem.boot_len (pa_cons (pv 1) pa_nil)) (pe_int)) pa_nil)) (fun _ _ _ _ _ _ hrG => by exact pg_name (i := 2) scIL.nd rfl (.inl rfl)) (fun _ _ _ _ _ _ hrG => pts_nil) (fun _ _ _ _ _ _ hrG => by exact pe_cmpR op_lt (pe_ix ix_tup (pv 1) (pv 2) (fun _ _ => rfl)) (pe_ix ix_tup (pv 1) (pe_op op_add (pv 2) (pe_int)) (fun _ _ => rfl)) (nomark _)) (fun _ => rfl))))))), ?_⟩
    dsimp only [tNext, tSeq, tIfS, tAsg, gName, tC]
    rcases h with ⟨rfl, q⟩ | ⟨la, ma, a, ms, rfl, hL, hl, q⟩
    · refine or_dec (p := True) (q := False) (fun R k => ⟨_, rfl, _, 3, rfl, .inl ⟨rfl, _, rfl, to_dec (by simp) (k _ same_refl)⟩⟩) (fun z => absurd trivial z) fun H2 s2 => ite2 (fun _ => q _ ((Tbs.refl g).same s2)) (fun h => absurd (decide_eq_true (.inl trivial)) h)
    · have no : ∀ H', Tbs Ts H H' → labB a ms = false → Q (.bl false) H' := fun H' t e => by
        have := q H' t
        rw [e] at this
        exact this
      have hml : (ms.map optV).length = ms.length := List.length_map _
      refine or_dec (p := False) (q := False ∨ ¬ withinB a 0 7 = true) (fun R k => ⟨_, rfl, _, 3, rfl, .inr ⟨la, _, rfl, hL.1, _, rfl, to_dec (by simp) (k _ same_refl)⟩⟩)
        (fun _ H1 s1 R k => or_dec (p := False) (q := ¬ withinB a 0 7 = true) (fun R k => ⟨_, rfl, la, _, _, _, rfl, rfl, SqT.of (s1 _ _ hL.1), atI_nat (j := 0) rfl, rfl, _, rfl, to_dec (by simp) (k _ same_refl)⟩)
          (fun _ H2 s2 R k => ⟨_, rfl, la, _, _, _, rfl, rfl, SqT.of (s2 _ _ (s1 _ _ hL.1)), atI_nat (j := 1) rfl, a, 0, 7, rfl, _, rfl, to_dec (by cases withinB a 0 7 <;> simp) (k _ same_refl)⟩) k) fun H1 s1 => ite2 (fun h => ?_) (fun h => ?_)
      · have h := of_decide_eq_true h
        refine no _ ((Tbs.refl g).same s1) ?_
        unfold labB
        rw [show withinB a 0 7 = false from Bool.eq_false_iff.mpr (by simpa using h), Bool.false_and]
      have h7 : withinB a 0 7 = true := Decidable.byContradiction fun z => h (decide_eq_true (.inr (.inr z)))
      have t1 : Tbs Ts H H1 := (Tbs.refl g).same s1
      have e1 := s1 _ _ hL.1
      have m1 := s1 _ _ hL.2
      refine ⟨_, rfl, la, _, _, _, rfl, rfl, SqT.of e1, atI_nat (j := 2) rfl, ?_⟩
      dsimp only [tNext, tSeq, tIfS, tAsg, gName, tC]
      refine or_decG (Rel := Tbs Ts) (fun _ _ _ => Tbs.trans) (p := False) (q := ¬ (ms.all fun m => withinB m 0 5) = true) (fun R k => ⟨_, rfl, _, _, _, _, true, rfl, .ty _, .base (.tup m1), kit_ty (by decide +kernel), _, rfl, to_dec (by simp) (k _ (Tbs.refl t1.tg))⟩)
        (fun _ H2 t2 R k => ⟨_, rfl, ma, rfl, ⟨_, SqT.of (t2.tup t1.tg m1)⟩, t2.tg T2 hT2, fun H3 t3 => ?_⟩) fun H2 t2 => ite2 (fun h => ?_) (fun h => ?_)
      · have m2 := t2.tup t1.tg m1
        have b3 := (Tbs.refl t2.tg).tab t3 hT2
        refine GX.wk_tup (xs := ms.map optV) (fun i H' => Tbs Ts H2 H' ∧ ∀ m o, m < i → ms[m]? = some o → withinB o 0 5 = true) ⟨b3, fun m o h => by omega⟩ ?_ ?_ ?_
        · rintro i H' _ ⟨t5, _⟩
          exact SqT.of (t5.tup t2.tg m2)
        · rintro i y H5 hy ⟨t5, hm⟩
          obtain ⟨o, go, rfl⟩ := map_get hy
          refine ⟨rfl, _, rfl, o, 0, 5, rfl, _, rfl, ?_⟩
          by_cases hw : withinB o 0 5 = true
          · rw [if_neg (by rw [hw]; decide)]
            refine ⟨t5, fun m o' h e => ?_⟩
            by_cases hmk : m = i
            · subst hmk
              rw [go] at e
              cases e
              exact hw
            · exact hm m o' (by omega) e
          · rw [if_pos (Bool.eq_false_iff.mpr hw)]
            have ha : (ms.all fun m => withinB m 0 5) = false := by
              rw [List.all_eq_false]
              exact ⟨o, List.mem_of_getElem? go, hw⟩
            exact ⟨_, rfl, to_dec (by rw [ha]; rfl) (k _ t5)⟩
        · rintro H5 ⟨t5, hm⟩
          rw [hml] at hm
          have ha : (ms.all fun m => withinB m 0 5) = true := by
            rw [List.all_eq_true]
            intro o ho
            obtain ⟨m, e⟩ := List.mem_iff_getElem?.mp ho
            exact hm m o (List.getElem?_eq_some_iff.mp e).1 e
          exact ⟨_, rfl, to_dec (by rw [ha]; rfl) (k _ t5)⟩
      · have h := of_decide_eq_true h
        refine no _ (t1.trans t2) ?_
        unfold labB
        rw [Bool.eq_false_iff.mpr (h.resolve_left id), Bool.false_and, Bool.and_false]
      have ha : (ms.all fun m => withinB m 0 5) = true := Decidable.byContradiction fun z => h (decide_eq_true (.inr z))
      have t12 := t1.trans t2
      have m2 := t2.tup t1.tg m1
      have yes : ∀ H', Tbs Ts H H' → Q (.bl (ascB ms)) H' := fun H' t => by
        have := q H' t
        unfold labB at this
        rw [h7, ha] at this
        exact this
      have isS : ∀ i, i < ms.length → ∃ n, ms[i]? = some (some n) := fun i hi => by
        have ge := List.getElem?_eq_getElem hi
        have := List.all_eq_true.mp ha _ (List.getElem_mem hi)
        generalize ms[i] = o at ge this
        cases o with
        | none => cases this
        | some n => exact ⟨n, ge⟩
      refine ⟨_, rfl, ma, _, rfl, .inr (SqT.of m2), _, _, rfl, rfl, _, rfl, by rw [hml]; omega, by rw [hml]; omega, t2.tg T2 hT2, fun H3 t3 => ?_⟩
      have b3 := (Tbs.refl t2.tg).tab t3 hT2
      have en : (((ms.map optV).length : Nat) : Int) - 1 = ((ms.length : Nat) : Int) - 1 := by rw [hml]
      refine GX.wk_range (lo := 0) (n := ((((ms.map optV).length : Nat) : Int) - 1).toNat) (fun i H' => Tbs Ts H2 H' ∧ ∀ m, m < i → (ms.getD m none).getD 0 < (ms.getD (m + 1) none).getD 0) ⟨b3, fun m h => by omega⟩ ?_ ?_
      · rintro i H5 hi ⟨t5, hm⟩
        rw [en] at hi
        obtain ⟨n1, g1⟩ := isS i (by omega)
        obtain ⟨n2, g2⟩ := isS (i + 1) (by omega)
        have m5 := t5.tup t2.tg m2
        rw [show (0 : Int) + (i : Int) = ((i : Nat) : Int) from Int.zero_add _]
        refine ⟨rfl, _, rfl, _, rfl, ma, _, _, .int (n1 : Int), rfl, rfl, SqT.of m5, atI_nat (get_map _ g1), _, rfl, _, rfl, _, _, rfl, rfl, ma, _, _, .int (n2 : Int), rfl, rfl, SqT.of m5, atI_s (get_map _ g2), _, _, rfl, rfl, _, rfl, ?_⟩
        have d1 : (ms.getD i none).getD 0 = n1 := by rw [List.getD_eq_getElem?_getD, g1]; rfl
        have d2 : (ms.getD (i + 1) none).getD 0 = n2 := by rw [List.getD_eq_getElem?_getD, g2]; rfl
        by_cases hw : n1 < n2
        · rw [if_neg (by rw [decide_eq_true (Int.ofNat_lt.mpr hw)]; decide)]
          refine ⟨t5, fun m h => ?_⟩
          by_cases hmk : m = i
          · subst hmk
            rw [d1, d2]
            exact hw
          · exact hm m (by omega)
        · rw [if_pos (decide_eq_false (fun z => hw (Int.ofNat_lt.mp z)))]
          have := yes H5 (t12.trans t5)
          rw [show ascB ms = false by
            unfold ascB
            rw [List.all_eq_false]
            exact ⟨i, List.mem_range.mpr (by omega), by rw [d1, d2, decide_eq_true_eq]; exact hw⟩] at this
          exact this
      · rintro H5 ⟨t5, hm⟩
        rw [en] at hm
        have := yes H5 (t12.trans t5)
        rw [show ascB ms = true by
          unfold ascB
          rw [List.all_eq_true]
          intro i hi
          exact decide_eq_true (hm i (by have := List.mem_range.mp hi; omega))] at this
        exact this
end
end K20
namespace K20
open PySem PySem.Spec PyProof.Rows L2 TL TR QR
open GxR (TabB TabG Tabbed)
abbrev sII : Stmt := topS 11
abbrev nII : List Str := ["name"]
theorem scII : FnScope nII ["name"] (defScope sII) := ⟨rfl, rfl, rfl, by decide +kernel, rfl, by decide +kernel, by decide +kernel⟩
abbrev sIP : Stmt := topS 12
abbrev nIP : List Str := ["path", "part"]
theorem scIP : FnScope nIP ["path"] (defScope sIP) := ⟨rfl, rfl, rfl, by decide +kernel, rfl, by decide +kernel, by decide +kernel⟩
abbrev sIV : Stmt := topS 13
abbrev nIV : List Str := ["vertex"]
theorem scIV : FnScope nIV ["vertex"] (defScope sIV) := ⟨rfl, rfl, rfl, by decide +kernel, rfl, by decide +kernel, by decide +kernel⟩
abbrev Lab := Nat × List Nat
abbrev Nm := Lab × List Nat × Nat
abbrev Vx := Nm × Nat × Nat
abbrev Path := List (List Nat)
abbrev strV (ps : Path) : List V := ps.map fun l => V.str (Sg l)
def LabAt (H : Hp) (v : V) (l : Lab) : Prop := ∃ la ma, v = .ref la ∧ H la = some (.tup [.str "label", .int (l.1 : Int), .ref ma]) ∧ H ma = some (.tup (l.2.map fun m : Nat => V.int (m : Int)))
def NmAt (H : Hp) (v : V) (n : Nm) : Prop := ∃ na lv, v = .ref na ∧ H na = some (.tup [lv, .str (Sg n.2.1), .int (n.2.2 : Int)]) ∧ LabAt H lv n.1
def VxAt (H : Hp) (v : V) (x : Vx) : Prop := ∃ va nv, v = .ref va ∧ H va = some (.tup [nv, .int (x.2.1 : Int), .int (x.2.2 : Int)]) ∧ NmAt H nv x.1
def PathAt (H : Hp) (v : V) (ps : Path) : Prop := ∃ a, v = .ref a ∧ H a = some (.tup (strV ps))
def OptR {α : Type} (R : Hp → V → α → Prop) (H : Hp) (v : V) : Option α → Prop
  | none => v = .non
  | some a => R H v a
/-- tuples stay -/
def TS (H H' : Hp) : Prop := ∀ b xs, H b = some (.tup xs) → H' b = some (.tup xs)
theorem TS.refl {H : Hp} : TS H H := fun _ _ e => e
theorem TS.trans {H H1 H2 : Hp} (a : TS H H1) (b : TS H1 H2) : TS H H2 := fun x o e => b x o (a x o e)
theorem Same.ts {H H' : Hp} (s : Same H H') : TS H H' := fun b _ e => s b _ e
theorem Tbs.ts {Ts : List Addr} {H H' : Hp} (t : Tbs Ts H H') (g : TG Ts H) : TS H H' := fun b _ e => t.tup g e
theorem Dr.ts {p c : Addr} {H H' : Hp} (st : StateAt H p c) (d : Dr p c H H') : TS H H' := fun b xs e => by
  obtain ⟨⟨_, e1⟩, ⟨_, e2⟩⟩ := st.some
  exact d.ou b _ (fun z => by rw [z, e1] at e; cases e) (fun z => by rw [z, e2] at e; cases e) e
theorem LabAt.ts {H H' : Hp} {v : V} {l : Lab} (s : TS H H') : LabAt H v l → LabAt H' v l := fun ⟨la, ma, e, a, b⟩ => ⟨la, ma, e, s _ _ a, s _ _ b⟩
theorem NmAt.ts {H H' : Hp} {v : V} {l : Nm} (s : TS H H') : NmAt H v l → NmAt H' v l := fun ⟨na, lv, e, a, b⟩ => ⟨na, lv, e, s _ _ a, b.ts s⟩
theorem VxAt.ts {H H' : Hp} {v : V} {l : Vx} (s : TS H H') : VxAt H v l → VxAt H' v l := fun ⟨na, lv, e, a, b⟩ => ⟨na, lv, e, s _ _ a, b.ts s⟩
theorem PathAt.ts {H H' : Hp} {v : V} {l : Path} (s : TS H H') : PathAt H v l → PathAt H' v l := fun ⟨a, e, h⟩ => ⟨a, e, s _ _ h⟩
theorem OptR.ts {α : Type} {R : Hp → V → α → Prop} {H H' : Hp} {v : V} {o : Option α} (s : TS H H') (h : ∀ a, R H v a → R H' v a) : OptR R H v o → OptR R H' v o := fun z => by
  cases o with
  | none => exact z
  | some a => exact h a z
def okLab (l : Lab) : Bool := labB (some l.1) (l.2.map some)
def okWord (w : List Nat) : Bool := wordB (Sg w) "abcdefghijklmnopqrstuvwxyz" 8
def letS : Str := Str.ofString "abcdefghijklmnopqrstuvwxyz" ++ digitsS
def okPath (ps : Path) : Bool := decide (1 ≤ ps.length ∧ ps.length ≤ 4) && ps.all fun l => wordB (Sg l) letS 8
def idB (lo : Option Lab) (w : List Nat) (k : Option Nat) : Bool := (match lo with | none => false | some l => okLab l) && (okWord w && withinB k 1 99999)
def okNm (n : Nm) : Bool := okLab n.1 && (okWord n.2.1 && withinB (some n.2.2) 1 99999)
def vxB (o : Option Nm) (a b : Option Nat) : Bool := (match o with | none => false | some n => okNm n) && (withinB a 0 11 && withinB b 0 199)
section
variable {P : Program} {w : World} {K : PySem.W.Frag} {mg : Str → Option Value} {base : Heap}
def spII (Ts : List Addr) : Sp := fun vs H Q _ => ∃ (v : V), vs = [v] ∧ TG Ts H ∧ ((v = .non ∧ ∀ H', Tbs Ts H H' → Q (.bl false) H') ∨
  (∃ na lv wd k lo, v = .ref na ∧ H na = some (.tup [lv, .str (Sg wd), optV k]) ∧ wd.length ≤ 100000 ∧ OptR LabAt H lv lo ∧ (∀ l, lo = some l → l.2.length ≤ 1000) ∧ ∀ H', Tbs Ts H H' → Q (.bl (idB lo wd k)) H'))
theorem ok_II {T1 f fTO fIL fIH fWI : Addr} {Ts : List Addr} {fd fdTO fdIL fdIH fdWI : FuncData} (hT1 : T1 ∈ Ts) (F : Fun K "is_id" "is_id" sII f fd)
    (GTO : FnOk P w K mg base CX0 1 fTO fdTO ["value", "size"] spTO) (bTO : Binds K fdTO ["value", "size"] []) (gTO : mg "is_tuple_of" = some (.ref fTO)) (kTO : PySem.W.keepIn K (.ref fTO) = true)
    (GIL : FnOk P w K mg base CX0 3 fIL fdIL ["label"] (spIL Ts)) (bIL : Binds K fdIL ["label"] []) (gIL : mg "is_label" = some (.ref fIL)) (kIL : PySem.W.keepIn K (.ref fIL) = true)
    (GIH : FnOk P w K mg base CX0 2 fIH fdIH ["name"] (spIH T1)) (bIH : Binds K fdIH ["name"] []) (gIH : mg "is_hand" = some (.ref fIH)) (kIH : PySem.W.keepIn K (.ref fIH) = true)
    (GWI : FnOk P w K mg base CX0 1 fWI fdWI ["number", "least", "most"] spWI) (bWI : Binds K fdWI ["number", "least", "most"] []) (gWI : mg "is_within" = some (.ref fWI)) (kWI : PySem.W.keepIn K (.ref fWI) = true) :
    FnOk P w K mg base CX0 4 f fd ["name"] (spII Ts) := by
  refine F.ok scII (fun vs H Q E h => ?_) (fun cdv A outer s H vs Q E hr h => ?_)
  · obtain ⟨v, rfl, _⟩ := h
    rfl
  · obtain ⟨v, rfl, g, h⟩ := h
    have hu := hr.units
    have hu1 := hu_of hr
    have hr1 : Room 1 _ := hr.mono (by decide)
    have hr2 : Room 2 _ := hr.mono (by decide)
    have hr3 : Room 3 _ := hr.mono (by decide)
    have zl := zl
    refine ⟨_, (pss_one (ps_ret (pe_and (pe_call GTO hr1 (by rfl) gTO kTO bTO .nil pass0 (pa_cons (pv 0) (pa_cons (pe_int) pa_nil))) (pe_and (pe_call GIL hr3 (by rfl) gIL kIL bIL .nil pass0 (pa_cons (pe_ix ix_tup (pv 0) (pe_int) (fun _ _ => rfl)) pa_nil)) (pe_and (pe_call GIH hr2 (by rfl) gIH kIH bIH .nil pass0 (pa_cons (pe_ix ix_tup (pv 0) (pe_int) (fun _ _ => rfl)) pa_nil)) (pe_one (pe_call GWI hr1 (by rfl) gWI kWI bWI .nil pass0 (pa_cons (pe_ix ix_tup (pv 0) (pe_int) (fun _ _ => rfl)) (pa_cons (pe_int) (pa_cons (pe_int) pa_nil)))))))))), ?_⟩
    rcases h with ⟨rfl, q⟩ | ⟨na, lv, wd, k, lo, rfl, hn, hw, hl, hm, q⟩
    · exact ⟨_, rfl, _, 3, rfl, .inl ⟨rfl, _, rfl, ite2 (fun z => absurd z (by decide)) (fun _ => q _ (Tbs.refl g))⟩⟩
    · have zl := zl
      refine ⟨_, rfl, _, 3, rfl, .inr ⟨na, _, rfl, hn, _, rfl, ite2 (fun _ => ?_) (fun z => absurd rfl z)⟩⟩
      cases lo with
      | none =>
        have ev : lv = .non := hl
        subst ev
        refine ⟨_, rfl, na, _, _, _, rfl, rfl, SqT.of hn, atI_nat (j := 0) rfl, .non, rfl, g, .inl ⟨rfl, fun H1 t1 => ⟨_, rfl, ite2 (fun z => absurd z (by decide)) (fun _ => q H1 t1)⟩⟩⟩
      | some l =>
        have hl2 := hl
        obtain ⟨la, ma, rfl, e1, e2⟩ := hl
        refine ⟨_, rfl, na, _, _, _, rfl, rfl, SqT.of hn, atI_nat (j := 0) rfl, .ref la, rfl, g, .inr ⟨la, ma, some l.1, l.2.map some, rfl, ⟨e1, by rw [List.map_map]; exact e2⟩, by rw [List.length_map]; exact Nat.le_trans (hm l rfl) (by decide), fun H1 t1 => ⟨_, rfl, ite2 (fun h1 => ?_) (fun h1 => ?_)⟩⟩⟩
        · have h1 : okLab l = true := h1
          refine ⟨_, rfl, na, _, _, _, rfl, rfl, SqT.of (t1.tup g hn), atI_nat (j := 1) rfl, Sg wd, rfl, by show wd.length ≤ _; omega, t1.tg T1 hT1, fun H2 t2 => ?_⟩
          have b2 : Tbs Ts H H2 := t1.tab t2 hT1
          refine ⟨_, rfl, ite2 (fun h2 => ?_) (fun h2 => ?_)⟩
          · have h2 : okWord wd = true := h2
            refine ⟨_, rfl, na, _, _, _, rfl, rfl, SqT.of (b2.tup g hn), atI_nat (j := 2) rfl, k, 1, 99999, rfl, ?_⟩
            have := q H2 b2
            unfold idB at this
            simp only [h1, h2, Bool.true_and] at this
            exact this
          · have h2 : okWord wd = false := Bool.eq_false_iff.mpr h2
            have := q H2 b2
            unfold idB at this
            rw [h2, Bool.false_and, Bool.and_false] at this
            exact this
        · have h1 : okLab l = false := Bool.eq_false_iff.mpr h1
          have := q H1 t1
          unfold idB at this
          simp only [h1, Bool.false_and] at this
          exact this
def spIP (Ts : List Addr) : Sp := fun vs H Q _ => ∃ (a : Addr) (ps : Path), vs = [.ref a] ∧ H a = some (.tup (strV ps)) ∧ ps.length ≤ 100000 ∧ (∀ l ∈ ps, l.length ≤ 100000) ∧ TG Ts H ∧ ∀ H', Tbs Ts H H' → Q (.bl (okPath ps)) H'
theorem ok_IP {T1 T3 c f fIW : Addr} {Ts : List Addr} {oc kV doc pm ct : Value} {od an : Option Addr} {osl : Array (Option Value)} {fdIW : FuncData} {kLE kDI : Tok} (hT1 : T1 ∈ Ts) (hT3 : T3 ∈ Ts) (lk : K.lookup f = some ⟨oc, od, .func (PySem.W.fnOf "is_path" "is_path" (defArgs sIP) (defBody sIP) (defScope sIP) .none kV doc pm an (.ref c) ct), osl⟩)
    (hcd : PySem.W.codeIn K (.ref c) "is_path" = true) (TB : TabB base mg c T3)
    (GW : FnOk P w K mg base CX0 1 fIW fdIW ["text", "signs", "most"] (spWord T1)) (bW : Binds K fdIW ["text", "signs", "most"] []) (gW : mg "is_word" = some (.ref fIW)) (kW : PySem.W.keepIn K (.ref fIW) = true)
    (gLE : mg "LETTERS" = some (.str "abcdefghijklmnopqrstuvwxyz" kLE)) (gDI : mg "DIGITS" = some (.str digitsS kDI))
    (m_isinstance : mg "isinstance" = none) (m_tuple : mg "tuple" = none) (m_len : mg "len" = none) (m_all : mg "all" = none) (m_str : mg "str" = none) :
    FnOk P w K mg base CX0 3 f (PySem.W.fnOf "is_path" "is_path" (defArgs sIP) (defBody sIP) (defScope sIP) .none kV doc pm an (.ref c) ct) ["path"] (spIP Ts) := by
  refine fn_of lk hcd scIP (fun vs H Q E h => ?_) fun A outer s H vs Q E hr h => ?_
  · obtain ⟨a, ps, rfl, _⟩ := h
    rfl
  · obtain ⟨a, ps, rfl, ha, hn, hl, g, q⟩ := h
    have hu := hr.units
    have hu1 := hu_of hr
    have hr1 : Room 1 _ := hr.mono (by decide)
    have zl := zl
    have hrX := hr
    refine ⟨_, (pss_cons (ps_if (PW.pt (pw_or (pt_not (pt_val (pe_callB call_isi (by rfl) m_isinstance (by decide +kernel) (pa_cons (pv 0) (pa_cons (pe_bltn (v := V.ty "tuple") (u := .type "tuple") (by rfl) m_tuple (by decide +kernel) rfl) pa_nil))))) (pw_or1 (pt_not (pt_chain op_le op_le (pe_int) (pe_callB call_len_seq (by rfl) m_len PySem.boot_len (pa_cons (pv 0) pa_nil)) (pe_int))))))
      (pss_one (ps_ret (pe_bl))) pss_nil)
      (pss_one (ps_ret (GX.pe_allG (k := 1) (own := [("part", 1)]) (g := gName 1) (tt := tYes) (te := tAndV (tCB (rIsi K) (tCons (tVar 1) (tCons (tC (.ty "str")) tNil))) (tCall (spWord T1) [] E0 (tCons (tVar 1) (tCons (tOp (fun x y H Q => ∃ i j, x = .str i ∧ y = .str j ∧ i.length + j.length ≤ sizeLine ∧ Q (.str (i ++ j)) H) (tC (.str "abcdefghijklmnopqrstuvwxyz")) (tC (.str digitsS))) (tCons (tC (.int 8)) tNil))))) hrX rfl scIP.nd (by rfl) m_all ⟨blkOk_by (N := nIP) (sc := defScope sIP) (by decide +kernel), by decide +kernel, rfl, rfl, TB, rfl⟩ (pi_tup (pv 0)) (fun _ _ _ _ _ _ hrG => by exact pg_name (i := 1) scIP.nd rfl (.inl rfl)) (fun _ _ _ _ _ _ hrG => pts_nil) (fun _ _ _ _ _ _ hrG => by exact pe_and (pe_callB (show CallR _ (.builtin "isinstance") (rIsi K) from call_isi) (by rfl) m_isinstance (by decide +kernel) (pa_cons (pv 1) (pa_cons (pe_bltn (v := V.ty "str") (u := .type "str") (by rfl) m_str (by decide +kernel) rfl) pa_nil))) (pe_one (pe_call GW (hrG.mono (by decide)) (by rfl) gW kW bW .nil pass0 (pa_cons (pv 1) (pa_cons (pe_op op_add_str (pe_glob (v := V.str "abcdefghijklmnopqrstuvwxyz") (by rfl) gLE ⟨_, rfl⟩) (pe_glob (v := V.str digitsS) (by rfl) gDI ⟨_, rfl⟩)) (pa_cons (pe_int) pa_nil)))))) (fun _ => rfl))))), ?_⟩
    have lps : (strV ps).length = ps.length := List.length_map _
    have no : ∀ H', Tbs Ts H H' → ¬ (1 ≤ ps.length ∧ ps.length ≤ 4) → Q (.bl false) H' := fun H' t z => by
      have := q H' t
      unfold okPath at this
      rw [decide_eq_false z, Bool.false_and] at this
      exact this
    dsimp only [tNext, tSeq, tIfS, tAsg, gName, tC]
    refine or_dec (p := False) (q := ¬ (1 ≤ ps.length ∧ ps.length ≤ 4)) (fun R k => ⟨_, rfl, _, _, _, _, true, rfl, .ty _, .base (.tup ha), kit_ty (by decide +kernel), _, rfl, to_dec (by simp) (k _ same_refl)⟩)
      (fun _ H1 s1 R k => ⟨_, rfl, a, _, rfl, .inr (SqT.of (s1 _ _ ha)), _, _, rfl, rfl, _, rfl, ite2 (fun h1 => ⟨_, _, rfl, rfl, _, rfl, ?_⟩) (fun h1 => ⟨_, rfl, ?_⟩)⟩) fun H1 s1 => ite2 (fun h1 => ?_) (fun h1 => ?_)
    · have h1 := of_decide_eq_true h1
      refine to_dec ?_ (k _ same_refl)
      rw [← decide_not]
      exact decide_eq_decide.mpr (by omega)
    · have h1 : ¬ (1 : Int) ≤ ((strV ps).length : Int) := fun z => h1 (decide_eq_true z)
      refine to_dec ?_ (k _ same_refl)
      exact (decide_eq_true (by omega)).symm
    · have h1 := of_decide_eq_true h1
      exact no H1 ((Tbs.refl g).same s1) (by simpa using h1)
    · have h1 : 1 ≤ ps.length ∧ ps.length ≤ 4 := Decidable.byContradiction fun z => h1 (decide_eq_true (.inr z))
      have yes : ∀ H', Tbs Ts H H' → Q (.bl (ps.all fun l => wordB (Sg l) letS 8)) H' := fun H' t => by
        have := q H' t
        unfold okPath at this
        rw [decide_eq_true h1, Bool.true_and] at this
        exact this
      have t1 := (Tbs.refl g).same s1
      refine ⟨_, rfl, a, rfl, ⟨_, SqT.of (s1 _ _ ha)⟩, t1.tg T3 hT3, fun H2 t2 => ?_⟩
      have b2 := t1.tab t2 hT3
      refine GX.wk_tup (xs := strV ps) (fun k H' => Tbs Ts H H' ∧ ∀ (m : Nat) (l : List Nat), m < k → ps[m]? = some l → wordB (Sg l) letS 8 = true) ⟨b2, fun m l h => by omega⟩ ?_ ?_ ?_
      · rintro k H' _ ⟨t5, _⟩
        exact SqT.of (t5.tup g ha)
      · rintro i y H5 hy ⟨t5, hm⟩
        obtain ⟨l, gl, rfl⟩ := map_get hy
        have ll := hl l (List.mem_of_getElem? gl)
        refine ⟨rfl, _, rfl, _, _, _, _, true, rfl, .ty _, .base (.str _), kit_ty (by decide +kernel), _, rfl, ite2 (fun _ => ?_) (fun z => absurd rfl z)⟩
        refine ⟨_, rfl, _, _, rfl, rfl, (by have : (Str.ofString "abcdefghijklmnopqrstuvwxyz").length + digitsS.length = 36 := by decide +kernel
                                            omega), Sg l, _, 8, rfl, (by show l.length ≤ _; omega), t5.tg T1 hT1, fun H6 t6 => ⟨_, rfl, ?_⟩⟩
        have b6 := t5.tab t6 hT1
        by_cases hw : wordB (Sg l) letS 8 = true
        · rw [show wordB (Sg l) (Str.ofString "abcdefghijklmnopqrstuvwxyz" ++ digitsS) 8 = true from hw, if_neg (by decide)]
          refine ⟨b6, fun m l' h e => ?_⟩
          by_cases hmk : m = i
          · subst hmk
            rw [gl] at e
            cases e
            exact hw
          · exact hm m l' (by omega) e
        · rw [if_pos (show wordB (Sg l) (Str.ofString "abcdefghijklmnopqrstuvwxyz" ++ digitsS) 8 = false from Bool.eq_false_iff.mpr hw)]
          have := yes H6 b6
          rw [show (ps.all fun l => wordB (Sg l) letS 8) = false by
            rw [List.all_eq_false]
            exact ⟨l, List.mem_of_getElem? gl, hw⟩] at this
          exact this
      · rintro H5 ⟨t5, hm⟩
        rw [lps] at hm
        have := yes H5 t5
        rw [show (ps.all fun l => wordB (Sg l) letS 8) = true by
          rw [List.all_eq_true]
          intro c hc
          obtain ⟨m, e⟩ := List.mem_iff_getElem?.mp hc
          exact hm m c (List.getElem?_eq_some_iff.mp e).1 e] at this
        exact this
def spIV (Ts : List Addr) : Sp := fun vs H Q _ => ∃ (va : Addr) (nv : V) (a b : Option Nat) (o : Option Nm), vs = [.ref va] ∧ TG Ts H ∧ H va = some (.tup [nv, optV a, optV b]) ∧ OptR NmAt H nv o ∧ (∀ n, o = some n → n.1.2.length ≤ 1000 ∧ n.2.1.length ≤ 1000) ∧ ∀ H', Tbs Ts H H' → Q (.bl (vxB o a b)) H'
theorem ok_IV {f fTO fII fWI : Addr} {Ts : List Addr} {fd fdTO fdII fdWI : FuncData} {kMC : Tok} (F : Fun K "is_vertex" "is_vertex" sIV f fd)
    (GTO : FnOk P w K mg base CX0 1 fTO fdTO ["value", "size"] spTO) (bTO : Binds K fdTO ["value", "size"] []) (gTO : mg "is_tuple_of" = some (.ref fTO)) (kTO : PySem.W.keepIn K (.ref fTO) = true)
    (GII : FnOk P w K mg base CX0 4 fII fdII ["name"] (spII Ts)) (bII : Binds K fdII ["name"] []) (gII : mg "is_id" = some (.ref fII)) (kII : PySem.W.keepIn K (.ref fII) = true)
    (GWI : FnOk P w K mg base CX0 1 fWI fdWI ["number", "least", "most"] spWI) (bWI : Binds K fdWI ["number", "least", "most"] []) (gWI : mg "is_within" = some (.ref fWI)) (kWI : PySem.W.keepIn K (.ref fWI) = true) (gMC : mg "MOST_CHANGES" = some (.int 12 kMC)) :
    FnOk P w K mg base CX0 5 f fd ["vertex"] (spIV Ts) := by
  refine F.ok scIV (fun vs H Q E h => ?_) (fun cdv A outer s H vs Q E hr h => ?_)
  · obtain ⟨va, nv, a, b, o, rfl, _⟩ := h
    rfl
  · obtain ⟨va, nv, a, b, o, rfl, g, hv, ho, hb, q⟩ := h
    have hu := hr.units
    have hu1 := hu_of hr
    have hr1 : Room 1 _ := hr.mono (by decide)
    have hr2 : Room 2 _ := hr.mono (by decide)
    have hr3 : Room 3 _ := hr.mono (by decide)
    have hr4 : Room 4 _ := hr.mono (by decide)
    have zl := zl
    refine ⟨_, (pss_one (ps_ret (pe_and (pe_call GTO hr1 (by rfl) gTO kTO bTO .nil pass0 (pa_cons (pv 0) (pa_cons (pe_int) pa_nil))) (pe_and (pe_call GII hr4 (by rfl) gII kII bII .nil pass0 (pa_cons (pe_ix ix_tup (pv 0) (pe_int) (fun _ _ => rfl)) pa_nil)) (pe_and (pe_call GWI hr1 (by rfl) gWI kWI bWI .nil pass0 (pa_cons (pe_ix ix_tup (pv 0) (pe_int) (fun _ _ => rfl)) (pa_cons (pe_int) (pa_cons (pe_op op_sub (pe_glob (v := V.int 12) (by rfl) gMC ⟨_, rfl⟩) (pe_int)) pa_nil)))) (pe_one (pe_call GWI hr1 (by rfl) gWI kWI bWI .nil pass0 (pa_cons (pe_ix ix_tup (pv 0) (pe_int) (fun _ _ => rfl)) (pa_cons (pe_int) (pa_cons (pe_int) pa_nil)))))))))), ?_⟩
    refine ⟨_, rfl, _, 3, rfl, .inr ⟨va, _, rfl, hv, _, rfl, ite2 (fun _ => ?_) (fun z => absurd rfl z)⟩⟩
    cases o with
    | none =>
      have ev : nv = .non := ho
      subst ev
      refine ⟨_, rfl, va, _, _, _, rfl, rfl, SqT.of hv, atI_nat (j := 0) rfl, .non, rfl, g, .inl ⟨rfl, fun H1 t1 => ⟨_, rfl, ite2 (fun z => absurd z (by decide)) (fun _ => q H1 t1)⟩⟩⟩
    | some n =>
      obtain ⟨na, lv, rfl, e1, e2⟩ := ho
      refine ⟨_, rfl, va, _, _, _, rfl, rfl, SqT.of hv, atI_nat (j := 0) rfl, .ref na, rfl, g, .inr ⟨na, lv, n.2.1, some n.2.2, some n.1, rfl, e1, Nat.le_trans (hb n rfl).2 (by decide), e2, fun l e => by cases e; exact (hb n rfl).1, fun H1 t1 => ⟨_, rfl, ite2 (fun h1 => ?_) (fun h1 => ?_)⟩⟩⟩
      · have h1 : okNm n = true := h1
        refine ⟨_, rfl, va, _, _, _, rfl, rfl, SqT.of (t1.tup g hv), atI_nat (j := 1) rfl, _, _, rfl, rfl, a, 0, 11, rfl, _, rfl, ite2 (fun h2 => ?_) (fun h2 => ?_)⟩
        · have h2 : withinB a 0 11 = true := h2
          refine ⟨_, rfl, va, _, _, _, rfl, rfl, SqT.of (t1.tup g hv), atI_nat (j := 2) rfl, b, 0, 199, rfl, ?_⟩
          have := q H1 t1
          unfold vxB at this
          simp only [h1, h2, Bool.true_and] at this
          exact this
        · have h2 : withinB a 0 11 = false := Bool.eq_false_iff.mpr h2
          have := q H1 t1
          unfold vxB at this
          simp only [h2, Bool.false_and, Bool.and_false] at this
          exact this
      · have h1 : okNm n = false := Bool.eq_false_iff.mpr h1
        have := q H1 t1
        unfold vxB at this
        simp only [h1, Bool.false_and] at this
        exact this
end
end K20
namespace K20
open PySem PySem.Spec PyProof.Rows L2 TL TR QR
open GxR (TabB TabG Tabbed)
abbrev sSL : Stmt := topS 15
abbrev nSL : List Str := ["label", "marks", "mark"]
theorem scSL : FnScope nSL ["label"] (defScope sSL) := ⟨rfl, rfl, rfl, by decide +kernel, rfl, by decide +kernel, by decide +kernel⟩
abbrev sSH : Stmt := topS 16
abbrev nSH : List Str := ["path"]
theorem scSH : FnScope nSH ["path"] (defScope sSH) := ⟨rfl, rfl, rfl, by decide +kernel, rfl, by decide +kernel, by decide +kernel⟩
abbrev sSI : Stmt := topS 17
abbrev nSI : List Str := ["name"]
theorem scSI : FnScope nSI ["name"] (defScope sSI) := ⟨rfl, rfl, rfl, by decide +kernel, rfl, by decide +kernel, by decide +kernel⟩
abbrev sSV : Stmt := topS 18
abbrev nSV : List Str := ["vertex"]
theorem scSV : FnScope nSV ["vertex"] (defScope sSV) := ⟨rfl, rfl, rfl, by decide +kernel, rfl, by decide +kernel, by decide +kernel⟩
def markL (ms : List Nat) : List Nat := (ms.map numL).flatten
def labL (l : Lab) : List Nat := numL l.1 ++ (if l.2 = [] then [] else 58 :: markL l.2)
def slashL : Path → List Nat := TR.joinL 47
def idL (n : Nm) : List Nat := labL n.1 ++ 46 :: (n.2.1 ++ 46 :: numL n.2.2)
def vxL (x : Vx) : List Nat := idL x.1 ++ 46 :: (numL x.2.1 ++ 46 :: numL x.2.2)
def SmL (l : Lab) : Prop := l.1 ≤ 99999 ∧ l.2.length ≤ 1000 ∧ ∀ m ∈ l.2, m ≤ 9
def SmN (n : Nm) : Prop := SmL n.1 ∧ n.2.1.length ≤ 1000 ∧ n.2.2 ≤ 99999
def SmV (x : Vx) : Prop := SmN x.1 ∧ x.2.1 ≤ 99999 ∧ x.2.2 ≤ 99999
def SmP (ps : Path) : Prop := ps.length ≤ 1000 ∧ ∀ l ∈ ps, l.length ≤ 1000
theorem sg_num (n : Nat) : Str.ofString (toString (n : Int)) = Sg (numL n) := ext_tl (tl_num n)
theorem num_five {n : Nat} (h : n ≤ 99999) : (numL n).length ≤ 5 := numL_len (by decide) (by omega)
theorem num_small {n : Nat} (h : n ≤ 99999) : (n : Int).natAbs.log2 < 1920 := log2_small (n := 60) (by omega) (by decide) (by decide)
theorem mark_len : ∀ {ms : List Nat}, (∀ m ∈ ms, m ≤ 9) → (markL ms).length = ms.length
  | [], _ => rfl
  | m :: r, h => by
    have := mark_len (ms := r) fun x hx => h x (List.mem_cons_of_mem _ hx)
    unfold markL at this ⊢
    rw [List.map_cons, List.flatten_cons, List.length_append, this, numL_lt (by have := h m List.mem_cons_self; omega)]
    simp only [List.length_cons, List.length_nil]
    omega
theorem lab_len {l : Lab} (h : SmL l) : (labL l).length ≤ 1006 := by
  have a := num_five h.1
  have b := mark_len h.2.2
  have c := h.2.1
  unfold labL
  rw [List.length_append]
  split
  · show _ + 0 ≤ _
    omega
  · rw [List.length_cons]
    omega
theorem id_len {n : Nm} (h : SmN n) : (idL n).length ≤ 2013 := by
  have a := lab_len h.1
  have b := num_five h.2.2
  have c := h.2.1
  unfold idL
  rw [List.length_append, List.length_cons, List.length_append, List.length_cons]
  omega
theorem vx_len {n : Vx} (h : SmV n) : (vxL n).length ≤ 2025 := by
  have a := id_len h.1
  have b := num_five h.2.1
  have c := num_five h.2.2
  unfold vxL
  rw [List.length_append, List.length_cons, List.length_append, List.length_cons]
  omega
theorem sg_app (a b : List Nat) : Sg a ++ Sg b = Sg (a ++ b) := ext_tl (tl_app _ _)
theorem dot_str : Str.ofString "." = Sg [46] := by decide +kernel
theorem colon_str : Str.ofString ":" = Sg [58] := by decide +kernel
theorem slash_str : Str.ofString "/" = ⟨#[47]⟩ := by decide +kernel
theorem empty_str : Str.empty = Sg [] := rfl
theorem join_slash (ps : Path) : Txt.join (Str.ofString "/") (ps.map Sg) = Sg (slashL ps) := by
  rw [slash_str]
  show Builtin.Str.glued _ _ = _
  rw [StrLaws.glued_eq_join]
  refine ext_tl ?_
  rw [TR.tl_join, List.map_map]
  have e : (tl ∘ Sg) = id := by funext l; rfl
  rw [e, List.map_id]
  rfl
theorem sum_sg (b : Nat) : ∀ {ps : Path}, (∀ l ∈ ps, l.length ≤ b) → ((ps.map Sg).map (·.length)).sum ≤ b * ps.length
  | [], _ => Nat.le_refl _
  | p :: r, h => by
    have a := h p List.mem_cons_self
    have c := sum_sg b (ps := r) fun x hx => h x (List.mem_cons_of_mem _ hx)
    rw [List.map_cons, List.map_cons, List.sum_cons, List.length_cons, Nat.mul_succ]
    have e : (Sg p).length = p.length := rfl
    rw [e]
    omega
section
variable {P : Program} {w : World} {K : PySem.W.Frag} {mg : Str → Option Value} {base : Heap}
def spSL : Sp := fun vs H Q _ => ∃ (v : V) (l : Lab), vs = [v] ∧ LabAt H v l ∧ SmL l ∧ ∀ H', Same H H' → Q (.str (Sg (labL l))) H'
theorem ok_SL {f : Addr} {fd : FuncData} (F : Fun K "show_label" "show_label" sSL f fd)
    (m_str : mg "str" = none) : FnOk P w K mg base CX0 1 f fd ["label"] spSL := by
  refine F.ok scSL (fun vs H Q E h => ?_) (fun cdv A outer s H vs Q E hr h => ?_)
  · obtain ⟨v, l, rfl, _⟩ := h
    rfl
  · obtain ⟨v, l, rfl, hl, sm, q⟩ := h
    have hu := hr.units
    have hu1 := hu_of hr
    have zl := zl
    refine ⟨_, (pss_cons (ps_set (i := 1) scSL.nd rfl (.inl rfl) (pe_join (pe_str) (pe_lc (own := [("mark", 2)]) (g := gName 2) (tt := tYes) (te := tCB (fun xs H Q => ∃ i, xs = [.int i] ∧ i.natAbs.log2 < 1920 ∧ Q (.str (toString i)) H) (tCons (tVar 2) tNil)) rfl scSL.nd (pi_tup (pe_ix ix_tup (pv 0) (pe_int) (fun _ _ => rfl))) (blkOk_by (N := nSL) (sc := defScope sSL) (by decide +kernel)) (fun _ _ _ _ _ => by exact pg_name (i := 2) scSL.nd rfl (.inl rfl)) (fun _ _ _ _ _ => pts_nil) (fun _ _ _ _ _ => by exact pe_callTy call_str_int (by rfl) m_str (by decide +kernel) (pa_cons (pv 2) pa_nil)))))
      (pss_one (ps_ret (pe_ifExp (pt_truth (pv 1) (by intro _; rfl)) (pe_joined (.cons (pe_fmt (pe_ix ix_tup (pv 0) (pe_int) (fun _ _ => rfl))) (.cons (pe_str) (.cons (pe_fmt (pv 1)) (.nil))))) (pe_callTy call_str_int (by rfl) m_str (by decide +kernel) (pa_cons (pe_ix ix_tup (pv 0) (pe_int) (fun _ _ => rfl)) pa_nil)))))), ?_⟩
    obtain ⟨la, ma, rfl, h1, h2⟩ := hl
    have zl := zl
    have lm : (l.2.map fun m : Nat => V.int (m : Int)).length = l.2.length := List.length_map _
    refine ⟨⟨_, rfl⟩, _, rfl, la, _, _, _, rfl, rfl, SqT.of h1, atI_nat (j := 2) rfl, ma, rfl, ⟨_, SqT.of h2⟩, fun D nD => ?_⟩
    have s0 : Same H (upd H D (.lst [])) := same_new nD
    refine lc_tup (xs := l.2.map fun m : Nat => V.int (m : Int)) (fun i H' => Same H H' ∧ H' D = some (.lst ((l.2.take i).map fun m => V.str (Sg (numL m))))) ⟨s0, upd_same⟩ ?_ ?_ ?_
    · rintro i H' _ ⟨s1, _⟩
      exact SqT.of (s1 _ _ h2)
    · rintro i y H1 hy ⟨s1, eD⟩
      obtain ⟨m, gm, rfl⟩ := map_get hy
      have hm := sm.2.2 m (List.mem_of_getElem? gm)
      have li := (List.getElem?_eq_some_iff.mp gm).1
      have := sm.2.1
      refine ⟨rfl, _, rfl, (m : Int), rfl, num_small (by omega), _, eD, by rw [List.length_map, List.length_take]; omega, same_upd nD s1, ?_⟩
      rw [upd_same, List.take_add_one, gm]
      show _ = some (HO.lst (((l.2.take i) ++ [m]).map _))
      rw [List.map_append]
      show some (HO.lst (_ ++ [V.str (Str.ofString (toString (m : Int)))])) = _
      rw [sg_num]
      rfl
    · rintro H1 ⟨s1, eD⟩
      rw [lm, List.take_length] at eD
      have eD2 : H1 D = some (.lst (((l.2.map numL).map Sg).map V.str)) := by
        rw [eD, List.map_map, List.map_map]
        rfl
      have sms : ∀ p ∈ l.2.map numL, p.length ≤ 5 := fun p hp => by
        obtain ⟨m, hm, rfl⟩ := List.mem_map.mp hp
        exact num_five (by have := sm.2.2 m hm; omega)
      have ml := mark_len sm.2.2
      have ll := sm.2.1
      have lb := lab_len sm
      have l5 := num_five sm.1
      refine ⟨_, D, _, rfl, rfl, .inl (SqL.of eD2), ?_, ?_⟩
      · have := sum_sg 5 sms
        rw [List.length_map] at this
        rw [List.length_map, List.length_map, show (Str.ofString "").length = 0 by decide +kernel]
        omega
      have ej : Txt.join (Str.ofString "") ((l.2.map numL).map Sg) = Sg (markL l.2) := by
        rw [show Str.ofString "" = Str.empty from rfl, txt_join0, List.map_map]
        have e : (tl ∘ Sg) = id := by funext l; rfl
        rw [e, List.map_id]
        rfl
      rw [ej]
      have e1 := s1 _ _ h1
      dsimp only [tNext, tSeq, tIfS, tAsg, gName, tC]
      have qq := q H1 s1
      unfold labL at qq
      have lM : (Sg (markL l.2)).length = l.2.length := ml
      have dots : ∀ a b : List Nat, Str.empty ++ Sg a ++ Str.ofString ":" ++ Sg b = Sg (a ++ 58 :: b) := fun a b => by
        rw [empty_str, colon_str, sg_app, sg_app, sg_app, List.nil_append, List.append_assoc]
        rfl
      have lens : ∀ a : List Nat, (Sg a).length = a.length := fun a => rfl
      by_cases hms : l.2 = []
      · rw [if_pos hms, List.append_nil] at qq
        refine ⟨_, rfl, false, ⟨by rw [lM]; omega, by rw [lM, hms]; rfl⟩, iteF ⟨_, rfl, la, _, _, _, rfl, rfl, SqT.of e1, atI_nat (j := 1) rfl, (l.1 : Int), rfl, num_small sm.1, ?_⟩⟩
        rw [sg_num]
        exact qq
      · rw [if_neg hms] at qq
        have l0 : 0 < l.2.length := List.length_pos_iff.mpr hms
        have d := dots (numL l.1) (markL l.2)
        refine ⟨_, rfl, true, ⟨by rw [lM]; omega, by rw [lM]; simp; omega⟩, iteT ⟨_, rfl, la, _, _, _, rfl, rfl, SqT.of e1, atI_nat (j := 1) rfl, .inr ⟨(l.1 : Int), rfl, num_small sm.1, _, rfl, ?_, _, rfl, ?_, _, rfl, .inl ⟨_, rfl, by rw [lM]; omega, _, rfl, ?_, ?_⟩⟩⟩⟩
        · rw [sg_num, empty_str, sg_app, lens, List.nil_append]
          omega
        · rw [sg_num, empty_str, colon_str, sg_app, sg_app]
          simp only [lens, List.nil_append, List.length_append, List.length_cons, List.length_nil]
          omega
        · rw [sg_num, d, lens, List.length_append, List.length_cons]
          omega
        · rw [sg_num, d]
          exact qq
def spSI : Sp := fun vs H Q _ => ∃ (v : V) (n : Nm), vs = [v] ∧ NmAt H v n ∧ SmN n ∧ ∀ H', Same H H' → Q (.str (Sg (idL n))) H'
theorem ok_SI {f fSL : Addr} {fd fdSL : FuncData} (F : Fun K "show_id" "show_id" sSI f fd)
    (GSL : FnOk P w K mg base CX0 1 fSL fdSL ["label"] spSL) (bSL : Binds K fdSL ["label"] []) (gSL : mg "show_label" = some (.ref fSL)) (kSL : PySem.W.keepIn K (.ref fSL) = true) :
    FnOk P w K mg base CX0 2 f fd ["name"] spSI := by
  refine F.ok scSI (fun vs H Q E h => ?_) (fun cdv A outer s H vs Q E hr h => ?_)
  · obtain ⟨v, n, rfl, _⟩ := h
    rfl
  · obtain ⟨v, n, rfl, ⟨na, lv, rfl, e1, e2⟩, sm, q⟩ := h
    have hu := hr.units
    have hu1 := hu_of hr
    have hr1 : Room 1 _ := hr.mono (by decide)
    have zl := zl
    refine ⟨_, (pss_one (ps_ret (pe_joined (.cons (pe_fmt (pe_call GSL hr1 (by rfl) gSL kSL bSL .nil pass0 (pa_cons (pe_ix ix_tup (pv 0) (pe_int) (fun _ _ => rfl)) pa_nil))) (.cons (pe_str) (.cons (pe_fmt (pe_ix ix_tup (pv 0) (pe_int) (fun _ _ => rfl))) (.cons (pe_str) (.cons (pe_fmt (pe_ix ix_tup (pv 0) (pe_int) (fun _ _ => rfl))) (.nil))))))))), ?_⟩
    have zl := zl
    have lens : ∀ a : List Nat, (Sg a).length = a.length := fun a => rfl
    have ll := lab_len sm.1
    have l5 := num_five sm.2.2
    have lw := sm.2.1
    have e4 : Str.empty ++ Sg (labL n.1) ++ Str.ofString "." ++ Sg n.2.1 ++ Str.ofString "." ++ Sg (numL n.2.2) = Sg (idL n) := by
      rw [empty_str, dot_str, sg_app, sg_app, sg_app, sg_app, sg_app]
      unfold idL
      simp
    refine ⟨_, rfl, na, _, _, _, rfl, rfl, SqT.of e1, atI_nat (j := 0) rfl, lv, n.1, rfl, e2, sm.1, fun H1 s1 => .inl ⟨_, rfl, by rw [lens]; omega, _, rfl, ?_, _, rfl, ?_,
      _, rfl, na, _, _, _, rfl, rfl, SqT.of (s1 _ _ e1), atI_nat (j := 1) rfl, .inl ⟨_, rfl, by rw [lens]; omega, _, rfl, ?_, _, rfl, ?_, _, rfl, na, _, _, _, rfl, rfl, SqT.of (s1 _ _ e1), atI_nat (j := 2) rfl, .inr ⟨(n.2.2 : Int), rfl, num_small sm.2.2, _, rfl, ?_, ?_⟩⟩⟩⟩
    · rw [empty_str, sg_app, lens, List.nil_append]
      omega
    · rw [empty_str, dot_str, sg_app, sg_app]
      simp only [lens, List.nil_append, List.length_append, List.length_cons, List.length_nil]
      omega
    · rw [empty_str, dot_str, sg_app, sg_app, sg_app]
      simp only [lens, List.nil_append, List.length_append, List.length_cons, List.length_nil]
      omega
    · rw [empty_str, dot_str, sg_app, sg_app, sg_app, sg_app]
      simp only [lens, List.nil_append, List.length_append, List.length_cons, List.length_nil]
      omega
    · rw [sg_num, e4, lens]
      have := id_len sm
      omega
    · rw [sg_num, e4]
      exact q H1 s1
def spSV : Sp := fun vs H Q _ => ∃ (v : V) (n : Vx), vs = [v] ∧ VxAt H v n ∧ SmV n ∧ ∀ H', Same H H' → Q (.str (Sg (vxL n))) H'
theorem ok_SV {f fSI : Addr} {fd fdSI : FuncData} (F : Fun K "show_vertex" "show_vertex" sSV f fd)
    (GSI : FnOk P w K mg base CX0 2 fSI fdSI ["name"] spSI) (bSI : Binds K fdSI ["name"] []) (gSI : mg "show_id" = some (.ref fSI)) (kSI : PySem.W.keepIn K (.ref fSI) = true) :
    FnOk P w K mg base CX0 3 f fd ["vertex"] spSV := by
  refine F.ok scSV (fun vs H Q E h => ?_) (fun cdv A outer s H vs Q E hr h => ?_)
  · obtain ⟨v, n, rfl, _⟩ := h
    rfl
  · obtain ⟨v, n, rfl, ⟨na, lv, rfl, e1, e2⟩, sm, q⟩ := h
    have hu := hr.units
    have hu1 := hu_of hr
    have hr1 : Room 1 _ := hr.mono (by decide)
    have hr2 : Room 2 _ := hr.mono (by decide)
    have zl := zl
    refine ⟨_, (pss_one (ps_ret (pe_joined (.cons (pe_fmt (pe_call GSI hr2 (by rfl) gSI kSI bSI .nil pass0 (pa_cons (pe_ix ix_tup (pv 0) (pe_int) (fun _ _ => rfl)) pa_nil))) (.cons (pe_str) (.cons (pe_fmt (pe_ix ix_tup (pv 0) (pe_int) (fun _ _ => rfl))) (.cons (pe_str) (.cons (pe_fmt (pe_ix ix_tup (pv 0) (pe_int) (fun _ _ => rfl))) (.nil))))))))), ?_⟩
    have zl := zl
    have lens : ∀ a : List Nat, (Sg a).length = a.length := fun a => rfl
    have ll := id_len sm.1
    have l5 := num_five sm.2.1
    have l6 := num_five sm.2.2
    have e4 : Str.empty ++ Sg (idL n.1) ++ Str.ofString "." ++ Sg (numL n.2.1) ++ Str.ofString "." ++ Sg (numL n.2.2) = Sg (vxL n) := by
      rw [empty_str, dot_str, sg_app, sg_app, sg_app, sg_app, sg_app]
      unfold vxL
      simp
    refine ⟨_, rfl, na, _, _, _, rfl, rfl, SqT.of e1, atI_nat (j := 0) rfl, lv, n.1, rfl, e2, sm.1, fun H1 s1 => .inl ⟨_, rfl, by rw [lens]; omega, _, rfl, ?_, _, rfl, ?_,
      _, rfl, na, _, _, _, rfl, rfl, SqT.of (s1 _ _ e1), atI_nat (j := 1) rfl, .inr ⟨(n.2.1 : Int), rfl, num_small sm.2.1, _, rfl, ?_, _, rfl, ?_, _, rfl, na, _, _, _, rfl, rfl, SqT.of (s1 _ _ e1), atI_nat (j := 2) rfl, .inr ⟨(n.2.2 : Int), rfl, num_small sm.2.2, _, rfl, ?_, ?_⟩⟩⟩⟩
    · rw [empty_str, sg_app, lens, List.nil_append]
      omega
    · rw [empty_str, dot_str, sg_app, sg_app]
      simp only [lens, List.nil_append, List.length_append, List.length_cons, List.length_nil]
      omega
    · rw [sg_num, empty_str, dot_str, sg_app, sg_app, sg_app]
      simp only [lens, List.nil_append, List.length_append, List.length_cons, List.length_nil]
      omega
    · rw [sg_num, empty_str, dot_str, sg_app, sg_app, sg_app, sg_app]
      simp only [lens, List.nil_append, List.length_append, List.length_cons, List.length_nil]
      omega
    · rw [sg_num, sg_num, e4, lens]
      have := vx_len sm
      omega
    · rw [sg_num, sg_num, e4]
      exact q H1 s1
def spSH : Sp := fun vs H Q _ => ∃ (v : V) (ps : Path), vs = [v] ∧ PathAt H v ps ∧ SmP ps ∧ Q (.str (Sg (slashL ps))) H
theorem ok_SH {f : Addr} {fd : FuncData} (F : Fun K "show_path" "show_path" sSH f fd) : FnOk P w K mg base CX0 1 f fd ["path"] spSH := by
  refine F.ok scSH (fun vs H Q E h => ?_) (fun cdv A outer s H vs Q E hr h => ?_)
  · obtain ⟨a, ps, rfl, _⟩ := h
    rfl
  · obtain ⟨v, ps, rfl, ⟨a, rfl, ha⟩, ⟨hn, hl⟩, q⟩ := h
    have hu := hr.units
    have hu1 := hu_of hr
    have zl := zl
    refine ⟨_, (pss_one (ps_ret (pe_join (pe_str) (pv 0)))), ?_⟩
    refine ⟨⟨_, rfl⟩, _, rfl, _, a, ps.map Sg, rfl, rfl, .inr (SqT.of (by rw [List.map_map]; exact ha)), ?_, ?_⟩
    · have := sum_sg 1000 hl
      rw [List.length_map, show (Str.ofString "/").length = 1 by decide +kernel]
      omega
    · rw [join_slash]
      exact q
end
end K20
/-! x.rsplit(sep, k) -/
namespace GX
open PySem PySem.Spec PyProof.Rows L2
section
variable {X : Cx}
theorem mt_rsplitMax : MtR X "str.rsplit" (fun x xs H Q => ∃ (a b : Str) (k : Int), x = .str a ∧ xs = [.str b, .int k] ∧ (b.length == 0) = false ∧ -(2 ^ 63) ≤ k ∧ k < 2 ^ 63 ∧ a.length + 2 ≤ sizeLine ∧ rNewStrs (Txt.rsplitMax a b k) H Q) := by
  intro pins s σ H x xs v us Q I rx rs ⟨a, b, k, ex, exs, hb, k1, k2, hz, h⟩
  subst ex
  subst exs
  obtain ⟨t, rfl⟩ := rx
  cases rs with
  | cons r1 rs =>
    cases rs with
    | cons r2 rs =>
      cases rs
      obtain ⟨u, rfl⟩ := r1
      obtain ⟨v, rfl⟩ := r2
      have hk : (decide (k < -(2 ^ 63 : Int)) || decide (k ≥ 2 ^ 63)) = false := by
        rw [show decide (k < -(2 ^ 63 : Int)) = false from decide_eq_false (by omega), show decide (k ≥ 2 ^ 63) = false from decide_eq_false (by omega), Bool.or_false]
      have hn : (Builtin.Str.partsBetween a (Builtin.Str.occurrencesFromRight a b (limitOf a k)) b.length).length ≤ sizeLine := by
        have := StrLaws.occR_length_le_len a b (limitOf a k)
        rw [length_partsBetween]
        omega
      have hl : (Txt.rsplitMax a b k).length ≤ sizeLine := by
        unfold Txt.rsplitMax
        split
        · show 1 ≤ sizeLine
          omega
        · split
          · show 1 ≤ sizeLine
            omega
          · exact hn
      cases h1 : (decide (a.length < b.length) || decide (Builtin.Str.strKind a < Builtin.Str.strKind b)) with
      | true =>
        refine call_meets F.slot_str_rsplit (typeIs_str _ _ _) F.entry_str_rsplit (F.args_str_rsplit_3 _ _ _) (meets_str_rsplit_max_cannot_occur a b k t u v hk h1) ?_
        exact laid_strs (l := [(a, t)]) (ys := Txt.rsplitMax a b k) (k := s.toks) I (if_pos h1).symm hl h
      | false =>
        cases hf : (Builtin.Str.occurrencesFromRight a b (limitOf a k)).isEmpty with
        | true =>
          refine call_meets F.slot_str_rsplit (typeIs_str _ _ _) F.entry_str_rsplit (F.args_str_rsplit_3 _ _ _) (meets_str_rsplit_max_not_found a b k t u v hk h1 hb hf) ?_
          exact laid_strs (l := [(a, t)]) (ys := Txt.rsplitMax a b k) (k := s.toks) I ((if_neg (ne_true_of_eq_false h1)).trans (if_pos hf)).symm hl h
        | false =>
          refine call_meets F.slot_str_rsplit (typeIs_str _ _ _) F.entry_str_rsplit (F.args_str_rsplit_3 _ _ _) (meets_str_rsplit_sep_max a b k t u v hk h1 hb hf (by omega) hn) ?_
          show EP X pins σ Q (.ref s.heap.objs.size) { s with toks := _, heap := s.heap.push { cls := .type "list", data := .seq (strsFrom s.toks (Builtin.Str.partsBetween a (Builtin.Str.occurrencesFromRight a b (limitOf a k)) b.length)).toArray } }
          rw [strsFrom_eq]
          exact laid_strs (ys := Txt.rsplitMax a b k) I ((numbered_texts _ _).trans ((if_neg (ne_true_of_eq_false h1)).trans (if_neg (ne_true_of_eq_false hf))).symm) hl h
def tM2 (r : V → List V → Hp → VK → Prop) (to te tf : TE) : TE := fun σ H Q => to σ H fun x H1 => (∃ a, x = .str a) ∧ te σ H1 fun y H2 => tf σ H2 fun z H3 => r x [y, z] H3 Q
theorem pe_m2 {o e e2 : Expr} {to te te2 : TE} {id : String} {name : Str} {apos pos : Pos} {r : V → List V → Hp → VK → Prop} (slot : Slot "str" name id) (ty : typeOf (.builtin id) = pure (.type "method_descriptor")) (rule : MtR X id r) (ho : PE X o to) (he : PE X e te) (he2 : PE X e2 te2)
    (hs : starEach [e, e2] X.env = [(false, eval e X.env), (false, eval e2 X.env)] := by rfl) (hbase : attributeBase o name X.env (eval o X.env) = eval o X.env := by rfl) (hline : (apos.endLine == pos.line) = true := by rfl) :
    PE X (.Call (.Attribute o name apos) [e, e2] [] pos) (tM2 r to te te2) := by
  refine ⟨fun pins s σ H Q I h => ?_⟩
  refine PySem.Call_method2 hbase hs hline (thn (ho.run pins s σ H _ I h) fun v s1 ⟨x, H1, I1, r1, q1⟩ => ?_)
  obtain ⟨⟨a, rfl⟩, q1⟩ := q1
  obtain ⟨t, rfl⟩ := _root_.id r1
  refine ⟨"str", _, F.plainAttrs_str, slot, ty, typeIs_str _ _ _, (fun _ e => nomatch e), Calls.callWith_builtin rfl (Calls.evalArgs_plain (Calls.spliced_cons ?_))⟩
  refine thn (he.run pins s1 σ H1 _ I1 q1) fun u s2 ⟨y, H2, I2, r2, q2⟩ => Calls.spliced_cons ?_
  exact thn (he2.run pins s2 σ H2 _ I2 q2) fun u3 s3 ⟨z, H3, I3, r3, q3⟩ => Calls.spliced_nil (rule pins s3 σ H3 _ [y, z] _ [u, u3] Q I3 r1 (.cons r2 (.cons r3 .nil)) q3)
theorem pe_rsplit {o e e2 : Expr} {to te te2 : TE} {apos pos : Pos} (ho : PE X o to) (he : PE X e te) (he2 : PE X e2 te2) (hs : starEach [e, e2] X.env = [(false, eval e X.env), (false, eval e2 X.env)] := by rfl) (hbase : attributeBase o "rsplit" X.env (eval o X.env) = eval o X.env := by rfl) (hline : (apos.endLine == pos.line) = true := by rfl) :
    PE X (.Call (.Attribute o "rsplit" apos) [e, e2] [] pos) (tM2 (fun x xs H Q => ∃ (a b : Str) (k : Int), x = .str a ∧ xs = [.str b, .int k] ∧ (b.length == 0) = false ∧ -(2 ^ 63) ≤ k ∧ k < 2 ^ 63 ∧ a.length + 2 ≤ sizeLine ∧ rNewStrs (Txt.rsplitMax a b k) H Q) to te te2) :=
  pe_m2 F.slot_str_rsplit F.type_str_rsplit mt_rsplitMax ho he he2 hs hbase hline
end
end GX
namespace TR
open PySem PySem.Spec PyProof.Rows L2 TL
open StrLaws Builtin Builtin.Str
theorem chain_of {s sub : Str} {hi : Nat} : ∀ {a : Nat} {cuts : List Nat} {f : Nat}, ChainG s sub hi a cuts f → ChainTo s sub hi a cuts f
  | _, [], _, h => h
  | _, _ :: _, _, h => ⟨h.1, h.2.1, chain_of h.2.2.2⟩
theorem chain_low {s sub : Str} {hi : Nat} {a b : Nat} {cuts : List Nat} {f : Nat} (h : ChainG s sub hi b cuts f) (hab : a ≤ b) (no : ∀ k, a ≤ k → k < b → ¬ At s sub hi k) (hne : cuts ≠ [] ∨ a = b) : ChainG s sub hi a cuts f := by
  cases cuts with
  | nil =>
    rcases hne with z | z
    · exact absurd rfl z
    · rw [z]
      exact h
  | cons c r =>
    refine ⟨Nat.le_trans hab h.1, h.2.1, fun k h1 h2 => ?_, h.2.2.2⟩
    by_cases hk : k < b
    · exact no k h1 hk
    · exact h.2.2.1 k (by omega) h2
/-- cuts found so far from the right, all places from cur on seen -/
def RInv (x : Str) (c limit cur : Nat) (arr : Array Nat) (free : Nat) : Prop :=
  (arr.size < limit ∧ ((arr.toList = [] ∧ free = x.length ∧ ∀ k, cur ≤ k → ¬ At x ⟨#[c]⟩ x.length k) ∨ ∃ d r f, arr.toList.reverse = d :: r ∧ free = d ∧ cur ≤ d ∧ At x ⟨#[c]⟩ x.length d ∧ (∀ k, cur ≤ k → k < d → ¬ At x ⟨#[c]⟩ x.length k) ∧ ChainG x ⟨#[c]⟩ x.length (d + 1) r f ∧ ∀ k, f ≤ k → ¬ At x ⟨#[c]⟩ x.length k)) ∨
  (arr.size = limit ∧ ∃ d r f, arr.toList.reverse = d :: r ∧ At x ⟨#[c]⟩ x.length d ∧ ChainG x ⟨#[c]⟩ x.length (d + 1) r f ∧ ∀ k, f ≤ k → ¬ At x ⟨#[c]⟩ x.length k)
theorem rinv_run (x : Str) (c limit : Nat) : ∀ (m j : Nat) (st : Array Nat × Nat), j + m = x.length + 1 → RInv x c limit (x.length + 1 - j) st.1 st.2 →
    RInv x c limit 0 (forIn (List.range' j m) st (occRBody x ⟨#[c]⟩ limit)).run.fst (forIn (List.range' j m) st (occRBody x ⟨#[c]⟩ limit)).run.snd
  | 0, j, st, e, h => by
    rw [show x.length + 1 - j = 0 by omega] at h
    exact h
  | m + 1, j, st, e, h => by
    rw [List.range'_succ, List.forIn_cons]
    unfold occRBody
    have e1 : x.length + 1 - (j + 1) = x.length - j := by omega
    have e2 : x.length + 1 - j = x.length - j + 1 := by omega
    rw [e2] at h
    generalize hi : x.length - j = i at h e1 e2 ⊢
    split
    · rename_i hc
      refine rinv_run x c limit m (j + 1) _ (by omega) ?_
      rw [e1]
      have hA : At x ⟨#[c]⟩ x.length i := ⟨by
        show i + 1 ≤ _
        have : i + 1 ≤ st.2 := hc.1.2
        rcases h with ⟨_, ⟨_, e, _⟩ | ⟨d, _, _, _, e, _, a, _⟩⟩ | ⟨e, _⟩
        · omega
        · have := a.1
          have : d + 1 ≤ x.length := this
          omega
        · have := hc.1.1
          omega, hc.2⟩
      have key : ∃ f, ChainG x ⟨#[c]⟩ x.length (i + 1) st.1.toList.reverse f ∧ ∀ k, f ≤ k → ¬ At x ⟨#[c]⟩ x.length k := by
        rcases h with ⟨_, ⟨e, _, no⟩ | ⟨d, r, f, e, _, hd, a, no, ch, nf⟩⟩ | ⟨e, _⟩
        · rw [e]
          exact ⟨i + 1, rfl, no⟩
        · rw [e]
          exact ⟨f, ⟨hd, a, no, ch⟩, nf⟩
        · have := hc.1.1
          omega
      obtain ⟨f, ch, nf⟩ := key
      have er : (st.1.push i).toList.reverse = i :: st.1.toList.reverse := by rw [Array.toList_push, List.reverse_append]; rfl
      have sz : (st.1.push i).size = st.1.size + 1 := Array.size_push _
      by_cases hl : st.1.size + 1 < limit
      · refine .inl ⟨by rw [sz]; exact hl, .inr ⟨i, _, f, er, rfl, Nat.le_refl _, hA, fun k h1 h2 => by omega, ch, nf⟩⟩
      · refine .inr ⟨by rw [sz]; have := hc.1.1; omega, i, _, f, er, hA, ch, nf⟩
    · rename_i hc
      refine rinv_run x c limit m (j + 1) _ (by omega) ?_
      rw [e1]
      rcases h with ⟨hs, ⟨e, ef, no⟩ | ⟨d, r, f, e, ef, hd, a, no, ch, nf⟩⟩ | h
      · refine .inl ⟨hs, .inl ⟨e, ef, fun k hk hA => ?_⟩⟩
        by_cases z : k = i
        · subst z
          exact hc ⟨⟨hs, by rw [ef]; exact hA.1⟩, hA.2⟩
        · exact no k (by omega) hA
      · refine .inl ⟨hs, .inr ⟨d, r, f, e, ef, by omega, a, fun k h1 h2 hA => ?_, ch, nf⟩⟩
        by_cases z : k = i
        · subst z
          exact hc ⟨⟨hs, by rw [ef]; exact h2⟩, hA.2⟩
        · exact no k (by omega) h2 hA
      · exact .inr h
end TR
namespace TR
open PySem PySem.Spec PyProof.Rows L2 TL
open StrLaws Builtin Builtin.Str
theorem parts_len (x : Str) (w : Nat) : ∀ (a : Nat) (cuts : List Nat), (partsFrom x w a cuts).length = cuts.length + 1
  | _, [] => rfl
  | _, c :: r => by
    show (partsFrom x w _ r).length + 1 = _
    rw [parts_len x w _ r]
    rfl
theorem at_free {x : Str} {c : Nat} (h : ∀ k, ¬ At x ⟨#[c]⟩ x.length k) : c ∉ tl x := by
  have := part_free x c 0 x.length (Nat.le_refl _) fun k _ _ => h k
  rw [sub_whole] at this
  exact this
theorem cut_more (c : Nat) (t : List Nat) : ∀ h : List Nat, cutAt c (h ++ c :: t) = cutAt c h ++ cutAt c t
  | [] => by
    show cutAt c (c :: t) = [] :: cutAt c t
    rw [cutAt, if_pos rfl]
  | y :: h => by
    have ih := cut_more c t h
    show cutAt c (y :: (h ++ c :: t)) = _
    by_cases e : y = c
    · rw [cutAt, if_pos e, ih, cutAt, if_pos e]
      rfl
    · rw [cutAt, if_neg e, ih, cutAt, if_neg e]
      have := cut_ne c h
      cases hq : cutAt c h with
      | nil => exact absurd hq this
      | cons p r => rfl
theorem rsplit_two (x : Str) (c : Nat) : ((Txt.rsplitMax x ⟨#[c]⟩ 2).length ≤ 2 ∧ (cutAt c (tl x)).length ≤ 2) ∨
    ∃ h a b, Txt.rsplitMax x ⟨#[c]⟩ 2 = [Sg h, Sg a, Sg b] ∧ cutAt c (tl x) = cutAt c h ++ [a, b] ∧ tl x = h ++ c :: (a ++ c :: b) := by
  have one : c ∉ tl x → (cutAt c (tl x)).length ≤ 2 := fun h => by
    rw [cut_free h]
    show 1 ≤ 2
    omega
  have inv := rinv_run x c 2 (x.length + 1) 0 ((#[] : Array Nat), x.length) (by omega) (.inl ⟨by show 0 < 2; omega, .inl ⟨rfl, rfl, fun k hk hA => by
    have h1 : k + 1 ≤ x.length := hA.1
    omega⟩⟩)
  have eo := occR_eq x ⟨#[c]⟩ 2
  generalize (forIn (List.range' 0 (x.length + 1)) ((#[] : Array Nat), x.length) (occRBody x ⟨#[c]⟩ 2)).run = st at inv eo
  have lim : limitOf x 2 = 2 := rfl
  unfold Txt.rsplitMax
  rw [lim]
  by_cases h1 : (decide (x.length < (⟨#[c]⟩ : Str).length) || decide (strKind x < strKind ⟨#[c]⟩)) = true
  · rw [if_pos h1]
    refine .inl ⟨by show 1 ≤ 2; omega, one ?_⟩
    rw [Bool.or_eq_true, decide_eq_true_eq, decide_eq_true_eq] at h1
    rcases h1 with h | h
    · have h2 : x.length < 1 := h
      have : (tl x).length = 0 := by
        have := len_tl x
        omega
      rw [List.eq_nil_of_length_eq_zero this]
      exact List.not_mem_nil
    · exact kind_free x c h
  rw [if_neg h1, eo]
  rcases inv with ⟨hs, ⟨e, _, no⟩ | ⟨d, r, f, e, _, _, hA, no, ch, nf⟩⟩ | ⟨hs, d, r, f, e, hA, ch, nf⟩
  · rw [e]
    rw [if_pos (by rfl)]
    exact .inl ⟨by show 1 ≤ 2; omega, one (at_free fun k => no k (Nat.zero_le _))⟩
  · have lr : r.length ≤ 0 := by
      have := congrArg List.length e
      rw [List.length_reverse, Array.length_toList, List.length_cons] at this
      omega
    rw [e, if_neg (by intro z; cases z), partsBetween_eq]
    have ch0 : ChainG x ⟨#[c]⟩ x.length 0 (d :: r) f := ⟨Nat.zero_le _, hA, no, ch⟩
    have fr := parts_free x c (d :: r) 0 f ch0 nf
    have jn := join_partsFrom x ⟨#[c]⟩ (d :: r) 0 f (chain_of ch0)
    rw [sub_whole] at jn
    have pl := parts_len x (⟨#[c]⟩ : Str).length 0 (d :: r)
    generalize partsFrom x (⟨#[c]⟩ : Str).length 0 (d :: r) = R at fr jn pl
    rw [List.length_cons] at pl
    refine .inl ⟨by omega, ?_⟩
    have e2 := tl_join c R
    rw [jn] at e2
    rw [e2, cut_join (by intro z; rw [List.map_eq_nil_iff.mp z] at pl; cases pl) (by
      intro p hp
      obtain ⟨q, hq, rfl⟩ := List.mem_map.mp hp
      exact fr q hq), List.length_map]
    omega
  · have lr : r.length = 1 := by
      have := congrArg List.length e
      rw [List.length_reverse, Array.length_toList, List.length_cons] at this
      omega
    rw [e, if_neg (by intro z; cases z), partsBetween_eq]
    obtain ⟨d2, rfl⟩ : ∃ d2, r = [d2] := by
      cases r with
      | nil => cases lr
      | cons d2 r2 =>
        cases r2 with
        | nil => exact ⟨d2, rfl⟩
        | cons _ _ => cases lr
    have fr := parts_free x c [d2] (d + 1) f ch nf
    have jn := join_partsFrom x ⟨#[c]⟩ [d2] (d + 1) f (chain_of ch)
    have cat := sub_cat x ⟨#[c]⟩ (a := 0) (Nat.zero_le d) hA
    rw [sub_whole] at cat
    refine .inr ⟨tl (strSub x 0 d), tl (strSub x (d + 1) d2), tl (strSub x (d2 + 1) x.length), rfl, ?_⟩
    have e3 : tl (strSub x (d + 1) x.length) = tl (strSub x (d + 1) d2) ++ c :: tl (strSub x (d2 + 1) x.length) := by
      have e4 := congrArg tl jn
      rw [tl_join] at e4
      exact e4.symm
    have e5 : tl x = tl (strSub x 0 d) ++ c :: (tl (strSub x (d + 1) d2) ++ c :: tl (strSub x (d2 + 1) x.length)) := by
      rw [← e3]
      have e6 := congrArg tl cat
      rw [tl_app, tl_app, List.append_assoc] at e6
      exact e6.symm
    refine ⟨?_, e5⟩
    have f1 : c ∉ tl (strSub x (d + 1) d2) := fr _ List.mem_cons_self
    have f2 : c ∉ tl (strSub x (d2 + 1) x.length) := fr _ (List.mem_cons_of_mem _ List.mem_cons_self)
    conv => lhs; rw [e5]
    rw [cut_more, cut_app f1, cut_free f2]
end TR
/-! mathematics of labels, ids, vertices and their texts -/
namespace K20
open PySem PySem.Spec PyProof.Rows L2 TL TR QR
theorem within_some {o : Option Nat} {l m : Nat} (h : withinB o l m = true) : ∃ k, o = some k ∧ l ≤ k ∧ k ≤ m := by
  cases o with
  | none => cases h
  | some k => exact ⟨k, rfl, of_decide_eq_true h⟩
theorem asc_ge {ms : List Nat} (h : ascB (ms.map some) = true) : ∀ k, k < ms.length → k ≤ ms.getD k 0
  | 0, _ => Nat.zero_le _
  | k + 1, hk => by
    have ih := asc_ge h k (by omega)
    unfold ascB at h
    have := List.all_eq_true.mp h k (List.mem_range.mpr (by rw [List.length_map]; omega))
    have e : ∀ j, j < ms.length → ((ms.map some).getD j none).getD 0 = ms.getD j 0 := fun j hj => by
      rw [List.getD_eq_getElem?_getD, List.getElem?_map, List.getElem?_eq_getElem hj, List.getD_eq_getElem?_getD, List.getElem?_eq_getElem hj]
      rfl
    rw [e k (by omega), e (k + 1) hk, decide_eq_true_eq] at this
    omega
structure LabOk (l : Lab) : Prop where
  lv : l.1 ≤ 7
  mks : ∀ m ∈ l.2, m ≤ 5
  ln : l.2.length ≤ 6
  asc : ascB (l.2.map some) = true
theorem lab_ok {l : Lab} : okLab l = true ↔ LabOk l := by
  unfold okLab labB
  rw [Bool.and_eq_true, Bool.and_eq_true]
  constructor
  · rintro ⟨h1, h2, h3⟩
    obtain ⟨k, e, _, a⟩ := within_some h1
    cases e
    have mk : ∀ m ∈ l.2, m ≤ 5 := fun m hm => by
      have := List.all_eq_true.mp h2 (some m) (List.mem_map.mpr ⟨m, hm, rfl⟩)
      obtain ⟨k, e, _, b⟩ := within_some this
      cases e
      exact b
    refine ⟨a, mk, ?_, h3⟩
    refine Decidable.byContradiction fun z => ?_
    have := asc_ge h3 6 (by omega)
    have h6 : l.2.getD 6 0 ∈ l.2 := by
      rw [List.getD_eq_getElem?_getD, List.getElem?_eq_getElem (by omega : 6 < l.2.length)]
      exact List.getElem_mem _
    have := mk _ h6
    omega
  · rintro ⟨a, b, _, d⟩
    refine ⟨decide_eq_true ⟨Nat.zero_le _, a⟩, ?_, d⟩
    rw [List.all_eq_true]
    intro o ho
    obtain ⟨m, hm, rfl⟩ := List.mem_map.mp ho
    exact decide_eq_true ⟨Nat.zero_le _, b m hm⟩
theorem LabOk.sm {l : Lab} (h : LabOk l) : SmL l := ⟨by have := h.lv; omega, by have := h.ln; omega, fun m hm => by have := h.mks m hm; omega⟩
def labOf (a : Option Nat) (ms : List (Option Nat)) : Option Lab := if labB a ms = true then some (a.getD 0, ms.map (·.getD 0)) else none
theorem labOf_some {a : Option Nat} {ms : List (Option Nat)} (h : labB a ms = true) : ∃ l : Lab, a = some l.1 ∧ ms = l.2.map some ∧ LabOk l ∧ labOf a ms = some l := by
  have h0 := h
  unfold labB at h
  rw [Bool.and_eq_true, Bool.and_eq_true] at h
  obtain ⟨k, rfl, _, hk⟩ := within_some h.1
  have em : ms = (ms.map (·.getD 0)).map some := by
    rw [List.map_map]
    conv => lhs; rw [← List.map_id ms]
    refine List.map_congr_left fun o ho => ?_
    obtain ⟨m, rfl, _⟩ := within_some (List.all_eq_true.mp h.2.1 o ho)
    rfl
  refine ⟨(k, ms.map (·.getD 0)), rfl, em, lab_ok.mp ?_, by unfold labOf; rw [if_pos h0]; rfl⟩
  unfold okLab
  show labB (some k) ((ms.map (·.getD 0)).map some) = true
  rw [← em]
  exact h0
theorem labOf_ok {l : Lab} (h : LabOk l) : labOf (some l.1) (l.2.map some) = some l := by
  unfold labOf
  rw [if_pos (show labB (some l.1) (l.2.map some) = true from lab_ok.mpr h), List.map_map]
  have : (l.2.map ((fun o : Option Nat => o.getD 0) ∘ some)) = l.2 := by
    conv => rhs; rw [← List.map_id l.2]
    rfl
  rw [this]
  rfl
theorem labOf_back {a : Option Nat} {ms : List (Option Nat)} {l : Lab} (h : labOf a ms = some l) : a = some l.1 ∧ ms = l.2.map some ∧ LabOk l := by
  unfold labOf at h
  split at h
  · rename_i h1
    obtain ⟨l', a1, a2, a3, a4⟩ := labOf_some h1
    unfold labOf at a4
    rw [if_pos h1] at a4
    rw [a4] at h
    cases h
    exact ⟨a1, a2, a3⟩
  · cases h
/-- a text at its first colon -/
def brk : List Nat → List Nat × Option (List Nat)
  | [] => ([], none)
  | c :: l => if c = 58 then ([], some l) else (c :: (brk l).1, (brk l).2)
theorem brk_free : ∀ {l : List Nat}, 58 ∉ l → brk l = (l, none)
  | [], _ => rfl
  | c :: l, h => by
    rw [brk, if_neg (fun e : c = 58 => h (e ▸ List.mem_cons_self)), brk_free fun z => h (List.mem_cons_of_mem _ z)]
theorem brk_app {b : List Nat} : ∀ {a : List Nat}, 58 ∉ a → brk (a ++ 58 :: b) = (a, some b)
  | [], _ => by
    show brk (58 :: b) = _
    rw [brk, if_pos rfl]
  | c :: l, h => by
    show brk (c :: (l ++ 58 :: b)) = _
    rw [brk, if_neg (fun e : c = 58 => h (e ▸ List.mem_cons_self)), brk_app fun z => h (List.mem_cons_of_mem _ z)]
theorem brk_cases (l : List Nat) : (58 ∉ l ∧ brk l = (l, none)) ∨ ∃ a b, l = a ++ 58 :: b ∧ 58 ∉ a ∧ brk l = (a, some b) := by
  induction l with
  | nil => exact .inl ⟨List.not_mem_nil, rfl⟩
  | cons c l ih =>
    by_cases e : c = 58
    · refine .inr ⟨[], l, by rw [e]; rfl, List.not_mem_nil, ?_⟩
      rw [brk, if_pos e]
    · rcases ih with ⟨h, _⟩ | ⟨a, b, e1, h, _⟩
      · have : 58 ∉ c :: l := fun z => (List.mem_cons.mp z).elim (fun y => e y.symm) h
        exact .inl ⟨this, brk_free this⟩
      · have : 58 ∉ c :: a := fun z => (List.mem_cons.mp z).elim (fun y => e y.symm) h
        refine .inr ⟨c :: a, b, by rw [e1]; rfl, this, ?_⟩
        rw [e1]
        exact brk_app (a := c :: a) this
def rd5 (b : List Nat) : List (Option Nat) := b.map fun c => readNum [c] 5
def readLab (l : List Nat) : Option Lab := match (brk l).2 with
  | none => labOf (readNum (brk l).1 7) []
  | some b => if b = [] then none else labOf (readNum (brk l).1 7) (rd5 b)
theorem rd5_mark : ∀ {ms : List Nat}, (∀ m ∈ ms, m ≤ 5) → rd5 (markL ms) = ms.map some
  | [], _ => rfl
  | m :: r, h => by
    have h5 := h m List.mem_cons_self
    have ih := rd5_mark (ms := r) fun x hx => h x (List.mem_cons_of_mem _ hx)
    unfold rd5 markL at ih ⊢
    have e : readNum [48 + m] 5 = some m := by
      rw [← numL_lt (by omega : m < 10)]
      exact readNum_num h5
    rw [List.map_cons, List.flatten_cons, List.map_append, ih, numL_lt (by omega : m < 10)]
    show readNum [48 + m] 5 :: _ = _
    rw [e]
    rfl
theorem mark_rd5 : ∀ {b ms : List Nat}, rd5 b = ms.map some → (∀ m ∈ ms, m ≤ 5) → markL ms = b
  | [], [], _, _ => rfl
  | [], m :: r, h, _ => by cases h
  | c :: b, [], h, _ => by cases h
  | c :: b, m :: r, h, hm => by
    have h1 : readNum [c] 5 = some m := (List.cons.inj h).1
    have h2 : rd5 b = r.map some := (List.cons.inj h).2
    have ih := mark_rd5 h2 fun x hx => hm x (List.mem_cons_of_mem _ hx)
    unfold markL at ih ⊢
    rw [List.map_cons, List.flatten_cons, ih, ← (readNum_some h1).1]
    rfl
theorem mark_ne {ms : List Nat} (h : ms ≠ []) : markL ms ≠ [] := by
  cases ms with
  | nil => exact absurd rfl h
  | cons m r => exact fun z => numL_ne m (List.append_eq_nil_iff.mp z).1
theorem readLab_labL {l : Lab} (h : LabOk l) : readLab (labL l) = some l := by
  unfold labL
  by_cases e : l.2 = []
  · rw [if_pos e, List.append_nil]
    unfold readLab
    rw [brk_free (numL_free (by omega))]
    show labOf (readNum (numL l.1) 7) [] = _
    rw [readNum_num h.lv]
    have := labOf_ok h
    rw [e] at this
    exact this
  · rw [if_neg e]
    unfold readLab
    rw [brk_app (numL_free (by omega))]
    show (if markL l.2 = [] then none else labOf (readNum (numL l.1) 7) (rd5 (markL l.2))) = _
    rw [if_neg (mark_ne e), rd5_mark h.mks, readNum_num h.lv]
    exact labOf_ok h
theorem readLab_back {t : List Nat} {l : Lab} (h : readLab t = some l) : LabOk l ∧ labL l = t := by
  unfold readLab at h
  rcases brk_cases t with ⟨h1, e⟩ | ⟨a, b, e1, h1, e⟩
  · rw [e] at h
    obtain ⟨a1, a2, a3⟩ := labOf_back h
    have e2 : l.2 = [] := List.map_eq_nil_iff.mp a2.symm
    refine ⟨a3, ?_⟩
    unfold labL
    rw [if_pos e2, List.append_nil]
    exact (readNum_some a1).1.symm
  · rw [e] at h
    have h : (if b = [] then none else labOf (readNum a 7) (rd5 b)) = some l := h
    split at h
    · cases h
    · rename_i hb
      obtain ⟨a1, a2, a3⟩ := labOf_back h
      have e2 : markL l.2 = b := mark_rd5 a2 a3.mks
      have e3 : l.2 ≠ [] := fun z => by
        rw [z] at e2
        exact hb e2.symm
      refine ⟨a3, ?_⟩
      unfold labL
      rw [if_neg e3, e2, e1, ← (readNum_some a1).1]
theorem join_cut (c : Nat) : ∀ l : List Nat, TR.joinL c (cutAt c l) = l
  | [] => rfl
  | x :: l => by
    have ih := join_cut c l
    have ne := cut_ne c l
    by_cases e : x = c
    · rw [cutAt, if_pos e]
      cases hq : cutAt c l with
      | nil => exact absurd hq ne
      | cons p r =>
        rw [hq] at ih
        show [] ++ c :: TR.joinL c (p :: r) = _
        rw [ih, e]
        rfl
    · rw [cutAt, if_neg e]
      cases hq : cutAt c l with
      | nil => exact absurd hq ne
      | cons p r =>
        rw [hq] at ih
        cases r with
        | nil =>
          show x :: p = _
          have ih : p = l := ih
          rw [ih]
        | cons q r =>
          show x :: (p ++ c :: TR.joinL c (q :: r)) = _
          have ih : p ++ c :: TR.joinL c (q :: r) = l := ih
          rw [ih]
theorem cut_mem_free (c : Nat) : ∀ (l : List Nat), ∀ p ∈ cutAt c l, c ∉ p
  | [], p, hp => by
    rw [List.mem_singleton.mp hp]
    exact List.not_mem_nil
  | x :: l, p, hp => by
    have ih := cut_mem_free c l
    by_cases e : x = c
    · rw [cutAt, if_pos e] at hp
      rcases List.mem_cons.mp hp with rfl | h
      · exact List.not_mem_nil
      · exact ih p h
    · rw [cutAt, if_neg e] at hp
      cases hq : cutAt c l with
      | nil => exact absurd hq (cut_ne c l)
      | cons q r =>
        rw [hq] at hp ih
        rcases List.mem_cons.mp hp with rfl | h
        · intro z
          rcases List.mem_cons.mp z with y | y
          · exact e y.symm
          · exact ih q List.mem_cons_self y
        · exact ih p (List.mem_cons_of_mem _ h)
def readPath (t : List Nat) : Option Path := if okPath (cutAt 47 t) = true then some (cutAt 47 t) else none
def nmOf (lo : Option Lab) (w : List Nat) (k : Option Nat) : Option Nm := if idB lo w k = true then some (lo.getD (0, []), w, k.getD 0) else none
def readNmP : List (List Nat) → Option Nm
  | [a, b, c] => nmOf (readLab a) b (readNum c 99999)
  | _ => none
def readNm (t : List Nat) : Option Nm := readNmP (cutAt 46 t)
def vxOf (o : Option Nm) (a b : Option Nat) : Option Vx := if vxB o a b = true then some (o.getD ((0, []), [], 0), a.getD 0, b.getD 0) else none
def readVxP : List (List Nat) → Option Vx
  | [a, b, c, d, e] => vxOf (readNmP [a, b, c]) (readNum d 11) (readNum e 199)
  | _ => none
def readVx (t : List Nat) : Option Vx := readVxP (cutAt 46 t)
theorem nmOf_some {lo : Option Lab} {w : List Nat} {k : Option Nat} (h : idB lo w k = true) : ∃ n : Nm, lo = some n.1 ∧ w = n.2.1 ∧ k = some n.2.2 ∧ okNm n = true ∧ nmOf lo w k = some n := by
  have h0 := h
  unfold idB at h
  rw [Bool.and_eq_true, Bool.and_eq_true] at h
  cases lo with
  | none => cases h.1
  | some l =>
    obtain ⟨k', rfl, a, b⟩ := within_some h.2.2
    refine ⟨(l, w, k'), rfl, rfl, rfl, ?_, if_pos h0⟩
    unfold okNm
    rw [Bool.and_eq_true, Bool.and_eq_true]
    exact ⟨h.1, h.2.1, h.2.2⟩
theorem nmOf_back {lo : Option Lab} {w : List Nat} {k : Option Nat} {n : Nm} (h : nmOf lo w k = some n) : lo = some n.1 ∧ w = n.2.1 ∧ k = some n.2.2 ∧ okNm n = true := by
  unfold nmOf at h
  split at h
  · rename_i h1
    obtain ⟨n', a1, a2, a3, a4, a5⟩ := nmOf_some h1
    unfold nmOf at a5
    rw [if_pos h1] at a5
    rw [a5] at h
    cases h
    exact ⟨a1, a2, a3, a4⟩
  · cases h
theorem vxOf_some {o : Option Nm} {a b : Option Nat} (h : vxB o a b = true) : ∃ x : Vx, o = some x.1 ∧ a = some x.2.1 ∧ b = some x.2.2 ∧ okNm x.1 = true ∧ x.2.1 ≤ 11 ∧ x.2.2 ≤ 199 ∧ vxOf o a b = some x := by
  have h0 := h
  unfold vxB at h
  rw [Bool.and_eq_true, Bool.and_eq_true] at h
  cases o with
  | none => cases h.1
  | some n =>
    obtain ⟨a', rfl, _, ha⟩ := within_some h.2.1
    obtain ⟨b', rfl, _, hb⟩ := within_some h.2.2
    exact ⟨(n, a', b'), rfl, rfl, rfl, h.1, ha, hb, if_pos h0⟩
theorem vxOf_back {o : Option Nm} {a b : Option Nat} {x : Vx} (h : vxOf o a b = some x) : o = some x.1 ∧ a = some x.2.1 ∧ b = some x.2.2 ∧ okNm x.1 = true ∧ x.2.1 ≤ 11 ∧ x.2.2 ≤ 199 := by
  unfold vxOf at h
  split at h
  · rename_i h1
    obtain ⟨n', a1, a2, a3, a4, a5, a6, a7⟩ := vxOf_some h1
    unfold vxOf at a7
    rw [if_pos h1] at a7
    rw [a7] at h
    cases h
    exact ⟨a1, a2, a3, a4, a5, a6⟩
  · cases h
theorem word_free {w : List Nat} (h : okWord w = true) : w ≠ [] ∧ w.length ≤ 8 ∧ 46 ∉ w := by
  unfold okWord wordB at h
  rw [Bool.and_eq_true, Bool.and_eq_true] at h
  obtain ⟨h1, h2, h3⟩ := h
  have h1 := of_decide_eq_true h1
  have h2 := of_decide_eq_true h2
  have e : (Sg w).length = w.length := rfl
  rw [e] at h1 h2
  refine ⟨fun z => ?_, by omega, fun z => ?_⟩
  · rw [z] at h1
    exact absurd h1 (by decide)
  · have := List.all_eq_true.mp h3 46 z
    exact absurd this (by decide +kernel)
theorem lab_free {l : Lab} (h : LabOk l) : 46 ∉ labL l := by
  unfold labL
  intro z
  rcases List.mem_append.mp z with z | z
  · exact numL_free (by omega) z
  · split at z
    · cases z
    · rcases List.mem_cons.mp z with z | z
      · cases z
      · obtain ⟨p, hp, hz⟩ := List.mem_flatten.mp z
        obtain ⟨m, _, rfl⟩ := List.mem_map.mp hp
        exact numL_free (by omega) hz
structure NmOk (n : Nm) : Prop where
  lb : LabOk n.1
  wd : okWord n.2.1 = true
  lo : 1 ≤ n.2.2
  hi : n.2.2 ≤ 99999
theorem nm_ok {n : Nm} : okNm n = true ↔ NmOk n := by
  unfold okNm
  rw [Bool.and_eq_true, Bool.and_eq_true]
  constructor
  · rintro ⟨a, b, c⟩
    have := of_decide_eq_true c
    exact ⟨lab_ok.mp a, b, this.1, this.2⟩
  · rintro ⟨a, b, c, d⟩
    exact ⟨lab_ok.mpr a, b, decide_eq_true ⟨c, d⟩⟩
theorem NmOk.sm {n : Nm} (h : NmOk n) : SmN n := ⟨h.lb.sm, by have := (word_free h.wd).2.1; omega, h.hi⟩
theorem id_cut {n : Nm} (h : NmOk n) : cutAt 46 (idL n) = [labL n.1, n.2.1, numL n.2.2] := by
  unfold idL
  rw [cut_app (lab_free h.lb), cut_app (word_free h.wd).2.2, cut_free (numL_free (by omega))]
theorem readNmP_nm {n : Nm} (h : NmOk n) : readNmP [labL n.1, n.2.1, numL n.2.2] = some n := by
  show nmOf (readLab (labL n.1)) n.2.1 (readNum (numL n.2.2) 99999) = _
  rw [readLab_labL h.lb, readNum_num h.hi]
  have : idB (some n.1) n.2.1 (some n.2.2) = true := nm_ok.mpr h
  unfold nmOf
  rw [if_pos this]
  rfl
theorem readNm_idL {n : Nm} (h : NmOk n) : readNm (idL n) = some n := by
  unfold readNm
  rw [id_cut h]
  exact readNmP_nm h
theorem readNmP_back {P : List (List Nat)} {n : Nm} (h : readNmP P = some n) : NmOk n ∧ P = [labL n.1, n.2.1, numL n.2.2] := by
  unfold readNmP at h
  split at h
  · obtain ⟨a1, a2, a3, a4⟩ := nmOf_back h
    rw [(readLab_back a1).2, ← a2, ← (readNum_some a3).1]
    exact ⟨nm_ok.mp a4, rfl⟩
  · cases h
theorem readNm_back {t : List Nat} {n : Nm} (h : readNm t = some n) : NmOk n ∧ idL n = t := by
  obtain ⟨a, b⟩ := readNmP_back h
  refine ⟨a, ?_⟩
  rw [← join_cut 46 t, b]
  rfl
structure VxOk (x : Vx) : Prop where
  nm : NmOk x.1
  a : x.2.1 ≤ 11
  b : x.2.2 ≤ 199
theorem VxOk.sm {x : Vx} (h : VxOk x) : SmV x := ⟨h.nm.sm, by have := h.a; omega, by have := h.b; omega⟩
theorem vx_cut {x : Vx} (h : VxOk x) : cutAt 46 (vxL x) = [labL x.1.1, x.1.2.1, numL x.1.2.2, numL x.2.1, numL x.2.2] := by
  unfold vxL
  rw [cut_more, id_cut h.nm, cut_app (numL_free (by omega)), cut_free (numL_free (by omega))]
  rfl
theorem readVx_vxL {x : Vx} (h : VxOk x) : readVx (vxL x) = some x := by
  unfold readVx
  rw [vx_cut h]
  show vxOf (readNmP [labL x.1.1, x.1.2.1, numL x.1.2.2]) (readNum (numL x.2.1) 11) (readNum (numL x.2.2) 199) = _
  rw [readNmP_nm h.nm, readNum_num h.a, readNum_num h.b]
  have : vxB (some x.1) (some x.2.1) (some x.2.2) = true := by
    unfold vxB
    rw [Bool.and_eq_true, Bool.and_eq_true]
    exact ⟨nm_ok.mpr h.nm, decide_eq_true ⟨Nat.zero_le _, h.a⟩, decide_eq_true ⟨Nat.zero_le _, h.b⟩⟩
  unfold vxOf
  rw [if_pos this]
  rfl
theorem readVx_back {t : List Nat} {x : Vx} (h : readVx t = some x) : VxOk x ∧ vxL x = t := by
  unfold readVx readVxP at h
  split at h
  · rename_i a b c d e hq
    obtain ⟨a1, a2, a3, a4, a5, a6⟩ := vxOf_back h
    obtain ⟨b1, b2⟩ := readNmP_back a1
    have e1 := List.cons.inj b2
    have e2 := List.cons.inj e1.2
    have e3 := List.cons.inj e2.2
    refine ⟨⟨b1, a5, a6⟩, ?_⟩
    rw [← join_cut 46 t, hq, e1.1, e2.1, e3.1, (readNum_some a2).1, (readNum_some a3).1]
    unfold vxL idL
    simp [TR.joinL]
  · cases h
theorem readPath_back {t : List Nat} {ps : Path} (h : readPath t = some ps) : okPath ps = true ∧ slashL ps = t := by
  unfold readPath at h
  split at h
  · rename_i h1
    cases h
    exact ⟨h1, join_cut 47 t⟩
  · cases h
theorem path_ok {ps : Path} (h : okPath ps = true) : 1 ≤ ps.length ∧ ps.length ≤ 4 ∧ ∀ p ∈ ps, p.length ≤ 8 ∧ 47 ∉ p := by
  unfold okPath at h
  rw [Bool.and_eq_true] at h
  have h1 := of_decide_eq_true h.1
  refine ⟨h1.1, h1.2, fun p hp => ?_⟩
  have h2 := List.all_eq_true.mp h.2 p hp
  unfold wordB at h2
  rw [Bool.and_eq_true, Bool.and_eq_true] at h2
  have e : (Sg p).length = p.length := rfl
  have h3 := of_decide_eq_true h2.2.1
  rw [e] at h3
  refine ⟨by omega, fun z => ?_⟩
  have := List.all_eq_true.mp h2.2.2 47 z
  exact absurd this (by decide +kernel)
theorem path_sm {ps : Path} (h : okPath ps = true) : SmP ps := by
  obtain ⟨_, a, b⟩ := path_ok h
  exact ⟨by omega, fun p hp => by have := (b p hp).1; omega⟩
theorem readPath_slash {ps : Path} (h : okPath ps = true) : readPath (slashL ps) = some ps := by
  obtain ⟨a, _, b⟩ := path_ok h
  have e : cutAt 47 (slashL ps) = ps := cut_join (by rintro rfl; exact absurd a (by decide)) fun p hp => (b p hp).2
  unfold readPath
  rw [e, if_pos h]
end K20
namespace K20
open PySem PySem.Spec PyProof.Rows L2 TL TR QR
open GxR (TabB TabG Tabbed)
abbrev sRL : Stmt := topS 19
abbrev nRL : List Str := ["text", "level", "colon", "marks", "label", "sign"]
theorem scRL : FnScope nRL ["text"] (defScope sRL) := ⟨rfl, rfl, rfl, by decide +kernel, rfl, by decide +kernel, by decide +kernel⟩
theorem part_free {x : Str} (h : 58 ∉ tl x) : Txt.partition x (Str.ofString ":") = (x, Str.empty, Str.empty) := TL.partition_none (s := 58) (S := []) (by decide +kernel) h
theorem part_at {x : Str} {a b : List Nat} (e : tl x = a ++ 58 :: b) (h : 58 ∉ a) : Txt.partition x (Str.ofString ":") = (Sg a, Str.ofString ":", Sg b) := by
  have ex : x = Sg a ++ Str.ofString ":" ++ Sg b := by
    refine ext_tl ?_
    rw [e, TR.tl_app, TR.tl_app, colon_str]
    show _ = a ++ [58] ++ b
    rw [List.append_assoc]
    rfl
  rw [ex]
  exact TL.partition_app (s := 58) (S := []) (by decide +kernel) (a := Sg a) h
theorem bne_nat (n : Nat) : ((n : Int) != 0) = decide (n ≠ 0) := by
  cases n with
  | zero => rfl
  | succ n =>
    have : ((n + 1 : Nat) : Int) ≠ 0 := by omega
    rw [bne_iff_ne.mpr this, decide_eq_true (Nat.succ_ne_zero n)]
theorem bne_not (n : Nat) : (!((n : Int) != 0)) = decide (n = 0) := by
  rw [bne_nat, ← decide_not, decide_eq_decide]
  omega
theorem Tbs.isNew {Ts : List Addr} {H H' : Hp} {D : Addr} (t : Tbs Ts H H') (n : H' D = none) : H D = none ∧ D ∉ Ts := by
  have h : D ∉ Ts := fun z => by
    obtain ⟨ps, e, _⟩ := t.tg D z
    rw [e] at n
    cases n
  refine ⟨?_, h⟩
  cases e : H D with
  | none => rfl
  | some o =>
    rw [t.sm D o h e] at n
    cases n
theorem Tbs.updN {Ts : List Addr} {H H' : Hp} {D : Addr} {o : HO} (t : Tbs Ts H H') (n : H D = none) (h : D ∉ Ts) : Tbs Ts H (upd H' D o) := by
  refine ⟨fun b o' hb e => ?_, fun T hT => ?_⟩
  · rw [upd_ne (ne_of_none e n)]
    exact t.sm b o' hb e
  · obtain ⟨ps, e, z⟩ := t.tg T hT
    exact ⟨ps, by rw [upd_ne (fun y : T = D => h (y ▸ hT))]; exact e, z⟩
section
variable {P : Program} {w : World} {K : PySem.W.Frag} {mg : Str → Option Value} {base : Heap}
def spRL (Ts : List Addr) : Sp := fun vs H Q _ => ∃ (x : Str), vs = [.str x] ∧ x.length ≤ 100000 ∧ TG Ts H ∧ ∀ H' v, Tbs Ts H H' → OptR LabAt H' v (readLab (tl x)) → Q v H'
theorem ok_RL {T1 f fN fIL : Addr} {Ts : List Addr} {fd fdN fdIL : FuncData} (hT1 : T1 ∈ Ts) (F : Fun K "read_label" "read_label" sRL f fd)
    (GN : FnOk P w K mg base CX0 2 fN fdN ["text", "most"] (spNum T1)) (bN : Binds K fdN ["text", "most"] []) (gN : mg "read_number" = some (.ref fN)) (kN : PySem.W.keepIn K (.ref fN) = true)
    (GIL : FnOk P w K mg base CX0 3 fIL fdIL ["label"] (spIL Ts)) (bIL : Binds K fdIL ["label"] []) (gIL : mg "is_label" = some (.ref fIL)) (kIL : PySem.W.keepIn K (.ref fIL) = true)
    (m_tuple : mg "tuple" = none) : FnOk P w K mg base CX0 4 f fd ["text"] (spRL Ts) := by
  refine F.ok scRL (fun vs H Q E h => ?_) (fun cdv A outer s H vs Q E hr h => ?_)
  · obtain ⟨x, rfl, _⟩ := h
    rfl
  · obtain ⟨x, rfl, hx, g, q⟩ := h
    have hu := hr.units
    have hu1 := hu_of hr
    have hr1 : Room 1 _ := hr.mono (by decide)
    have hr2 : Room 2 _ := hr.mono (by decide)
    have hr3 : Room 3 _ := hr.mono (by decide)
    have zl := zl
    refine ⟨_, (pss_cons (ps_asg (pe_partition (pv 0) (pe_str)) (pg_tup (by rfl) (pgs_cons (pg_name (i := 1) scRL.nd rfl (.inl rfl)) (pgs_cons (pg_name (i := 2) scRL.nd rfl (.inl rfl)) (pgs_cons (pg_name (i := 3) scRL.nd rfl (.inl rfl)) pgs_nil)))))
      (pss_cons (ps_set (i := 4) scRL.nd rfl (.inl rfl) (pe_tup (pa_cons (pe_str) (pa_cons (pe_call GN hr2 (by rfl) gN kN bN .nil pass0 (pa_cons (pv 1) (pa_cons (pe_int) pa_nil))) (pa_cons (pe_callTy call_tuple_of (by rfl) m_tuple (by decide +kernel) (pa_cons (pe_lc (own := [("sign", 5)]) (g := gName 5) (tt := tYes) (te := tCall (spNum T1) [] E0 (tCons (tVar 5) (tCons (tC (.int 5)) tNil))) rfl scRL.nd (pi_str (pv 3)) (blkOk_by (N := nRL) (sc := defScope sRL) (by decide +kernel)) (fun _ _ _ _ _ => by exact pg_name (i := 5) scRL.nd rfl (.inl rfl)) (fun _ _ _ _ _ => pts_nil) (fun _ _ _ _ _ => by exact pe_call GN hr2 (by rfl) gN kN bN .nil pass0 (pa_cons (pv 5) (pa_cons (pe_int) pa_nil)))) pa_nil)) pa_nil)))))
      (pss_cons (ps_if (PW.pt (pw_and (pt_truth (pv 2) (by intro _; rfl)) (pw_and1 (pt_not (pt_truth (pv 3) (by intro _; rfl))))))
      (pss_one (ps_ret (pe_non))) pss_nil)
      (pss_one (ps_ret (pe_ifExp (pt_val (pe_call GIL hr3 (by rfl) gIL kIL bIL .nil pass0 (pa_cons (pv 4) pa_nil))) (pv 4) (pe_non))))))), ?_⟩
    have zl := zl
    -- the three parts
    obtain ⟨lv, co, mk, ep, fit, el⟩ : ∃ (lv co mk : Str), Txt.partition x (Str.ofString ":") = (lv, co, mk) ∧ (lv.length ≤ 100000 ∧ co.length ≤ 1 ∧ mk.length ≤ 100000) ∧
        (readLab (tl x) = if co.length ≠ 0 ∧ mk.length = 0 then none else labOf (readNum (tl lv) 7) (rd5 (tl mk))) := by
      rcases brk_cases (tl x) with ⟨h1, e⟩ | ⟨a, b, e1, h1, e⟩
      · refine ⟨x, Str.empty, Str.empty, part_free h1, ⟨hx, by decide, by decide⟩, ?_⟩
        unfold readLab
        rw [e, if_neg (fun z => z.1 rfl)]
        rfl
      · refine ⟨Sg a, Str.ofString ":", Sg b, part_at e1 h1, ?_, ?_⟩
        · have l1 := len_tl x
          rw [e1, List.length_append, List.length_cons] at l1
          refine ⟨?_, by decide +kernel, ?_⟩
          · show a.length ≤ _
            omega
          · show b.length ≤ _
            omega
        · unfold readLab
          rw [e]
          show (if b = [] then none else labOf (readNum a 7) (rd5 b)) = _
          have hc : (Str.ofString ":").length ≠ 0 := by decide +kernel
          by_cases hb : b = []
          · rw [if_pos hb]
            exact (if_pos ⟨hc, show b.length = 0 by rw [hb]; rfl⟩).symm
          · rw [if_neg hb]
            exact (if_neg fun z => hb (List.eq_nil_of_length_eq_zero z.2)).symm
    refine ⟨_, rfl, ⟨x, rfl⟩, x, _, rfl, rfl, by decide +kernel, by omega, fun p np => ?_⟩
    rw [ep]
    have s1 : Same H (upd H p (.tup [.str lv, .str co, .str mk])) := same_new np
    refine ⟨p, _, rfl, SqT.of upd_same, rfl, ?_⟩
    generalize upd H p (.tup [.str lv, .str co, .str mk]) = H1 at s1
    have t1 := (Tbs.refl g).same s1
    dsimp only [tNext, tSeq, tIfS, tAsg, gName, tC]
    refine ⟨_, _, rfl, _, _, rfl, _, _, rfl, rfl, ?_⟩
    dsimp only [tNext, tSeq, tIfS, tAsg, gName, tC]
    refine ⟨_, rfl, lv, 7, rfl, by omega, by decide, t1.tg T1 hT1, fun H2 t2 => ?_⟩
    have b2 := t1.tab t2 hT1
    refine ⟨_, rfl, mk, rfl, fun D nD => ?_⟩
    obtain ⟨nD0, dTs⟩ := b2.isNew nD
    have dT1 : D ≠ T1 := fun z => dTs (z ▸ hT1)
    have lmk := len_tl mk
    refine lc_it (walk_str (z := mk)) (fun i H' => Tbs Ts H H' ∧ H' D = some (.lst ((rd5 ((tl mk).take i)).map optV))) ⟨b2.updN nD0 dTs, upd_same⟩ (fun _ _ _ _ => trivial) ?_ ?_
    · rintro i v H3 H4 hi ⟨t3, eD⟩ ⟨rfl, c, hc, rfl⟩
      have hc' : (tl mk)[i]? = some c := by rw [Array.getElem?_toList]; exact hc
      have li := (List.getElem?_eq_some_iff.mp hc').1
      refine ⟨rfl, _, rfl, ⟨#[c]⟩, 5, rfl, by show 1 ≤ sizeLine; omega, by decide, t3.tg T1 hT1, fun H5 t5 => ⟨_, (t5.2 D dT1).trans eD, ?_, (t3.tab t5 hT1).updN nD0 dTs, ?_⟩⟩
      · rw [List.length_map]
        unfold rd5
        rw [List.length_map, List.length_take]
        omega
      · rw [upd_same, List.take_add_one, hc']
        unfold rd5
        rw [List.map_append, List.map_append]
        rfl
    · rintro H3 ⟨t3, eD⟩
      rw [List.take_of_length_le (by exact Nat.le_refl _)] at eD
      refine ⟨D, _, rfl, .inl ⟨SqL.of eD, fun u nu => ?_⟩⟩
      obtain ⟨nu0, uTs⟩ := t3.isNew nu
      have t4 : Tbs Ts H (upd H3 u (.tup ((rd5 (tl mk)).map optV))) := t3.updN nu0 uTs
      have eu : (upd H3 u (.tup ((rd5 (tl mk)).map optV))) u = some (.tup ((rd5 (tl mk)).map optV)) := upd_same
      generalize upd H3 u (.tup ((rd5 (tl mk)).map optV)) = H4 at t4 eu
      refine ⟨by show 3 ≤ sizeLine; omega, fun a na => ?_⟩
      obtain ⟨na0, aTs⟩ := t4.isNew na
      have hL : LabO (upd H4 a (.tup [.str (Str.ofString "label"), optV (readNum (tl lv) 7), .ref u])) a u (readNum (tl lv) 7) (rd5 (tl mk)) := ⟨upd_same, by rw [upd_ne (ne_of_none eu na)]; exact eu⟩
      have t5 : Tbs Ts H (upd H4 a (.tup [.str (Str.ofString "label"), optV (readNum (tl lv) 7), .ref u])) := t4.updN na0 aTs
      generalize upd H4 a (.tup [.str (Str.ofString "label"), optV (readNum (tl lv) 7), .ref u]) = H5 at t5 hL
      refine and_dec (p := co.length ≠ 0) (q := mk.length = 0) (fun R k => ⟨_, rfl, _, ⟨by omega, rfl⟩, to_dec (bne_nat _) (k _ same_refl)⟩) (fun _ H6 s6 R k => ⟨_, rfl, _, ⟨by omega, rfl⟩, to_dec (bne_not _) (k _ same_refl)⟩) fun H6 s6 => ite2 (fun h => ?_) (fun h => ?_)
      · have h := of_decide_eq_true h
        rw [if_pos h] at el
        exact q H6 _ (t5.same s6) (by rw [el]; rfl)
      · have h : ¬ (co.length ≠ 0 ∧ mk.length = 0) := fun z => h (decide_eq_true z)
        rw [if_neg h] at el
        have t6 := t5.same s6
        have hL6 : LabO H6 a u (readNum (tl lv) 7) (rd5 (tl mk)) := ⟨s6 _ _ hL.1, s6 _ _ hL.2⟩
        refine ⟨_, rfl, .ref a, rfl, t6.tg, .inr ⟨a, u, _, _, rfl, hL6, ?_, fun H7 t7 => ⟨_, rfl, ite2 (fun h7 => ?_) (fun h7 => ?_)⟩⟩⟩
        · unfold rd5
          rw [List.length_map]
          omega
        · have h7 : labB (readNum (tl lv) 7) (rd5 (tl mk)) = true := h7
          obtain ⟨l, a1, a2, a3, a4⟩ := labOf_some h7
          refine ⟨_, rfl, q H7 _ (t6.trans t7) ?_⟩
          rw [el, a4]
          have e1 := t7.tup t6.tg hL6.1
          have e2 := t7.tup t6.tg hL6.2
          rw [a1] at e1
          rw [a2, List.map_map] at e2
          exact ⟨a, u, rfl, e1, e2⟩
        · have h7 : ¬ labB (readNum (tl lv) 7) (rd5 (tl mk)) = true := h7
          refine q H7 _ (t6.trans t7) ?_
          rw [el]
          unfold labOf
          rw [if_neg h7]
          rfl
end
end K20
namespace K20
open PySem PySem.Spec PyProof.Rows L2 TL TR QR
open GxR (TabB TabG Tabbed)
abbrev sRP : Stmt := topS 20
abbrev nRP : List Str := ["text", "path"]
theorem scRP : FnScope nRP ["text"] (defScope sRP) := ⟨rfl, rfl, rfl, by decide +kernel, rfl, by decide +kernel, by decide +kernel⟩
abbrev sRI : Stmt := topS 21
abbrev nRI : List Str := ["text", "words", "name"]
theorem scRI : FnScope nRI ["text"] (defScope sRI) := ⟨rfl, rfl, rfl, by decide +kernel, rfl, by decide +kernel, by decide +kernel⟩
abbrev sRV : Stmt := topS 22
abbrev nRV : List Str := ["text", "words", "vertex"]
theorem scRV : FnScope nRV ["text"] (defScope sRV) := ⟨rfl, rfl, rfl, by decide +kernel, rfl, by decide +kernel, by decide +kernel⟩
theorem cut_len (c : Nat) : ∀ l : List Nat, (cutAt c l).length ≤ l.length + 1 ∧ ∀ p ∈ cutAt c l, p.length ≤ l.length
  | [] => ⟨Nat.le_refl _, fun p hp => by rw [List.mem_singleton.mp hp]; exact Nat.le_refl _⟩
  | x :: l => by
    obtain ⟨h1, h2⟩ := cut_len c l
    unfold cutAt
    split
    · refine ⟨by rw [List.length_cons, List.length_cons]; omega, fun p hp => ?_⟩
      rcases List.mem_cons.mp hp with e | hp
      · rw [e]
        exact Nat.zero_le _
      · have := h2 p hp
        rw [List.length_cons]
        omega
    · split
      · refine ⟨by simp, fun p hp => ?_⟩
        rw [List.mem_singleton.mp hp]
        simp
      · rename_i p r e
        rw [e] at h1 h2
        refine ⟨by rw [List.length_cons, List.length_cons] at *; omega, fun q hq => ?_⟩
        rcases List.mem_cons.mp hq with e2 | hq
        · have := h2 p List.mem_cons_self
          rw [e2, List.length_cons, List.length_cons]
          omega
        · have := h2 q (List.mem_cons_of_mem _ hq)
          rw [List.length_cons]
          omega
theorem split_words (x : Str) (c : Nat) : (Txt.split x ⟨#[c]⟩).map V.str = strV (cutAt c (tl x)) := by
  rw [split_cut, List.map_map]
  rfl
theorem ne3 {ws : Path} (h : (!decide (V.int ((strV ws).length : Int) = V.int 3)) = true) : ws.length ≠ 3 := fun z => by
  have l : (strV ws).length = 3 := (List.length_map _).trans z
  rw [l] at h
  exact absurd h (by decide)
theorem is3 {ws : Path} (h : ¬ (!decide (V.int ((strV ws).length : Int) = V.int 3)) = true) : ws.length = 3 := Decidable.byContradiction fun z => h (by
  have l : (strV ws).length = ws.length := List.length_map _
  rw [l, Bool.not_eq_true', decide_eq_false_iff_not]
  intro e
  have := V.int.inj e
  omega)
section
variable {P : Program} {w : World} {K : PySem.W.Frag} {mg : Str → Option Value} {base : Heap}
def spRP (Ts : List Addr) : Sp := fun vs H Q _ => ∃ (x : Str), vs = [.str x] ∧ x.length ≤ 90000 ∧ TG Ts H ∧ ∀ H' v, Tbs Ts H H' → OptR PathAt H' v (readPath (tl x)) → Q v H'
theorem ok_RP {f fIP : Addr} {Ts : List Addr} {fd fdIP : FuncData} (F : Fun K "read_path" "read_path" sRP f fd)
    (GIP : FnOk P w K mg base CX0 3 fIP fdIP ["path"] (spIP Ts)) (bIP : Binds K fdIP ["path"] []) (gIP : mg "is_path" = some (.ref fIP)) (kIP : PySem.W.keepIn K (.ref fIP) = true) (m_tuple : mg "tuple" = none) :
    FnOk P w K mg base CX0 4 f fd ["text"] (spRP Ts) := by
  refine F.ok scRP (fun vs H Q E h => ?_) (fun cdv A outer s H vs Q E hr h => ?_)
  · obtain ⟨x, rfl, _⟩ := h
    rfl
  · obtain ⟨x, rfl, hx, g, q⟩ := h
    have hu := hr.units
    have hu1 := hu_of hr
    have hr1 : Room 1 _ := hr.mono (by decide)
    have hr2 : Room 2 _ := hr.mono (by decide)
    have hr3 : Room 3 _ := hr.mono (by decide)
    have zl := zl
    refine ⟨_, (pss_cons (ps_set (i := 1) scRP.nd rfl (.inl rfl) (pe_callTy call_tuple_of (by rfl) m_tuple (by decide +kernel) (pa_cons (pe_split (pv 0) (pe_str)) pa_nil)))
      (pss_one (ps_ret (pe_ifExp (pt_val (pe_call GIP hr3 (by rfl) gIP kIP bIP .nil pass0 (pa_cons (pv 1) pa_nil))) (pv 1) (pe_non))))), ?_⟩
    have zl2 := zl
    obtain ⟨l1, l2⟩ := cut_len 47 (tl x)
    have lx := len_tl x
    refine ⟨_, rfl, ⟨_, rfl⟩, x, _, rfl, rfl, by decide +kernel, by omega, fun p np => ?_⟩
    rw [slash_str, split_words]
    refine ⟨p, _, rfl, .inl ⟨SqL.of upd_same, fun t nt => ?_⟩⟩
    have s1 : Same H (upd (upd H p (.lst (strV (cutAt 47 (tl x))))) t (.tup (strV (cutAt 47 (tl x))))) := same_trans (same_new np) (same_new nt)
    have et : (upd (upd H p (.lst (strV (cutAt 47 (tl x))))) t (.tup (strV (cutAt 47 (tl x))))) t = some (.tup (strV (cutAt 47 (tl x)))) := upd_same
    generalize upd (upd H p (.lst (strV (cutAt 47 (tl x))))) t (.tup (strV (cutAt 47 (tl x)))) = H1 at s1 et
    have t1 := (Tbs.refl g).same s1
    refine ⟨_, rfl, t, cutAt 47 (tl x), rfl, et, by omega, fun l hl => by have := l2 l hl; omega, t1.tg, fun H2 t2 => ⟨_, rfl, ?_⟩⟩
    have et2 := t2.tup t1.tg et
    refine ite2 (fun h => ?_) (fun h => ?_)
    · refine ⟨_, rfl, q H2 _ (t1.trans t2) ?_⟩
      unfold readPath
      rw [if_pos h]
      exact ⟨t, rfl, et2⟩
    · refine q H2 _ (t1.trans t2) ?_
      unfold readPath
      rw [if_neg h]
      rfl
def spRI (Ts : List Addr) : Sp := fun vs H Q _ => ∃ (x : Str), vs = [.str x] ∧ x.length ≤ 90000 ∧ TG Ts H ∧ ∀ H' v, Tbs Ts H H' → OptR NmAt H' v (readNm (tl x)) → Q v H'
theorem ok_RI {T1 f fRL fN fII : Addr} {Ts : List Addr} {fd fdRL fdN fdII : FuncData} (hT1 : T1 ∈ Ts) (F : Fun K "read_id" "read_id" sRI f fd)
    (GRL : FnOk P w K mg base CX0 4 fRL fdRL ["text"] (spRL Ts)) (bRL : Binds K fdRL ["text"] []) (gRL : mg "read_label" = some (.ref fRL)) (kRL : PySem.W.keepIn K (.ref fRL) = true)
    (GN : FnOk P w K mg base CX0 2 fN fdN ["text", "most"] (spNum T1)) (bN : Binds K fdN ["text", "most"] []) (gN : mg "read_number" = some (.ref fN)) (kN : PySem.W.keepIn K (.ref fN) = true)
    (GII : FnOk P w K mg base CX0 4 fII fdII ["name"] (spII Ts)) (bII : Binds K fdII ["name"] []) (gII : mg "is_id" = some (.ref fII)) (kII : PySem.W.keepIn K (.ref fII) = true)
    (m_len : mg "len" = none) : FnOk P w K mg base CX0 5 f fd ["text"] (spRI Ts) := by
  refine F.ok scRI (fun vs H Q E h => ?_) (fun cdv A outer s H vs Q E hr h => ?_)
  · obtain ⟨x, rfl, _⟩ := h
    rfl
  · obtain ⟨x, rfl, hx, g, q⟩ := h
    have hu := hr.units
    have hu1 := hu_of hr
    have hr1 : Room 1 _ := hr.mono (by decide)
    have hr2 : Room 2 _ := hr.mono (by decide)
    have hr3 : Room 3 _ := hr.mono (by decide)
    have hr4 : Room 4 _ := hr.mono (by decide)
    have zl := zl
    refine ⟨_, (pss_cons (ps_set (i := 1) scRI.nd rfl (.inl rfl) (pe_split (pv 0) (pe_str)))
      (pss_cons (ps_if (pt_cmpR op_ne (pe_callB call_len_seq (by rfl) m_len PySem.boot_len (pa_cons (pv 1) pa_nil)) (pe_int) (nomark _))
      (pss_one (ps_ret (pe_non))) pss_nil)
      (pss_cons (ps_set (i := 2) scRI.nd rfl (.inl rfl) (pe_tup (pa_cons (pe_call GRL hr4 (by rfl) gRL kRL bRL .nil pass0 (pa_cons (pe_ix ix_list (pv 1) (pe_int) (fun _ _ => rfl)) pa_nil)) (pa_cons (pe_ix ix_list (pv 1) (pe_int) (fun _ _ => rfl)) (pa_cons (pe_call GN hr2 (by rfl) gN kN bN .nil pass0 (pa_cons (pe_ix ix_list (pv 1) (pe_int) (fun _ _ => rfl)) (pa_cons (pe_int) pa_nil))) pa_nil)))))
      (pss_one (ps_ret (pe_ifExp (pt_val (pe_call GII hr4 (by rfl) gII kII bII .nil pass0 (pa_cons (pv 2) pa_nil))) (pv 2) (pe_non))))))), ?_⟩
    have zl2 := zl
    obtain ⟨l1, l2⟩ := cut_len 46 (tl x)
    have lx := len_tl x
    refine ⟨_, rfl, ⟨_, rfl⟩, x, _, rfl, rfl, by decide +kernel, by omega, fun p np => ?_⟩
    rw [show Str.ofString "." = ⟨#[46]⟩ by decide +kernel, split_words]
    have s1 : Same H (upd H p (.lst (strV (cutAt 46 (tl x))))) := same_new np
    have ep : (upd H p (.lst (strV (cutAt 46 (tl x))))) p = some (.lst (strV (cutAt 46 (tl x)))) := upd_same
    generalize upd H p (.lst (strV (cutAt 46 (tl x)))) = H1 at s1 ep
    have t1 := (Tbs.refl g).same s1
    unfold readNm at q
    generalize cutAt 46 (tl x) = ws at q l1 l2 ep
    dsimp only [tNext, tSeq, tIfS, tAsg, gName, tC]
    refine ⟨_, rfl, p, _, rfl, .inl (SqL.of ep), rfl, _, rfl, ite2 (fun h => ?_) (fun h => ?_)⟩
    · refine q H1 _ t1 ?_
      have h3 : ws.length ≠ 3 := ne3 h
      unfold readNmP
      split
      · exact absurd rfl h3
      · rfl
    · obtain ⟨wa, wb, wc, rfl⟩ : ∃ wa wb wc, ws = [wa, wb, wc] := by
        have h3 : ws.length = 3 := is3 h
        match ws, h3 with
        | [a, b, c], _ => exact ⟨a, b, c, rfl⟩
      have la := l2 wa (by simp)
      have lb := l2 wb (by simp)
      have lc := l2 wc (by simp)
      refine ⟨_, rfl, p, _, _, _, rfl, rfl, SqL.of ep, atI_nat (j := 0) rfl, Sg wa, rfl, by show wa.length ≤ _; omega, t1.tg, fun H2 lv t2 hlv => ?_⟩
      have ep2 := t2.lst t1.tg ep
      have b2 := t1.trans t2
      refine ⟨_, rfl, p, _, _, _, rfl, rfl, SqL.of ep2, atI_nat (j := 1) rfl, _, rfl, p, _, _, _, rfl, rfl, SqL.of ep2, atI_nat (j := 2) rfl, Sg wc, 99999, rfl, by show wc.length ≤ _; omega, by decide, b2.tg T1 hT1, fun H3 t3 => ?_⟩
      have b3 := b2.tab t3 hT1
      refine ⟨by show 3 ≤ sizeLine; omega, fun a na => ?_⟩
      obtain ⟨na0, aTs⟩ := b3.isNew na
      have t23 : TS H2 H3 := fun b xs e => ((Tbs.refl b2.tg).tab t3 hT1).tup b2.tg e
      have ea : (upd H3 a (.tup [lv, .str (Sg wb), optV (readNum wc 99999)])) a = some (.tup [lv, .str (Sg wb), optV (readNum wc 99999)]) := upd_same
      have b4 : Tbs Ts H (upd H3 a (.tup [lv, .str (Sg wb), optV (readNum wc 99999)])) := b3.updN na0 aTs
      have hlv4 : OptR LabAt (upd H3 a (.tup [lv, .str (Sg wb), optV (readNum wc 99999)])) lv (readLab wa) := hlv.ts (t23.trans (Same.ts (same_new na))) fun l hl => hl.ts (t23.trans (Same.ts (same_new na)))
      generalize upd H3 a (.tup [lv, .str (Sg wb), optV (readNum wc 99999)]) = H4 at ea b4 hlv4
      refine ⟨_, rfl, .ref a, rfl, b4.tg, .inr ⟨a, lv, wb, _, _, rfl, ea, by omega, hlv4, fun l e => ?_, fun H5 t5 => ⟨_, rfl, ite2 (fun h5 => ?_) (fun h5 => ?_)⟩⟩⟩
      · have := (readLab_back e).1.ln
        omega
      · have h5 : idB (readLab wa) wb (readNum wc 99999) = true := h5
        obtain ⟨n, a1, a2, a3, a4, a5⟩ := nmOf_some h5
        refine ⟨_, rfl, q H5 _ (b4.trans t5) ?_⟩
        have eq : readNmP [wa, wb, wc] = some n := a5
        rw [eq]
        have e1 := t5.tup b4.tg ea
        have e2 := hlv4.ts (t5.ts b4.tg) fun l hl => hl.ts (t5.ts b4.tg)
        rw [a1] at e2
        rw [a2, a3] at e1
        exact ⟨a, lv, rfl, e1, e2⟩
      · have h5 : ¬ idB (readLab wa) wb (readNum wc 99999) = true := h5
        refine q H5 _ (b4.trans t5) ?_
        have eq : readNmP [wa, wb, wc] = none := if_neg h5
        rw [eq]
        rfl
end
end K20
namespace K20
open PySem PySem.Spec PyProof.Rows L2 TL TR QR
open GxR (TabB TabG Tabbed)
section
variable {P : Program} {w : World} {K : PySem.W.Frag} {mg : Str → Option Value} {base : Heap}
def spRV (Ts : List Addr) : Sp := fun vs H Q _ => ∃ (x : Str), vs = [.str x] ∧ x.length ≤ 90000 ∧ TG Ts H ∧ ∀ H' v, Tbs Ts H H' → OptR VxAt H' v (readVx (tl x)) → Q v H'
theorem ok_RV {T1 f fRI fN fIV : Addr} {Ts : List Addr} {fd fdRI fdN fdIV : FuncData} (hT1 : T1 ∈ Ts) (F : Fun K "read_vertex" "read_vertex" sRV f fd)
    (GRI : FnOk P w K mg base CX0 5 fRI fdRI ["text"] (spRI Ts)) (bRI : Binds K fdRI ["text"] []) (gRI : mg "read_id" = some (.ref fRI)) (kRI : PySem.W.keepIn K (.ref fRI) = true)
    (GN : FnOk P w K mg base CX0 2 fN fdN ["text", "most"] (spNum T1)) (bN : Binds K fdN ["text", "most"] []) (gN : mg "read_number" = some (.ref fN)) (kN : PySem.W.keepIn K (.ref fN) = true)
    (GIV : FnOk P w K mg base CX0 5 fIV fdIV ["vertex"] (spIV Ts)) (bIV : Binds K fdIV ["vertex"] []) (gIV : mg "is_vertex" = some (.ref fIV)) (kIV : PySem.W.keepIn K (.ref fIV) = true)
    (m_len : mg "len" = none) : FnOk P w K mg base CX0 6 f fd ["text"] (spRV Ts) := by
  refine F.ok scRV (fun vs H Q E h => ?_) (fun cdv A outer s H vs Q E hr h => ?_)
  · obtain ⟨x, rfl, _⟩ := h
    rfl
  · obtain ⟨x, rfl, hx, g, q⟩ := h
    have hu := hr.units
    have hu1 := hu_of hr
    have hr1 : Room 1 _ := hr.mono (by decide)
    have hr2 : Room 2 _ := hr.mono (by decide)
    have hr3 : Room 3 _ := hr.mono (by decide)
    have hr4 : Room 4 _ := hr.mono (by decide)
    have hr5 : Room 5 _ := hr.mono (by decide)
    have zl := zl
    refine ⟨_, (pss_cons (ps_set (i := 1) scRV.nd rfl (.inl rfl) (GX.pe_rsplit (pv 0) (pe_str) (pe_int)))
      (pss_cons (ps_if (pt_cmpR op_ne (pe_callB call_len_seq (by rfl) m_len PySem.boot_len (pa_cons (pv 1) pa_nil)) (pe_int) (nomark _))
      (pss_one (ps_ret (pe_non))) pss_nil)
      (pss_cons (ps_set (i := 2) scRV.nd rfl (.inl rfl) (pe_tup (pa_cons (pe_call GRI hr5 (by rfl) gRI kRI bRI .nil pass0 (pa_cons (pe_ix ix_list (pv 1) (pe_int) (fun _ _ => rfl)) pa_nil)) (pa_cons (pe_call GN hr2 (by rfl) gN kN bN .nil pass0 (pa_cons (pe_ix ix_list (pv 1) (pe_int) (fun _ _ => rfl)) (pa_cons (pe_int) pa_nil))) (pa_cons (pe_call GN hr2 (by rfl) gN kN bN .nil pass0 (pa_cons (pe_ix ix_list (pv 1) (pe_int) (fun _ _ => rfl)) (pa_cons (pe_int) pa_nil))) pa_nil)))))
      (pss_one (ps_ret (pe_ifExp (pt_val (pe_call GIV hr5 (by rfl) gIV kIV bIV .nil pass0 (pa_cons (pv 2) pa_nil))) (pv 2) (pe_non))))))), ?_⟩
    have zl2 := zl
    have lx := len_tl x
    refine ⟨_, rfl, ⟨_, rfl⟩, x, _, 2, rfl, rfl, by decide +kernel, by decide, by decide, by omega, fun p np => ?_⟩
    rw [show Str.ofString "." = ⟨#[46]⟩ by decide +kernel]
    have s1 : Same H (upd H p (.lst ((Txt.rsplitMax x ⟨#[46]⟩ 2).map V.str))) := same_new np
    have ep : (upd H p (.lst ((Txt.rsplitMax x ⟨#[46]⟩ 2).map V.str))) p = some (.lst ((Txt.rsplitMax x ⟨#[46]⟩ 2).map V.str)) := upd_same
    generalize upd H p (.lst ((Txt.rsplitMax x ⟨#[46]⟩ 2).map V.str)) = H1 at s1 ep
    have t1 := (Tbs.refl g).same s1
    unfold readVx at q
    dsimp only [tNext, tSeq, tIfS, tAsg, gName, tC]
    rcases rsplit_two x 46 with ⟨h1, h2⟩ | ⟨wa, wb, wc, er, ec, ex⟩
    · generalize Txt.rsplitMax x ⟨#[46]⟩ 2 = R at ep h1
      refine ⟨_, rfl, p, _, rfl, .inl (SqL.of ep), rfl, _, rfl, ite2 (fun h => ?_) (fun h => ?_)⟩
      · refine q H1 _ t1 ?_
        generalize cutAt 46 (tl x) = ws at h2
        unfold readVxP
        split
        · exact absurd h2 (by simp)
        · rfl
      · refine absurd ?_ h
        rw [Bool.not_eq_true', decide_eq_false_iff_not]
        intro e
        have := V.int.inj e
        rw [List.length_map] at this
        omega
    · rw [er] at ep
      rw [ec] at q
      have ep : H1 p = some (.lst (strV [wa, wb, wc])) := ep
      have lxs := congrArg List.length ex
      rw [List.length_append, List.length_cons, List.length_append, List.length_cons] at lxs
      refine ⟨_, rfl, p, _, rfl, .inl (SqL.of ep), rfl, _, rfl, ite2 (fun h => absurd rfl (ne3 (ws := [wa, wb, wc]) h)) (fun _ => ?_)⟩
      obtain ⟨np0, pTs⟩ := (Tbs.refl g).isNew np
      refine ⟨_, rfl, p, _, _, _, rfl, rfl, SqL.of ep, atI_nat (j := 0) rfl, Sg wa, rfl, by show wa.length ≤ _; omega, t1.tg, fun H2 nv t2 hnv => ?_⟩
      have ep2 := t2.lst t1.tg ep
      have b2 := t1.trans t2
      refine ⟨_, rfl, p, _, _, _, rfl, rfl, SqL.of ep2, atI_nat (j := 1) rfl, Sg wb, 11, rfl, by show wb.length ≤ _; omega, by decide, b2.tg T1 hT1, fun H3 t3 => ?_⟩
      have b3 := b2.tab t3 hT1
      have t23 : Tbs Ts H2 H3 := (Tbs.refl b2.tg).tab t3 hT1
      have ep3 := t23.lst b2.tg ep2
      refine ⟨_, rfl, p, _, _, _, rfl, rfl, SqL.of ep3, atI_nat (j := 2) rfl, Sg wc, 199, rfl, by show wc.length ≤ _; omega, by decide, b3.tg T1 hT1, fun H4 t4 => ?_⟩
      have b4 := b3.tab t4 hT1
      have t34 : Tbs Ts H3 H4 := (Tbs.refl b3.tg).tab t4 hT1
      have ts : TS H2 H4 := (t23.ts b2.tg).trans (t34.ts b3.tg)
      refine ⟨by show 3 ≤ sizeLine; omega, fun a na => ?_⟩
      obtain ⟨na0, aTs⟩ := b4.isNew na
      have ea : (upd H4 a (.tup [nv, optV (readNum wb 11), optV (readNum wc 199)])) a = some (.tup [nv, optV (readNum wb 11), optV (readNum wc 199)]) := upd_same
      have b5 : Tbs Ts H (upd H4 a (.tup [nv, optV (readNum wb 11), optV (readNum wc 199)])) := b4.updN na0 aTs
      have hn5 : OptR NmAt (upd H4 a (.tup [nv, optV (readNum wb 11), optV (readNum wc 199)])) nv (readNm wa) := hnv.ts (ts.trans (Same.ts (same_new na))) fun l hl => hl.ts (ts.trans (Same.ts (same_new na)))
      generalize upd H4 a (.tup [nv, optV (readNum wb 11), optV (readNum wc 199)]) = H5 at ea b5 hn5
      have key : readVxP (cutAt 46 wa ++ [wb, wc]) = vxOf (readNm wa) (readNum wb 11) (readNum wc 199) := by
        unfold readNm
        generalize cutAt 46 wa = ws
        match ws with
        | [] => rfl
        | [_] => rfl
        | [_, _] => rfl
        | [_, _, _] => rfl
        | _ :: _ :: _ :: _ :: r =>
          show readVxP (_ :: _ :: _ :: _ :: (r ++ [wb, wc])) = _
          cases r with
          | nil => rfl
          | cons y r => cases r <;> rfl
      rw [key] at q
      refine ⟨_, rfl, a, nv, _, _, readNm wa, rfl, b5.tg, ea, hn5, fun n e => ?_, fun H6 t6 => ⟨_, rfl, ite2 (fun h6 => ?_) (fun h6 => ?_)⟩⟩
      · have sm := (readNm_back e).1.sm
        exact ⟨sm.1.2.1, sm.2.1⟩
      · have h6 : vxB (readNm wa) (readNum wb 11) (readNum wc 199) = true := h6
        obtain ⟨x', a1, a2, a3, _, _, _, a7⟩ := vxOf_some h6
        refine ⟨_, rfl, q H6 _ (b5.trans t6) ?_⟩
        rw [a7]
        have e1 := t6.tup b5.tg ea
        have e2 := hn5.ts (t6.ts b5.tg) fun l hl => hl.ts (t6.ts b5.tg)
        rw [a1] at e2
        rw [a2, a3] at e1
        exact ⟨a, nv, rfl, e1, e2⟩
      · have h6 : ¬ vxB (readNm wa) (readNum wb 11) (readNum wc 199) = true := h6
        refine q H6 _ (b5.trans t6) ?_
        rw [show vxOf (readNm wa) (readNum wb 11) (readNum wc 199) = none from if_neg h6]
        rfl
end
end K20
namespace GX
open PySem PySem.Spec PyProof.Rows L2
def rListS : List V → Hp → VK → Prop := fun xs H Q => ∃ x : Str, xs = [.str x] ∧ x.length ≤ sizeLine ∧ ∀ p, H p = none → Q (.ref p) (upd H p (.lst ((TL.tl x).map fun c => V.str ⟨#[c]⟩)))
theorem call_list_txt {X : Cx} (hc : X.calm = true) : CallR X (.type "list") rListS := by
  intro pins s σ H xs us Q I r h
  obtain ⟨x, e, hz, q⟩ := h
  subst e
  obtain ⟨u, eu, rx⟩ := vals1 r
  subst eu
  obtain ⟨t, rfl⟩ := rx
  have lx : (TL.tl x).length = x.cps.size := Array.length_toList
  refine PySem.call_list_str (I.ok.hd hc) x t (hn := hz) fun h' tk acc' c' hkeep hS hacc => ?_
  refine ⟨.ref s.heap.objs.size, upd H s.heap.objs.size (.lst ((TL.tl x).map fun c => V.str ⟨#[c]⟩)), I.laid hkeep (Nat.le_refl _) (show ObjOk X.prog X.w _ _ _ (.lst ((TL.tl x).map fun c => V.str ⟨#[c]⟩)) from ⟨?_, acc'.toList, c', ?_, ?_⟩), rfl, q _ (I.hok.fresh (Nat.le_refl _))⟩
  · rw [List.length_map, lx]
    exact hz
  · have el : acc'.toList.length = acc'.size := Array.length_toList
    refine vals_of_at (by rw [List.length_map, el, hacc.1, lx]) fun j y w h1 h2 => ?_
    obtain ⟨c, k, hc, hi⟩ := hacc.2 j w (by rw [← Array.getElem?_toList]; exact h2)
    rw [List.getElem?_map] at h1
    rw [show (TL.tl x)[j]? = some c by
      show x.cps.toList[j]? = some c
      rw [Array.getElem?_toList]
      exact hc] at h1
    cases h1
    exact ⟨_, hi⟩
  · simpa using hS
end GX
namespace K20
open PySem PySem.Spec PyProof.Rows L2 TL TR QR
open GxR (TabB TabG Tabbed)
abbrev sLL : Stmt := topS 27
abbrev nLL : List Str := ["state", "mark"]
theorem scLL : FnScope nLL ["state"] (defScope sLL) := ⟨rfl, rfl, rfl, by decide +kernel, rfl, by decide +kernel, by decide +kernel⟩
abbrev sLW : Stmt := topS 28
abbrev nLW : List Str := ["state", "letters", "most", "k"]
theorem scLW : FnScope nLW ["state", "letters", "most"] (defScope sLW) := ⟨rfl, rfl, rfl, by decide +kernel, rfl, by decide +kernel, by decide +kernel⟩
theorem asc_pair : ∀ {ms : List Nat}, ms.Pairwise (· < ·) → ascB (ms.map some) = true := fun {ms} h => by
  unfold ascB
  rw [List.all_eq_true]
  intro k hk
  have hk := List.mem_range.mp hk
  rw [List.length_map] at hk
  have e : ∀ j (hj : j < ms.length), ((ms.map some).getD j none).getD 0 = ms[j] := fun j hj => by
    rw [List.getD_eq_getElem?_getD, List.getElem?_map, List.getElem?_eq_getElem hj]
    rfl
  rw [e k (by omega), e (k + 1) (by omega)]
  exact decide_eq_true (List.pairwise_iff_getElem.mp h k (k + 1) (by omega) (by omega) (by omega))
section
variable {P : Program} {w : World} {K : PySem.W.Frag} {mg : Str → Option Value} {base : Heap}
def spLL : Sp := fun vs H Q _ => ∃ (p c : Addr), vs = [.ref p] ∧ StateAt H p c ∧ ∀ H' v l, Dr p c H H' → LabAt H' v l → LabOk l → Q v H'
theorem ok_LL {f fD : Addr} {fd fdD : FuncData} (F : Fun K "_law_label" "_law_label" sLL f fd)
    (GD : FnOk P w K mg base CX0 1 fD fdD ["state", "many"] spDraw) (bD : Binds K fdD ["state", "many"] []) (gD : mg "_law_draw" = some (.ref fD)) (kD : PySem.W.keepIn K (.ref fD) = true)
    (m_range : mg "range" = none) (m_tuple : mg "tuple" = none) : FnOk P w K mg base CX0 2 f fd ["state"] spLL := by
  refine F.ok scLL (fun vs H Q E h => ?_) (fun cdv A outer s H vs Q E hr h => ?_)
  · obtain ⟨p, c, rfl, _⟩ := h
    rfl
  · obtain ⟨p, c, rfl, st, q⟩ := h
    have hu := hr.units
    have hu1 := hu_of hr
    have hr1 : Room 1 _ := hr.mono (by decide)
    have zl := zl
    refine ⟨_, (pss_one (ps_ret (pe_tup (pa_cons (pe_str) (pa_cons (pe_call GD hr1 (by rfl) gD kD bD .nil pass0 (pa_cons (pv 0) (pa_cons (pe_int) pa_nil))) (pa_cons (pe_callTy call_tuple_of (by rfl) m_tuple (by decide +kernel) (pa_cons (pe_lc (own := [("mark", 1)]) (g := gName 1) (tt := tTest (tOp rEq (tCall spDraw [] E0 (tCons (tVar 0) (tCons (tC (.int 3)) tNil))) (tC (.int 0)))) (te := tVar 1) rfl scLL.nd (pi_range1 (by rfl) m_range (pa_cons (pe_int) pa_nil)) (blkOk_by (N := nLL) (sc := defScope sLL) (by decide +kernel)) (fun _ _ _ _ _ => by exact pg_name (i := 1) scLL.nd rfl (.inl rfl)) (fun _ _ _ _ _ => by exact pts_one (pt_cmpR op_eq (pe_call GD hr1 (by rfl) gD kD bD .nil pass0 (pa_cons (pv 0) (pa_cons (pe_int) pa_nil))) (pe_int) (nomark _))) (fun _ _ _ _ _ => by exact pv 1)) pa_nil)) pa_nil)))))), ?_⟩
    have zl := zl
    refine ⟨_, rfl, p, c, 8, rfl, by decide, st, fun H1 lv _ hlv st1 d1 => ?_⟩
    have hlv := hlv (by decide)
    have r1 := (Dr.refl st).drawn st1 d1
    refine ⟨_, rfl, by decide, by decide, fun D nD => ?_⟩
    have nD0 := r1.none nD
    have nDp := st.new nD0
    refine lc_range (lo := 0) (n := 6) (fun k H3 => Dr p c H H3 ∧ ∃ ms : List Nat, ms.Pairwise (· < ·) ∧ (∀ m ∈ ms, m < k) ∧ ms.length ≤ k ∧ H3 D = some (.lst (ms.map fun m : Nat => V.int (m : Int))))
      ⟨r1.same (same_new nD), [], .nil, (fun m hm => nomatch hm), Nat.le_refl _, upd_same⟩ ?_ ?_
    · rintro k H3 hk ⟨r3, ms, pw, lt, ln, eD⟩
      refine ⟨rfl, _, rfl, p, c, 3, rfl, by decide, r3.st, fun H4 r _ _ st4 d4 => ⟨rfl, _, rfl, ?_⟩⟩
      have r4 := r3.drawn st4 d4
      have eD4 := (d4 D nDp.1 nDp.2).trans eD
      refine ite2 (fun _ => ⟨_, rfl, _, eD4, by rw [List.length_map]; omega, ⟨r4.st.upd nDp, fun b o n1 n2 e => ?_⟩, ms ++ [k], ?_, ?_, ?_, ?_⟩) (fun _ => ⟨r4, ms, pw, fun m hm => by have := lt m hm; omega, by omega, eD4⟩)
      · rw [upd_ne (ne_of_none e nD0)]
        exact r4.ou b o n1 n2 e
      · rw [List.pairwise_append]
        exact ⟨pw, List.pairwise_singleton _ _, fun a ha b hb => by rw [List.mem_singleton.mp hb]; exact lt a ha⟩
      · intro m hm
        rcases List.mem_append.mp hm with h | h
        · have := lt m h
          omega
        · rw [List.mem_singleton.mp h]
          omega
      · rw [List.length_append]
        show ms.length + 1 ≤ _
        omega
      · rw [upd_same, List.map_append, show (0 : Int) + (k : Int) = ((k : Nat) : Int) from Int.zero_add _]
        rfl
    · rintro H3 ⟨r3, ms, pw, lt, ln, eD⟩
      refine ⟨D, _, rfl, .inl ⟨SqL.of eD, fun u nu => ?_⟩⟩
      have r4 : Dr p c H (upd H3 u (.tup (ms.map fun m : Nat => V.int (m : Int)))) := r3.same (same_new nu)
      have eu : (upd H3 u (.tup (ms.map fun m : Nat => V.int (m : Int)))) u = some (.tup (ms.map fun m : Nat => V.int (m : Int))) := upd_same
      generalize upd H3 u (.tup (ms.map fun m : Nat => V.int (m : Int))) = H4 at r4 eu
      refine ⟨by show 3 ≤ sizeLine; omega, fun a na => q _ _ (lv, ms) (r4.same (same_new na)) ⟨a, u, rfl, upd_same, same_new na _ _ eu⟩ ?_⟩
      refine lab_ok.mp ?_
      unfold okLab labB
      rw [Bool.and_eq_true, Bool.and_eq_true]
      refine ⟨decide_eq_true ⟨Nat.zero_le _, by show lv ≤ 7; omega⟩, ?_, asc_pair pw⟩
      rw [List.all_eq_true]
      intro o ho
      obtain ⟨m, hm, rfl⟩ := List.mem_map.mp ho
      exact decide_eq_true ⟨Nat.zero_le _, by have := lt m hm; omega⟩
def spLW : Sp := fun vs H Q _ => ∃ (p c : Addr) (x : Str) (m : Nat), vs = [.ref p, .str x, .int (m : Int)] ∧ 0 < x.length ∧ x.length < 1000 ∧ 0 < m ∧ m ≤ 100 ∧ StateAt H p c ∧
  ∀ H' (wd : List Nat), Dr p c H H' → 1 ≤ wd.length → wd.length ≤ m → (∀ s ∈ wd, s ∈ tl x) → Q (.str (Sg wd)) H'
theorem ok_LW {f fD fP : Addr} {fd fdD fdP : FuncData} (F : Fun K "_law_word" "_law_word" sLW f fd)
    (GD : FnOk P w K mg base CX0 1 fD fdD ["state", "many"] spDraw) (bD : Binds K fdD ["state", "many"] []) (gD : mg "_law_draw" = some (.ref fD)) (kD : PySem.W.keepIn K (.ref fD) = true)
    (GP : FnOk P w K mg base CX0 2 fP fdP ["state", "row"] spPick) (bP : Binds K fdP ["state", "row"] []) (gP : mg "_law_pick" = some (.ref fP)) (kP : PySem.W.keepIn K (.ref fP) = true)
    (m_range : mg "range" = none) (m_list : mg "list" = none) : FnOk P w K mg base CX0 3 f fd ["state", "letters", "most"] spLW := by
  refine F.ok scLW (fun vs H Q E h => ?_) (fun cdv A outer s H vs Q E hr h => ?_)
  · obtain ⟨p, c, x, m, rfl, _⟩ := h
    rfl
  · obtain ⟨p, c, x, m, rfl, x0, x1, m0, m1, st, q⟩ := h
    have hu := hr.units
    have hu1 := hu_of hr
    have hr1 : Room 1 _ := hr.mono (by decide)
    have hr2 : Room 2 _ := hr.mono (by decide)
    have zl := zl
    refine ⟨_, (pss_one (ps_ret (pe_join (pe_str) (pe_lc (own := [("k", 3)]) (g := gName 3) (tt := tYes) (te := tCall spPick [] E0 (tCons (tVar 0) (tCons (tCB GX.rListS (tCons (tVar 1) tNil)) tNil))) rfl scLW.nd (pi_range1 (by rfl) m_range (pa_cons (pe_op op_add (pe_int) (pe_call GD hr1 (by rfl) gD kD bD .nil pass0 (pa_cons (pv 0) (pa_cons (pv 2) pa_nil)))) pa_nil)) (blkOk_by (N := nLW) (sc := defScope sLW) (by decide +kernel)) (fun _ _ _ _ _ => by exact pg_name (i := 3) scLW.nd rfl (.inl rfl)) (fun _ _ _ _ _ => pts_nil) (fun _ _ _ _ _ => by exact pe_call GP hr2 (by rfl) gP kP bP .nil pass0 (pa_cons (pv 0) (pa_cons (pe_callTy (GX.call_list_txt (by rfl)) (by rfl) m_list (by decide +kernel) (pa_cons (pv 1) pa_nil)) pa_nil))))))), ?_⟩
    have zl := zl
    have lx := len_tl x
    refine ⟨⟨_, rfl⟩, _, rfl, _, rfl, p, c, m, rfl, by omega, st, fun H1 n _ hn st1 d1 => ⟨_, _, rfl, rfl, ?_⟩⟩
    have hn := hn m0
    have r1 := (Dr.refl st).drawn st1 d1
    refine ⟨_, rfl, by omega, by omega, fun D nD => ?_⟩
    have nD0 := r1.none nD
    have nDp := st.new nD0
    refine lc_range (lo := 0) (n := ((1 : Int) + (n : Int)).toNat) (fun k H3 => Dr p c H H3 ∧ ∃ wd : List Nat, wd.length = k ∧ (∀ s ∈ wd, s ∈ tl x) ∧ H3 D = some (.lst (wd.map fun s => V.str ⟨#[s]⟩)))
      ⟨r1.same (same_new nD), [], rfl, (fun m hm => nomatch hm), upd_same⟩ ?_ ?_
    · rintro k H3 hk ⟨r3, wd, lw, mem, eD⟩
      refine ⟨rfl, _, rfl, _, rfl, x, rfl, by omega, fun a na => ?_⟩
      have s4 : Same H3 (upd H3 a (.lst ((tl x).map fun c => V.str ⟨#[c]⟩))) := same_new na
      have ea : (upd H3 a (.lst ((tl x).map fun c => V.str ⟨#[c]⟩))) a = some (.lst ((tl x).map fun c => V.str ⟨#[c]⟩)) := upd_same
      have eD4 := s4 _ _ eD
      have r4 := r3.same s4
      have nap := st.new (r3.none na)
      generalize upd H3 a (.lst ((tl x).map fun c => V.str ⟨#[c]⟩)) = H4 at ea eD4 r4
      refine ⟨p, c, a, _, rfl, ea, nap.1, nap.2, by rw [List.length_map]; omega, by rw [List.length_map]; omega, r4.st, fun H5 v hv st5 d5 => ?_⟩
      obtain ⟨sg, hs, rfl⟩ := List.mem_map.mp hv
      have r5 := r4.drawn st5 d5
      refine ⟨_, (d5 D nDp.1 nDp.2).trans eD4, by rw [List.length_map]; omega, ⟨r5.st.upd nDp, fun b o n1 n2 e => ?_⟩, wd ++ [sg], by rw [List.length_append, lw]; rfl, fun s hs' => ?_, ?_⟩
      · rw [upd_ne (ne_of_none e nD0)]
        exact r5.ou b o n1 n2 e
      · rcases List.mem_append.mp hs' with h | h
        · exact mem s h
        · rw [List.mem_singleton.mp h]
          exact hs
      · rw [upd_same, List.map_append]
        rfl
    · rintro H3 ⟨r3, wd, lw, mem, eD⟩
      have eD2 : H3 D = some (.lst ((wd.map fun s => (⟨#[s]⟩ : Str)).map V.str)) := by rw [eD, List.map_map]; rfl
      refine ⟨_, D, _, rfl, rfl, .inl (SqL.of eD2), ?_, ?_⟩
      · have : ∀ l : List Nat, ((l.map fun s => (⟨#[s]⟩ : Str)).map (·.length)).sum = l.length := fun l => by
          induction l with
          | nil => rfl
          | cons y l ih =>
            rw [List.map_cons, List.map_cons, List.sum_cons, ih, List.length_cons]
            show 1 + _ = _
            omega
        rw [this, List.length_map, show (Str.ofString "").length = 0 by decide +kernel]
        omega
      · have ej : Txt.join (Str.ofString "") (wd.map fun s => (⟨#[s]⟩ : Str)) = Sg wd := by
          rw [show Str.ofString "" = Str.empty from rfl, txt_join0, List.map_map]
          have : ∀ l : List Nat, (l.map (tl ∘ fun s => (⟨#[s]⟩ : Str))).flatten = l := fun l => by
            induction l with
            | nil => rfl
            | cons y l ih =>
              rw [List.map_cons, List.flatten_cons, ih]
              rfl
          rw [this]
        rw [ej]
        exact q _ wd r3 (by omega) (by omega) mem
end
end K20
namespace K20
open PySem PySem.Spec PyProof.Rows L2 TL TR QR
open GxR (TabB TabG Tabbed)
abbrev sLN : Stmt := topS 29
abbrev nLN : List Str := ["state", "label", "number"]
theorem scLN : FnScope nLN ["state", "label"] (defScope sLN) := ⟨rfl, rfl, rfl, by decide +kernel, rfl, by decide +kernel, by decide +kernel⟩
abbrev sLV : Stmt := topS 30
abbrev nLV : List Str := ["state", "label", "place"]
theorem scLV : FnScope nLV ["state", "label"] (defScope sLV) := ⟨rfl, rfl, rfl, by decide +kernel, rfl, by decide +kernel, by decide +kernel⟩
abbrev sLP : Stmt := topS 31
abbrev nLP : List Str := ["state", "k"]
theorem scLP : FnScope nLP ["state"] (defScope sLP) := ⟨rfl, rfl, rfl, by decide +kernel, rfl, by decide +kernel, by decide +kernel⟩
theorem wordB_of {wd : List Nat} {x z : Str} (h1 : 1 ≤ wd.length) (h8 : wd.length ≤ 8) (mem : ∀ s ∈ wd, s ∈ tl x) (sub : ∀ s ∈ tl x, s ∈ tl z) : wordB (Sg wd) z 8 = true := by
  unfold wordB
  rw [Bool.and_eq_true, Bool.and_eq_true]
  have e : (Sg wd).length = wd.length := rfl
  refine ⟨decide_eq_true (by rw [e]; omega), decide_eq_true (by rw [e]; omega), ?_⟩
  rw [List.all_eq_true]
  exact fun s hs => decide_eq_true (sub s (mem s hs))
theorem abz_sub : ∀ s ∈ tl (Str.ofString "abz"), s ∈ tl (Str.ofString "abcdefghijklmnopqrstuvwxyz") := by decide +kernel
theorem az09_sub : ∀ s ∈ tl (Str.ofString "az09"), s ∈ tl letS := by decide +kernel
section
variable {P : Program} {w : World} {K : PySem.W.Frag} {mg : Str → Option Value} {base : Heap}
def spLN : Sp := fun vs H Q _ => ∃ (p c : Addr) (lv : V) (l : Lab), vs = [.ref p, lv] ∧ LabAt H lv l ∧ LabOk l ∧ StateAt H p c ∧ ∀ H' v n, Dr p c H H' → NmAt H' v n → NmOk n → n.1 = l → Q v H'
theorem ok_LN {f fD fP fLW : Addr} {fd fdD fdP fdLW : FuncData} (F : Fun K "_law_name" "_law_name" sLN f fd)
    (GD : FnOk P w K mg base CX0 1 fD fdD ["state", "many"] spDraw) (bD : Binds K fdD ["state", "many"] []) (gD : mg "_law_draw" = some (.ref fD)) (kD : PySem.W.keepIn K (.ref fD) = true)
    (GP : FnOk P w K mg base CX0 2 fP fdP ["state", "row"] spPick) (bP : Binds K fdP ["state", "row"] []) (gP : mg "_law_pick" = some (.ref fP)) (kP : PySem.W.keepIn K (.ref fP) = true)
    (GLW : FnOk P w K mg base CX0 3 fLW fdLW ["state", "letters", "most"] spLW) (bLW : Binds K fdLW ["state", "letters", "most"] []) (gLW : mg "_law_word" = some (.ref fLW)) (kLW : PySem.W.keepIn K (.ref fLW) = true) :
    FnOk P w K mg base CX0 4 f fd ["state", "label"] spLN := by
  refine F.ok scLN (fun vs H Q E h => ?_) (fun cdv A outer s H vs Q E hr h => ?_)
  · obtain ⟨p, c, lv, l, rfl, _⟩ := h
    rfl
  · obtain ⟨p, c, lv, l, rfl, hl, lok, st, q⟩ := h
    have hu := hr.units
    have hu1 := hu_of hr
    have hr1 : Room 1 _ := hr.mono (by decide)
    have hr2 : Room 2 _ := hr.mono (by decide)
    have hr3 : Room 3 _ := hr.mono (by decide)
    have zl := zl
    refine ⟨_, (pss_cons (ps_set (i := 2) scLN.nd rfl (.inl rfl) (pe_call GP hr2 (by rfl) gP kP bP .nil pass0 (pa_cons (pv 0) (pa_cons (pe_lst (pa_cons (pe_int) (pa_cons (pe_int) (pa_cons (pe_int) (pa_cons (pe_int) (pa_cons (pe_int) (pa_cons (pe_op op_add (pe_int) (pe_call GD hr1 (by rfl) gD kD bD .nil pass0 (pa_cons (pv 0) (pa_cons (pe_int) pa_nil)))) pa_nil))))))) pa_nil))))
      (pss_one (ps_ret (pe_tup (pa_cons (pv 1) (pa_cons (pe_call GLW hr3 (by rfl) gLW kLW bLW .nil pass0 (pa_cons (pv 0) (pa_cons (pe_str) (pa_cons (pe_int) pa_nil)))) (pa_cons (pv 2) pa_nil))))))), ?_⟩
    have zl := zl
    refine ⟨_, rfl, _, rfl, p, c, 99999, rfl, by decide, st, fun H1 n _ hn st1 d1 => ⟨_, _, rfl, rfl, by show 6 ≤ sizeLine; omega, fun a na => ?_⟩⟩
    have hn := hn (by decide)
    have r1 := (Dr.refl st).drawn st1 d1
    have r2 := r1.same (same_new (o := .lst [.int 1, .int 2, .int 9, .int 10, .int 99999, .int (1 + (n : Int))]) na)
    have ea : (upd H1 a (.lst [.int 1, .int 2, .int 9, .int 10, .int 99999, .int (1 + (n : Int))])) a = some (.lst [.int 1, .int 2, .int 9, .int 10, .int 99999, .int (1 + (n : Int))]) := upd_same
    have nap := st.new (r1.none na)
    generalize upd H1 a (.lst [.int 1, .int 2, .int 9, .int 10, .int 99999, .int (1 + (n : Int))]) = H2 at r2 ea
    refine ⟨p, c, a, _, rfl, ea, nap.1, nap.2, by simp, by simp, r2.st, fun H3 v hv st3 d3 => ?_⟩
    have r3 := r2.drawn st3 d3
    obtain ⟨k, rfl, k1, k2⟩ : ∃ k : Nat, v = .int (k : Int) ∧ 1 ≤ k ∧ k ≤ 99999 := by
      simp only [List.mem_cons, List.not_mem_nil, or_false] at hv
      rcases hv with rfl | rfl | rfl | rfl | rfl | rfl
      · exact ⟨1, rfl, by decide, by decide⟩
      · exact ⟨2, rfl, by decide, by decide⟩
      · exact ⟨9, rfl, by decide, by decide⟩
      · exact ⟨10, rfl, by decide, by decide⟩
      · exact ⟨99999, rfl, by decide, by decide⟩
      · exact ⟨1 + n, by rw [Int.natCast_add]; rfl, by omega, by omega⟩
    refine ⟨_, rfl, _, rfl, p, c, Str.ofString "abz", 8, rfl, by decide +kernel, by decide +kernel, by decide, by decide, r3.st, fun H4 wd r4 w1 w8 mem => ⟨_, rfl, by show 3 ≤ sizeLine; omega, fun b nb => ?_⟩⟩
    have r5 := r3.trans r4
    have hl5 := hl.ts (r5.ts st)
    have r6 := r5.same (same_new (o := .tup [lv, .str (Sg wd), .int (k : Int)]) nb)
    exact q _ _ (l, wd, k) r6 ⟨b, lv, rfl, upd_same, hl5.ts (Same.ts (same_new nb))⟩ ⟨lok, wordB_of w1 w8 mem abz_sub, k1, k2⟩ rfl
def spLV : Sp := fun vs H Q _ => ∃ (p c : Addr) (lv : V) (l : Lab), vs = [.ref p, lv] ∧ LabAt H lv l ∧ LabOk l ∧ StateAt H p c ∧ ∀ H' v n, Dr p c H H' → VxAt H' v n → VxOk n → n.1.1 = l → Q v H'
theorem ok_LV {f fD fP fLN : Addr} {fd fdD fdP fdLN : FuncData} (F : Fun K "_law_vertex" "_law_vertex" sLV f fd)
    (GD : FnOk P w K mg base CX0 1 fD fdD ["state", "many"] spDraw) (bD : Binds K fdD ["state", "many"] []) (gD : mg "_law_draw" = some (.ref fD)) (kD : PySem.W.keepIn K (.ref fD) = true)
    (GP : FnOk P w K mg base CX0 2 fP fdP ["state", "row"] spPick) (bP : Binds K fdP ["state", "row"] []) (gP : mg "_law_pick" = some (.ref fP)) (kP : PySem.W.keepIn K (.ref fP) = true)
    (GLN : FnOk P w K mg base CX0 4 fLN fdLN ["state", "label"] spLN) (bLN : Binds K fdLN ["state", "label"] []) (gLN : mg "_law_name" = some (.ref fLN)) (kLN : PySem.W.keepIn K (.ref fLN) = true) :
    FnOk P w K mg base CX0 5 f fd ["state", "label"] spLV := by
  refine F.ok scLV (fun vs H Q E h => ?_) (fun cdv A outer s H vs Q E hr h => ?_)
  · obtain ⟨p, c, lv, l, rfl, _⟩ := h
    rfl
  · obtain ⟨p, c, lv, l, rfl, hl, lok, st, q⟩ := h
    have hu := hr.units
    have hu1 := hu_of hr
    have hr1 : Room 1 _ := hr.mono (by decide)
    have hr2 : Room 2 _ := hr.mono (by decide)
    have hr3 : Room 3 _ := hr.mono (by decide)
    have hr4 : Room 4 _ := hr.mono (by decide)
    have zl := zl
    refine ⟨_, (pss_cons (ps_set (i := 2) scLV.nd rfl (.inl rfl) (pe_call GP hr2 (by rfl) gP kP bP .nil pass0 (pa_cons (pv 0) (pa_cons (pe_lst (pa_cons (pe_int) (pa_cons (pe_int) (pa_cons (pe_call GD hr1 (by rfl) gD kD bD .nil pass0 (pa_cons (pv 0) (pa_cons (pe_int) pa_nil))) pa_nil)))) pa_nil))))
      (pss_one (ps_ret (pe_tup (pa_cons (pe_call GLN hr4 (by rfl) gLN kLN bLN .nil pass0 (pa_cons (pv 0) (pa_cons (pv 1) pa_nil))) (pa_cons (pv 2) (pa_cons (pe_call GP hr2 (by rfl) gP kP bP .nil pass0 (pa_cons (pv 0) (pa_cons (pe_lst (pa_cons (pe_int) (pa_cons (pe_int) (pa_cons (pe_int) (pa_cons (pe_call GD hr1 (by rfl) gD kD bD .nil pass0 (pa_cons (pv 0) (pa_cons (pe_int) pa_nil))) pa_nil))))) pa_nil))) pa_nil))))))), ?_⟩
    have zl := zl
    refine ⟨_, rfl, _, rfl, p, c, 12, rfl, by decide, st, fun H1 n _ hn st1 d1 => ⟨by show 3 ≤ sizeLine; omega, fun a na => ?_⟩⟩
    have hn := hn (by decide)
    have r1 := (Dr.refl st).drawn st1 d1
    have r2 := r1.same (same_new (o := .lst [.int 0, .int 11, .int (n : Int)]) na)
    have ea : (upd H1 a (.lst [.int 0, .int 11, .int (n : Int)])) a = some (.lst [.int 0, .int 11, .int (n : Int)]) := upd_same
    have nap := st.new (r1.none na)
    generalize upd H1 a (.lst [.int 0, .int 11, .int (n : Int)]) = H2 at r2 ea
    refine ⟨p, c, a, _, rfl, ea, nap.1, nap.2, by simp, by simp, r2.st, fun H3 v hv st3 d3 => ?_⟩
    have r3 := r2.drawn st3 d3
    obtain ⟨k, rfl, k2⟩ : ∃ k : Nat, v = .int (k : Int) ∧ k ≤ 11 := by
      simp only [List.mem_cons, List.not_mem_nil, or_false] at hv
      rcases hv with rfl | rfl | rfl
      · exact ⟨0, rfl, by decide⟩
      · exact ⟨11, rfl, by decide⟩
      · exact ⟨n, rfl, by omega⟩
    refine ⟨_, rfl, _, rfl, p, c, lv, l, rfl, hl.ts (r3.ts st), lok, r3.st, fun H4 nv nm r4 hnv nok nml => ⟨_, rfl, _, rfl, _, rfl, p, c, 200, rfl, by decide, r4.st, fun H5 n2 _ hn2 st5 d5 => ⟨by show 4 ≤ sizeLine; omega, fun b nb => ?_⟩⟩⟩
    have hn2 := hn2 (by decide)
    have r5 := (r3.trans r4).drawn st5 d5
    have r6 := r5.same (same_new (o := .lst [.int 0, .int 199, .int 10, .int (n2 : Int)]) nb)
    have t45 : TS H4 (upd H5 b (.lst [.int 0, .int 199, .int 10, .int (n2 : Int)])) := (((Dr.refl r4.st).drawn st5 d5).same (same_new nb)).ts r4.st
    have eb : (upd H5 b (.lst [.int 0, .int 199, .int 10, .int (n2 : Int)])) b = some (.lst [.int 0, .int 199, .int 10, .int (n2 : Int)]) := upd_same
    have nbp := st.new (r5.none nb)
    generalize upd H5 b (.lst [.int 0, .int 199, .int 10, .int (n2 : Int)]) = H6 at r6 eb t45
    refine ⟨p, c, b, _, rfl, eb, nbp.1, nbp.2, by simp, by simp, r6.st, fun H7 v hv st7 d7 => ⟨by show 3 ≤ sizeLine; omega, fun d nd => ?_⟩⟩
    have r7 := r6.drawn st7 d7
    obtain ⟨j, rfl, j2⟩ : ∃ k : Nat, v = .int (k : Int) ∧ k ≤ 199 := by
      simp only [List.mem_cons, List.not_mem_nil, or_false] at hv
      rcases hv with rfl | rfl | rfl | rfl
      · exact ⟨0, rfl, by decide⟩
      · exact ⟨199, rfl, by decide⟩
      · exact ⟨10, rfl, by decide⟩
      · exact ⟨n2, rfl, by omega⟩
    have t67 : TS H6 H7 := ((Dr.refl r6.st).drawn st7 d7).ts r6.st
    have hn7 := hnv.ts (t45.trans t67)
    exact q _ _ (nm, k, j) (r7.same (same_new nd)) ⟨d, nv, rfl, upd_same, hn7.ts (Same.ts (same_new nd))⟩ ⟨nok, k2, j2⟩ nml
def spLP : Sp := fun vs H Q _ => ∃ (p c : Addr), vs = [.ref p] ∧ StateAt H p c ∧ ∀ H' v ps, Dr p c H H' → PathAt H' v ps → okPath ps = true → Q v H'
theorem ok_LP {f fD fLW : Addr} {fd fdD fdLW : FuncData} (F : Fun K "_law_path" "_law_path" sLP f fd)
    (GD : FnOk P w K mg base CX0 1 fD fdD ["state", "many"] spDraw) (bD : Binds K fdD ["state", "many"] []) (gD : mg "_law_draw" = some (.ref fD)) (kD : PySem.W.keepIn K (.ref fD) = true)
    (GLW : FnOk P w K mg base CX0 3 fLW fdLW ["state", "letters", "most"] spLW) (bLW : Binds K fdLW ["state", "letters", "most"] []) (gLW : mg "_law_word" = some (.ref fLW)) (kLW : PySem.W.keepIn K (.ref fLW) = true)
    (m_range : mg "range" = none) (m_tuple : mg "tuple" = none) : FnOk P w K mg base CX0 4 f fd ["state"] spLP := by
  refine F.ok scLP (fun vs H Q E h => ?_) (fun cdv A outer s H vs Q E hr h => ?_)
  · obtain ⟨p, c, rfl, _⟩ := h
    rfl
  · obtain ⟨p, c, rfl, st, q⟩ := h
    have hu := hr.units
    have hu1 := hu_of hr
    have hr1 : Room 1 _ := hr.mono (by decide)
    have hr2 : Room 2 _ := hr.mono (by decide)
    have hr3 : Room 3 _ := hr.mono (by decide)
    have zl := zl
    refine ⟨_, (pss_one (ps_ret (pe_callTy call_tuple_of (by rfl) m_tuple (by decide +kernel) (pa_cons (pe_lc (own := [("k", 1)]) (g := gName 1) (tt := tYes) (te := tCall spLW [] E0 (tCons (tVar 0) (tCons (tC (.str "az09")) (tCons (tC (.int 8)) tNil)))) rfl scLP.nd (pi_range1 (by rfl) m_range (pa_cons (pe_op op_add (pe_int) (pe_call GD hr1 (by rfl) gD kD bD .nil pass0 (pa_cons (pv 0) (pa_cons (pe_int) pa_nil)))) pa_nil)) (blkOk_by (N := nLP) (sc := defScope sLP) (by decide +kernel)) (fun _ _ _ _ _ => by exact pg_name (i := 1) scLP.nd rfl (.inl rfl)) (fun _ _ _ _ _ => pts_nil) (fun _ _ _ _ _ => by exact pe_call GLW hr3 (by rfl) gLW kLW bLW .nil pass0 (pa_cons (pv 0) (pa_cons (pe_str) (pa_cons (pe_int) pa_nil))))) pa_nil)))), ?_⟩
    have zl := zl
    refine ⟨_, rfl, p, c, 4, rfl, by decide, st, fun H1 n _ hn st1 d1 => ⟨_, _, rfl, rfl, ?_⟩⟩
    have hn := hn (by decide)
    have r1 := (Dr.refl st).drawn st1 d1
    refine ⟨_, rfl, by omega, by omega, fun D nD => ?_⟩
    have nD0 := r1.none nD
    have nDp := st.new nD0
    refine lc_range (lo := 0) (n := ((1 : Int) + (n : Int)).toNat) (fun k H3 => Dr p c H H3 ∧ ∃ ps : Path, ps.length = k ∧ (∀ l ∈ ps, wordB (Sg l) letS 8 = true) ∧ H3 D = some (.lst (strV ps)))
      ⟨r1.same (same_new nD), [], rfl, (fun m hm => nomatch hm), upd_same⟩ ?_ ?_
    · rintro k H3 hk ⟨r3, ps, lp, ok, eD⟩
      refine ⟨rfl, _, rfl, p, c, Str.ofString "az09", 8, rfl, by decide +kernel, by decide +kernel, by decide, by decide, r3.st, fun H4 wd r4 w1 w8 mem => ?_⟩
      have r5 := r3.trans r4
      refine ⟨_, r4.ou D _ nDp.1 nDp.2 eD, by rw [List.length_map]; omega, ⟨r5.st.upd nDp, fun b o n1 n2 e => ?_⟩, ps ++ [wd], by rw [List.length_append, lp]; rfl, fun s hs' => ?_, ?_⟩
      · rw [upd_ne (ne_of_none e nD0)]
        exact r5.ou b o n1 n2 e
      · rcases List.mem_append.mp hs' with h | h
        · exact ok s h
        · rw [List.mem_singleton.mp h]
          exact wordB_of w1 w8 mem az09_sub
      · rw [upd_same]
        unfold strV
        rw [List.map_append]
        rfl
    · rintro H3 ⟨r3, ps, lp, ok, eD⟩
      refine ⟨D, _, rfl, .inl ⟨SqL.of eD, fun u nu => ?_⟩⟩
      refine q _ _ ps (r3.same (same_new nu)) ⟨u, rfl, upd_same⟩ ?_
      unfold okPath
      rw [Bool.and_eq_true]
      exact ⟨decide_eq_true (by omega), List.all_eq_true.mpr ok⟩
end
end K20
namespace K20
open PySem PySem.Spec PyProof.Rows L2 TL TR QR
def numB (t : List Nat) (l m : Nat) : Bool := withinB (readNum t m) l m
theorem numB_eq {t : List Nat} {l m : Nat} (hm : m ≤ 99999) : numB t l m = decide (t.length ≠ 0 ∧ t.length ≤ 5 ∧ NumText.AllDigits t ∧ (l ≤ NumText.digitsVal t ∧ NumText.digitsVal t ≤ m) ∧ (t.head? ≠ some 48 ∨ t.length = 1)) := by
  have l5 := num_five hm
  by_cases h : t.length ≠ 0 ∧ t.length ≤ 5 ∧ NumText.AllDigits t ∧ (l ≤ NumText.digitsVal t ∧ NumText.digitsVal t ≤ m) ∧ (t.head? ≠ some 48 ∨ t.length = 1)
  · rw [decide_eq_true h]
    obtain ⟨h0, h5, hd, ⟨hl, hm2⟩, hh⟩ := h
    have ne : t ≠ [] := fun z => h0 (by rw [z]; rfl)
    have zz : t.head? ≠ some 48 ∨ t = [48] := by
      rcases hh with z | z
      · exact .inl z
      · match t, z with
        | [c], _ =>
          by_cases e : c = 48
          · exact .inr (by rw [e])
          · exact .inl (fun y => e (Option.some.inj y))
    have e := num_canon _ t rfl hd ne zz
    unfold numB
    rw [← e, readNum_num hm2]
    exact decide_eq_true ⟨hl, hm2⟩
  · rw [decide_eq_false h]
    unfold numB
    cases hr : readNum t m with
    | none => rfl
    | some n =>
      obtain ⟨e, hn⟩ := readNum_some hr
      by_cases hl : l ≤ n ∧ n ≤ m
      · refine absurd ?_ h
        rw [e, numL_val]
        refine ⟨fun z => numL_ne n (List.eq_nil_of_length_eq_zero z), num_five (by omega), numL_digits n, hl, ?_⟩
        rcases Nat.eq_zero_or_pos n with z | z
        · refine .inr ?_
          rw [z, num_zero]
          rfl
        · obtain ⟨c, r, e1, ne⟩ := num_head z
          refine .inl ?_
          rw [e1]
          intro y
          exact ne (Option.some.inj y)
      · exact decide_eq_false hl
theorem readNum_one {c m : Nat} (hm : m ≤ 9) : readNum [c] m = if 48 ≤ c ∧ c ≤ 48 + m then some (c - 48) else none := by
  by_cases h : 48 ≤ c ∧ c ≤ 48 + m
  · rw [if_pos h]
    have e : numL (c - 48) = [c] := by
      rw [numL_lt (by omega), show 48 + (c - 48) = c by omega]
    rw [← e, readNum_num (by omega)]
  · rw [if_neg h]
    cases hr : readNum [c] m with
    | none => rfl
    | some n =>
      obtain ⟨e, hn⟩ := readNum_some hr
      rw [numL_lt (by omega)] at e
      have := (List.cons.inj e).1
      omega
theorem readNum_many {l : List Nat} {m : Nat} (hm : m ≤ 9) (h : l.length ≠ 1) : readNum l m = none := by
  cases hr : readNum l m with
  | none => rfl
  | some n =>
    obtain ⟨e, hn⟩ := readNum_some hr
    rw [numL_lt (by omega)] at e
    rw [e] at h
    exact absurd rfl h
def ascN (b : List Nat) : Bool := (List.range (b.length - 1)).all fun k => decide (b.getD k 0 < b.getD (k + 1) 0)
def digB (m : Nat) (c : Nat) : Bool := decide (48 ≤ c ∧ c ≤ m)
theorem rd5_all (b : List Nat) : ((rd5 b).all fun m => withinB m 0 5) = b.all (digB 53) := by
  unfold rd5
  rw [List.all_map]
  refine List.all_congr rfl ?_ 
  intro c
  show withinB (readNum [c] 5) 0 5 = _
  rw [readNum_one (by decide)]
  unfold digB
  by_cases h : 48 ≤ c ∧ c ≤ 48 + 5
  · rw [if_pos h, decide_eq_true (show 48 ≤ c ∧ c ≤ 53 from h)]
    exact decide_eq_true ⟨Nat.zero_le _, by omega⟩
  · rw [if_neg h, decide_eq_false (show ¬ (48 ≤ c ∧ c ≤ 53) from h)]
    rfl
theorem rd5_asc {b : List Nat} (h : b.all (digB 53) = true) : ascB (rd5 b) = ascN b := by
  unfold ascB ascN
  have lb : (rd5 b).length = b.length := List.length_map _
  rw [lb, Bool.eq_iff_iff, List.all_eq_true, List.all_eq_true]
  have e : ∀ j, j < b.length → ((rd5 b).getD j none).getD 0 = b.getD j 0 - 48 ∧ 48 ≤ b.getD j 0 := fun j hj => by
    have hc := of_decide_eq_true (List.all_eq_true.mp h _ (List.getElem_mem hj))
    unfold rd5
    rw [List.getD_eq_getElem?_getD, List.getElem?_map, List.getElem?_eq_getElem hj, List.getD_eq_getElem?_getD, List.getElem?_eq_getElem hj]
    show (readNum [b[j]] 5).getD 0 = b[j] - 48 ∧ 48 ≤ b[j]
    rw [readNum_one (by decide), if_pos (show 48 ≤ b[j] ∧ b[j] ≤ 48 + 5 from hc)]
    exact ⟨rfl, hc.1⟩
  refine forall_congr' fun k => ?_
  refine imp_congr_right fun hk => ?_
  have hk := List.mem_range.mp hk
  obtain ⟨e1, e2⟩ := e k (by omega)
  obtain ⟨e3, e4⟩ := e (k + 1) (by omega)
  rw [e1, e3, decide_eq_true_eq, decide_eq_true_eq]
  omega
/-- the law's own test of a label's text -/
def lawLab : List Nat → Bool
  | [] => false
  | [c] => digB 55 c
  | c :: d :: ms => digB 55 c && (decide (d = 58) && (!ms.isEmpty && (ms.all (digB 53) && ascN ms)))
theorem labOf_isSome (a : Option Nat) (ms : List (Option Nat)) : (labOf a ms).isSome = labB a ms := by
  unfold labOf
  cases h : labB a ms with
  | true => rfl
  | false => rfl
theorem seven {l : List Nat} {c : Nat} (e : l = [c]) : withinB (readNum l 7) 0 7 = digB 55 c := by
  rw [e, readNum_one (by decide)]
  unfold digB
  by_cases h : 48 ≤ c ∧ c ≤ 48 + 7
  · rw [if_pos h, decide_eq_true (show 48 ≤ c ∧ c ≤ 55 from h)]
    exact decide_eq_true ⟨Nat.zero_le _, by omega⟩
  · rw [if_neg h, decide_eq_false (show ¬ (48 ≤ c ∧ c ≤ 55) from h)]
    rfl
theorem lawLab_eq (t : List Nat) : lawLab t = (readLab t).isSome := by
  unfold readLab
  rcases brk_cases t with ⟨h1, e⟩ | ⟨a, b, e1, h1, e⟩
  · rw [e]
    show _ = (labOf (readNum t 7) []).isSome
    rw [labOf_isSome]
    match t, h1 with
    | [], _ => rfl
    | [c], _ =>
      unfold labB
      rw [seven rfl]
      show digB 55 c = (digB 55 c && (true && true))
      rw [Bool.and_true, Bool.and_true]
    | c :: d :: ms, h1 =>
      have hd : d ≠ 58 := fun z => h1 (by rw [z]; simp)
      rw [readNum_many (by decide) (by simp)]
      show (digB 55 c && (decide (d = 58) && _)) = _
      rw [decide_eq_false hd, Bool.false_and, Bool.and_false]
      rfl
  · rw [e, e1]
    show _ = (if b = [] then none else labOf (readNum a 7) (rd5 b)).isSome
    match a, h1 with
    | [], _ =>
      rw [readNum_many (by decide) (by simp)]
      have : (if b = [] then none else labOf none (rd5 b)).isSome = false := by
        split <;> rfl
      rw [this]
      cases b with
      | nil => rfl
      | cons d ms => rfl
    | [c], _ =>
      show (digB 55 c && (true && (!b.isEmpty && (b.all (digB 53) && ascN b)))) = _
      cases b with
      | nil =>
        rw [if_pos rfl]
        cases digB 55 c <;> rfl
      | cons x r =>
        rw [if_neg (by simp), labOf_isSome]
        unfold labB
        rw [seven rfl, rd5_all]
        cases hb : (x :: r).all (digB 53) with
        | true => rw [rd5_asc hb]; rfl
        | false => rfl
    | c :: d :: r, h1 =>
      have hd : d ≠ 58 := fun z => h1 (by rw [z]; simp)
      rw [readNum_many (by decide) (by simp)]
      have : (if b = [] then none else labOf none (rd5 b)).isSome = false := by
        split <;> rfl
      rw [this]
      show (digB 55 c && (decide (d = 58) && _)) = _
      rw [decide_eq_false hd, Bool.false_and, Bool.and_false]
def lawPath (t : List Nat) : Bool := okPath (cutAt 47 t)
theorem lawPath_eq (t : List Nat) : lawPath t = (readPath t).isSome := by
  unfold lawPath readPath
  cases h : okPath (cutAt 47 t) with
  | true => rfl
  | false => rfl
/-- the law's own test of an id's parts -/
def lawId : List (List Nat) → Bool
  | [a, b, c] => okWord b && (lawLab a && numB c 1 99999)
  | _ => false
theorem lawId_eq (P : List (List Nat)) : lawId P = (readNmP P).isSome := by
  match P with
  | [] => rfl
  | [_] => rfl
  | [_, _] => rfl
  | _ :: _ :: _ :: _ :: _ => rfl
  | [a, b, c] =>
    show (okWord b && (lawLab a && numB c 1 99999)) = (nmOf (readLab a) b (readNum c 99999)).isSome
    rw [lawLab_eq]
    have e : (nmOf (readLab a) b (readNum c 99999)).isSome = idB (readLab a) b (readNum c 99999) := by
      unfold nmOf
      cases h : idB (readLab a) b (readNum c 99999) with
      | true => rfl
      | false => rfl
    rw [e]
    unfold idB numB
    cases hl : readLab a with
    | none => cases okWord b <;> rfl
    | some l =>
      show _ = (okLab l && _)
      rw [lab_ok.mpr (readLab_back hl).1]
      cases okWord b <;> rfl
/-- the law's own test of a vertex' parts -/
def lawVx : List (List Nat) → Bool
  | [a, b, c, d, e] => lawId [a, b, c] && (numB d 0 11 && numB e 0 199)
  | _ => false
theorem lawVx_eq (P : List (List Nat)) : lawVx P = (readVxP P).isSome := by
  match P with
  | [] => rfl
  | [_] => rfl
  | [_, _] => rfl
  | [_, _, _] => rfl
  | [_, _, _, _] => rfl
  | _ :: _ :: _ :: _ :: _ :: _ :: _ => rfl
  | [a, b, c, d, e] =>
    show (lawId [a, b, c] && (numB d 0 11 && numB e 0 199)) = (vxOf (readNmP [a, b, c]) (readNum d 11) (readNum e 199)).isSome
    rw [lawId_eq]
    have e1 : (vxOf (readNmP [a, b, c]) (readNum d 11) (readNum e 199)).isSome = vxB (readNmP [a, b, c]) (readNum d 11) (readNum e 199) := by
      unfold vxOf
      cases h : vxB (readNmP [a, b, c]) (readNum d 11) (readNum e 199) with
      | true => rfl
      | false => rfl
    rw [e1]
    unfold vxB numB
    cases hn : readNmP [a, b, c] with
    | none => rfl
    | some n =>
      show _ = (okNm n && _)
      rw [nm_ok.mpr (readNmP_back hn).1]
      rfl
end K20
namespace K20
open PySem PySem.Spec PyProof.Rows L2 TL TR QR
open GxR (TabB TabG Tabbed)
abbrev sGN : Stmt := topS 32
abbrev nGN : List Str := ["text", "least", "most", "char", "value"]
theorem scGN : FnScope nGN ["text", "least", "most"] (defScope sGN) := ⟨rfl, rfl, rfl, by decide +kernel, rfl, by decide +kernel, by decide +kernel⟩
abbrev sGL : Stmt := topS 33
abbrev nGL : List Str := ["text", "marks", "k", "char"]
theorem scGL : FnScope nGL ["text"] (defScope sGL) := ⟨rfl, rfl, rfl, by decide +kernel, rfl, by decide +kernel, by decide +kernel⟩
theorem lc_flt {x : Str} (p : Nat → Bool) {g : L2.TG} {tt : TT} {te : TE} {vs : List Nat} {σ : L2.St} {H : Hp} {D : Addr} {Qd : Hp → Prop} (nD : H D = none) (hx : x.length ≤ 100000)
    (hs : ∀ c H' (Z : V → Hp → Prop) (N : Hp → Prop), (p c = true → Z (.str ⟨#[c]⟩) H') → (p c = false → N H') → g (.str ⟨#[c]⟩) (wipe σ vs) H' fun σ2 H2 => wipe σ2 vs = wipe σ vs ∧ tt σ2 H2 fun b H3 => if b = true then te σ2 H3 Z else N H3)
    (hd : ∀ H', Same H H' → H' D = some (.lst (((tl x).filter p).map fun c => V.str ⟨#[c]⟩)) → Qd H') :
    ∃ W : Nat → Nat → Hp → Prop, (∃ m, W 0 m (upd H D (.lst []))) ∧ ∀ i m H, W i m H →
      ((Its x).stop i H ∧ Qd H) ∨ ((Its x).go i H ∧ ∃ Nx : Hp → Prop, (∀ H', Nx H' → ∃ m', m' < m ∧ W (i + 1) m' H') ∧ ∀ v H', (Its x).yld i H v H' → g v (wipe σ vs) H' fun σ2 H2 => wipe σ2 vs = wipe σ vs ∧ tt σ2 H2 fun b H3 =>
        if b = true then te σ2 H3 fun y H4 => ∃ acc, H4 D = some (.lst acc) ∧ acc.length < sizeLine ∧ Nx (upd H4 D (.lst (acc ++ [y]))) else Nx H3) := by
  have zl := zl
  have lx := len_tl x
  refine lc_it (walk_str (z := x)) (fun i H' => Same H H' ∧ H' D = some (.lst ((((tl x).take i).filter p).map fun c => V.str ⟨#[c]⟩))) ⟨same_new nD, upd_same⟩ (fun _ _ _ _ => trivial) ?_ ?_
  · rintro i v H3 H4 hi ⟨s3, eD⟩ ⟨rfl, c, hc, rfl⟩
    have hc' : (tl x)[i]? = some c := by rw [Array.getElem?_toList]; exact hc
    have li := (List.getElem?_eq_some_iff.mp hc').1
    have et : (tl x).take (i + 1) = (tl x).take i ++ [c] := by rw [List.take_add_one, hc']; rfl
    refine hs c _ _ _ (fun h => ⟨_, eD, ?_, same_upd nD s3, ?_⟩) (fun h => ⟨s3, ?_⟩)
    · have := List.length_filter_le p ((tl x).take i)
      rw [List.length_map]
      rw [List.length_take] at this
      omega
    · rw [upd_same, et, List.filter_append, List.map_append, List.filter_cons, if_pos h]
      rfl
    · rw [eD, et, List.filter_append, List.filter_cons, if_neg (by rw [h]; decide), List.filter_nil, List.append_nil]
  · rintro H3 ⟨s3, eD⟩
    rw [List.take_of_length_le (by exact Nat.le_refl _)] at eD
    exact hd H3 s3 eD
theorem flt_len {l : List Nat} {p : Nat → Bool} {f : Nat → V} : decide ((0 : Int) < ((((l.filter p).map f).length : Nat) : Int)) = !(l.all fun c => !p c) := by
  rw [List.length_map]
  cases h : l.all fun c => !p c with
  | true =>
    have : l.filter p = [] := List.filter_eq_nil_iff.mpr fun c hc => by
      have := List.all_eq_true.mp h c hc
      simpa using this
    rw [this]
    rfl
  | false =>
    obtain ⟨c, hc, hp⟩ := List.all_eq_false.mp h
    have : c ∈ l.filter p := List.mem_filter.mpr ⟨hc, by simpa using hp⟩
    have := List.length_pos_of_mem this
    exact decide_eq_true (by omega)
theorem ni_if {c : Nat} {z : Str} {A B : Prop} (h1 : decide (c ∉ tl z) = true → A) (h0 : decide (c ∉ tl z) = false → B) : if (!(!(Builtin.Str.occurrences z ⟨#[c]⟩ 0 z.length 1).isEmpty)) = true then A else B := by
  rw [StrLaws.found_one, ← decide_not]
  exact ite2 h1 (fun h => h0 (Bool.eq_false_iff.mpr h))
theorem chr_is {c k : Nat} {z : Str} (hz : tl z = [k]) : V.str ⟨#[c]⟩ = V.str z ↔ c = k := by
  constructor
  · intro e
    have e2 : (⟨#[c]⟩ : Str) = z := V.str.inj e
    have e3 : [c] = tl z := congrArg tl e2
    rw [hz] at e3
    exact (List.cons.inj e3).1
  · intro e
    exact congrArg V.str (ext_tl (show [c] = tl z by rw [hz, e]))
section
variable {P : Program} {w : World} {K : PySem.W.Frag} {mg : Str → Option Value} {base : Heap}
def spGN : Sp := fun vs H Q _ => ∃ (x : Str) (l m : Nat), vs = [.str x, .int (l : Int), .int (m : Int)] ∧ x.length ≤ 100000 ∧ m ≤ 99999 ∧ ∀ H', Same H H' → Q (.bl (numB (tl x) l m)) H'
theorem dig_all (t : List Nat) : (t.all fun c => !decide (c ∉ tl digitsS)) = decide (NumText.AllDigits t) := by
  rw [Bool.eq_iff_iff, List.all_eq_true, decide_eq_true_eq]
  refine forall_congr' fun c => imp_congr_right fun _ => ?_
  rw [Bool.not_eq_true', decide_eq_false_iff_not, Classical.not_not]
  exact digit_mem c
theorem dig_index {c : Nat} (h : 48 ≤ c ∧ c ≤ 57) : ∃ r, Builtin.Str.occurrences digitsS ⟨#[c]⟩ 0 digitsS.length 1 = (c - 48) :: r := by
  have : ∀ k, k < 10 → Builtin.Str.occurrences digitsS ⟨#[48 + k]⟩ 0 digitsS.length 1 = [k] := by decide +kernel
  refine ⟨[], ?_⟩
  have e := this (c - 48) (by omega)
  rw [show 48 + (c - 48) = c by omega] at e
  exact e
theorem ok_GN {f : Addr} {fd : FuncData} (F : Fun K "_law_is_number" "_law_is_number" sGN f fd) (m_len : mg "len" = none) : FnOk P w K mg base CX0 1 f fd ["text", "least", "most"] spGN := by
  refine F.ok scGN (fun vs H Q E h => ?_) (fun cdv A outer s H vs Q E hr h => ?_)
  · obtain ⟨x, l, m, rfl, _⟩ := h
    rfl
  · obtain ⟨x, l, m, rfl, hx, hm, q⟩ := h
    have hu := hr.units
    have hu1 := hu_of hr
    have zl := zl
    refine ⟨_, (pss_cons (ps_if (PW.pt (pw_or (pt_cmpR op_eq (pe_callB call_len_str (by rfl) m_len PySem.boot_len (pa_cons (pv 0) pa_nil)) (pe_int) (nomark _)) (pw_or (pt_cmpR op_gt (pe_callB call_len_str (by rfl) m_len PySem.boot_len (pa_cons (pv 0) pa_nil)) (pe_int) (nomark _)) (pw_or1 (pt_cmpR op_gt (pe_callB call_len_seq (by rfl) m_len PySem.boot_len (pa_cons (pe_lc (own := [("char", 3)]) (g := gName 3) (tt := tTest (tOp (fun x y H Q => ∃ i j, x = .str i ∧ y = .str j ∧ Q (.bl (!(!(Builtin.Str.occurrences j i 0 j.length 1).isEmpty))) H) (tVar 3) (tC (.str "0123456789")))) (te := tVar 3) rfl scGN.nd (pi_str (pv 0)) (blkOk_by (N := nGN) (sc := defScope sGN) (by decide +kernel)) (fun _ _ _ _ _ => by exact pg_name (i := 3) scGN.nd rfl (.inl rfl)) (fun _ _ _ _ _ => by exact pts_one (pt_cmpR op_notIn_str (pv 3) (pe_str) (by rfl))) (fun _ _ _ _ _ => by exact pv 3)) pa_nil)) (pe_int) (nomark _))))))
      (pss_one (ps_ret (pe_bl))) pss_nil)
      (pss_cons (ps_set (i := 4) scGN.nd rfl (.inl rfl) (pe_int))
      (pss_cons (ps_for PassesOwn.never rfl (pi_str (pv 0)) (pg_name (i := 3) scGN.nd rfl (.inl rfl))
      (pss_one (ps_set (i := 4) scGN.nd rfl (.inl rfl) (pe_op op_add (pe_op op_mul (pv 4) (pe_int)) (pe_m1 PySem.F.slot_str_index PySem.F.type_str_index mt_sindex (pe_str) (pv 3))))))
      (pss_one (ps_ret (pe_and (pe_chain op_le op_le (pv 1) (pv 4) (pv 2)) (pe_one (pe_or (pe_cmpR op_ne (pe_ix ix_str (pv 0) (pe_int) (fun _ _ => rfl)) (pe_str) (nomark _)) (pe_one (pe_cmpR op_eq (pe_callB call_len_str (by rfl) m_len PySem.boot_len (pa_cons (pv 0) pa_nil)) (pe_int) (nomark _))))))))))), ?_⟩
    have zl := zl
    have lx := len_tl x
    have hnum := numB_eq (t := tl x) (l := l) hm
    rw [hnum] at q
    have no : ∀ H', Same H H' → ¬ ((tl x).length ≠ 0 ∧ (tl x).length ≤ 5 ∧ NumText.AllDigits (tl x)) → Q (.bl false) H' := fun H' s1 z => by
      have := q H' s1
      rw [decide_eq_false (fun y => z ⟨y.1, y.2.1, y.2.2.1⟩)] at this
      exact this
    dsimp only [tNext, tSeq, tIfS, tAsg, gName, tC]
    refine or_dec (p := (tl x).length = 0) (q := 5 < (tl x).length ∨ ¬ NumText.AllDigits (tl x)) (fun R k => ⟨_, rfl, x, rfl, by omega, rfl, _, rfl, to_dec ?_ (k _ same_refl)⟩)
      (fun _ H1 s1 R k => or_dec (p := 5 < (tl x).length) (q := ¬ NumText.AllDigits (tl x)) (fun R k => ⟨_, rfl, x, rfl, by omega, _, _, rfl, rfl, _, rfl, to_dec ?_ (k _ same_refl)⟩)
        (fun _ H2 s2 R k => ⟨_, rfl, x, rfl, fun D nD => lc_flt (fun c => decide (c ∉ tl digitsS)) nD hx (fun c H' Z N hy hn => ⟨rfl, _, rfl, _, _, rfl, rfl, _, rfl, ni_if (fun h => ⟨_, rfl, hy h⟩) hn⟩)
          fun H3 s3 eD => ⟨D, _, rfl, .inl (SqL.of eD), _, _, rfl, rfl, _, rfl, to_dec ?_ (k _ s3)⟩⟩) k) fun H1 s1 => ite2 (fun h => ?_) (fun h => ?_)
    · exact (dec_nat (i := x.length) (j := 0)).trans (decide_eq_decide.mpr (by omega))
    · exact decide_eq_decide.mpr (by omega)
    · rw [flt_len, dig_all, ← decide_not]
    · have h := of_decide_eq_true h
      exact no H1 s1 (by
        rintro ⟨a, b, c⟩
        rcases h with h | h | h
        · exact a h
        · omega
        · exact h c)
    · have h : ¬ ((tl x).length = 0 ∨ 5 < (tl x).length ∨ ¬ NumText.AllDigits (tl x)) := fun z => h (decide_eq_true z)
      have h0 : (tl x).length ≠ 0 := fun z => h (.inl z)
      have h5 : (tl x).length ≤ 5 := Decidable.byContradiction fun z => h (.inr (.inl (by omega)))
      have hd : NumText.AllDigits (tl x) := Decidable.byContradiction fun z => h (.inr (.inr z))
      refine ⟨_, rfl, x, rfl, for_it (walk_str (z := x)) (fun i σ H' => ∃ y : Option V, σ = [some (.str x), some (.int (l : Int)), some (.int (m : Int)), y, some (.int ((NumText.digitsVal ((tl x).take i) : Nat) : Int))] ∧ H' = H1 ∧ NumText.digitsVal ((tl x).take i) < 10 ^ i) ⟨_, rfl, rfl, (by show NumText.digitsVal [] < 1; decide)⟩ (fun _ _ _ _ _ => trivial) ?_ ?_⟩
      · rintro i v σ H2 H3 hi ⟨y, rfl, rfl, lt⟩ ⟨rfl, c, hc, rfl⟩
        have hc' : (tl x)[i]? = some c := by rw [Array.getElem?_toList]; exact hc
        have hcd := hd c (List.mem_of_getElem? hc')
        have li := (List.getElem?_eq_some_iff.mp hc').1
        obtain ⟨r, er⟩ := dig_index hcd
        have et : (tl x).take (i + 1) = (tl x).take i ++ [c] := by rw [List.take_add_one, hc']; rfl
        have p5 : 10 ^ i ≤ 10 ^ 5 := Nat.pow_le_pow_right (by decide) (by omega)
        have ps : 10 ^ (i + 1) = 10 ^ i * 10 := Nat.pow_succ _ _
        refine ⟨_, rfl, _, _, rfl, rfl, .inr ⟨by decide, by decide⟩, ⟨_, rfl⟩, _, rfl, _, _, _, r, rfl, rfl, er, _, _, rfl, rfl, some (.str ⟨#[c]⟩), ?_, rfl, ?_⟩
        · rw [et, val_snoc]
          have e : (((NumText.digitsVal ((tl x).take i) * 10 + (c - 48) : Nat)) : Int) = ((NumText.digitsVal ((tl x).take i) : Nat) : Int) * 10 + ((c - 48 : Nat) : Int) := by omega
          rw [e]
          rfl
        · rw [et, val_snoc]
          omega
      · rintro σ H2 ⟨y, rfl, rfl, lt⟩
        rw [List.take_of_length_le (by exact Nat.le_refl _)] at lt ⊢
        have fin : ∀ b : Bool, b = decide ((l ≤ NumText.digitsVal (tl x) ∧ NumText.digitsVal (tl x) ≤ m) ∧ ((tl x).head? ≠ some 48 ∨ (tl x).length = 1)) → Q (.bl b) H2 := fun b e => by
          have := q H2 s1
          rw [show decide ((tl x).length ≠ 0 ∧ (tl x).length ≤ 5 ∧ NumText.AllDigits (tl x) ∧ (l ≤ NumText.digitsVal (tl x) ∧ NumText.digitsVal (tl x) ≤ m) ∧ ((tl x).head? ≠ some 48 ∨ (tl x).length = 1)) = b from by
            rw [e]
            exact decide_eq_decide.mpr ⟨fun z => z.2.2.2, fun z => ⟨h0, h5, hd, z⟩⟩] at this
          exact this
        obtain ⟨c, hc⟩ : ∃ c, (tl x)[0]? = some c := ⟨_, List.getElem?_eq_getElem (by omega)⟩
        have hh : (tl x).head? = some c := by rw [List.head?_eq_getElem?, hc]
        refine ⟨_, rfl, _, rfl, _, _, rfl, rfl, _, rfl, ite2 (fun h1 => ⟨_, rfl, _, _, rfl, rfl, _, rfl, ite2 (fun h2 => ?_) (fun h2 => ?_)⟩) (fun h1 => ⟨_, rfl, ite2 (fun z => absurd z (by decide)) (fun _ => ?_)⟩)⟩
        · have h1 := of_decide_eq_true h1
          have h2 := of_decide_eq_true h2
          refine ⟨_, rfl, x, 0, c, rfl, rfl, by omega, atI_nat (j := 0) hc, rfl, _, rfl, ite2 (fun h3 => ?_) (fun h3 => ?_)⟩
          · have h4 : c ≠ 48 := fun z => by
              rw [decide_eq_true ((chr_is (z := Str.ofString "0") (by decide +kernel)).mpr z)] at h3
              cases h3
            exact fin true (decide_eq_true ⟨⟨by omega, by omega⟩, .inl (by rw [hh]; exact fun z => h4 (Option.some.inj z))⟩).symm
          · have h4 : c = 48 := Decidable.byContradiction fun z => h3 (by
              rw [decide_eq_false (fun y => z ((chr_is (z := Str.ofString "0") (by decide +kernel)).mp y))]
              rfl)
            refine ⟨_, rfl, x, rfl, by omega, rfl, fin _ ?_⟩
            refine (dec_nat (i := x.length) (j := 1)).trans (decide_eq_decide.mpr ⟨fun z => ⟨⟨by omega, by omega⟩, .inr (by omega)⟩, fun z => ?_⟩)
            rcases z.2 with y | y
            · rw [hh, h4] at y
              exact absurd rfl y
            · omega
        · refine fin _ (decide_eq_false fun z => h2 (decide_eq_true ?_)).symm
          have := z.1.2
          omega
        · refine fin _ (decide_eq_false fun z => h1 (decide_eq_true ?_)).symm
          have := z.1.1
          omega
end
end K20
namespace K20
open PySem PySem.Spec PyProof.Rows L2 TL TR QR
open GxR (TabB TabG Tabbed)
theorem cutS_from (z : Str) (k : Nat) : cutS z (some (k : Int)) none = Sg ((tl z).drop k) := by
  unfold cutS
  have lz := len_tl z
  have e1 : HT.sIx z.length 0 (some (k : Int)) = min k z.length := by
    unfold HT.sIx
    simp
    omega
  have e2 : HT.sIx z.length z.length none = z.length := by
    unfold HT.sIx
    simp
  rw [e1, e2]
  refine ext_tl ?_
  show ((tl z).drop (min k z.length)).take (z.length - min k z.length) = (tl z).drop k
  rw [List.take_of_length_le (by rw [List.length_drop]; omega)]
  by_cases h : k ≤ z.length
  · rw [Nat.min_eq_left h]
  · rw [Nat.min_eq_right (by omega), List.drop_of_length_le (by omega), List.drop_of_length_le (by omega)]
theorem cutS_to (z : Str) (k : Nat) : cutS z none (some (k : Int)) = Sg ((tl z).take k) := by
  unfold cutS
  have lz := len_tl z
  have e1 : HT.sIx z.length 0 none = 0 := by
    unfold HT.sIx
    simp
  have e2 : HT.sIx z.length z.length (some (k : Int)) = min k z.length := by
    unfold HT.sIx
    simp
    omega
  rw [e1, e2]
  refine ext_tl ?_
  show ((tl z).drop 0).take (min k z.length - 0) = (tl z).take k
  rw [List.drop_zero, Nat.sub_zero]
  by_cases h : k ≤ z.length
  · rw [Nat.min_eq_left h]
  · rw [Nat.min_eq_right (by omega), List.take_of_length_le (by omega), List.take_of_length_le (by omega)]
theorem dig7 (c : Nat) : decide (c ∉ tl (Str.ofString "01234567")) = decide (digB 55 c = false) := by
  refine decide_eq_decide.mpr ?_
  have e : tl (Str.ofString "01234567") = [48, 49, 50, 51, 52, 53, 54, 55] := by decide +kernel
  rw [e]
  unfold digB
  simp only [List.mem_cons, List.not_mem_nil, or_false, decide_eq_false_iff_not]
  omega
theorem dig5 (c : Nat) : (!decide (c ∉ tl (Str.ofString "012345"))) = digB 53 c := by
  have e : tl (Str.ofString "012345") = [48, 49, 50, 51, 52, 53] := by decide +kernel
  unfold digB
  rw [e, ← decide_not]
  refine decide_eq_decide.mpr ?_
  simp only [List.mem_cons, List.not_mem_nil, or_false]
  omega
theorem ni_val {c : Nat} {z : Str} : (!(!(Builtin.Str.occurrences z ⟨#[c]⟩ 0 z.length 1).isEmpty)) = decide (c ∉ tl z) := by
  rw [StrLaws.found_one, ← decide_not]
theorem lt_one (a b : Nat) : decide ((#[a] : Array Nat).toList < (#[b] : Array Nat).toList) = decide (a < b) := by
  refine decide_eq_decide.mpr ?_
  show [a] < [b] ↔ a < b
  constructor
  · intro h
    cases h with
    | rel h => exact h
    | cons h => cases h
  · intro h
    exact .rel h
section
variable {P : Program} {w : World} {K : PySem.W.Frag} {mg : Str → Option Value} {base : Heap}
def spGL : Sp := fun vs H Q _ => ∃ (x : Str), vs = [.str x] ∧ x.length ≤ 100000 ∧ ∀ H', Same H H' → Q (.bl (lawLab (tl x))) H'
theorem ok_GL {f : Addr} {fd : FuncData} (F : Fun K "_law_is_label" "_law_is_label" sGL f fd) (m_len : mg "len" = none) (m_range : mg "range" = none) : FnOk P w K mg base CX0 1 f fd ["text"] spGL := by
  refine F.ok scGL (fun vs H Q E h => ?_) (fun cdv A outer s H vs Q E hr h => ?_)
  · obtain ⟨x, rfl, _⟩ := h
    rfl
  · obtain ⟨x, rfl, hx, q⟩ := h
    have hu := hr.units
    have hu1 := hu_of hr
    have zl := zl
    refine ⟨_, (pss_cons (ps_if (PW.pt (pw_or (pt_cmpR op_eq (pe_callB call_len_str (by rfl) m_len PySem.boot_len (pa_cons (pv 0) pa_nil)) (pe_int) (nomark _)) (pw_or1 (pt_cmpR op_notIn_str (pe_ix ix_str (pv 0) (pe_int) (fun _ _ => rfl)) (pe_str) (by rfl)))))
      (pss_one (ps_ret (pe_bl))) pss_nil)
      (pss_cons (ps_if (pt_cmpR op_eq (pe_callB call_len_str (by rfl) m_len PySem.boot_len (pa_cons (pv 0) pa_nil)) (pe_int) (nomark _))
      (pss_one (ps_ret (pe_bl))) pss_nil)
      (pss_cons (ps_set (i := 1) scGL.nd rfl (.inr rfl) (pe_slice sl_str (pv 0) (po_some (pe_int)) (po_none)))
      (pss_cons (ps_if (PW.pt (pw_or (pt_cmpR op_ne (pe_ix ix_str (pv 0) (pe_int) (fun _ _ => rfl)) (pe_str) (nomark _)) (pw_or (pt_cmpR op_eq (pe_callB call_len_str (by rfl) m_len PySem.boot_len (pa_cons (pv 1) pa_nil)) (pe_int) (nomark _)) (pw_or1 (pt_cmpR op_gt (pe_callB call_len_seq (by rfl) m_len PySem.boot_len (pa_cons (pe_lc (own := [("char", 3)]) (g := gName 3) (tt := tTest (tOp (fun x y H Q => ∃ i j, x = .str i ∧ y = .str j ∧ Q (.bl (!(!(Builtin.Str.occurrences j i 0 j.length 1).isEmpty))) H) (tVar 3) (tC (.str "012345")))) (te := tVar 3) rfl scGL.nd (pi_str (pv 1)) (blkOk_by (N := nGL) (sc := defScope sGL) (by decide +kernel)) (fun _ _ _ _ _ => by exact pg_name (i := 3) scGL.nd rfl (.inl rfl)) (fun _ _ _ _ _ => by exact pts_one (pt_cmpR op_notIn_str (pv 3) (pe_str) (by rfl))) (fun _ _ _ _ _ => by exact pv 3)) pa_nil)) (pe_int) (nomark _))))))
      (pss_one (ps_ret (pe_bl))) pss_nil)
      (pss_one (ps_ret (pe_cmpR op_eq (pe_callB call_len_seq (by rfl) m_len PySem.boot_len (pa_cons (pe_lc (own := [("k", 2)]) (g := gName 2) (tt := tTest (tOp (fun x y H Q => ∃ i j, x = .str i ∧ y = .str j ∧ Q (.bl (!decide (i.cps.toList < j.cps.toList))) H) (tOp (rIxS) (tVar 1) (tOp (rI0 fun i j => .int (i - j)) (tVar 2) (tC (.int 1)))) (tOp (rIxS) (tVar 1) (tVar 2)))) (te := tVar 2) rfl scGL.nd (pi_range2 (by rfl) m_range (pa_cons (pe_int) (pa_cons (pe_callB call_len_str (by rfl) m_len PySem.boot_len (pa_cons (pv 1) pa_nil)) pa_nil))) (blkOk_by (N := nGL) (sc := defScope sGL) (by decide +kernel)) (fun _ _ _ _ _ => by exact pg_name (i := 2) scGL.nd rfl (.inl rfl)) (fun _ _ _ _ _ => by exact pts_one (pt_cmpR op_ge_str (pe_ix ix_str (pv 1) (pe_op op_sub (pv 2) (pe_int)) (fun _ _ => rfl)) (pe_ix ix_str (pv 1) (pv 2) (fun _ _ => rfl)) (nomark _))) (fun _ _ _ _ _ => by exact pv 2)) pa_nil)) (pe_int) (nomark _)))))))), ?_⟩
    have zl := zl
    have lx := len_tl x
    dsimp only [tNext, tSeq, tIfS, tAsg, gName, tC]
    cases ht : tl x with
    | nil =>
      rw [ht] at q lx
      have l0 : x.length = 0 := lx
      exact or_dec (p := True) (q := False) (fun R k => ⟨_, rfl, x, rfl, by omega, rfl, _, rfl, to_dec (by rw [l0]; rfl) (k _ same_refl)⟩) (fun z => absurd trivial z) fun H2 s2 => ite2 (fun _ => q H2 s2) (fun h => absurd (decide_eq_true (.inl trivial)) h)
    | cons c r =>
      rw [ht] at q lx
      have ll : x.length = r.length + 1 := lx
      refine or_dec (p := False) (q := digB 55 c = false) (fun R k => ⟨_, rfl, x, rfl, by omega, rfl, _, rfl, to_dec ((dec_nat (i := x.length) (j := 0)).trans (decide_eq_decide.mpr ⟨fun z => by omega, False.elim⟩)) (k _ same_refl)⟩)
        (fun _ H1 s1 R k => ⟨_, rfl, x, 0, c, rfl, rfl, by omega, atI_nat (j := 0) (by show (tl x)[0]? = _; rw [ht]; rfl), _, _, rfl, rfl, _, rfl, to_dec (ni_val.trans (dig7 c)) (k _ same_refl)⟩) fun H1 s1 => ite2 (fun h => ?_) (fun h => ?_)
      · have h := of_decide_eq_true h
        have h : digB 55 c = false := h.resolve_left id
        have := q H1 s1
        have e : lawLab (c :: r) = false := by
          cases r with
          | nil => exact h
          | cons d ms =>
            show (digB 55 c && _) = false
            rw [h, Bool.false_and]
        rw [e] at this
        exact this
      · have h : digB 55 c = true := by
          cases hb : digB 55 c with
          | true => rfl
          | false => exact absurd (decide_eq_true (.inr hb)) h
        refine ⟨_, rfl, x, rfl, by omega, rfl, _, rfl, ite2 (fun h1 => ?_) (fun h1 => ?_)⟩
        · have h1 : x.length = 1 := of_decide_eq_true ((dec_nat (i := x.length) (j := 1)).symm.trans h1)
          have er : r = [] := List.eq_nil_of_length_eq_zero (by omega)
          have := q H1 s1
          rw [er] at this
          have e : lawLab [c] = true := h
          rw [e] at this
          exact this
        have h1 : x.length ≠ 1 := fun z => h1 ((dec_nat (i := x.length) (j := 1)).trans (decide_eq_true z))
        cases r with
        | nil => exact absurd ll h1
        | cons d ms =>
          have em : cutS x (some 2) none = Sg ms := by
            have := cutS_from x 2
            rw [ht] at this
            exact this
          have law : lawLab (c :: d :: ms) = (decide (d = 58) && (!ms.isEmpty && (ms.all (digB 53) && ascN ms))) := by
            show (digB 55 c && _) = _
            rw [h, Bool.true_and]
          rw [law] at q
          have lms : ms.length ≤ 100000 := by
            rw [List.length_cons] at ll
            omega
          refine ⟨_, rfl, 2, rfl, x, rfl, by omega, ?_⟩
          rw [em]
          have lS : (Sg ms).length = ms.length := rfl
          refine or_dec (p := d ≠ 58) (q := ms.length = 0 ∨ ms.all (digB 53) = false) (fun R k => ⟨_, rfl, x, 1, d, rfl, rfl, by omega, atI_nat (j := 1) (by show (tl x)[1]? = _; rw [ht]; rfl), rfl, _, rfl, to_dec ?_ (k _ same_refl)⟩)
            (fun _ H2 s2 R k => or_dec (p := ms.length = 0) (q := ms.all (digB 53) = false) (fun R k => ⟨_, rfl, Sg ms, rfl, by omega, rfl, _, rfl, to_dec ?_ (k _ same_refl)⟩)
              (fun _ H3 s3 R k => ⟨_, rfl, Sg ms, rfl, fun D nD => lc_flt (fun c => decide (c ∉ tl (Str.ofString "012345"))) nD lms (fun c H' Z N hy hn => ⟨rfl, _, rfl, _, _, rfl, rfl, _, rfl, ni_if (fun h => ⟨_, rfl, hy h⟩) hn⟩)
                fun H4 s4 eD => ⟨D, _, rfl, .inl (SqL.of eD), _, _, rfl, rfl, _, rfl, to_dec ?_ (k _ s4)⟩⟩) k) fun H2 s2 => ite2 (fun h2 => ?_) (fun h2 => ?_)
          · rw [← decide_not]
            exact decide_eq_decide.mpr (not_congr (chr_is (by decide +kernel)))
          · exact dec_nat (i := ms.length) (j := 0)
          · rw [flt_len]
            have : (ms.all fun c => !decide (c ∉ tl (Str.ofString "012345"))) = ms.all (digB 53) := List.all_congr rfl dig5
            show (!(ms.all fun c => !decide (c ∉ tl (Str.ofString "012345")))) = _
            rw [this]
            cases ms.all (digB 53) <;> rfl
          · have h2 := of_decide_eq_true h2
            have := q H2 (same_trans s1 s2)
            have e : (decide (d = 58) && (!ms.isEmpty && (ms.all (digB 53) && ascN ms))) = false := by
              rcases h2 with z | z | z
              · rw [decide_eq_false z, Bool.false_and]
              · rw [List.eq_nil_of_length_eq_zero z]
                simp
              · rw [z]
                simp
            rw [e] at this
            exact this
          have hd : d = 58 := Decidable.byContradiction fun z => h2 (decide_eq_true (.inl z))
          have h0 : ms.length ≠ 0 := fun z => h2 (decide_eq_true (.inr (.inl z)))
          have ha : ms.all (digB 53) = true := by
            cases hb : ms.all (digB 53) with
            | true => rfl
            | false => exact absurd (decide_eq_true (.inr (.inr hb))) h2
          have e : (decide (d = 58) && (!ms.isEmpty && (ms.all (digB 53) && ascN ms))) = ascN ms := by
            rw [decide_eq_true hd, ha]
            cases ms with
            | nil => exact absurd rfl h0
            | cons _ _ => rfl
          rw [e] at q
          have s02 := same_trans s1 s2
          refine ⟨_, rfl, Sg ms, rfl, by omega, 1, (ms.length : Int), rfl, ⟨by decide, by decide, by omega, by omega⟩, fun D nD => ?_⟩
          refine lc_range (lo := 1) (n := ((ms.length : Int) - 1).toNat) (fun k H' => Same H2 H' ∧ ∃ acc : List V, H' D = some (.lst acc) ∧ acc.length ≤ k ∧ (acc = [] ↔ ∀ j, j < k → ms.getD j 0 < ms.getD (j + 1) 0)) ⟨same_new nD, [], upd_same, Nat.le_refl _, ⟨fun _ j hj => absurd hj (Nat.not_lt_zero j), fun _ => rfl⟩⟩ ?_ ?_
          · rintro k H3 hk ⟨s3, acc, eD, la, ea⟩
            have g1 : ms[k]? = some (ms.getD k 0) := by
              rw [List.getD_eq_getElem?_getD, List.getElem?_eq_getElem (by omega)]
              rfl
            have g2 : ms[k + 1]? = some (ms.getD (k + 1) 0) := by
              rw [List.getD_eq_getElem?_getD, List.getElem?_eq_getElem (by omega)]
              rfl
            have i1 : atI ms ((1 : Int) + (k : Int) - 1) = some (ms.getD k 0) := by
              rw [show (1 : Int) + (k : Int) - 1 = (k : Int) by omega]
              exact atI_nat g1
            have i2 : atI ms ((1 : Int) + (k : Int)) = some (ms.getD (k + 1) 0) := by
              rw [show (1 : Int) + (k : Int) = (k : Int) + 1 by omega]
              exact atI_s g2
            refine ⟨rfl, _, rfl, _, rfl, _, _, rfl, rfl, Sg ms, _, _, rfl, rfl, by omega, i1, _, rfl, _, rfl, Sg ms, _, _, rfl, rfl, by omega, i2, _, _, rfl, rfl, _, rfl, ?_⟩
            rw [lt_one]
            refine ite2 (fun h => ⟨_, rfl, _, eD, by omega, same_upd nD s3, _, upd_same, by rw [List.length_append]; show acc.length + 1 ≤ _; omega, ?_⟩) (fun h => ⟨s3, acc, eD, by omega, ?_⟩)
            · have h : ¬ ms.getD k 0 < ms.getD (k + 1) 0 := fun z => by
                rw [decide_eq_true z] at h
                cases h
              exact ⟨fun z => absurd (List.append_eq_nil_iff.mp z).2 (by simp), fun z => absurd (z k (Nat.lt_succ_self k)) h⟩
            · have h : ms.getD k 0 < ms.getD (k + 1) 0 := Decidable.byContradiction fun z => h (by
                rw [decide_eq_false z]
                rfl)
              rw [ea]
              refine ⟨fun z j hj => ?_, fun z j hj => z j (by omega)⟩
              by_cases e : j = k
              · rw [e]
                exact h
              · exact z j (by omega)
          · rintro H3 ⟨s3, acc, eD, la, ea⟩
            refine ⟨D, _, rfl, .inl (SqL.of eD), rfl, ?_⟩
            have := q H3 (same_trans s02 s3)
            have e : decide (V.int ((acc.length : Nat) : Int) = V.int 0) = ascN ms := by
              refine (dec_nat (i := acc.length) (j := 0)).trans ?_
              unfold ascN
              rw [Bool.eq_iff_iff, decide_eq_true_eq, List.length_eq_zero_iff, ea, List.all_eq_true]
              constructor
              · intro z k hk
                have := List.mem_range.mp hk
                exact decide_eq_true (z k (by omega))
              · intro z k hk
                exact of_decide_eq_true (z k (List.mem_range.mpr (by omega)))
            rw [e]
            exact this
end
end K20
namespace K20
open PySem PySem.Spec PyProof.Rows L2 TL TR QR
open GxR (TabB TabG Tabbed)
abbrev sGP : Stmt := topS 34
abbrev nGP : List Str := ["text", "parts", "letters", "wrong", "part", "char"]
theorem scGP : FnScope nGP ["text"] (defScope sGP) := ⟨rfl, rfl, rfl, by decide +kernel, rfl, by decide +kernel, by decide +kernel⟩
def lcScope : Stmt → Scope
  | .Assign _ (.ListComp _ _ sc _) _ => sc
  | _ => defScope sGP
theorem let_all (l : List Nat) : (l.all fun c => !decide (c ∉ tl (Str.ofString "abcdefghijklmnopqrstuvwxyz0123456789"))) = l.all fun c => decide (c ∈ tl letS) := by
  refine List.all_congr rfl fun c => ?_
  rw [← decide_not, show tl (Str.ofString "abcdefghijklmnopqrstuvwxyz0123456789") = tl letS by decide +kernel]
  exact decide_eq_decide.mpr Classical.not_not
theorem word_of {l : List Nat} {z : Str} : wordB (Sg l) z 8 = decide (¬ (l.length = 0 ∨ 8 < l.length ∨ (l.all fun c => decide (c ∈ tl z)) = false)) := by
  unfold wordB
  have e : (Sg l).length = l.length := rfl
  rw [e]
  show (_ && (_ && l.all fun c => decide (c ∈ tl z))) = _
  cases h : l.all fun c => decide (c ∈ tl z) with
  | true =>
    rw [Bool.and_true, Bool.eq_iff_iff, Bool.and_eq_true, decide_eq_true_eq, decide_eq_true_eq, decide_eq_true_eq]
    constructor
    · rintro ⟨a, b⟩ (z | z | z)
      · omega
      · omega
      · cases z
    · intro z
      exact ⟨Decidable.byContradiction fun y => z (.inl (by omega)), Decidable.byContradiction fun y => z (.inr (.inl (by omega)))⟩
  | false =>
    rw [Bool.and_false, Bool.and_false, decide_eq_false (fun z => z (.inr (.inr rfl)))]
section
variable {P : Program} {w : World} {K : PySem.W.Frag} {mg : Str → Option Value} {base : Heap}
def spGP : Sp := fun vs H Q _ => ∃ (x : Str), vs = [.str x] ∧ x.length ≤ 90000 ∧ ∀ H', Same H H' → Q (.bl (lawPath (tl x))) H'
theorem ok_GP {f : Addr} {fd : FuncData} (F : Fun K "_law_is_path" "_law_is_path" sGP f fd) (m_len : mg "len" = none) : FnOk P w K mg base CX0 1 f fd ["text"] spGP := by
  refine F.ok scGP (fun vs H Q E h => ?_) (fun cdv A outer s H vs Q E hr h => ?_)
  · obtain ⟨x, rfl, _⟩ := h
    rfl
  · obtain ⟨x, rfl, hx, q⟩ := h
    have hu := hr.units
    have hu1 := hu_of hr
    have zl := zl
    refine ⟨_, (pss_cons (ps_set (i := 1) scGP.nd rfl (.inl rfl) (pe_split (pv 0) (pe_str)))
      (pss_cons (ps_set (i := 2) scGP.nd rfl (.inr rfl) (pe_str))
      (pss_cons (ps_setLc (i := 3) (own := [("part", 4)]) (g := gName 4) (tt := tOr (tTest (tOp rEq (tCB (fun xs H Q => ∃ z, xs = [.str z] ∧ z.length ≤ sizeLine ∧ Q (.int z.length) H) (tCons (tVar 4) tNil)) (tC (.int 0)))) (tOr (tTest (tOp (rI0 fun i j => .bl (decide (j < i))) (tCB (fun xs H Q => ∃ z, xs = [.str z] ∧ z.length ≤ sizeLine ∧ Q (.int z.length) H) (tCons (tVar 4) tNil)) (tC (.int 8)))) (tTest (tOp (rI0 fun i j => .bl (decide (j < i))) (tCB (fun xs H Q => ∃ p ys, xs = [.ref p] ∧ (SqL K H p ys ∨ SqT K H p ys) ∧ Q (.int ys.length) H) (tCons (tLc (iStr (tVar 4)) (gName 5) (tTest (tOp (fun x y H Q => ∃ i j, x = .str i ∧ y = .str j ∧ Q (.bl (!(!(Builtin.Str.occurrences j i 0 j.length 1).isEmpty))) H) (tVar 5) (tVar 2))) (tVar 5) [5]) tNil)) (tC (.int 0)))))) (te := tVar 4) rfl scGP.nd rfl rfl (sw_true rfl rfl rfl (by decide +kernel)) (pi_list (pv 1)) (blkOk_by (N := nGP) (sc := defScope sGP) (by decide +kernel)) (fun _ _ _ _ _ => by exact pg_name (i := 4) scGP.nd rfl (.inl rfl)) (fun _ _ _ _ _ => by exact pts_one (PW.pt (pw_or (pt_cmpR op_eq (pe_callB call_len_str (by rfl) m_len PySem.boot_len (pa_cons (pv 4) pa_nil)) (pe_int) (nomark _)) (pw_or (pt_cmpR op_gt (pe_callB call_len_str (by rfl) m_len PySem.boot_len (pa_cons (pv 4) pa_nil)) (pe_int) (nomark _)) (pw_or1 (pt_cmpR op_gt (pe_callB call_len_seq (by rfl) m_len PySem.boot_len (pa_cons (pe_lc (own := [("char", 5)]) (g := gName 5) (tt := tTest (tOp (fun x y H Q => ∃ i j, x = .str i ∧ y = .str j ∧ Q (.bl (!(!(Builtin.Str.occurrences j i 0 j.length 1).isEmpty))) H) (tVar 5) (tVar 2))) (te := tVar 5) rfl scGP.nd (pi_str (pv 4)) (blkOk_by (N := nGP) (sc := relS (lcScope ((defBody sGP).getD 2 (.Pass ⟨0, 0, 0, 0⟩))) (defScope sGP)) (by decide +kernel)) (fun _ _ _ _ _ => by exact pg_name (i := 5) scGP.nd rfl (.inl rfl)) (fun _ _ _ _ _ => by exact pts_one (pt_cmpR op_notIn_str (pv 5) (pv 2) (by rfl))) (fun _ _ _ _ _ => by exact pv 5)) pa_nil)) (pe_int) (nomark _))))))) (fun _ _ _ _ _ => by exact pv 4))
      (pss_one (ps_ret (pe_and (pe_cmpR op_le (pe_callB call_len_seq (by rfl) m_len PySem.boot_len (pa_cons (pv 1) pa_nil)) (pe_int) (nomark _)) (pe_one (pe_cmpR op_eq (pe_callB call_len_seq (by rfl) m_len PySem.boot_len (pa_cons (pv 3) pa_nil)) (pe_int) (nomark _))))))))), ?_⟩
    have zl := zl
    have lx := len_tl x
    dsimp only [tNext, tSeq, tIfS, tAsg, gName, tC]
    obtain ⟨l1, l2⟩ := cut_len 47 (tl x)
    have hne := cut_ne 47 (tl x)
    unfold lawPath okPath at q
    refine ⟨_, rfl, ⟨_, rfl⟩, x, _, rfl, rfl, by decide +kernel, by omega, fun p np => ?_⟩
    rw [slash_str, split_words]
    have s1 : Same H (upd H p (.lst (strV (cutAt 47 (tl x))))) := same_new np
    have ep : (upd H p (.lst (strV (cutAt 47 (tl x))))) p = some (.lst (strV (cutAt 47 (tl x)))) := upd_same
    generalize upd H p (.lst (strV (cutAt 47 (tl x)))) = H1 at s1 ep
    generalize cutAt 47 (tl x) = ws at q l1 l2 ep hne
    have lws : (strV ws).length = ws.length := List.length_map _
    have w0 : 1 ≤ ws.length := List.length_pos_iff.mpr hne
    refine ⟨_, rfl, p, rfl, ⟨_, SqL.of ep⟩, fun D nD => ?_⟩
    refine lc_list (xs := strV ws) (fun i H' => Same H1 H' ∧ ∃ acc : List V, H' D = some (.lst acc) ∧ acc.length ≤ i ∧ (acc = [] ↔ ∀ l ∈ ws.take i, wordB (Sg l) letS 8 = true)) ⟨same_new nD, [], upd_same, Nat.le_refl _, ⟨(fun _ l hl => nomatch hl), (fun _ => rfl)⟩⟩ ?_ ?_ ?_
    · rintro i H' _ ⟨s3, _⟩
      exact SqL.of (s3 _ _ ep)
    · rintro i y H3 hy ⟨s3, acc, eD, la, ea⟩
      obtain ⟨l, gl, rfl⟩ := map_get hy
      have li := (List.getElem?_eq_some_iff.mp gl).1
      have ll := l2 l (List.mem_of_getElem? gl)
      have lS : (Sg l).length = l.length := rfl
      have et : ws.take (i + 1) = ws.take i ++ [l] := by rw [List.take_add_one, gl]; rfl
      refine ⟨rfl, or_dec (p := l.length = 0) (q := 8 < l.length ∨ (l.all fun c => decide (c ∈ tl letS)) = false) (fun R k => ⟨_, rfl, Sg l, rfl, by omega, rfl, _, rfl, to_dec ?_ (k _ same_refl)⟩)
        (fun _ H4 s4 R k => or_dec (p := 8 < l.length) (q := (l.all fun c => decide (c ∈ tl letS)) = false) (fun R k => ⟨_, rfl, Sg l, rfl, by omega, _, _, rfl, rfl, _, rfl, to_dec ?_ (k _ same_refl)⟩)
          (fun _ H5 s5 R k => ⟨_, rfl, Sg l, rfl, fun D2 nD2 => lc_flt (fun c => decide (c ∉ tl (Str.ofString "abcdefghijklmnopqrstuvwxyz0123456789"))) nD2 (by omega) (fun c H' Z N hy hn => ⟨rfl, _, rfl, _, rfl, _, _, rfl, rfl, _, rfl, ni_if (fun h => ⟨_, rfl, hy h⟩) hn⟩)
            fun H6 s6 eD2 => ⟨D2, _, rfl, .inl (SqL.of eD2), _, _, rfl, rfl, _, rfl, to_dec ?_ (k _ s6)⟩⟩) k) fun H4 s4 => ite2 (fun h => ?_) (fun h => ?_)⟩
      · exact dec_nat (i := l.length) (j := 0)
      · exact decide_eq_decide.mpr (by omega)
      · rw [flt_len]
        have e : (l.all fun c => !decide (c ∉ tl (Str.ofString "abcdefghijklmnopqrstuvwxyz0123456789"))) = l.all fun c => decide (c ∈ tl letS) := let_all l
        show (!(l.all fun c => !decide (c ∉ tl (Str.ofString "abcdefghijklmnopqrstuvwxyz0123456789")))) = _
        rw [e]
        cases l.all fun c => decide (c ∈ tl letS) <;> rfl
      · have h := of_decide_eq_true h
        refine ⟨_, rfl, _, s4 _ _ eD, by omega, same_upd nD (same_trans s3 s4), _, upd_same, by rw [List.length_append]; show acc.length + 1 ≤ _; omega, ⟨fun z => absurd (List.append_eq_nil_iff.mp z).2 (by simp), fun z => ?_⟩⟩
        have := z l (by rw [et]; simp)
        rw [word_of] at this
        exact absurd h (of_decide_eq_true this)
      · have h : ¬ (l.length = 0 ∨ 8 < l.length ∨ (l.all fun c => decide (c ∈ tl letS)) = false) := fun z => h (decide_eq_true z)
        refine ⟨same_trans s3 s4, acc, s4 _ _ eD, by omega, ?_⟩
        rw [ea, et]
        refine ⟨fun z m hm => ?_, fun z m hm => z m (List.mem_append_left _ hm)⟩
        rcases List.mem_append.mp hm with y | y
        · exact z m y
        · rw [List.mem_singleton.mp y, word_of]
          exact decide_eq_true h
    · rintro H3 ⟨s3, acc, eD, la, ea⟩
      rw [lws, List.take_length] at ea
      have s03 := same_trans s1 s3
      have fin : ∀ b : Bool, b = (decide (ws.length ≤ 4) && decide (acc = [])) → Q (.bl b) H3 := fun b e => by
        have := q H3 s03
        rw [show (decide (1 ≤ ws.length ∧ ws.length ≤ 4) && ws.all fun l => wordB (Sg l) letS 8) = b by
          rw [e]
          congr 1
          · exact decide_eq_decide.mpr (by omega)
          · rw [Bool.eq_iff_iff, List.all_eq_true, decide_eq_true_eq, ea]] at this
        exact this
      refine ⟨_, rfl, p, _, rfl, .inl (SqL.of (s3 _ _ ep)), _, _, rfl, rfl, _, rfl, ite2 (fun h => ⟨_, rfl, D, _, rfl, .inl (SqL.of eD), rfl, fin _ ?_⟩) (fun h => fin _ ?_)⟩
      · have h := of_decide_eq_true h
        rw [decide_eq_true (show ws.length ≤ 4 by omega), Bool.true_and]
        refine (dec_nat (i := acc.length) (j := 0)).trans (decide_eq_decide.mpr List.length_eq_zero_iff)
      · have h : ¬ ws.length ≤ 4 := fun z => h (decide_eq_true (by omega))
        rw [decide_eq_false h, Bool.false_and]
end
end K20
namespace K20
open PySem PySem.Spec PyProof.Rows L2 TL TR QR
open GxR (TabB TabG Tabbed)
abbrev sGI : Stmt := topS 35
abbrev nGI : List Str := ["parts", "letters", "char"]
theorem scGI : FnScope nGI ["parts"] (defScope sGI) := ⟨rfl, rfl, rfl, by decide +kernel, rfl, by decide +kernel, by decide +kernel⟩
abbrev sGV : Stmt := topS 36
abbrev nGV : List Str := ["parts"]
theorem scGV : FnScope nGV ["parts"] (defScope sGV) := ⟨rfl, rfl, rfl, by decide +kernel, rfl, by decide +kernel, by decide +kernel⟩
theorem cutV_to (xs : List V) (k : Nat) : cutV xs none (some (k : Int)) = xs.take k := by
  unfold cutV
  have e1 : HT.sIx xs.length 0 none = 0 := by
    unfold HT.sIx
    simp
  have e2 : HT.sIx xs.length xs.length (some (k : Int)) = min k xs.length := by
    unfold HT.sIx
    simp
    omega
  rw [e1, e2, List.drop_zero, Nat.sub_zero]
  by_cases h : k ≤ xs.length
  · rw [Nat.min_eq_left h]
  · rw [Nat.min_eq_right (by omega), List.take_of_length_le (Nat.le_refl _), List.take_of_length_le (by omega)]
theorem lett_all (l : List Nat) : (l.all fun c => !decide (c ∉ tl (Str.ofString "abcdefghijklmnopqrstuvwxyz"))) = l.all fun c => decide (c ∈ tl (Str.ofString "abcdefghijklmnopqrstuvwxyz")) := by
  refine List.all_congr rfl fun c => ?_
  rw [← decide_not]
  exact decide_eq_decide.mpr Classical.not_not
section
variable {P : Program} {w : World} {K : PySem.W.Frag} {mg : Str → Option Value} {base : Heap}
def spGI : Sp := fun vs H Q _ => ∃ (p : Addr) (ws : Path), vs = [.ref p] ∧ H p = some (.lst (strV ws)) ∧ (∀ l ∈ ws, l.length ≤ 100000) ∧ ∀ H', Same H H' → Q (.bl (lawId ws)) H'
theorem ok_GI {f fGL fGN : Addr} {fd fdGL fdGN : FuncData} (F : Fun K "_law_is_id" "_law_is_id" sGI f fd)
    (GGL : FnOk P w K mg base CX0 1 fGL fdGL ["text"] spGL) (bGL : Binds K fdGL ["text"] []) (gGL : mg "_law_is_label" = some (.ref fGL)) (kGL : PySem.W.keepIn K (.ref fGL) = true)
    (GGN : FnOk P w K mg base CX0 1 fGN fdGN ["text", "least", "most"] spGN) (bGN : Binds K fdGN ["text", "least", "most"] []) (gGN : mg "_law_is_number" = some (.ref fGN)) (kGN : PySem.W.keepIn K (.ref fGN) = true)
    (m_len : mg "len" = none) : FnOk P w K mg base CX0 2 f fd ["parts"] spGI := by
  refine F.ok scGI (fun vs H Q E h => ?_) (fun cdv A outer s H vs Q E hr h => ?_)
  · obtain ⟨p, ws, rfl, _⟩ := h
    rfl
  · obtain ⟨p, ws, rfl, ep, hl, q⟩ := h
    have hu := hr.units
    have hu1 := hu_of hr
    have hr1 : Room 1 _ := hr.mono (by decide)
    have zl := zl
    refine ⟨_, (pss_cons (ps_set (i := 1) scGI.nd rfl (.inr rfl) (pe_str))
      (pss_cons (ps_if (PW.pt (pw_or (pt_cmpR op_ne (pe_callB call_len_seq (by rfl) m_len PySem.boot_len (pa_cons (pv 0) pa_nil)) (pe_int) (nomark _)) (pw_or (pt_not (pt_chain op_le op_le (pe_int) (pe_callB call_len_str (by rfl) m_len PySem.boot_len (pa_cons (pe_ix ix_list (pv 0) (pe_int) (fun _ _ => rfl)) pa_nil)) (pe_int))) (pw_or1 (pt_cmpR op_gt (pe_callB call_len_seq (by rfl) m_len PySem.boot_len (pa_cons (pe_lc (own := [("char", 2)]) (g := gName 2) (tt := tTest (tOp (fun x y H Q => ∃ i j, x = .str i ∧ y = .str j ∧ Q (.bl (!(!(Builtin.Str.occurrences j i 0 j.length 1).isEmpty))) H) (tVar 2) (tVar 1))) (te := tVar 2) rfl scGI.nd (pi_str (pe_ix ix_list (pv 0) (pe_int) (fun _ _ => rfl))) (blkOk_by (N := nGI) (sc := defScope sGI) (by decide +kernel)) (fun _ _ _ _ _ => by exact pg_name (i := 2) scGI.nd rfl (.inl rfl)) (fun _ _ _ _ _ => by exact pts_one (pt_cmpR op_notIn_str (pv 2) (pv 1) (by rfl))) (fun _ _ _ _ _ => by exact pv 2)) pa_nil)) (pe_int) (nomark _))))))
      (pss_one (ps_ret (pe_bl))) pss_nil)
      (pss_one (ps_ret (pe_and (pe_call GGL hr1 (by rfl) gGL kGL bGL .nil pass0 (pa_cons (pe_ix ix_list (pv 0) (pe_int) (fun _ _ => rfl)) pa_nil)) (pe_one (pe_call GGN hr1 (by rfl) gGN kGN bGN .nil pass0 (pa_cons (pe_ix ix_list (pv 0) (pe_int) (fun _ _ => rfl)) (pa_cons (pe_int) (pa_cons (pe_int) pa_nil)))))))))), ?_⟩
    have zl := zl
    dsimp only [tNext, tSeq, tIfS, tAsg, gName, tC]
    have lws : (strV ws).length = ws.length := List.length_map _
    by_cases h3 : ws.length = 3
    · obtain ⟨a, b, c, rfl⟩ : ∃ a b c, ws = [a, b, c] := by
        match ws, h3 with
        | [a, b, c], _ => exact ⟨a, b, c, rfl⟩
      have la := hl a (by simp)
      have lb := hl b (by simp)
      have lc := hl c (by simp)
      have lS : ∀ l : List Nat, (Sg l).length = l.length := fun l => rfl
      have hw : okWord b = decide (¬ (b.length = 0 ∨ 8 < b.length ∨ (b.all fun c => decide (c ∈ tl (Str.ofString "abcdefghijklmnopqrstuvwxyz"))) = false)) := word_of
      have law : lawId [a, b, c] = (okWord b && (lawLab a && numB c 1 99999)) := rfl
      rw [law] at q
      refine or_dec (p := False) (q := (b.length = 0 ∨ 8 < b.length) ∨ (b.all fun c => decide (c ∈ tl (Str.ofString "abcdefghijklmnopqrstuvwxyz"))) = false) (fun R k => ⟨_, rfl, p, _, rfl, .inl (SqL.of ep), rfl, _, rfl, to_dec (by rfl) (k _ same_refl)⟩)
        (fun _ H1 s1 R k => or_dec (p := b.length = 0 ∨ 8 < b.length) (q := (b.all fun c => decide (c ∈ tl (Str.ofString "abcdefghijklmnopqrstuvwxyz"))) = false)
          (fun R k => ⟨_, rfl, p, _, _, _, rfl, rfl, SqL.of (s1 _ _ ep), atI_nat (j := 1) rfl, Sg b, rfl, by rw [lS]; omega, _, _, rfl, rfl, _, rfl, ite2 (fun h1 => ⟨_, _, rfl, rfl, _, rfl, ?_⟩) (fun h1 => ⟨_, rfl, ?_⟩)⟩)
          (fun _ H2 s2 R k => ⟨_, rfl, p, _, _, _, rfl, rfl, SqL.of (s2 _ _ (s1 _ _ ep)), atI_nat (j := 1) rfl, Sg b, rfl, fun D nD => lc_flt (fun c => decide (c ∉ tl (Str.ofString "abcdefghijklmnopqrstuvwxyz"))) nD lb (fun c H' Z N hy hn => ⟨rfl, _, rfl, _, rfl, _, _, rfl, rfl, _, rfl, ni_if (fun h => ⟨_, rfl, hy h⟩) hn⟩)
            fun H4 s4 eD => ⟨D, _, rfl, .inl (SqL.of eD), _, _, rfl, rfl, _, rfl, to_dec ?_ (k _ s4)⟩⟩) k) fun H1 s1 => ite2 (fun h => ?_) (fun h => ?_)
      · have h1 := of_decide_eq_true h1
        refine to_dec ?_ (k _ same_refl)
        rw [← decide_not]
        exact decide_eq_decide.mpr (by have := lS b; omega)
      · have h1 : ¬ (1 : Int) ≤ ((Sg b).length : Int) := fun z => h1 (decide_eq_true z)
        refine to_dec ?_ (k _ same_refl)
        exact (decide_eq_true (by have := lS b; omega)).symm
      · rw [flt_len]
        show (!(b.all fun c => !decide (c ∉ tl (Str.ofString "abcdefghijklmnopqrstuvwxyz")))) = _
        rw [lett_all]
        cases b.all fun c => decide (c ∈ tl (Str.ofString "abcdefghijklmnopqrstuvwxyz")) <;> rfl
      · have h := of_decide_eq_true h
        have := q H1 s1
        rw [hw, decide_eq_false (fun z => z (by
          rcases h with h | (h | h) | h
          · exact absurd h id
          · exact .inl h
          · exact .inr (.inl h)
          · exact .inr (.inr h))), Bool.false_and] at this
        exact this
      · have hq : ¬ (b.length = 0 ∨ 8 < b.length ∨ (b.all fun c => decide (c ∈ tl (Str.ofString "abcdefghijklmnopqrstuvwxyz"))) = false) := fun z => h (decide_eq_true (by
          rcases z with z | z | z
          · exact .inr (.inl (.inl z))
          · exact .inr (.inl (.inr z))
          · exact .inr (.inr z)))
        rw [hw, decide_eq_true hq] at q
        refine ⟨_, rfl, p, _, _, _, rfl, rfl, SqL.of (s1 _ _ ep), atI_nat (j := 0) rfl, Sg a, rfl, by rw [lS]; omega, fun H2 s2 => ⟨_, rfl, ite2 (fun h2 => ?_) (fun h2 => ?_)⟩⟩
        · have h2 : lawLab a = true := h2
          refine ⟨_, rfl, p, _, _, _, rfl, rfl, SqL.of (s2 _ _ (s1 _ _ ep)), atI_nat (j := 2) rfl, Sg c, 1, 99999, rfl, by rw [lS]; omega, by decide, fun H3 s3 => ?_⟩
          have := q H3 (same_trans (same_trans s1 s2) s3)
          rw [h2, Bool.true_and, Bool.true_and] at this
          exact this
        · have h2 : lawLab a = false := Bool.eq_false_iff.mpr h2
          have := q H2 (same_trans s1 s2)
          rw [h2, Bool.false_and, Bool.and_false] at this
          exact this
    · have no : lawId ws = false := by
        unfold lawId
        split
        · exact absurd rfl h3
        · rfl
      rw [no] at q
      refine or_dec (p := True) (q := False) (fun R k => ⟨_, rfl, p, _, rfl, .inl (SqL.of ep), rfl, _, rfl, to_dec ?_ (k _ same_refl)⟩) (fun z => absurd trivial z) fun H2 s2 => ite2 (fun _ => q H2 s2) (fun h => absurd (decide_eq_true (.inl trivial)) h)
      have l : (strV ws).length = ws.length := List.length_map _
      rw [l]
      have := dec_nat (i := ws.length) (j := 3)
      rw [show decide (V.int ((ws.length : Nat) : Int) = V.int 3) = decide (ws.length = 3) from this, decide_eq_false h3]
      rfl
def spGV : Sp := fun vs H Q _ => ∃ (p : Addr) (ws : Path), vs = [.ref p] ∧ H p = some (.lst (strV ws)) ∧ (∀ l ∈ ws, l.length ≤ 100000) ∧ ∀ H', Same H H' → Q (.bl (lawVx ws)) H'
theorem ok_GV {f fGI fGN : Addr} {fd fdGI fdGN : FuncData} (F : Fun K "_law_is_vertex" "_law_is_vertex" sGV f fd)
    (GGI : FnOk P w K mg base CX0 2 fGI fdGI ["parts"] spGI) (bGI : Binds K fdGI ["parts"] []) (gGI : mg "_law_is_id" = some (.ref fGI)) (kGI : PySem.W.keepIn K (.ref fGI) = true)
    (GGN : FnOk P w K mg base CX0 1 fGN fdGN ["text", "least", "most"] spGN) (bGN : Binds K fdGN ["text", "least", "most"] []) (gGN : mg "_law_is_number" = some (.ref fGN)) (kGN : PySem.W.keepIn K (.ref fGN) = true)
    (m_len : mg "len" = none) : FnOk P w K mg base CX0 3 f fd ["parts"] spGV := by
  refine F.ok scGV (fun vs H Q E h => ?_) (fun cdv A outer s H vs Q E hr h => ?_)
  · obtain ⟨p, ws, rfl, _⟩ := h
    rfl
  · obtain ⟨p, ws, rfl, ep, hl, q⟩ := h
    have hu := hr.units
    have hu1 := hu_of hr
    have hr1 : Room 1 _ := hr.mono (by decide)
    have hr2 : Room 2 _ := hr.mono (by decide)
    have zl := zl
    refine ⟨_, (pss_one (ps_ret (pe_and (pe_cmpR op_eq (pe_callB call_len_seq (by rfl) m_len PySem.boot_len (pa_cons (pv 0) pa_nil)) (pe_int) (nomark _)) (pe_and (pe_call GGI hr2 (by rfl) gGI kGI bGI .nil pass0 (pa_cons (pe_slice sl_list (pv 0) (po_none) (po_some (pe_int))) pa_nil)) (pe_and (pe_call GGN hr1 (by rfl) gGN kGN bGN .nil pass0 (pa_cons (pe_ix ix_list (pv 0) (pe_int) (fun _ _ => rfl)) (pa_cons (pe_int) (pa_cons (pe_int) pa_nil)))) (pe_one (pe_call GGN hr1 (by rfl) gGN kGN bGN .nil pass0 (pa_cons (pe_ix ix_list (pv 0) (pe_int) (fun _ _ => rfl)) (pa_cons (pe_int) (pa_cons (pe_int) pa_nil)))))))))), ?_⟩
    have zl := zl
    have lws : (strV ws).length = ws.length := List.length_map _
    have lS : ∀ l : List Nat, (Sg l).length = l.length := fun l => rfl
    have d5 : decide (V.int (((strV ws).length : Nat) : Int) = V.int 5) = decide (ws.length = 5) := by
      rw [lws]
      exact dec_nat (i := ws.length) (j := 5)
    by_cases h5 : ws.length = 5
    · obtain ⟨a, b, c, d, e, rfl⟩ : ∃ a b c d e, ws = [a, b, c, d, e] := by
        match ws, h5 with
        | [a, b, c, d, e], _ => exact ⟨a, b, c, d, e, rfl⟩
      have ld := hl d (by simp)
      have le := hl e (by simp)
      have law : lawVx [a, b, c, d, e] = (lawId [a, b, c] && (numB d 0 11 && numB e 0 199)) := rfl
      rw [law] at q
      refine ⟨_, rfl, p, _, rfl, .inl (SqL.of ep), rfl, _, rfl, ite2 (fun _ => ?_) (fun h => absurd rfl h)⟩
      refine ⟨_, rfl, 3, rfl, p, _, rfl, SqL.of ep, fun p2 np2 => ?_⟩
      have ec : cutV (strV [a, b, c, d, e]) none (some 3) = strV [a, b, c] := cutV_to _ 3
      rw [ec]
      have s1 : Same H (upd H p2 (.lst (strV [a, b, c]))) := same_new np2
      have ep2 : (upd H p2 (.lst (strV [a, b, c]))) p2 = some (.lst (strV [a, b, c])) := upd_same
      generalize upd H p2 (.lst (strV [a, b, c])) = H1 at s1 ep2
      refine ⟨p2, [a, b, c], rfl, ep2, fun l hl' => hl l (by simp only [List.mem_cons, List.not_mem_nil, or_false] at hl' ⊢; rcases hl' with z | z | z <;> simp [z]), fun H2 s2 => ⟨_, rfl, ite2 (fun h1 => ?_) (fun h1 => ?_)⟩⟩
      · have h1 : lawId [a, b, c] = true := h1
        have s02 := same_trans s1 s2
        refine ⟨_, rfl, p, _, _, _, rfl, rfl, SqL.of (s02 _ _ ep), atI_nat (j := 3) rfl, Sg d, 0, 11, rfl, by rw [lS]; omega, by decide, fun H3 s3 => ⟨_, rfl, ite2 (fun h2 => ?_) (fun h2 => ?_)⟩⟩
        · have h2 : numB d 0 11 = true := h2
          have s03 := same_trans s02 s3
          refine ⟨_, rfl, p, _, _, _, rfl, rfl, SqL.of (s03 _ _ ep), atI_nat (j := 4) rfl, Sg e, 0, 199, rfl, by rw [lS]; omega, by decide, fun H4 s4 => ?_⟩
          have := q H4 (same_trans s03 s4)
          rw [h1, h2, Bool.true_and, Bool.true_and] at this
          exact this
        · have h2 : numB d 0 11 = false := Bool.eq_false_iff.mpr h2
          have := q H3 (same_trans s02 s3)
          rw [h2, Bool.false_and, Bool.and_false] at this
          exact this
      · have h1 : lawId [a, b, c] = false := Bool.eq_false_iff.mpr h1
        have := q H2 (same_trans s1 s2)
        rw [h1, Bool.false_and] at this
        exact this
    · have no : lawVx ws = false := by
        unfold lawVx
        split
        · exact absurd rfl h5
        · rfl
      rw [no] at q
      refine ⟨_, rfl, p, _, rfl, .inl (SqL.of ep), rfl, ?_⟩
      rw [d5, decide_eq_false h5]
      exact ⟨_, rfl, ite2 (fun z => absurd z (by decide)) (fun _ => q H same_refl)⟩
end
end K20
namespace K20
open PySem PySem.Spec PyProof.Rows L2 TL TR QR
open GxR (TabB TabG Tabbed)
abbrev sTU : Stmt := topS 37
abbrev nTU : List Str := ["state", "text", "k", "at", "sign"]
theorem scTU : FnScope nTU ["state", "text"] (defScope sTU) := ⟨rfl, rfl, rfl, by decide +kernel, rfl, by decide +kernel, by decide +kernel⟩
def shortV (n : Nat) : V → Bool
  | .str s => decide (s.length ≤ n)
  | _ => false
theorem short_v {n : Nat} {v : V} (h : shortV n v = true) : ∃ s, v = .str s ∧ s.length ≤ n := by
  cases v <;> first | exact ⟨_, rfl, of_decide_eq_true h⟩ | cases h
abbrev signsV : List V := [.str (Str.ofString "0"), .str (Str.ofString "1"), .str (Str.ofString "5"), .str (Str.ofString "6"), .str (Str.ofString "9"), .str (Str.ofString "a"), .str (Str.ofString "z"), .str (Str.ofString "A"), .str (Str.ofString ":"), .str (Str.ofString "."), .str (Str.ofString "/"), .str (Str.ofString "-"), .str (Str.ofString " "), .str (Str.ofString "_")]
theorem signs_short : ∀ v ∈ signsV, shortV 1 v = true := by
  intro v hv
  have : signsV.all (shortV 1) = true := by decide +kernel
  exact List.all_eq_true.mp this v hv
section
variable {P : Program} {w : World} {K : PySem.W.Frag} {mg : Str → Option Value} {base : Heap}
def spTU : Sp := fun vs H Q _ => ∃ (p c : Addr) (x : Str), vs = [.ref p, .str x] ∧ x.length ≤ 10000 ∧ StateAt H p c ∧ ∀ H' y, Dr p c H H' → y.length ≤ 10010 → Q (.str y) H'
theorem ok_TU {f fD fP : Addr} {fd fdD fdP : FuncData} (F : Fun K "_law_turned" "_law_turned" sTU f fd)
    (GD : FnOk P w K mg base CX0 1 fD fdD ["state", "many"] spDraw) (bD : Binds K fdD ["state", "many"] []) (gD : mg "_law_draw" = some (.ref fD)) (kD : PySem.W.keepIn K (.ref fD) = true)
    (GP : FnOk P w K mg base CX0 2 fP fdP ["state", "row"] spPick) (bP : Binds K fdP ["state", "row"] []) (gP : mg "_law_pick" = some (.ref fP)) (kP : PySem.W.keepIn K (.ref fP) = true)
    (m_len : mg "len" = none) (m_range : mg "range" = none) : FnOk P w K mg base CX0 3 f fd ["state", "text"] spTU := by
  refine F.ok scTU (fun vs H Q E h => ?_) (fun cdv A outer s H vs Q E hr h => ?_)
  · obtain ⟨p, c, x, rfl, _⟩ := h
    rfl
  · obtain ⟨p, c, x, rfl, hx, st, q⟩ := h
    have hu := hr.units
    have hu1 := hu_of hr
    have hr1 : Room 1 _ := hr.mono (by decide)
    have hr2 : Room 2 _ := hr.mono (by decide)
    have zl := zl
    refine ⟨_, (pss_cons (ps_for PassesOwn.never rfl (pi_range1 (by rfl) m_range (pa_cons (pe_call GD hr1 (by rfl) gD kD bD .nil pass0 (pa_cons (pv 0) (pa_cons (pe_int) pa_nil))) pa_nil)) (pg_name (i := 2) scTU.nd rfl (.inl rfl))
      (pss_cons (ps_set (i := 3) scTU.nd rfl (.inl rfl) (pe_call GD hr1 (by rfl) gD kD bD .nil pass0 (pa_cons (pv 0) (pa_cons (pe_op op_add (pe_callB call_len_str (by rfl) m_len PySem.boot_len (pa_cons (pv 1) pa_nil)) (pe_int)) pa_nil))))
      (pss_cons (ps_set (i := 4) scTU.nd rfl (.inl rfl) (pe_call GP hr2 (by rfl) gP kP bP .nil pass0 (pa_cons (pv 0) (pa_cons (pe_lst (pa_cons (pe_str) (pa_cons (pe_str) (pa_cons (pe_str) (pa_cons (pe_str) (pa_cons (pe_str) (pa_cons (pe_str) (pa_cons (pe_str) (pa_cons (pe_str) (pa_cons (pe_str) (pa_cons (pe_str) (pa_cons (pe_str) (pa_cons (pe_str) (pa_cons (pe_str) (pa_cons (pe_str) pa_nil))))))))))))))) pa_nil))))
      (pss_one (ps_set (i := 1) scTU.nd rfl (.inl rfl) (pe_op op_add_str (pe_op op_add_str (pe_slice sl_str (pv 1) (po_none) (po_some (pv 3))) (pe_call GP hr2 (by rfl) gP kP bP .nil pass0 (pa_cons (pv 0) (pa_cons (pe_lst (pa_cons (pv 4) (pa_cons (pv 4) (pa_cons (pe_str) pa_nil)))) pa_nil)))) (pe_slice sl_str (pv 1) (po_some (pe_op op_add (pv 3) (pe_call GD hr1 (by rfl) gD kD bD .nil pass0 (pa_cons (pv 0) (pa_cons (pe_int) pa_nil))))) (po_none))))))))
      (pss_one (ps_ret (pv 1)))), ?_⟩
    have zl := zl
    refine ⟨_, rfl, p, c, 3, rfl, by decide, st, fun H1 n _ hn st1 d1 => ?_⟩
    have hn := hn (by decide)
    have r1 := (Dr.refl st).drawn st1 d1
    refine ⟨_, rfl, by omega, by omega, for_it (walk_range (lo := 0) (n := ((n : Nat) : Int).toNat)) (fun i σ H' => ∃ (y : Str) (v2 v3 v4 : Option V), σ = [some (.ref p), some (.str y), v2, v3, v4] ∧ Dr p c H H' ∧ y.length ≤ 10000 + i) ⟨x, _, _, _, rfl, r1, by omega⟩ (fun _ _ _ _ _ => trivial) ?_ ?_⟩
    · rintro i v σ H2 H3 hi ⟨y, v2, v3, v4, rfl, r2, ly⟩ ⟨rfl, rfl⟩
      refine ⟨_, rfl, _, rfl, y, rfl, by omega, _, _, rfl, rfl, p, c, y.length + 1, ?_, by omega, r2.st, fun H4 a _ ha st4 d4 => ?_⟩
      · show [V.ref p, V.int ((y.length : Int) + 1)] = _
        rw [Int.natCast_add]
        rfl
      · have ha := ha (by omega)
        have r4 := r2.drawn st4 d4
        refine ⟨_, rfl, by show 14 ≤ sizeLine; omega, fun b nb => ?_⟩
        have r5 := r4.same (same_new (o := .lst signsV) nb)
        have eb : (upd H4 b (.lst signsV)) b = some (.lst signsV) := upd_same
        have nbp := st.new (r4.none nb)
        generalize upd H4 b (.lst signsV) = H5 at r5 eb
        refine ⟨p, c, b, _, rfl, eb, nbp.1, nbp.2, by decide, by decide, r5.st, fun H6 v hv st6 d6 => ?_⟩
        obtain ⟨sg, rfl, lsg⟩ := short_v (signs_short v hv)
        have r6 := r5.drawn st6 d6
        refine ⟨_, rfl, _, rfl, _, rfl, y, rfl, by omega, ?_⟩
        rw [cutS_to]
        refine ⟨_, rfl, _, rfl, _, rfl, by show 3 ≤ sizeLine; omega, fun d nd => ?_⟩
        have r7 := r6.same (same_new (o := .lst [.str sg, .str sg, .str (Str.ofString "")]) nd)
        have ed : (upd H6 d (.lst [.str sg, .str sg, .str (Str.ofString "")])) d = some (.lst [.str sg, .str sg, .str (Str.ofString "")]) := upd_same
        have ndp := st.new (r6.none nd)
        generalize upd H6 d (.lst [.str sg, .str sg, .str (Str.ofString "")]) = H7 at r7 ed
        refine ⟨p, c, d, _, rfl, ed, ndp.1, ndp.2, by simp, by simp, r7.st, fun H8 v8 hv8 st8 d8 => ?_⟩
        obtain ⟨s8, rfl, l8⟩ : ∃ s8 : Str, v8 = .str s8 ∧ s8.length ≤ 1 := by
          simp only [List.mem_cons, List.not_mem_nil, or_false] at hv8
          rcases hv8 with rfl | rfl | rfl
          · exact ⟨_, rfl, lsg⟩
          · exact ⟨_, rfl, lsg⟩
          · exact ⟨_, rfl, by decide +kernel⟩
        have r8 := r7.drawn st8 d8
        have lt : (Sg ((tl y).take a)).length ≤ a := by
          show ((tl y).take a).length ≤ a
          rw [List.length_take]
          omega
        have lyy := len_tl y
        refine ⟨_, _, rfl, rfl, by omega, _, rfl, _, rfl, _, rfl, p, c, 2, rfl, by decide, r8.st, fun H9 e _ he st9 d9 => ?_⟩
        have he := he (by decide)
        have r9 := r8.drawn st9 d9
        refine ⟨_, _, rfl, rfl, _, rfl, y, rfl, by omega, ?_⟩
        rw [show (a : Int) + (e : Int) = ((a + e : Nat) : Int) from (Int.natCast_add a e).symm, cutS_from]
        have l2 : (Sg ((tl y).drop (a + e))).length = y.length - (a + e) := by
          show ((tl y).drop (a + e)).length = _
          rw [List.length_drop, lyy]
        have l1 : (Sg ((tl y).take a)).length = min a y.length := by
          show ((tl y).take a).length = _
          rw [List.length_take, lyy]
        have la : (Sg ((tl y).take a) ++ s8).length = (Sg ((tl y).take a)).length + s8.length := by
          have h1 := len_tl (Sg ((tl y).take a) ++ s8)
          have h2 := len_tl s8
          rw [TR.tl_app, List.length_append] at h1
          rw [h1, h2]
          rfl
        refine ⟨_, _, rfl, rfl, by omega, _, _, _, _, rfl, r9, ?_⟩
        have lb : (Sg ((tl y).take a) ++ s8 ++ Sg ((tl y).drop (a + e))).length = (Sg ((tl y).take a) ++ s8).length + (Sg ((tl y).drop (a + e))).length := by
          have h1 := len_tl (Sg ((tl y).take a) ++ s8 ++ Sg ((tl y).drop (a + e)))
          have h2 := len_tl (Sg ((tl y).take a) ++ s8)
          rw [TR.tl_app, List.length_append] at h1
          rw [h1, h2]
          rfl
        omega
    · rintro σ H2 ⟨y, v2, v3, v4, rfl, r2, ly⟩
      exact ⟨_, rfl, q _ y r2 (by omega)⟩
end
end K20
namespace K20
open PySem PySem.Spec PyProof.Rows L2 TL TR QR
open GxR (TabB TabG Tabbed)
/-- the law's heap: the state is a state, the tables stand, all else stays -/
structure LS (p c : Addr) (Ts : List Addr) (H H' : Hp) : Prop where
  st : StateAt H' p c
  g : TG Ts H'
  ou : ∀ b o, b ≠ p → b ≠ c → b ∉ Ts → H b = some o → H' b = some o
theorem state_tab {H : Hp} {p c T : Addr} (st : StateAt H p c) (g : TabG H T) : T ≠ p ∧ T ≠ c := by
  obtain ⟨⟨_, e1⟩, ⟨_, e2⟩⟩ := st.some
  obtain ⟨ps, e, _⟩ := g
  exact ⟨fun z => (by rw [z, e1] at e; cases e), fun z => (by rw [z, e2] at e; cases e)⟩
theorem LS.refl {p c : Addr} {Ts : List Addr} {H : Hp} (st : StateAt H p c) (g : TG Ts H) : LS p c Ts H H := ⟨st, g, fun _ _ _ _ _ e => e⟩
theorem LS.trans {p c : Addr} {Ts : List Addr} {H H1 H2 : Hp} (a : LS p c Ts H H1) (b : LS p c Ts H1 H2) : LS p c Ts H H2 := ⟨b.st, b.g, fun x o n1 n2 n3 e => b.ou x o n1 n2 n3 (a.ou x o n1 n2 n3 e)⟩
theorem LS.self {p c : Addr} {Ts : List Addr} {H H1 : Hp} (a : LS p c Ts H H1) : LS p c Ts H1 H1 := LS.refl a.st a.g
theorem LS.sm {p c : Addr} {Ts : List Addr} {H H1 H2 : Hp} (a : LS p c Ts H H1) (s : Same H1 H2) : LS p c Ts H H2 := ⟨a.st.same s, a.g.same s, fun x o n1 n2 n3 e => s _ _ (a.ou x o n1 n2 n3 e)⟩
theorem LS.dr {p c : Addr} {Ts : List Addr} {H H1 H2 : Hp} (a : LS p c Ts H H1) (d : Dr p c H1 H2) : LS p c Ts H H2 := by
  refine ⟨d.st, fun T hT => ?_, fun x o n1 n2 n3 e => d.ou _ _ n1 n2 (a.ou x o n1 n2 n3 e)⟩
  obtain ⟨n1, n2⟩ := state_tab a.st (a.g T hT)
  obtain ⟨ps, e, z⟩ := a.g T hT
  exact ⟨ps, d.ou T _ n1 n2 e, z⟩
theorem LS.tb {p c : Addr} {Ts : List Addr} {H H1 H2 : Hp} (a : LS p c Ts H H1) (t : Tbs Ts H1 H2) : LS p c Ts H H2 := by
  have pn : p ∉ Ts := fun z => (state_tab a.st (a.g p z)).1 rfl
  have cn : c ∉ Ts := fun z => (state_tab a.st (a.g c z)).2 rfl
  exact ⟨a.st.mono (fun o e => t.sm p o pn e) (fun o e => t.sm c o cn e), t.tg, fun x o n1 n2 n3 e => t.sm _ _ n3 (a.ou x o n1 n2 n3 e)⟩
theorem LS.ts {p c : Addr} {Ts : List Addr} {H H' : Hp} (st : StateAt H p c) (g : TG Ts H) (a : LS p c Ts H H') : TS H H' := fun b xs e => by
  obtain ⟨⟨_, e1⟩, ⟨_, e2⟩⟩ := st.some
  exact a.ou b _ (fun z => by rw [z, e1] at e; cases e) (fun z => by rw [z, e2] at e; cases e) (fun z => tab_ne (g b z) e (fun _ y => nomatch y) rfl) e
section
open PySem.W (Datum)
def labD (l : Lab) : PyData := .tuple [.str "label", .int (l.1 : Int), .tuple (l.2.map fun m : Nat => PyData.int (m : Int))]
def pathD (ps : Path) : PyData := .tuple (ps.map fun l => PyData.str (Sg l))
def nmD (n : Nm) : PyData := .tuple [labD n.1, .str (Sg n.2.1), .int (n.2.2 : Int)]
def vxD (x : Vx) : PyData := .tuple [nmD x.1, .int (x.2.1 : Int), .int (x.2.2 : Int)]
variable {K : PySem.W.Frag} {H : Hp} {v : V}
theorem dp_ints : ∀ l : List Nat, DpAll K H (l.map fun m : Nat => V.int (m : Int)) (l.map fun m : Nat => PyData.int (m : Int))
  | [] => .nil
  | m :: r => .cons (.int _) (dp_ints r)
theorem dp_strs : ∀ l : Path, DpAll K H (strV l) (l.map fun l => PyData.str (Sg l))
  | [] => .nil
  | m :: r => .cons (.str _) (dp_strs r)
theorem dp_lab {l : Lab} : LabAt H v l → Dp K H v (labD l) := fun ⟨la, ma, e, a, b⟩ => by
  rw [e]
  exact .tup (SqT.of a) (.cons (.str _) (.cons (.int _) (.cons (.tup (SqT.of b) (dp_ints _)) .nil)))
theorem dp_path {ps : Path} : PathAt H v ps → Dp K H v (pathD ps) := fun ⟨a, e, h⟩ => by
  rw [e]
  exact .tup (SqT.of h) (dp_strs _)
theorem dp_nm {n : Nm} : NmAt H v n → Dp K H v (nmD n) := fun ⟨na, lv, e, a, b⟩ => by
  rw [e]
  exact .tup (SqT.of a) (.cons (dp_lab b) (.cons (.str _) (.cons (.int _) .nil)))
theorem dp_vx {n : Vx} : VxAt H v n → Dp K H v (vxD n) := fun ⟨na, lv, e, a, b⟩ => by
  rw [e]
  exact .tup (SqT.of a) (.cons (dp_nm b) (.cons (.int _) (.cons (.int _) .nil)))
theorem plain_ints : ∀ l : List Nat, PyData.plainAll (l.map fun m : Nat => PyData.int (m : Int)) = true ∧ PyData.depthAll (l.map fun m : Nat => PyData.int (m : Int)) = 0
  | [] => ⟨rfl, rfl⟩
  | m :: r => by
    obtain ⟨a, b⟩ := plain_ints r
    exact ⟨by simp [PyData.plainAll, PyData.plain, a], by simp [PyData.depthAll, PyData.depth, b]⟩
theorem plain_strs : ∀ l : Path, PyData.plainAll (l.map fun l => PyData.str (Sg l)) = true ∧ PyData.depthAll (l.map fun l => PyData.str (Sg l)) = 0
  | [] => ⟨rfl, rfl⟩
  | m :: r => by
    obtain ⟨a, b⟩ := plain_strs r
    exact ⟨by simp [PyData.plainAll, PyData.plain, a], by simp [PyData.depthAll, PyData.depth, b]⟩
theorem plain_four (l : Lab) (ps : Path) (n : Nm) (x : Vx) : (PyData.list [labD l, pathD ps, nmD n, vxD x]).plain = true ∧ (PyData.list [labD l, pathD ps, nmD n, vxD x]).depth ≤ 60 := by
  have a := plain_ints l.2
  have b := plain_strs ps
  have c := plain_ints n.1.2
  have d := plain_ints x.1.1.2
  unfold vxD nmD pathD labD
  constructor
  · simp [PyData.plain, PyData.plainAll, a.1, b.1, c.1, d.1]
  · simp [PyData.depth, PyData.depthAll, a.2, b.2, c.2, d.2]
theorem join_len {b : Nat} : ∀ {P : Path}, (∀ p ∈ P, p.length ≤ b) → (TR.joinL 47 P).length ≤ (b + 1) * P.length
  | [], _ => Nat.le_refl _
  | [p], h => by
    have := h p List.mem_cons_self
    show p.length ≤ (b + 1) * 1
    omega
  | p :: q :: r, h => by
    have := h p List.mem_cons_self
    have ih := join_len (P := q :: r) fun x hx => h x (List.mem_cons_of_mem _ hx)
    show (p ++ 47 :: TR.joinL 47 (q :: r)).length ≤ _
    rw [List.length_append, List.length_cons, List.length_cons (as := q :: r), Nat.mul_succ]
    omega
end
end K20
namespace K20
open PySem PySem.Spec PyProof.Rows L2 TL TR QR
open GxR (TabB TabG Tabbed)
abbrev sLAW : Stmt := topS 38
abbrev nLAW : List Str := ["script", "state", "label", "path", "name", "vertex", "marks", "shown", "texts", "turn", "text", "told", "mark"]
theorem scLAW : FnScope nLAW ["script"] (defScope sLAW) := ⟨rfl, rfl, rfl, by decide +kernel, rfl, by decide +kernel, by decide +kernel⟩
theorem tif_val {tt : TT} {ta tb : TE} {σ : L2.St} {H : Hp} {Q : VK} (v : V) (h : ∀ Q' : VK, Q' v H → tIf tt ta tb σ H Q') (q : Q v H) : tIf tt ta tb σ H Q := h Q q
theorem told_is {α : Type} {R : Hp → V → α → Prop} {H : Hp} {v : V} {o : Option α} (h : OptR R H v o) (ne : ∀ a, R H v a → v ≠ .non) : (!decide (v = .non)) = o.isSome := by
  cases o with
  | none =>
    have e : v = .non := h
    rw [e]
    rfl
  | some a => rw [decide_eq_false (ne a h)]; rfl
section
variable {P : Program} {w : World} {K : PySem.W.Frag} {mg : Str → Option Value} {base : Heap}
def spLaw (K : PySem.W.Frag) (T1 T2 T3 : Addr) : Sp := fun vs H Q _ => ∃ (a : Addr) (ns : List Int), vs = [.ref a] ∧ SqL K H a (ns.map V.int) ∧ ns.length ≤ 63 ∧ TabG H T1 ∧ TabG H T2 ∧ TabG H T3 ∧ T1 ≠ T2 ∧ T1 ≠ T3 ∧ T2 ≠ T3 ∧ ∀ H', Q (.bl true) H'
theorem ok_LAW {T1 T2 T3 f fS fLL fLP fLN fLV fSL fSH fSI fSV fRL fRP fRI fRV fTU fP fGL fGP fGI fGV : Addr} {fdS fdLL fdLP fdLN fdLV fdSL fdSH fdSI fdSV fdRL fdRP fdRI fdRV fdTU fdP fdGL fdGP fdGI fdGV : FuncData} {oc kV doc pm cdv ct : Value} {od an : Option Addr} {osl : Array (Option Value)} (lk : K.lookup f = some ⟨oc, od, .func (PySem.W.fnOf "law" "law" (defArgs sLAW) (defBody sLAW) (defScope sLAW) .none kV doc pm an cdv ct), osl⟩)
    (hcd : PySem.W.codeIn K cdv "law" = true)
    (GS : FnOk P w K mg base CX0 1 fS fdS ["script"] (spState K)) (bS : Binds K fdS ["script"] []) (gS : mg "_law_state" = some (.ref fS)) (kS : PySem.W.keepIn K (.ref fS) = true)
    (GLL : FnOk P w K mg base CX0 2 fLL fdLL ["state"] spLL) (bLL : Binds K fdLL ["state"] []) (gLL : mg "_law_label" = some (.ref fLL)) (kLL : PySem.W.keepIn K (.ref fLL) = true)
    (GLP : FnOk P w K mg base CX0 4 fLP fdLP ["state"] spLP) (bLP : Binds K fdLP ["state"] []) (gLP : mg "_law_path" = some (.ref fLP)) (kLP : PySem.W.keepIn K (.ref fLP) = true)
    (GLN : FnOk P w K mg base CX0 4 fLN fdLN ["state", "label"] spLN) (bLN : Binds K fdLN ["state", "label"] []) (gLN : mg "_law_name" = some (.ref fLN)) (kLN : PySem.W.keepIn K (.ref fLN) = true)
    (GLV : FnOk P w K mg base CX0 5 fLV fdLV ["state", "label"] spLV) (bLV : Binds K fdLV ["state", "label"] []) (gLV : mg "_law_vertex" = some (.ref fLV)) (kLV : PySem.W.keepIn K (.ref fLV) = true)
    (GSL : FnOk P w K mg base CX0 1 fSL fdSL ["label"] spSL) (bSL : Binds K fdSL ["label"] []) (gSL : mg "show_label" = some (.ref fSL)) (kSL : PySem.W.keepIn K (.ref fSL) = true)
    (GSH : FnOk P w K mg base CX0 1 fSH fdSH ["path"] spSH) (bSH : Binds K fdSH ["path"] []) (gSH : mg "show_path" = some (.ref fSH)) (kSH : PySem.W.keepIn K (.ref fSH) = true)
    (GSI : FnOk P w K mg base CX0 2 fSI fdSI ["name"] spSI) (bSI : Binds K fdSI ["name"] []) (gSI : mg "show_id" = some (.ref fSI)) (kSI : PySem.W.keepIn K (.ref fSI) = true)
    (GSV : FnOk P w K mg base CX0 3 fSV fdSV ["vertex"] spSV) (bSV : Binds K fdSV ["vertex"] []) (gSV : mg "show_vertex" = some (.ref fSV)) (kSV : PySem.W.keepIn K (.ref fSV) = true)
    (GRL : FnOk P w K mg base CX0 4 fRL fdRL ["text"] (spRL [T1, T2, T3])) (bRL : Binds K fdRL ["text"] []) (gRL : mg "read_label" = some (.ref fRL)) (kRL : PySem.W.keepIn K (.ref fRL) = true)
    (GRP : FnOk P w K mg base CX0 4 fRP fdRP ["text"] (spRP [T1, T2, T3])) (bRP : Binds K fdRP ["text"] []) (gRP : mg "read_path" = some (.ref fRP)) (kRP : PySem.W.keepIn K (.ref fRP) = true)
    (GRI : FnOk P w K mg base CX0 5 fRI fdRI ["text"] (spRI [T1, T2, T3])) (bRI : Binds K fdRI ["text"] []) (gRI : mg "read_id" = some (.ref fRI)) (kRI : PySem.W.keepIn K (.ref fRI) = true)
    (GRV : FnOk P w K mg base CX0 6 fRV fdRV ["text"] (spRV [T1, T2, T3])) (bRV : Binds K fdRV ["text"] []) (gRV : mg "read_vertex" = some (.ref fRV)) (kRV : PySem.W.keepIn K (.ref fRV) = true)
    (GTU : FnOk P w K mg base CX0 3 fTU fdTU ["state", "text"] spTU) (bTU : Binds K fdTU ["state", "text"] []) (gTU : mg "_law_turned" = some (.ref fTU)) (kTU : PySem.W.keepIn K (.ref fTU) = true)
    (GP : FnOk P w K mg base CX0 2 fP fdP ["state", "row"] spPick) (bP : Binds K fdP ["state", "row"] []) (gP : mg "_law_pick" = some (.ref fP)) (kP : PySem.W.keepIn K (.ref fP) = true)
    (GGL : FnOk P w K mg base CX0 1 fGL fdGL ["text"] spGL) (bGL : Binds K fdGL ["text"] []) (gGL : mg "_law_is_label" = some (.ref fGL)) (kGL : PySem.W.keepIn K (.ref fGL) = true)
    (GGP : FnOk P w K mg base CX0 1 fGP fdGP ["text"] spGP) (bGP : Binds K fdGP ["text"] []) (gGP : mg "_law_is_path" = some (.ref fGP)) (kGP : PySem.W.keepIn K (.ref fGP) = true)
    (GGI : FnOk P w K mg base CX0 2 fGI fdGI ["parts"] spGI) (bGI : Binds K fdGI ["parts"] []) (gGI : mg "_law_is_id" = some (.ref fGI)) (kGI : PySem.W.keepIn K (.ref fGI) = true)
    (GGV : FnOk P w K mg base CX0 3 fGV fdGV ["parts"] spGV) (bGV : Binds K fdGV ["parts"] []) (gGV : mg "_law_is_vertex" = some (.ref fGV)) (kGV : PySem.W.keepIn K (.ref fGV) = true)
    (m_len : mg "len" = none) (m_range : mg "range" = none) (m_str : mg "str" = none) :
    GX.FnC P w K mg base f (PySem.W.fnOf "law" "law" (defArgs sLAW) (defBody sLAW) (defScope sLAW) .none kV doc pm an cdv ct) ["script"] (spLaw K T1 T2 T3) := by
  refine GX.fn_C (k := 7) ⟨rfl, by decide +kernel, by decide +kernel⟩ lk hcd scLAW (fun vs H Q E h => ?_) fun A outer s H vs Q E hg hr h => ?_
  · obtain ⟨a, ns, rfl, _⟩ := h
    rfl
  · obtain ⟨a0, ns, rfl, hS, hl, g1, g2, g3, n12, n13, n23, q⟩ := h
    have g : TG [T1, T2, T3] H := fun T hT => by
      simp only [List.mem_cons, List.not_mem_nil, or_false] at hT
      rcases hT with rfl | rfl | rfl
      · exact g1
      · exact g2
      · exact g3
    have hu := hr.units
    have hu1 := hu_of hr
    have hr1 : Room 1 _ := hr.mono (by decide)
    have hr2 : Room 2 _ := hr.mono (by decide)
    have hr3 : Room 3 _ := hr.mono (by decide)
    have hr4 : Room 4 _ := hr.mono (by decide)
    have hr5 : Room 5 _ := hr.mono (by decide)
    have hr6 : Room 6 _ := hr.mono (by decide)
    have zl := zl
    refine ⟨_, (pss_cons (ps_set (i := 1) scLAW.nd rfl (.inl rfl) (pe_call GS hr1 (by rfl) gS kS bS .nil pass0 (pa_cons (pv 0) pa_nil)))
      (pss_cons (ps_par (i := 2) (j := 3) (by rfl) scLAW.nd rfl rfl (by decide) rfl rfl (pa_cons (pe_call GLL hr2 (by rfl) gLL kLL bLL .nil pass0 (pa_cons (pv 1) pa_nil)) (pa_cons (pe_call GLP hr4 (by rfl) gLP kLP bLP .nil pass0 (pa_cons (pv 1) pa_nil)) pa_nil)) (by rfl))
      (pss_cons (ps_par (i := 4) (j := 5) (by rfl) scLAW.nd rfl rfl (by decide) rfl rfl (pa_cons (pe_call GLN hr4 (by rfl) gLN kLN bLN .nil pass0 (pa_cons (pv 1) (pa_cons (pv 2) pa_nil))) (pa_cons (pe_call GLV hr5 (by rfl) gLV kLV bLV .nil pass0 (pa_cons (pv 1) (pa_cons (pv 2) pa_nil))) pa_nil)) (by rfl))
      (pss_cons (ps_set (i := 6) scLAW.nd rfl (.inl rfl) (pe_join (pe_str) (pe_lc (own := [("mark", 12)]) (g := gName 12) (tt := tYes) (te := tCB (fun xs H Q => ∃ i, xs = [.int i] ∧ i.natAbs.log2 < 1920 ∧ Q (.str (toString i)) H) (tCons (tVar 12) tNil)) rfl scLAW.nd (pi_tup (pe_ix ix_tup (pv 2) (pe_int) (fun _ _ => rfl))) (blkOk_by (N := nLAW) (sc := defScope sLAW) (by decide +kernel)) (fun _ _ _ _ _ => by exact pg_name (i := 12) scLAW.nd rfl (.inl rfl)) (fun _ _ _ _ _ => pts_nil) (fun _ _ _ _ _ => by exact pe_callTy call_str_int (by rfl) m_str (by decide +kernel) (pa_cons (pv 12) pa_nil)))))
      (pss_cons (ps_set (i := 7) scLAW.nd rfl (.inl rfl) (pe_op op_add_str (pe_callTy call_str_int (by rfl) m_str (by decide +kernel) (pa_cons (pe_ix ix_tup (pv 2) (pe_int) (fun _ _ => rfl)) pa_nil)) (pe_ifExp (pt_cmpR op_ne (pv 6) (pe_str) (nomark _)) (pe_op op_add_str (pe_str) (pv 6)) (pe_str))))
      (pss_cons (ps_set (i := 8) scLAW.nd rfl (.inl rfl) (pe_lst (pa_cons (pv 7) (pa_cons (pe_join (pe_str) (pv 3)) (pa_cons (pe_join (pe_str) (pe_lst (pa_cons (pv 7) (pa_cons (pe_ix ix_tup (pv 4) (pe_int) (fun _ _ => rfl)) (pa_cons (pe_callTy call_str_int (by rfl) m_str (by decide +kernel) (pa_cons (pe_ix ix_tup (pv 4) (pe_int) (fun _ _ => rfl)) pa_nil)) pa_nil))))) pa_nil)))))
      (pss_cons (ps_expr (pe_bm PySem.F.plainAttrs_list PySem.F.slot_list_append PySem.F.type_list_append mt_append (pv 8) (pa_cons (pe_join (pe_str) (pe_lst (pa_cons (pv 7) (pa_cons (pe_ix ix_tup (pe_ix ix_tup (pv 5) (pe_int) (fun _ _ => rfl)) (pe_int) (fun _ _ => rfl)) (pa_cons (pe_callTy call_str_int (by rfl) m_str (by decide +kernel) (pa_cons (pe_ix ix_tup (pe_ix ix_tup (pv 5) (pe_int) (fun _ _ => rfl)) (pe_int) (fun _ _ => rfl)) pa_nil)) (pa_cons (pe_callTy call_str_int (by rfl) m_str (by decide +kernel) (pa_cons (pe_ix ix_tup (pv 5) (pe_int) (fun _ _ => rfl)) pa_nil)) (pa_cons (pe_callTy call_str_int (by rfl) m_str (by decide +kernel) (pa_cons (pe_ix ix_tup (pv 5) (pe_int) (fun _ _ => rfl)) pa_nil)) pa_nil))))))) pa_nil)))
      (pss_cons (ps_if (pt_cmpR (op_neP hu) (pe_lst (pa_cons (pe_call GSL hr1 (by rfl) gSL kSL bSL .nil pass0 (pa_cons (pv 2) pa_nil)) (pa_cons (pe_call GSH hr1 (by rfl) gSH kSH bSH .nil pass0 (pa_cons (pv 3) pa_nil)) (pa_cons (pe_call GSI hr2 (by rfl) gSI kSI bSI .nil pass0 (pa_cons (pv 4) pa_nil)) (pa_cons (pe_call GSV hr3 (by rfl) gSV kSV bSV .nil pass0 (pa_cons (pv 5) pa_nil)) pa_nil))))) (pv 8) (nomark _))
      (pss_one (ps_ret (pe_bl))) pss_nil)
      (pss_cons (ps_if (pt_cmpR (op_neP hu) (pe_lst (pa_cons (pe_call GRL hr4 (by rfl) gRL kRL bRL .nil pass0 (pa_cons (pe_ix ix_list (pv 8) (pe_int) (fun _ _ => rfl)) pa_nil)) (pa_cons (pe_call GRP hr4 (by rfl) gRP kRP bRP .nil pass0 (pa_cons (pe_ix ix_list (pv 8) (pe_int) (fun _ _ => rfl)) pa_nil)) (pa_cons (pe_call GRI hr5 (by rfl) gRI kRI bRI .nil pass0 (pa_cons (pe_ix ix_list (pv 8) (pe_int) (fun _ _ => rfl)) pa_nil)) (pa_cons (pe_call GRV hr6 (by rfl) gRV kRV bRV .nil pass0 (pa_cons (pe_ix ix_list (pv 8) (pe_int) (fun _ _ => rfl)) pa_nil)) pa_nil))))) (pe_lst (pa_cons (pv 2) (pa_cons (pv 3) (pa_cons (pv 4) (pa_cons (pv 5) pa_nil))))) (nomark _))
      (pss_one (ps_ret (pe_bl))) pss_nil)
      (pss_cons (ps_for PassesOwn.never rfl (pi_range1 (by rfl) m_range (pa_cons (pe_int) pa_nil)) (pg_name (i := 9) scLAW.nd rfl (.inl rfl))
      (pss_cons (ps_set (i := 10) scLAW.nd rfl (.inl rfl) (pe_call GTU hr3 (by rfl) gTU kTU bTU .nil pass0 (pa_cons (pv 1) (pa_cons (pe_call GP hr2 (by rfl) gP kP bP .nil pass0 (pa_cons (pv 1) (pa_cons (pv 8) pa_nil))) pa_nil))))
      (pss_cons (ps_set (i := 11) scLAW.nd rfl (.inl rfl) (pe_call GRL hr4 (by rfl) gRL kRL bRL .nil pass0 (pa_cons (pv 10) pa_nil)))
      (pss_cons (ps_if (PW.pt (pw_or (pt_cmpR op_ne (pe_cmpR op_notN (pv 11) (pe_non) (nomark _)) (pe_call GGL hr1 (by rfl) gGL kGL bGL .nil pass0 (pa_cons (pv 10) pa_nil)) (nomark _)) (pw_or1 (PW.pt (pw_and (pt_cmpR op_notN (pv 11) (pe_non) (nomark _)) (pw_and1 (pt_cmpR op_ne (pe_call GSL hr1 (by rfl) gSL kSL bSL .nil pass0 (pa_cons (pv 11) pa_nil)) (pv 10) (nomark _))))))))
      (pss_one (ps_ret (pe_bl))) pss_nil)
      (pss_cons (ps_set (i := 11) scLAW.nd rfl (.inl rfl) (pe_call GRP hr4 (by rfl) gRP kRP bRP .nil pass0 (pa_cons (pv 10) pa_nil)))
      (pss_cons (ps_if (PW.pt (pw_or (pt_cmpR op_ne (pe_cmpR op_notN (pv 11) (pe_non) (nomark _)) (pe_call GGP hr1 (by rfl) gGP kGP bGP .nil pass0 (pa_cons (pv 10) pa_nil)) (nomark _)) (pw_or1 (PW.pt (pw_and (pt_cmpR op_notN (pv 11) (pe_non) (nomark _)) (pw_and1 (pt_cmpR op_ne (pe_call GSH hr1 (by rfl) gSH kSH bSH .nil pass0 (pa_cons (pv 11) pa_nil)) (pv 10) (nomark _))))))))
      (pss_one (ps_ret (pe_bl))) pss_nil)
      (pss_cons (ps_set (i := 11) scLAW.nd rfl (.inl rfl) (pe_call GRI hr5 (by rfl) gRI kRI bRI .nil pass0 (pa_cons (pv 10) pa_nil)))
      (pss_cons (ps_if (PW.pt (pw_or (pt_cmpR op_ne (pe_cmpR op_notN (pv 11) (pe_non) (nomark _)) (pe_call GGI hr2 (by rfl) gGI kGI bGI .nil pass0 (pa_cons (pe_split (pv 10) (pe_str)) pa_nil)) (nomark _)) (pw_or1 (PW.pt (pw_and (pt_cmpR op_notN (pv 11) (pe_non) (nomark _)) (pw_and1 (pt_cmpR op_ne (pe_call GSI hr2 (by rfl) gSI kSI bSI .nil pass0 (pa_cons (pv 11) pa_nil)) (pv 10) (nomark _))))))))
      (pss_one (ps_ret (pe_bl))) pss_nil)
      (pss_cons (ps_set (i := 11) scLAW.nd rfl (.inl rfl) (pe_call GRV hr6 (by rfl) gRV kRV bRV .nil pass0 (pa_cons (pv 10) pa_nil)))
      (pss_one (ps_if (PW.pt (pw_or (pt_cmpR op_ne (pe_cmpR op_notN (pv 11) (pe_non) (nomark _)) (pe_call GGV hr3 (by rfl) gGV kGV bGV .nil pass0 (pa_cons (pe_split (pv 10) (pe_str)) pa_nil)) (nomark _)) (pw_or1 (PW.pt (pw_and (pt_cmpR op_notN (pv 11) (pe_non) (nomark _)) (pw_and1 (pt_cmpR op_ne (pe_call GSV hr3 (by rfl) gSV kSV bSV .nil pass0 (pa_cons (pv 11) pa_nil)) (pv 10) (nomark _))))))))
      (pss_one (ps_ret (pe_bl))) pss_nil)))))))))))
      (pss_one (ps_ret (pe_bl))))))))))))), ?_⟩
    refine ⟨_, rfl, a0, ns, rfl, hS, hl, fun H1 p c sm1 np nc st1 => ?_⟩
    have l1 : LS p c [T1, T2, T3] H1 H1 := LS.refl st1 (g.same sm1)
    refine ⟨_, rfl, p, c, rfl, st1, fun H2 lv l d2 hlv lok => ⟨_, rfl, p, c, rfl, d2.st, fun H3 pv ps d3 hpv pok => ?_⟩⟩
    have hlv3 := hlv.ts (d3.ts d2.st)
    refine ⟨_, _, rfl, _, rfl, _, rfl, p, c, lv, l, rfl, hlv3, lok, d3.st, fun H4 nv n d4 hnv nok nl => ⟨_, rfl, _, rfl, p, c, lv, l, rfl, hlv3.ts (d4.ts d3.st), lok, d4.st, fun H5 vv x d5 hvv xok xl => ?_⟩⟩
    have l5 := (((l1.dr d2).dr d3).dr d4).dr d5
    have hl5 := hlv3.ts ((d4.ts d3.st).trans (d5.ts d4.st))
    have hp5 := hpv.ts ((d4.ts d3.st).trans (d5.ts d4.st))
    have hn5 := hnv.ts (d5.ts d4.st)
    clear hlv hlv3 hpv hnv d2 d3 d4 d5
    have ss := (lab_ok.mp (lab_ok.mpr lok)).sm
    have hl5' := hl5
    obtain ⟨la, ma, rfl, e1, e2⟩ := hl5'
    have lm : (l.2.map fun m : Nat => V.int (m : Int)).length = l.2.length := List.length_map _
    refine ⟨_, _, rfl, ⟨_, rfl⟩, _, rfl, la, _, _, _, rfl, rfl, SqT.of e1, atI_nat (j := 2) rfl, ma, rfl, ⟨_, SqT.of e2⟩, fun D nD => ?_⟩
    refine lc_tup (xs := l.2.map fun m : Nat => V.int (m : Int)) (fun i H' => Same H5 H' ∧ H' D = some (.lst ((l.2.take i).map fun m => V.str (Sg (numL m))))) ⟨same_new nD, upd_same⟩ ?_ ?_ ?_
    · rintro i H' _ ⟨s1, _⟩
      exact SqT.of (s1 _ _ e2)
    · rintro i y H6 hy ⟨s1, eD⟩
      obtain ⟨m, gm, rfl⟩ := map_get hy
      have hm := ss.2.2 m (List.mem_of_getElem? gm)
      have li := (List.getElem?_eq_some_iff.mp gm).1
      have := ss.2.1
      refine ⟨rfl, _, rfl, (m : Int), rfl, num_small (by omega), _, eD, by rw [List.length_map, List.length_take]; omega, same_upd nD s1, ?_⟩
      rw [upd_same, List.take_add_one, gm]
      show _ = some (HO.lst (((l.2.take i) ++ [m]).map _))
      rw [List.map_append]
      show some (HO.lst (_ ++ [V.str (Str.ofString (toString (m : Int)))])) = _
      rw [sg_num]
      rfl
    · rintro H6 ⟨s1, eD⟩
      rw [lm, List.take_length] at eD
      have eD2 : H6 D = some (.lst (((l.2.map numL).map Sg).map V.str)) := by
        rw [eD, List.map_map, List.map_map]
        rfl
      have sms : ∀ p ∈ l.2.map numL, p.length ≤ 5 := fun p hp => by
        obtain ⟨m, hm, rfl⟩ := List.mem_map.mp hp
        exact num_five (by have := ss.2.2 m hm; omega)
      have ml := mark_len ss.2.2
      have ll := ss.2.1
      have lb := lab_len ss
      have l5' := num_five ss.1
      refine ⟨_, D, _, rfl, rfl, .inl (SqL.of eD2), ?_, ?_⟩
      · have := sum_sg 5 sms
        rw [List.length_map] at this
        rw [List.length_map, List.length_map, show (Str.ofString "").length = 0 by decide +kernel]
        omega
      have ej : Txt.join (Str.ofString "") ((l.2.map numL).map Sg) = Sg (markL l.2) := by
        rw [show Str.ofString "" = Str.empty from rfl, txt_join0, List.map_map]
        have e : (tl ∘ Sg) = id := by funext l; rfl
        rw [e, List.map_id]
        rfl
      rw [ej]
      have l6 := l5.sm s1
      have hl6 := hl5.ts (Same.ts s1)
      have hp6 := hp5.ts (Same.ts s1)
      have hn6 := hn5.ts (Same.ts s1)
      have hx6 := hvv.ts (Same.ts s1)
      have e16 := s1 _ _ e1
      clear l5 hl5 hp5 hn5 hvv e1 e2 eD eD2 sms s1
      have lens : ∀ a : List Nat, (Sg a).length = a.length := fun a => rfl
      refine ⟨_, rfl, la, _, _, _, rfl, rfl, SqT.of e16, atI_nat (j := 1) rfl, (l.1 : Int), rfl, num_small ss.1, ?_⟩
      rw [sg_num]
      refine tif_val (.str (Sg (if l.2 = [] then [] else 58 :: markL l.2))) (fun Q' q' => ?_) ?_
      · by_cases hms : l.2 = []
        · rw [if_pos hms] at q'
          refine ⟨_, rfl, rfl, _, rfl, ?_⟩
          rw [show V.str (Sg (markL l.2)) = V.str (Str.ofString "") by rw [hms]; decide +kernel]
          exact ite2 (fun h => absurd h (by decide +kernel)) (fun _ => by
            rw [show Str.ofString "" = Sg [] by decide +kernel]
            exact q')
        · rw [if_neg hms] at q'
          refine ⟨_, rfl, rfl, _, rfl, ite2 (fun _ => ⟨_, rfl, _, _, rfl, rfl, ?_, ?_⟩) (fun h => absurd ?_ h)⟩
          · have h1 : (Str.ofString ":").length = 1 := by decide +kernel
            have h2 := lens (markL l.2)
            omega
          · rw [colon_str, sg_app]
            exact q'
          · rw [Bool.not_eq_true', decide_eq_false_iff_not]
            intro z
            have z2 := congrArg tl (V.str.inj z)
            rw [show tl (Str.ofString "") = [] by decide +kernel] at z2
            exact mark_ne hms z2
      have bd : (numL l.1).length + (if l.2 = [] then [] else 58 :: markL l.2).length ≤ 1006 := by
        unfold labL at lb
        rw [List.length_append] at lb
        exact lb
      refine ⟨_, _, rfl, rfl, by rw [lens, lens]; omega, ?_⟩
      rw [sg_app, show numL l.1 ++ (if l.2 = [] then [] else 58 :: markL l.2) = labL l from rfl]
      obtain ⟨pa, rfl, ep⟩ := id hp6
      obtain ⟨na, nlv, rfl, en, _⟩ := id hn6
      have sn := nok.sm
      have sp := path_sm pok
      refine ⟨_, rfl, ⟨_, rfl⟩, _, rfl, _, pa, ps.map Sg, rfl, rfl, .inr (SqT.of (by rw [List.map_map]; exact ep)), ?_, ?_⟩
      · have := sum_sg 1000 sp.2
        have := sp.1
        rw [List.length_map, show (Str.ofString "/").length = 1 by decide +kernel]
        omega
      rw [join_slash]
      refine ⟨⟨_, rfl⟩, _, rfl, _, rfl, na, _, _, _, rfl, rfl, SqT.of en, atI_nat (j := 1) rfl, _, rfl, na, _, _, _, rfl, rfl, SqT.of en, atI_nat (j := 2) rfl, (n.2.2 : Int), rfl, num_small sn.2.2, by show 3 ≤ sizeLine; omega, fun D1 nD1 => ?_⟩
      rw [sg_num]
      have j1 : Txt.join (Str.ofString ".") [Sg (labL l), Sg n.2.1, Sg (numL n.2.2)] = Sg (labL l ++ 46 :: (n.2.1 ++ 46 :: numL n.2.2)) := by
        rw [dot_str]
        show Builtin.Str.glued _ _ = _
        rw [StrLaws.glued_eq_join]
        refine ext_tl ?_
        rw [TR.tl_join]
        rfl
      have eD1 : (upd H6 D1 (.lst [.str (Sg (labL l)), .str (Sg n.2.1), .str (Sg (numL n.2.2))])) D1 = some (.lst ([Sg (labL l), Sg n.2.1, Sg (numL n.2.2)].map V.str)) := upd_same
      have s7 : Same H6 (upd H6 D1 (.lst [.str (Sg (labL l)), .str (Sg n.2.1), .str (Sg (numL n.2.2))])) := same_new nD1
      generalize upd H6 D1 (.lst [.str (Sg (labL l)), .str (Sg n.2.1), .str (Sg (numL n.2.2))]) = H7 at eD1 s7
      refine ⟨_, D1, _, rfl, rfl, .inl (SqL.of eD1), ?_, ?_⟩
      · have h5 := num_five sn.2.2
        have hw := sn.2.1
        show ((labL l).length + (n.2.1.length + ((numL n.2.2).length + 0))) + 3 * (Str.ofString ".").length ≤ 16777216
        rw [show (Str.ofString ".").length = 1 by decide +kernel]
        omega
      rw [j1, show labL l ++ 46 :: (n.2.1 ++ 46 :: numL n.2.2) = idL n by rw [← nl]; rfl]
      refine ⟨by show 3 ≤ sizeLine; omega, fun t nt => ?_⟩
      have et : (upd H7 t (.lst [.str (Sg (labL l)), .str (Sg (slashL ps)), .str (Sg (idL n))])) t = some (.lst [.str (Sg (labL l)), .str (Sg (slashL ps)), .str (Sg (idL n))]) := upd_same
      have s8 : Same H6 (upd H7 t (.lst [.str (Sg (labL l)), .str (Sg (slashL ps)), .str (Sg (idL n))])) := same_upd (same_none s7 nt) s7
      generalize upd H7 t (.lst [.str (Sg (labL l)), .str (Sg (slashL ps)), .str (Sg (idL n))]) = H8 at et s8
      have nt6 := same_none s7 nt
      have tpc := l6.st.new nt6
      have tTs : t ∉ [T1, T2, T3] := fun z => by
        obtain ⟨_, e, _⟩ := l6.g t z
        rw [nt6] at e
        cases e
      clear eD1 s7 j1 nt
      -- the fourth text
      obtain ⟨va, vn, rfl, ev, hvn⟩ := id hx6
      obtain ⟨vna, vl, rfl, evn, _⟩ := id hvn
      have sv := xok.sm
      have h5 := num_five sv.1.2.2
      have h6 := num_five sv.2.1
      have h7 := num_five sv.2.2
      have hw := sv.1.2.1
      refine ⟨_, rfl, .inl ⟨rfl, _, SqL.of et⟩, ⟨_, rfl⟩, _, rfl, _, rfl, va, _, _, _, rfl, rfl, SqT.of (s8 _ _ ev), atI_nat (j := 0) rfl, vna, _, _, _, rfl, rfl, SqT.of (s8 _ _ evn), atI_nat (j := 1) rfl, _, rfl, va, _, _, _, rfl, rfl, SqT.of (s8 _ _ ev), atI_nat (j := 0) rfl, vna, _, _, _, rfl, rfl, SqT.of (s8 _ _ evn), atI_nat (j := 2) rfl, (x.1.2.2 : Int), rfl, num_small sv.1.2.2,
        _, rfl, va, _, _, _, rfl, rfl, SqT.of (s8 _ _ ev), atI_nat (j := 1) rfl, (x.2.1 : Int), rfl, num_small sv.2.1, _, rfl, va, _, _, _, rfl, rfl, SqT.of (s8 _ _ ev), atI_nat (j := 2) rfl, (x.2.2 : Int), rfl, num_small sv.2.2, by show 5 ≤ sizeLine; omega, fun D2 nD2 => ?_⟩
      rw [sg_num, sg_num, sg_num]
      have j2 : Txt.join (Str.ofString ".") [Sg (labL l), Sg x.1.2.1, Sg (numL x.1.2.2), Sg (numL x.2.1), Sg (numL x.2.2)] = Sg (vxL x) := by
        rw [dot_str]
        show Builtin.Str.glued _ _ = _
        rw [StrLaws.glued_eq_join]
        refine ext_tl ?_
        rw [TR.tl_join]
        show labL l ++ 46 :: (x.1.2.1 ++ 46 :: (numL x.1.2.2 ++ 46 :: (numL x.2.1 ++ 46 :: numL x.2.2))) = vxL x
        unfold vxL idL
        rw [xl]
        simp
      have eD2 : (upd H8 D2 (.lst [.str (Sg (labL l)), .str (Sg x.1.2.1), .str (Sg (numL x.1.2.2)), .str (Sg (numL x.2.1)), .str (Sg (numL x.2.2))])) D2 = some (.lst ([Sg (labL l), Sg x.1.2.1, Sg (numL x.1.2.2), Sg (numL x.2.1), Sg (numL x.2.2)].map V.str)) := upd_same
      have s9 : Same H8 (upd H8 D2 (.lst [.str (Sg (labL l)), .str (Sg x.1.2.1), .str (Sg (numL x.1.2.2)), .str (Sg (numL x.2.1)), .str (Sg (numL x.2.2))])) := same_new nD2
      generalize upd H8 D2 (.lst [.str (Sg (labL l)), .str (Sg x.1.2.1), .str (Sg (numL x.1.2.2)), .str (Sg (numL x.2.1)), .str (Sg (numL x.2.2))]) = H9 at eD2 s9
      refine ⟨_, D2, _, rfl, rfl, .inl (SqL.of eD2), ?_, ?_⟩
      · show ((labL l).length + (x.1.2.1.length + ((numL x.1.2.2).length + ((numL x.2.1).length + ((numL x.2.2).length + 0))))) + 5 * (Str.ofString ".").length ≤ 16777216
        rw [show (Str.ofString ".").length = 1 by decide +kernel]
        omega
      rw [j2]
      refine ⟨t, _, _, rfl, rfl, s9 _ _ et, by show 3 < sizeLine; omega, ?_⟩
      have etx : (upd H9 t (.lst ([.str (Sg (labL l)), .str (Sg (slashL ps)), .str (Sg (idL n))] ++ [.str (Sg (vxL x))]))) t = some (.lst [.str (Sg (labL l)), .str (Sg (slashL ps)), .str (Sg (idL n)), .str (Sg (vxL x))]) := upd_same
      have s10 : Same H6 (upd H9 t (.lst ([.str (Sg (labL l)), .str (Sg (slashL ps)), .str (Sg (idL n))] ++ [.str (Sg (vxL x))]))) := same_upd nt6 (same_trans s8 s9)
      generalize upd H9 t (.lst ([.str (Sg (labL l)), .str (Sg (slashL ps)), .str (Sg (idL n))] ++ [.str (Sg (vxL x))])) = H10 at etx s10
      have l10 := l6.sm s10
      have hl10 := hl6.ts (Same.ts s10)
      have hp10 := hp6.ts (Same.ts s10)
      have hn10 := hn6.ts (Same.ts s10)
      have hx10 := hx6.ts (Same.ts s10)
      clear l6 hl6 hp6 hn6 hx6 e16 ep en ev evn s8 s9 s10 et eD2 j2 hvn
      have st0 : LS p c [T1, T2, T3] H10 H10 := l10.self
      refine ⟨_, rfl, _, l, rfl, hl10, ss, fun Ha sa => ⟨_, rfl, _, ps, rfl, hp10.ts (Same.ts sa), sp, _, rfl, _, n, rfl, hn10.ts (Same.ts sa), sn, fun Hb sb => ⟨_, rfl, _, x, rfl, hx10.ts (Same.ts (same_trans sa sb)), sv, fun Hc sc => ⟨by show 4 ≤ sizeLine; omega, fun D nD => ?_⟩⟩⟩⟩
      have s11 : Same H10 (upd Hc D (.lst [.str (Sg (labL l)), .str (Sg (slashL ps)), .str (Sg (idL n)), .str (Sg (vxL x))])) := same_trans (same_trans (same_trans sa sb) sc) (same_new nD)
      have eD : (upd Hc D (.lst [.str (Sg (labL l)), .str (Sg (slashL ps)), .str (Sg (idL n)), .str (Sg (vxL x))])) D = some (.lst [.str (Sg (labL l)), .str (Sg (slashL ps)), .str (Sg (idL n)), .str (Sg (vxL x))]) := upd_same
      generalize upd Hc D (.lst [.str (Sg (labL l)), .str (Sg (slashL ps)), .str (Sg (idL n)), .str (Sg (vxL x))]) = H11 at s11 eD
      have et11 := s11 _ _ etx
      have l11 := st0.sm s11
      have dl : ∀ a, H11 a = some (.lst [.str (Sg (labL l)), .str (Sg (slashL ps)), .str (Sg (idL n)), .str (Sg (vxL x))]) → Dp K H11 (.ref a) (.list [.str (Sg (labL l)), .str (Sg (slashL ps)), .str (Sg (idL n)), .str (Sg (vxL x))]) := fun a e => .lst (SqL.of e) (.cons (.str _) (.cons (.str _) (.cons (.str _) (.cons (.str _) .nil))))
      refine ⟨_, rfl, _, _, dl _ eD, dl _ et11, rfl, rfl, by simp [PyData.depth, PyData.depthAll], _, rfl, ite2 (fun h => ?_) (fun _ => ?_)⟩
      · rw [PySem.SeqAt.eqv_refl_plain _ rfl] at h
        cases h
      clear dl eD nD
      have hl11 := hl10.ts (Same.ts s11)
      have hp11 := hp10.ts (Same.ts s11)
      have hn11 := hn10.ts (Same.ts s11)
      have hx11 := hx10.ts (Same.ts s11)
      have tn := (state_tab l11.st (l11.g T1 (by simp)))
      have tT : ∀ {Ha Hb : Hp}, Tbs [T1, T2, T3] Ha Hb → TG [T1, T2, T3] Ha → ∀ xs, Ha t = some (.lst xs) → Hb t = some (.lst xs) := fun ta g xs e => ta.lst g e
      have lsl : (slashL ps).length ≤ 36 := by
        obtain ⟨_, a, b⟩ := path_ok pok
        have := join_len (b := 8) (P := ps) fun p hp => (b p hp).1
        unfold slashL
        omega
      have lid := id_len sn
      have lvx := vx_len sv
      refine ⟨_, rfl, t, _, _, _, rfl, rfl, SqL.of et11, atI_nat (j := 0) rfl, Sg (labL l), rfl, by rw [lens]; omega, l11.g, fun Ha ra ta hra => ?_⟩
      have hra : OptR LabAt Ha ra (readLab (labL l)) := hra
      rw [readLab_labL lok] at hra
      have eta := ta.lst l11.g et11
      refine ⟨_, rfl, t, _, _, _, rfl, rfl, SqL.of eta, atI_nat (j := 1) rfl, Sg (slashL ps), rfl, by rw [lens]; omega, ta.tg, fun Hb rb tb hrb => ?_⟩
      have hrb : OptR PathAt Hb rb (readPath (slashL ps)) := hrb
      rw [readPath_slash pok] at hrb
      have etb := tb.lst ta.tg eta
      refine ⟨_, rfl, t, _, _, _, rfl, rfl, SqL.of etb, atI_nat (j := 2) rfl, Sg (idL n), rfl, by rw [lens]; omega, tb.tg, fun Hc' rc tc hrc => ?_⟩
      have hrc : OptR NmAt Hc' rc (readNm (idL n)) := hrc
      rw [readNm_idL nok] at hrc
      have etc := tc.lst tb.tg etb
      refine ⟨_, rfl, t, _, _, _, rfl, rfl, SqL.of etc, atI_nat (j := 3) rfl, Sg (vxL x), rfl, by rw [lens]; omega, tc.tg, fun Hd rd td hrd => ?_⟩
      have hrd : OptR VxAt Hd rd (readVx (vxL x)) := hrd
      rw [readVx_vxL xok] at hrd
      have etd := td.lst tc.tg etc
      refine ⟨by show 4 ≤ sizeLine; omega, fun D3 nD3 => ?_⟩
      have tall := ((ta.trans tb).trans tc).trans td
      have t0d : TS H11 Hd := tall.ts l11.g
      have tad : TS Ha Hd := ((tb.trans tc).trans td).ts ta.tg
      have tbd : TS Hb Hd := (tc.trans td).ts tb.tg
      have tcd : TS Hc' Hd := td.ts tc.tg
      refine ⟨_, rfl, _, rfl, _, rfl, _, rfl, by show 4 ≤ sizeLine; omega, fun D4 nD4 => ?_⟩
      have sD3 : Same Hd (upd Hd D3 (.lst [ra, rb, rc, rd])) := same_new nD3
      have eD3 : (upd Hd D3 (.lst [ra, rb, rc, rd])) D3 = some (.lst [ra, rb, rc, rd]) := upd_same
      generalize upd Hd D3 (.lst [ra, rb, rc, rd]) = He at sD3 eD3 nD4
      have sD4 : Same He (upd He D4 (.lst [.ref la, .ref pa, .ref na, .ref va])) := same_new nD4
      have eD4 : (upd He D4 (.lst [.ref la, .ref pa, .ref na, .ref va])) D4 = some (.lst [.ref la, .ref pa, .ref na, .ref va]) := upd_same
      have eD3' := sD4 _ _ eD3
      have sde := same_trans sD3 sD4
      generalize upd He D4 (.lst [.ref la, .ref pa, .ref na, .ref va]) = H12 at sD4 eD4 eD3' sde
      have ts12 := Same.ts sde
      obtain ⟨pl, dp⟩ := plain_four l ps n x
      have da : Dp K H12 (.ref D3) (.list [labD l, pathD ps, nmD n, vxD x]) := .lst (SqL.of eD3') (.cons (dp_lab (LabAt.ts (tad.trans ts12) hra)) (.cons (dp_path (PathAt.ts (tbd.trans ts12) hrb)) (.cons (dp_nm (NmAt.ts (tcd.trans ts12) hrc)) (.cons (dp_vx (VxAt.ts ts12 hrd)) .nil))))
      have db : Dp K H12 (.ref D4) (.list [labD l, pathD ps, nmD n, vxD x]) := .lst (SqL.of eD4) (.cons (dp_lab (hl11.ts (t0d.trans ts12))) (.cons (dp_path (hp11.ts (t0d.trans ts12))) (.cons (dp_nm (hn11.ts (t0d.trans ts12))) (.cons (dp_vx (hx11.ts (t0d.trans ts12))) .nil))))
      refine ⟨_, _, da, db, pl, pl, dp, _, rfl, ite2 (fun h => ?_) (fun _ => ?_)⟩
      · rw [PySem.SeqAt.eqv_refl_plain _ pl] at h
        cases h
      have l12 : LS p c [T1, T2, T3] H11 H12 := (l11.self.tb tall).sm sde
      have et12 := sde _ _ etd
      clear hra hrb hrc hrd da db
      have shortT : ∀ v ∈ ([.str (Sg (labL l)), .str (Sg (slashL ps)), .str (Sg (idL n)), .str (Sg (vxL x))] : List V), ∃ z : Str, v = .str z ∧ z.length ≤ 10000 := by
        intro v hv
        simp only [List.mem_cons, List.not_mem_nil, or_false] at hv
        rcases hv with rfl | rfl | rfl | rfl
        · exact ⟨_, rfl, by rw [lens]; omega⟩
        · exact ⟨_, rfl, by rw [lens]; omega⟩
        · exact ⟨_, rfl, by rw [lens]; omega⟩
        · exact ⟨_, rfl, by rw [lens]; omega⟩
      refine ⟨_, rfl, by decide, by decide, for_range (n := 8) (fun k σ H' => ∃ y9 y10 y11 y12 : Option V, σ = [some (.ref a0), some (.ref p), some (.ref la), some (.ref pa), some (.ref na), some (.ref va), some (.str (Sg (markL l.2))), some (.str (Sg (labL l))), some (.ref t), y9, y10, y11, y12] ∧ LS p c [T1, T2, T3] H12 H') ⟨none, none, none, none, rfl, l12.self⟩ ?_ ?_⟩
      · rintro k σ H13 hk ⟨y9, y10, y11, y12, rfl, l13⟩
        have et13 := l13.ou t _ tpc.1 tpc.2 tTs et12
        refine ⟨_, rfl, _, rfl, _, rfl, p, c, t, _, rfl, et13, tpc.1, tpc.2, by simp, by simp, l13.st, fun H14 v hv st14 d14 => ?_⟩
        obtain ⟨z, rfl, lz⟩ := shortT v hv
        have l14 := l13.dr ((Dr.refl l13.st).drawn st14 d14)
        refine ⟨p, c, z, rfl, lz, l14.st, fun H15 y d15 ly => ?_⟩
        have l15 := l14.dr d15
        -- labels
        refine ⟨_, rfl, y, rfl, by omega, l15.g, fun H16 v16 t16 hv16 => ?_⟩
        have l16 := l15.tb t16
        dsimp only [tNext, tSeq, tIfS, tAsg, gName, tC]
        refine or_decG (Rel := Same) (fun _ _ _ => same_trans) (p := False) (q := False) (fun R k => ⟨_, rfl, rfl, _, rfl, y, rfl, by omega, fun Hx sx => ⟨rfl, _, rfl, to_dec ?_ (k _ sx)⟩⟩)
          (fun _ Hx sx R k => and_dec (p := (readLab (tl y)).isSome = true) (q := False) (fun R k => ⟨_, rfl, rfl, _, rfl, to_dec ?_ (k _ same_refl)⟩) (fun hs Hy sy R k => ?_) (fun Hz sz => to_dec (by simp) (k _ sz))) fun Hy sy => ite2 (fun h => absurd (of_decide_eq_true h) (by simp)) (fun _ => ?_)
        · rw [lawLab_eq, told_is hv16 (fun _ h => by obtain ⟨_, _, e, _⟩ := h; rw [e]; simp)]
          simp
        · rw [told_is hv16 (fun _ h => by obtain ⟨_, _, e, _⟩ := h; rw [e]; simp)]
          simp
        · obtain ⟨l', e⟩ := Option.isSome_iff_exists.mp hs
          obtain ⟨b1, b2⟩ := readLab_back e
          rw [e] at hv16
          have hv' : LabAt H16 v16 l' := hv16
          refine ⟨_, rfl, v16, l', rfl, hv'.ts (Same.ts (same_trans sx sy)), b1.sm, fun Hz sz => ⟨_, rfl, rfl, _, rfl, to_dec ?_ (k _ sz)⟩⟩
          rw [b2]
          simp
        have lA := l16.sm sy
        -- paths
        refine ⟨_, rfl, y, rfl, by omega, lA.g, fun H17 v17 t17 hv17 => ?_⟩
        have lB := lA.tb t17
        clear hv16
        refine or_decG (Rel := Same) (fun _ _ _ => same_trans) (p := False) (q := False) (fun R k => ⟨_, rfl, rfl, _, rfl, y, rfl, by omega, fun Hx sx => ⟨rfl, _, rfl, to_dec ?_ (k _ sx)⟩⟩)
          (fun _ Hx sx R k => and_dec (p := (readPath (tl y)).isSome = true) (q := False) (fun R k => ⟨_, rfl, rfl, _, rfl, to_dec ?_ (k _ same_refl)⟩) (fun hs Hy sy R k => ?_) (fun Hz sz => to_dec (by simp) (k _ sz))) fun HB sB => ite2 (fun h => absurd (of_decide_eq_true h) (by simp)) (fun _ => ?_)
        · rw [lawPath_eq, told_is hv17 (fun _ h => by obtain ⟨_, e, _⟩ := h; rw [e]; simp)]
          simp
        · rw [told_is hv17 (fun _ h => by obtain ⟨_, e, _⟩ := h; rw [e]; simp)]
          simp
        · obtain ⟨l', e⟩ := Option.isSome_iff_exists.mp hs
          obtain ⟨b1, b2⟩ := readPath_back e
          rw [e] at hv17
          have hv' : PathAt H17 v17 l' := hv17
          refine ⟨_, rfl, v17, l', rfl, hv'.ts (Same.ts (same_trans sx sy)), path_sm b1, ⟨_, rfl, rfl, _, rfl, to_dec ?_ (k _ same_refl)⟩⟩
          rw [b2]
          simp
        have lC := lB.sm sB
        clear hv17
        -- ids
        refine ⟨_, rfl, y, rfl, by omega, lC.g, fun H18 v18 t18 hv18 => ?_⟩
        have lD := lC.tb t18
        refine or_decG (Rel := Same) (fun _ _ _ => same_trans) (p := False) (q := False) (fun R k => ⟨_, rfl, rfl, _, rfl, ⟨_, rfl⟩, y, _, rfl, rfl, by decide +kernel, by omega, fun p2 np2 => ?_⟩)
          (fun _ Hx sx R k => and_dec (p := (readNm (tl y)).isSome = true) (q := False) (fun R k => ⟨_, rfl, rfl, _, rfl, to_dec ?_ (k _ same_refl)⟩) (fun hs Hy sy R k => ?_) (fun Hz sz => to_dec (by simp) (k _ sz))) fun HB18 sB18 => ite2 (fun h => absurd (of_decide_eq_true h) (by simp)) (fun _ => ?_)
        · rw [show Str.ofString "." = ⟨#[46]⟩ by decide +kernel, split_words]
          refine ⟨p2, cutAt 46 (tl y), rfl, upd_same, fun l hl => by have := (cut_len 46 (tl y)).2 l hl; have := len_tl y; omega, fun Hx sx => ⟨rfl, _, rfl, to_dec ?_ (k _ (same_trans (same_new np2) sx))⟩⟩
          have es : lawId (cutAt 46 (tl y)) = (readNm (tl y)).isSome := lawId_eq _
          rw [es, told_is hv18 (fun _ h => by obtain ⟨_, _, e, _⟩ := h; rw [e]; simp)]
          simp
        · rw [told_is hv18 (fun _ h => by obtain ⟨_, _, e, _⟩ := h; rw [e]; simp)]
          simp
        · obtain ⟨l', e⟩ := Option.isSome_iff_exists.mp hs
          obtain ⟨b1, b2⟩ := readNm_back e
          rw [e] at hv18
          have hv' : NmAt H18 v18 l' := hv18
          refine ⟨_, rfl, v18, l', rfl, hv'.ts (Same.ts (same_trans sx sy)), b1.sm, fun Hz sz => ⟨_, rfl, rfl, _, rfl, to_dec ?_ (k _ sz)⟩⟩
          rw [b2]
          simp
        have lE := lD.sm sB18
        clear hv18
        -- vertices
        refine ⟨_, rfl, y, rfl, by omega, lE.g, fun H19 v19 t19 hv19 => ?_⟩
        have lF := lE.tb t19
        refine or_decG (Rel := Same) (fun _ _ _ => same_trans) (p := False) (q := False) (fun R k => ⟨_, rfl, rfl, _, rfl, ⟨_, rfl⟩, y, _, rfl, rfl, by decide +kernel, by omega, fun p2 np2 => ?_⟩)
          (fun _ Hx sx R k => and_dec (p := (readVx (tl y)).isSome = true) (q := False) (fun R k => ⟨_, rfl, rfl, _, rfl, to_dec ?_ (k _ same_refl)⟩) (fun hs Hy sy R k => ?_) (fun Hz sz => to_dec (by simp) (k _ sz))) fun HB19 sB19 => ite2 (fun h => absurd (of_decide_eq_true h) (by simp)) (fun _ => ?_)
        · rw [show Str.ofString "." = ⟨#[46]⟩ by decide +kernel, split_words]
          refine ⟨p2, cutAt 46 (tl y), rfl, upd_same, fun l hl => by have := (cut_len 46 (tl y)).2 l hl; have := len_tl y; omega, fun Hx sx => ⟨rfl, _, rfl, to_dec ?_ (k _ (same_trans (same_new np2) sx))⟩⟩
          have es : lawVx (cutAt 46 (tl y)) = (readVx (tl y)).isSome := lawVx_eq _
          rw [es, told_is hv19 (fun _ h => by obtain ⟨_, _, e, _⟩ := h; rw [e]; simp)]
          simp
        · rw [told_is hv19 (fun _ h => by obtain ⟨_, _, e, _⟩ := h; rw [e]; simp)]
          simp
        · obtain ⟨l', e⟩ := Option.isSome_iff_exists.mp hs
          obtain ⟨b1, b2⟩ := readVx_back e
          rw [e] at hv19
          have hv' : VxAt H19 v19 l' := hv19
          refine ⟨_, rfl, v19, l', rfl, hv'.ts (Same.ts (same_trans sx sy)), b1.sm, fun Hz sz => ⟨_, rfl, rfl, _, rfl, to_dec ?_ (k _ sz)⟩⟩
          rw [b2]
          simp
        have lG := lF.sm sB19
        clear hv19
        exact ⟨_, _, _, _, rfl, lG⟩
      · rintro σ H13 ⟨y9, y10, y11, y12, rfl, l13⟩
        exact q _
end
end K20
namespace K20
open PySem PySem.Spec PyProof.Rows L2 TR QR
theorem all_mk {l : PySem.W.OpenLaw} {q : Program} {w : World} {K : PySem.W.Frag} {h : Heap} {mg : Str → Option Value} {fa : Addr} (X : K.In h) (G : h.Ns mainGlobals mg) (hfa : mg "law" = some (.ref fa)) (tabs : GX.AllTabs q K mg h) (hrecT1 : ((recsOf q).any fun e => e.name == ("is_word" : Str)) = true) (hrecT2 : ((recsOf q).any fun e => e.name == ("is_label" : Str)) = true) (hrecT3 : ((recsOf q).any fun e => e.name == ("is_path" : Str)) = true)
    {fS fD fLL fP fLW fLP fLN fLV fTU fW fN fTO fWI fIL fRL fIP fRP fIH fII fRI fIV fRV fSL fSH fSI fSV fGL fGP fGN fGI fGV fLAW : Addr} {odS anS odD anD odLL anLL odP anP odLW anLW odLP anLP odLN anLN odLV anLV odTU anTU odW anW odN anN odTO anTO odWI anWI odIL anIL odRL anRL odIP anIP odRP anRP odIH anIH odII anII odRI anRI odIV anIV odRV anRV odSL anSL odSH anSH odSI anSI odSV anSV odGL anGL odGP anGP odGN anGN odGI anGI odGV anGV odLAW anLAW : Option Addr} {slS slD slLL slP slLW slLP slLN slLV slTU slW slN slTO slWI slIL slRL slIP slRP slIH slII slRI slIV slRV slSL slSH slSI slSV slGL slGP slGN slGI slGV slLAW : Array (Option Value)}
    {ocS kVS dcS pmS ctS cdS ocD kVD dcD pmD ctD cdD ocLL kVLL dcLL pmLL ctLL cdLL ocP kVP dcP pmP ctP cdP ocLW kVLW dcLW pmLW ctLW cdLW ocLP kVLP dcLP pmLP ctLP cdLP ocLN kVLN dcLN pmLN ctLN cdLN ocLV kVLV dcLV pmLV ctLV cdLV ocTU kVTU dcTU pmTU ctTU cdTU ocW kVW dcW pmW ctW ocN kVN dcN pmN ctN cdN ocTO kVTO dcTO pmTO ctTO cdTO ocWI kVWI dcWI pmWI ctWI cdWI ocIL kVIL dcIL pmIL ctIL ocRL kVRL dcRL pmRL ctRL cdRL ocIP kVIP dcIP pmIP ctIP ocRP kVRP dcRP pmRP ctRP cdRP ocIH kVIH dcIH pmIH ctIH cdIH ocII kVII dcII pmII ctII cdII ocRI kVRI dcRI pmRI ctRI cdRI ocIV kVIV dcIV pmIV ctIV cdIV ocRV kVRV dcRV pmRV ctRV cdRV ocSL kVSL dcSL pmSL ctSL cdSL ocSH kVSH dcSH pmSH ctSH cdSH ocSI kVSI dcSI pmSI ctSI cdSI ocSV kVSV dcSV pmSV ctSV cdSV ocGL kVGL dcGL pmGL ctGL cdGL ocGP kVGP dcGP pmGP ctGP cdGP ocGN kVGN dcGN pmGN ctGN cdGN ocGI kVGI dcGI pmGI ctGI cdGI ocGV kVGV dcGV pmGV ctGV cdGV ocLAW kVLAW dcLAW pmLAW ctLAW cdLAW : Value}
    {cW T1 cIL T2 cIP T3 : Addr} {eW eIL eIP : Value} {ddW ddIL ddIP : Option Addr} {vsW vsIL vsIP : Array Value} {ssW ssIL ssIP : Array (Option Value)}
    {kLE kDI kMC : Tok}
    (aS : PySem.W.nsIn K mainGlobals "_law_state" = some (some (.ref fS)))
    (lS : K.lookup fS = some ⟨ocS, odS, .func (PySem.W.fnOf "_law_state" "_law_state" (defArgs sState) (defBody sState) (defScope sState) .none kVS dcS pmS anS cdS ctS), slS⟩)
    (cS1 : PySem.W.codeIn K cdS "_law_state" = true) (kS1 : PySem.W.keepIn K (.ref fS) = true)
    (aD : PySem.W.nsIn K mainGlobals "_law_draw" = some (some (.ref fD)))
    (lD : K.lookup fD = some ⟨ocD, odD, .func (PySem.W.fnOf "_law_draw" "_law_draw" (defArgs sDraw) (defBody sDraw) (defScope sDraw) .none kVD dcD pmD anD cdD ctD), slD⟩)
    (cD1 : PySem.W.codeIn K cdD "_law_draw" = true) (kD1 : PySem.W.keepIn K (.ref fD) = true)
    (aLL : PySem.W.nsIn K mainGlobals "_law_label" = some (some (.ref fLL)))
    (lLL : K.lookup fLL = some ⟨ocLL, odLL, .func (PySem.W.fnOf "_law_label" "_law_label" (defArgs sLL) (defBody sLL) (defScope sLL) .none kVLL dcLL pmLL anLL cdLL ctLL), slLL⟩)
    (cLL1 : PySem.W.codeIn K cdLL "_law_label" = true) (kLL1 : PySem.W.keepIn K (.ref fLL) = true)
    (aP : PySem.W.nsIn K mainGlobals "_law_pick" = some (some (.ref fP)))
    (lP : K.lookup fP = some ⟨ocP, odP, .func (PySem.W.fnOf "_law_pick" "_law_pick" (defArgs sPick) (defBody sPick) (defScope sPick) .none kVP dcP pmP anP cdP ctP), slP⟩)
    (cP1 : PySem.W.codeIn K cdP "_law_pick" = true) (kP1 : PySem.W.keepIn K (.ref fP) = true)
    (aLW : PySem.W.nsIn K mainGlobals "_law_word" = some (some (.ref fLW)))
    (lLW : K.lookup fLW = some ⟨ocLW, odLW, .func (PySem.W.fnOf "_law_word" "_law_word" (defArgs sLW) (defBody sLW) (defScope sLW) .none kVLW dcLW pmLW anLW cdLW ctLW), slLW⟩)
    (cLW1 : PySem.W.codeIn K cdLW "_law_word" = true) (kLW1 : PySem.W.keepIn K (.ref fLW) = true)
    (aLP : PySem.W.nsIn K mainGlobals "_law_path" = some (some (.ref fLP)))
    (lLP : K.lookup fLP = some ⟨ocLP, odLP, .func (PySem.W.fnOf "_law_path" "_law_path" (defArgs sLP) (defBody sLP) (defScope sLP) .none kVLP dcLP pmLP anLP cdLP ctLP), slLP⟩)
    (cLP1 : PySem.W.codeIn K cdLP "_law_path" = true) (kLP1 : PySem.W.keepIn K (.ref fLP) = true)
    (aLN : PySem.W.nsIn K mainGlobals "_law_name" = some (some (.ref fLN)))
    (lLN : K.lookup fLN = some ⟨ocLN, odLN, .func (PySem.W.fnOf "_law_name" "_law_name" (defArgs sLN) (defBody sLN) (defScope sLN) .none kVLN dcLN pmLN anLN cdLN ctLN), slLN⟩)
    (cLN1 : PySem.W.codeIn K cdLN "_law_name" = true) (kLN1 : PySem.W.keepIn K (.ref fLN) = true)
    (aLV : PySem.W.nsIn K mainGlobals "_law_vertex" = some (some (.ref fLV)))
    (lLV : K.lookup fLV = some ⟨ocLV, odLV, .func (PySem.W.fnOf "_law_vertex" "_law_vertex" (defArgs sLV) (defBody sLV) (defScope sLV) .none kVLV dcLV pmLV anLV cdLV ctLV), slLV⟩)
    (cLV1 : PySem.W.codeIn K cdLV "_law_vertex" = true) (kLV1 : PySem.W.keepIn K (.ref fLV) = true)
    (aTU : PySem.W.nsIn K mainGlobals "_law_turned" = some (some (.ref fTU)))
    (lTU : K.lookup fTU = some ⟨ocTU, odTU, .func (PySem.W.fnOf "_law_turned" "_law_turned" (defArgs sTU) (defBody sTU) (defScope sTU) .none kVTU dcTU pmTU anTU cdTU ctTU), slTU⟩)
    (cTU1 : PySem.W.codeIn K cdTU "_law_turned" = true) (kTU1 : PySem.W.keepIn K (.ref fTU) = true)
    (aW : PySem.W.nsIn K mainGlobals "is_word" = some (some (.ref fW)))
    (lW : K.lookup fW = some ⟨ocW, odW, .func (PySem.W.fnOf "is_word" "is_word" (defArgs sWord) (defBody sWord) (defScope sWord) .none kVW dcW pmW anW (.ref cW) ctW), slW⟩)
    (cW1 : PySem.W.codeIn K (.ref cW) "is_word" = true) (kW1 : PySem.W.keepIn K (.ref fW) = true)
    (aN : PySem.W.nsIn K mainGlobals "read_number" = some (some (.ref fN)))
    (lN : K.lookup fN = some ⟨ocN, odN, .func (PySem.W.fnOf "read_number" "read_number" (defArgs sNum) (defBody sNum) (defScope sNum) .none kVN dcN pmN anN cdN ctN), slN⟩)
    (cN1 : PySem.W.codeIn K cdN "read_number" = true) (kN1 : PySem.W.keepIn K (.ref fN) = true)
    (aTO : PySem.W.nsIn K mainGlobals "is_tuple_of" = some (some (.ref fTO)))
    (lTO : K.lookup fTO = some ⟨ocTO, odTO, .func (PySem.W.fnOf "is_tuple_of" "is_tuple_of" (defArgs sTO) (defBody sTO) (defScope sTO) .none kVTO dcTO pmTO anTO cdTO ctTO), slTO⟩)
    (cTO1 : PySem.W.codeIn K cdTO "is_tuple_of" = true) (kTO1 : PySem.W.keepIn K (.ref fTO) = true)
    (aWI : PySem.W.nsIn K mainGlobals "is_within" = some (some (.ref fWI)))
    (lWI : K.lookup fWI = some ⟨ocWI, odWI, .func (PySem.W.fnOf "is_within" "is_within" (defArgs sWI) (defBody sWI) (defScope sWI) .none kVWI dcWI pmWI anWI cdWI ctWI), slWI⟩)
    (cWI1 : PySem.W.codeIn K cdWI "is_within" = true) (kWI1 : PySem.W.keepIn K (.ref fWI) = true)
    (aIL : PySem.W.nsIn K mainGlobals "is_label" = some (some (.ref fIL)))
    (lIL : K.lookup fIL = some ⟨ocIL, odIL, .func (PySem.W.fnOf "is_label" "is_label" (defArgs sIL) (defBody sIL) (defScope sIL) .none kVIL dcIL pmIL anIL (.ref cIL) ctIL), slIL⟩)
    (cIL1 : PySem.W.codeIn K (.ref cIL) "is_label" = true) (kIL1 : PySem.W.keepIn K (.ref fIL) = true)
    (aRL : PySem.W.nsIn K mainGlobals "read_label" = some (some (.ref fRL)))
    (lRL : K.lookup fRL = some ⟨ocRL, odRL, .func (PySem.W.fnOf "read_label" "read_label" (defArgs sRL) (defBody sRL) (defScope sRL) .none kVRL dcRL pmRL anRL cdRL ctRL), slRL⟩)
    (cRL1 : PySem.W.codeIn K cdRL "read_label" = true) (kRL1 : PySem.W.keepIn K (.ref fRL) = true)
    (aIP : PySem.W.nsIn K mainGlobals "is_path" = some (some (.ref fIP)))
    (lIP : K.lookup fIP = some ⟨ocIP, odIP, .func (PySem.W.fnOf "is_path" "is_path" (defArgs sIP) (defBody sIP) (defScope sIP) .none kVIP dcIP pmIP anIP (.ref cIP) ctIP), slIP⟩)
    (cIP1 : PySem.W.codeIn K (.ref cIP) "is_path" = true) (kIP1 : PySem.W.keepIn K (.ref fIP) = true)
    (aRP : PySem.W.nsIn K mainGlobals "read_path" = some (some (.ref fRP)))
    (lRP : K.lookup fRP = some ⟨ocRP, odRP, .func (PySem.W.fnOf "read_path" "read_path" (defArgs sRP) (defBody sRP) (defScope sRP) .none kVRP dcRP pmRP anRP cdRP ctRP), slRP⟩)
    (cRP1 : PySem.W.codeIn K cdRP "read_path" = true) (kRP1 : PySem.W.keepIn K (.ref fRP) = true)
    (aIH : PySem.W.nsIn K mainGlobals "is_hand" = some (some (.ref fIH)))
    (lIH : K.lookup fIH = some ⟨ocIH, odIH, .func (PySem.W.fnOf "is_hand" "is_hand" (defArgs sIH) (defBody sIH) (defScope sIH) .none kVIH dcIH pmIH anIH cdIH ctIH), slIH⟩)
    (cIH1 : PySem.W.codeIn K cdIH "is_hand" = true) (kIH1 : PySem.W.keepIn K (.ref fIH) = true)
    (aII : PySem.W.nsIn K mainGlobals "is_id" = some (some (.ref fII)))
    (lII : K.lookup fII = some ⟨ocII, odII, .func (PySem.W.fnOf "is_id" "is_id" (defArgs sII) (defBody sII) (defScope sII) .none kVII dcII pmII anII cdII ctII), slII⟩)
    (cII1 : PySem.W.codeIn K cdII "is_id" = true) (kII1 : PySem.W.keepIn K (.ref fII) = true)
    (aRI : PySem.W.nsIn K mainGlobals "read_id" = some (some (.ref fRI)))
    (lRI : K.lookup fRI = some ⟨ocRI, odRI, .func (PySem.W.fnOf "read_id" "read_id" (defArgs sRI) (defBody sRI) (defScope sRI) .none kVRI dcRI pmRI anRI cdRI ctRI), slRI⟩)
    (cRI1 : PySem.W.codeIn K cdRI "read_id" = true) (kRI1 : PySem.W.keepIn K (.ref fRI) = true)
    (aIV : PySem.W.nsIn K mainGlobals "is_vertex" = some (some (.ref fIV)))
    (lIV : K.lookup fIV = some ⟨ocIV, odIV, .func (PySem.W.fnOf "is_vertex" "is_vertex" (defArgs sIV) (defBody sIV) (defScope sIV) .none kVIV dcIV pmIV anIV cdIV ctIV), slIV⟩)
    (cIV1 : PySem.W.codeIn K cdIV "is_vertex" = true) (kIV1 : PySem.W.keepIn K (.ref fIV) = true)
    (aRV : PySem.W.nsIn K mainGlobals "read_vertex" = some (some (.ref fRV)))
    (lRV : K.lookup fRV = some ⟨ocRV, odRV, .func (PySem.W.fnOf "read_vertex" "read_vertex" (defArgs sRV) (defBody sRV) (defScope sRV) .none kVRV dcRV pmRV anRV cdRV ctRV), slRV⟩)
    (cRV1 : PySem.W.codeIn K cdRV "read_vertex" = true) (kRV1 : PySem.W.keepIn K (.ref fRV) = true)
    (aSL : PySem.W.nsIn K mainGlobals "show_label" = some (some (.ref fSL)))
    (lSL : K.lookup fSL = some ⟨ocSL, odSL, .func (PySem.W.fnOf "show_label" "show_label" (defArgs sSL) (defBody sSL) (defScope sSL) .none kVSL dcSL pmSL anSL cdSL ctSL), slSL⟩)
    (cSL1 : PySem.W.codeIn K cdSL "show_label" = true) (kSL1 : PySem.W.keepIn K (.ref fSL) = true)
    (aSH : PySem.W.nsIn K mainGlobals "show_path" = some (some (.ref fSH)))
    (lSH : K.lookup fSH = some ⟨ocSH, odSH, .func (PySem.W.fnOf "show_path" "show_path" (defArgs sSH) (defBody sSH) (defScope sSH) .none kVSH dcSH pmSH anSH cdSH ctSH), slSH⟩)
    (cSH1 : PySem.W.codeIn K cdSH "show_path" = true) (kSH1 : PySem.W.keepIn K (.ref fSH) = true)
    (aSI : PySem.W.nsIn K mainGlobals "show_id" = some (some (.ref fSI)))
    (lSI : K.lookup fSI = some ⟨ocSI, odSI, .func (PySem.W.fnOf "show_id" "show_id" (defArgs sSI) (defBody sSI) (defScope sSI) .none kVSI dcSI pmSI anSI cdSI ctSI), slSI⟩)
    (cSI1 : PySem.W.codeIn K cdSI "show_id" = true) (kSI1 : PySem.W.keepIn K (.ref fSI) = true)
    (aSV : PySem.W.nsIn K mainGlobals "show_vertex" = some (some (.ref fSV)))
    (lSV : K.lookup fSV = some ⟨ocSV, odSV, .func (PySem.W.fnOf "show_vertex" "show_vertex" (defArgs sSV) (defBody sSV) (defScope sSV) .none kVSV dcSV pmSV anSV cdSV ctSV), slSV⟩)
    (cSV1 : PySem.W.codeIn K cdSV "show_vertex" = true) (kSV1 : PySem.W.keepIn K (.ref fSV) = true)
    (aGL : PySem.W.nsIn K mainGlobals "_law_is_label" = some (some (.ref fGL)))
    (lGL : K.lookup fGL = some ⟨ocGL, odGL, .func (PySem.W.fnOf "_law_is_label" "_law_is_label" (defArgs sGL) (defBody sGL) (defScope sGL) .none kVGL dcGL pmGL anGL cdGL ctGL), slGL⟩)
    (cGL1 : PySem.W.codeIn K cdGL "_law_is_label" = true) (kGL1 : PySem.W.keepIn K (.ref fGL) = true)
    (aGP : PySem.W.nsIn K mainGlobals "_law_is_path" = some (some (.ref fGP)))
    (lGP : K.lookup fGP = some ⟨ocGP, odGP, .func (PySem.W.fnOf "_law_is_path" "_law_is_path" (defArgs sGP) (defBody sGP) (defScope sGP) .none kVGP dcGP pmGP anGP cdGP ctGP), slGP⟩)
    (cGP1 : PySem.W.codeIn K cdGP "_law_is_path" = true) (kGP1 : PySem.W.keepIn K (.ref fGP) = true)
    (aGN : PySem.W.nsIn K mainGlobals "_law_is_number" = some (some (.ref fGN)))
    (lGN : K.lookup fGN = some ⟨ocGN, odGN, .func (PySem.W.fnOf "_law_is_number" "_law_is_number" (defArgs sGN) (defBody sGN) (defScope sGN) .none kVGN dcGN pmGN anGN cdGN ctGN), slGN⟩)
    (cGN1 : PySem.W.codeIn K cdGN "_law_is_number" = true) (kGN1 : PySem.W.keepIn K (.ref fGN) = true)
    (aGI : PySem.W.nsIn K mainGlobals "_law_is_id" = some (some (.ref fGI)))
    (lGI : K.lookup fGI = some ⟨ocGI, odGI, .func (PySem.W.fnOf "_law_is_id" "_law_is_id" (defArgs sGI) (defBody sGI) (defScope sGI) .none kVGI dcGI pmGI anGI cdGI ctGI), slGI⟩)
    (cGI1 : PySem.W.codeIn K cdGI "_law_is_id" = true) (kGI1 : PySem.W.keepIn K (.ref fGI) = true)
    (aGV : PySem.W.nsIn K mainGlobals "_law_is_vertex" = some (some (.ref fGV)))
    (lGV : K.lookup fGV = some ⟨ocGV, odGV, .func (PySem.W.fnOf "_law_is_vertex" "_law_is_vertex" (defArgs sGV) (defBody sGV) (defScope sGV) .none kVGV dcGV pmGV anGV cdGV ctGV), slGV⟩)
    (cGV1 : PySem.W.codeIn K cdGV "_law_is_vertex" = true) (kGV1 : PySem.W.keepIn K (.ref fGV) = true)
    (aLAW : PySem.W.nsIn K mainGlobals "law" = some (some (.ref fLAW)))
    (lLAW : K.lookup fLAW = some ⟨ocLAW, odLAW, .func (PySem.W.fnOf "law" "law" (defArgs sLAW) (defBody sLAW) (defScope sLAW) .none kVLAW dcLAW pmLAW anLAW cdLAW ctLAW), slLAW⟩)
    (cLAW1 : PySem.W.codeIn K cdLAW "law" = true) (kLAW1 : PySem.W.keepIn K (.ref fLAW) = true)
    (tWc : K.lookup cW = some ⟨eW, ddW, .fields vsW, ssW⟩) (tWv : vsW[11]? = some (.ref T1)) (tWh : PySem.W.codeHdIn K cW T1 = true) (tWn : K.lookup T1 = none)
    (tILc : K.lookup cIL = some ⟨eIL, ddIL, .fields vsIL, ssIL⟩) (tILv : vsIL[11]? = some (.ref T2)) (tILh : PySem.W.codeHdIn K cIL T2 = true) (tILn : K.lookup T2 = none)
    (tIPc : K.lookup cIP = some ⟨eIP, ddIP, .fields vsIP, ssIP⟩) (tIPv : vsIP[11]? = some (.ref T3)) (tIPh : PySem.W.codeHdIn K cIP T3 = true) (tIPn : K.lookup T3 = none)
    (neT1T2 : T1 ≠ T2)
    (neT1T3 : T1 ≠ T3)
    (neT2T3 : T2 ≠ T3)
    (gLE0 : PySem.W.nsIn K mainGlobals "LETTERS" = some (some (.str "abcdefghijklmnopqrstuvwxyz" kLE)))
    (gDI0 : PySem.W.nsIn K mainGlobals "DIGITS" = some (some (.str "0123456789" kDI)))
    (gMC0 : PySem.W.nsIn K mainGlobals "MOST_CHANGES" = some (some (.int 12 kMC)))
    (z_len : PySem.W.nsIn K mainGlobals "len" = some none)
    (z_range : PySem.W.nsIn K mainGlobals "range" = some none)
    (z_int : PySem.W.nsIn K mainGlobals "int" = some none)
    (z_abs : PySem.W.nsIn K mainGlobals "abs" = some none)
    (z_list : PySem.W.nsIn K mainGlobals "list" = some none)
    (z_isinstance : PySem.W.nsIn K mainGlobals "isinstance" = some none)
    (z_tuple : PySem.W.nsIn K mainGlobals "tuple" = some none)
    (z_str : PySem.W.nsIn K mainGlobals "str" = some none)
    (z_all : PySem.W.nsIn K mainGlobals "all" = some none)
    : GX.LawC l w K 63 "script" mg fa h := by
  have e := hfa.symm.trans (PySem.W.mg_of X G aLAW)
  cases e
  have FS := fun_mk (st := sState) lS cS1 kS1
  have bS := FS.binds (ps := ["script"]) fun _ _ _ _ _ _ us hl => match us, hl with | [_], _ => rfl
  have gS := PySem.W.mg_of X G aS
  have FD := fun_mk (st := sDraw) lD cD1 kD1
  have bD := FD.binds (ps := ["state", "many"]) fun _ _ _ _ _ _ us hl => match us, hl with | [_, _], _ => rfl
  have gD := PySem.W.mg_of X G aD
  have FLL := fun_mk (st := sLL) lLL cLL1 kLL1
  have bLL := FLL.binds (ps := ["state"]) fun _ _ _ _ _ _ us hl => match us, hl with | [_], _ => rfl
  have gLL := PySem.W.mg_of X G aLL
  have FP := fun_mk (st := sPick) lP cP1 kP1
  have bP := FP.binds (ps := ["state", "row"]) fun _ _ _ _ _ _ us hl => match us, hl with | [_, _], _ => rfl
  have gP := PySem.W.mg_of X G aP
  have FLW := fun_mk (st := sLW) lLW cLW1 kLW1
  have bLW := FLW.binds (ps := ["state", "letters", "most"]) fun _ _ _ _ _ _ us hl => match us, hl with | [_, _, _], _ => rfl
  have gLW := PySem.W.mg_of X G aLW
  have FLP := fun_mk (st := sLP) lLP cLP1 kLP1
  have bLP := FLP.binds (ps := ["state"]) fun _ _ _ _ _ _ us hl => match us, hl with | [_], _ => rfl
  have gLP := PySem.W.mg_of X G aLP
  have FLN := fun_mk (st := sLN) lLN cLN1 kLN1
  have bLN := FLN.binds (ps := ["state", "label"]) fun _ _ _ _ _ _ us hl => match us, hl with | [_, _], _ => rfl
  have gLN := PySem.W.mg_of X G aLN
  have FLV := fun_mk (st := sLV) lLV cLV1 kLV1
  have bLV := FLV.binds (ps := ["state", "label"]) fun _ _ _ _ _ _ us hl => match us, hl with | [_, _], _ => rfl
  have gLV := PySem.W.mg_of X G aLV
  have FTU := fun_mk (st := sTU) lTU cTU1 kTU1
  have bTU := FTU.binds (ps := ["state", "text"]) fun _ _ _ _ _ _ us hl => match us, hl with | [_, _], _ => rfl
  have gTU := PySem.W.mg_of X G aTU
  have bW : Binds K (PySem.W.fnOf "is_word" "is_word" (defArgs sWord) (defBody sWord) (defScope sWord) .none kVW dcW pmW anW (.ref cW) ctW) ["text", "signs", "most"] [] := .all fun us hl => match us, hl with | [_, _, _], _ => rfl
  have gW := PySem.W.mg_of X G aW
  have FN := fun_mk (st := sNum) lN cN1 kN1
  have bN := FN.binds (ps := ["text", "most"]) fun _ _ _ _ _ _ us hl => match us, hl with | [_, _], _ => rfl
  have gN := PySem.W.mg_of X G aN
  have FTO := fun_mk (st := sTO) lTO cTO1 kTO1
  have bTO := FTO.binds (ps := ["value", "size"]) fun _ _ _ _ _ _ us hl => match us, hl with | [_, _], _ => rfl
  have gTO := PySem.W.mg_of X G aTO
  have FWI := fun_mk (st := sWI) lWI cWI1 kWI1
  have bWI := FWI.binds (ps := ["number", "least", "most"]) fun _ _ _ _ _ _ us hl => match us, hl with | [_, _, _], _ => rfl
  have gWI := PySem.W.mg_of X G aWI
  have bIL : Binds K (PySem.W.fnOf "is_label" "is_label" (defArgs sIL) (defBody sIL) (defScope sIL) .none kVIL dcIL pmIL anIL (.ref cIL) ctIL) ["label"] [] := .all fun us hl => match us, hl with | [_], _ => rfl
  have gIL := PySem.W.mg_of X G aIL
  have FRL := fun_mk (st := sRL) lRL cRL1 kRL1
  have bRL := FRL.binds (ps := ["text"]) fun _ _ _ _ _ _ us hl => match us, hl with | [_], _ => rfl
  have gRL := PySem.W.mg_of X G aRL
  have bIP : Binds K (PySem.W.fnOf "is_path" "is_path" (defArgs sIP) (defBody sIP) (defScope sIP) .none kVIP dcIP pmIP anIP (.ref cIP) ctIP) ["path"] [] := .all fun us hl => match us, hl with | [_], _ => rfl
  have gIP := PySem.W.mg_of X G aIP
  have FRP := fun_mk (st := sRP) lRP cRP1 kRP1
  have bRP := FRP.binds (ps := ["text"]) fun _ _ _ _ _ _ us hl => match us, hl with | [_], _ => rfl
  have gRP := PySem.W.mg_of X G aRP
  have FIH := fun_mk (st := sIH) lIH cIH1 kIH1
  have bIH := FIH.binds (ps := ["name"]) fun _ _ _ _ _ _ us hl => match us, hl with | [_], _ => rfl
  have gIH := PySem.W.mg_of X G aIH
  have FII := fun_mk (st := sII) lII cII1 kII1
  have bII := FII.binds (ps := ["name"]) fun _ _ _ _ _ _ us hl => match us, hl with | [_], _ => rfl
  have gII := PySem.W.mg_of X G aII
  have FRI := fun_mk (st := sRI) lRI cRI1 kRI1
  have bRI := FRI.binds (ps := ["text"]) fun _ _ _ _ _ _ us hl => match us, hl with | [_], _ => rfl
  have gRI := PySem.W.mg_of X G aRI
  have FIV := fun_mk (st := sIV) lIV cIV1 kIV1
  have bIV := FIV.binds (ps := ["vertex"]) fun _ _ _ _ _ _ us hl => match us, hl with | [_], _ => rfl
  have gIV := PySem.W.mg_of X G aIV
  have FRV := fun_mk (st := sRV) lRV cRV1 kRV1
  have bRV := FRV.binds (ps := ["text"]) fun _ _ _ _ _ _ us hl => match us, hl with | [_], _ => rfl
  have gRV := PySem.W.mg_of X G aRV
  have FSL := fun_mk (st := sSL) lSL cSL1 kSL1
  have bSL := FSL.binds (ps := ["label"]) fun _ _ _ _ _ _ us hl => match us, hl with | [_], _ => rfl
  have gSL := PySem.W.mg_of X G aSL
  have FSH := fun_mk (st := sSH) lSH cSH1 kSH1
  have bSH := FSH.binds (ps := ["path"]) fun _ _ _ _ _ _ us hl => match us, hl with | [_], _ => rfl
  have gSH := PySem.W.mg_of X G aSH
  have FSI := fun_mk (st := sSI) lSI cSI1 kSI1
  have bSI := FSI.binds (ps := ["name"]) fun _ _ _ _ _ _ us hl => match us, hl with | [_], _ => rfl
  have gSI := PySem.W.mg_of X G aSI
  have FSV := fun_mk (st := sSV) lSV cSV1 kSV1
  have bSV := FSV.binds (ps := ["vertex"]) fun _ _ _ _ _ _ us hl => match us, hl with | [_], _ => rfl
  have gSV := PySem.W.mg_of X G aSV
  have FGL := fun_mk (st := sGL) lGL cGL1 kGL1
  have bGL := FGL.binds (ps := ["text"]) fun _ _ _ _ _ _ us hl => match us, hl with | [_], _ => rfl
  have gGL := PySem.W.mg_of X G aGL
  have FGP := fun_mk (st := sGP) lGP cGP1 kGP1
  have bGP := FGP.binds (ps := ["text"]) fun _ _ _ _ _ _ us hl => match us, hl with | [_], _ => rfl
  have gGP := PySem.W.mg_of X G aGP
  have FGN := fun_mk (st := sGN) lGN cGN1 kGN1
  have bGN := FGN.binds (ps := ["text", "least", "most"]) fun _ _ _ _ _ _ us hl => match us, hl with | [_, _, _], _ => rfl
  have gGN := PySem.W.mg_of X G aGN
  have FGI := fun_mk (st := sGI) lGI cGI1 kGI1
  have bGI := FGI.binds (ps := ["parts"]) fun _ _ _ _ _ _ us hl => match us, hl with | [_], _ => rfl
  have gGI := PySem.W.mg_of X G aGI
  have FGV := fun_mk (st := sGV) lGV cGV1 kGV1
  have bGV := FGV.binds (ps := ["parts"]) fun _ _ _ _ _ _ us hl => match us, hl with | [_], _ => rfl
  have gGV := PySem.W.mg_of X G aGV
  have gLAW := PySem.W.mg_of X G aLAW
  have gLE := PySem.W.mg_of X G gLE0
  have gDI := PySem.W.mg_of X G gDI0
  have gMC := PySem.W.mg_of X G gMC0
  have m_len := PySem.W.mg_none_of X G z_len
  have m_range := PySem.W.mg_none_of X G z_range
  have m_int := PySem.W.mg_none_of X G z_int
  have m_abs := PySem.W.mg_none_of X G z_abs
  have m_list := PySem.W.mg_none_of X G z_list
  have m_isinstance := PySem.W.mg_none_of X G z_isinstance
  have m_tuple := PySem.W.mg_none_of X G z_tuple
  have m_str := PySem.W.mg_none_of X G z_str
  have m_all := PySem.W.mg_none_of X G z_all
  have emW : h.get? T1 = some { cls := .none, data := .fields #[] } := tabs "is_word" fW hrecT1 gW cW T1 _ _ _ _ _ _ lW rfl rfl tWc tWv
  have emIL : h.get? T2 = some { cls := .none, data := .fields #[] } := tabs "is_label" fIL hrecT2 gIL cIL T2 _ _ _ _ _ _ lIL rfl rfl tILc tILv
  have emIP : h.get? T3 = some { cls := .none, data := .fields #[] } := tabs "is_path" fIP hrecT3 gIP cIP T3 _ _ _ _ _ _ lIP rfl rfl tIPc tIPv
  have all_ : ∀ {P : Addr × Addr → Prop}, P (cW, T1) → P (cIL, T2) → P (cIP, T3) →  (∀ p ∈ ([(cW, T1), (cIL, T2), (cIP, T3)] : List (Addr × Addr)), P p) := fun xW xIL xIP p hp => by
    simp only [List.mem_cons, List.not_mem_nil, or_false] at hp
    rcases hp with rfl | rfl | rfl
    · exact xW
    · exact xIL
    · exact xIP
  refine ⟨PySem.W.fnOf "law" "law" (defArgs sLAW) (defBody sLAW) (defScope sLAW) .none kVLAW dcLAW pmLAW anLAW cdLAW ctLAW, [(cW, T1), (cIL, T2), (cIP, T3)], spLaw K T1 T2 T3, all_ emW emIL emIP, all_ tWn tILn tIPn, all_ (PySem.W.codeHd_of_K X tWh) (PySem.W.codeHd_of_K X tILh) (PySem.W.codeHd_of_K X tIPh), fun s v => .of_eq rfl, ?_, ?_⟩
  · intro H a ns hl hbits hH hS
    have qW := hH (cW, T1) (by simp)
    have qIL := hH (cIL, T2) (by simp)
    have qIP := hH (cIP, T3) (by simp)
    exact ⟨a, ns, rfl, hS, hl, ⟨#[], qW, trivial⟩, ⟨#[], qIL, trivial⟩, ⟨#[], qIP, trivial⟩, neT1T2, neT1T3, neT2T3, fun _ => rfl⟩
  · intro base _ _ hT
    have TBW := hT (cW, T1) (by simp)
    have TBIL := hT (cIL, T2) (by simp)
    have TBIP := hT (cIP, T3) (by simp)
    have GS := ok_state (P := l.prog) (w := w) (mg := mg) (base := base) FS m_abs m_int
    have GD := ok_draw (P := l.prog) (w := w) (mg := mg) (base := base) FD m_len m_int
    have GLL := ok_LL (P := l.prog) (w := w) (mg := mg) (base := base) FLL GD bD gD kD1 m_range m_tuple
    have GP := ok_pick (P := l.prog) (w := w) (mg := mg) (base := base) FP GD bD gD kD1 m_len
    have GLW := ok_LW (P := l.prog) (w := w) (mg := mg) (base := base) FLW GD bD gD kD1 GP bP gP kP1 m_range m_list
    have GLP := ok_LP (P := l.prog) (w := w) (mg := mg) (base := base) FLP GD bD gD kD1 GLW bLW gLW kLW1 m_range m_tuple
    have GLN := ok_LN (P := l.prog) (w := w) (mg := mg) (base := base) FLN GD bD gD kD1 GP bP gP kP1 GLW bLW gLW kLW1
    have GLV := ok_LV (P := l.prog) (w := w) (mg := mg) (base := base) FLV GD bD gD kD1 GP bP gP kP1 GLN bLN gLN kLN1
    have GTU := ok_TU (P := l.prog) (w := w) (mg := mg) (base := base) FTU GD bD gD kD1 GP bP gP kP1 m_len m_range
    have GW := ok_word (P := l.prog) (w := w) (mg := mg) (base := base) lW cW1 TBW m_len m_all
    have GN := ok_num (P := l.prog) (w := w) (mg := mg) (base := base) FN GW bW gW kW1 gDI m_len m_str m_int
    have GTO := ok_TO (P := l.prog) (w := w) (mg := mg) (base := base) FTO m_len m_isinstance m_tuple
    have GWI := ok_WI (P := l.prog) (w := w) (mg := mg) (base := base) FWI m_int m_isinstance
    have GIL := ok_IL (P := l.prog) (w := w) (mg := mg) (base := base) (Ts := [T1, T2, T3]) (by simp) lIL cIL1 TBIL GTO bTO gTO kTO1 GWI bWI gWI kWI1 m_isinstance m_tuple m_all m_range m_len
    have GRL := ok_RL (P := l.prog) (w := w) (mg := mg) (base := base) (T1 := T1) (Ts := [T1, T2, T3]) (by simp) FRL GN bN gN kN1 GIL bIL gIL kIL1 m_tuple
    have GIP := ok_IP (P := l.prog) (w := w) (mg := mg) (base := base) (T1 := T1) (T3 := T3) (Ts := [T1, T2, T3]) (by simp) (by simp) lIP cIP1 TBIP GW bW gW kW1 gLE gDI m_isinstance m_tuple m_len m_all m_str
    have GRP := ok_RP (P := l.prog) (w := w) (mg := mg) (base := base) (Ts := [T1, T2, T3]) FRP GIP bIP gIP kIP1 m_tuple
    have GIH := ok_IH (P := l.prog) (w := w) (mg := mg) (base := base) FIH GW bW gW kW1 gLE m_isinstance m_str
    have GII := ok_II (P := l.prog) (w := w) (mg := mg) (base := base) (T1 := T1) (Ts := [T1, T2, T3]) (by simp) FII GTO bTO gTO kTO1 GIL bIL gIL kIL1 GIH bIH gIH kIH1 GWI bWI gWI kWI1
    have GRI := ok_RI (P := l.prog) (w := w) (mg := mg) (base := base) (T1 := T1) (Ts := [T1, T2, T3]) (by simp) FRI GRL bRL gRL kRL1 GN bN gN kN1 GII bII gII kII1 m_len
    have GIV := ok_IV (P := l.prog) (w := w) (mg := mg) (base := base) (Ts := [T1, T2, T3]) FIV GTO bTO gTO kTO1 GII bII gII kII1 GWI bWI gWI kWI1 gMC
    have GRV := ok_RV (P := l.prog) (w := w) (mg := mg) (base := base) (T1 := T1) (Ts := [T1, T2, T3]) (by simp) FRV GRI bRI gRI kRI1 GN bN gN kN1 GIV bIV gIV kIV1 m_len
    have GSL := ok_SL (P := l.prog) (w := w) (mg := mg) (base := base) FSL m_str
    have GSH := ok_SH (P := l.prog) (w := w) (mg := mg) (base := base) FSH
    have GSI := ok_SI (P := l.prog) (w := w) (mg := mg) (base := base) FSI GSL bSL gSL kSL1
    have GSV := ok_SV (P := l.prog) (w := w) (mg := mg) (base := base) FSV GSI bSI gSI kSI1
    have GGL := ok_GL (P := l.prog) (w := w) (mg := mg) (base := base) FGL m_len m_range
    have GGP := ok_GP (P := l.prog) (w := w) (mg := mg) (base := base) FGP m_len
    have GGN := ok_GN (P := l.prog) (w := w) (mg := mg) (base := base) FGN m_len
    have GGI := ok_GI (P := l.prog) (w := w) (mg := mg) (base := base) FGI GGL bGL gGL kGL1 GGN bGN gGN kGN1 m_len
    have GGV := ok_GV (P := l.prog) (w := w) (mg := mg) (base := base) FGV GGI bGI gGI kGI1 GGN bGN gGN kGN1 m_len
    exact ok_LAW lLAW cLAW1 GS bS gS kS1 GLL bLL gLL kLL1 GLP bLP gLP kLP1 GLN bLN gLN kLN1 GLV bLV gLV kLV1 GSL bSL gSL kSL1 GSH bSH gSH kSH1 GSI bSI gSI kSI1 GSV bSV gSV kSV1 GRL bRL gRL kRL1 GRP bRP gRP kRP1 GRI bRI gRI kRI1 GRV bRV gRV kRV1 GTU bTU gTU kTU1 GP bP gP kP1 GGL bGL gGL kGL1 GGP bGP gGP kGP1 GGI bGI gGI kGI1 GGV bGV gGV kGV1 m_len m_range m_str
end K20
open PySem PySem.W PyProof.Rows
set_option maxRecDepth 100000 in
set_option maxHeartbeats 0 in
theorem PySem.Challenge.cw_quiltward_k20_written_labels_and_names_holds : PySem.Challenge.rw_quiltward_k20_written_labels_and_names.Holds := by
  w_on; o_law; k_head; (case hw => w_witness2)
  k_fill
  refine GX.walk_tabsC (l := PySem.Challenge.rw_quiltward_k20_written_labels_and_names) (n := 63) (x := "script") rfl (by decide) rfl (fun w h Y => PySem.W.kIn_of Y) ?F
  case F =>
    intro w mg fa h Y KX G hmg tabs
    refine' K20.all_mk KX G hmg tabs ?hrecT1 ?hrecT2 ?hrecT3 ?aS ?lS ?cS1 ?kS1 ?aD ?lD ?cD1 ?kD1 ?aLL ?lLL ?cLL1 ?kLL1 ?aP ?lP ?cP1 ?kP1 ?aLW ?lLW ?cLW1 ?kLW1 ?aLP ?lLP ?cLP1 ?kLP1 ?aLN ?lLN ?cLN1 ?kLN1 ?aLV ?lLV ?cLV1 ?kLV1 ?aTU ?lTU ?cTU1 ?kTU1 ?aW ?lW ?cW1 ?kW1 ?aN ?lN ?cN1 ?kN1 ?aTO ?lTO ?cTO1 ?kTO1 ?aWI ?lWI ?cWI1 ?kWI1 ?aIL ?lIL ?cIL1 ?kIL1 ?aRL ?lRL ?cRL1 ?kRL1 ?aIP ?lIP ?cIP1 ?kIP1 ?aRP ?lRP ?cRP1 ?kRP1 ?aIH ?lIH ?cIH1 ?kIH1 ?aII ?lII ?cII1 ?kII1 ?aRI ?lRI ?cRI1 ?kRI1 ?aIV ?lIV ?cIV1 ?kIV1 ?aRV ?lRV ?cRV1 ?kRV1 ?aSL ?lSL ?cSL1 ?kSL1 ?aSH ?lSH ?cSH1 ?kSH1 ?aSI ?lSI ?cSI1 ?kSI1 ?aSV ?lSV ?cSV1 ?kSV1 ?aGL ?lGL ?cGL1 ?kGL1 ?aGP ?lGP ?cGP1 ?kGP1 ?aGN ?lGN ?cGN1 ?kGN1 ?aGI ?lGI ?cGI1 ?kGI1 ?aGV ?lGV ?cGV1 ?kGV1 ?aLAW ?lLAW ?cLAW1 ?kLAW1 ?tWc ?tWv ?tWh ?tWn ?tILc ?tILv ?tILh ?tILn ?tIPc ?tIPv ?tIPh ?tIPn ?neT1T2 ?neT1T3 ?neT2T3 ?gLE0 ?gDI0 ?gMC0 ?z_len ?z_range ?z_int ?z_abs ?z_list ?z_isinstance ?z_tuple ?z_str ?z_all
    (case hrecT1 => decide +kernel)
    (case hrecT2 => decide +kernel)
    (case hrecT3 => decide +kernel)
    (case aS => k_is)
    (case lS => k_is)
    (case cS1 => k_is)
    (case kS1 => k_is)
    (case aD => k_is)
    (case lD => k_is)
    (case cD1 => k_is)
    (case kD1 => k_is)
    (case aLL => k_is)
    (case lLL => k_is)
    (case cLL1 => k_is)
    (case kLL1 => k_is)
    (case aP => k_is)
    (case lP => k_is)
    (case cP1 => k_is)
    (case kP1 => k_is)
    (case aLW => k_is)
    (case lLW => k_is)
    (case cLW1 => k_is)
    (case kLW1 => k_is)
    (case aLP => k_is)
    (case lLP => k_is)
    (case cLP1 => k_is)
    (case kLP1 => k_is)
    (case aLN => k_is)
    (case lLN => k_is)
    (case cLN1 => k_is)
    (case kLN1 => k_is)
    (case aLV => k_is)
    (case lLV => k_is)
    (case cLV1 => k_is)
    (case kLV1 => k_is)
    (case aTU => k_is)
    (case lTU => k_is)
    (case cTU1 => k_is)
    (case kTU1 => k_is)
    (case aW => k_is)
    (case lW => k_is)
    (case cW1 => k_is)
    (case kW1 => k_is)
    (case aN => k_is)
    (case lN => k_is)
    (case cN1 => k_is)
    (case kN1 => k_is)
    (case aTO => k_is)
    (case lTO => k_is)
    (case cTO1 => k_is)
    (case kTO1 => k_is)
    (case aWI => k_is)
    (case lWI => k_is)
    (case cWI1 => k_is)
    (case kWI1 => k_is)
    (case aIL => k_is)
    (case lIL => k_is)
    (case cIL1 => k_is)
    (case kIL1 => k_is)
    (case aRL => k_is)
    (case lRL => k_is)
    (case cRL1 => k_is)
    (case kRL1 => k_is)
    (case aIP => k_is)
    (case lIP => k_is)
    (case cIP1 => k_is)
    (case kIP1 => k_is)
    (case aRP => k_is)
    (case lRP => k_is)
    (case cRP1 => k_is)
    (case kRP1 => k_is)
    (case aIH => k_is)
    (case lIH => k_is)
    (case cIH1 => k_is)
    (case kIH1 => k_is)
    (case aII => k_is)
    (case lII => k_is)
    (case cII1 => k_is)
    (case kII1 => k_is)
    (case aRI => k_is)
    (case lRI => k_is)
    (case cRI1 => k_is)
    (case kRI1 => k_is)
    (case aIV => k_is)
    (case lIV => k_is)
    (case cIV1 => k_is)
    (case kIV1 => k_is)
    (case aRV => k_is)
    (case lRV => k_is)
    (case cRV1 => k_is)
    (case kRV1 => k_is)
    (case aSL => k_is)
    (case lSL => k_is)
    (case cSL1 => k_is)
    (case kSL1 => k_is)
    (case aSH => k_is)
    (case lSH => k_is)
    (case cSH1 => k_is)
    (case kSH1 => k_is)
    (case aSI => k_is)
    (case lSI => k_is)
    (case cSI1 => k_is)
    (case kSI1 => k_is)
    (case aSV => k_is)
    (case lSV => k_is)
    (case cSV1 => k_is)
    (case kSV1 => k_is)
    (case aGL => k_is)
    (case lGL => k_is)
    (case cGL1 => k_is)
    (case kGL1 => k_is)
    (case aGP => k_is)
    (case lGP => k_is)
    (case cGP1 => k_is)
    (case kGP1 => k_is)
    (case aGN => k_is)
    (case lGN => k_is)
    (case cGN1 => k_is)
    (case kGN1 => k_is)
    (case aGI => k_is)
    (case lGI => k_is)
    (case cGI1 => k_is)
    (case kGI1 => k_is)
    (case aGV => k_is)
    (case lGV => k_is)
    (case cGV1 => k_is)
    (case kGV1 => k_is)
    (case aLAW => k_is)
    (case lLAW => k_is)
    (case cLAW1 => k_is)
    (case kLAW1 => k_is)
    (case tWc => k_is)
    (case tWv => rfl)
    (case tWh => first | rfl | kernel_rfl)
    (case tWn => first | rfl | kernel_rfl)
    (case tILc => k_is)
    (case tILv => rfl)
    (case tILh => first | rfl | kernel_rfl)
    (case tILn => first | rfl | kernel_rfl)
    (case tIPc => k_is)
    (case tIPv => rfl)
    (case tIPh => first | rfl | kernel_rfl)
    (case tIPn => first | rfl | kernel_rfl)
    (case neT1T2 => first | decide | (intro z; cases z))
    (case neT1T3 => first | decide | (intro z; cases z))
    (case neT2T3 => first | decide | (intro z; cases z))
    (case gLE0 => k_is)
    (case gDI0 => k_is)
    (case gMC0 => k_is)
    (case z_len => k_is)
    (case z_range => k_is)
    (case z_int => k_is)
    (case z_abs => k_is)
    (case z_list => k_is)
    (case z_isinstance => k_is)
    (case z_tuple => k_is)
    (case z_str => k_is)
    (case z_all => k_is)
