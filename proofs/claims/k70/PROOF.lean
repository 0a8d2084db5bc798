import PyProof.Rows.All
import Wide.All
import OpenK.AllK
import Wide.FinOn
import PySem.Challenge.RW_quiltward_k70_records_on_tapes
import HandS.ForSpec
import HandS.ForMost
import HandS.AnyAll
import HandS.EndTab
import HandS.StrMore
import HandS.FStr
import HandS.IsInst
import HandS.Wide
import HandS.RaiseMore
import KE.DataEq
import PyProof.Rows.StrMul
import PyProof.Rows.StrJoinRep
import HandS.EndOwn
import HandS.NestedK
import HandS.Text
import HandS.Codes
set_option Elab.async false
set_option linter.all false
set_option maxRecDepth 100000
set_option maxHeartbeats 4000000
/-! rules of my own over the hand layer -/
namespace QR
open PySem PySem.Spec PyProof.Rows L2 GxR
section
variable {X : Cx} {pins : List (Addr × Obj)} {σ : L2.St} {H : Hp} {s : Shared}

/-! ### all(test for x in source), the test may read captured names -/
/-- what is walked: from the state s1, an iterator of n items, of which item i is one of Pw i; more: what else is looked at -/
def SrcOk (X : Cx) (P : Addr) (u : Value) (s1 : Shared) (n : Nat) (Pw : Nat → Value → Prop) : Prop :=
  ∃ more : List Addr, (∀ b ∈ more, b < s1.heap.objs.size ∧ b ≠ P) ∧
    ∀ Q : Value → Shared → Prop, (∀ (ob : Obj) (St : Nat → Heap → Prop),
        (∀ A' : Around, A'.handled = none → Walks X.prog X.w A' s1.heap.objs.size (s1.heap.objs.size :: more) [s1.heap.objs.size] n Pw St) → St 0 (s1.heap.push ob) →
          Q (.ref s1.heap.objs.size) { s1 with heap := s1.heap.push ob }) → wpAny (model X.prog X.w) X.A (pyIter u) Q X.xe s1
/-- the element is a test: tr i for the item i -/
def EltOk (X : Cx) (P : Addr) (scope : Scope) (x : Str) (elt : Expr) (s1 : Shared) (Pw : Nat → Value → Prop) (tr : Nat → Bool) : Prop :=
  ∀ (ce : Env) (A' : Around) (E' : Value → Shared → Prop) (i : Nat) (v : Value) (s2 : Shared) (m2 : Str → Option Value), A'.handled = none → ce.scope = scope → ce.cells = cloFrom X.env.cells scope.names [] →
    Pw i v → s2.heap.Ns ce.locals m2 → m2 x = some v → (∀ b o, b ≠ P → s1.heap.get? b = some o → s2.heap.get? b = some o) →
      wpAny (model X.prog X.w) A' (eval elt ce) (fun y s3 => y = .bool (tr i) ∧ Keeps s2 s3) E' s2

/-- made: the generator g is ready for its walk -/
def Made (X : Cx) (pins : List (Addr × Obj)) (σ : L2.St) (H1 : Hp) (P : Addr) (n : Nat) (tr : Nat → Bool) (g : Addr) (s5 : Shared) : Prop :=
  ∃ (fp wr : List Addr) (G : Array GenState → Array GenState → Prop) (F : Nat → Value → Prop) (St : Nat → Shared → Prop),
    WalksS X.prog X.w X.A.in1 g fp wr G n F St ∧ St 0 s5 ∧ TruthOf X.prog X.w X.A.in1 F tr ∧
      ∀ s', Moved wr G s5 s' → ∃ H2, Tabbed P H1 H2 ∧ Inv X pins σ H2 s'

theorem gen_make {c P : Addr} {elt iter : Expr} {x : Str} {px gpos : Pos} {scope : Scope} {k : Nat} {Q' : Value → Shared → Prop}
    (hr : Room k X.A) (TB : TabB X.base X.mg c P) (hcode : X.env.code = .ref c) (S : GenS X.env scope x) (hs : ∀ v, genFold iter X.env v = pure v)
    (h : wpAny (model X.prog X.w) X.A (eval iter X.env) (fun u s1 => ∃ (H1 : Hp) (n : Nat) (Pw : Nat → Value → Prop) (tr : Nat → Bool), Inv X pins σ H1 s1 ∧ TabG H1 P ∧ SrcOk X P u s1 n Pw ∧ EltOk X P scope x elt s1 Pw tr ∧
      ∀ g s5, Made X pins σ H1 P n tr g s5 → Q' (.ref g) s5) X.xe s) :
    wpAny (model X.prog X.w) X.A (eval (.GeneratorExp elt [⟨.Name x px, iter, [], 0⟩] scope gpos) X.env) Q' X.xe s := by
  have dp := hr.dp
  refine wpAny_GeneratorExp_walksQ hr.hd S.co (closure_ok S.free) S.cell S.dot S.loc S.kind (by omega) (thn h ?_) hs
  intro u s1 ⟨H1, n, Pw, tr, I1, ⟨ps, hP, hps⟩, ⟨more, hmore, hit⟩, hel, hQ⟩
  refine hit _ fun ob St W st0 => ?_
  -- the table, in the heap before and behind the iterator
  have tb0 : s1.heap.get? P = some { cls := .none, data := .fields ps } := I1.hok P _ hP
  have ltP : P < s1.heap.objs.size := Heap.lt_size tb0
  have tb1 := Heap.get?_push_of_some ob tb0
  have code1 : PySem.W.CodeHd (s1.heap.push ob) c P := TB.code.keeps fun b o e => Heap.get?_push_of_some _ (I1.bk b o e)
  have lim1 := I1.nolimit.push ob
  have lt1 : cStatics < s1.heap.objs.size := let ⟨_, z, _⟩ := I1.nolimit; z.lt
  have neP : cStatics ≠ P := by
    intro e
    obtain ⟨_, ⟨o', es, ep, ho, hd, _⟩, _⟩ := I1.nolimit
    rw [e, tb0] at ho
    cases ho
    cases hd
  have sz1 : (s1.heap.push ob).objs.size = s1.heap.objs.size + 1 := Heap.size_push ..
  have up3 : ∀ h3 : Heap, (s1.heap.push ob).objs.size ≤ h3.objs.size → s1.heap.objs.size < h3.objs.size := fun h3 l => by
    rw [sz1] at l
    exact l
  refine ⟨lim1, ?_⟩
  have rest : ∀ (code : Value) (h3 : Heap) (tk : Nat) (ps3 : Array Value), Heap.ExtBut P (s1.heap.push ob) h3 → (s1.heap.push ob).objs.size ≤ h3.objs.size → h3.get? P = some { cls := .none, data := .fields ps3 } →
      (∃ q, ps3 = ps ++ q) → TriplesOk ps3.toList →
      wpAny (model X.prog X.w) X.A (builtinsFor X.env.globals X.env.builtins) (fun bi s4 =>
        ∃ Ia fp wr n0 Pf St0 pz F, Value.ref s1.heap.objs.size = .ref Ia ∧ (∀ A' : Around, A'.handled = none → Walks X.prog X.w A' Ia fp wr n0 Pf St0) ∧ St0 0 s4.heap ∧ (∀ b ∈ fp, b < s4.heap.objs.size) ∧ s4.heap.NoLimit ∧ cStatics ∉ wr ∧
          (∀ hf : Heap, (∀ b o, s4.heap.get? b = some o → hf.get? b = some o) →
            QuietGen X.prog X.w (genEnv scope (cloFrom X.env.cells scope.names []) s4.heap.objs.size code bi X.env) x [] elt (List.range s4.heap.objs.size) wr Pf pz F hf) ∧
          (∀ a h5 tk gs, gs.bare = true → s4.heap.objs.size < a → h5.objs.size = a + 1 → (∀ b o, s4.heap.get? b = some o → h5.get? b = some o) →
            WalksS X.prog X.w X.A.in4 a (a :: s4.heap.objs.size :: List.range s4.heap.objs.size) (s4.heap.objs.size :: wr) (GenOnlyQ s4.gens.size) (passing pz n0 0).length
              (fun j y => ∃ i, (passing pz n0 0)[j]? = some i ∧ F i y) (GenAt X.prog X.w X.A.in4 a s4.gens.size s4.heap.objs.size (List.range s4.heap.objs.size) wr pz n0 F) →
            GenAt X.prog X.w X.A.in4 a s4.gens.size s4.heap.objs.size (List.range s4.heap.objs.size) wr pz n0 F 0 { s4 with gens := s4.gens.push gs, toks := tk, heap := h5 } →
              Q' (.ref a) { s4 with gens := s4.gens.push gs, toks := tk, heap := h5 })) X.xe { s1 with heap := h3, toks := tk } := by
    intro code h3 tk ps3 ext le3 tb3 hq ok3
    obtain ⟨bm, om, m1, m2, m3, m4, m5, m6, m7, m8⟩ := TB.bm
    have k3 : ∀ b o, b ≠ P → s1.heap.get? b = some o → h3.get? b = some o := fun b o ne e => ext b o ne (Heap.get?_push_of_some _ e)
    refine wpAny_builtinsFor (m := X.mg) ?_ m1 m2 (k3 _ _ m4 (I1.bk _ _ m5)) m6 m7 m8 ?_
    · rw [I1.ok.glob]
      exact ((I1.mod.glob.keeps I1.bk).push ob).extBut ext TB.gP
    refine ⟨s1.heap.objs.size, s1.heap.objs.size :: more, [s1.heap.objs.size], n, Pw, St, fun _ => true, fun i y => y = .bool (tr i), rfl, W, ?_, ?_, lim1.extBut ext neP, ?_, ?_, ?_⟩
    · refine (W X.A hr.hd).frame _ _ _ st0 fun b hb o e => ext b o ?_ e
      intro z
      rcases List.mem_cons.mp hb with q | q
      · rw [z] at q
        rw [q] at ltP
        exact Nat.lt_irrefl _ ltP
      · exact (hmore b q).2 z
    · intro b hb
      show b < h3.objs.size
      rcases List.mem_cons.mp hb with q | q
      · rw [q]
        exact up3 h3 le3
      · exact Nat.lt_trans (hmore b q).1 (up3 h3 le3)
    · intro z
      rcases List.mem_cons.mp z with q | q
      · rw [q] at lt1
        exact Nat.lt_irrefl _ lt1
      · cases q
    · intro hf hk
      constructor
      · intro A' E' i v s2 mm hA hv hn hm hkk
        rw [List.forIn_nil]
        exact wpAny_pure ⟨rfl, keeps_refl _⟩
      · intro A' E' i v s2 mm hA hv _ hn hm hkk
        refine hel _ A' E' i v s2 mm hA rfl rfl hv hn hm fun b o ne e => ?_
        have e3 := k3 b o ne e
        have l1 := Heap.lt_size e
        refine hkk b (List.mem_range.mpr (Heap.lt_size e3)) ?_ o (hk b o e3)
        intro z
        rcases List.mem_cons.mp z with q | q
        · rw [q] at l1
          exact Nat.lt_irrefl _ l1
        · cases q
    · intro g h5 tk5 gs bare5 gt5 sz5 k5 W5 at5
      simp only [GxR.passing_true, List.length_range] at W5
      refine hQ g _ ⟨_, _, _, _, _, W5.in4_1, at5, ?_, fun s' mv => ?_⟩
      · intro j y sj Qj Ej ⟨i, hij, ey⟩ hQj
        obtain ⟨lj, ej⟩ := List.getElem?_eq_some_iff.mp hij
        rw [List.getElem_range] at ej
        rw [ey, ← ej]
        exact wpAny_truthy_bool hQj
      · obtain ⟨q, eq3⟩ := hq
        have out : ∀ b o, s1.heap.get? b = some o → b ∉ h3.objs.size :: [s1.heap.objs.size] := by
          intro b o e hb
          have l1 := Heap.lt_size e
          rcases List.mem_cons.mp hb with z | z
          · rw [z] at l1
            have l2 : h3.objs.size < s1.heap.objs.size := l1
            omega
          · rcases List.mem_cons.mp z with z | z
            · rw [z] at l1
              exact Nat.lt_irrefl _ l1
            · cases z
        have tb' : s'.heap.get? P = some { cls := .none, data := .fields (ps ++ q) } := by
          rw [← eq3]
          exact mv.heap P _ (out P _ tb0) (k5 P _ tb3)
        have J := inv_tab (g' := s'.gens) (d' := s'.drawn) (t' := s'.toks) I1 hP (fun b o ne e => mv.heap b o (out b o e) (k5 b o (k3 b o ne e))) tb' (AllBare.movedS (I1.bare.push bare5) mv)
        rw [sh_eta s1 s' mv.os] at J
        exact ⟨upd H1 P (.tbl (ps ++ q)), ⟨⟨ps ++ q, upd_same, by rw [← eq3]; exact ok3⟩, fun b ne => upd_ne ne⟩, J⟩
  cases hc : codeAmong gpos ps.toList with
  | some cv =>
    exact wpAny_genexprCode_hit hcode (code1.code tb1 hps) hc (rest cv _ s1.toks ps (Heap.ExtBut.refl _ _) (Nat.le_refl _) tb1 ⟨#[], (Array.append_empty).symm⟩ hps)
  | none =>
    refine wpAny_genexprCodeX hcode (code1.code tb1 hps) (code1.tab tb1) hc ?_
    intro c' h' tk ext ge lt isC _ tab' _
    obtain ⟨o1, v1, f1, f2, f3, f4, f5, f6, f7, f8, _, _, _, _, _, _, _, _, _, okT, _⟩ := isC
    exact rest _ h' tk _ ext (Nat.le_trans ge (Nat.le_of_lt lt)) tab'.2 ⟨_, rfl⟩ okT

/-- all of it -/
theorem all_run {c P : Addr} {elt iter : Expr} {x : Str} {px p pos gpos : Pos} {scope : Scope} {k : Nat} {Q : V → Hp → Prop}
    (hr : Room k X.A) (hg : Gl X "all") (hm : X.mg "all" = none) (TB : TabB X.base X.mg c P) (hcode : X.env.code = .ref c) (S : GenS X.env scope x) (hs : ∀ v, genFold iter X.env v = pure v) (I : Inv X pins σ H s)
    (h : wpAny (model X.prog X.w) X.A (eval iter X.env) (fun u s1 => ∃ (H1 : Hp) (n : Nat) (Pw : Nat → Value → Prop) (tr : Nat → Bool), Inv X pins σ H1 s1 ∧ TabG H1 P ∧ SrcOk X P u s1 n Pw ∧ EltOk X P scope x elt s1 Pw tr ∧
      ∀ H2, Tabbed P H1 H2 → Q (.bl ((List.range n).all tr)) H2) X.xe s)
    (he : starEach [.GeneratorExp elt [⟨.Name x px, iter, [], 0⟩] scope gpos] X.env = (false, eval (.GeneratorExp elt [⟨.Name x px, iter, [], 0⟩] scope gpos) X.env) :: starEach [] X.env := by rfl) :
    wpAny (model X.prog X.w) X.A (eval (.Call (.Name "all" p) [.GeneratorExp elt [⟨.Name x px, iter, [], 0⟩] scope gpos] [] pos) X.env) (EP X pins σ Q) X.xe s := by
  refine wpAny_Call_Name_kw (ld_blt I hg hm (show bootBuiltins "all" = some (.builtin "all") by decide +kernel) ?_)
  refine PyProof.Rows.callWith_builtin1 ?_ he (by rfl)
  rw [he]
  refine Calls.spliced_cons (gen_make (pins := pins) (σ := σ) hr TB hcode S hs (thn h ?_))
  intro u s1 ⟨H1, n, Pw, tr, I1, T1, src, el, q⟩
  refine ⟨H1, n, Pw, tr, I1, T1, src, el, fun g s5 mk => ?_⟩
  obtain ⟨fp, wr, G, F, St0, W, st5, tru, back⟩ := mk
  refine Calls.spliced_nil (call_all_walkS (W.self 0 _ _ _ st5 ⟨g, fp, wr, G, n, F, St0, tr, rfl, W, st5, tru, fun s' mv => ?_⟩))
  obtain ⟨H2, t2, I2⟩ := back s' mv
  exact ⟨.bl _, H2, I2, rfl, q H2 t2⟩

/-! ### all(x in y for x in text), y a captured text in the slot i -/
def tAllIn (P : Addr) (i : Nat) (te : TE) : TE := fun σ H Q => te σ H fun v H1 => ∃ a z : Str, v = .str a ∧ σ[i]? = some (some (.str z)) ∧ TabG H1 P ∧
  ∀ H2, Tabbed P H1 H2 → Q (.bl (a.cps.toList.all fun c => decide (c ∈ z.cps.toList))) H2
theorem pe_allIn {c P : Addr} {iter : Expr} {x y : Str} {i : Nat} {px p pos gpos p1 p2 p3 : Pos} {scope : Scope} {te : TE} {k : Nat}
    (hr : Room k X.A) (hg : Gl X "all") (hm : X.mg "all" = none) (TB : TabB X.base X.mg c P) (hcode : X.env.code = .ref c) (S : GenS X.env scope x) (hi : PE X iter te) (hs : ∀ v, genFold iter X.env v = pure v)
    (hN : X.N[i]? = some y) (hv : X.env.kindOf y = some .cell) (hy : scope.names.lookup y = some .free) (hyc : (cloFrom X.env.cells scope.names []).lookup y = X.env.cells.lookup y)
    (he : starEach [.GeneratorExp (.Compare (.Name x p1) [.In] [.Name y p2] p3) [⟨.Name x px, iter, [], 0⟩] scope gpos] X.env = (false, eval (.GeneratorExp (.Compare (.Name x p1) [.In] [.Name y p2] p3) [⟨.Name x px, iter, [], 0⟩] scope gpos) X.env) :: starEach [] X.env := by rfl)
    (hd : (x == ("__debug__" : Str)) = false := by decide) (hd2 : (y == ("__debug__" : Str)) = false := by decide) (hn2 : (y == ("__classdict__" : Str)) = false := by decide) :
    PE X (.Call (.Name "all" p) [.GeneratorExp (.Compare (.Name x p1) [.In] [.Name y p2] p3) [⟨.Name x px, iter, [], 0⟩] scope gpos] [] pos) (tAllIn P i te) := by
  refine ⟨fun pins s σ H Q I h => all_run hr hg hm TB hcode S hs I (thn (hi.run pins s σ H _ I h) ?_) he⟩
  intro u s1 ⟨v, H1, I1, r1, a, z, ev, ez, T1, q⟩
  subst ev
  obtain ⟨t, rfl⟩ := r1
  obtain ⟨m, hm1, hl⟩ := I1.loc
  obtain ⟨uz, rz, lz⟩ := hl i y _ hN ez (.inr (.inl hv))
  obtain ⟨tz, rfl⟩ := rz
  have hcell : ∃ cl, X.env.cells.lookup y = some cl ∧ s1.heap.IsCell cl (some (.str z tz)) := by
    rcases lz with ⟨k1, _⟩ | ⟨_, cl, h1, h2⟩
    · rw [hv] at k1
      cases k1
    · exact ⟨cl, h1, h2⟩
  obtain ⟨cl, hc1, hc2⟩ := hcell
  refine ⟨H1, a.cps.size, SignAt a, trF (fun c => decide (c ∈ z.cps.toList)) a.cps.toList, I1, T1, ⟨[], fun b hb => (nomatch hb), fun Q hQ => wpAny_pyIter_str hQ⟩, ?_, fun H2 t2 => ?_⟩
  · intro ce A' E' j v s2 m2 _ es ec ⟨cc, tc, hcc, ev⟩ hn hmx kp
    subst ev
    refine wpAny_Compare1 ?_ (by with_unfolding_all rfl)
    refine wpAny_Name (wpAny_loadName_local (by rw [es]; exact S.kind) (by show ce.scope.names.lookup x = _; rw [es]; exact S.loc) hn hmx ?_) hd
    refine wpAny_Name (wpAny_loadName_free (c := cl) (v := .str z tz) (by rw [es]; exact S.kind) (by show ce.scope.names.lookup y = _; rw [es]; exact hy) (by rw [ec, hyc]; exact hc1) ?_ ?_ hn2) hd2
    · obtain ⟨oc, ho, hdt⟩ := hc2
      refine ⟨oc, kp cl oc ?_ ho, hdt⟩
      intro e
      obtain ⟨ps, hP, _⟩ := T1
      have tb0 : s1.heap.get? P = some { cls := .none, data := .fields ps } := I1.hok P _ hP
      rw [e, tb0] at ho
      cases ho
      cases hdt
    · refine PyProof.Rows.in_str ⟨?_, keeps_refl _⟩
      have e9 : a.cps.toList[j]? = some cc := by rw [Array.getElem?_toList]; exact hcc
      rw [PySem.StrLaws.found_one z cc, trF_some e9]
  · rw [all_signs a]
    exact q H2 t2

end
end QR
/-! more rules of my own: == and != of data without dicts, text * number -/
namespace QR
open PySem PySem.Spec PyProof.Rows L2
section
variable {X : Cx}
def rEqP (K : PySem.W.Frag) : R2 := fun x y H Q => ∃ d e, Dp K H x d ∧ Dp K H y e ∧ d.plain = true ∧ e.plain = true ∧ d.depth ≤ 60 ∧ Q (.bl (PyData.eqv d e)) H
def rNeP (K : PySem.W.Frag) : R2 := fun x y H Q => ∃ d e, Dp K H x d ∧ Dp K H y e ∧ d.plain = true ∧ e.plain = true ∧ d.depth ≤ 60 ∧ Q (.bl (!PyData.eqv d e)) H
theorem op_eqP (hu : X.A.units + 64 < cLine) : OpR X (compareOp .Eq) (rEqP X.K) := fun pins s σ H x y v u Q I rx ry ⟨d, e, hd, he, pd, pe, dd, q⟩ => by
  obtain ⟨as, r1⟩ := Dp.reads I d x v hd rx
  obtain ⟨bs, r2⟩ := Dp.reads I e y u he ry
  exact PySem.SeqAt.eq_plain r1 r2 pd pe (by omega) ⟨.bl _, H, I, rfl, q⟩
theorem op_neP (hu : X.A.units + 64 < cLine) : OpR X (compareOp .NotEq) (rNeP X.K) := fun pins s σ H x y v u Q I rx ry ⟨d, e, hd, he, pd, pe, dd, q⟩ => by
  obtain ⟨as, r1⟩ := Dp.reads I d x v hd rx
  obtain ⟨bs, r2⟩ := Dp.reads I e y u he ry
  exact PySem.SeqAt.ne_plain r1 r2 pd pe (by omega) ⟨.bl _, H, I, rfl, q⟩
theorem op_mulS : OpR X (binaryOp .Mult) (fun x y H Q => ∃ (a : Str) (n : Int), x = .str a ∧ y = .int n ∧ MulOk a n ∧ Q (.str (Txt.mul a n)) H) := fun pins s σ H x y v u Q I rx ry ⟨a, n, ex, ey, ok, q⟩ => by
  subst ex
  subst ey
  obtain ⟨t, rfl⟩ := rx
  obtain ⟨t', rfl⟩ := ry
  exact PySem.SB.mul ok fun t' k => ⟨.str _, H, I.tok _, ⟨_, rfl⟩, q⟩
end
end QR
/-! the end of a law row whose program's own defs hold generator expressions: each def of the view has an empty table at the entry -/
namespace QR
open PySem PySem.Spec PyProof.Rows L2
/-- each def of the view q has an empty table -/
def AllTabs (q : Program) (K : PySem.W.Frag) (mg : Str → Option Value) (h : Heap) : Prop :=
  ∀ (x : Str) (f : Addr), ((recsOf q).any fun e => e.name == x) = true → mg x = some (.ref f) → LamX.OwnTab K f h
theorem walk_tabs {l : PySem.W.OpenLaw} {n k : Nat} {q : Program} {loose : List Str} {XP : (Str → Option Value) → Heap → Prop} {YP : World → Heap → Prop} {d : DefRec} {K : Params → PySem.W.Frag} {CX : World → CXT} {x : Str}
    (most : l.most = some n) (line : n ≤ sizeLine) (nodef : d.params.defaults = []) (room : Room k callerA) (inK : ∀ (w : World) (h : Heap), YP w h → (K w.params).In h)
    (F : ∀ (w : World) (mg : Str → Option Value) (fa : Addr) (h : Heap), YP w h → (K w.params).In h → h.Ns mainGlobals mg → mg d.name = some (.ref fa) → AllTabs q (K w.params) mg h → LamX.LawAtS l w (K w.params) (CX w) k n x mg fa h)
    (noX : ∀ (w : World) (H : Hp) (s : Shared) (e : Value) (s' : Shared), CX w [] H s (fun _ _ _ => False) e s' → False) :
    PySem.W.WalkO q loose XP YP l.row.toRowW d [] (fun f vs => PySem.call f vs) := by
  refine Att.attach_callB most nodef ?_
  intro w s0 s1 mg mb fa o pm cd doc a vs ns G Y ho hd hcd hmg hobj hints hlen hbits hg
  have kin := inK w _ Y
  have tabs : AllTabs q (K w.params) mg s1.heap := by
    intro y f hy hf c P o1 f1 e dd ws sl i1 i2 i3 i4 i5
    obtain ⟨r, hr, hr2⟩ := List.any_eq_true.mp hy
    have nm : r.name = y := beq_iff_eq.mp hr2
    obtain ⟨a2, o2, f2, c2, P2, j1, j2, j3, j4, j5, ⟨oc, vc, t1, _, t3, t4⟩, empty⟩ := G.T.tab r hr
    rw [nm, hf] at j1
    cases j1
    have at1 := kin _ _ i1
    rw [at1] at j2
    cases j2
    rw [i2] at j3
    cases j3
    rw [i3] at j4
    cases j4
    have at2 := kin _ _ i4
    rw [at2] at t1
    cases t1
    cases t3
    rw [i5] at t4
    cases t4
    exact empty
  obtain ⟨fd, cs, sp, hT, nT, C, hb, hsp, hF⟩ := F w mg fa _ Y kin G.T.g hmg tabs
  refine LamX.law_callTs kin G.T.g G.T.b G.T.builtins G.T.nolimit hg hT nT C G.T.bmain hobj hints (Nat.le_trans hlen line) room hF hb (fun H hH hS => ?_) (fun H e s' z => noX w H s1 e s' z)
  exact hsp H a ns hlen hbits hH hS
end QR
/-! the mathematics of records: no program here -/
namespace K70
open PySem L2 TL
abbrev Sg (l : List Nat) : Str := ⟨l.toArray⟩

/-! ### numbers in digits -/
theorem val_snoc (l : List Nat) (c : Nat) : NumText.digitsVal (l ++ [c]) = NumText.digitsVal l * 10 + (c - 48) := by
  unfold NumText.digitsVal
  rw [List.foldl_append]
  rfl
theorem num_head {n : Nat} (h : 0 < n) : ∃ c r, numL n = c :: r ∧ c ≠ 48 := by
  induction n using Nat.strongRecOn with
  | _ n ih =>
    by_cases h1 : n < 10
    · refine ⟨48 + n, [], numL_lt h1, by omega⟩
    · obtain ⟨c, r, e, ne⟩ := ih (n / 10) (by omega) (by omega)
      exact ⟨c, r ++ [48 + n % 10], by rw [numL_step (by omega), e]; rfl, ne⟩
theorem num_zero : numL 0 = [48] := numL_lt (by decide)
/-- digits without leading zeros are those of their number -/
theorem num_canon : ∀ (k : Nat) (l : List Nat), l.length = k → NumText.AllDigits l → l ≠ [] → (l.head? ≠ some 48 ∨ l = [48]) → numL (NumText.digitsVal l) = l := by
  intro k
  induction k with
  | zero =>
    intro l hl _ ne _
    exact absurd (List.eq_nil_of_length_eq_zero hl) ne
  | succ k ih =>
    intro l hl hd ne hz
    obtain ⟨i, c, rfl⟩ : ∃ i c, l = i ++ [c] := ⟨l.dropLast, l.getLast ne, (List.dropLast_concat_getLast ne).symm⟩
    have hc : 48 ≤ c ∧ c ≤ 57 := hd c (List.mem_append_right _ (List.mem_singleton.mpr rfl))
    have hi : NumText.AllDigits i := fun x hx => hd x (List.mem_append_left _ hx)
    have li : i.length = k := by
      rw [List.length_append, List.length_singleton] at hl
      omega
    by_cases h0 : i = []
    · subst h0
      have e : NumText.digitsVal ([] ++ [c]) = c - 48 := by
        rw [val_snoc]
        show 0 * 10 + (c - 48) = c - 48
        omega
      rw [e, numL_lt (by omega)]
      show [48 + (c - 48)] = [c]
      rw [show 48 + (c - 48) = c by omega]
    · have hh : (i ++ [c]).head? = i.head? := by
        cases i with
        | nil => exact absurd rfl h0
        | cons x r => rfl
      have hz2 : i.head? ≠ some 48 := by
        rcases hz with z | z
        · rw [hh] at z
          exact z
        · have := congrArg List.length z
          rw [List.length_append, List.length_singleton, List.length_singleton] at this
          have : i.length = 0 := by omega
          exact absurd (List.eq_nil_of_length_eq_zero this) h0
      have e1 := ih i li hi h0 (.inl hz2)
      have hp : 0 < NumText.digitsVal i := by
        rcases Nat.eq_zero_or_pos (NumText.digitsVal i) with z | z
        · rw [z, num_zero] at e1
          rw [← e1] at hz2
          exact absurd rfl hz2
        · exact z
      rw [val_snoc, numL_step (by omega)]
      have d1 : (NumText.digitsVal i * 10 + (c - 48)) / 10 = NumText.digitsVal i := by omega
      have d2 : (NumText.digitsVal i * 10 + (c - 48)) % 10 = c - 48 := by omega
      rw [d1, d2, e1, show 48 + (c - 48) = c by omega]
theorem num_len_mono : ∀ (m n : Nat), n ≤ m → (numL n).length ≤ (numL m).length := by
  intro m
  induction m using Nat.strongRecOn with
  | _ m ih =>
    intro n h
    by_cases h1 : n < 10
    · rw [numL_lt h1]
      exact List.length_pos_iff.mpr (numL_ne m)
    · rw [numL_step (n := n) (by omega), numL_step (n := m) (by omega), List.length_append, List.length_append]
      have := ih (m / 10) (by omega) (n / 10) (by omega)
      show _ + 1 ≤ _ + 1
      omega

instance (l : List Nat) : Decidable (NumText.AllDigits l) := inferInstanceAs (Decidable (∀ c ∈ l, 48 ≤ c ∧ c ≤ 57))
def readNum (l : List Nat) (m : Nat) : Option Nat :=
  if l.length = 0 ∨ (numL m).length < l.length ∨ ¬ NumText.AllDigits l then none
  else if l.head? = some 48 ∧ l ≠ [48] then none
  else if NumText.digitsVal l ≤ m then some (NumText.digitsVal l) else none
theorem readNum_some {l : List Nat} {m n : Nat} (h : readNum l m = some n) : l = numL n ∧ n ≤ m := by
  unfold readNum at h
  split at h
  · cases h
  · rename_i h1
    split at h
    · cases h
    · rename_i h2
      split at h
      · rename_i h3
        cases h
        refine ⟨(num_canon _ l rfl (Decidable.byContradiction fun z => h1 (.inr (.inr z))) (fun z => h1 (.inl (by rw [z]; rfl))) ?_).symm, h3⟩
        by_cases z : l.head? = some 48
        · exact .inr (Decidable.byContradiction fun y => h2 ⟨z, y⟩)
        · exact .inl z
      · cases h
theorem readNum_num {m n : Nat} (h : n ≤ m) : readNum (numL n) m = some n := by
  unfold readNum
  have l0 : (numL n).length ≠ 0 := fun z => numL_ne n (List.eq_nil_of_length_eq_zero z)
  have l1 := num_len_mono m n h
  rw [if_neg (by
    rintro (z | z | z)
    · exact l0 z
    · omega
    · exact z (numL_digits n)), if_neg (by
    rintro ⟨z1, z2⟩
    rcases Nat.eq_zero_or_pos n with q | q
    · rw [q, num_zero] at z2
      exact z2 rfl
    · obtain ⟨c, r, e, ne⟩ := num_head q
      rw [e] at z1
      exact ne (Option.some.inj z1)), numL_val, if_pos h]

/-! ### records -/
def chkL (l : List Nat) : Nat := l.foldl (fun a c => (a * 257 + c + 1) % 4294967291) 7
theorem chk_lt (l : List Nat) : chkL l < 4294967291 := by
  unfold chkL
  rcases List.eq_nil_or_concat l with rfl | ⟨i, c, rfl⟩
  · decide
  · rw [List.concat_eq_append, List.foldl_append]
    exact Nat.mod_lt _ (by decide)
def bodyL (k : Nat) (t : List Nat) : List Nat := numL k ++ (32 :: (numL t.length ++ (58 :: t)))
def recL (k : Nat) (t : List Nat) : List Nat := bodyL k t ++ (58 :: (numL (chkL (bodyL k t)) ++ [59]))

/-- what stands in front of the first c, and behind it -/
def brk (c : Nat) : List Nat → Option (List Nat × List Nat)
  | [] => none
  | x :: r => if x = c then some ([], r) else (brk c r).map fun p => (x :: p.1, p.2)
theorem brk_app {c : Nat} : ∀ {p r : List Nat}, c ∉ p → brk c (p ++ c :: r) = some (p, r)
  | [], r, _ => by
    show (if c = c then _ else _) = _
    rw [if_pos rfl]
  | x :: p, r, h => by
    have h1 : x ≠ c := fun z => h (z ▸ List.mem_cons_self)
    show (if x = c then _ else (brk c (p ++ c :: r)).map _) = _
    rw [if_neg h1, brk_app fun z => h (List.mem_cons_of_mem _ z)]
    rfl
theorem brk_some {c : Nat} : ∀ {l p r : List Nat}, brk c l = some (p, r) → l = p ++ c :: r ∧ c ∉ p
  | x :: l, p, r, h => by
    have h' : (if x = c then some ([], l) else (brk c l).map fun p => (x :: p.1, p.2)) = some (p, r) := h
    by_cases e : x = c
    · rw [if_pos e] at h'
      cases h'
      exact ⟨by rw [e]; rfl, fun z => nomatch z⟩
    · rw [if_neg e] at h'
      cases q : brk c l with
      | none =>
        rw [q] at h'
        cases h'
      | some y =>
        rw [q] at h'
        have h2 : (x :: y.1, y.2) = (p, r) := Option.some.inj h'
        cases h2
        obtain ⟨e1, e2⟩ := brk_some (l := l) (p := y.1) (r := y.2) q
        refine ⟨by rw [List.cons_append, ← e1], fun z => ?_⟩
        rcases List.mem_cons.mp z with z | z
        · exact e z.symm
        · exact e2 z
theorem brk_none {c : Nat} : ∀ {l : List Nat}, brk c l = none → c ∉ l
  | [], _ => fun z => nomatch z
  | x :: l, h => by
    have h' : (if x = c then some ([], l) else (brk c l).map fun p => (x :: p.1, p.2)) = none := h
    by_cases e : x = c
    · rw [if_pos e] at h'
      cases h'
    · rw [if_neg e] at h'
      have h2 : brk c l = none := by
        cases q : brk c l with
        | none => rfl
        | some y =>
          rw [q] at h'
          cases h'
      intro z
      rcases List.mem_cons.mp z with z | z
      · exact e z.symm
      · exact brk_none h2 z
theorem brk_of_notin {c : Nat} {l : List Nat} (h : c ∉ l) : brk c l = none := by
  cases q : brk c l with
  | none => rfl
  | some y =>
    obtain ⟨e, _⟩ := brk_some (p := y.1) (r := y.2) q
    exact absurd (by rw [e]; exact List.mem_append_right _ List.mem_cons_self) h

/-- a record at the beginning of r, numbers of signs up to M -/
def parse (M : Nat) (r : List Nat) : Option (Nat × List Nat × List Nat) :=
  (brk 32 r).bind fun a => (brk 58 a.2).bind fun b => (readNum a.1 3).bind fun k => (if k < 1 then none else readNum b.1 M).bind fun n =>
    (brk 59 (b.2.drop n)).bind fun y =>
      if y.1.head? = some 58 ∧ readNum y.1.tail 4294967290 = some (chkL (a.1 ++ (32 :: (b.1 ++ (58 :: b.2.take n))))) then some (k, b.2.take n, y.2) else none
theorem parse_some {M : Nat} {r t r3 : List Nat} {k : Nat} (h : parse M r = some (k, t, r3)) : 1 ≤ k ∧ k ≤ 3 ∧ r = recL k t ++ r3 := by
  obtain ⟨⟨p, r1⟩, h1, h⟩ := Option.bind_eq_some_iff.mp h
  obtain ⟨⟨q, r2⟩, h2, h⟩ := Option.bind_eq_some_iff.mp h
  obtain ⟨k', h3, h⟩ := Option.bind_eq_some_iff.mp h
  obtain ⟨n, h4, h⟩ := Option.bind_eq_some_iff.mp h
  obtain ⟨⟨y, r4⟩, h5, h⟩ := Option.bind_eq_some_iff.mp h
  have h2' : brk 58 r1 = some (q, r2) := h2
  split at h4
  · cases h4
  · rename_i hk
    split at h
    · rename_i hy
      cases h
      obtain ⟨e1, _⟩ := brk_some h1
      obtain ⟨e2, _⟩ := brk_some h2'
      obtain ⟨e3, k3⟩ := readNum_some h3
      obtain ⟨e4, n4⟩ := readNum_some h4
      obtain ⟨e5, _⟩ := brk_some h5
      obtain ⟨y1, y2⟩ := hy
      obtain ⟨e6, _⟩ := readNum_some y2
      have ey : y = 58 :: y.tail := by
        cases y with
        | nil => cases y1
        | cons a b =>
          have : a = 58 := Option.some.inj y1
          rw [this]
          rfl
      have ln : (r2.take n).length = n := by
        have := congrArg List.length e5
        rw [List.length_drop, List.length_append] at this
        rw [List.length_take]
        have : r2.length - n ≥ 1 := by
          rw [this]
          show _ + (_ + 1) ≥ 1
          omega
        omega
      refine ⟨by omega, k3, ?_⟩
      have eb : bodyL k (r2.take n) = p ++ (32 :: (q ++ (58 :: r2.take n))) := by
        unfold bodyL
        rw [ln, ← e3, ← e4]
      unfold recL
      rw [eb, ← e6, e1, e2]
      have e7 : r2 = r2.take n ++ (58 :: y.tail ++ 59 :: r4) := by
        rw [← ey, ← e5, List.take_append_drop]
      conv => lhs; rw [e7]
      simp only [List.append_assoc, List.cons_append, List.nil_append]
    · cases h
theorem parse_rec {M k : Nat} {t r3 : List Nat} (h1 : 1 ≤ k) (h3 : k ≤ 3) (ht : t.length ≤ M) : parse M (recL k t ++ r3) = some (k, t, r3) := by
  have e1 : recL k t ++ r3 = numL k ++ 32 :: (numL t.length ++ 58 :: (t ++ (58 :: (numL (chkL (bodyL k t)) ++ 59 :: r3)))) := by
    unfold recL
    conv => lhs; rw [show bodyL k t ++ 58 :: (numL (chkL (bodyL k t)) ++ [59]) ++ r3 = bodyL k t ++ (58 :: (numL (chkL (bodyL k t)) ++ 59 :: r3)) by simp only [List.append_assoc, List.cons_append, List.nil_append]]
    conv => lhs; arg 1; unfold bodyL
    simp only [List.append_assoc, List.cons_append, List.nil_append]
  unfold parse
  rw [e1, brk_app (numL_free (by omega))]
  show (brk 58 _).bind _ = _
  rw [brk_app (numL_free (by omega))]
  show (readNum (numL k) 3).bind _ = _
  rw [readNum_num h3]
  show (if k < 1 then none else readNum (numL t.length) M).bind _ = _
  rw [if_neg (by omega), readNum_num ht]
  show (brk 59 (List.drop t.length (t ++ _))).bind _ = _
  rw [List.drop_left]
  have e2 : brk 59 (58 :: (numL (chkL (bodyL k t)) ++ 59 :: r3)) = some (58 :: numL (chkL (bodyL k t)), r3) := by
    have := brk_app (c := 59) (p := 58 :: numL (chkL (bodyL k t))) (r := r3) (fun z => by
      rcases List.mem_cons.mp z with z | z
      · exact absurd z (by decide)
      · exact numL_free (by omega) z)
    exact this
  rw [e2]
  have e3 : ∀ z : List Nat, List.take t.length (t ++ z) = t := fun z => List.take_left
  have lt := chk_lt (bodyL k t)
  refine (if_pos ⟨rfl, ?g1⟩).trans ?g2
  case g1 =>
    show readNum (numL (chkL (bodyL k t))) 4294967290 = some (chkL (numL k ++ (32 :: (numL t.length ++ (58 :: List.take t.length (t ++ _))))))
    rw [e3, readNum_num (by omega)]
    rfl
  case g2 =>
    show some (k, List.take t.length (t ++ _), r3) = _
    rw [e3]
theorem recL_len (k : Nat) (t : List Nat) : t.length + 7 ≤ (recL k t).length := by
  have a := List.length_pos_iff.mpr (numL_ne k)
  have b := List.length_pos_iff.mpr (numL_ne t.length)
  have c := List.length_pos_iff.mpr (numL_ne (chkL (bodyL k t)))
  unfold recL
  rw [List.length_append, List.length_cons, List.length_append, List.length_singleton]
  have : (bodyL k t).length = (numL k).length + ((numL t.length).length + (t.length + 1) + 1) := by
    unfold bodyL
    rw [List.length_append, List.length_cons, List.length_append, List.length_cons]
  omega

/-! ### all records at the beginning -/
def recs (M : Nat) : Nat → List Nat → List (Nat × List Nat) × List Nat
  | 0, r => ([], r)
  | f + 1, r => match parse M r with
    | none => ([], r)
    | some (k, t, r3) => ((k, t) :: (recs M f r3).1, (recs M f r3).2)
end K70
namespace K70
open PySem PySem.Spec PyProof.Rows L2 QR
open GxR (TabB TabG Tabbed GenS)
/-! ### the text -/
def topS (i : Nat) : Stmt := PySem.Challenge.pw_quiltward_k70_records_on_tapes.main.body.getD i (.Pass ⟨0, 0, 0, 0⟩)
abbrev sWord : Stmt := topS 2
abbrev sNum : Stmt := topS 3
abbrev sChk : Stmt := topS 10
abbrev sRec : Stmt := topS 11
theorem scWord : FnScope ["text", "signs", "most"] ["text", "signs", "most"] (defScope sWord) := ⟨rfl, rfl, rfl, by decide +kernel, rfl, by decide +kernel, by decide +kernel⟩
theorem scNum : FnScope ["text", "most", "number"] ["text", "most"] (defScope sNum) := ⟨rfl, rfl, rfl, by decide +kernel, rfl, by decide +kernel, by decide +kernel⟩
theorem scChk : FnScope ["text", "number", "sign"] ["text"] (defScope sChk) := ⟨rfl, rfl, rfl, by decide +kernel, rfl, by decide +kernel, by decide +kernel⟩
theorem scRec : FnScope ["kind", "text", "body"] ["kind", "text"] (defScope sRec) := ⟨rfl, rfl, rfl, by decide +kernel, rfl, by decide +kernel, by decide +kernel⟩

/-! ### what the defs compute -/
def wordB (t z : Str) (m : Int) : Bool := decide ((1 : Int) ≤ (t.length : Int)) && (decide ((t.length : Int) ≤ m) && t.cps.toList.all fun c => decide (c ∈ z.cps.toList))
theorem tabbed_refl {P : Addr} {H : Hp} (h : TabG H P) : Tabbed P H H := ⟨h, fun _ _ => rfl⟩
theorem tabbed_trans {P : Addr} {H H1 H2 : Hp} (a : Tabbed P H H1) (b : Tabbed P H1 H2) : Tabbed P H H2 := ⟨b.1, fun x ne => (b.2 x ne).trans (a.2 x ne)⟩

section
variable {P : Program} {w : World} {K : PySem.W.Frag} {mg : Str → Option Value} {base : Heap}
/-! ### is_word -/
def spWord (T : Addr) : Sp := fun vs H Q _ => ∃ (t z : Str) (m : Int), vs = [.str t, .str z, .int m] ∧ t.length ≤ sizeLine ∧ TabG H T ∧ ∀ H', Tabbed T H H' → Q (.bl (wordB t z m)) H'
theorem ok_word {c T f : Addr} {oc kV doc pm ct : Value} {od an : Option Addr} {osl : Array (Option Value)} (lk : K.lookup f = some ⟨oc, od, .func (PySem.W.fnOf "is_word" "is_word" (defArgs sWord) (defBody sWord) (defScope sWord) .none kV doc pm an (.ref c) ct), osl⟩)
    (hcd : PySem.W.codeIn K (.ref c) "is_word" = true) (TB : TabB base mg c T) (ml : mg "len" = none) (ma : mg "all" = none) :
    FnOk P w K mg base CX0 1 f (PySem.W.fnOf "is_word" "is_word" (defArgs sWord) (defBody sWord) (defScope sWord) .none kV doc pm an (.ref c) ct) ["text", "signs", "most"] (spWord T) := by
  refine fn_of lk hcd scWord (fun vs H Q E h => ?_) fun A outer s H vs Q E hr h => ?_
  · obtain ⟨t, z, m, rfl, _⟩ := h
    rfl
  · obtain ⟨t, z, m, rfl, hl, hT, q⟩ := h
    refine ⟨_, pss_one (ps_ret (pe_and (pe_chain op_le op_le pe_int (pe_callB call_len_str (by rfl) ml PySem.boot_len (pa_cons (pv 0) pa_nil)) (pv 2))
      (pe_one (pe_allIn (i := 1) hr (by rfl) ma TB rfl ⟨rfl, rfl, by decide +kernel, by decide +kernel, by decide +kernel, ?fr⟩ (pv 0) (fun _ => rfl) rfl rfl rfl ?cl)))), ?_⟩
    case fr =>
      intro y hy e
      rcases List.mem_cons.mp hy with rfl | hy
      · cases e
      rcases List.mem_cons.mp hy with rfl | hy
      · cases e
      rcases List.mem_cons.mp hy with rfl | hy
      · exact ⟨_, rfl⟩
      · cases hy
    case cl => rfl
    refine ⟨_, rfl, t, rfl, hl, 1, (t.length : Int), rfl, rfl, _, rfl, ?_⟩
    refine ite2 (fun h1 => ?_) (fun h1 => ?_)
    · refine ⟨_, rfl, _, m, rfl, rfl, _, rfl, ite2 (fun h2 => ?_) (fun h2 => ?_)⟩
      · refine ⟨_, rfl, t, z, rfl, rfl, hT, fun H2 t2 => ?_⟩
        have e : wordB t z m = t.cps.toList.all fun c => decide (c ∈ z.cps.toList) := by
          unfold wordB
          rw [h1, h2, Bool.true_and, Bool.true_and]
        rw [← e]
        exact q H2 t2
      · have e : wordB t z m = false := by
          unfold wordB
          rw [Bool.eq_false_iff.mpr h2, Bool.false_and, Bool.and_false]
        have z0 := q H (tabbed_refl hT)
        rw [e] at z0
        exact z0
    · have e : wordB t z m = false := by
        unfold wordB
        rw [Bool.eq_false_iff.mpr h1, Bool.false_and]
      have z0 := q H (tabbed_refl hT)
      rw [e] at z0
      exact ⟨_, rfl, iteF z0⟩
end
end K70
namespace K70
open PySem PySem.Spec PyProof.Rows L2 QR TL
open GxR (TabB TabG Tabbed GenS)
/-! ### what the defs compute, over texts -/
def digitsS : Str := "0123456789"
theorem digits_tl : tl digitsS = [48, 49, 50, 51, 52, 53, 54, 55, 56, 57] := by decide +kernel
theorem digit_mem (c : Nat) : c ∈ tl digitsS ↔ (48 ≤ c ∧ c ≤ 57) := by
  rw [digits_tl]
  constructor
  · intro h
    simp only [List.mem_cons, List.not_mem_nil, or_false] at h
    omega
  · intro h
    simp only [List.mem_cons, List.not_mem_nil, or_false]
    omega
def optV : Option Nat → V
  | none => .non
  | some n => .int (n : Int)
theorem word_digits (t : Str) (m : Nat) : wordB t digitsS ((numL m).length : Nat) = true ↔ ¬ ((tl t).length = 0 ∨ (numL m).length < (tl t).length ∨ ¬ NumText.AllDigits (tl t)) := by
  unfold wordB
  rw [Bool.and_eq_true, Bool.and_eq_true, decide_eq_true_eq, decide_eq_true_eq, List.all_eq_true, len_tl]
  constructor
  · rintro ⟨h1, h2, h3⟩ z
    rcases z with z | z | z
    · omega
    · omega
    · exact z fun c hc => (digit_mem c).mp (of_decide_eq_true (h3 c hc))
  · intro h
    refine ⟨?_, ?_, fun c hc => decide_eq_true ((digit_mem c).mpr ?_)⟩
    · have : (tl t).length ≠ 0 := fun z => h (.inl z)
      omega
    · have : ¬ (numL m).length < (tl t).length := fun z => h (.inr (.inl z))
      omega
    · exact (Decidable.byContradiction fun z => h (.inr (.inr z)) : NumText.AllDigits (tl t)) c hc
theorem log2_small {i : Int} {n : Nat} (h : i.natAbs < 2 ^ n) (hn : 0 < n) (h2 : n ≤ 1920) : i.natAbs.log2 < 1920 := Nat.lt_of_lt_of_le (PySem.Flt.log2_lt_of hn h) h2

section
variable {P : Program} {w : World} {K : PySem.W.Frag} {mg : Str → Option Value} {base : Heap}
/-! ### read_number -/
def spNum (T : Addr) : Sp := fun vs H Q _ => ∃ (t : Str) (m : Nat), vs = [.str t, .int (m : Int)] ∧ t.length ≤ sizeLine ∧ m < 10 ^ 18 ∧ TabG H T ∧ ∀ H', Tabbed T H H' → Q (optV (readNum (tl t) m)) H'
theorem ok_num {T f fW : Addr} {fd fdW : FuncData} {td : Tok} (F : Fun K "read_number" "read_number" sNum f fd) (GW : FnOk P w K mg base CX0 1 fW fdW ["text", "signs", "most"] (spWord T)) (bW : Binds K fdW ["text", "signs", "most"] [])
    (gW : mg "is_word" = some (.ref fW)) (kW : PySem.W.keepIn K (.ref fW) = true) (gD : mg "DIGITS" = some (.str digitsS td)) (ml : mg "len" = none) (ms : mg "str" = none) (mi : mg "int" = none) :
    FnOk P w K mg base CX0 2 f fd ["text", "most"] (spNum T) := by
  refine F.ok scNum (fun vs H Q E h => ?_) (fun cdv A outer s H vs Q E hr h => ?_)
  · obtain ⟨t, m, rfl, _⟩ := h
    rfl
  · obtain ⟨t, m, rfl, hl, hm, hT, q⟩ := h
    refine ⟨_, pss_cons (ps_if (pt_not (pt_val (pe_call GW hr (by rfl) gW kW bW .nil pass0 (pa_cons (pv 0) (pa_cons (pe_glob (v := V.str digitsS) (by rfl) gD ⟨_, rfl⟩)
        (pa_cons (pe_callB call_len_str (by rfl) ml PySem.boot_len (pa_cons (pe_callTy call_str_int (by rfl) ms (by decide +kernel) (pa_cons (pv 1) pa_nil)) pa_nil)) pa_nil)))))) (pss_one (ps_ret pe_non)) pss_nil)
      (pss_cons (ps_if (PW.pt (pw_and (pt_cmpR op_eq (pe_ix ix_str (pv 0) pe_int (fun _ _ => rfl)) pe_str (nomark _)) (pw_and1 (pt_cmpR op_ne (pv 0) pe_str (nomark _))))) (pss_one (ps_ret pe_non)) pss_nil)
      (pss_cons (ps_set (i := 2) scNum.nd rfl (.inl rfl) (pe_callTy call_int_str (by rfl) mi (by decide +kernel) (pa_cons (pv 0) pa_nil)))
      (pss_one (ps_ret (pe_ifExp (pt_cmpR op_le (pv 2) (pv 1) (nomark _)) (pv 2) pe_non))))), ?_⟩
    have p18 : (10 : Nat) ^ 18 < 2 ^ 60 := by decide
    have lm : (numL m).length ≤ 18 := numL_len (by decide) hm
    have em : (Str.ofString (toString (m : Int))).length = (numL m).length := by rw [len_tl, tl_num]
    refine ⟨_, rfl, _, rfl, (m : Int), rfl, log2_small (n := 60) (by omega) (by decide) (by decide), _, rfl, ?_, t, digitsS, _, rfl, hl, hT, fun H1 t1 => ?_⟩
    · rw [sizeLine_eq, em]
      omega
    rw [em]
    refine ⟨_, rfl, ?_⟩
    have qq := q H1 t1
    have wd := word_digits t m
    cases hw : wordB t digitsS ((numL m).length : Nat) with
    | false =>
      have bad : (tl t).length = 0 ∨ (numL m).length < (tl t).length ∨ ¬ NumText.AllDigits (tl t) := Decidable.byContradiction fun z => by
        have := wd.mpr z
        rw [hw] at this
        cases this
      have e : readNum (tl t) m = none := if_pos bad
      rw [e] at qq
      exact iteT qq
    | true =>
      have good := wd.mp hw
      refine iteF ?_
      obtain ⟨c, r, et⟩ : ∃ c r, tl t = c :: r := by
        cases h0 : tl t with
        | nil => exact absurd (.inl (by rw [h0]; rfl)) good
        | cons c r => exact ⟨c, r, rfl⟩
      have len1 : (tl t).length ≤ (numL m).length := Decidable.byContradiction fun z => good (.inr (.inl (by omega)))
      have dig : NumText.AllDigits (tl t) := Decidable.byContradiction fun z => good (.inr (.inr z))
      have hd0 : (tl t).head? = some c := by
        rw [et]
        rfl
      refine ⟨_, rfl, t, 0, c, rfl, rfl, hl, ?_, rfl, _, rfl, ?_⟩
      · show atI (tl t) ((0 : Nat) : Int) = some c
        rw [et]
        exact atI_nat rfl
      have sg : ∀ a : Nat, (V.str ⟨#[a]⟩ = V.str (Str.ofString "0")) ↔ a = 48 := fun a => by
        constructor
        · intro e
          have e2 : (⟨#[a]⟩ : Str) = Str.ofString "0" := V.str.inj e
          have e3 := congrArg tl e2
          rw [show tl (Str.ofString "0") = [48] by decide +kernel] at e3
          exact List.cons.inj e3 |>.1
        · intro e
          rw [e, show Str.ofString "0" = ⟨#[48]⟩ by decide +kernel]
      have sz : (V.str t = V.str (Str.ofString "0")) ↔ tl t = [48] := by
        constructor
        · intro e
          rw [V.str.inj e]
          decide +kernel
        · intro e
          exact congrArg V.str (ext_tl (e.trans (by decide +kernel)))
      have val := PySem.intText_digits (x := t) dig (by rw [show t.cps.toList = c :: r from et]; simp) (by rw [len_tl]; omega)
      by_cases hz : c = 48 ∧ tl t ≠ [48]
      · have e : readNum (tl t) m = none := (if_neg good).trans (if_pos ⟨by rw [hd0, hz.1], hz.2⟩)
        rw [e] at qq
        rw [decide_eq_true ((sg c).mpr hz.1)]
        refine iteT ⟨_, rfl, rfl, _, rfl, ?_⟩
        rw [decide_eq_false fun y => hz.2 (sz.mp y)]
        exact iteT qq
      · have e : readNum (tl t) m = if NumText.digitsVal (tl t) ≤ m then some (NumText.digitsVal (tl t)) else none := (if_neg good).trans (if_neg fun y => hz ⟨by
          have := y.1
          rw [hd0] at this
          exact Option.some.inj this, y.2⟩)
        rw [e] at qq
        by_cases h48 : c = 48
        · have h1 : tl t = [48] := Decidable.byContradiction fun y => hz ⟨h48, y⟩
          rw [decide_eq_true ((sg c).mpr h48)]
          refine iteT ⟨_, rfl, rfl, _, rfl, ?_⟩
          rw [decide_eq_true (sz.mpr h1)]
          refine iteF ?_
          refine ⟨_, rfl, t, _, rfl, val, by rw [len_tl]; omega, ?_⟩
          refine ⟨_, rfl, _, rfl, _, _, rfl, rfl, _, rfl, ite2 (fun y => ?_) (fun y => ?_)⟩
          · have y1 : ((NumText.digitsVal (tl t) : Nat) : Int) ≤ (m : Int) := of_decide_eq_true y
            rw [if_pos (by omega)] at qq
            exact ⟨_, rfl, qq⟩
          · have y1 : ¬ ((NumText.digitsVal (tl t) : Nat) : Int) ≤ (m : Int) := fun z => y (decide_eq_true z)
            rw [if_neg (by omega)] at qq
            exact qq
        · rw [decide_eq_false fun y => h48 ((sg c).mp y)]
          refine iteF (iteF ?_)
          refine ⟨_, rfl, t, _, rfl, val, by rw [len_tl]; omega, ?_⟩
          refine ⟨_, rfl, _, rfl, _, _, rfl, rfl, _, rfl, ite2 (fun y => ?_) (fun y => ?_)⟩
          · have y1 : ((NumText.digitsVal (tl t) : Nat) : Int) ≤ (m : Int) := of_decide_eq_true y
            rw [if_pos (by omega)] at qq
            exact ⟨_, rfl, qq⟩
          · have y1 : ¬ ((NumText.digitsVal (tl t) : Nat) : Int) ≤ (m : Int) := fun z => y (decide_eq_true z)
            rw [if_neg (by omega)] at qq
            exact qq
end
end K70
namespace K70
open PySem PySem.Spec PyProof.Rows L2 QR TL
open GxR (TabB TabG Tabbed GenS)
theorem chk_snoc (l : List Nat) (c : Nat) : chkL (l ++ [c]) = (chkL l * 257 + c + 1) % 4294967291 := by
  unfold chkL
  rw [List.foldl_append]
  rfl
theorem chk_take {l : List Nat} {i c : Nat} (h : l[i]? = some c) : chkL (l.take (i + 1)) = (chkL (l.take i) * 257 + c + 1) % 4294967291 := by
  rw [List.take_add_one, h, ← chk_snoc]
  rfl
section
variable {P : Program} {w : World} {K : PySem.W.Frag} {mg : Str → Option Value} {base : Heap}
/-! ### check_number -/
def spChk : Sp := fun vs H Q _ => ∃ t : Str, vs = [.str t] ∧ Q (.int ((chkL (tl t) : Nat) : Int)) H
theorem ok_chk {f : Addr} {fd : FuncData} {t1 t2 t3 : Tok} (F : Fun K "check_number" "check_number" sChk f fd) (g1 : mg "CHECK_START" = some (.int 7 t1)) (g2 : mg "CHECK_FACTOR" = some (.int 257 t2)) (g3 : mg "CHECK_MODULUS" = some (.int 4294967291 t3)) (mo : mg "ord" = none) :
    FnOk P w K mg base CX0 1 f fd ["text"] spChk := by
  refine F.ok scChk (fun vs H Q E h => ?_) (fun cdv A outer s H vs Q E hr h => ?_)
  · obtain ⟨t, rfl, _⟩ := h
    rfl
  · obtain ⟨t, rfl, q⟩ := h
    refine ⟨_, pss_cons (ps_set (i := 1) scChk.nd rfl (.inl rfl) (pe_glob (v := V.int 7) (by rfl) g1 ⟨_, rfl⟩))
      (pss_cons (ps_for PassesOwn.never rfl (pi_str (pv 0)) (pg_name (i := 2) scChk.nd rfl (.inl rfl))
        (pss_one (ps_set (i := 1) scChk.nd rfl (.inl rfl) (pe_op op_mod (pe_op op_add (pe_op op_add (pe_op op_mul (pv 1) (pe_glob (v := V.int 257) (by rfl) g2 ⟨_, rfl⟩))
          (pe_callB call_ord (by rfl) mo (by decide +kernel) (pa_cons (pv 2) pa_nil))) pe_int) (pe_glob (v := V.int 4294967291) (by rfl) g3 ⟨_, rfl⟩)))))
      (pss_one (ps_ret (pv 1)))), ?_⟩
    refine ⟨_, rfl, t, rfl, fun i m σ H' => ∃ y, σ = [some (.str t), some (.int ((chkL ((tl t).take i) : Nat) : Int)), y] ∧ i + m = t.cps.size ∧ H' = H, ⟨t.cps.size, none, rfl, by omega, rfl⟩, fun i m σ H1 hW => ?_⟩
    obtain ⟨y, rfl, em, rfl⟩ := hW
    have lt := chk_lt ((tl t).take i)
    have es : t.cps.size = (tl t).length := by simp
    by_cases hi : i < t.cps.size
    · refine .inr ⟨hi, fun σ' H' => ∃ y, σ' = [some (.str t), some (.int ((chkL ((tl t).take (i + 1)) : Nat) : Int)), y] ∧ H' = H1, fun σ' H' hN => ?_, fun v H' hy => ?_⟩
      · obtain ⟨y', e1, e2⟩ := hN
        exact ⟨m - 1, by omega, y', e1, by omega, e2⟩
      · obtain ⟨rfl, c, hc, rfl⟩ := hy
        have ec : (tl t)[i]? = some c := by
          rw [← hc]
          exact Array.getElem?_toList
        refine ⟨_, rfl, _, _, rfl, rfl, .inl ⟨by omega, by omega⟩, _, rfl, ⟨#[c]⟩, rfl, rfl, _, _, rfl, rfl, _, _, rfl, rfl, _, _, rfl, rfl, (by show (0 : Int) < 4294967291; decide), some (.str ⟨#[c]⟩), ?_, rfl⟩
        rw [chk_take ec]
        have e9 : (((chkL ((tl t).take i) : Nat) : Int) * 257 + ((c : Nat) : Int) + 1) % 4294967291 = (((chkL ((tl t).take i) * 257 + c + 1) % 4294967291 : Nat) : Int) := by omega
        rw [← e9]
        rfl
    · refine .inl ⟨by show t.cps.size ≤ i; omega, ?_⟩
      have e : (tl t).take i = tl t := List.take_of_length_le (by omega)
      rw [e]
      exact ⟨_, rfl, q⟩

/-! ### record_text -/
def spRec : Sp := fun vs H Q _ => ∃ (k : Nat) (t : Str), vs = [.int (k : Int), .str t] ∧ k < 10 ∧ t.length ≤ 1000000 ∧ Q (.str (Sg (recL k (tl t)))) H
theorem num_le_of {n k : Nat} (h : n < 10 ^ (k + 1)) : (numL n).length ≤ k + 1 := numL_len (by omega) h
theorem body_len {k : Nat} {t : List Nat} (hk : k < 10) (ht : t.length ≤ 1000000) : (bodyL k t).length ≤ 1000010 := by
  have a := num_le_of (n := k) (k := 0) (by omega)
  have b := num_le_of (n := t.length) (k := 6) (by omega)
  unfold bodyL
  rw [List.length_append, List.length_cons, List.length_append, List.length_cons]
  omega
theorem ok_rec {f fC : Addr} {fd fdC : FuncData} (F : Fun K "record_text" "record_text" sRec f fd) (GC : FnOk P w K mg base CX0 1 fC fdC ["text"] spChk) (bC : Binds K fdC ["text"] []) (gC : mg "check_number" = some (.ref fC)) (kC : PySem.W.keepIn K (.ref fC) = true) (ml : mg "len" = none) :
    FnOk P w K mg base CX0 2 f fd ["kind", "text"] spRec := by
  refine F.ok scRec (fun vs H Q E h => ?_) (fun cdv A outer s H vs Q E hr h => ?_)
  · obtain ⟨k, t, rfl, _⟩ := h
    rfl
  · obtain ⟨k, t, rfl, hk, ht, q⟩ := h
    refine ⟨_, pss_cons (ps_set (i := 2) scRec.nd rfl (.inl rfl) (pe_joined (.cons (pe_fmt (pv 0)) (.cons pe_str (.cons (pe_fmt (pe_callB call_len_str (by rfl) ml PySem.boot_len (pa_cons (pv 1) pa_nil))) (.cons pe_str (.cons (pe_fmt (pv 1)) .nil)))))))
      (pss_one (ps_ret (pe_joined (.cons (pe_fmt (pv 2)) (.cons pe_str (.cons (pe_fmt (pe_call GC hr (by rfl) gC kC bC .nil pass0 (pa_cons (pv 2) pa_nil))) (.cons pe_str .nil))))))), ?_⟩
    have lt : t.length = (tl t).length := len_tl t
    have hb := body_len (k := k) (t := tl t) hk (by omega)
    have n1 := num_le_of (n := k) (k := 0) (by omega)
    have n2 := num_le_of (n := (tl t).length) (k := 6) (by omega)
    have lc := chk_lt (bodyL k (tl t))
    have n3 := num_le_of (n := chkL (bodyL k (tl t))) (k := 9) (by omega)
    have zl : 2000000 ≤ sizeLine := by
      rw [sizeLine_eq]
      decide
    have sp : tl (Str.ofString " ") = [32] := by decide +kernel
    have co : tl (Str.ofString ":") = [58] := by decide +kernel
    have se : tl (Str.ofString ";") = [59] := by decide +kernel
    have em : tl Str.empty = [] := rfl
    have small : ∀ n : Nat, n < 2 ^ 60 → ((n : Nat) : Int).natAbs.log2 < 1920 := fun n h => log2_small (n := 60) (by omega) (by decide) (by decide)
    refine ⟨_, rfl, .inr ⟨_, rfl, small k (by omega), _, rfl, ?_, _, rfl, ?_, _, rfl, t, rfl, by omega, .inr ⟨_, rfl, small _ (by omega), _, rfl, ?_, _, rfl, ?_, _, rfl, .inl ⟨_, rfl, by omega, _, rfl, ?_, ?_⟩⟩⟩⟩
    all_goals (try (rw [len_tl]; simp only [tl_append, em, sp, co, tl_num, List.length_append, List.length_nil, List.length_singleton]; omega))
    · rw [len_tl, lt]
      simp only [tl_append, em, sp, co, tl_num, List.length_append, List.length_nil, List.length_singleton]
      omega
    · rw [len_tl, lt]
      simp only [tl_append, em, sp, co, tl_num, List.length_append, List.length_nil, List.length_singleton]
      omega
    · rw [len_tl, lt]
      simp only [tl_append, em, sp, co, tl_num, List.length_append, List.length_nil, List.length_singleton]
      omega
    · have eb : Str.empty ++ Str.ofString (toString (k : Int)) ++ Str.ofString " " ++ Str.ofString (toString (t.length : Int)) ++ Str.ofString ":" ++ t = Sg (bodyL k (tl t)) := ext_tl (by
        simp only [tl_append, em, sp, co, tl_num]
        rw [lt]
        show _ = bodyL k (tl t)
        unfold bodyL
        simp only [List.nil_append, List.append_assoc, List.cons_append])
      rw [eb]
      have tb : tl (Sg (bodyL k (tl t))) = bodyL k (tl t) := rfl
      have lb : (Sg (bodyL k (tl t))).length = (bodyL k (tl t)).length := by rw [len_tl]
      refine ⟨_, rfl, .inl ⟨_, rfl, by omega, _, rfl, ?_, _, rfl, ?_, _, rfl, Sg (bodyL k (tl t)), rfl, .inr ⟨_, rfl, small _ (by show chkL (bodyL k (tl t)) < _; omega), _, rfl, ?_, _, rfl, ?_, ?_⟩⟩⟩
      · rw [len_tl]
        simp only [tl_append, em, tb, List.nil_append]
        omega
      · rw [len_tl]
        simp only [tl_append, em, tb, co, List.nil_append, List.length_append, List.length_singleton]
        omega
      · rw [len_tl, tb]
        simp only [tl_append, em, tb, co, tl_num, List.nil_append, List.length_append, List.length_singleton]
        omega
      · rw [len_tl, tb]
        simp only [tl_append, em, tb, co, se, tl_num, List.nil_append, List.length_append, List.length_singleton]
        omega
      · have er : Str.empty ++ Sg (bodyL k (tl t)) ++ Str.ofString ":" ++ Str.ofString (toString ((chkL (tl (Sg (bodyL k (tl t)))) : Nat) : Int)) ++ Str.ofString ";" = Sg (recL k (tl t)) := ext_tl (by
          rw [tb]
          simp only [tl_append, em, tb, co, se, tl_num]
          show _ = recL k (tl t)
          unfold recL
          simp only [List.nil_append, List.append_assoc, List.cons_append])
        have qq := q
        rw [← er] at qq
        exact qq
end
end K70
namespace K70
open PySem PySem.Spec PyProof.Rows L2 QR TL
open GxR (TabB TabG Tabbed GenS)
abbrev sRR : Stmt := topS 12
theorem scRR : FnScope ["data", "at", "space", "colon", "kind", "length", "behind", "last"] ["data", "at"] (defScope sRR) := ⟨rfl, rfl, rfl, by decide +kernel, rfl, by decide +kernel, by decide +kernel⟩
/-! ### texts by lists -/
theorem from_nat (n i : Nat) : fromIndex n (i : Int) = i := by
  unfold fromIndex
  rw [if_neg (by omega)]
  omega
theorem getD_tl (d : Str) {v : Nat} (h : v < d.length) : d.cps.getD v 0 = (tl d)[v]'(by rw [← len_tl]; exact h) := by
  have h2 : v < d.cps.size := h
  simp [tl, Array.getD, h2]
theorem find_drop (d : Str) (c i : Nat) : (brk c ((tl d).drop i) = none ∧ Txt.find3 d ⟨#[c]⟩ (i : Int) = -1) ∨ ∃ p r, brk c ((tl d).drop i) = some (p, r) ∧ Txt.find3 d ⟨#[c]⟩ (i : Int) = ((i + p.length : Nat) : Int) := by
  rcases StrLaws.find3_spec d c (i : Int) with ⟨h, hn⟩ | ⟨k, h, h1, h2, h3, h4⟩
  · rw [from_nat] at hn
    refine .inl ⟨brk_of_notin fun hm => ?_, h⟩
    obtain ⟨j, hj, e⟩ := List.getElem_of_mem hm
    rw [List.getElem_drop] at e
    rw [List.length_drop, ← len_tl] at hj
    have := hn (i + j) (by omega) (by omega)
    rw [getD_tl d (by omega)] at this
    exact this e
  · rw [from_nat] at h1 h4
    have lk : k < (tl d).length := by rw [← len_tl]; exact h2
    have e3 : (tl d)[k] = c := by
      rw [← getD_tl d h2]
      exact h3
    refine .inr ⟨((tl d).drop i).take (k - i), (tl d).drop (k + 1), ?_, ?_⟩
    · have e1 : (tl d).drop i = ((tl d).drop i).take (k - i) ++ c :: (tl d).drop (k + 1) := by
        conv => lhs; rw [← List.take_append_drop (k - i) ((tl d).drop i)]
        congr 1
        rw [List.drop_drop, show i + (k - i) = k by omega, List.drop_eq_getElem_cons lk, e3]
      conv => lhs; rw [e1]
      refine brk_app fun hm => ?_
      obtain ⟨j, hj, e⟩ := List.getElem_of_mem hm
      rw [List.getElem_take, List.getElem_drop] at e
      rw [List.length_take] at hj
      have := h4 (i + j) (by omega) (by omega)
      rw [getD_tl d (by omega)] at this
      exact this e
    · rw [h]
      have : (((tl d).drop i).take (k - i)).length = k - i := by
        rw [List.length_take, List.length_drop]
        omega
      rw [this]
      omega
theorem cut_nat (d : Str) (a b : Nat) : cutS d (some (a : Int)) (some (b : Int)) = Sg (((tl d).drop a).take (b - a)) := by
  unfold cutS
  rw [HT.sIx_nat, HT.sIx_nat]
  have ld : d.length = (tl d).length := len_tl d
  refine congrArg (fun l : List Nat => (⟨l.toArray⟩ : Str)) ?_
  show List.take (min b d.length - min a d.length) (List.drop (min a d.length) (tl d)) = _
  by_cases ha : a ≤ d.length
  · rw [Nat.min_eq_left ha]
    by_cases hb : b ≤ d.length
    · rw [Nat.min_eq_left hb]
    · rw [Nat.min_eq_right (by omega), List.take_of_length_le (by rw [List.length_drop]; omega), List.take_of_length_le (by rw [List.length_drop]; omega)]
  · rw [show min a d.length = d.length by omega, List.drop_of_length_le (by omega), List.drop_of_length_le (by omega)]
    simp
/-- the part in front of a sign that was found -/
theorem drop_brk {l p r : List Nat} {c i : Nat} (h : brk c (l.drop i) = some (p, r)) : (l.drop i).take p.length = p ∧ l.drop (i + p.length + 1) = r ∧ i + p.length < l.length := by
  obtain ⟨e, _⟩ := brk_some h
  refine ⟨by rw [e, List.take_left], ?_, ?_⟩
  · have e2 : l.drop (i + p.length + 1) = (l.drop i).drop (p.length + 1) := by rw [List.drop_drop, Nat.add_assoc]
    rw [e2, e, List.drop_append]
    simp
  · have := congrArg List.length e
    rw [List.length_drop, List.length_append, List.length_cons] at this
    omega
section
variable {P : Program} {w : World} {K : PySem.W.Frag} {mg : Str → Option Value} {base : Heap}
/-! ### read_record -/
def spRR (T : Addr) : Sp := fun vs H Q _ => ∃ (d : Str) (i : Nat), vs = [.str d, .int (i : Int)] ∧ d.length ≤ sizeLine ∧ i ≤ d.length ∧ TabG H T ∧
  (parse d.length ((tl d).drop i) = none → ∀ H', Tabbed T H H' → Q .non H') ∧
  (∀ k t r3, parse d.length ((tl d).drop i) = some (k, t, r3) → ∀ H' p, Tabbed T H H' → H' p = none → Q (.ref p) (upd H' p (.tup [.int (k : Int), .str (Sg t), .int ((d.length - r3.length : Nat) : Int)])))
theorem ok_rr {T f fN fC : Addr} {fd fdN fdC : FuncData} {t1 t2 t3 : Tok} (F : Fun K "read_record" "read_record" sRR f fd)
    (GN : FnOk P w K mg base CX0 2 fN fdN ["text", "most"] (spNum T)) (bN : Binds K fdN ["text", "most"] []) (gN : mg "read_number" = some (.ref fN)) (kN : PySem.W.keepIn K (.ref fN) = true)
    (GC : FnOk P w K mg base CX0 1 fC fdC ["text"] spChk) (bC : Binds K fdC ["text"] []) (gC : mg "check_number" = some (.ref fC)) (kC : PySem.W.keepIn K (.ref fC) = true)
    (gH : mg "HEAD" = some (.int 1 t1)) (gR : mg "READY" = some (.int 3 t2)) (gM : mg "CHECK_MODULUS" = some (.int 4294967291 t3)) (ml : mg "len" = none) :
    FnOk P w K mg base CX0 3 f fd ["data", "at"] (spRR T) := by
  refine F.ok scRR (fun vs H Q E h => ?_) (fun cdv A outer s H vs Q E hr h => ?_)
  · obtain ⟨d, i, rfl, _⟩ := h
    rfl
  · obtain ⟨d, i, rfl, hl, hi, hT, qn, qs⟩ := h
    refine ⟨_, pss_cons (ps_set (i := 2) scRR.nd rfl (.inl rfl) (pe_bm PySem.F.plainAttrs_str PySem.F.slot_str_find PySem.F.type_str_find mt_find3 (pv 0) (pa_cons pe_str (pa_cons (pv 1) pa_nil))))
      (pss_cons (ps_set (i := 3) scRR.nd rfl (.inl rfl) (pe_bm PySem.F.plainAttrs_str PySem.F.slot_str_find PySem.F.type_str_find mt_find3 (pv 0) (pa_cons pe_str (pa_cons (pe_op op_add (pv 2) pe_int) pa_nil))))
      (pss_cons (ps_if (PW.pt (pw_or (pt_cmpR op_lt (pv 2) pe_int (nomark _)) (pw_or1 (pt_cmpR op_lt (pv 3) pe_int (nomark _))))) (pss_one (ps_ret pe_non)) pss_nil)
      (pss_cons (ps_set (i := 4) scRR.nd rfl (.inl rfl) (pe_call GN hr (by rfl) gN kN bN .nil pass0 (pa_cons (pe_slice sl_str (pv 0) (po_some (pv 1)) (po_some (pv 2))) (pa_cons (pe_glob (v := V.int 3) (by rfl) gR ⟨_, rfl⟩) pa_nil))))
      (pss_cons (ps_set (i := 5) scRR.nd rfl (.inl rfl) (pe_call GN hr (by rfl) gN kN bN .nil pass0 (pa_cons (pe_slice sl_str (pv 0) (po_some (pe_op op_add (pv 2) pe_int)) (po_some (pv 3))) (pa_cons (pe_callB call_len_str (by rfl) ml PySem.boot_len (pa_cons (pv 0) pa_nil)) pa_nil))))
      (pss_cons (ps_if (PW.pt (pw_or (pt_cmpR op_isN (pv 4) pe_non (nomark _)) (pw_or (pt_cmpR op_lt (pv 4) (pe_glob (v := V.int 1) (by rfl) gH ⟨_, rfl⟩) (nomark _)) (pw_or1 (pt_cmpR op_isN (pv 5) pe_non (nomark _)))))) (pss_one (ps_ret pe_non)) pss_nil)
      (pss_cons (ps_set (i := 6) scRR.nd rfl (.inl rfl) (pe_op op_add (pe_op op_add (pv 3) pe_int) (pv 5)))
      (pss_cons (ps_set (i := 7) scRR.nd rfl (.inl rfl) (pe_bm PySem.F.plainAttrs_str PySem.F.slot_str_find PySem.F.type_str_find mt_find3 (pv 0) (pa_cons pe_str (pa_cons (pv 6) pa_nil))))
      (pss_cons (ps_if (PW.pt (pw_or (pt_cmpR op_ne (pe_slice sl_str (pv 0) (po_some (pv 6)) (po_some (pe_op op_add (pv 6) pe_int))) pe_str (nomark _)) (pw_or1 (pt_cmpR op_lt (pv 7) pe_int (nomark _))))) (pss_one (ps_ret pe_non)) pss_nil)
      (pss_cons (ps_if (pt_cmpR op_ne (pe_call GN hr (by rfl) gN kN bN .nil pass0 (pa_cons (pe_slice sl_str (pv 0) (po_some (pe_op op_add (pv 6) pe_int)) (po_some (pv 7))) (pa_cons (pe_op op_sub (pe_glob (v := V.int 4294967291) (by rfl) gM ⟨_, rfl⟩) pe_int) pa_nil))) (pe_call GC (hr.mono (by decide)) (by rfl) gC kC bC .nil pass0 (pa_cons (pe_slice sl_str (pv 0) (po_some (pv 1)) (po_some (pv 6))) pa_nil)) (nomark _)) (pss_one (ps_ret pe_non)) pss_nil)
      (pss_one (ps_ret (pe_tup (pa_cons (pv 4) (pa_cons (pe_slice sl_str (pv 0) (po_some (pe_op op_add (pv 3) pe_int)) (po_some (pv 6))) (pa_cons (pe_op op_add (pv 7) pe_int) pa_nil))))))))))))))), ?_⟩
    have e32 : Str.ofString " " = ⟨#[32]⟩ := by decide +kernel
    have e58 : Str.ofString ":" = ⟨#[58]⟩ := by decide +kernel
    have e59 : Str.ofString ";" = ⟨#[59]⟩ := by decide +kernel
    have neg1 : decide ((-1 : Int) < 0) = true := rfl
    have nat0 : ∀ n : Nat, decide (((n : Nat) : Int) < 0) = false := fun n => decide_eq_false (by omega)
    have ld : d.length = (tl d).length := len_tl d
    refine ⟨_, rfl, rfl, _, rfl, d, _, _, rfl, rfl, ?_⟩
    refine ⟨_, rfl, rfl, _, rfl, _, _, rfl, rfl, d, _, _, rfl, rfl, ?_⟩
    rw [e32, e58, e59]
    rcases find_drop d 32 i with ⟨b1, f1⟩ | ⟨p, r1, b1, f1⟩
    · have pn : parse d.length ((tl d).drop i) = none := by
        unfold parse
        rw [b1]
        rfl
      rw [f1]
      refine ⟨_, rfl, _, _, rfl, rfl, _, rfl, ?_⟩
      rw [neg1]
      exact iteT (iteT (qn pn H (tabbed_refl hT)))
    rw [f1]
    obtain ⟨c1, c2, c3⟩ := drop_brk b1
    rw [show ((i + p.length : Nat) : Int) + 1 = ((i + p.length + 1 : Nat) : Int) by omega]
    refine ⟨_, rfl, _, _, rfl, rfl, _, rfl, ?_⟩
    rw [nat0]
    refine iteF ?_
    refine ⟨_, rfl, _, _, rfl, rfl, _, rfl, ?_⟩
    rcases find_drop d 58 (i + p.length + 1) with ⟨b2, f2⟩ | ⟨q, r2, b2, f2⟩
    · have pn : parse d.length ((tl d).drop i) = none := by
        unfold parse
        rw [b1]
        show (brk 58 r1).bind _ = none
        rw [← c2, b2]
        rfl
      rw [f2, neg1]
      exact iteT (qn pn H (tabbed_refl hT))
    rw [f2, nat0]
    refine iteF ?_
    obtain ⟨c4, c5, c6⟩ := drop_brk b2
    have s1 : cutS d (some (i : Int)) (some ((i + p.length : Nat) : Int)) = Sg p := by
      rw [cut_nat, show i + p.length - i = p.length by omega, c1]
    have s2 : cutS d (some ((i + p.length + 1 : Nat) : Int)) (some ((i + p.length + 1 + q.length : Nat) : Int)) = Sg q := by
      rw [cut_nat, show i + p.length + 1 + q.length - (i + p.length + 1) = q.length by omega, c4]
    -- kind
    have lSg : ∀ l : List Nat, (Sg l).length = l.length := fun l => by rw [len_tl]
    refine ⟨_, rfl, _, rfl, _, rfl, _, rfl, _, rfl, d, rfl, hl, ?_⟩
    rw [s1]
    refine ⟨Sg p, 3, rfl, by rw [lSg]; omega, by decide, hT, fun H1 t1 => ?_⟩
    -- length
    refine ⟨_, rfl, _, rfl, _, _, rfl, rfl, _, rfl, _, rfl, _, rfl, d, rfl, hl, ?_⟩
    rw [show ((i + p.length : Nat) : Int) + 1 = ((i + p.length + 1 : Nat) : Int) by omega, s2]
    have big : sizeLine < 10 ^ 18 := by
      rw [sizeLine_eq]
      decide
    refine ⟨_, rfl, d, rfl, hl, Sg q, d.length, rfl, by rw [lSg]; omega, by omega, t1.1, fun H2 t2 => ?_⟩
    have t12 := tabbed_trans t1 t2
    -- what parse does
    have P0 : parse d.length ((tl d).drop i) = (readNum p 3).bind fun k => (if k < 1 then none else readNum q d.length).bind fun n => (brk 59 (r2.drop n)).bind fun y =>
        if y.1.head? = some 58 ∧ readNum y.1.tail 4294967290 = some (chkL (p ++ (32 :: (q ++ (58 :: r2.take n))))) then some (k, r2.take n, y.2) else none := by
      unfold parse
      rw [b1]
      show (brk 58 r1).bind _ = _
      rw [← c2, b2]
      rfl
    have isN : ∀ a : Int, decide (V.int a = V.non) = false := fun a => decide_eq_false fun z => nomatch z
    have isN2 : decide (V.non = V.non) = true := rfl
    have tq : tl (Sg p) = p := rfl
    have tq2 : tl (Sg q) = q := rfl
    rw [tq, tq2]
    refine ⟨_, rfl, rfl, _, rfl, ?_⟩
    cases hk : readNum p 3 with
    | none =>
      rw [hk] at P0
      exact iteT (iteT (qn P0 H2 t12))
    | some k =>
    rw [hk] at P0
    show if decide (V.int (k : Int) = V.non) = true then _ else _
    rw [isN]
    refine iteF ⟨_, rfl, _, _, rfl, rfl, _, rfl, ?_⟩
    by_cases k0 : k < 1
    · rw [decide_eq_true (show ((k : Nat) : Int) < 1 by omega)]
      have P1 : parse d.length ((tl d).drop i) = none := by
        rw [P0]
        show (if k < 1 then none else readNum q d.length).bind _ = none
        rw [if_pos k0]
        rfl
      exact iteT (iteT (qn P1 H2 t12))
    rw [decide_eq_false (show ¬ ((k : Nat) : Int) < 1 by omega)]
    have P2 : parse d.length ((tl d).drop i) = (readNum q d.length).bind fun n => (brk 59 (r2.drop n)).bind fun y =>
        if y.1.head? = some 58 ∧ readNum y.1.tail 4294967290 = some (chkL (p ++ (32 :: (q ++ (58 :: r2.take n))))) then some (k, r2.take n, y.2) else none := by
      rw [P0]
      show (if k < 1 then none else readNum q d.length).bind _ = _
      rw [if_neg k0]
    refine iteF ⟨_, rfl, rfl, _, rfl, ?_⟩
    cases hn : readNum q d.length with
    | none =>
      rw [hn] at P2
      exact iteT (qn P2 H2 t12)
    | some n =>
    rw [hn] at P2
    show if decide (V.int (n : Int) = V.non) = true then _ else _
    rw [isN]
    refine iteF ?_
    -- behind, last
    refine ⟨_, rfl, _, _, rfl, rfl, _, rfl, _, _, rfl, rfl, ?_⟩
    show gName 6 (V.int (((i + p.length + 1 + q.length : Nat) : Int) + 1 + (n : Int))) _ _ _
    rw [show ((i + p.length + 1 + q.length : Nat) : Int) + 1 + (n : Int) = ((i + p.length + 1 + q.length + 1 + n : Nat) : Int) by omega]
    refine ⟨_, rfl, rfl, _, rfl, d, _, _, rfl, rfl, ?_⟩
    have B : ∃ b : Nat, b = i + p.length + 1 + q.length + 1 + n := ⟨_, rfl⟩
    obtain ⟨b, hb⟩ := B
    rw [← hb]
    have db : (tl d).drop b = r2.drop n := by
      rw [← c5, List.drop_drop, hb]
    have cut1 : cutS d (some (b : Int)) (some ((b : Int) + 1)) = Sg ((r2.drop n).take 1) := by
      rw [show (b : Int) + 1 = ((b + 1 : Nat) : Int) by omega, cut_nat, db, show b + 1 - b = 1 by omega]
    refine ⟨_, rfl, _, rfl, _, rfl, _, rfl, _, _, rfl, rfl, _, rfl, d, rfl, hl, ?_⟩
    rw [cut1]
    refine ⟨rfl, _, rfl, ?_⟩
    have colon : (V.str (Sg ((r2.drop n).take 1)) = V.str ⟨#[58]⟩) ↔ (r2.drop n).head? = some 58 := by
      constructor
      · intro z
        have z2 : (r2.drop n).take 1 = [58] := congrArg tl (V.str.inj z)
        cases hd : r2.drop n with
        | nil =>
          rw [hd] at z2
          cases z2
        | cons a r =>
          rw [hd] at z2
          have : a = 58 := List.cons.inj z2 |>.1
          rw [this]
          rfl
      · intro z
        cases hd : r2.drop n with
        | nil =>
          rw [hd] at z
          cases z
        | cons a r =>
          rw [hd] at z
          have : a = 58 := Option.some.inj z
          rw [this]
          rfl
    have P3 : parse d.length ((tl d).drop i) = (brk 59 (r2.drop n)).bind fun y =>
        if y.1.head? = some 58 ∧ readNum y.1.tail 4294967290 = some (chkL (p ++ (32 :: (q ++ (58 :: r2.take n))))) then some (k, r2.take n, y.2) else none := by
      rw [P2]
      rfl
    rcases find_drop d 59 b with ⟨b3, f3⟩ | ⟨y, r4, b3, f3⟩
    · have pn : parse d.length ((tl d).drop i) = none := by
        rw [P3, ← db, b3]
        rfl
      rw [f3]
      by_cases hc : (r2.drop n).head? = some 58
      · rw [decide_eq_true (colon.mpr hc)]
        refine iteF ⟨_, rfl, _, _, rfl, rfl, _, rfl, ?_⟩
        rw [neg1]
        exact iteT (qn pn H2 t12)
      · rw [decide_eq_false fun z => hc (colon.mp z)]
        exact iteT (iteT (qn pn H2 t12))
    rw [f3]
    rw [db] at b3
    obtain ⟨e5, _⟩ := brk_some b3
    have hy : (r2.drop n).head? = some 58 ↔ y.head? = some 58 := by
      rw [e5]
      cases y with
      | nil =>
        constructor
        · intro z
          exact absurd (Option.some.inj z) (by decide)
        · intro z
          cases z
      | cons a r => exact Iff.rfl
    by_cases hc : (r2.drop n).head? = some 58
    case neg =>
      have pn : parse d.length ((tl d).drop i) = none := by
        rw [P3, b3]
        exact if_neg fun z => hc (hy.mpr z.1)
      rw [decide_eq_false fun z => hc (colon.mp z)]
      exact iteT (iteT (qn pn H2 t12))
    rw [decide_eq_true (colon.mpr hc)]
    refine iteF ⟨_, rfl, _, _, rfl, rfl, _, rfl, ?_⟩
    rw [nat0]
    refine iteF ?_
    have yy := hy.mp hc
    obtain ⟨y', rfl⟩ : ∃ y', y = 58 :: y' := by
      cases y with
      | nil => cases yy
      | cons a r =>
        have : a = 58 := Option.some.inj yy
        exact ⟨r, by rw [this]⟩
    have lr2 : r2.length = d.length - (i + p.length + 1 + q.length + 1) := by
      rw [← c5, List.length_drop, ← ld]
    have le5 := congrArg List.length e5
    rw [List.length_drop, List.length_append, List.length_cons, List.length_cons] at le5
    have cut2 : cutS d (some ((b : Int) + 1)) (some ((b + (58 :: y').length : Nat) : Int)) = Sg y' := by
      rw [show (b : Int) + 1 = ((b + 1 : Nat) : Int) by omega, cut_nat, List.length_cons, show b + (y'.length + 1) - (b + 1) = y'.length by omega, ← List.drop_drop, db, e5]
      show Sg (List.take y'.length (y' ++ 59 :: r4)) = _
      rw [List.take_left]
    have ltake : (r2.take n).length = n := by
      rw [List.length_take]
      omega
    have cut3 : cutS d (some (i : Int)) (some (b : Int)) = Sg (p ++ (32 :: (q ++ (58 :: r2.take n)))) := by
      rw [cut_nat]
      obtain ⟨g1, _⟩ := brk_some b1
      obtain ⟨g2, _⟩ := brk_some b2
      have g3 : (tl d).drop i = (p ++ (32 :: (q ++ (58 :: r2.take n)))) ++ r2.drop n := by
        rw [g1, ← c2, g2]
        simp only [List.append_assoc, List.cons_append, List.take_append_drop]
      have g4 : b - i = (p ++ (32 :: (q ++ (58 :: r2.take n)))).length := by
        rw [List.length_append, List.length_cons, List.length_append, List.length_cons, ltake]
        omega
      rw [g3, g4, List.take_left]
    have cut4 : cutS d (some (((i + p.length + 1 + q.length : Nat) : Int) + 1)) (some (b : Int)) = Sg (r2.take n) := by
      rw [show ((i + p.length + 1 + q.length : Nat) : Int) + 1 = ((i + p.length + 1 + q.length + 1 : Nat) : Int) by omega, cut_nat, c5, show b - (i + p.length + 1 + q.length + 1) = n by omega]
    -- the check number
    refine ⟨_, rfl, _, rfl, _, _, rfl, rfl, _, rfl, _, rfl, _, rfl, d, rfl, hl, ?_⟩
    rw [cut2]
    refine ⟨_, _, rfl, rfl, Sg y', 4294967290, rfl, by rw [lSg]; omega, by decide, t12.1, fun H3 t3 => ?_⟩
    have t123 := tabbed_trans t12 t3
    refine ⟨_, rfl, _, rfl, _, rfl, _, rfl, _, rfl, d, rfl, hl, ?_⟩
    rw [cut3]
    refine ⟨_, rfl, ?_⟩
    show rNe (optV (readNum y' 4294967290)) (V.int ((chkL (p ++ (32 :: (q ++ (58 :: r2.take n)))) : Nat) : Int)) H3 _
    have P4 : parse d.length ((tl d).drop i) = if (58 :: y').head? = some 58 ∧ readNum y' 4294967290 = some (chkL (p ++ (32 :: (q ++ (58 :: r2.take n))))) then some (k, r2.take n, r4) else none := by
      rw [P3, b3]
      rfl
    by_cases hx : readNum y' 4294967290 = some (chkL (p ++ (32 :: (q ++ (58 :: r2.take n)))))
    · have ps : parse d.length ((tl d).drop i) = some (k, r2.take n, r4) := P4.trans (if_pos ⟨rfl, hx⟩)
      rw [hx]
      refine ⟨rfl, _, rfl, ?_⟩
      rw [decide_eq_true (show optV (some (chkL (p ++ (32 :: (q ++ (58 :: r2.take n)))))) = V.int ((chkL (p ++ (32 :: (q ++ (58 :: r2.take n)))) : Nat) : Int) from rfl)]
      refine iteF ?_
      refine ⟨_, rfl, _, rfl, _, rfl, _, _, rfl, rfl, _, rfl, _, rfl, _, rfl, d, rfl, hl, ?_⟩
      rw [cut4]
      refine ⟨_, rfl, _, _, rfl, rfl, by show 3 ≤ sizeLine; rw [sizeLine_eq]; decide, fun a ha => ?_⟩
      have fin := qs k _ r4 ps H3 a t123 ha
      have en : ((d.length - r4.length : Nat) : Int) = ((b + (58 :: y').length : Nat) : Int) + 1 := by
        rw [List.length_cons]
        omega
      rw [en] at fin
      exact fin
    · have pn : parse d.length ((tl d).drop i) = none := P4.trans (if_neg fun z => hx z.2)
      have ne : decide (optV (readNum y' 4294967290) = V.int ((chkL (p ++ (32 :: (q ++ (58 :: r2.take n)))) : Nat) : Int)) = false := by
        refine decide_eq_false fun z => hx ?_
        cases hv : readNum y' 4294967290 with
        | none =>
          rw [hv] at z
          cases z
        | some v =>
          rw [hv] at z
          have z2 : ((v : Nat) : Int) = _ := V.int.inj z
          have z3 : v = chkL (p ++ (32 :: (q ++ (58 :: r2.take n)))) := by omega
          rw [z3]
      refine ⟨?_, _, rfl, ?_⟩
      · cases readNum y' 4294967290 <;> rfl
      · rw [ne]
        exact iteT (qn pn H3 t123)
end
end K70
namespace K70
open PySem PySem.Spec PyProof.Rows L2 QR TL
open GxR (TabB TabG Tabbed GenS)
abbrev sRs : Stmt := topS 13
theorem scRs : FnScope ["data", "rows", "at", "row"] ["data"] (defScope sRs) := ⟨rfl, rfl, rfl, by decide +kernel, rfl, by decide +kernel, by decide +kernel⟩
/-! ### all records -/
theorem parse_nil (M : Nat) : parse M [] = none := rfl
theorem parse_len {M k : Nat} {r t r3 : List Nat} (h : parse M r = some (k, t, r3)) : r3.length + t.length + 7 ≤ r.length := by
  obtain ⟨_, _, e⟩ := parse_some h
  have := recL_len k t
  rw [e, List.length_append]
  omega
theorem recs_fuel (M : Nat) : ∀ (f g : Nat) (r : List Nat), r.length ≤ f → r.length ≤ g → recs M f r = recs M g r
  | 0, g, r, h1, _ => by
    have e : r = [] := List.eq_nil_of_length_eq_zero (by omega)
    subst e
    cases g with
    | zero => rfl
    | succ g =>
      show _ = match parse M [] with | none => ([], []) | some (k, t, r3) => ((k, t) :: (recs M g r3).1, (recs M g r3).2)
      rw [parse_nil]
      rfl
  | f + 1, 0, r, _, h2 => by
    have e : r = [] := List.eq_nil_of_length_eq_zero (by omega)
    subst e
    show (match parse M [] with | none => ([], []) | some (k, t, r3) => ((k, t) :: (recs M f r3).1, (recs M f r3).2)) = _
    rw [parse_nil]
    rfl
  | f + 1, g + 1, r, h1, h2 => by
    show (match parse M r with | none => ([], r) | some (k, t, r3) => ((k, t) :: (recs M f r3).1, (recs M f r3).2)) = match parse M r with | none => ([], r) | some (k, t, r3) => ((k, t) :: (recs M g r3).1, (recs M g r3).2)
    cases h : parse M r with
    | none => rfl
    | some x =>
      obtain ⟨k, t, r3⟩ := x
      have l := parse_len h
      show ((k, t) :: (recs M f r3).1, (recs M f r3).2) = ((k, t) :: (recs M g r3).1, (recs M g r3).2)
      rw [recs_fuel M f g r3 (by omega) (by omega)]
def recsA (M : Nat) (r : List Nat) : List (Nat × List Nat) × List Nat := recs M r.length r
theorem recsA_none {M : Nat} {r : List Nat} (h : parse M r = none) : recsA M r = ([], r) := by
  unfold recsA
  rw [recs_fuel M r.length (r.length + 1) r (Nat.le_refl _) (by omega)]
  show (match parse M r with | none => ([], r) | some (k, t, r3) => ((k, t) :: (recs M _ r3).1, (recs M _ r3).2)) = _
  rw [h]
theorem recsA_some {M k : Nat} {r t r3 : List Nat} (h : parse M r = some (k, t, r3)) : recsA M r = ((k, t) :: (recsA M r3).1, (recsA M r3).2) := by
  unfold recsA
  have l := parse_len h
  rw [recs_fuel M r.length (r3.length + 1) r |> fun _ => recs_fuel M r.length (r.length + 1) r (Nat.le_refl _) (by omega)]
  show (match parse M r with | none => ([], r) | some (k, t, r3) => ((k, t) :: (recs M _ r3).1, (recs M _ r3).2)) = _
  rw [h]
  show ((k, t) :: (recs M r.length r3).1, (recs M r.length r3).2) = _
  rw [recs_fuel M r.length r3.length r3 (by omega) (Nat.le_refl _)]
/-! ### what a heap keeps -/
/-- all but the table stands as before -/
def Keep (T : Addr) (H H' : Hp) : Prop := TabG H' T ∧ ∀ b o, b ≠ T → H b = some o → H' b = some o
theorem keep_refl {T : Addr} {H : Hp} (h : TabG H T) : Keep T H H := ⟨h, fun _ _ _ e => e⟩
theorem keep_trans {T : Addr} {H H1 H2 : Hp} (a : Keep T H H1) (b : Keep T H1 H2) : Keep T H H2 := ⟨b.1, fun x o ne e => b.2 x o ne (a.2 x o ne e)⟩
theorem keep_tabbed {T : Addr} {H H1 : Hp} (a : Tabbed T H H1) : Keep T H H1 := ⟨a.1, fun x o ne e => (a.2 x ne).trans e⟩
theorem tab_ne {T a : Addr} {H : Hp} {o : HO} (h : TabG H T) (e : H a = some o) (d : ∀ ps, o ≠ .tbl ps) : a ≠ T := fun z => by
  obtain ⟨ps, hp, _⟩ := h
  rw [z, hp] at e
  exact d ps (Option.some.inj e).symm
theorem tab_ne0 {T a : Addr} {H : Hp} (h : TabG H T) (e : H a = none) : a ≠ T := fun z => by
  obtain ⟨ps, hp, _⟩ := h
  rw [z, hp] at e
  cases e
theorem tab_upd {T a : Addr} {H : Hp} {o : HO} (h : TabG H T) (ne : a ≠ T) : TabG (upd H a o) T := by
  obtain ⟨ps, hp, q⟩ := h
  exact ⟨ps, by rw [upd_ne (Ne.symm ne)]; exact hp, q⟩
theorem keep_new {T a : Addr} {H : Hp} {o : HO} (h : TabG H T) (e : H a = none) : Keep T H (upd H a o) :=
  ⟨tab_upd h (tab_ne0 h e), fun b o' _ e' => by rw [upd_ne (ne_of_none e' e)]; exact e'⟩
/-! ### the rows -/
def rowH (r : Nat × List Nat) : HO := .tup [.int (r.1 : Int), .str (Sg r.2)]
inductive Tups (H : Hp) : List Addr → List (Nat × List Nat) → Prop
  | nil : Tups H [] []
  | cons {a : Addr} {as : List Addr} {r : Nat × List Nat} {rs : List (Nat × List Nat)} : H a = some (rowH r) → Tups H as rs → Tups H (a :: as) (r :: rs)
theorem Tups.mono {H H' : Hp} : ∀ {as : List Addr} {rs : List (Nat × List Nat)}, Tups H as rs → (∀ a r, H a = some (rowH r) → H' a = some (rowH r)) → Tups H' as rs
  | _, _, .nil, _ => .nil
  | _, _, .cons h t, f => .cons (f _ _ h) (t.mono f)
theorem Tups.snoc {H : Hp} {a : Addr} {r : Nat × List Nat} (h : H a = some (rowH r)) : ∀ {as : List Addr} {rs : List (Nat × List Nat)}, Tups H as rs → Tups H (as ++ [a]) (rs ++ [r])
  | _, _, .nil => .cons h .nil
  | _, _, .cons h1 t => .cons h1 (Tups.snoc h t)
theorem Tups.keep {T : Addr} {H H' : Hp} {as : List Addr} {rs : List (Nat × List Nat)} (t : Tups H as rs) (h : TabG H T) (k : Keep T H H') : Tups H' as rs :=
  t.mono fun a r e => k.2 a _ (tab_ne h e fun ps z => nomatch z) e
theorem Tups.len {H : Hp} : ∀ {as : List Addr} {rs : List (Nat × List Nat)}, Tups H as rs → as.length = rs.length
  | _, _, .nil => rfl
  | _, _, .cons _ t => congrArg (· + 1) t.len
/-- the same at another place's new content -/
theorem Tups.upd {H : Hp} {l : Addr} {xs ys : List V} (hl : H l = some (.lst xs)) {as : List Addr} {rs : List (Nat × List Nat)} (t : Tups H as rs) : Tups (L2.upd H l (.lst ys)) as rs :=
  t.mono fun a r e => by
    rw [upd_ne (ne_of e hl fun z => nomatch z)]
    exact e
def rowD (r : Nat × List Nat) : PyData := .tuple [.int (r.1 : Int), .str (Sg r.2)]
theorem Tups.dp {K : PySem.W.Frag} {H : Hp} : ∀ {as : List Addr} {rs : List (Nat × List Nat)}, Tups H as rs → DpAll K H (as.map V.ref) (rs.map rowD)
  | _, _, .nil => .nil
  | _, _, .cons h t => .cons (.tup (SqT.of h) (.cons (.int _) (.cons (.str _) .nil))) t.dp
section
variable {P : Program} {w : World} {K : PySem.W.Frag} {mg : Str → Option Value} {base : Heap}
/-! ### read_records -/
/-- a is the answer: the rows and where they end -/
def Told (H : Hp) (a : Addr) (rs : List (Nat × List Nat)) (n : Nat) : Prop := ∃ (l : Addr) (as : List Addr), H a = some (.tup [.ref l, .int (n : Int)]) ∧ H l = some (.lst (as.map V.ref)) ∧ Tups H as rs
def spRs (T : Addr) : Sp := fun vs H Q _ => ∃ d : Str, vs = [.str d] ∧ d.length ≤ sizeLine ∧ TabG H T ∧
  ∀ H' a, Keep T H H' → Told H' a (recsA d.length (tl d)).1 (d.length - (recsA d.length (tl d)).2.length) → Q (.ref a) H'
/-- the row at i: none, or a tuple -/
def RowOk (d : Str) (i : Nat) (v : V) (H : Hp) : Prop := (parse d.length ((tl d).drop i) = none ∧ v = .non) ∨
  ∃ (k : Nat) (t r3 : List Nat) (p : Addr), parse d.length ((tl d).drop i) = some (k, t, r3) ∧ v = .ref p ∧ H p = some (.tup [.int (k : Int), .str (Sg t), .int ((d.length - r3.length : Nat) : Int)])
theorem spRR_use {T : Addr} {d : Str} {i : Nat} {H : Hp} {X : VK} {E : XK} (hl : d.length ≤ sizeLine) (hi : i ≤ d.length) (hT : TabG H T) (k : ∀ v H', Keep T H H' → RowOk d i v H' → X v H') : spRR T [.str d, .int (i : Int)] H X E := by
  refine ⟨d, i, rfl, hl, hi, hT, fun pn H' t => ?_, fun k' t r3 ps H' p tb np => ?_⟩
  · exact k _ _ (keep_tabbed t) (.inl ⟨pn, rfl⟩)
  · exact k _ _ (keep_trans (keep_tabbed tb) (keep_new tb.1 np)) (.inr ⟨k', t, r3, p, ps, rfl, upd_same⟩)
theorem ok_rs {T f fR : Addr} {fd fdR : FuncData} (F : Fun K "read_records" "read_records" sRs f fd)
    (GR : FnOk P w K mg base CX0 3 fR fdR ["data", "at"] (spRR T)) (bR : Binds K fdR ["data", "at"] []) (gR : mg "read_record" = some (.ref fR)) (kR : PySem.W.keepIn K (.ref fR) = true) :
    FnOk P w K mg base CX0 4 f fd ["data"] (spRs T) := by
  refine F.ok scRs (fun vs H Q E h => ?_) (fun cdv A outer s H vs Q E hr h => ?_)
  · obtain ⟨d, rfl, _⟩ := h
    rfl
  · obtain ⟨d, rfl, hl, hT, q⟩ := h
    refine ⟨_, pss_cons (ps_par (i := 1) (j := 2) rfl scRs.nd rfl rfl (by decide) rfl rfl (pa_cons (pe_lst pa_nil) (pa_cons pe_int pa_nil)) (by rfl))
      (pss_cons (ps_set (i := 3) scRs.nd rfl (.inl rfl) (pe_call GR hr (by rfl) gR kR bR .nil pass0 (pa_cons (pv 0) (pa_cons (pv 2) pa_nil))))
      (pss_cons (ps_while PassesOwn.never (pt_cmpR op_notN (pv 3) pe_non (nomark _))
        (pss_cons (ps_expr (pe_bm PySem.F.plainAttrs_list PySem.F.slot_list_append PySem.F.type_list_append mt_append (pv 1) (pa_cons (pe_tup (pa_cons (pe_ix ix_tup (pv 3) pe_int (fun _ _ => rfl)) (pa_cons (pe_ix ix_tup (pv 3) pe_int (fun _ _ => rfl)) pa_nil))) pa_nil)))
        (pss_cons (ps_set (i := 2) scRs.nd rfl (.inl rfl) (pe_ix ix_tup (pv 3) pe_int (fun _ _ => rfl)))
        (pss_one (ps_set (i := 3) scRs.nd rfl (.inl rfl) (pe_call GR hr (by rfl) gR kR bR .nil pass0 (pa_cons (pv 0) (pa_cons (pv 2) pa_nil))))))))
      (pss_one (ps_ret (pe_tup (pa_cons (pv 1) (pa_cons (pv 2) pa_nil))))))), ?_⟩
    have ld : d.length = (tl d).length := len_tl d
    refine ⟨Nat.zero_le _, fun l nl => ⟨_, _, rfl, ?_⟩⟩
    have k0 : Keep T H (upd H l (.lst [])) := keep_new hT nl
    refine ⟨_, rfl, _, rfl, ?_⟩
    dsimp only [tNil]
    refine spRR_use (i := 0) hl (Nat.zero_le _) k0.1 fun v H1 k1 row1 => ?_
    refine ⟨fun m σ H2 => ∃ (i : Nat) (as : List Addr) (acc : List (Nat × List Nat)) (v : V), σ = [some (.str d), some (.ref l), some (.int (i : Int)), some v] ∧ i ≤ d.length ∧ m = d.length - i ∧ Keep T H H2 ∧
        H2 l = some (.lst (as.map V.ref)) ∧ Tups H2 as acc ∧ RowOk d i v H2 ∧ recsA d.length (tl d) = (acc ++ (recsA d.length ((tl d).drop i)).1, (recsA d.length ((tl d).drop i)).2) ∧ as.length ≤ i,
      ⟨d.length, 0, [], [], v, rfl, Nat.zero_le _, rfl, keep_trans k0 k1, ?_, .nil, row1, rfl, Nat.le_refl _⟩, fun m σ H2 hW => ?_⟩
    · exact k1.2 l _ (tab_ne k0.1 upd_same fun ps z => nomatch z) upd_same
    obtain ⟨i, as, acc, v, rfl, hi, rfl, k2, eL, tu, row, er, la⟩ := hW
    have lT : l ≠ T := tab_ne k2.1 eL fun ps z => nomatch z
    refine ⟨_, rfl, rfl, _, rfl, ?_⟩
    rcases row with ⟨pn, rfl⟩ | ⟨k, t, r3, p, ps, rfl, ep⟩
    · refine iteF ?_
      refine ⟨_, rfl, _, rfl, by show 2 ≤ sizeLine; rw [sizeLine_eq]; decide, fun a na => ?_⟩
      rw [recsA_none pn, List.append_nil] at er
      refine q _ a (keep_trans k2 (keep_new k2.1 na)) ⟨l, as, ?_, ?_, ?_⟩
      · rw [upd_same, er, List.length_drop, ← ld, show d.length - (d.length - i) = i by omega]
      · rw [upd_ne (ne_of_none eL na)]
        exact eL
      · rw [er]
        exact tu.keep k2.1 (keep_new k2.1 na)
    · have lp := parse_len ps
      rw [List.length_drop, ← ld] at lp
      obtain ⟨_, _, split⟩ := parse_some ps
      refine iteT ⟨fun σ' H' => ∃ m', m' < d.length - i ∧ ∃ (i : Nat) (as : List Addr) (acc : List (Nat × List Nat)) (v : V), σ' = [some (.str d), some (.ref l), some (.int (i : Int)), some v] ∧ i ≤ d.length ∧ m' = d.length - i ∧ Keep T H H' ∧
        H' l = some (.lst (as.map V.ref)) ∧ Tups H' as acc ∧ RowOk d i v H' ∧ recsA d.length (tl d) = (acc ++ (recsA d.length ((tl d).drop i)).1, (recsA d.length ((tl d).drop i)).2) ∧ as.length ≤ i, fun σ' H' hN => hN, ?_⟩
      -- rows.append((row[0], row[1]))
      refine ⟨_, rfl, .inl ⟨rfl, _, SqL.of eL⟩, _, rfl, p, _, 0, _, rfl, rfl, SqT.of ep, atI_nat (j := 0) rfl, _, rfl, p, _, 1, _, rfl, rfl, SqT.of ep, atI_nat (j := 1) rfl, by show 2 ≤ sizeLine; rw [sizeLine_eq]; decide, fun a na => ?_⟩
      have kn := keep_new (o := .tup [.int (k : Int), .str (Sg t)]) k2.1 na
      have eL2 : upd H2 a (.tup [.int (k : Int), .str (Sg t)]) l = some (.lst (as.map V.ref)) := by
        rw [upd_ne (ne_of_none eL na)]
        exact eL
      have ep2 : upd H2 a (.tup [.int (k : Int), .str (Sg t)]) p = some (.tup [.int (k : Int), .str (Sg t), .int ((d.length - r3.length : Nat) : Int)]) := by
        rw [upd_ne (ne_of_none ep na)]
        exact ep
      refine ⟨l, _, _, rfl, rfl, eL2, by rw [List.length_map]; omega, ?_⟩
      have pl : p ≠ l := ne_of ep eL fun z => nomatch z
      have ep3 : upd (upd H2 a (.tup [.int (k : Int), .str (Sg t)])) l (.lst (as.map V.ref ++ [.ref a])) p = some (.tup [.int (k : Int), .str (Sg t), .int ((d.length - r3.length : Nat) : Int)]) := by
        rw [upd_ne pl]
        exact ep2
      refine ⟨_, rfl, p, _, 2, _, rfl, rfl, SqT.of ep3, atI_nat (j := 2) rfl, ?_⟩
      refine ⟨_, rfl, _, rfl, ?_⟩
      dsimp only [tNil]
      have tb3 : TabG (upd (upd H2 a (.tup [.int (k : Int), .str (Sg t)])) l (.lst (as.map V.ref ++ [.ref a]))) T := tab_upd kn.1 lT
      refine spRR_use (i := d.length - r3.length) hl (by omega) tb3 fun v' H3 k3 row3 => ?_
      have dr : (tl d).drop (d.length - r3.length) = r3 := by
        have e1 : (tl d).drop (d.length - r3.length) = ((tl d).drop i).drop (d.length - r3.length - i) := by
          rw [List.drop_drop]
          congr 1
          omega
        have e2 : d.length - r3.length - i = (recL k t).length := by
          have := congrArg List.length split
          rw [List.length_drop, ← ld, List.length_append] at this
          omega
        rw [e1, e2, split, List.drop_left]
      have lnew : upd (upd H2 a (.tup [.int (k : Int), .str (Sg t)])) l (.lst (as.map V.ref ++ [.ref a])) l = some (.lst ((as ++ [a]).map V.ref)) := by
        rw [upd_same, List.map_append]
        rfl
      have hlN : H l = none := nl
      refine ⟨d.length - (d.length - r3.length), by omega, d.length - r3.length, as ++ [a], acc ++ [(k, t)], v', rfl, by omega, rfl, ?_, ?_, ?_, row3, ?_, ?_⟩
      · refine ⟨k3.1, fun b o ne e => k3.2 b o ne ?_⟩
        rw [upd_ne (ne_of_none e hlN)]
        exact kn.2 b o ne (k2.2 b o ne e)
      · exact k3.2 l _ lT lnew
      · refine Tups.keep ?_ tb3 k3
        refine Tups.upd eL2 ?_
        have hs : upd H2 a (.tup [.int (k : Int), .str (Sg t)]) a = some (rowH (k, t)) := upd_same
        exact Tups.snoc hs (tu.keep k2.1 kn)
      · rw [er, dr, recsA_some ps]
        show (acc ++ ((k, t) :: (recsA d.length r3).1), _) = _
        rw [List.append_assoc]
        rfl
      · rw [List.length_append, List.length_singleton]
        omega
end
end K70
namespace K70
open PySem PySem.Spec PyProof.Rows L2 QR TL
open GxR (TabB TabG Tabbed GenS)
abbrev sState : Stmt := topS 15
abbrev sDraw : Stmt := topS 16
abbrev sPick : Stmt := topS 17
theorem scState : FnScope ["script", "seed", "cell"] ["script"] (defScope sState) := ⟨rfl, rfl, rfl, by decide +kernel, rfl, by decide +kernel, by decide +kernel⟩
theorem scDraw : FnScope ["state", "many", "cells", "value", "mixed"] ["state", "many"] (defScope sDraw) := ⟨rfl, rfl, rfl, by decide +kernel, rfl, by decide +kernel, by decide +kernel⟩
theorem scPick : FnScope ["state", "row"] ["state", "row"] (defScope sPick) := ⟨rfl, rfl, rfl, by decide +kernel, rfl, by decide +kernel, by decide +kernel⟩
/-! ### the state of the draws: a list of a list and a number -/
structure StateAt (H : Hp) (p c : Addr) : Prop where
  ex : ∃ (seed : Int) (ms : List Int), H p = some (.lst [.ref c, .int seed]) ∧ H c = some (.lst (ms.map V.int)) ∧ ms.length ≤ 63 ∧ (∀ m ∈ ms, 0 ≤ m) ∧ 0 ≤ seed ∧ seed < 4294967296
  ne : p ≠ c
/-- only the state has changed -/
def Drawn (p c : Addr) (H H' : Hp) : Prop := ∀ b, b ≠ p → b ≠ c → H' b = H b
theorem drawn_refl {p c : Addr} {H : Hp} : Drawn p c H H := fun _ _ _ => rfl
theorem drawn_trans {p c : Addr} {H H1 H2 : Hp} (a : Drawn p c H H1) (b : Drawn p c H1 H2) : Drawn p c H H2 := fun x h1 h2 => (b x h1 h2).trans (a x h1 h2)
theorem StateAt.mono {H H' : Hp} {p c : Addr} (s : StateAt H p c) (hp : ∀ o, H p = some o → H' p = some o) (hc : ∀ o, H c = some o → H' c = some o) : StateAt H' p c := by
  obtain ⟨⟨seed, ms, h1, h2, h3⟩, ne⟩ := s
  exact ⟨⟨seed, ms, hp _ h1, hc _ h2, h3⟩, ne⟩
section
variable {P : Program} {w : World} {K : PySem.W.Frag} {mg : Str → Option Value} {base : Heap}
/-! ### _law_state -/
def spState (K : PySem.W.Frag) : Sp := fun vs H Q _ => ∃ (a : Addr) (ns : List Int), vs = [.ref a] ∧ SqL K H a (ns.map V.int) ∧ ns.length ≤ 63 ∧
  ∀ H' p c, Same H H' → H p = none → H c = none → StateAt H' p c → Q (.ref p) H'
theorem abs_nn (z : Int) : 0 ≤ (if z < 0 then -z else z) := by
  split <;> omega
theorem ok_state {f : Addr} {fd : FuncData} (F : Fun K "_law_state" "_law_state" sState f fd) (ma : mg "abs" = none) (mi : mg "int" = none) : FnOk P w K mg base CX0 1 f fd ["script"] (spState K) := by
  refine F.ok scState (fun vs H Q E h => ?_) (fun cdv A outer s H vs Q E hr h => ?_)
  · obtain ⟨a, ns, rfl, _⟩ := h
    rfl
  · obtain ⟨a, ns, rfl, hS, hl, q⟩ := h
    refine ⟨_, pss_cons (ps_set (i := 1) scState.nd rfl (.inl rfl) pe_int)
      (pss_cons (ps_for PassesOwn.never rfl (pi_list (pv 0)) (pg_name (i := 2) scState.nd rfl (.inl rfl))
        (pss_one (ps_set (i := 1) scState.nd rfl (.inl rfl) (pe_op op_mod (pe_callTy call_int1 (by rfl) mi (by decide +kernel) (pa_cons (pe_op op_add (pe_op op_mul (pv 1) pe_int) (pv 2)) pa_nil)) pe_int))))
      (pss_one (ps_ret (pe_lst (pa_cons (pe_lc (own := [("cell", 2)]) (g := gName 2) (tt := tYes) rfl scState.nd (pi_list (pv 0)) (blkOk_by (N := ["script", "seed", "cell"]) (sc := defScope sState) (by decide +kernel))
          (fun _ _ _ _ _ => pg_name (i := 2) scState.nd rfl (Or.inl rfl)) (fun _ _ _ _ _ => pts_nil) (fun _ _ _ _ _ => pe_callB call_abs (by rfl) ma (by decide +kernel) (pa_cons (pv 2) pa_nil)))
        (pa_cons (pe_op op_add (pv 1) pe_int) pa_nil)))))), ?_⟩
    refine ⟨.ref a, rfl, a, rfl, ⟨_, hS⟩, for_list (xs := ns.map V.int) (fun i σ H' => ∃ (z : Int) (y : Option V), σ = [some (.ref a), some (.int z), y] ∧ 0 ≤ z ∧ z < 1000003 ∧ H' = H) ⟨7, none, rfl, by omega, by omega, rfl⟩ ?_ ?_ ?_⟩
    · rintro i σ H' _ ⟨z, y, _, _, _, rfl⟩
      exact hS
    · rintro i x σ H' hx ⟨z, y, rfl, h0, h1, rfl⟩
      obtain ⟨n, _, rfl⟩ := List.mem_map.mp (List.mem_of_getElem? hx)
      refine ⟨_, rfl, _, _, rfl, rfl, .inl ⟨by omega, by omega⟩, _, rfl, _, _, rfl, rfl, .inl ⟨_, rfl, _, _, rfl, rfl, by show (0 : Int) < 1000003; decide, ?_⟩⟩
      exact ⟨_, _, rfl, Int.emod_nonneg _ (by decide), Int.emod_lt_of_pos _ (by decide), rfl⟩
    · rintro σ H' ⟨z, y, rfl, h0, h1, rfl⟩
      refine ⟨.ref a, rfl, a, rfl, ⟨_, hS⟩, fun D nD => ?_⟩
      refine lc_list (xs := ns.map V.int) (fun i H2 => H2 = upd H' D (.lst (((ns.take i).map fun n => if n < 0 then -n else n).map V.int))) rfl ?_ ?_ ?_
      · rintro i H2 _ rfl
        exact Same.seq (fun b o e => by rw [upd_ne (ne_of_none e nD)]; exact e) hS
      · rintro i x H2 hx rfl
        have hx2 : (ns.map V.int)[i]? = some x := hx
        rw [List.getElem?_map] at hx2
        obtain ⟨n, hn, rfl⟩ := Option.map_eq_some_iff.mp hx2
        refine ⟨rfl, ?_⟩
        refine ⟨_, rfl, n, rfl, _, upd_same, ?_, ?_⟩
        · rw [List.length_map, List.length_map, List.length_take, sizeLine_eq]
          omega
        · rw [upd_upd, List.take_add_one, hn, List.map_append, List.map_append]
          rfl
      · rintro H2 rfl
        refine ⟨_, rfl, _, _, rfl, rfl, by show 2 ≤ sizeLine; rw [sizeLine_eq]; decide, fun p np => ?_⟩
        have eD : (upd H' D (.lst (((ns.take (ns.map V.int).length).map fun n => if n < 0 then -n else n).map V.int))) D = _ := upd_same
        have nDp : D ≠ p := ne_of_none eD np
        have np0 : H' p = none := by
          rw [← np, upd_ne (Ne.symm nDp)]
        refine q _ p D (fun b o e => ?_) np0 nD ⟨⟨z + 1, (ns.take (ns.map V.int).length).map fun n => if n < 0 then -n else n, upd_same, ?_, ?_, ?_, by omega, by omega⟩, Ne.symm nDp⟩
        · rw [upd_ne (ne_of_none e np0), upd_ne (ne_of_none e nD)]
          exact e
        · rw [upd_ne nDp]
          exact upd_same
        · rw [List.length_map, List.length_take]
          omega
        · intro m hm
          obtain ⟨n, _, rfl⟩ := List.mem_map.mp hm
          exact abs_nn n
end
end K70
namespace K70
open PySem PySem.Spec PyProof.Rows L2 QR TL
open GxR (TabB TabG Tabbed GenS)
theorem seq0 {n : Nat} (h : 0 < n) : seqIndex? 0 n = some 0 := by
  unfold seqIndex?
  simp [h]
theorem ix0 {n : Nat} (h : 0 < n) : ixN n 0 = some 0 := by
  unfold ixN
  simp [h]
section
variable {P : Program} {w : World} {K : PySem.W.Frag} {mg : Str → Option Value} {base : Heap}
/-! ### _law_draw -/
def spDraw : Sp := fun vs H Q _ => ∃ (p c : Addr) (m : Nat), vs = [.ref p, .int (m : Int)] ∧ m < 1000000000 ∧ StateAt H p c ∧
  ∀ H' (r : Nat), (m = 0 → r = 0) → (0 < m → r < m) → StateAt H' p c → Drawn p c H H' → Q (.int (r : Int)) H'
theorem ok_draw {f : Addr} {fd : FuncData} (F : Fun K "_law_draw" "_law_draw" sDraw f fd) (ml : mg "len" = none) (mi : mg "int" = none) : FnOk P w K mg base CX0 1 f fd ["state", "many"] spDraw := by
  refine F.ok scDraw (fun vs H Q E h => ?_) (fun cdv A outer s H vs Q E hr h => ?_)
  · obtain ⟨p, c, m, rfl, _⟩ := h
    rfl
  · obtain ⟨p, c, m, rfl, hm, ⟨⟨seed, ms, hp, hc, hl, h0, s0, s1⟩, npc⟩, q⟩ := h
    refine ⟨_, (pss_cons (ps_if (pt_cmpR op_lt (pv 1) pe_int (nomark _)) (pss_one (ps_ret pe_int)) pss_nil)
      (pss_cons (ps_set (i := 2) scDraw.nd rfl (.inl rfl) (pe_ix ix_list (pv 0) pe_int (fun _ _ => rfl)))
      (pss_cons (ps_while PassesOwn.never (PW.pt (pw_and (pt_cmpR op_gt (pe_callB call_len_seq (by rfl) ml PySem.boot_len (pa_cons (pv 2) pa_nil)) pe_int (nomark _)) (pw_and1 (pt_cmpR op_eq (pe_ix ix_list (pv 2) pe_int (fun _ _ => rfl)) pe_int (nomark _)))))
        (pss_one (ps_expr (pe_bm PySem.F.plainAttrs_list PySem.F.slot_list_pop PySem.F.type_list_pop mt_popAt (pv 2) (pa_cons pe_int pa_nil)))))
      (pss_cons (ps_if (pt_cmpR op_gt (pe_callB call_len_seq (by rfl) ml PySem.boot_len (pa_cons (pv 2) pa_nil)) pe_int (nomark _))
        (pss_cons (ps_set (i := 3) scDraw.nd rfl (.inl rfl) (pe_ix ix_list (pv 2) pe_int (fun _ _ => rfl)))
      (pss_cons (ps_asg (pe_op op_fdiv (pv 3) (pv 1)) (pg_sub (pv 2) pe_int set_list))
      (pss_one (ps_ret (pe_op op_mod (pe_callTy call_int1 (by rfl) mi (by decide +kernel) (pa_cons (pv 3) pa_nil)) (pv 1)))))) pss_nil)
      (pss_cons (ps_set (i := 4) scDraw.nd rfl (.inl rfl) (pe_op op_mod (pe_callTy call_int1 (by rfl) mi (by decide +kernel) (pa_cons (pe_op op_add (pe_op op_mul (pe_ix ix_list (pv 0) pe_int (fun _ _ => rfl)) pe_int) pe_int) pa_nil)) pe_int))
      (pss_cons (ps_asg (pv 4) (pg_sub (pv 0) pe_int set_list))
      (pss_one (ps_ret (pe_op op_mod (pe_callTy call_int1 (by rfl) mi (by decide +kernel) (pa_cons (pe_op op_fdiv (pv 4) pe_int) pa_nil)) (pv 1)))))))))), ?_⟩
    refine ⟨_, rfl, _, _, rfl, rfl, _, rfl, ite2 (fun h1 => ?_) (fun h1 => ?_)⟩
    · have m0 : m = 0 := by
        have := of_decide_eq_true h1
        omega
      exact q H 0 (fun _ => rfl) (fun z => by omega) ⟨⟨seed, ms, hp, hc, hl, h0, s0, s1⟩, npc⟩ drawn_refl
    have mp : 0 < m := by
      have : ¬ ((m : Nat) : Int) < 1 := fun z => h1 (decide_eq_true z)
      omega
    refine ⟨_, rfl, p, _, 0, _, rfl, rfl, SqL.of hp, atI_nat (j := 0) rfl, ?_⟩
    -- while
    refine ⟨fun n σ H' => ∃ ks : List Int, σ = [some (.ref p), some (.int (m : Int)), some (.ref c), none, none] ∧ n = ks.length ∧ Drawn p c H H' ∧ H' p = some (.lst [.ref c, .int seed]) ∧ H' c = some (.lst (ks.map V.int)) ∧ ks.length ≤ 63 ∧ (∀ k ∈ ks, 0 ≤ k),
      ⟨ms.length, ms, rfl, rfl, drawn_refl, hp, hc, hl, h0⟩, ?_⟩
    rintro n σ H' ⟨ks, rfl, rfl, dr, hp', hc', hl', h0'⟩
    refine ⟨_, rfl, c, _, rfl, .inl (SqL.of hc'), _, _, rfl, rfl, _, rfl, ite2 (fun h2 => ?_) (fun h2 => ?_)⟩
    · obtain ⟨k, r, rfl⟩ : ∃ k r, ks = k :: r := by
        cases ks with
        | nil =>
          have := of_decide_eq_true h2
          exact absurd this (by decide)
        | cons k r => exact ⟨k, r, rfl⟩
      refine ⟨_, rfl, c, _, 0, .int k, rfl, rfl, SqL.of hc', atI_nat (j := 0) rfl, rfl, _, rfl, ite2 (fun h3 => ?_) (fun h3 => ?_)⟩
      · refine ⟨fun σ' H2 => ∃ n', n' < (k :: r).length ∧ ∃ ks : List Int, σ' = [some (.ref p), some (.int (m : Int)), some (.ref c), none, none] ∧ n' = ks.length ∧ Drawn p c H H2 ∧ H2 p = some (.lst [.ref c, .int seed]) ∧ H2 c = some (.lst (ks.map V.int)) ∧ ks.length ≤ 63 ∧ (∀ k ∈ ks, 0 ≤ k), fun _ _ z => z, ?_⟩
        refine ⟨_, rfl, .inl ⟨rfl, _, SqL.of hc'⟩, c, _, 0, 0, .int k, rfl, rfl, hc', by decide, by decide, ?_, rfl, ?_⟩
        · show seqIndex? 0 ((k :: r).map V.int).length = some 0
          show seqIndex? 0 (((k :: r).map V.int).length) = some 0
          exact seq0 (by rw [List.length_map, List.length_cons]; omega)
        · refine ⟨r.length, by show r.length < r.length + 1; omega, r, rfl, rfl, ?_, ?_, ?_, ?_, ?_⟩
          · intro b h1 h2
            rw [upd_ne h2]
            exact dr b h1 h2
          · rw [upd_ne npc]
            exact hp'
          · exact upd_same
          · have : r.length + 1 ≤ 63 := hl'
            omega
          · exact fun x hx => h0' x (List.mem_cons_of_mem _ hx)
      · have kne : k ≠ 0 := fun z => h3 (by rw [z]; rfl)
        have k1 := h0' k List.mem_cons_self
        refine ⟨_, rfl, c, _, rfl, .inl (SqL.of hc'), _, _, rfl, rfl, _, rfl, ite2 (fun _ => ?_) (fun z => absurd h2 z)⟩
        refine ⟨_, rfl, c, _, 0, .int k, rfl, rfl, SqL.of hc', atI_nat (j := 0) rfl, ?_⟩
        refine ⟨_, rfl, _, rfl, k, (m : Int), rfl, rfl, ⟨by omega, by omega⟩, _, rfl, c, _, 0, 0, rfl, rfl, hc', ix0 (by rw [List.length_map, List.length_cons]; omega), ?_⟩
        refine ⟨_, rfl, .inl ⟨_, rfl, _, rfl, _, _, rfl, rfl, by show (0 : Int) < (m : Int); omega, ?_⟩⟩
        have e1 : k % (m : Int) = (((k % (m : Int)).toNat : Nat) : Int) := (Int.toNat_of_nonneg (Int.emod_nonneg _ (by omega))).symm
        have e2 := Int.emod_lt_of_pos k (show (0 : Int) < (m : Int) by omega)
        show Q (V.int (k % (m : Int))) _
        rw [e1]
        refine q _ _ (fun z => by omega) (fun _ => by omega) ⟨⟨seed, (k / (m : Int)) :: r, ?_, ?_, hl', ?_, s0, s1⟩, npc⟩ ?_
        · rw [upd_ne npc]
          exact hp'
        · exact upd_same
        · intro x hx
          rcases List.mem_cons.mp hx with rfl | hx
          · exact Int.ediv_nonneg k1 (by omega)
          · exact h0' x (List.mem_cons_of_mem _ hx)
        · intro b z1 z2
          rw [upd_ne z2]
          exact dr b z1 z2
    · have e0 : ks = [] := by
        cases ks with
        | nil => rfl
        | cons k r => exact absurd (decide_eq_true (show (0 : Int) < (((k :: r).map V.int).length : Int) by rw [List.length_map, List.length_cons]; omega)) h2
      subst e0
      refine ⟨_, rfl, c, _, rfl, .inl (SqL.of hc'), _, _, rfl, rfl, _, rfl, ite2 (fun z => absurd z h2) (fun _ => ?_)⟩
      refine ⟨_, rfl, p, _, 1, _, rfl, rfl, SqL.of hp', atI_nat (j := 1) rfl, _, _, rfl, rfl, .inl ⟨by omega, by omega⟩, _, _, rfl, rfl, .inl ⟨_, rfl, _, _, rfl, rfl, by show (0 : Int) < 2147483647; decide, ?_⟩⟩
      have b0 := Int.emod_nonneg (seed * 48271 + 12345) (show (2147483647 : Int) ≠ 0 by decide)
      have b1 := Int.emod_lt_of_pos (seed * 48271 + 12345) (show (0 : Int) < 2147483647 by decide)
      refine ⟨_, rfl, _, rfl, p, _, 1, 1, rfl, rfl, hp', rfl, ?_⟩
      refine ⟨_, rfl, _, _, rfl, rfl, ⟨by show (0 : Int) < 64; decide, by show (64 : Int) < 1073741824; decide⟩, .inl ⟨_, rfl, _, rfl, _, _, rfl, rfl, by show (0 : Int) < (m : Int); omega, ?_⟩⟩
      have e1 : (seed * 48271 + 12345) % 2147483647 / 64 % (m : Int) = ((((seed * 48271 + 12345) % 2147483647 / 64 % (m : Int)).toNat : Nat) : Int) := (Int.toNat_of_nonneg (Int.emod_nonneg _ (by omega))).symm
      have e2 := Int.emod_lt_of_pos ((seed * 48271 + 12345) % 2147483647 / 64) (show (0 : Int) < (m : Int) by omega)
      show Q (V.int ((seed * 48271 + 12345) % 2147483647 / 64 % (m : Int))) _
      rw [e1]
      refine q _ _ (fun z => by omega) (fun _ => by omega) ⟨⟨(seed * 48271 + 12345) % 2147483647, [], upd_same, ?_, by decide, (fun x hx => nomatch hx), b0, by omega⟩, npc⟩ ?_
      · rw [upd_ne (Ne.symm npc)]
        exact hc'
      · intro b z1 z2
        rw [upd_ne z1]
        exact dr b z1 z2
/-! ### _law_pick -/
def spPick : Sp := fun vs H Q _ => ∃ (p c a : Addr) (xs : List V), vs = [.ref p, .ref a] ∧ H a = some (.lst xs) ∧ a ≠ p ∧ a ≠ c ∧ 0 < xs.length ∧ xs.length < 1000 ∧ StateAt H p c ∧
  ∀ H' v, v ∈ xs → StateAt H' p c → Drawn p c H H' → Q v H'
theorem ok_pick {f fD : Addr} {fd fdD : FuncData} (F : Fun K "_law_pick" "_law_pick" sPick f fd) (GD : FnOk P w K mg base CX0 1 fD fdD ["state", "many"] spDraw) (bD : Binds K fdD ["state", "many"] []) (gD : mg "_law_draw" = some (.ref fD)) (kD : PySem.W.keepIn K (.ref fD) = true) (ml : mg "len" = none) :
    FnOk P w K mg base CX0 2 f fd ["state", "row"] spPick := by
  refine F.ok scPick (fun vs H Q E h => ?_) (fun cdv A outer s H vs Q E hr h => ?_)
  · obtain ⟨p, c, a, xs, rfl, _⟩ := h
    rfl
  · obtain ⟨p, c, a, xs, rfl, ha, np, nc, l0, l1, st, q⟩ := h
    refine ⟨_, (pss_one (ps_ret (pe_ix ix_list (pv 1) (pe_call GD hr (by rfl) gD kD bD .nil pass0 (pa_cons (pv 0) (pa_cons (pe_callB call_len_seq (by rfl) ml PySem.boot_len (pa_cons (pv 1) pa_nil)) pa_nil))) (fun _ _ => rfl)))), ?_⟩
    refine ⟨_, rfl, _, rfl, _, rfl, a, _, rfl, .inl (SqL.of ha), p, c, xs.length, rfl, by omega, st, fun H' r _ hr2 st' dr => ?_⟩
    have lt := hr2 l0
    have ha' : H' a = some (.lst xs) := (dr a np nc).trans ha
    refine ⟨a, _, _, xs[r], rfl, rfl, SqL.of ha', atI_nat (List.getElem?_eq_getElem lt), ?_⟩
    exact q H' _ (List.getElem_mem lt) st' dr
end
end K70
namespace K70
open PySem PySem.Spec PyProof.Rows L2 QR TL
open GxR (TabB TabG Tabbed GenS)
abbrev sLRec : Stmt := topS 18
theorem scLRec : FnScope ["kind", "text", "body", "number", "char"] ["kind", "text"] (defScope sLRec) := ⟨rfl, rfl, rfl, by decide +kernel, rfl, by decide +kernel, by decide +kernel⟩
theorem sgSp : Str.ofString " " = Sg [32] := by decide +kernel
theorem sgCo : Str.ofString ":" = Sg [58] := by decide +kernel
theorem sgSe : Str.ofString ";" = Sg [59] := by decide +kernel
theorem sg_app (a b : List Nat) : Sg a ++ Sg b = Sg (a ++ b) := ext_tl (by rw [tl_append])
theorem sg_num (n : Nat) : Str.ofString (toString (n : Int)) = Sg (numL n) := ext_tl (tl_num n)
theorem sg_of (t : Str) : Sg (tl t) = t := mk_tl t
theorem sg_len (l : List Nat) : (Sg l).length = l.length := by rw [len_tl]
theorem app_size {a b : List Nat} {n : Nat} (h : a.length + b.length ≤ n) : (Sg a).length + (Sg b).length ≤ n := by
  rw [sg_len a, sg_len b]
  exact h
theorem sg_tl (l : List Nat) : tl (Sg l) = l := rfl
theorem small_nat (n : Nat) (h : n < 2 ^ 60) : ((n : Nat) : Int).natAbs.log2 < 1920 := log2_small (n := 60) (by omega) (by decide) (by decide)
section
variable {P : Program} {w : World} {K : PySem.W.Frag} {mg : Str → Option Value} {base : Heap}
theorem ok_lrec {f : Addr} {fd : FuncData} (F : Fun K "_law_record" "_law_record" sLRec f fd) (ml : mg "len" = none) (ms : mg "str" = none) (mi : mg "int" = none) (mo : mg "ord" = none) :
    FnOk P w K mg base CX0 1 f fd ["kind", "text"] spRec := by
  refine F.ok scLRec (fun vs H Q E h => ?_) (fun cdv A outer s H vs Q E hr h => ?_)
  · obtain ⟨k, t, rfl, _⟩ := h
    rfl
  · obtain ⟨k, t, rfl, hk, ht, q⟩ := h
    refine ⟨_, (pss_cons (ps_set (i := 2) scLRec.nd rfl (.inl rfl) (pe_op op_add_str (pe_op op_add_str (pe_op op_add_str (pe_op op_add_str (pe_callTy call_str_int (by rfl) ms (by decide +kernel) (pa_cons (pv 0) pa_nil)) pe_str)
          (pe_callTy call_str_int (by rfl) ms (by decide +kernel) (pa_cons (pe_callB call_len_str (by rfl) ml PySem.boot_len (pa_cons (pv 1) pa_nil)) pa_nil))) pe_str) (pv 1)))
      (pss_cons (ps_set (i := 3) scLRec.nd rfl (.inl rfl) pe_int)
      (pss_cons (ps_for PassesOwn.never rfl (pi_str (pv 2)) (pg_name (i := 4) scLRec.nd rfl (.inl rfl))
        (pss_one (ps_set (i := 3) scLRec.nd rfl (.inl rfl) (pe_op op_mod (pe_callTy call_int1 (by rfl) mi (by decide +kernel) (pa_cons (pe_op op_add (pe_op op_add (pe_op op_mul (pv 3) pe_int)
          (pe_callB call_ord (by rfl) mo (by decide +kernel) (pa_cons (pv 4) pa_nil))) pe_int) pa_nil)) pe_int))))
      (pss_one (ps_ret (pe_op op_add_str (pe_op op_add_str (pe_op op_add_str (pv 2) pe_str) (pe_callTy call_str_int (by rfl) ms (by decide +kernel) (pa_cons (pv 3) pa_nil))) pe_str)))))), ?_⟩
    have lt : t.length = (tl t).length := len_tl t
    have hb := body_len (k := k) (t := tl t) hk (by omega)
    have n1 := num_le_of (n := k) (k := 0) (by omega)
    have n2 := num_le_of (n := (tl t).length) (k := 6) (by omega)
    have lc := chk_lt (bodyL k (tl t))
    have n3 := num_le_of (n := chkL (bodyL k (tl t))) (k := 9) (by omega)
    have zl : 2000000 ≤ sizeLine := by
      rw [sizeLine_eq]
      decide
    refine ⟨_, rfl, (k : Int), rfl, small_nat k (by omega), _, _, rfl, rfl, ?_, _, rfl, t, rfl, by omega, (t.length : Int), rfl, small_nat _ (by omega), _, _, rfl, rfl, ?_, _, _, rfl, rfl, ?_, _, rfl, _, _, rfl, rfl, ?_, ?_⟩
    · rw [sg_num, sgSp]
      refine app_size ?_
      show _ + 1 ≤ _
      omega
    · rw [sg_num, sg_num, sgSp, sg_app]
      refine app_size ?_
      rw [List.length_append, lt]
      show (numL k).length + 1 + _ ≤ _
      omega
    · rw [sg_num, sg_num, sgSp, sgCo, sg_app, sg_app]
      refine app_size ?_
      rw [List.length_append, List.length_append, lt]
      show (numL k).length + 1 + (numL (tl t).length).length + 1 ≤ _
      omega
    · rw [sg_num, sg_num, sgSp, sgCo, sg_app, sg_app, sg_app, sg_len (_ ++ _), List.length_append, List.length_append, List.length_append, lt]
      show (numL k).length + 1 + (numL (tl t).length).length + 1 + _ ≤ _
      omega
    have eb : Str.ofString (toString (k : Int)) ++ Str.ofString " " ++ Str.ofString (toString (t.length : Int)) ++ Str.ofString ":" ++ t = Sg (bodyL k (tl t)) := by
      rw [sg_num, sg_num, sgSp, sgCo, lt]
      conv => lhs; arg 2; rw [← sg_of t]
      rw [sg_app, sg_app, sg_app, sg_app]
      unfold bodyL
      refine congrArg Sg ?_
      simp only [List.append_assoc, List.cons_append, List.nil_append]
    rw [eb]
    have es : (Sg (bodyL k (tl t))).cps.size = (bodyL k (tl t)).length := by simp
    refine ⟨_, rfl, Sg (bodyL k (tl t)), rfl, fun i m σ H' => ∃ y, σ = [some (.int (k : Int)), some (.str t), some (.str (Sg (bodyL k (tl t)))), some (.int ((chkL ((bodyL k (tl t)).take i) : Nat) : Int)), y] ∧ i + m = (bodyL k (tl t)).length ∧ H' = H, ⟨(bodyL k (tl t)).length, none, rfl, by omega, rfl⟩, fun i m σ H1 hW => ?_⟩
    obtain ⟨y, rfl, em, rfl⟩ := hW
    have lt2 := chk_lt ((bodyL k (tl t)).take i)
    by_cases hi : i < (bodyL k (tl t)).length
    · refine .inr ⟨by show i < (Sg (bodyL k (tl t))).cps.size; omega, fun σ' H' => ∃ y, σ' = [some (.int (k : Int)), some (.str t), some (.str (Sg (bodyL k (tl t)))), some (.int ((chkL ((bodyL k (tl t)).take (i + 1)) : Nat) : Int)), y] ∧ H' = H1, fun σ' H' hN => ?_, fun v H' hy => ?_⟩
      · obtain ⟨y', e1, e2⟩ := hN
        exact ⟨m - 1, by omega, y', e1, by omega, e2⟩
      · obtain ⟨rfl, c, hc, rfl⟩ := hy
        have ec : (bodyL k (tl t))[i]? = some c := by
          rw [← hc]
          simp
        refine ⟨_, rfl, _, _, rfl, rfl, .inl ⟨by omega, by omega⟩, _, rfl, ⟨#[c]⟩, rfl, rfl, _, _, rfl, rfl, _, _, rfl, rfl, .inl ⟨_, rfl, _, _, rfl, rfl, (by show (0 : Int) < 4294967291; decide), some (.str ⟨#[c]⟩), ?_, rfl⟩⟩
        rw [chk_take ec]
        have e9 : (((chkL ((bodyL k (tl t)).take i) : Nat) : Int) * 257 + ((c : Nat) : Int) + 1) % 4294967291 = (((chkL ((bodyL k (tl t)).take i) * 257 + c + 1) % 4294967291 : Nat) : Int) := by omega
        rw [← e9]
        rfl
    · refine .inl ⟨by show (Sg (bodyL k (tl t))).cps.size ≤ i; omega, ?_⟩
      have e : (bodyL k (tl t)).take i = bodyL k (tl t) := List.take_of_length_le (by omega)
      rw [e]
      refine ⟨_, rfl, _, _, rfl, rfl, ?_, _, rfl, _, rfl, small_nat _ (by omega), _, _, rfl, rfl, ?_, _, _, rfl, rfl, ?_, ?_⟩
      · rw [sgCo]
        refine app_size ?_
        show _ + 1 ≤ _
        omega
      · rw [sgCo, sg_app, sg_num]
        refine app_size ?_
        rw [List.length_append]
        show _ + 1 + _ ≤ _
        omega
      · rw [sgCo, sgSe, sg_num, sg_app (bodyL k (tl t)) [58], sg_app (bodyL k (tl t) ++ [58]) (numL _)]
        refine app_size ?_
        rw [List.length_append, List.length_append]
        show _ + 1 + _ + 1 ≤ _
        omega
      · have er : Sg (bodyL k (tl t)) ++ Str.ofString ":" ++ Str.ofString (toString ((chkL (bodyL k (tl t)) : Nat) : Int)) ++ Str.ofString ";" = Sg (recL k (tl t)) := by
          rw [sgCo, sgSe, sg_num, sg_app, sg_app, sg_app]
          unfold recL
          refine congrArg Sg ?_
          simp only [List.append_assoc, List.cons_append, List.nil_append]
        rw [er]
        exact q
end
end K70
namespace K70
open PySem PySem.Spec PyProof.Rows L2 QR TL
open GxR (TabB TabG Tabbed GenS)
abbrev sLRead : Stmt := topS 19
theorem scLRead : FnScope ["data", "found", "at", "turn", "best", "kind", "size", "start", "text"] ["data"] (defScope sLRead) := ⟨rfl, rfl, rfl, by decide +kernel, rfl, by decide +kernel, by decide +kernel⟩
def startL (k n : Nat) : List Nat := numL k ++ (32 :: (numL n ++ [58]))
theorem hit_parse {M k : Nat} {r t : List Nat} (h1 : 1 ≤ k) (h3 : k ≤ 3) (hr : r.length ≤ M) (e : r.take (recL k t).length = recL k t) : parse M r = some (k, t, r.drop (recL k t).length) := by
  have e2 : r = recL k t ++ r.drop (recL k t).length := by
    conv => lhs; rw [← List.take_append_drop (recL k t).length r, e]
  have l1 := recL_len k t
  have l2 := congrArg List.length e2
  rw [List.length_append] at l2
  conv => lhs; rw [e2]
  exact parse_rec h1 h3 (by omega)
theorem parse_hit {M k : Nat} {r t r3 : List Nat} (h : parse M r = some (k, t, r3)) : r.take (startL k t.length).length = startL k t.length ∧ (r.drop (startL k t.length).length).take t.length = t ∧ r.take (recL k t).length = recL k t := by
  obtain ⟨_, _, e⟩ := parse_some h
  have e2 : r = startL k t.length ++ (t ++ (58 :: (numL (chkL (bodyL k t)) ++ (59 :: r3)))) := by
    rw [e]
    unfold recL
    conv => lhs; arg 1; arg 1; unfold bodyL
    unfold startL
    simp only [List.append_assoc, List.cons_append, List.nil_append]
  refine ⟨?_, ?_, ?_⟩
  · conv => lhs; rw [e2, List.take_left]
  · conv => lhs; rw [e2, List.drop_left, List.take_left]
  · rw [e, List.take_left]
/-- what the search for a record has found so far -/
def BestOk (M : Nat) (r : List Nat) (H : Hp) (v : V) (K S : Nat) : Prop := (v = .non ∧ ∀ k t r3, parse M r = some (k, t, r3) → ¬ (k < K ∨ (k = K ∧ t.length < S))) ∨
  ∃ (k : Nat) (t r3 : List Nat) (p : Addr), parse M r = some (k, t, r3) ∧ v = .ref p ∧ H p = some (rowH (k, t))
theorem BestOk.mono {M : Nat} {r : List Nat} {H H' : Hp} {v : V} {K S : Nat} (b : BestOk M r H v K S) (h : Same H H') : BestOk M r H' v K S := by
  rcases b with b | ⟨k, t, r3, p, e1, e2, e3⟩
  · exact .inl b
  · exact .inr ⟨k, t, r3, p, e1, e2, h _ _ e3⟩
theorem BestOk.step {M : Nat} {r : List Nat} {H : Hp} {v : V} {K S K' S' : Nat} (b : BestOk M r H v K S) (h : ∀ k t r3, parse M r = some (k, t, r3) → (k < K' ∨ (k = K' ∧ t.length < S')) → (k < K ∨ (k = K ∧ t.length < S))) : BestOk M r H v K' S' := by
  rcases b with ⟨e, b⟩ | b
  · exact .inl ⟨e, fun k t r3 p z => b k t r3 p (h k t r3 p z)⟩
  · exact .inr b
theorem same_new {a : Addr} {H : Hp} {o : HO} (e : H a = none) : Same H (upd H a o) := fun b o' e' => by
  rw [upd_ne (ne_of_none e' e)]
  exact e'
section
variable {P : Program} {w : World} {K : PySem.W.Frag} {mg : Str → Option Value} {base : Heap}
def spLRead : Sp := fun vs H Q _ => ∃ d : Str, vs = [.str d] ∧ d.length ≤ 1000 ∧
  ∀ H' a, Same H H' → Told H' a (recsA d.length (tl d)).1 (d.length - (recsA d.length (tl d)).2.length) → Q (.ref a) H'
theorem ok_lread {f fR : Addr} {fd fdR : FuncData} (F : Fun K "_law_read" "_law_read" sLRead f fd) (GR : FnOk P w K mg base CX0 1 fR fdR ["kind", "text"] spRec) (bR : Binds K fdR ["kind", "text"] []) (gR : mg "_law_record" = some (.ref fR)) (kR : PySem.W.keepIn K (.ref fR) = true)
    (ml : mg "len" = none) (ms : mg "str" = none) (mr : mg "range" = none) : FnOk P w K mg base CX0 2 f fd ["data"] spLRead := by
  refine F.ok scLRead (fun vs H Q E h => ?_) (fun cdv A outer s H vs Q E hr h => ?_)
  · obtain ⟨d, rfl, _⟩ := h
    rfl
  · obtain ⟨d, rfl, hl, q⟩ := h
    refine ⟨_, (pss_cons (ps_set (i := 1) scLRead.nd rfl (.inl rfl) (pe_lst pa_nil))
      (pss_cons (ps_set (i := 2) scLRead.nd rfl (.inl rfl) pe_int)
      (pss_cons (ps_for PassesOwn.never rfl (pi_range1 rfl mr (pa_cons (pe_op op_fdiv (pe_callB call_len_str (by rfl) ml PySem.boot_len (pa_cons (pv 0) pa_nil)) pe_int) pa_nil)) (pg_name (i := 3) scLRead.nd rfl (.inl rfl))
        (pss_cons (ps_set (i := 4) scLRead.nd rfl (.inl rfl) pe_non)
      (pss_cons (ps_for PassesOwn.never rfl (pi_tup (pe_tup (pa_cons pe_int (pa_cons pe_int (pa_cons pe_int pa_nil))))) (pg_name (i := 5) scLRead.nd rfl (.inl rfl))
            (pss_one (ps_for PassesOwn.never rfl (pi_range1 rfl mr (pa_cons (pe_op op_sub (pe_callB call_len_str (by rfl) ml PySem.boot_len (pa_cons (pv 0) pa_nil)) (pv 2)) pa_nil)) (pg_name (i := 6) scLRead.nd rfl (.inl rfl))
              (pss_cons (ps_set (i := 7) scLRead.nd rfl (.inl rfl) (pe_op op_add_str (pe_op op_add_str (pe_op op_add_str (pe_callTy call_str_int (by rfl) ms (by decide +kernel) (pa_cons (pv 5) pa_nil)) pe_str) (pe_callTy call_str_int (by rfl) ms (by decide +kernel) (pa_cons (pv 6) pa_nil))) pe_str))
      (pss_cons (ps_set (i := 8) scLRead.nd rfl (.inl rfl) (pe_slice sl_str (pv 0) (po_some (pe_op op_add (pv 2) (pe_callB call_len_str (by rfl) ml PySem.boot_len (pa_cons (pv 7) pa_nil)))) (po_some (pe_op op_add (pe_op op_add (pv 2) (pe_callB call_len_str (by rfl) ml PySem.boot_len (pa_cons (pv 7) pa_nil))) (pv 6)))))
      (pss_one (ps_if (PW.pt (pw_and (pt_cmpR op_eq (pe_slice sl_str (pv 0) (po_some (pv 2)) (po_some (pe_op op_add (pv 2) (pe_callB call_len_str (by rfl) ml PySem.boot_len (pa_cons (pv 7) pa_nil))))) (pv 7) (nomark _))
                    (pw_and1 (pt_cmpR op_eq (pe_slice sl_str (pv 0) (po_some (pv 2)) (po_some (pe_op op_add (pv 2) (pe_callB call_len_str (by rfl) ml PySem.boot_len (pa_cons (pe_call GR hr (by rfl) gR kR bR .nil pass0 (pa_cons (pv 5) (pa_cons (pv 8) pa_nil))) pa_nil)))))
                      (pe_call GR hr (by rfl) gR kR bR .nil pass0 (pa_cons (pv 5) (pa_cons (pv 8) pa_nil))) (nomark _)))))
                  (pss_one (ps_set (i := 4) scLRead.nd rfl (.inl rfl) (pe_tup (pa_cons (pv 5) (pa_cons (pv 8) pa_nil))))) pss_nil)))))))
      (pss_cons (ps_if (pt_cmpR op_isN (pv 4) pe_non (nomark _)) (pss_one (ps_break)) pss_nil)
      (pss_cons (ps_expr (pe_bm PySem.F.plainAttrs_list PySem.F.slot_list_append PySem.F.type_list_append mt_append (pv 1) (pa_cons (pv 4) pa_nil)))
      (pss_one (ps_set (i := 2) scLRead.nd rfl (.inl rfl) (pe_op op_add (pv 2) (pe_callB call_len_str (by rfl) ml PySem.boot_len (pa_cons (pe_call GR hr (by rfl) gR kR bR .nil pass0 (pa_cons (pe_ix ix_tup (pv 4) pe_int (fun _ _ => rfl)) (pa_cons (pe_ix ix_tup (pv 4) pe_int (fun _ _ => rfl)) pa_nil))) pa_nil))))))))))
      (pss_one (ps_ret (pe_tup (pa_cons (pv 1) (pa_cons (pv 2) pa_nil)))))))), ?_⟩
    have ld : d.length = (tl d).length := len_tl d
    have zl : 2000000 ≤ sizeLine := by
      rw [sizeLine_eq]
      decide
    refine ⟨Nat.zero_le _, fun l nl => ?_⟩
    refine ⟨_, rfl, d, rfl, by omega, _, _, rfl, rfl, ⟨by show (0 : Int) < 7; decide, by show (7 : Int) < 1073741824; decide⟩, _, rfl, ?_, ?_, ?_⟩
    · show -(2 ^ 62 : Int) ≤ (d.length : Int) / 7
      omega
    · show (d.length : Int) / 7 < (2 ^ 62 : Int)
      omega
    have fin : ∀ (i : Nat) (as : List Addr) (acc : List (Nat × List Nat)) (y3 y4 y5 y6 y7 y8 : Option V) (H' : Hp), i ≤ d.length → Same H H' → H' l = some (.lst (as.map V.ref)) → Tups H' as acc →
        recsA d.length (tl d) = (acc ++ (recsA d.length ((tl d).drop i)).1, (recsA d.length ((tl d).drop i)).2) → parse d.length ((tl d).drop i) = none →
        tRet (tTup (tCons (tVar 1) (tCons (tVar 2) tNil))) { nx := fun _ H' => Q V.non H', rt := Q } [some (.str d), some (.ref l), some (.int (i : Int)), y3, y4, y5, y6, y7, y8] H' := by
      intro i as acc y3 y4 y5 y6 y7 y8 H' hi sm eL tu er pn
      refine ⟨_, rfl, _, rfl, by show 2 ≤ sizeLine; omega, fun a na => ?_⟩
      rw [recsA_none pn, List.append_nil] at er
      refine q _ a (fun b o e => same_new na b o (sm b o e)) ⟨l, as, ?_, ?_, ?_⟩
      · rw [upd_same, er, List.length_drop, ← ld, show d.length - (d.length - i) = i by omega]
      · exact same_new na _ _ eL
      · rw [er]
        exact tu.mono fun x r e => same_new na _ _ e
    have n7 : ((d.length : Int) / 7).toNat = d.length / 7 := by omega
    refine for_range (n := ((d.length : Int) / 7).toNat) (fun i σ H' => ∃ (at_ : Nat) (as : List Addr) (acc : List (Nat × List Nat)) (y3 y4 y5 y6 y7 y8 : Option V), σ = [some (.str d), some (.ref l), some (.int (at_ : Int)), y3, y4, y5, y6, y7, y8] ∧ at_ ≤ d.length ∧ Same H H' ∧ H' l = some (.lst (as.map V.ref)) ∧
        Tups H' as acc ∧ recsA d.length (tl d) = (acc ++ (recsA d.length ((tl d).drop at_)).1, (recsA d.length ((tl d).drop at_)).2) ∧ acc.length = i ∧ 7 * i ≤ at_)
      ⟨0, [], [], none, none, none, none, none, none, rfl, Nat.zero_le _, same_new nl, upd_same, .nil, rfl, rfl, by omega⟩ ?_ ?_
    case refine_2 =>
      rintro σ H' ⟨at_, as, acc, y3, y4, y5, y6, y7, y8, rfl, ha, sm, eL, tu, er, la, l7⟩
      refine fin at_ as acc y3 y4 y5 y6 y7 y8 H' ha sm eL tu er ?_
      cases hp : parse d.length ((tl d).drop at_) with
      | none => rfl
      | some x =>
        obtain ⟨k, t, r3⟩ := x
        have := parse_len hp
        rw [List.length_drop, ← ld] at this
        omega
    rintro i σ H1 hi ⟨at_, as, acc, y3, y4, y5, y6, y7, y8, rfl, ha, sm, eL, tu, er, la, l7⟩
    -- the search
    refine ⟨by show 3 ≤ sizeLine; omega, fun pt npt => ⟨pt, rfl, ⟨_, SqT.of upd_same⟩, ?_⟩⟩
    have smp : Same H1 (upd H1 pt (.tup [.int 1, .int 2, .int 3])) := same_new npt
    refine for_tup (xs := [.int 1, .int 2, .int 3]) (fun j σ H2 => ∃ (v : V) (z5 z6 z7 z8 : Option V), σ = [some (.str d), some (.ref l), some (.int (at_ : Int)), some (.int (0 + (i : Int))), some v, z5, z6, z7, z8] ∧ Same (upd H1 pt (.tup [.int 1, .int 2, .int 3])) H2 ∧
        BestOk d.length ((tl d).drop at_) H2 v (j + 1) 0) ⟨.non, y5, y6, y7, y8, rfl, Same.refl _, .inl ⟨rfl, fun k t r3 ps z => ?_⟩⟩ ?_ ?_ ?_
    · have := (parse_some ps).1
      omega
    · rintro j σ H2 _ ⟨v, z5, z6, z7, z8, _, sm2, _⟩
      exact SqT.of (sm2 _ _ upd_same)
    · rintro j x σ H2 hx ⟨v, z5, z6, z7, z8, rfl, sm2, best⟩
      have hj : j < 3 ∧ x = .int ((j + 1 : Nat) : Int) := by
        match j, hx with
        | 0, hx => exact ⟨by omega, (Option.some.inj hx).symm⟩
        | 1, hx => exact ⟨by omega, (Option.some.inj hx).symm⟩
        | 2, hx => exact ⟨by omega, (Option.some.inj hx).symm⟩
      obtain ⟨j3, rfl⟩ := hj
      refine ⟨_, rfl, d, rfl, by omega, _, rfl, _, _, rfl, rfl, _, rfl, ?_, ?_, ?_⟩
      · show -(2 ^ 62 : Int) ≤ (d.length : Int) - (at_ : Int)
        omega
      · show (d.length : Int) - (at_ : Int) < (2 ^ 62 : Int)
        omega
      refine for_range (n := ((d.length : Int) - (at_ : Int)).toNat) (fun m σ H3 => ∃ (v : V) (z6 z7 z8 : Option V), σ = [some (.str d), some (.ref l), some (.int (at_ : Int)), some (.int (0 + (i : Int))), some v, some (.int ((j + 1 : Nat) : Int)), z6, z7, z8] ∧ Same H2 H3 ∧
        BestOk d.length ((tl d).drop at_) H3 v (j + 1) m) ⟨v, z6, z7, z8, rfl, Same.refl _, best⟩ ?_ ?_
      · rintro m σ H3 hm ⟨v, z6, z7, z8, rfl, sm3, best3⟩
        have mn : m < d.length - at_ := by omega
        rw [Int.zero_add (m : Int)]
        have nk := num_le_of (n := j + 1) (k := 0) (by omega)
        have nm := num_le_of (n := m) (k := 6) (by omega)
        refine ⟨_, rfl, _, rfl, small_nat _ (by omega), _, _, rfl, rfl, ?_, _, rfl, (m : Int), rfl, small_nat _ (by omega), _, _, rfl, rfl, ?_, _, _, rfl, rfl, ?_, ?_⟩
        · rw [sg_num, sgSp]
          refine app_size ?_
          show _ + 1 ≤ _
          omega
        · rw [sg_num, sg_num, sgSp, sg_app (numL (j + 1)) [32]]
          refine app_size ?_
          rw [List.length_append]
          show _ + 1 + _ ≤ _
          omega
        · rw [sg_num, sg_num, sgSp, sgCo, sg_app (numL (j + 1)) [32], sg_app (_ ++ [32]) (numL m)]
          refine app_size ?_
          rw [List.length_append, List.length_append]
          show _ + 1 + _ + 1 ≤ _
          omega
        have es : Str.ofString (toString ((j + 1 : Nat) : Int)) ++ Str.ofString " " ++ Str.ofString (toString (m : Int)) ++ Str.ofString ":" = Sg (startL (j + 1) m) := by
          rw [sg_num, sg_num, sgSp, sgCo, sg_app (numL (j + 1)) [32], sg_app (_ ++ [32]) (numL m), sg_app (_ ++ numL m) [58]]
          unfold startL
          refine congrArg Sg ?_
          simp only [List.append_assoc, List.cons_append, List.nil_append]
        rw [es]
        have ls : (Sg (startL (j + 1) m)).length = (startL (j + 1) m).length := sg_len _
        have ls2 : (startL (j + 1) m).length ≤ 100 := by
          unfold startL
          rw [List.length_append, List.length_cons, List.length_append, List.length_singleton]
          omega
        refine ⟨_, rfl, _, rfl, _, rfl, _, rfl, by omega, _, _, rfl, rfl, _, rfl, _, rfl, _, rfl, _, rfl, by omega, _, _, rfl, rfl, _, rfl, _, _, rfl, rfl, _, rfl, d, rfl, by omega, ?_⟩
        have cutA : cutS d (some ((at_ : Int) + ((Sg (startL (j + 1) m)).length : Int))) (some ((at_ : Int) + ((Sg (startL (j + 1) m)).length : Int) + (m : Int))) = Sg ((((tl d).drop at_).drop (startL (j + 1) m).length).take m) := by
          rw [ls, show (at_ : Int) + ((startL (j + 1) m).length : Int) = ((at_ + (startL (j + 1) m).length : Nat) : Int) by omega,
            show ((at_ + (startL (j + 1) m).length : Nat) : Int) + (m : Int) = ((at_ + (startL (j + 1) m).length + m : Nat) : Int) by omega, cut_nat, List.drop_drop, show at_ + (startL (j + 1) m).length + m - (at_ + (startL (j + 1) m).length) = m by omega]
        show gName 8 (V.str (cutS d (some ((at_ : Int) + ((Sg (startL (j + 1) m)).length : Int))) (some ((at_ : Int) + ((Sg (startL (j + 1) m)).length : Int) + (m : Int))))) _ _ _
        rw [cutA]
        generalize htx : (((tl d).drop at_).drop (startL (j + 1) m).length).take m = tx
        have ltx : tx.length ≤ 1000 := by
          rw [← htx, List.length_take]
          omega
        have cutB : ∀ n : Nat, cutS d (some (at_ : Int)) (some ((at_ : Int) + (n : Int))) = Sg (((tl d).drop at_).take n) := fun n => by
          rw [show (at_ : Int) + (n : Int) = ((at_ + n : Nat) : Int) by omega, cut_nat, show at_ + n - at_ = n by omega]
        have lrec : (recL (j + 1) tx).length ≤ 2000 := by
          have b := body_len (k := j + 1) (t := tx) (by omega) (by omega)
          have n3 := num_le_of (n := chkL (bodyL (j + 1) tx)) (k := 9) (by have := chk_lt (bodyL (j + 1) tx); omega)
          have b2 : (bodyL (j + 1) tx).length ≤ 1020 := by
            unfold bodyL
            have n4 := num_le_of (n := tx.length) (k := 6) (by omega)
            rw [List.length_append, List.length_cons, List.length_append, List.length_cons]
            omega
          unfold recL
          rw [List.length_append, List.length_cons, List.length_append, List.length_singleton]
          omega
        refine ⟨_, rfl, _, rfl, _, rfl, _, rfl, _, rfl, _, rfl, by omega, _, _, rfl, rfl, _, rfl, d, rfl, by omega, _, rfl, rfl, _, rfl, ?_⟩
        show if decide (V.str (cutS d (some (at_ : Int)) (some ((at_ : Int) + ((Sg (startL (j + 1) m)).length : Int)))) = V.str (Sg (startL (j + 1) m))) = true then _ else _
        rw [cutB]
        have sgI : ∀ a b : List Nat, V.str (Sg a) = V.str (Sg b) ↔ a = b := fun a b => ⟨fun z => congrArg tl (V.str.inj z), fun z => by rw [z]⟩
        have none_of : ¬ (((tl d).drop at_).take (startL (j + 1) m).length = startL (j + 1) m ∧ ((tl d).drop at_).take (recL (j + 1) tx).length = recL (j + 1) tx) → BestOk d.length ((tl d).drop at_) H3 v (j + 1) (m + 1) := fun hno => best3.step fun k t r3 ps z => by
          by_cases hkm : k = j + 1 ∧ t.length = m
          · obtain ⟨rfl, rfl⟩ := hkm
            obtain ⟨g1, g2, g3⟩ := parse_hit ps
            refine absurd ⟨g1, ?_⟩ hno
            rw [← htx, g2]
            exact g3
          · omega
        refine ite2 (fun h1 => ?_) (fun h1 => ?_)
        · have e1 := (sgI _ _).mp (of_decide_eq_true h1)
          rw [ls] at e1
          have lr : (Sg (recL (j + 1) (tl (Sg tx)))).length = (recL (j + 1) tx).length := sg_len _
          refine ⟨_, rfl, _, rfl, _, rfl, _, rfl, _, rfl, _, rfl, j + 1, Sg tx, rfl, by omega, by rw [sg_len]; omega, Sg (recL (j + 1) tx), rfl, by rw [sg_len]; omega, _, _, rfl, rfl, _, rfl, d, rfl, by omega, _, rfl, _, rfl, j + 1, Sg tx, rfl, by omega, by rw [sg_len]; omega, rfl, _, rfl, ?_⟩
          show if decide (V.str (cutS d (some (at_ : Int)) (some ((at_ : Int) + ((Sg (recL (j + 1) tx)).length : Int)))) = V.str (Sg (recL (j + 1) tx))) = true then _ else _
          rw [cutB, sg_len (recL (j + 1) tx)]
          refine ite2 (fun h2 => ?_) (fun h2 => ?_)
          · have e2 := (sgI _ _).mp (of_decide_eq_true h2)
            have hit := hit_parse (M := d.length) (k := j + 1) (t := tx) (r := (tl d).drop at_) (by omega) (by omega) (by rw [List.length_drop, ← ld]; omega) e2
            refine ⟨_, rfl, _, rfl, by show 2 ≤ sizeLine; omega, fun a na => ?_⟩
            exact ⟨.ref a, _, _, _, rfl, fun b o e => same_new na b o (sm3 b o e), .inr ⟨j + 1, tx, _, a, hit, rfl, upd_same⟩⟩
          · exact ⟨v, _, _, _, rfl, sm3, none_of fun z => h2 (decide_eq_true ((sgI _ _).mpr z.2))⟩
        · have e1 : ¬ (((tl d).drop at_).take (startL (j + 1) m).length = startL (j + 1) m) := fun z => h1 (decide_eq_true ((sgI _ _).mpr (by rw [ls]; exact z)))
          refine iteF ?_
          exact ⟨v, _, _, _, rfl, sm3, none_of fun z => e1 z.1⟩
      · rintro σ H3 ⟨v, z6, z7, z8, rfl, sm3, best3⟩
        refine ⟨v, some (.int ((j + 1 : Nat) : Int)), z6, z7, z8, rfl, fun b o e => sm3 b o (sm2 b o e), best3.step fun k t r3 ps z => ?_⟩
        have := parse_len ps
        rw [List.length_drop, ← ld] at this
        omega
    · rintro σ H2 ⟨v, z5, z6, z7, z8, rfl, sm2, best⟩
      have sm12 : Same H H2 := fun b o e => sm2 b o (smp b o (sm b o e))
      have eL2 : H2 l = some (.lst (as.map V.ref)) := sm2 _ _ (smp _ _ eL)
      have tu2 : Tups H2 as acc := tu.mono fun x r e => sm2 _ _ (smp _ _ e)
      refine ⟨_, rfl, rfl, _, rfl, ?_⟩
      rcases best with ⟨rfl, none3⟩ | ⟨k, t, r3, p, ps, rfl, ep⟩
      · refine iteT ?_
        refine fin at_ as acc _ _ _ _ _ _ H2 ha sm12 eL2 tu2 er ?_
        cases hp : parse d.length ((tl d).drop at_) with
        | none => rfl
        | some x =>
          obtain ⟨k, t, r3⟩ := x
          have := (parse_some hp).2.1
          exact absurd (.inl (by show k < 3 + 1; omega)) (none3 k t r3 hp)
      · obtain ⟨k1, k3, split⟩ := parse_some ps
        have lp := parse_len ps
        rw [List.length_drop, ← ld] at lp
        refine iteF ?_
        refine ⟨_, rfl, .inl ⟨rfl, _, SqL.of eL2⟩, _, rfl, l, _, _, rfl, rfl, eL2, ?_, ?_⟩
        · have := tu2.len
          rw [List.length_map]
          omega
        have pl : p ≠ l := ne_of ep eL2 fun z => nomatch z
        have ep3 : upd H2 l (.lst (as.map V.ref ++ [.ref p])) p = some (rowH (k, t)) := by
          rw [upd_ne pl]
          exact ep
        have lrec := congrArg List.length split
        rw [List.length_drop, ← ld, List.length_append] at lrec
        refine ⟨_, rfl, _, rfl, p, _, 0, _, rfl, rfl, SqT.of ep3, atI_nat (j := 0) rfl, _, rfl, p, _, 1, _, rfl, rfl, SqT.of ep3, atI_nat (j := 1) rfl, k, Sg t, rfl, by omega, by rw [sg_len]; omega, Sg (recL k t), rfl, by rw [sg_len]; omega, _, _, rfl, rfl, ?_⟩
        have dr : (tl d).drop (at_ + (recL k t).length) = r3 := by
          rw [← List.drop_drop, split, List.drop_left]
        have e9 : (at_ : Int) + ((Sg (recL k t)).length : Int) = ((at_ + (recL k t).length : Nat) : Int) := by
          rw [sg_len]
          omega
        show gName 2 (V.int ((at_ : Int) + ((Sg (recL k t)).length : Int))) _ _ _
        rw [e9]
        have rl := recL_len k t
        refine ⟨at_ + (recL k t).length, as ++ [p], acc ++ [(k, t)], _, _, _, _, _, _, rfl, by omega, fun b o e => ?_, ?_, ?_, ?_, ?_, by omega⟩
        · rw [upd_ne (ne_of_none e nl)]
          exact sm12 b o e
        · rw [upd_same, List.map_append]
          rfl
        · exact Tups.snoc ep3 (Tups.upd eL2 tu2)
        · rw [er, dr, recsA_some ps]
          show (acc ++ ((k, t) :: (recsA d.length r3).1), _) = _
          rw [List.append_assoc]
          rfl
        · rw [List.length_append, List.length_singleton, la]
end
end K70
namespace K70
open PySem PySem.Spec PyProof.Rows L2 QR TL
open GxR (TabB TabG Tabbed GenS)
abbrev sLaw : Stmt := topS 20
theorem scLaw : FnScope ["script", "state", "data", "rows", "k", "kind", "text", "told", "at", "char", "other"] ["script"] (defScope sLaw) := ⟨rfl, rfl, rfl, by decide +kernel, rfl, by decide +kernel, by decide +kernel⟩
/-! ### data -/
def toldD (rs : List (Nat × List Nat)) (n : Nat) : PyData := .tuple [.list (rs.map rowD), .int (n : Int)]
theorem plain_rows : ∀ rs : List (Nat × List Nat), PyData.plainAll (rs.map rowD) = true
  | [] => rfl
  | r :: rs => by
    show (PyData.plain (rowD r) && PyData.plainAll (rs.map rowD)) = true
    rw [plain_rows rs]
    rfl
theorem plain_told (rs : List (Nat × List Nat)) (n : Nat) : (toldD rs n).plain = true := by
  show (PyData.plainAll (rs.map rowD) && (true && true)) = true
  rw [plain_rows]
  rfl
theorem depth_rows : ∀ rs : List (Nat × List Nat), PyData.depthAll (rs.map rowD) ≤ 1
  | [] => by
    show PyData.depthAll [] ≤ 1
    simp only [PyData.depthAll]
    omega
  | r :: rs => by
    have := depth_rows rs
    show PyData.depthAll (rowD r :: rs.map rowD) ≤ 1
    simp only [PyData.depthAll, rowD, PyData.depth]
    omega
theorem depth_told (rs : List (Nat × List Nat)) (n : Nat) : (toldD rs n).depth ≤ 60 := by
  have := depth_rows rs
  simp only [toldD, PyData.depth, PyData.depthAll]
  omega
theorem dp_told {K : PySem.W.Frag} {H : Hp} {a l : Addr} {as : List Addr} {rs : List (Nat × List Nat)} {n : Nat} (h : H a = some (.tup [.ref l, .int (n : Int)])) (hl : H l = some (.lst (as.map V.ref))) (t : Tups H as rs) : Dp K H (.ref a) (toldD rs n) :=
  .tup (SqT.of h) (.cons (.lst (SqL.of hl) t.dp) (.cons (.int _) .nil))
theorem eqv_told (rs : List (Nat × List Nat)) (n : Nat) : PyData.eqv (toldD rs n) (toldD rs n) = true := PySem.SeqAt.eqv_refl_plain _ (plain_told rs n)
/-! ### a row of records -/
def flat (rs : List (Nat × List Nat)) : List Nat := (rs.map fun r => recL r.1 r.2).flatten
theorem flat_snoc (rs : List (Nat × List Nat)) (r : Nat × List Nat) : flat (rs ++ [r]) = flat rs ++ recL r.1 r.2 := by
  unfold flat
  rw [List.map_append, List.flatten_append]
  simp
def RowsOk (rs : List (Nat × List Nat)) : Prop := ∀ r ∈ rs, 1 ≤ r.1 ∧ r.1 ≤ 3 ∧ r.2.length ≤ 200
theorem recs_flat (M : Nat) (hM : 200 ≤ M ∨ True) : ∀ rs : List (Nat × List Nat), (∀ r ∈ rs, 1 ≤ r.1 ∧ r.1 ≤ 3 ∧ r.2.length ≤ M) → recsA M (flat rs) = (rs, [])
  | [], _ => recsA_none (parse_nil M)
  | r :: rs, h => by
    obtain ⟨h1, h3, hl⟩ := h r List.mem_cons_self
    have e : parse M (flat (r :: rs)) = some (r.1, r.2, flat rs) := parse_rec (r3 := flat rs) h1 h3 hl
    rw [recsA_some e, recs_flat M hM rs fun x hx => h x (List.mem_cons_of_mem _ hx)]
theorem recL_le {k : Nat} {t : List Nat} (h3 : k ≤ 3) (hl : t.length ≤ 200) : (recL k t).length ≤ 300 := by
  have n1 := num_le_of (n := k) (k := 0) (by omega)
  have n2 := num_le_of (n := t.length) (k := 2) (by omega)
  have n3 := num_le_of (n := chkL (bodyL k t)) (k := 9) (by have := chk_lt (bodyL k t); omega)
  have b : (bodyL k t).length = (numL k).length + ((numL t.length).length + (t.length + 1) + 1) := by
    unfold bodyL
    rw [List.length_append, List.length_cons, List.length_append, List.length_cons]
  unfold recL
  rw [List.length_append, List.length_cons, List.length_append, List.length_singleton]
  omega
theorem flat_le : ∀ rs : List (Nat × List Nat), RowsOk rs → (flat rs).length ≤ 300 * rs.length
  | [], _ => Nat.le_refl _
  | r :: rs, h => by
    have a := h r List.mem_cons_self
    have b := flat_le rs fun x hx => h x (List.mem_cons_of_mem _ hx)
    have c := recL_le (t := r.2) a.2.1 a.2.2
    show (recL r.1 r.2 ++ flat rs).length ≤ 300 * (rs.length + 1)
    rw [List.length_append]
    omega
theorem mem_flat_le : ∀ (rs : List (Nat × List Nat)) (r : Nat × List Nat), r ∈ rs → r.2.length ≤ (flat rs).length
  | q :: rs, r, h => by
    show r.2.length ≤ (recL q.1 q.2 ++ flat rs).length
    rw [List.length_append]
    rcases List.mem_cons.mp h with e | h
    · have := recL_len r.1 r.2
      rw [← e]
      omega
    · have := mem_flat_le rs r h
      omega
/-! ### the law's objects -/
structure Wd (T p c l : Addr) (H : Hp) (acc : List (Nat × List Nat)) : Prop where
  st : StateAt H p c
  tab : TabG H T
  rows : ∃ as : List Addr, H l = some (.lst (as.map V.ref)) ∧ Tups H as acc
  lp : l ≠ p
  lc : l ≠ c
theorem StateAt.neT {T p c : Addr} {H : Hp} (s : StateAt H p c) (t : TabG H T) : p ≠ T ∧ c ≠ T := by
  obtain ⟨⟨_, _, h1, h2, _⟩, _⟩ := s
  exact ⟨tab_ne t h1 (fun ps z => nomatch z), tab_ne t h2 (fun ps z => nomatch z)⟩
theorem StateAt.kept {T p c : Addr} {H H' : Hp} (s : StateAt H p c) (t : TabG H T) (k : Keep T H H') : StateAt H' p c :=
  s.mono (fun o e => k.2 p o (s.neT t).1 e) fun o e => k.2 c o (s.neT t).2 e
theorem drawn_tab {T p c : Addr} {H H' : Hp} (t : TabG H T) (s : StateAt H p c) (d : Drawn p c H H') : TabG H' T := by
  have n := s.neT t
  obtain ⟨ps, hp, q⟩ := t
  exact ⟨ps, (d T (Ne.symm n.1) (Ne.symm n.2)).trans hp, q⟩
theorem Wd.kept {T p c l : Addr} {H H' : Hp} {acc : List (Nat × List Nat)} (w : Wd T p c l H acc) (k : Keep T H H') : Wd T p c l H' acc := by
  obtain ⟨as, h1, h2⟩ := w.rows
  exact ⟨w.st.kept w.tab k, k.1, ⟨as, k.2 l _ (tab_ne w.tab h1 fun ps z => nomatch z) h1, h2.keep w.tab k⟩, w.lp, w.lc⟩
theorem Wd.drawn {T p c l : Addr} {H H' : Hp} {acc : List (Nat × List Nat)} (w : Wd T p c l H acc) (s : StateAt H' p c) (d : Drawn p c H H') : Wd T p c l H' acc := by
  obtain ⟨as, h1, h2⟩ := w.rows
  obtain ⟨⟨seed, ms, e1, e2, _⟩, _⟩ := w.st
  refine ⟨s, drawn_tab w.tab w.st d, ⟨as, (d l w.lp w.lc).trans h1, h2.mono fun a r e => (d a ?_ ?_).trans e⟩, w.lp, w.lc⟩
  · exact ne_of e e1 fun z => nomatch z
  · exact ne_of e e2 fun z => nomatch z
theorem Wd.new {T p c l a : Addr} {H : Hp} {o : HO} {acc : List (Nat × List Nat)} (w : Wd T p c l H acc) (h : H a = none) : Wd T p c l (upd H a o) acc := w.kept (keep_new w.tab h)
/-- a new object stands apart from the state -/
theorem Wd.ne {T p c l a : Addr} {H : Hp} {acc : List (Nat × List Nat)} (w : Wd T p c l H acc) (h : H a = none) : a ≠ p ∧ a ≠ c := by
  obtain ⟨⟨seed, ms, e1, e2, _⟩, _⟩ := w.st
  exact ⟨Ne.symm (ne_of_none e1 h), Ne.symm (ne_of_none e2 h)⟩
theorem same_keep {T : Addr} {H H' : Hp} (t : TabG H T) (h : Same H H') : Keep T H H' := by
  obtain ⟨ps, hp, q⟩ := t
  exact ⟨⟨ps, h _ _ hp, q⟩, fun b o _ e => h b o e⟩
/-! ### x * n -/
theorem mul_one_len (n : Nat) (h : n < 120) : (Txt.mul (Str.ofString "x") (n : Int)).length ≤ 200 := by
  have := PyProof.Rows.len_mul_leN (x := Str.ofString "x") (n := (n : Int)) (L := 1) (N := 120) (by decide +kernel) (by omega)
  omega
section
variable {P : Program} {w : World} {K : PySem.W.Frag} {mg : Str → Option Value} {base : Heap}
def spLaw (K : PySem.W.Frag) (T : Addr) : Sp := fun vs H Q _ => ∃ (a : Addr) (ns : List Int), vs = [.ref a] ∧ SqL K H a (ns.map V.int) ∧ ns.length ≤ 63 ∧ TabG H T ∧ ∀ H', Q (.bl true) H'
end
end K70
namespace K70
open PySem PySem.Spec PyProof.Rows L2 QR TL
open GxR (TabB TabG Tabbed GenS)
section
variable {P : Program} {w : World} {K : PySem.W.Frag} {mg : Str → Option Value} {base : Heap}
theorem ok_law {T f fS fD fP fL fX fR fA fC : Addr} {fd fdS fdD fdP fdL fdX fdR fdA fdC : FuncData} (F : Fun K "law" "law" sLaw f fd)
    (GS : FnOk P w K mg base CX0 1 fS fdS ["script"] (spState K)) (bS : Binds K fdS ["script"] []) (gS : mg "_law_state" = some (.ref fS)) (kS : PySem.W.keepIn K (.ref fS) = true)
    (GD : FnOk P w K mg base CX0 1 fD fdD ["state", "many"] spDraw) (bD : Binds K fdD ["state", "many"] []) (gD : mg "_law_draw" = some (.ref fD)) (kD : PySem.W.keepIn K (.ref fD) = true)
    (GP : FnOk P w K mg base CX0 2 fP fdP ["state", "row"] spPick) (bP : Binds K fdP ["state", "row"] []) (gP : mg "_law_pick" = some (.ref fP)) (kP : PySem.W.keepIn K (.ref fP) = true)
    (GL : FnOk P w K mg base CX0 1 fL fdL ["kind", "text"] spRec) (bL : Binds K fdL ["kind", "text"] []) (gL : mg "_law_record" = some (.ref fL)) (kL : PySem.W.keepIn K (.ref fL) = true)
    (GX : FnOk P w K mg base CX0 2 fX fdX ["data"] spLRead) (bX : Binds K fdX ["data"] []) (gX : mg "_law_read" = some (.ref fX)) (kX : PySem.W.keepIn K (.ref fX) = true)
    (GR : FnOk P w K mg base CX0 2 fR fdR ["kind", "text"] spRec) (bR : Binds K fdR ["kind", "text"] []) (gR : mg "record_text" = some (.ref fR)) (kR : PySem.W.keepIn K (.ref fR) = true)
    (GA : FnOk P w K mg base CX0 4 fA fdA ["data"] (spRs T)) (bA : Binds K fdA ["data"] []) (gA : mg "read_records" = some (.ref fA)) (kA : PySem.W.keepIn K (.ref fA) = true)
    (GC : FnOk P w K mg base CX0 1 fC fdC ["text"] spChk) (bC : Binds K fdC ["text"] []) (gC : mg "check_number" = some (.ref fC)) (kC : PySem.W.keepIn K (.ref fC) = true)
    (ml : mg "len" = none) (mr : mg "range" = none) (mis : mg "isinstance" = none) (mtu : mg "tuple" = none) : FnOk P w K mg base CX0 5 f fd ["script"] (spLaw K T) := by
  refine F.ok scLaw (fun vs H Q E h => ?_) (fun cdv A outer s H vs Q E hr h => ?_)
  · obtain ⟨a, ns, rfl, _⟩ := h
    rfl
  · obtain ⟨a, ns, rfl, hS, hl, hT, q⟩ := h
    refine ⟨_, (pss_cons (ps_set (i := 1) scLaw.nd rfl (.inl rfl) (pe_call GS (hr.mono (by decide)) (by rfl) gS kS bS .nil pass0 (pa_cons (pv 0) pa_nil)))
      (pss_cons (ps_set (i := 2) scLaw.nd rfl (.inl rfl) pe_str)
      (pss_cons (ps_set (i := 3) scLaw.nd rfl (.inl rfl) (pe_lst pa_nil))
      (pss_cons (ps_for PassesOwn.never rfl (pi_range1 rfl mr (pa_cons (pe_call GD (hr.mono (by decide)) (by rfl) gD kD bD .nil pass0 (pa_cons (pv 1) (pa_cons pe_int pa_nil))) pa_nil)) (pg_name (i := 4) scLaw.nd rfl (.inl rfl))
        (pss_cons (ps_set (i := 5) scLaw.nd rfl (.inl rfl) (pe_call GP (hr.mono (by decide)) (by rfl) gP kP bP .nil pass0 (pa_cons (pv 1) (pa_cons (pe_lst (pa_cons pe_int (pa_cons pe_int (pa_cons pe_int (pa_cons pe_int pa_nil))))) pa_nil))))
      (pss_cons (ps_set (i := 6) scLaw.nd rfl (.inl rfl) (pe_call GP (hr.mono (by decide)) (by rfl) gP kP bP .nil pass0 (pa_cons (pv 1) (pa_cons (pe_lst (pa_cons pe_str (pa_cons pe_str (pa_cons pe_str
            (pa_cons (pe_call GL (hr.mono (by decide)) (by rfl) gL kL bL .nil pass0 (pa_cons pe_int (pa_cons pe_str pa_nil)))
            (pa_cons (pe_op op_mulS pe_str (pe_call GD (hr.mono (by decide)) (by rfl) gD kD bD .nil pass0 (pa_cons (pv 1) (pa_cons pe_int pa_nil))))
            (pa_cons pe_str (pa_cons pe_str pa_nil)))))))) pa_nil))))
      (pss_cons (ps_set (i := 7) scLaw.nd rfl (.inl rfl) (pe_call GR (hr.mono (by decide)) (by rfl) gR kR bR .nil pass0 (pa_cons (pv 5) (pa_cons (pv 6) pa_nil))))
      (pss_cons (ps_if (pt_cmpR op_ne (pv 7) (pe_call GL (hr.mono (by decide)) (by rfl) gL kL bL .nil pass0 (pa_cons (pv 5) (pa_cons (pv 6) pa_nil))) (nomark _)) (pss_one (ps_ret pe_bl)) pss_nil)
      (pss_cons (ps_set (i := 2) scLaw.nd rfl (.inl rfl) (pe_op op_add_str (pv 2) (pv 7)))
      (pss_one (ps_expr (pe_bm PySem.F.plainAttrs_list PySem.F.slot_list_append PySem.F.type_list_append mt_append (pv 3) (pa_cons (pe_tup (pa_cons (pv 5) (pa_cons (pv 6) pa_nil))) pa_nil))))))))))
      (pss_cons (ps_if (PW.pt (pw_or (pt_cmpR (op_neP hr.units) (pe_call GA hr (by rfl) gA kA bA .nil pass0 (pa_cons (pv 2) pa_nil)) (pe_tup (pa_cons (pv 3) (pa_cons (pe_callB call_len_str (by rfl) ml PySem.boot_len (pa_cons (pv 2) pa_nil)) pa_nil))) (nomark _))
          (pw_or1 (pt_cmpR (op_neP hr.units) (pe_call GA hr (by rfl) gA kA bA .nil pass0 (pa_cons pe_str pa_nil)) (pe_tup (pa_cons (pe_lst pa_nil) (pa_cons pe_int pa_nil))) (nomark _))))) (pss_one (ps_ret pe_bl)) pss_nil)
      (pss_cons (ps_for PassesOwn.never rfl (pi_range1 rfl mr (pa_cons pe_int pa_nil)) (pg_name (i := 4) scLaw.nd rfl (.inl rfl))
        (pss_cons (ps_set (i := 8) scLaw.nd rfl (.inl rfl) (pe_call GD (hr.mono (by decide)) (by rfl) gD kD bD .nil pass0 (pa_cons (pv 1) (pa_cons (pe_op op_add (pe_callB call_len_str (by rfl) ml PySem.boot_len (pa_cons (pv 2) pa_nil)) pe_int) pa_nil))))
      (pss_cons (ps_set (i := 9) scLaw.nd rfl (.inl rfl) (pe_call GP (hr.mono (by decide)) (by rfl) gP kP bP .nil pass0 (pa_cons (pv 1) (pa_cons (pe_lst (pa_cons pe_str (pa_cons pe_str (pa_cons pe_str (pa_cons pe_str (pa_cons pe_str (pa_cons pe_str (pa_cons pe_str pa_nil)))))))) pa_nil))))
      (pss_cons (ps_set (i := 10) scLaw.nd rfl (.inl rfl) (pe_call GP (hr.mono (by decide)) (by rfl) gP kP bP .nil pass0 (pa_cons (pv 1) (pa_cons (pe_lst
            (pa_cons (pe_slice sl_str (pv 2) po_none (po_some (pv 8)))
            (pa_cons (pe_op op_add_str (pe_op op_add_str (pe_slice sl_str (pv 2) po_none (po_some (pv 8))) (pv 9)) (pe_slice sl_str (pv 2) (po_some (pe_op op_add (pv 8) pe_int)) po_none))
            (pa_cons (pe_op op_add_str (pe_slice sl_str (pv 2) po_none (po_some (pv 8))) (pe_slice sl_str (pv 2) (po_some (pe_op op_add (pv 8) pe_int)) po_none))
            (pa_cons (pe_op op_add_str (pe_op op_add_str (pe_slice sl_str (pv 2) po_none (po_some (pv 8))) (pv 9)) (pe_slice sl_str (pv 2) (po_some (pv 8)) po_none))
            (pa_cons (pe_op op_add_str (pv 2) pe_str) pa_nil)))))) pa_nil))))
      (pss_cons (ps_set (i := 7) scLaw.nd rfl (.inl rfl) (pe_call GA hr (by rfl) gA kA bA .nil pass0 (pa_cons (pv 10) pa_nil)))
      (pss_one (ps_if (PW.pt (pw_or (pt_not (pt_val (pe_callB call_isi (by rfl) mis (by decide +kernel) (pa_cons (pv 7) (pa_cons (pe_bltn (v := V.ty "tuple") (u := .type "tuple") (by rfl) mtu (by decide +kernel) rfl) pa_nil)))))
              (pw_or1 (PW.pt (pw_and (pt_cmpR op_le (pe_callB call_len_str (by rfl) ml PySem.boot_len (pa_cons (pv 10) pa_nil)) pe_int (nomark _))
                (pw_and1 (pt_cmpR (op_neP hr.units) (pv 7) (pe_call GX (hr.mono (by decide)) (by rfl) gX kX bX .nil pass0 (pa_cons (pv 10) pa_nil)) (nomark _)))))))) (pss_one (ps_ret pe_bl)) pss_nil)))))))
      (pss_one (ps_ret (pe_cmpR op_eq (pe_call GC (hr.mono (by decide)) (by rfl) gC kC bC .nil pass0 (pa_cons pe_str pa_nil)) pe_int (nomark _)))))))))), ?_⟩
    have zl : 2000000 ≤ sizeLine := by
      rw [sizeLine_eq]
      decide
    refine ⟨_, rfl, a, ns, rfl, hS, hl, fun H1 p c sm1 np nc st => ?_⟩
    have eE : Str.ofString "" = Sg [] := by decide +kernel
    have tab1 : TabG H1 T := (same_keep hT sm1).1
    refine ⟨Nat.zero_le _, fun l nl => ?_⟩
    have lpc : l ≠ p ∧ l ≠ c := by
      obtain ⟨⟨seed, ms, e1, e2, _⟩, _⟩ := st
      exact ⟨Ne.symm (ne_of_none e1 nl), Ne.symm (ne_of_none e2 nl)⟩
    have w0 : Wd T p c l (upd H1 l (.lst [])) [] := ⟨st.kept tab1 (keep_new tab1 nl), (keep_new tab1 nl).1, ⟨[], upd_same, .nil⟩, lpc.1, lpc.2⟩
    refine ⟨_, rfl, p, c, 6, rfl, by decide, w0.st, fun H2 r _ r6 st2 d2 => ⟨_, rfl, by omega, by omega, ?_⟩⟩
    have r6' := r6 (by decide)
    have w2 := w0.drawn st2 d2
    refine for_range (n := ((r : Nat) : Int).toNat) (fun i σ H' => ∃ (acc : List (Nat × List Nat)) (y4 y5 y6 y7 y8 y9 y10 : Option V), σ = [some (.ref a), some (.ref p), some (.str (Sg (flat acc))), some (.ref l), y4, y5, y6, y7, y8, y9, y10] ∧ Wd T p c l H' acc ∧ RowsOk acc ∧ acc.length = i)
      ⟨[], none, none, none, none, none, none, none, by rw [eE]; rfl, w2, fun r h => (nomatch h), rfl⟩ ?_ ?_
    · rintro i σ H3 hi ⟨acc, y4, y5, y6, y7, y8, y9, y10, rfl, w3, ok3, la⟩
      -- kind
      refine ⟨_, rfl, by show 4 ≤ sizeLine; omega, fun l1 n1 => ?_⟩
      have w4 := w3.new (o := .lst [.int 1, .int 2, .int 2, .int 3]) n1
      refine ⟨p, c, l1, _, rfl, upd_same, (w3.ne n1).1, (w3.ne n1).2, by decide, by decide, w4.st, fun H5 v hv st5 d5 => ?_⟩
      have w5 := w4.drawn st5 d5
      obtain ⟨k, rfl, k1, k3⟩ : ∃ k : Nat, v = .int (k : Int) ∧ 1 ≤ k ∧ k ≤ 3 := by
        simp only [List.mem_cons, List.not_mem_nil, or_false] at hv
        rcases hv with rfl | rfl | rfl | rfl
        · exact ⟨1, rfl, by omega, by omega⟩
        · exact ⟨2, rfl, by omega, by omega⟩
        · exact ⟨2, rfl, by omega, by omega⟩
        · exact ⟨3, rfl, by omega, by omega⟩
      -- text
      refine ⟨_, rfl, 3, Str.ofString "", rfl, by decide, by decide +kernel, _, rfl, p, c, 120, rfl, by decide, w5.st, fun H6 r2 _ hr2 st6 d6 => ?_⟩
      have w6 := w5.drawn st6 d6
      have r2' := hr2 (by decide)
      refine ⟨_, _, rfl, rfl, PyProof.Rows.mulOk_of 1 120 (by decide +kernel) (by omega) (by omega) (by decide) (by decide), by show 7 ≤ sizeLine; omega, fun l2 n2 => ?_⟩
      generalize hxs : ([V.str (Str.ofString ""), V.str (Str.ofString "a"), V.str (Str.ofString "2 1:a:"), V.str (Sg (recL 3 (tl (Str.ofString "")))), V.str (Txt.mul (Str.ofString "x") ((r2 : Nat) : Int)), V.str (Str.ofString ":;"), V.str (Str.ofString "7")] : List V) = xs
      have hxl : xs.length = 7 := by
        rw [← hxs]
        rfl
      have w7 := w6.new (o := .lst xs) n2
      refine ⟨p, c, l2, xs, rfl, ?_, (w6.ne n2).1, (w6.ne n2).2, by omega, by omega, ?_, ?_⟩
      · exact upd_same
      · exact w7.st
      intro H8 v hv st8 d8
      rw [← hxs] at hv
      have w8 := w7.drawn st8 d8
      obtain ⟨t, rfl, lt⟩ : ∃ t : List Nat, v = .str (Sg t) ∧ t.length ≤ 200 := by
        have mk : ∀ z : Str, z.length ≤ 200 → ∃ t : List Nat, V.str z = .str (Sg t) ∧ t.length ≤ 200 := fun z hz => ⟨tl z, by rw [sg_of], by rw [← len_tl]; exact hz⟩
        simp only [List.mem_cons, List.not_mem_nil, or_false] at hv
        rcases hv with rfl | rfl | rfl | rfl | rfl | rfl | rfl
        · exact mk _ (by decide +kernel)
        · exact mk _ (by decide +kernel)
        · exact mk _ (by decide +kernel)
        · exact mk _ (by decide +kernel)
        · exact mk _ (mul_one_len r2 r2')
        · exact mk _ (by decide +kernel)
        · exact mk _ (by decide +kernel)
      have rl := recL_le (t := t) k3 lt
      -- told
      refine ⟨_, rfl, _, rfl, k, Sg t, rfl, by omega, by rw [sg_len]; omega, ?_⟩
      refine ⟨_, rfl, _, rfl, _, rfl, k, Sg t, rfl, by omega, by rw [sg_len]; omega, rfl, _, rfl, ?_⟩
      rw [decide_eq_true (show V.str (Sg (recL k (tl (Sg t)))) = V.str (Sg (recL k (tl (Sg t)))) from rfl)]
      refine iteF ?_
      have fl := flat_le acc ok3
      have la5 : acc.length ≤ 5 := by omega
      refine ⟨_, rfl, _, rfl, _, _, rfl, rfl, app_size (by show (flat acc).length + (recL k t).length ≤ _; omega), ?_⟩
      obtain ⟨as, eL, tu⟩ := w8.rows
      refine ⟨_, rfl, .inl ⟨rfl, _, SqL.of eL⟩, _, rfl, _, rfl, by show 2 ≤ sizeLine; omega, fun a3 n3 => ?_⟩
      have w9 := w8.new (o := .tup [.int (k : Int), .str (Sg t)]) n3
      have eL3 : upd H8 a3 (.tup [.int (k : Int), .str (Sg t)]) l = some (.lst (as.map V.ref)) := by
        rw [upd_ne (ne_of_none eL n3)]
        exact eL
      have tu3 : Tups (upd H8 a3 (.tup [.int (k : Int), .str (Sg t)])) (as ++ [a3]) (acc ++ [(k, t)]) := by
        have hs : upd H8 a3 (.tup [.int (k : Int), .str (Sg t)]) a3 = some (rowH (k, t)) := upd_same
        exact Tups.snoc hs (tu.keep w8.tab (keep_new w8.tab n3))
      refine ⟨l, _, _, rfl, rfl, eL3, ?_, ?_⟩
      · have := tu.len
        rw [List.length_map]
        omega
      have nT := w9.st.neT w9.tab
      have lT : l ≠ T := tab_ne w9.tab eL3 fun ps z => nomatch z
      refine ⟨acc ++ [(k, t)], some (.int (0 + (i : Int))), some (.int (k : Int)), some (.str (Sg t)), some (.str (Sg (recL k (tl (Sg t))))), y8, y9, y10, ?_, ⟨?_, tab_upd w9.tab lT, ⟨as ++ [a3], ?_, Tups.upd eL3 tu3⟩, w9.lp, w9.lc⟩, ?_, ?_⟩
      · rw [flat_snoc, ← sg_app]
        rfl
      · exact w9.st.mono (fun o e => by rw [upd_ne (Ne.symm w9.lp)]; exact e) (fun o e => by rw [upd_ne (Ne.symm w9.lc)]; exact e)
      · rw [upd_same, List.map_append]
        rfl
      · intro x hx
        rcases List.mem_append.mp hx with hx | hx
        · exact ok3 x hx
        · rw [List.mem_singleton.mp hx]
          exact ⟨k1, k3, lt⟩
      · rw [List.length_append, List.length_singleton, la]
    · rintro σ H3 ⟨acc, y4, y5, y6, y7, y8, y9, y10, rfl, w3, ok3, la⟩
      have fl := flat_le acc ok3
      have la5 : acc.length ≤ 6 := by omega
      have lf : (Sg (flat acc)).length = (flat acc).length := sg_len _
      have er : recsA (Sg (flat acc)).length (tl (Sg (flat acc))) = (acc, []) := recs_flat _ (.inr trivial) acc fun x hx => ⟨(ok3 x hx).1, (ok3 x hx).2.1, by rw [lf]; exact mem_flat_le acc x hx⟩
      refine ⟨_, rfl, Sg (flat acc), rfl, by omega, w3.tab, fun H4 a1 kp1 told1 => ?_⟩
      have w4 := w3.kept kp1
      rw [er] at told1
      obtain ⟨l1, as1, g1, g2, g3⟩ := told1
      obtain ⟨as, eL, tu⟩ := w4.rows
      refine ⟨_, rfl, _, rfl, _, rfl, by omega, by show 2 ≤ sizeLine; omega, fun a2 n2 => ?_⟩
      have sn := same_new (o := .tup [.ref l, .int ((Sg (flat acc)).length : Int)]) n2
      refine ⟨toldD acc (Sg (flat acc)).length, toldD acc (Sg (flat acc)).length, dp_told (sn _ _ g1) (sn _ _ g2) (g3.mono fun a r e => sn _ _ e), dp_told upd_same (sn _ _ eL) (tu.mono fun a r e => sn _ _ e), plain_told _ _, plain_told _ _, depth_told _ _, _, rfl, ?_⟩
      rw [eqv_told]
      refine iteF ?_
      have w5 := w4.new (o := .tup [.ref l, .int ((Sg (flat acc)).length : Int)]) n2
      have e0 : tl (Str.ofString "") = [] := by decide +kernel
      have l0 : (Str.ofString "").length = 0 := by decide +kernel
      refine ⟨Str.ofString "", rfl, by omega, w5.tab, fun H6 a3 kp3 told3 => ?_⟩
      have w6 := w5.kept kp3
      rw [e0, l0, recsA_none (parse_nil 0)] at told3
      obtain ⟨l3, as3, q1, q2, q3⟩ := told3
      refine ⟨Nat.zero_le _, fun l4 n4 => ?_⟩
      have w7 := w6.new (o := .lst []) n4
      refine ⟨by show 2 ≤ sizeLine; omega, fun a5 n5 => ?_⟩
      have w8 := w7.new (o := .tup [.ref l4, .int 0]) n5
      have s4 := same_new (o := .lst []) n4
      have s5 := same_new (o := .tup [.ref l4, .int 0]) n5
      refine ⟨toldD [] 0, toldD [] 0, dp_told (s5 _ _ (s4 _ _ q1)) (s5 _ _ (s4 _ _ q2)) (q3.mono fun a r e => s5 _ _ (s4 _ _ e)), dp_told (as := []) upd_same (s5 _ _ upd_same) .nil, plain_told _ _, plain_told _ _, depth_told _ _, _, rfl, ?_⟩
      rw [eqv_told]
      refine iteF ?_
      refine ⟨4, rfl, by decide, by decide, ?_⟩
      refine for_range (n := 4) (fun i σ H' => ∃ y4 y5 y6 y7 y8 y9 y10 : Option V, σ = [some (.ref a), some (.ref p), some (.str (Sg (flat acc))), some (.ref l), y4, y5, y6, y7, y8, y9, y10] ∧ Wd T p c l H' acc)
        ⟨_, _, _, _, _, _, _, rfl, w8⟩ ?_ ?_
      · rintro i σ H9 hi ⟨y4, y5, y6, y7, y8, y9, y10, rfl, w9⟩
        have zf : (Sg (flat acc)).length ≤ 1800 := by omega
        have cl : ∀ lo hi : Option Int, (cutS (Sg (flat acc)) lo hi).length ≤ 1800 := fun lo hi => Nat.le_trans (cutS_length _ _ _) zf
        -- at
        refine ⟨_, rfl, _, rfl, _, rfl, by omega, _, _, rfl, rfl, p, c, (Sg (flat acc)).length + 1, rfl, by omega, w9.st, fun H10 at_ _ _ st10 d10 => ?_⟩
        have w10 := w9.drawn st10 d10
        -- char
        refine ⟨_, rfl, by show 7 ≤ sizeLine; omega, fun l1 n1 => ?_⟩
        have w11 := w10.new (o := .lst [.str (Str.ofString "0"), .str (Str.ofString "1"), .str (Str.ofString ":"), .str (Str.ofString ";"), .str (Str.ofString " "), .str (Str.ofString "a"), .str (Str.ofString "2")]) n1
        refine ⟨p, c, l1, _, rfl, upd_same, (w10.ne n1).1, (w10.ne n1).2, by decide, by decide, w11.st, fun H12 v hv st12 d12 => ?_⟩
        have w12 := w11.drawn st12 d12
        obtain ⟨ch, rfl, lch⟩ : ∃ ch : Str, v = .str ch ∧ ch.length ≤ 1 := by
          simp only [List.mem_cons, List.not_mem_nil, or_false] at hv
          rcases hv with rfl | rfl | rfl | rfl | rfl | rfl | rfl
          all_goals exact ⟨_, rfl, by decide +kernel⟩
        -- other
        have sz : ∀ x y : Str, x.length ≤ 5000 → y.length ≤ 5000 → x.length + y.length ≤ sizeLine := fun x y h1 h2 => by omega
        have sa : ∀ x y : Str, (x ++ y).length = x.length + y.length := fun x y => strLen_append x y
        have le5 : ∀ lo hi : Option Int, (cutS (Sg (flat acc)) lo hi).length ≤ 5000 := fun lo hi => Nat.le_trans (cl lo hi) (by decide)
        have szA : ∀ lo hi : Option Int, (cutS (Sg (flat acc)) lo hi).length + ch.length ≤ sizeLine := fun lo hi => sz _ _ (le5 lo hi) (by omega)
        have szB : ∀ lo hi lo' hi' : Option Int, (cutS (Sg (flat acc)) lo hi ++ ch).length + (cutS (Sg (flat acc)) lo' hi').length ≤ sizeLine := fun lo hi lo' hi' => sz _ _ (by
          rw [sa]
          have := cl lo hi
          omega) (le5 _ _)
        have szC : ∀ lo hi lo' hi' : Option Int, (cutS (Sg (flat acc)) lo hi).length + (cutS (Sg (flat acc)) lo' hi').length ≤ sizeLine := fun lo hi lo' hi' => sz _ _ (le5 _ _) (le5 _ _)
        have szD : (Sg (flat acc)).length + (Str.ofString "3 0:").length ≤ sizeLine := sz _ _ (by omega) (by decide +kernel)
        refine ⟨_, rfl, _, rfl, _, rfl, _, rfl, _, rfl, by omega, ?_⟩
        refine ⟨_, rfl, _, rfl, _, rfl, _, rfl, by omega, _, rfl, _, _, rfl, rfl, szA _ _, _, rfl, _, rfl, _, _, rfl, rfl, _, rfl, _, rfl, by omega, _, _, rfl, rfl, szB _ _ _ _, ?_⟩
        refine ⟨_, rfl, _, rfl, _, rfl, _, rfl, by omega, _, rfl, _, rfl, _, _, rfl, rfl, _, rfl, _, rfl, by omega, _, _, rfl, rfl, szC _ _ _ _, ?_⟩
        refine ⟨_, rfl, _, rfl, _, rfl, _, rfl, by omega, _, rfl, _, _, rfl, rfl, szA _ _, _, rfl, _, rfl, _, rfl, _, rfl, by omega, _, _, rfl, rfl, szB _ _ _ _, ?_⟩
        refine ⟨_, rfl, _, _, rfl, rfl, szD, ?_⟩
        refine ⟨by show 5 ≤ sizeLine; omega, fun l2 n2 => ?_⟩
        refine ⟨p, c, l2, _, rfl, upd_same, (w12.ne n2).1, (w12.ne n2).2, by show 0 < 5; decide, by show 5 < 1000; decide, (w12.new n2).st, fun H14 v hv st14 d14 => ?_⟩
        have w14 := (w12.new n2).drawn st14 d14
        obtain ⟨z, rfl, lz⟩ : ∃ z : Str, v = .str z ∧ z.length ≤ 6000 := by
          have b1 := cl none (some (at_ : Int))
          have b2 := cl (some ((at_ : Int) + 1)) none
          have b3 := cl (some (at_ : Int)) none
          have b4 : (Str.ofString "3 0:").length ≤ 10 := by decide +kernel
          simp only [List.mem_cons, List.not_mem_nil, or_false] at hv
          rcases hv with rfl | rfl | rfl | rfl | rfl
          · exact ⟨_, rfl, by omega⟩
          · refine ⟨_, rfl, ?_⟩
            rw [sa, sa]
            omega
          · refine ⟨_, rfl, ?_⟩
            rw [sa]
            omega
          · refine ⟨_, rfl, ?_⟩
            rw [sa, sa]
            omega
          · refine ⟨_, rfl, ?_⟩
            rw [sa]
            omega
        -- told
        refine ⟨_, rfl, z, rfl, by omega, w14.tab, fun H15 a6 k6 told6 => ?_⟩
        have w15 := w14.kept k6
        obtain ⟨l6, as6, t1, t2, t3⟩ := told6
        refine ⟨_, rfl, _, _, _, _, true, rfl, .ty _, .base (.tup t1), kit_ty (by decide +kernel), _, rfl, ?_⟩
        refine iteF ?_
        refine ⟨_, rfl, z, rfl, by omega, _, _, rfl, rfl, _, rfl, ite2 (fun h3 => ?_) (fun h3 => ?_)⟩
        · have l300 : z.length ≤ 300 := by
            have := of_decide_eq_true h3
            omega
          refine ⟨_, rfl, _, rfl, z, rfl, by omega, fun H16 a7 sm7 told7 => ?_⟩
          have w16 := w15.kept (same_keep w15.tab sm7)
          obtain ⟨l7, as7, u1, u2, u3⟩ := told7
          refine ⟨toldD _ _, toldD _ _, dp_told (sm7 _ _ t1) (sm7 _ _ t2) (t3.mono fun x r e => sm7 _ _ e), dp_told u1 u2 u3, plain_told _ _, plain_told _ _, depth_told _ _, _, rfl, ?_⟩
          rw [eqv_told]
          exact iteF ⟨_, _, _, _, _, _, _, rfl, w16⟩
        · exact iteF ⟨_, _, _, _, _, _, _, rfl, w15⟩
      · rintro σ H9 ⟨_, _, _, _, _, _, _, rfl, _⟩
        refine ⟨Str.ofString "", rfl, rfl, ?_⟩
        have e7 : decide (V.int ((chkL (tl (Str.ofString "")) : Nat) : Int) = V.int 7) = true := by decide +kernel
        show Q (.bl (decide (V.int ((chkL (tl (Str.ofString "")) : Nat) : Int) = V.int 7))) H9
        rw [e7]
        exact q H9
end
end K70
namespace K70
open PySem PySem.Spec PyProof.Rows L2 QR TL
theorem all_mk {l : PySem.W.OpenLaw} {q : Program} {w : World} {K : PySem.W.Frag} {h : Heap} {mg : Str → Option Value} {fa : Addr} (X : K.In h) (G : h.Ns mainGlobals mg) (hfa : mg "law" = some (.ref fa)) (tabs : AllTabs q K mg h) (hrec : ((recsOf q).any fun e => e.name == ("is_word" : Str)) = true)
    {fW fN fC fT fR fA fS fD fP fL fX fZ : Addr} {odW anW odN anN odC anC odT anT odR anR odA anA odS anS odD anD odP anP odL anL odX anX odZ anZ : Option Addr}
    {slW slN slC slT slR slA slS slD slP slL slX slZ : Array (Option Value)}
    {ocW kVW dcW pmW ctW ocN kVN dcN pmN ctN cdN ocC kVC dcC pmC ctC cdC ocT kVT dcT pmT ctT cdT ocR kVR dcR pmR ctR cdR ocA kVA dcA pmA ctA cdA ocS kVS dcS pmS ctS cdS ocD kVD dcD pmD ctD cdD ocP kVP dcP pmP ctP cdP ocL kVL dcL pmL ctL cdL ocX kVX dcX pmX ctX cdX ocZ kVZ dcZ pmZ ctZ cdZ : Value} {cW tW : Addr} {eW : Value} {ddW : Option Addr} {vsW : Array Value} {ssW : Array (Option Value)} {kDI kHE kRE kCS kCF kCM : Tok}
    (aW : PySem.W.nsIn K mainGlobals "is_word" = some (some (.ref fW)))
    (lW : K.lookup fW = some ⟨ocW, odW, .func (PySem.W.fnOf "is_word" "is_word" (defArgs sWord) (defBody sWord) (defScope sWord) .none kVW dcW pmW anW (.ref cW) ctW), slW⟩)
    (cW1 : PySem.W.codeIn K (.ref cW) "is_word" = true) (kW1 : PySem.W.keepIn K (.ref fW) = true)
    (aN : PySem.W.nsIn K mainGlobals "read_number" = some (some (.ref fN)))
    (lN : K.lookup fN = some ⟨ocN, odN, .func (PySem.W.fnOf "read_number" "read_number" (defArgs sNum) (defBody sNum) (defScope sNum) .none kVN dcN pmN anN (cdN) ctN), slN⟩)
    (cN1 : PySem.W.codeIn K (cdN) "read_number" = true) (kN1 : PySem.W.keepIn K (.ref fN) = true)
    (aC : PySem.W.nsIn K mainGlobals "check_number" = some (some (.ref fC)))
    (lC : K.lookup fC = some ⟨ocC, odC, .func (PySem.W.fnOf "check_number" "check_number" (defArgs sChk) (defBody sChk) (defScope sChk) .none kVC dcC pmC anC (cdC) ctC), slC⟩)
    (cC1 : PySem.W.codeIn K (cdC) "check_number" = true) (kC1 : PySem.W.keepIn K (.ref fC) = true)
    (aT : PySem.W.nsIn K mainGlobals "record_text" = some (some (.ref fT)))
    (lT : K.lookup fT = some ⟨ocT, odT, .func (PySem.W.fnOf "record_text" "record_text" (defArgs sRec) (defBody sRec) (defScope sRec) .none kVT dcT pmT anT (cdT) ctT), slT⟩)
    (cT1 : PySem.W.codeIn K (cdT) "record_text" = true) (kT1 : PySem.W.keepIn K (.ref fT) = true)
    (aR : PySem.W.nsIn K mainGlobals "read_record" = some (some (.ref fR)))
    (lR : K.lookup fR = some ⟨ocR, odR, .func (PySem.W.fnOf "read_record" "read_record" (defArgs sRR) (defBody sRR) (defScope sRR) .none kVR dcR pmR anR (cdR) ctR), slR⟩)
    (cR1 : PySem.W.codeIn K (cdR) "read_record" = true) (kR1 : PySem.W.keepIn K (.ref fR) = true)
    (aA : PySem.W.nsIn K mainGlobals "read_records" = some (some (.ref fA)))
    (lA : K.lookup fA = some ⟨ocA, odA, .func (PySem.W.fnOf "read_records" "read_records" (defArgs sRs) (defBody sRs) (defScope sRs) .none kVA dcA pmA anA (cdA) ctA), slA⟩)
    (cA1 : PySem.W.codeIn K (cdA) "read_records" = true) (kA1 : PySem.W.keepIn K (.ref fA) = true)
    (aS : PySem.W.nsIn K mainGlobals "_law_state" = some (some (.ref fS)))
    (lS : K.lookup fS = some ⟨ocS, odS, .func (PySem.W.fnOf "_law_state" "_law_state" (defArgs sState) (defBody sState) (defScope sState) .none kVS dcS pmS anS (cdS) ctS), slS⟩)
    (cS1 : PySem.W.codeIn K (cdS) "_law_state" = true) (kS1 : PySem.W.keepIn K (.ref fS) = true)
    (aD : PySem.W.nsIn K mainGlobals "_law_draw" = some (some (.ref fD)))
    (lD : K.lookup fD = some ⟨ocD, odD, .func (PySem.W.fnOf "_law_draw" "_law_draw" (defArgs sDraw) (defBody sDraw) (defScope sDraw) .none kVD dcD pmD anD (cdD) ctD), slD⟩)
    (cD1 : PySem.W.codeIn K (cdD) "_law_draw" = true) (kD1 : PySem.W.keepIn K (.ref fD) = true)
    (aP : PySem.W.nsIn K mainGlobals "_law_pick" = some (some (.ref fP)))
    (lP : K.lookup fP = some ⟨ocP, odP, .func (PySem.W.fnOf "_law_pick" "_law_pick" (defArgs sPick) (defBody sPick) (defScope sPick) .none kVP dcP pmP anP (cdP) ctP), slP⟩)
    (cP1 : PySem.W.codeIn K (cdP) "_law_pick" = true) (kP1 : PySem.W.keepIn K (.ref fP) = true)
    (aL : PySem.W.nsIn K mainGlobals "_law_record" = some (some (.ref fL)))
    (lL : K.lookup fL = some ⟨ocL, odL, .func (PySem.W.fnOf "_law_record" "_law_record" (defArgs sLRec) (defBody sLRec) (defScope sLRec) .none kVL dcL pmL anL (cdL) ctL), slL⟩)
    (cL1 : PySem.W.codeIn K (cdL) "_law_record" = true) (kL1 : PySem.W.keepIn K (.ref fL) = true)
    (aX : PySem.W.nsIn K mainGlobals "_law_read" = some (some (.ref fX)))
    (lX : K.lookup fX = some ⟨ocX, odX, .func (PySem.W.fnOf "_law_read" "_law_read" (defArgs sLRead) (defBody sLRead) (defScope sLRead) .none kVX dcX pmX anX (cdX) ctX), slX⟩)
    (cX1 : PySem.W.codeIn K (cdX) "_law_read" = true) (kX1 : PySem.W.keepIn K (.ref fX) = true)
    (aZ : PySem.W.nsIn K mainGlobals "law" = some (some (.ref fZ)))
    (lZ : K.lookup fZ = some ⟨ocZ, odZ, .func (PySem.W.fnOf "law" "law" (defArgs sLaw) (defBody sLaw) (defScope sLaw) .none kVZ dcZ pmZ anZ (cdZ) ctZ), slZ⟩)
    (cZ1 : PySem.W.codeIn K (cdZ) "law" = true) (kZ1 : PySem.W.keepIn K (.ref fZ) = true)
    (lc : K.lookup cW = some ⟨eW, ddW, .fields vsW, ssW⟩) (vt : vsW[11]? = some (.ref tW)) (hh : PySem.W.codeHdIn K cW tW = true) (nt : K.lookup tW = none)
    (aDI : PySem.W.nsIn K mainGlobals "DIGITS" = some (some (.str "0123456789" kDI)))
    (aHE : PySem.W.nsIn K mainGlobals "HEAD" = some (some (.int 1 kHE)))
    (aRE : PySem.W.nsIn K mainGlobals "READY" = some (some (.int 3 kRE)))
    (aCS : PySem.W.nsIn K mainGlobals "CHECK_START" = some (some (.int 7 kCS)))
    (aCF : PySem.W.nsIn K mainGlobals "CHECK_FACTOR" = some (some (.int 257 kCF)))
    (aCM : PySem.W.nsIn K mainGlobals "CHECK_MODULUS" = some (some (.int 4294967291 kCM)))
    (z_len : PySem.W.nsIn K mainGlobals "len" = some none)
    (z_all : PySem.W.nsIn K mainGlobals "all" = some none)
    (z_str : PySem.W.nsIn K mainGlobals "str" = some none)
    (z_int : PySem.W.nsIn K mainGlobals "int" = some none)
    (z_ord : PySem.W.nsIn K mainGlobals "ord" = some none)
    (z_abs : PySem.W.nsIn K mainGlobals "abs" = some none)
    (z_range : PySem.W.nsIn K mainGlobals "range" = some none)
    (z_isinstance : PySem.W.nsIn K mainGlobals "isinstance" = some none)
    (z_tuple : PySem.W.nsIn K mainGlobals "tuple" = some none)
    : LamX.LawAtS l w K CX0 5 63 "script" mg fa h := by
  have e := hfa.symm.trans (PySem.W.mg_of X G aZ)
  cases e
  have FN := fun_mk (st := sNum) lN cN1 kN1
  have FC := fun_mk (st := sChk) lC cC1 kC1
  have FT := fun_mk (st := sRec) lT cT1 kT1
  have FR := fun_mk (st := sRR) lR cR1 kR1
  have FA := fun_mk (st := sRs) lA cA1 kA1
  have FS := fun_mk (st := sState) lS cS1 kS1
  have FD := fun_mk (st := sDraw) lD cD1 kD1
  have FP := fun_mk (st := sPick) lP cP1 kP1
  have FL := fun_mk (st := sLRec) lL cL1 kL1
  have FX := fun_mk (st := sLRead) lX cX1 kX1
  have FZ := fun_mk (st := sLaw) lZ cZ1 kZ1
  have bN := FN.binds (ps := ["text", "most"]) fun _ _ _ _ _ _ us hl => match us, hl with | [_, _], _ => rfl
  have bC := FC.binds (ps := ["text"]) fun _ _ _ _ _ _ us hl => match us, hl with | [_], _ => rfl
  have bT := FT.binds (ps := ["kind", "text"]) fun _ _ _ _ _ _ us hl => match us, hl with | [_, _], _ => rfl
  have bR := FR.binds (ps := ["data", "at"]) fun _ _ _ _ _ _ us hl => match us, hl with | [_, _], _ => rfl
  have bA := FA.binds (ps := ["data"]) fun _ _ _ _ _ _ us hl => match us, hl with | [_], _ => rfl
  have bS := FS.binds (ps := ["script"]) fun _ _ _ _ _ _ us hl => match us, hl with | [_], _ => rfl
  have bD := FD.binds (ps := ["state", "many"]) fun _ _ _ _ _ _ us hl => match us, hl with | [_, _], _ => rfl
  have bP := FP.binds (ps := ["state", "row"]) fun _ _ _ _ _ _ us hl => match us, hl with | [_, _], _ => rfl
  have bL := FL.binds (ps := ["kind", "text"]) fun _ _ _ _ _ _ us hl => match us, hl with | [_, _], _ => rfl
  have bX := FX.binds (ps := ["data"]) fun _ _ _ _ _ _ us hl => match us, hl with | [_], _ => rfl
  have bW : Binds K (PySem.W.fnOf "is_word" "is_word" (defArgs sWord) (defBody sWord) (defScope sWord) .none kVW dcW pmW anW (.ref cW) ctW) ["text", "signs", "most"] [] := .all fun us hl => match us, hl with | [_, _, _], _ => rfl
  have gW := PySem.W.mg_of X G aW
  have gN := PySem.W.mg_of X G aN
  have gC := PySem.W.mg_of X G aC
  have gT := PySem.W.mg_of X G aT
  have gR := PySem.W.mg_of X G aR
  have gA := PySem.W.mg_of X G aA
  have gS := PySem.W.mg_of X G aS
  have gD := PySem.W.mg_of X G aD
  have gP := PySem.W.mg_of X G aP
  have gL := PySem.W.mg_of X G aL
  have gX := PySem.W.mg_of X G aX
  have gZ := PySem.W.mg_of X G aZ
  have gDI := PySem.W.mg_of X G aDI
  have gHE := PySem.W.mg_of X G aHE
  have gRE := PySem.W.mg_of X G aRE
  have gCS := PySem.W.mg_of X G aCS
  have gCF := PySem.W.mg_of X G aCF
  have gCM := PySem.W.mg_of X G aCM
  have m_len := PySem.W.mg_none_of X G z_len
  have m_all := PySem.W.mg_none_of X G z_all
  have m_str := PySem.W.mg_none_of X G z_str
  have m_int := PySem.W.mg_none_of X G z_int
  have m_ord := PySem.W.mg_none_of X G z_ord
  have m_abs := PySem.W.mg_none_of X G z_abs
  have m_range := PySem.W.mg_none_of X G z_range
  have m_isinstance := PySem.W.mg_none_of X G z_isinstance
  have m_tuple := PySem.W.mg_none_of X G z_tuple
  have empty : h.get? tW = some { cls := .none, data := .fields #[] } := tabs "is_word" fW hrec gW cW tW _ _ _ _ _ _ lW rfl rfl lc vt
  refine ⟨PySem.W.fnOf "law" "law" (defArgs sLaw) (defBody sLaw) (defScope sLaw) .none kVZ dcZ pmZ anZ cdZ ctZ, [(cW, tW)], spLaw K tW, ?_, ?_, ?_, fun s v => .of_eq rfl, ?_, ?_⟩
  · intro p hp
    rw [List.mem_singleton.mp hp]
    exact empty
  · intro p hp
    rw [List.mem_singleton.mp hp]
    exact nt
  · intro p hp
    rw [List.mem_singleton.mp hp]
    exact PySem.W.codeHd_of_K X hh
  · intro H a ns hl _ hH hS
    exact ⟨a, ns, rfl, hS, hl, ⟨#[], hH (cW, tW) (List.mem_singleton.mpr rfl), trivial⟩, fun _ => rfl⟩
  · intro base _ _ hT
    have tb := hT (cW, tW) (List.mem_singleton.mpr rfl)
    have TB : GxR.TabB base mg cW tW := ⟨tb.code, tb.bm, tb.gP⟩
    have GW := ok_word (P := l.prog) (w := w) lW cW1 TB m_len m_all
    have GN := ok_num (P := l.prog) (w := w) (base := base) FN GW bW gW kW1 gDI m_len m_str m_int
    have GC := ok_chk (P := l.prog) (w := w) (base := base) FC gCS gCF gCM m_ord
    have GT := ok_rec (P := l.prog) (w := w) (base := base) FT GC bC gC kC1 m_len
    have GR := ok_rr (P := l.prog) (w := w) (base := base) FR GN bN gN kN1 GC bC gC kC1 gHE gRE gCM m_len
    have GA := ok_rs (P := l.prog) (w := w) (base := base) FA GR bR gR kR1
    have GS := ok_state (P := l.prog) (w := w) (base := base) FS m_abs m_int
    have GD := ok_draw (P := l.prog) (w := w) (base := base) FD m_len m_int
    have GP := ok_pick (P := l.prog) (w := w) (base := base) FP GD bD gD kD1 m_len
    have GL := ok_lrec (P := l.prog) (w := w) (base := base) FL m_len m_str m_int m_ord
    have GX := ok_lread (P := l.prog) (w := w) (base := base) FX GL bL gL kL1 m_len m_str m_range
    exact ok_law FZ GS bS gS kS1 GD bD gD kD1 GP bP gP kP1 GL bL gL kL1 GX bX gX kX1 GT bT gT kT1 GA bA gA kA1 GC bC gC kC1 m_len m_range m_isinstance m_tuple
end K70
open PySem PySem.W PyProof.Rows
set_option maxRecDepth 100000 in
set_option maxHeartbeats 0 in
theorem PySem.Challenge.cw_quiltward_k70_records_on_tapes_holds : PySem.Challenge.rw_quiltward_k70_records_on_tapes.Holds := by
  w_on; o_law; k_head; (case hw => w_witness2)
  k_fill
  refine QR.walk_tabs (l := PySem.Challenge.rw_quiltward_k70_records_on_tapes) (n := 63) (k := 5) (x := "script") (CX := fun _ => L2.CX0) rfl (by decide) rfl ⟨rfl, by decide, by decide⟩ (fun w h Y => PySem.W.kIn_of Y) ?F (fun _ _ _ _ _ h => h)
  case F =>
    intro w mg fa h Y KX G hmg tabs
    refine' K70.all_mk KX G hmg tabs ?hrec ?aW ?lW ?cW1 ?kW1 ?aN ?lN ?cN1 ?kN1 ?aC ?lC ?cC1 ?kC1 ?aT ?lT ?cT1 ?kT1 ?aR ?lR ?cR1 ?kR1 ?aA ?lA ?cA1 ?kA1 ?aS ?lS ?cS1 ?kS1 ?aD ?lD ?cD1 ?kD1 ?aP ?lP ?cP1 ?kP1 ?aL ?lL ?cL1 ?kL1 ?aX ?lX ?cX1 ?kX1 ?aZ ?lZ ?cZ1 ?kZ1 ?lc ?vt ?hh ?nt ?aDI ?aHE ?aRE ?aCS ?aCF ?aCM ?z_len ?z_all ?z_str ?z_int ?z_ord ?z_abs ?z_range ?z_isinstance ?z_tuple
    (case hrec => decide +kernel)
    (case aW => k_is); (case lW => k_is); (case cW1 => k_is); (case kW1 => k_is); (case aN => k_is); (case lN => k_is); (case cN1 => k_is); (case kN1 => k_is); (case aC => k_is); (case lC => k_is); (case cC1 => k_is); (case kC1 => k_is); (case aT => k_is); (case lT => k_is); (case cT1 => k_is); (case kT1 => k_is); (case aR => k_is); (case lR => k_is); (case cR1 => k_is); (case kR1 => k_is); (case aA => k_is); (case lA => k_is); (case cA1 => k_is); (case kA1 => k_is); (case aS => k_is); (case lS => k_is); (case cS1 => k_is); (case kS1 => k_is); (case aD => k_is); (case lD => k_is); (case cD1 => k_is); (case kD1 => k_is); (case aP => k_is); (case lP => k_is); (case cP1 => k_is); (case kP1 => k_is); (case aL => k_is); (case lL => k_is); (case cL1 => k_is); (case kL1 => k_is); (case aX => k_is); (case lX => k_is); (case cX1 => k_is); (case kX1 => k_is); (case aZ => k_is); (case lZ => k_is); (case cZ1 => k_is); (case kZ1 => k_is); (case lc => k_is); (case vt => rfl); (case hh => first | rfl | kernel_rfl); (case nt => first | rfl | kernel_rfl); (case aDI => k_is); (case aHE => k_is); (case aRE => k_is); (case aCS => k_is); (case aCF => k_is); (case aCM => k_is); (case z_len => k_is); (case z_all => k_is); (case z_str => k_is); (case z_int => k_is); (case z_ord => k_is); (case z_abs => k_is); (case z_range => k_is); (case z_isinstance => k_is); (case z_tuple => k_is)
