import PyProof.Rows.All
import Wide.All
import OpenK.AllK
import Wide.FinOn
import PySem.Challenge.RW_quiltward_k85_tapes_behind_many_compacti
import HandS.ForSpec
import HandS.ForMost
import HandS.AnyAll
import HandS.EndTab
import HandS.StrMore
import HandS.FStr
import HandS.IsInst
import HandS.Wide
import HandS.RaiseMore
import KE.DataEq
import PyProof.Rows.StrMul
import PyProof.Rows.StrJoinRep
import HandS.EndOwn
import HandS.NestedK
import HandS.Text
import HandS.Codes
import PyProof.GenCompT
import PyProof.WalksPairs
import HandS.Steps
import HandS.Zip
import HandS.Comp
import KE.GoesZip
import KE.GoesMore
import PyProof.EqAt
import PyProof.EqKinds
import PyProof.TupleCall
import Open.SpecLaws
import KE.OsGo
import HandS.ExcIs
import KE.KExcIs
set_option Elab.async false
set_option linter.all false
set_option maxRecDepth 100000
set_option maxHeartbeats 4000000
/-! rules of my own over the hand layer -/
namespace QR
open PySem PySem.Spec PyProof.Rows L2 GxR
section
variable {X : Cx} {pins : List (Addr × Obj)} {σ : L2.St} {H : Hp} {s : Shared}

/-! ### all(test for x in source), the test may read captured names -/
/-- what is walked: from the state s1, an iterator of n items, of which item i is one of Pw i; more: what else is looked at -/
def SrcOk (X : Cx) (P : Addr) (u : Value) (s1 : Shared) (n : Nat) (Pw : Nat → Value → Prop) : Prop :=
  ∃ more : List Addr, (∀ b ∈ more, b < s1.heap.objs.size ∧ b ≠ P) ∧
    ∀ Q : Value → Shared → Prop, (∀ (ob : Obj) (St : Nat → Heap → Prop),
        (∀ A' : Around, A'.handled = none → Walks X.prog X.w A' s1.heap.objs.size (s1.heap.objs.size :: more) [s1.heap.objs.size] n Pw St) → St 0 (s1.heap.push ob) →
          Q (.ref s1.heap.objs.size) { s1 with heap := s1.heap.push ob }) → wpAny (model X.prog X.w) X.A (pyIter u) Q X.xe s1
/-- the element is a test: tr i for the item i -/
def EltOk (X : Cx) (P : Addr) (scope : Scope) (x : Str) (elt : Expr) (s1 : Shared) (Pw : Nat → Value → Prop) (tr : Nat → Bool) : Prop :=
  ∀ (ce : Env) (A' : Around) (E' : Value → Shared → Prop) (i : Nat) (v : Value) (s2 : Shared) (m2 : Str → Option Value), A'.handled = none → ce.scope = scope → ce.cells = cloFrom X.env.cells scope.names [] →
    Pw i v → s2.heap.Ns ce.locals m2 → m2 x = some v → (∀ b o, b ≠ P → s1.heap.get? b = some o → s2.heap.get? b = some o) →
      wpAny (model X.prog X.w) A' (eval elt ce) (fun y s3 => y = .bool (tr i) ∧ Keeps s2 s3) E' s2

/-- made: the generator g is ready for its walk -/
def Made (X : Cx) (pins : List (Addr × Obj)) (σ : L2.St) (H1 : Hp) (P : Addr) (n : Nat) (tr : Nat → Bool) (g : Addr) (s5 : Shared) : Prop :=
  ∃ (fp wr : List Addr) (G : Array GenState → Array GenState → Prop) (F : Nat → Value → Prop) (St : Nat → Shared → Prop),
    WalksS X.prog X.w X.A.in1 g fp wr G n F St ∧ St 0 s5 ∧ TruthOf X.prog X.w X.A.in1 F tr ∧
      ∀ s', Moved wr G s5 s' → ∃ H2, Tabbed P H1 H2 ∧ Inv X pins σ H2 s'

theorem gen_make {c P : Addr} {elt iter : Expr} {x : Str} {px gpos : Pos} {scope : Scope} {k : Nat} {Q' : Value → Shared → Prop}
    (hr : Room k X.A) (TB : TabB X.base X.mg c P) (hcode : X.env.code = .ref c) (S : GenS X.env scope x) (hs : ∀ v, genFold iter X.env v = pure v)
    (h : wpAny (model X.prog X.w) X.A (eval iter X.env) (fun u s1 => ∃ (H1 : Hp) (n : Nat) (Pw : Nat → Value → Prop) (tr : Nat → Bool), Inv X pins σ H1 s1 ∧ TabG H1 P ∧ SrcOk X P u s1 n Pw ∧ EltOk X P scope x elt s1 Pw tr ∧
      ∀ g s5, Made X pins σ H1 P n tr g s5 → Q' (.ref g) s5) X.xe s) :
    wpAny (model X.prog X.w) X.A (eval (.GeneratorExp elt [⟨.Name x px, iter, [], 0⟩] scope gpos) X.env) Q' X.xe s := by
  have dp := hr.dp
  refine wpAny_GeneratorExp_walksQ hr.hd S.co (closure_ok S.free) S.cell S.dot S.loc S.kind (by omega) (thn h ?_) hs
  intro u s1 ⟨H1, n, Pw, tr, I1, ⟨ps, hP, hps⟩, ⟨more, hmore, hit⟩, hel, hQ⟩
  refine hit _ fun ob St W st0 => ?_
  -- the table, in the heap before and behind the iterator
  have tb0 : s1.heap.get? P = some { cls := .none, data := .fields ps } := I1.hok P _ hP
  have ltP : P < s1.heap.objs.size := Heap.lt_size tb0
  have tb1 := Heap.get?_push_of_some ob tb0
  have code1 : PySem.W.CodeHd (s1.heap.push ob) c P := TB.code.keeps fun b o e => Heap.get?_push_of_some _ (I1.bk b o e)
  have lim1 := I1.nolimit.push ob
  have lt1 : cStatics < s1.heap.objs.size := let ⟨_, z, _⟩ := I1.nolimit; z.lt
  have neP : cStatics ≠ P := by
    intro e
    obtain ⟨_, ⟨o', es, ep, ho, hd, _⟩, _⟩ := I1.nolimit
    rw [e, tb0] at ho
    cases ho
    cases hd
  have sz1 : (s1.heap.push ob).objs.size = s1.heap.objs.size + 1 := Heap.size_push ..
  have up3 : ∀ h3 : Heap, (s1.heap.push ob).objs.size ≤ h3.objs.size → s1.heap.objs.size < h3.objs.size := fun h3 l => by
    rw [sz1] at l
    exact l
  refine ⟨lim1, ?_⟩
  have rest : ∀ (code : Value) (h3 : Heap) (tk : Nat) (ps3 : Array Value), Heap.ExtBut P (s1.heap.push ob) h3 → (s1.heap.push ob).objs.size ≤ h3.objs.size → h3.get? P = some { cls := .none, data := .fields ps3 } →
      (∃ q, ps3 = ps ++ q) → TriplesOk ps3.toList →
      wpAny (model X.prog X.w) X.A (builtinsFor X.env.globals X.env.builtins) (fun bi s4 =>
        ∃ Ia fp wr n0 Pf St0 pz F, Value.ref s1.heap.objs.size = .ref Ia ∧ (∀ A' : Around, A'.handled = none → Walks X.prog X.w A' Ia fp wr n0 Pf St0) ∧ St0 0 s4.heap ∧ (∀ b ∈ fp, b < s4.heap.objs.size) ∧ s4.heap.NoLimit ∧ cStatics ∉ wr ∧
          (∀ hf : Heap, (∀ b o, s4.heap.get? b = some o → hf.get? b = some o) →
            QuietGen X.prog X.w (genEnv scope (cloFrom X.env.cells scope.names []) s4.heap.objs.size code bi X.env) x [] elt (List.range s4.heap.objs.size) wr Pf pz F hf) ∧
          (∀ a h5 tk gs, gs.bare = true → s4.heap.objs.size < a → h5.objs.size = a + 1 → (∀ b o, s4.heap.get? b = some o → h5.get? b = some o) →
            WalksS X.prog X.w X.A.in4 a (a :: s4.heap.objs.size :: List.range s4.heap.objs.size) (s4.heap.objs.size :: wr) (GenOnlyQ s4.gens.size) (passing pz n0 0).length
              (fun j y => ∃ i, (passing pz n0 0)[j]? = some i ∧ F i y) (GenAt X.prog X.w X.A.in4 a s4.gens.size s4.heap.objs.size (List.range s4.heap.objs.size) wr pz n0 F) →
            GenAt X.prog X.w X.A.in4 a s4.gens.size s4.heap.objs.size (List.range s4.heap.objs.size) wr pz n0 F 0 { s4 with gens := s4.gens.push gs, toks := tk, heap := h5 } →
              Q' (.ref a) { s4 with gens := s4.gens.push gs, toks := tk, heap := h5 })) X.xe { s1 with heap := h3, toks := tk } := by
    intro code h3 tk ps3 ext le3 tb3 hq ok3
    obtain ⟨bm, om, m1, m2, m3, m4, m5, m6, m7, m8⟩ := TB.bm
    have k3 : ∀ b o, b ≠ P → s1.heap.get? b = some o → h3.get? b = some o := fun b o ne e => ext b o ne (Heap.get?_push_of_some _ e)
    refine wpAny_builtinsFor (m := X.mg) ?_ m1 m2 (k3 _ _ m4 (I1.bk _ _ m5)) m6 m7 m8 ?_
    · rw [I1.ok.glob]
      exact ((I1.mod.glob.keeps I1.bk).push ob).extBut ext TB.gP
    refine ⟨s1.heap.objs.size, s1.heap.objs.size :: more, [s1.heap.objs.size], n, Pw, St, fun _ => true, fun i y => y = .bool (tr i), rfl, W, ?_, ?_, lim1.extBut ext neP, ?_, ?_, ?_⟩
    · refine (W X.A hr.hd).frame _ _ _ st0 fun b hb o e => ext b o ?_ e
      intro z
      rcases List.mem_cons.mp hb with q | q
      · rw [z] at q
        rw [q] at ltP
        exact Nat.lt_irrefl _ ltP
      · exact (hmore b q).2 z
    · intro b hb
      show b < h3.objs.size
      rcases List.mem_cons.mp hb with q | q
      · rw [q]
        exact up3 h3 le3
      · exact Nat.lt_trans (hmore b q).1 (up3 h3 le3)
    · intro z
      rcases List.mem_cons.mp z with q | q
      · rw [q] at lt1
        exact Nat.lt_irrefl _ lt1
      · cases q
    · intro hf hk
      constructor
      · intro A' E' i v s2 mm hA hv hn hm hkk
        rw [List.forIn_nil]
        exact wpAny_pure ⟨rfl, keeps_refl _⟩
      · intro A' E' i v s2 mm hA hv _ hn hm hkk
        refine hel _ A' E' i v s2 mm hA rfl rfl hv hn hm fun b o ne e => ?_
        have e3 := k3 b o ne e
        have l1 := Heap.lt_size e
        refine hkk b (List.mem_range.mpr (Heap.lt_size e3)) ?_ o (hk b o e3)
        intro z
        rcases List.mem_cons.mp z with q | q
        · rw [q] at l1
          exact Nat.lt_irrefl _ l1
        · cases q
    · intro g h5 tk5 gs bare5 gt5 sz5 k5 W5 at5
      simp only [GxR.passing_true, List.length_range] at W5
      refine hQ g _ ⟨_, _, _, _, _, W5.in4_1, at5, ?_, fun s' mv => ?_⟩
      · intro j y sj Qj Ej ⟨i, hij, ey⟩ hQj
        obtain ⟨lj, ej⟩ := List.getElem?_eq_some_iff.mp hij
        rw [List.getElem_range] at ej
        rw [ey, ← ej]
        exact wpAny_truthy_bool hQj
      · obtain ⟨q, eq3⟩ := hq
        have out : ∀ b o, s1.heap.get? b = some o → b ∉ h3.objs.size :: [s1.heap.objs.size] := by
          intro b o e hb
          have l1 := Heap.lt_size e
          rcases List.mem_cons.mp hb with z | z
          · rw [z] at l1
            have l2 : h3.objs.size < s1.heap.objs.size := l1
            omega
          · rcases List.mem_cons.mp z with z | z
            · rw [z] at l1
              exact Nat.lt_irrefl _ l1
            · cases z
        have tb' : s'.heap.get? P = some { cls := .none, data := .fields (ps ++ q) } := by
          rw [← eq3]
          exact mv.heap P _ (out P _ tb0) (k5 P _ tb3)
        have J := inv_tab (g' := s'.gens) (d' := s'.drawn) (t' := s'.toks) I1 hP (fun b o ne e => mv.heap b o (out b o e) (k5 b o (k3 b o ne e))) tb' (AllBare.movedS (I1.bare.push bare5) mv)
        rw [sh_eta s1 s' mv.os] at J
        exact ⟨upd H1 P (.tbl (ps ++ q)), ⟨⟨ps ++ q, upd_same, by rw [← eq3]; exact ok3⟩, fun b ne => upd_ne ne⟩, J⟩
  cases hc : codeAmong gpos ps.toList with
  | some cv =>
    exact wpAny_genexprCode_hit hcode (code1.code tb1 hps) hc (rest cv _ s1.toks ps (Heap.ExtBut.refl _ _) (Nat.le_refl _) tb1 ⟨#[], (Array.append_empty).symm⟩ hps)
  | none =>
    refine wpAny_genexprCodeX hcode (code1.code tb1 hps) (code1.tab tb1) hc ?_
    intro c' h' tk ext ge lt isC _ tab' _
    obtain ⟨o1, v1, f1, f2, f3, f4, f5, f6, f7, f8, _, _, _, _, _, _, _, _, _, okT, _⟩ := isC
    exact rest _ h' tk _ ext (Nat.le_trans ge (Nat.le_of_lt lt)) tab'.2 ⟨_, rfl⟩ okT

/-- all of it -/
theorem all_run {c P : Addr} {elt iter : Expr} {x : Str} {px p pos gpos : Pos} {scope : Scope} {k : Nat} {Q : V → Hp → Prop}
    (hr : Room k X.A) (hg : Gl X "all") (hm : X.mg "all" = none) (TB : TabB X.base X.mg c P) (hcode : X.env.code = .ref c) (S : GenS X.env scope x) (hs : ∀ v, genFold iter X.env v = pure v) (I : Inv X pins σ H s)
    (h : wpAny (model X.prog X.w) X.A (eval iter X.env) (fun u s1 => ∃ (H1 : Hp) (n : Nat) (Pw : Nat → Value → Prop) (tr : Nat → Bool), Inv X pins σ H1 s1 ∧ TabG H1 P ∧ SrcOk X P u s1 n Pw ∧ EltOk X P scope x elt s1 Pw tr ∧
      ∀ H2, Tabbed P H1 H2 → Q (.bl ((List.range n).all tr)) H2) X.xe s)
    (he : starEach [.GeneratorExp elt [⟨.Name x px, iter, [], 0⟩] scope gpos] X.env = (false, eval (.GeneratorExp elt [⟨.Name x px, iter, [], 0⟩] scope gpos) X.env) :: starEach [] X.env := by rfl) :
    wpAny (model X.prog X.w) X.A (eval (.Call (.Name "all" p) [.GeneratorExp elt [⟨.Name x px, iter, [], 0⟩] scope gpos] [] pos) X.env) (EP X pins σ Q) X.xe s := by
  refine wpAny_Call_Name_kw (ld_blt I hg hm (show bootBuiltins "all" = some (.builtin "all") by decide +kernel) ?_)
  refine PyProof.Rows.callWith_builtin1 ?_ he (by rfl)
  rw [he]
  refine Calls.spliced_cons (gen_make (pins := pins) (σ := σ) hr TB hcode S hs (thn h ?_))
  intro u s1 ⟨H1, n, Pw, tr, I1, T1, src, el, q⟩
  refine ⟨H1, n, Pw, tr, I1, T1, src, el, fun g s5 mk => ?_⟩
  obtain ⟨fp, wr, G, F, St0, W, st5, tru, back⟩ := mk
  refine Calls.spliced_nil (call_all_walkS (W.self 0 _ _ _ st5 ⟨g, fp, wr, G, n, F, St0, tr, rfl, W, st5, tru, fun s' mv => ?_⟩))
  obtain ⟨H2, t2, I2⟩ := back s' mv
  exact ⟨.bl _, H2, I2, rfl, q H2 t2⟩

/-! ### all(x in y for x in text), y a captured text in the slot i -/
def tAllIn (P : Addr) (i : Nat) (te : TE) : TE := fun σ H Q => te σ H fun v H1 => ∃ a z : Str, v = .str a ∧ σ[i]? = some (some (.str z)) ∧ TabG H1 P ∧
  ∀ H2, Tabbed P H1 H2 → Q (.bl (a.cps.toList.all fun c => decide (c ∈ z.cps.toList))) H2
theorem pe_allIn {c P : Addr} {iter : Expr} {x y : Str} {i : Nat} {px p pos gpos p1 p2 p3 : Pos} {scope : Scope} {te : TE} {k : Nat}
    (hr : Room k X.A) (hg : Gl X "all") (hm : X.mg "all" = none) (TB : TabB X.base X.mg c P) (hcode : X.env.code = .ref c) (S : GenS X.env scope x) (hi : PE X iter te) (hs : ∀ v, genFold iter X.env v = pure v)
    (hN : X.N[i]? = some y) (hv : X.env.kindOf y = some .cell) (hy : scope.names.lookup y = some .free) (hyc : (cloFrom X.env.cells scope.names []).lookup y = X.env.cells.lookup y)
    (he : starEach [.GeneratorExp (.Compare (.Name x p1) [.In] [.Name y p2] p3) [⟨.Name x px, iter, [], 0⟩] scope gpos] X.env = (false, eval (.GeneratorExp (.Compare (.Name x p1) [.In] [.Name y p2] p3) [⟨.Name x px, iter, [], 0⟩] scope gpos) X.env) :: starEach [] X.env := by rfl)
    (hd : (x == ("__debug__" : Str)) = false := by decide) (hd2 : (y == ("__debug__" : Str)) = false := by decide) (hn2 : (y == ("__classdict__" : Str)) = false := by decide) :
    PE X (.Call (.Name "all" p) [.GeneratorExp (.Compare (.Name x p1) [.In] [.Name y p2] p3) [⟨.Name x px, iter, [], 0⟩] scope gpos] [] pos) (tAllIn P i te) := by
  refine ⟨fun pins s σ H Q I h => all_run hr hg hm TB hcode S hs I (thn (hi.run pins s σ H _ I h) ?_) he⟩
  intro u s1 ⟨v, H1, I1, r1, a, z, ev, ez, T1, q⟩
  subst ev
  obtain ⟨t, rfl⟩ := r1
  obtain ⟨m, hm1, hl⟩ := I1.loc
  obtain ⟨uz, rz, lz⟩ := hl i y _ hN ez (.inr (.inl hv))
  obtain ⟨tz, rfl⟩ := rz
  have hcell : ∃ cl, X.env.cells.lookup y = some cl ∧ s1.heap.IsCell cl (some (.str z tz)) := by
    rcases lz with ⟨k1, _⟩ | ⟨_, cl, h1, h2⟩
    · rw [hv] at k1
      cases k1
    · exact ⟨cl, h1, h2⟩
  obtain ⟨cl, hc1, hc2⟩ := hcell
  refine ⟨H1, a.cps.size, SignAt a, trF (fun c => decide (c ∈ z.cps.toList)) a.cps.toList, I1, T1, ⟨[], fun b hb => (nomatch hb), fun Q hQ => wpAny_pyIter_str hQ⟩, ?_, fun H2 t2 => ?_⟩
  · intro ce A' E' j v s2 m2 _ es ec ⟨cc, tc, hcc, ev⟩ hn hmx kp
    subst ev
    refine wpAny_Compare1 ?_ (by with_unfolding_all rfl)
    refine wpAny_Name (wpAny_loadName_local (by rw [es]; exact S.kind) (by show ce.scope.names.lookup x = _; rw [es]; exact S.loc) hn hmx ?_) hd
    refine wpAny_Name (wpAny_loadName_free (c := cl) (v := .str z tz) (by rw [es]; exact S.kind) (by show ce.scope.names.lookup y = _; rw [es]; exact hy) (by rw [ec, hyc]; exact hc1) ?_ ?_ hn2) hd2
    · obtain ⟨oc, ho, hdt⟩ := hc2
      refine ⟨oc, kp cl oc ?_ ho, hdt⟩
      intro e
      obtain ⟨ps, hP, _⟩ := T1
      have tb0 : s1.heap.get? P = some { cls := .none, data := .fields ps } := I1.hok P _ hP
      rw [e, tb0] at ho
      cases ho
      cases hdt
    · refine PyProof.Rows.in_str ⟨?_, keeps_refl _⟩
      have e9 : a.cps.toList[j]? = some cc := by rw [Array.getElem?_toList]; exact hcc
      rw [PySem.StrLaws.found_one z cc, trF_some e9]
  · rw [all_signs a]
    exact q H2 t2

end
end QR
/-! more rules of my own: == and != of data without dicts, text * number -/
namespace QR
open PySem PySem.Spec PyProof.Rows L2
section
variable {X : Cx}
def rEqP (K : PySem.W.Frag) : R2 := fun x y H Q => ∃ d e, Dp K H x d ∧ Dp K H y e ∧ d.plain = true ∧ e.plain = true ∧ d.depth ≤ 60 ∧ Q (.bl (PyData.eqv d e)) H
def rNeP (K : PySem.W.Frag) : R2 := fun x y H Q => ∃ d e, Dp K H x d ∧ Dp K H y e ∧ d.plain = true ∧ e.plain = true ∧ d.depth ≤ 60 ∧ Q (.bl (!PyData.eqv d e)) H
theorem op_eqP (hu : X.A.units + 64 < cLine) : OpR X (compareOp .Eq) (rEqP X.K) := fun pins s σ H x y v u Q I rx ry ⟨d, e, hd, he, pd, pe, dd, q⟩ => by
  obtain ⟨as, r1⟩ := Dp.reads I d x v hd rx
  obtain ⟨bs, r2⟩ := Dp.reads I e y u he ry
  exact PySem.SeqAt.eq_plain r1 r2 pd pe (by omega) ⟨.bl _, H, I, rfl, q⟩
theorem op_neP (hu : X.A.units + 64 < cLine) : OpR X (compareOp .NotEq) (rNeP X.K) := fun pins s σ H x y v u Q I rx ry ⟨d, e, hd, he, pd, pe, dd, q⟩ => by
  obtain ⟨as, r1⟩ := Dp.reads I d x v hd rx
  obtain ⟨bs, r2⟩ := Dp.reads I e y u he ry
  exact PySem.SeqAt.ne_plain r1 r2 pd pe (by omega) ⟨.bl _, H, I, rfl, q⟩
theorem op_mulS : OpR X (binaryOp .Mult) (fun x y H Q => ∃ (a : Str) (n : Int), x = .str a ∧ y = .int n ∧ MulOk a n ∧ Q (.str (Txt.mul a n)) H) := fun pins s σ H x y v u Q I rx ry ⟨a, n, ex, ey, ok, q⟩ => by
  subst ex
  subst ey
  obtain ⟨t, rfl⟩ := rx
  obtain ⟨t', rfl⟩ := ry
  exact PySem.SB.mul ok fun t' k => ⟨.str _, H, I.tok _, ⟨_, rfl⟩, q⟩
end
end QR
/-! the end of a law row whose program's own defs hold generator expressions: each def of the view has an empty table at the entry -/
namespace QR
open PySem PySem.Spec PyProof.Rows L2
/-- each def of the view q has an empty table -/
def AllTabs (q : Program) (K : PySem.W.Frag) (mg : Str → Option Value) (h : Heap) : Prop :=
  ∀ (x : Str) (f : Addr), ((recsOf q).any fun e => e.name == x) = true → mg x = some (.ref f) → LamX.OwnTab K f h
theorem walk_tabs {l : PySem.W.OpenLaw} {n k : Nat} {q : Program} {loose : List Str} {XP : (Str → Option Value) → Heap → Prop} {YP : World → Heap → Prop} {d : DefRec} {K : Params → PySem.W.Frag} {CX : World → CXT} {x : Str}
    (most : l.most = some n) (line : n ≤ sizeLine) (nodef : d.params.defaults = []) (room : Room k callerA) (inK : ∀ (w : World) (h : Heap), YP w h → (K w.params).In h)
    (F : ∀ (w : World) (mg : Str → Option Value) (fa : Addr) (h : Heap), YP w h → (K w.params).In h → h.Ns mainGlobals mg → mg d.name = some (.ref fa) → AllTabs q (K w.params) mg h → LamX.LawAtS l w (K w.params) (CX w) k n x mg fa h)
    (noX : ∀ (w : World) (H : Hp) (s : Shared) (e : Value) (s' : Shared), CX w [] H s (fun _ _ _ => False) e s' → False) :
    PySem.W.WalkO q loose XP YP l.row.toRowW d [] (fun f vs => PySem.call f vs) := by
  refine Att.attach_callB most nodef ?_
  intro w s0 s1 mg mb fa o pm cd doc a vs ns G Y ho hd hcd hmg hobj hints hlen hbits hg
  have kin := inK w _ Y
  have tabs : AllTabs q (K w.params) mg s1.heap := by
    intro y f hy hf c P o1 f1 e dd ws sl i1 i2 i3 i4 i5
    obtain ⟨r, hr, hr2⟩ := List.any_eq_true.mp hy
    have nm : r.name = y := beq_iff_eq.mp hr2
    obtain ⟨a2, o2, f2, c2, P2, j1, j2, j3, j4, j5, ⟨oc, vc, t1, _, t3, t4⟩, empty⟩ := G.T.tab r hr
    rw [nm, hf] at j1
    cases j1
    have at1 := kin _ _ i1
    rw [at1] at j2
    cases j2
    rw [i2] at j3
    cases j3
    rw [i3] at j4
    cases j4
    have at2 := kin _ _ i4
    rw [at2] at t1
    cases t1
    cases t3
    rw [i5] at t4
    cases t4
    exact empty
  obtain ⟨fd, cs, sp, hT, nT, C, hb, hsp, hF⟩ := F w mg fa _ Y kin G.T.g hmg tabs
  refine LamX.law_callTs kin G.T.g G.T.b G.T.builtins G.T.nolimit hg hT nT C G.T.bmain hobj hints (Nat.le_trans hlen line) room hF hb (fun H hH hS => ?_) (fun H e s' z => noX w H s1 e s' z)
  exact hsp H a ns hlen hbits hH hS
end QR
/-! the mathematics of records: no program here -/
namespace K85
open PySem L2 TL
abbrev Sg (l : List Nat) : Str := ⟨l.toArray⟩

/-! ### numbers in digits -/
theorem val_snoc (l : List Nat) (c : Nat) : NumText.digitsVal (l ++ [c]) = NumText.digitsVal l * 10 + (c - 48) := by
  unfold NumText.digitsVal
  rw [List.foldl_append]
  rfl
theorem num_head {n : Nat} (h : 0 < n) : ∃ c r, numL n = c :: r ∧ c ≠ 48 := by
  induction n using Nat.strongRecOn with
  | _ n ih =>
    by_cases h1 : n < 10
    · refine ⟨48 + n, [], numL_lt h1, by omega⟩
    · obtain ⟨c, r, e, ne⟩ := ih (n / 10) (by omega) (by omega)
      exact ⟨c, r ++ [48 + n % 10], by rw [numL_step (by omega), e]; rfl, ne⟩
theorem num_zero : numL 0 = [48] := numL_lt (by decide)
/-- digits without leading zeros are those of their number -/
theorem num_canon : ∀ (k : Nat) (l : List Nat), l.length = k → NumText.AllDigits l → l ≠ [] → (l.head? ≠ some 48 ∨ l = [48]) → numL (NumText.digitsVal l) = l := by
  intro k
  induction k with
  | zero =>
    intro l hl _ ne _
    exact absurd (List.eq_nil_of_length_eq_zero hl) ne
  | succ k ih =>
    intro l hl hd ne hz
    obtain ⟨i, c, rfl⟩ : ∃ i c, l = i ++ [c] := ⟨l.dropLast, l.getLast ne, (List.dropLast_concat_getLast ne).symm⟩
    have hc : 48 ≤ c ∧ c ≤ 57 := hd c (List.mem_append_right _ (List.mem_singleton.mpr rfl))
    have hi : NumText.AllDigits i := fun x hx => hd x (List.mem_append_left _ hx)
    have li : i.length = k := by
      rw [List.length_append, List.length_singleton] at hl
      omega
    by_cases h0 : i = []
    · subst h0
      have e : NumText.digitsVal ([] ++ [c]) = c - 48 := by
        rw [val_snoc]
        show 0 * 10 + (c - 48) = c - 48
        omega
      rw [e, numL_lt (by omega)]
      show [48 + (c - 48)] = [c]
      rw [show 48 + (c - 48) = c by omega]
    · have hh : (i ++ [c]).head? = i.head? := by
        cases i with
        | nil => exact absurd rfl h0
        | cons x r => rfl
      have hz2 : i.head? ≠ some 48 := by
        rcases hz with z | z
        · rw [hh] at z
          exact z
        · have := congrArg List.length z
          rw [List.length_append, List.length_singleton, List.length_singleton] at this
          have : i.length = 0 := by omega
          exact absurd (List.eq_nil_of_length_eq_zero this) h0
      have e1 := ih i li hi h0 (.inl hz2)
      have hp : 0 < NumText.digitsVal i := by
        rcases Nat.eq_zero_or_pos (NumText.digitsVal i) with z | z
        · rw [z, num_zero] at e1
          rw [← e1] at hz2
          exact absurd rfl hz2
        · exact z
      rw [val_snoc, numL_step (by omega)]
      have d1 : (NumText.digitsVal i * 10 + (c - 48)) / 10 = NumText.digitsVal i := by omega
      have d2 : (NumText.digitsVal i * 10 + (c - 48)) % 10 = c - 48 := by omega
      rw [d1, d2, e1, show 48 + (c - 48) = c by omega]
theorem num_len_mono : ∀ (m n : Nat), n ≤ m → (numL n).length ≤ (numL m).length := by
  intro m
  induction m using Nat.strongRecOn with
  | _ m ih =>
    intro n h
    by_cases h1 : n < 10
    · rw [numL_lt h1]
      exact List.length_pos_iff.mpr (numL_ne m)
    · rw [numL_step (n := n) (by omega), numL_step (n := m) (by omega), List.length_append, List.length_append]
      have := ih (m / 10) (by omega) (n / 10) (by omega)
      show _ + 1 ≤ _ + 1
      omega

instance (l : List Nat) : Decidable (NumText.AllDigits l) := inferInstanceAs (Decidable (∀ c ∈ l, 48 ≤ c ∧ c ≤ 57))
def readNum (l : List Nat) (m : Nat) : Option Nat :=
  if l.length = 0 ∨ (numL m).length < l.length ∨ ¬ NumText.AllDigits l then none
  else if l.head? = some 48 ∧ l ≠ [48] then none
  else if NumText.digitsVal l ≤ m then some (NumText.digitsVal l) else none
theorem readNum_some {l : List Nat} {m n : Nat} (h : readNum l m = some n) : l = numL n ∧ n ≤ m := by
  unfold readNum at h
  split at h
  · cases h
  · rename_i h1
    split at h
    · cases h
    · rename_i h2
      split at h
      · rename_i h3
        cases h
        refine ⟨(num_canon _ l rfl (Decidable.byContradiction fun z => h1 (.inr (.inr z))) (fun z => h1 (.inl (by rw [z]; rfl))) ?_).symm, h3⟩
        by_cases z : l.head? = some 48
        · exact .inr (Decidable.byContradiction fun y => h2 ⟨z, y⟩)
        · exact .inl z
      · cases h
theorem readNum_num {m n : Nat} (h : n ≤ m) : readNum (numL n) m = some n := by
  unfold readNum
  have l0 : (numL n).length ≠ 0 := fun z => numL_ne n (List.eq_nil_of_length_eq_zero z)
  have l1 := num_len_mono m n h
  rw [if_neg (by
    rintro (z | z | z)
    · exact l0 z
    · omega
    · exact z (numL_digits n)), if_neg (by
    rintro ⟨z1, z2⟩
    rcases Nat.eq_zero_or_pos n with q | q
    · rw [q, num_zero] at z2
      exact z2 rfl
    · obtain ⟨c, r, e, ne⟩ := num_head q
      rw [e] at z1
      exact ne (Option.some.inj z1)), numL_val, if_pos h]

/-! ### records -/
def chkL (l : List Nat) : Nat := l.foldl (fun a c => (a * 257 + c + 1) % 4294967291) 7
theorem chk_lt (l : List Nat) : chkL l < 4294967291 := by
  unfold chkL
  rcases List.eq_nil_or_concat l with rfl | ⟨i, c, rfl⟩
  · decide
  · rw [List.concat_eq_append, List.foldl_append]
    exact Nat.mod_lt _ (by decide)
def bodyL (k : Nat) (t : List Nat) : List Nat := numL k ++ (32 :: (numL t.length ++ (58 :: t)))
def recL (k : Nat) (t : List Nat) : List Nat := bodyL k t ++ (58 :: (numL (chkL (bodyL k t)) ++ [59]))

/-- what stands in front of the first c, and behind it -/
def brk (c : Nat) : List Nat → Option (List Nat × List Nat)
  | [] => none
  | x :: r => if x = c then some ([], r) else (brk c r).map fun p => (x :: p.1, p.2)
theorem brk_app {c : Nat} : ∀ {p r : List Nat}, c ∉ p → brk c (p ++ c :: r) = some (p, r)
  | [], r, _ => by
    show (if c = c then _ else _) = _
    rw [if_pos rfl]
  | x :: p, r, h => by
    have h1 : x ≠ c := fun z => h (z ▸ List.mem_cons_self)
    show (if x = c then _ else (brk c (p ++ c :: r)).map _) = _
    rw [if_neg h1, brk_app fun z => h (List.mem_cons_of_mem _ z)]
    rfl
theorem brk_some {c : Nat} : ∀ {l p r : List Nat}, brk c l = some (p, r) → l = p ++ c :: r ∧ c ∉ p
  | x :: l, p, r, h => by
    have h' : (if x = c then some ([], l) else (brk c l).map fun p => (x :: p.1, p.2)) = some (p, r) := h
    by_cases e : x = c
    · rw [if_pos e] at h'
      cases h'
      exact ⟨by rw [e]; rfl, fun z => nomatch z⟩
    · rw [if_neg e] at h'
      cases q : brk c l with
      | none =>
        rw [q] at h'
        cases h'
      | some y =>
        rw [q] at h'
        have h2 : (x :: y.1, y.2) = (p, r) := Option.some.inj h'
        cases h2
        obtain ⟨e1, e2⟩ := brk_some (l := l) (p := y.1) (r := y.2) q
        refine ⟨by rw [List.cons_append, ← e1], fun z => ?_⟩
        rcases List.mem_cons.mp z with z | z
        · exact e z.symm
        · exact e2 z
theorem brk_none {c : Nat} : ∀ {l : List Nat}, brk c l = none → c ∉ l
  | [], _ => fun z => nomatch z
  | x :: l, h => by
    have h' : (if x = c then some ([], l) else (brk c l).map fun p => (x :: p.1, p.2)) = none := h
    by_cases e : x = c
    · rw [if_pos e] at h'
      cases h'
    · rw [if_neg e] at h'
      have h2 : brk c l = none := by
        cases q : brk c l with
        | none => rfl
        | some y =>
          rw [q] at h'
          cases h'
      intro z
      rcases List.mem_cons.mp z with z | z
      · exact e z.symm
      · exact brk_none h2 z
theorem brk_of_notin {c : Nat} {l : List Nat} (h : c ∉ l) : brk c l = none := by
  cases q : brk c l with
  | none => rfl
  | some y =>
    obtain ⟨e, _⟩ := brk_some (p := y.1) (r := y.2) q
    exact absurd (by rw [e]; exact List.mem_append_right _ List.mem_cons_self) h

/-- a record at the beginning of r, numbers of signs up to M -/
def parse (M : Nat) (r : List Nat) : Option (Nat × List Nat × List Nat) :=
  (brk 32 r).bind fun a => (brk 58 a.2).bind fun b => (readNum a.1 3).bind fun k => (if k < 1 then none else readNum b.1 M).bind fun n =>
    (brk 59 (b.2.drop n)).bind fun y =>
      if y.1.head? = some 58 ∧ readNum y.1.tail 4294967290 = some (chkL (a.1 ++ (32 :: (b.1 ++ (58 :: b.2.take n))))) then some (k, b.2.take n, y.2) else none
theorem parse_some {M : Nat} {r t r3 : List Nat} {k : Nat} (h : parse M r = some (k, t, r3)) : 1 ≤ k ∧ k ≤ 3 ∧ r = recL k t ++ r3 := by
  obtain ⟨⟨p, r1⟩, h1, h⟩ := Option.bind_eq_some_iff.mp h
  obtain ⟨⟨q, r2⟩, h2, h⟩ := Option.bind_eq_some_iff.mp h
  obtain ⟨k', h3, h⟩ := Option.bind_eq_some_iff.mp h
  obtain ⟨n, h4, h⟩ := Option.bind_eq_some_iff.mp h
  obtain ⟨⟨y, r4⟩, h5, h⟩ := Option.bind_eq_some_iff.mp h
  have h2' : brk 58 r1 = some (q, r2) := h2
  split at h4
  · cases h4
  · rename_i hk
    split at h
    · rename_i hy
      cases h
      obtain ⟨e1, _⟩ := brk_some h1
      obtain ⟨e2, _⟩ := brk_some h2'
      obtain ⟨e3, k3⟩ := readNum_some h3
      obtain ⟨e4, n4⟩ := readNum_some h4
      obtain ⟨e5, _⟩ := brk_some h5
      obtain ⟨y1, y2⟩ := hy
      obtain ⟨e6, _⟩ := readNum_some y2
      have ey : y = 58 :: y.tail := by
        cases y with
        | nil => cases y1
        | cons a b =>
          have : a = 58 := Option.some.inj y1
          rw [this]
          rfl
      have ln : (r2.take n).length = n := by
        have := congrArg List.length e5
        rw [List.length_drop, List.length_append] at this
        rw [List.length_take]
        have : r2.length - n ≥ 1 := by
          rw [this]
          show _ + (_ + 1) ≥ 1
          omega
        omega
      refine ⟨by omega, k3, ?_⟩
      have eb : bodyL k (r2.take n) = p ++ (32 :: (q ++ (58 :: r2.take n))) := by
        unfold bodyL
        rw [ln, ← e3, ← e4]
      unfold recL
      rw [eb, ← e6, e1, e2]
      have e7 : r2 = r2.take n ++ (58 :: y.tail ++ 59 :: r4) := by
        rw [← ey, ← e5, List.take_append_drop]
      conv => lhs; rw [e7]
      simp only [List.append_assoc, List.cons_append, List.nil_append]
    · cases h
theorem parse_rec {M k : Nat} {t r3 : List Nat} (h1 : 1 ≤ k) (h3 : k ≤ 3) (ht : t.length ≤ M) : parse M (recL k t ++ r3) = some (k, t, r3) := by
  have e1 : recL k t ++ r3 = numL k ++ 32 :: (numL t.length ++ 58 :: (t ++ (58 :: (numL (chkL (bodyL k t)) ++ 59 :: r3)))) := by
    unfold recL
    conv => lhs; rw [show bodyL k t ++ 58 :: (numL (chkL (bodyL k t)) ++ [59]) ++ r3 = bodyL k t ++ (58 :: (numL (chkL (bodyL k t)) ++ 59 :: r3)) by simp only [List.append_assoc, List.cons_append, List.nil_append]]
    conv => lhs; arg 1; unfold bodyL
    simp only [List.append_assoc, List.cons_append, List.nil_append]
  unfold parse
  rw [e1, brk_app (numL_free (by omega))]
  show (brk 58 _).bind _ = _
  rw [brk_app (numL_free (by omega))]
  show (readNum (numL k) 3).bind _ = _
  rw [readNum_num h3]
  show (if k < 1 then none else readNum (numL t.length) M).bind _ = _
  rw [if_neg (by omega), readNum_num ht]
  show (brk 59 (List.drop t.length (t ++ _))).bind _ = _
  rw [List.drop_left]
  have e2 : brk 59 (58 :: (numL (chkL (bodyL k t)) ++ 59 :: r3)) = some (58 :: numL (chkL (bodyL k t)), r3) := by
    have := brk_app (c := 59) (p := 58 :: numL (chkL (bodyL k t))) (r := r3) (fun z => by
      rcases List.mem_cons.mp z with z | z
      · exact absurd z (by decide)
      · exact numL_free (by omega) z)
    exact this
  rw [e2]
  have e3 : ∀ z : List Nat, List.take t.length (t ++ z) = t := fun z => List.take_left
  have lt := chk_lt (bodyL k t)
  refine (if_pos ⟨rfl, ?g1⟩).trans ?g2
  case g1 =>
    show readNum (numL (chkL (bodyL k t))) 4294967290 = some (chkL (numL k ++ (32 :: (numL t.length ++ (58 :: List.take t.length (t ++ _))))))
    rw [e3, readNum_num (by omega)]
    rfl
  case g2 =>
    show some (k, List.take t.length (t ++ _), r3) = _
    rw [e3]
theorem recL_len (k : Nat) (t : List Nat) : t.length + 7 ≤ (recL k t).length := by
  have a := List.length_pos_iff.mpr (numL_ne k)
  have b := List.length_pos_iff.mpr (numL_ne t.length)
  have c := List.length_pos_iff.mpr (numL_ne (chkL (bodyL k t)))
  unfold recL
  rw [List.length_append, List.length_cons, List.length_append, List.length_singleton]
  have : (bodyL k t).length = (numL k).length + ((numL t.length).length + (t.length + 1) + 1) := by
    unfold bodyL
    rw [List.length_append, List.length_cons, List.length_append, List.length_cons]
  omega

/-! ### all records at the beginning -/
def recs (M : Nat) : Nat → List Nat → List (Nat × List Nat) × List Nat
  | 0, r => ([], r)
  | f + 1, r => match parse M r with
    | none => ([], r)
    | some (k, t, r3) => ((k, t) :: (recs M f r3).1, (recs M f r3).2)
end K85
namespace K85
open PySem PySem.Spec PyProof.Rows L2 QR
open GxR (TabB TabG Tabbed GenS)
/-! ### the text -/
def topS (i : Nat) : Stmt := PySem.Challenge.pw_quiltward_k85_tapes_behind_many_compacti.main.body.getD i (.Pass ⟨0, 0, 0, 0⟩)
abbrev sWord : Stmt := topS 5
abbrev sNum : Stmt := topS 6
abbrev sChk : Stmt := topS 15
abbrev sRec : Stmt := topS 16
theorem scWord : FnScope ["text", "signs", "most"] ["text", "signs", "most"] (defScope sWord) := ⟨rfl, rfl, rfl, by decide +kernel, rfl, by decide +kernel, by decide +kernel⟩
theorem scNum : FnScope ["text", "most", "number"] ["text", "most"] (defScope sNum) := ⟨rfl, rfl, rfl, by decide +kernel, rfl, by decide +kernel, by decide +kernel⟩
theorem scChk : FnScope ["text", "number", "sign"] ["text"] (defScope sChk) := ⟨rfl, rfl, rfl, by decide +kernel, rfl, by decide +kernel, by decide +kernel⟩
theorem scRec : FnScope ["kind", "text", "body"] ["kind", "text"] (defScope sRec) := ⟨rfl, rfl, rfl, by decide +kernel, rfl, by decide +kernel, by decide +kernel⟩

/-! ### what the defs compute -/
def wordB (t z : Str) (m : Int) : Bool := decide ((1 : Int) ≤ (t.length : Int)) && (decide ((t.length : Int) ≤ m) && t.cps.toList.all fun c => decide (c ∈ z.cps.toList))
theorem tabbed_refl {P : Addr} {H : Hp} (h : TabG H P) : Tabbed P H H := ⟨h, fun _ _ => rfl⟩
theorem tabbed_trans {P : Addr} {H H1 H2 : Hp} (a : Tabbed P H H1) (b : Tabbed P H1 H2) : Tabbed P H H2 := ⟨b.1, fun x ne => (b.2 x ne).trans (a.2 x ne)⟩

section
variable {P : Program} {w : World} {K : PySem.W.Frag} {mg : Str → Option Value} {base : Heap}
/-! ### is_word -/
def spWord (T : Addr) : Sp := fun vs H Q _ => ∃ (t z : Str) (m : Int), vs = [.str t, .str z, .int m] ∧ t.length ≤ sizeLine ∧ TabG H T ∧ ∀ H', Tabbed T H H' → Q (.bl (wordB t z m)) H'
theorem ok_word {c T f : Addr} {oc kV doc pm ct : Value} {od an : Option Addr} {osl : Array (Option Value)} (lk : K.lookup f = some ⟨oc, od, .func (PySem.W.fnOf "is_word" "is_word" (defArgs sWord) (defBody sWord) (defScope sWord) .none kV doc pm an (.ref c) ct), osl⟩)
    (hcd : PySem.W.codeIn K (.ref c) "is_word" = true) (TB : TabB base mg c T) (ml : mg "len" = none) (ma : mg "all" = none) :
    FnOk P w K mg base CX0 1 f (PySem.W.fnOf "is_word" "is_word" (defArgs sWord) (defBody sWord) (defScope sWord) .none kV doc pm an (.ref c) ct) ["text", "signs", "most"] (spWord T) := by
  refine fn_of lk hcd scWord (fun vs H Q E h => ?_) fun A outer s H vs Q E hr h => ?_
  · obtain ⟨t, z, m, rfl, _⟩ := h
    rfl
  · obtain ⟨t, z, m, rfl, hl, hT, q⟩ := h
    refine ⟨_, pss_one (ps_ret (pe_and (pe_chain op_le op_le pe_int (pe_callB call_len_str (by rfl) ml PySem.boot_len (pa_cons (pv 0) pa_nil)) (pv 2))
      (pe_one (pe_allIn (i := 1) hr (by rfl) ma TB rfl ⟨rfl, rfl, by decide +kernel, by decide +kernel, by decide +kernel, ?fr⟩ (pv 0) (fun _ => rfl) rfl rfl rfl ?cl)))), ?_⟩
    case fr =>
      intro y hy e
      rcases List.mem_cons.mp hy with rfl | hy
      · cases e
      rcases List.mem_cons.mp hy with rfl | hy
      · cases e
      rcases List.mem_cons.mp hy with rfl | hy
      · exact ⟨_, rfl⟩
      · cases hy
    case cl => rfl
    refine ⟨_, rfl, t, rfl, hl, 1, (t.length : Int), rfl, rfl, _, rfl, ?_⟩
    refine ite2 (fun h1 => ?_) (fun h1 => ?_)
    · refine ⟨_, rfl, _, m, rfl, rfl, _, rfl, ite2 (fun h2 => ?_) (fun h2 => ?_)⟩
      · refine ⟨_, rfl, t, z, rfl, rfl, hT, fun H2 t2 => ?_⟩
        have e : wordB t z m = t.cps.toList.all fun c => decide (c ∈ z.cps.toList) := by
          unfold wordB
          rw [h1, h2, Bool.true_and, Bool.true_and]
        rw [← e]
        exact q H2 t2
      · have e : wordB t z m = false := by
          unfold wordB
          rw [Bool.eq_false_iff.mpr h2, Bool.false_and, Bool.and_false]
        have z0 := q H (tabbed_refl hT)
        rw [e] at z0
        exact z0
    · have e : wordB t z m = false := by
        unfold wordB
        rw [Bool.eq_false_iff.mpr h1, Bool.false_and]
      have z0 := q H (tabbed_refl hT)
      rw [e] at z0
      exact ⟨_, rfl, iteF z0⟩
end
end K85
namespace K85
open PySem PySem.Spec PyProof.Rows L2 QR TL
open GxR (TabB TabG Tabbed GenS)
/-! ### what the defs compute, over texts -/
def digitsS : Str := "0123456789"
theorem digits_tl : tl digitsS = [48, 49, 50, 51, 52, 53, 54, 55, 56, 57] := by decide +kernel
theorem digit_mem (c : Nat) : c ∈ tl digitsS ↔ (48 ≤ c ∧ c ≤ 57) := by
  rw [digits_tl]
  constructor
  · intro h
    simp only [List.mem_cons, List.not_mem_nil, or_false] at h
    omega
  · intro h
    simp only [List.mem_cons, List.not_mem_nil, or_false]
    omega
def optV : Option Nat → V
  | none => .non
  | some n => .int (n : Int)
theorem word_digits (t : Str) (m : Nat) : wordB t digitsS ((numL m).length : Nat) = true ↔ ¬ ((tl t).length = 0 ∨ (numL m).length < (tl t).length ∨ ¬ NumText.AllDigits (tl t)) := by
  unfold wordB
  rw [Bool.and_eq_true, Bool.and_eq_true, decide_eq_true_eq, decide_eq_true_eq, List.all_eq_true, len_tl]
  constructor
  · rintro ⟨h1, h2, h3⟩ z
    rcases z with z | z | z
    · omega
    · omega
    · exact z fun c hc => (digit_mem c).mp (of_decide_eq_true (h3 c hc))
  · intro h
    refine ⟨?_, ?_, fun c hc => decide_eq_true ((digit_mem c).mpr ?_)⟩
    · have : (tl t).length ≠ 0 := fun z => h (.inl z)
      omega
    · have : ¬ (numL m).length < (tl t).length := fun z => h (.inr (.inl z))
      omega
    · exact (Decidable.byContradiction fun z => h (.inr (.inr z)) : NumText.AllDigits (tl t)) c hc
theorem log2_small {i : Int} {n : Nat} (h : i.natAbs < 2 ^ n) (hn : 0 < n) (h2 : n ≤ 1920) : i.natAbs.log2 < 1920 := Nat.lt_of_lt_of_le (PySem.Flt.log2_lt_of hn h) h2

section
variable {P : Program} {w : World} {K : PySem.W.Frag} {mg : Str → Option Value} {base : Heap}
/-! ### read_number -/
def spNum (T : Addr) : Sp := fun vs H Q _ => ∃ (t : Str) (m : Nat), vs = [.str t, .int (m : Int)] ∧ t.length ≤ sizeLine ∧ m < 10 ^ 18 ∧ TabG H T ∧ ∀ H', Tabbed T H H' → Q (optV (readNum (tl t) m)) H'
theorem ok_num {T f fW : Addr} {fd fdW : FuncData} {td : Tok} (F : Fun K "read_number" "read_number" sNum f fd) (GW : FnOk P w K mg base CX0 1 fW fdW ["text", "signs", "most"] (spWord T)) (bW : Binds K fdW ["text", "signs", "most"] [])
    (gW : mg "is_word" = some (.ref fW)) (kW : PySem.W.keepIn K (.ref fW) = true) (gD : mg "DIGITS" = some (.str digitsS td)) (ml : mg "len" = none) (ms : mg "str" = none) (mi : mg "int" = none) :
    FnOk P w K mg base CX0 2 f fd ["text", "most"] (spNum T) := by
  refine F.ok scNum (fun vs H Q E h => ?_) (fun cdv A outer s H vs Q E hr h => ?_)
  · obtain ⟨t, m, rfl, _⟩ := h
    rfl
  · obtain ⟨t, m, rfl, hl, hm, hT, q⟩ := h
    refine ⟨_, pss_cons (ps_if (pt_not (pt_val (pe_call GW hr (by rfl) gW kW bW .nil pass0 (pa_cons (pv 0) (pa_cons (pe_glob (v := V.str digitsS) (by rfl) gD ⟨_, rfl⟩)
        (pa_cons (pe_callB call_len_str (by rfl) ml PySem.boot_len (pa_cons (pe_callTy call_str_int (by rfl) ms (by decide +kernel) (pa_cons (pv 1) pa_nil)) pa_nil)) pa_nil)))))) (pss_one (ps_ret pe_non)) pss_nil)
      (pss_cons (ps_if (PW.pt (pw_and (pt_cmpR op_eq (pe_ix ix_str (pv 0) pe_int (fun _ _ => rfl)) pe_str (nomark _)) (pw_and1 (pt_cmpR op_ne (pv 0) pe_str (nomark _))))) (pss_one (ps_ret pe_non)) pss_nil)
      (pss_cons (ps_set (i := 2) scNum.nd rfl (.inl rfl) (pe_callTy call_int_str (by rfl) mi (by decide +kernel) (pa_cons (pv 0) pa_nil)))
      (pss_one (ps_ret (pe_ifExp (pt_cmpR op_le (pv 2) (pv 1) (nomark _)) (pv 2) pe_non))))), ?_⟩
    have p18 : (10 : Nat) ^ 18 < 2 ^ 60 := by decide
    have lm : (numL m).length ≤ 18 := numL_len (by decide) hm
    have em : (Str.ofString (toString (m : Int))).length = (numL m).length := by rw [len_tl, tl_num]
    refine ⟨_, rfl, _, rfl, (m : Int), rfl, log2_small (n := 60) (by omega) (by decide) (by decide), _, rfl, ?_, t, digitsS, _, rfl, hl, hT, fun H1 t1 => ?_⟩
    · rw [sizeLine_eq, em]
      omega
    rw [em]
    refine ⟨_, rfl, ?_⟩
    have qq := q H1 t1
    have wd := word_digits t m
    cases hw : wordB t digitsS ((numL m).length : Nat) with
    | false =>
      have bad : (tl t).length = 0 ∨ (numL m).length < (tl t).length ∨ ¬ NumText.AllDigits (tl t) := Decidable.byContradiction fun z => by
        have := wd.mpr z
        rw [hw] at this
        cases this
      have e : readNum (tl t) m = none := if_pos bad
      rw [e] at qq
      exact iteT qq
    | true =>
      have good := wd.mp hw
      refine iteF ?_
      obtain ⟨c, r, et⟩ : ∃ c r, tl t = c :: r := by
        cases h0 : tl t with
        | nil => exact absurd (.inl (by rw [h0]; rfl)) good
        | cons c r => exact ⟨c, r, rfl⟩
      have len1 : (tl t).length ≤ (numL m).length := Decidable.byContradiction fun z => good (.inr (.inl (by omega)))
      have dig : NumText.AllDigits (tl t) := Decidable.byContradiction fun z => good (.inr (.inr z))
      have hd0 : (tl t).head? = some c := by
        rw [et]
        rfl
      refine ⟨_, rfl, t, 0, c, rfl, rfl, hl, ?_, rfl, _, rfl, ?_⟩
      · show atI (tl t) ((0 : Nat) : Int) = some c
        rw [et]
        exact atI_nat rfl
      have sg : ∀ a : Nat, (V.str ⟨#[a]⟩ = V.str (Str.ofString "0")) ↔ a = 48 := fun a => by
        constructor
        · intro e
          have e2 : (⟨#[a]⟩ : Str) = Str.ofString "0" := V.str.inj e
          have e3 := congrArg tl e2
          rw [show tl (Str.ofString "0") = [48] by decide +kernel] at e3
          exact List.cons.inj e3 |>.1
        · intro e
          rw [e, show Str.ofString "0" = ⟨#[48]⟩ by decide +kernel]
      have sz : (V.str t = V.str (Str.ofString "0")) ↔ tl t = [48] := by
        constructor
        · intro e
          rw [V.str.inj e]
          decide +kernel
        · intro e
          exact congrArg V.str (ext_tl (e.trans (by decide +kernel)))
      have val := PySem.intText_digits (x := t) dig (by rw [show t.cps.toList = c :: r from et]; simp) (by rw [len_tl]; omega)
      by_cases hz : c = 48 ∧ tl t ≠ [48]
      · have e : readNum (tl t) m = none := (if_neg good).trans (if_pos ⟨by rw [hd0, hz.1], hz.2⟩)
        rw [e] at qq
        rw [decide_eq_true ((sg c).mpr hz.1)]
        refine iteT ⟨_, rfl, rfl, _, rfl, ?_⟩
        rw [decide_eq_false fun y => hz.2 (sz.mp y)]
        exact iteT qq
      · have e : readNum (tl t) m = if NumText.digitsVal (tl t) ≤ m then some (NumText.digitsVal (tl t)) else none := (if_neg good).trans (if_neg fun y => hz ⟨by
          have := y.1
          rw [hd0] at this
          exact Option.some.inj this, y.2⟩)
        rw [e] at qq
        by_cases h48 : c = 48
        · have h1 : tl t = [48] := Decidable.byContradiction fun y => hz ⟨h48, y⟩
          rw [decide_eq_true ((sg c).mpr h48)]
          refine iteT ⟨_, rfl, rfl, _, rfl, ?_⟩
          rw [decide_eq_true (sz.mpr h1)]
          refine iteF ?_
          refine ⟨_, rfl, t, _, rfl, val, by rw [len_tl]; omega, ?_⟩
          refine ⟨_, rfl, _, rfl, _, _, rfl, rfl, _, rfl, ite2 (fun y => ?_) (fun y => ?_)⟩
          · have y1 : ((NumText.digitsVal (tl t) : Nat) : Int) ≤ (m : Int) := of_decide_eq_true y
            rw [if_pos (by omega)] at qq
            exact ⟨_, rfl, qq⟩
          · have y1 : ¬ ((NumText.digitsVal (tl t) : Nat) : Int) ≤ (m : Int) := fun z => y (decide_eq_true z)
            rw [if_neg (by omega)] at qq
            exact qq
        · rw [decide_eq_false fun y => h48 ((sg c).mp y)]
          refine iteF (iteF ?_)
          refine ⟨_, rfl, t, _, rfl, val, by rw [len_tl]; omega, ?_⟩
          refine ⟨_, rfl, _, rfl, _, _, rfl, rfl, _, rfl, ite2 (fun y => ?_) (fun y => ?_)⟩
          · have y1 : ((NumText.digitsVal (tl t) : Nat) : Int) ≤ (m : Int) := of_decide_eq_true y
            rw [if_pos (by omega)] at qq
            exact ⟨_, rfl, qq⟩
          · have y1 : ¬ ((NumText.digitsVal (tl t) : Nat) : Int) ≤ (m : Int) := fun z => y (decide_eq_true z)
            rw [if_neg (by omega)] at qq
            exact qq
end
end K85
namespace K85
open PySem PySem.Spec PyProof.Rows L2 QR TL
open GxR (TabB TabG Tabbed GenS)
theorem chk_snoc (l : List Nat) (c : Nat) : chkL (l ++ [c]) = (chkL l * 257 + c + 1) % 4294967291 := by
  unfold chkL
  rw [List.foldl_append]
  rfl
theorem chk_take {l : List Nat} {i c : Nat} (h : l[i]? = some c) : chkL (l.take (i + 1)) = (chkL (l.take i) * 257 + c + 1) % 4294967291 := by
  rw [List.take_add_one, h, ← chk_snoc]
  rfl
section
variable {P : Program} {w : World} {K : PySem.W.Frag} {mg : Str → Option Value} {base : Heap}
/-! ### check_number -/
def spChk : Sp := fun vs H Q _ => ∃ t : Str, vs = [.str t] ∧ Q (.int ((chkL (tl t) : Nat) : Int)) H
theorem ok_chk {f : Addr} {fd : FuncData} {t1 t2 t3 : Tok} (F : Fun K "check_number" "check_number" sChk f fd) (g1 : mg "CHECK_START" = some (.int 7 t1)) (g2 : mg "CHECK_FACTOR" = some (.int 257 t2)) (g3 : mg "CHECK_MODULUS" = some (.int 4294967291 t3)) (mo : mg "ord" = none) :
    FnOk P w K mg base CX0 1 f fd ["text"] spChk := by
  refine F.ok scChk (fun vs H Q E h => ?_) (fun cdv A outer s H vs Q E hr h => ?_)
  · obtain ⟨t, rfl, _⟩ := h
    rfl
  · obtain ⟨t, rfl, q⟩ := h
    refine ⟨_, pss_cons (ps_set (i := 1) scChk.nd rfl (.inl rfl) (pe_glob (v := V.int 7) (by rfl) g1 ⟨_, rfl⟩))
      (pss_cons (ps_for PassesOwn.never rfl (pi_str (pv 0)) (pg_name (i := 2) scChk.nd rfl (.inl rfl))
        (pss_one (ps_set (i := 1) scChk.nd rfl (.inl rfl) (pe_op op_mod (pe_op op_add (pe_op op_add (pe_op op_mul (pv 1) (pe_glob (v := V.int 257) (by rfl) g2 ⟨_, rfl⟩))
          (pe_callB call_ord (by rfl) mo (by decide +kernel) (pa_cons (pv 2) pa_nil))) pe_int) (pe_glob (v := V.int 4294967291) (by rfl) g3 ⟨_, rfl⟩)))))
      (pss_one (ps_ret (pv 1)))), ?_⟩
    refine ⟨_, rfl, t, rfl, fun i m σ H' => ∃ y, σ = [some (.str t), some (.int ((chkL ((tl t).take i) : Nat) : Int)), y] ∧ i + m = t.cps.size ∧ H' = H, ⟨t.cps.size, none, rfl, by omega, rfl⟩, fun i m σ H1 hW => ?_⟩
    obtain ⟨y, rfl, em, rfl⟩ := hW
    have lt := chk_lt ((tl t).take i)
    have es : t.cps.size = (tl t).length := by simp
    by_cases hi : i < t.cps.size
    · refine .inr ⟨hi, fun σ' H' => ∃ y, σ' = [some (.str t), some (.int ((chkL ((tl t).take (i + 1)) : Nat) : Int)), y] ∧ H' = H1, fun σ' H' hN => ?_, fun v H' hy => ?_⟩
      · obtain ⟨y', e1, e2⟩ := hN
        exact ⟨m - 1, by omega, y', e1, by omega, e2⟩
      · obtain ⟨rfl, c, hc, rfl⟩ := hy
        have ec : (tl t)[i]? = some c := by
          rw [← hc]
          exact Array.getElem?_toList
        refine ⟨_, rfl, _, _, rfl, rfl, .inl ⟨by omega, by omega⟩, _, rfl, ⟨#[c]⟩, rfl, rfl, _, _, rfl, rfl, _, _, rfl, rfl, _, _, rfl, rfl, (by show (0 : Int) < 4294967291; decide), some (.str ⟨#[c]⟩), ?_, rfl⟩
        rw [chk_take ec]
        have e9 : (((chkL ((tl t).take i) : Nat) : Int) * 257 + ((c : Nat) : Int) + 1) % 4294967291 = (((chkL ((tl t).take i) * 257 + c + 1) % 4294967291 : Nat) : Int) := by omega
        rw [← e9]
        rfl
    · refine .inl ⟨by show t.cps.size ≤ i; omega, ?_⟩
      have e : (tl t).take i = tl t := List.take_of_length_le (by omega)
      rw [e]
      exact ⟨_, rfl, q⟩

/-! ### record_text -/
def spRec : Sp := fun vs H Q _ => ∃ (k : Nat) (t : Str), vs = [.int (k : Int), .str t] ∧ k < 10 ∧ t.length ≤ 1000000 ∧ Q (.str (Sg (recL k (tl t)))) H
theorem num_le_of {n k : Nat} (h : n < 10 ^ (k + 1)) : (numL n).length ≤ k + 1 := numL_len (by omega) h
theorem body_len {k : Nat} {t : List Nat} (hk : k < 10) (ht : t.length ≤ 1000000) : (bodyL k t).length ≤ 1000010 := by
  have a := num_le_of (n := k) (k := 0) (by omega)
  have b := num_le_of (n := t.length) (k := 6) (by omega)
  unfold bodyL
  rw [List.length_append, List.length_cons, List.length_append, List.length_cons]
  omega
theorem ok_rec {f fC : Addr} {fd fdC : FuncData} (F : Fun K "record_text" "record_text" sRec f fd) (GC : FnOk P w K mg base CX0 1 fC fdC ["text"] spChk) (bC : Binds K fdC ["text"] []) (gC : mg "check_number" = some (.ref fC)) (kC : PySem.W.keepIn K (.ref fC) = true) (ml : mg "len" = none) :
    FnOk P w K mg base CX0 2 f fd ["kind", "text"] spRec := by
  refine F.ok scRec (fun vs H Q E h => ?_) (fun cdv A outer s H vs Q E hr h => ?_)
  · obtain ⟨k, t, rfl, _⟩ := h
    rfl
  · obtain ⟨k, t, rfl, hk, ht, q⟩ := h
    refine ⟨_, pss_cons (ps_set (i := 2) scRec.nd rfl (.inl rfl) (pe_joined (.cons (pe_fmt (pv 0)) (.cons pe_str (.cons (pe_fmt (pe_callB call_len_str (by rfl) ml PySem.boot_len (pa_cons (pv 1) pa_nil))) (.cons pe_str (.cons (pe_fmt (pv 1)) .nil)))))))
      (pss_one (ps_ret (pe_joined (.cons (pe_fmt (pv 2)) (.cons pe_str (.cons (pe_fmt (pe_call GC hr (by rfl) gC kC bC .nil pass0 (pa_cons (pv 2) pa_nil))) (.cons pe_str .nil))))))), ?_⟩
    have lt : t.length = (tl t).length := len_tl t
    have hb := body_len (k := k) (t := tl t) hk (by omega)
    have n1 := num_le_of (n := k) (k := 0) (by omega)
    have n2 := num_le_of (n := (tl t).length) (k := 6) (by omega)
    have lc := chk_lt (bodyL k (tl t))
    have n3 := num_le_of (n := chkL (bodyL k (tl t))) (k := 9) (by omega)
    have zl : 2000000 ≤ sizeLine := by
      rw [sizeLine_eq]
      decide
    have sp : tl (Str.ofString " ") = [32] := by decide +kernel
    have co : tl (Str.ofString ":") = [58] := by decide +kernel
    have se : tl (Str.ofString ";") = [59] := by decide +kernel
    have em : tl Str.empty = [] := rfl
    have small : ∀ n : Nat, n < 2 ^ 60 → ((n : Nat) : Int).natAbs.log2 < 1920 := fun n h => log2_small (n := 60) (by omega) (by decide) (by decide)
    refine ⟨_, rfl, .inr ⟨_, rfl, small k (by omega), _, rfl, ?_, _, rfl, ?_, _, rfl, t, rfl, by omega, .inr ⟨_, rfl, small _ (by omega), _, rfl, ?_, _, rfl, ?_, _, rfl, .inl ⟨_, rfl, by omega, _, rfl, ?_, ?_⟩⟩⟩⟩
    all_goals (try (rw [len_tl]; simp only [tl_append, em, sp, co, tl_num, List.length_append, List.length_nil, List.length_singleton]; omega))
    · rw [len_tl, lt]
      simp only [tl_append, em, sp, co, tl_num, List.length_append, List.length_nil, List.length_singleton]
      omega
    · rw [len_tl, lt]
      simp only [tl_append, em, sp, co, tl_num, List.length_append, List.length_nil, List.length_singleton]
      omega
    · rw [len_tl, lt]
      simp only [tl_append, em, sp, co, tl_num, List.length_append, List.length_nil, List.length_singleton]
      omega
    · have eb : Str.empty ++ Str.ofString (toString (k : Int)) ++ Str.ofString " " ++ Str.ofString (toString (t.length : Int)) ++ Str.ofString ":" ++ t = Sg (bodyL k (tl t)) := ext_tl (by
        simp only [tl_append, em, sp, co, tl_num]
        rw [lt]
        show _ = bodyL k (tl t)
        unfold bodyL
        simp only [List.nil_append, List.append_assoc, List.cons_append])
      rw [eb]
      have tb : tl (Sg (bodyL k (tl t))) = bodyL k (tl t) := rfl
      have lb : (Sg (bodyL k (tl t))).length = (bodyL k (tl t)).length := by rw [len_tl]
      refine ⟨_, rfl, .inl ⟨_, rfl, by omega, _, rfl, ?_, _, rfl, ?_, _, rfl, Sg (bodyL k (tl t)), rfl, .inr ⟨_, rfl, small _ (by show chkL (bodyL k (tl t)) < _; omega), _, rfl, ?_, _, rfl, ?_, ?_⟩⟩⟩
      · rw [len_tl]
        simp only [tl_append, em, tb, List.nil_append]
        omega
      · rw [len_tl]
        simp only [tl_append, em, tb, co, List.nil_append, List.length_append, List.length_singleton]
        omega
      · rw [len_tl, tb]
        simp only [tl_append, em, tb, co, tl_num, List.nil_append, List.length_append, List.length_singleton]
        omega
      · rw [len_tl, tb]
        simp only [tl_append, em, tb, co, se, tl_num, List.nil_append, List.length_append, List.length_singleton]
        omega
      · have er : Str.empty ++ Sg (bodyL k (tl t)) ++ Str.ofString ":" ++ Str.ofString (toString ((chkL (tl (Sg (bodyL k (tl t)))) : Nat) : Int)) ++ Str.ofString ";" = Sg (recL k (tl t)) := ext_tl (by
          rw [tb]
          simp only [tl_append, em, tb, co, se, tl_num]
          show _ = recL k (tl t)
          unfold recL
          simp only [List.nil_append, List.append_assoc, List.cons_append])
        have qq := q
        rw [← er] at qq
        exact qq
end
end K85
namespace K85
open PySem PySem.Spec PyProof.Rows L2 QR TL
open GxR (TabB TabG Tabbed GenS)
abbrev sRR : Stmt := topS 17
theorem scRR : FnScope ["data", "at", "space", "colon", "kind", "length", "behind", "last"] ["data", "at"] (defScope sRR) := ⟨rfl, rfl, rfl, by decide +kernel, rfl, by decide +kernel, by decide +kernel⟩
/-! ### texts by lists -/
theorem from_nat (n i : Nat) : fromIndex n (i : Int) = i := by
  unfold fromIndex
  rw [if_neg (by omega)]
  omega
theorem getD_tl (d : Str) {v : Nat} (h : v < d.length) : d.cps.getD v 0 = (tl d)[v]'(by rw [← len_tl]; exact h) := by
  have h2 : v < d.cps.size := h
  simp [tl, Array.getD, h2]
theorem find_drop (d : Str) (c i : Nat) : (brk c ((tl d).drop i) = none ∧ Txt.find3 d ⟨#[c]⟩ (i : Int) = -1) ∨ ∃ p r, brk c ((tl d).drop i) = some (p, r) ∧ Txt.find3 d ⟨#[c]⟩ (i : Int) = ((i + p.length : Nat) : Int) := by
  rcases StrLaws.find3_spec d c (i : Int) with ⟨h, hn⟩ | ⟨k, h, h1, h2, h3, h4⟩
  · rw [from_nat] at hn
    refine .inl ⟨brk_of_notin fun hm => ?_, h⟩
    obtain ⟨j, hj, e⟩ := List.getElem_of_mem hm
    rw [List.getElem_drop] at e
    rw [List.length_drop, ← len_tl] at hj
    have := hn (i + j) (by omega) (by omega)
    rw [getD_tl d (by omega)] at this
    exact this e
  · rw [from_nat] at h1 h4
    have lk : k < (tl d).length := by rw [← len_tl]; exact h2
    have e3 : (tl d)[k] = c := by
      rw [← getD_tl d h2]
      exact h3
    refine .inr ⟨((tl d).drop i).take (k - i), (tl d).drop (k + 1), ?_, ?_⟩
    · have e1 : (tl d).drop i = ((tl d).drop i).take (k - i) ++ c :: (tl d).drop (k + 1) := by
        conv => lhs; rw [← List.take_append_drop (k - i) ((tl d).drop i)]
        congr 1
        rw [List.drop_drop, show i + (k - i) = k by omega, List.drop_eq_getElem_cons lk, e3]
      conv => lhs; rw [e1]
      refine brk_app fun hm => ?_
      obtain ⟨j, hj, e⟩ := List.getElem_of_mem hm
      rw [List.getElem_take, List.getElem_drop] at e
      rw [List.length_take] at hj
      have := h4 (i + j) (by omega) (by omega)
      rw [getD_tl d (by omega)] at this
      exact this e
    · rw [h]
      have : (((tl d).drop i).take (k - i)).length = k - i := by
        rw [List.length_take, List.length_drop]
        omega
      rw [this]
      omega
theorem cut_nat (d : Str) (a b : Nat) : cutS d (some (a : Int)) (some (b : Int)) = Sg (((tl d).drop a).take (b - a)) := by
  unfold cutS
  rw [HT.sIx_nat, HT.sIx_nat]
  have ld : d.length = (tl d).length := len_tl d
  refine congrArg (fun l : List Nat => (⟨l.toArray⟩ : Str)) ?_
  show List.take (min b d.length - min a d.length) (List.drop (min a d.length) (tl d)) = _
  by_cases ha : a ≤ d.length
  · rw [Nat.min_eq_left ha]
    by_cases hb : b ≤ d.length
    · rw [Nat.min_eq_left hb]
    · rw [Nat.min_eq_right (by omega), List.take_of_length_le (by rw [List.length_drop]; omega), List.take_of_length_le (by rw [List.length_drop]; omega)]
  · rw [show min a d.length = d.length by omega, List.drop_of_length_le (by omega), List.drop_of_length_le (by omega)]
    simp
/-- the part in front of a sign that was found -/
theorem drop_brk {l p r : List Nat} {c i : Nat} (h : brk c (l.drop i) = some (p, r)) : (l.drop i).take p.length = p ∧ l.drop (i + p.length + 1) = r ∧ i + p.length < l.length := by
  obtain ⟨e, _⟩ := brk_some h
  refine ⟨by rw [e, List.take_left], ?_, ?_⟩
  · have e2 : l.drop (i + p.length + 1) = (l.drop i).drop (p.length + 1) := by rw [List.drop_drop, Nat.add_assoc]
    rw [e2, e, List.drop_append]
    simp
  · have := congrArg List.length e
    rw [List.length_drop, List.length_append, List.length_cons] at this
    omega
section
variable {P : Program} {w : World} {K : PySem.W.Frag} {mg : Str → Option Value} {base : Heap}
/-! ### read_record -/
def spRR (T : Addr) : Sp := fun vs H Q _ => ∃ (d : Str) (i : Nat), vs = [.str d, .int (i : Int)] ∧ d.length ≤ sizeLine ∧ i ≤ d.length ∧ TabG H T ∧
  (parse d.length ((tl d).drop i) = none → ∀ H', Tabbed T H H' → Q .non H') ∧
  (∀ k t r3, parse d.length ((tl d).drop i) = some (k, t, r3) → ∀ H' p, Tabbed T H H' → H' p = none → Q (.ref p) (upd H' p (.tup [.int (k : Int), .str (Sg t), .int ((d.length - r3.length : Nat) : Int)])))
theorem ok_rr {T f fN fC : Addr} {fd fdN fdC : FuncData} {t1 t2 t3 : Tok} (F : Fun K "read_record" "read_record" sRR f fd)
    (GN : FnOk P w K mg base CX0 2 fN fdN ["text", "most"] (spNum T)) (bN : Binds K fdN ["text", "most"] []) (gN : mg "read_number" = some (.ref fN)) (kN : PySem.W.keepIn K (.ref fN) = true)
    (GC : FnOk P w K mg base CX0 1 fC fdC ["text"] spChk) (bC : Binds K fdC ["text"] []) (gC : mg "check_number" = some (.ref fC)) (kC : PySem.W.keepIn K (.ref fC) = true)
    (gH : mg "HEAD" = some (.int 1 t1)) (gR : mg "READY" = some (.int 3 t2)) (gM : mg "CHECK_MODULUS" = some (.int 4294967291 t3)) (ml : mg "len" = none) :
    FnOk P w K mg base CX0 3 f fd ["data", "at"] (spRR T) := by
  refine F.ok scRR (fun vs H Q E h => ?_) (fun cdv A outer s H vs Q E hr h => ?_)
  · obtain ⟨d, i, rfl, _⟩ := h
    rfl
  · obtain ⟨d, i, rfl, hl, hi, hT, qn, qs⟩ := h
    refine ⟨_, pss_cons (ps_set (i := 2) scRR.nd rfl (.inl rfl) (pe_bm PySem.F.plainAttrs_str PySem.F.slot_str_find PySem.F.type_str_find mt_find3 (pv 0) (pa_cons pe_str (pa_cons (pv 1) pa_nil))))
      (pss_cons (ps_set (i := 3) scRR.nd rfl (.inl rfl) (pe_bm PySem.F.plainAttrs_str PySem.F.slot_str_find PySem.F.type_str_find mt_find3 (pv 0) (pa_cons pe_str (pa_cons (pe_op op_add (pv 2) pe_int) pa_nil))))
      (pss_cons (ps_if (PW.pt (pw_or (pt_cmpR op_lt (pv 2) pe_int (nomark _)) (pw_or1 (pt_cmpR op_lt (pv 3) pe_int (nomark _))))) (pss_one (ps_ret pe_non)) pss_nil)
      (pss_cons (ps_set (i := 4) scRR.nd rfl (.inl rfl) (pe_call GN hr (by rfl) gN kN bN .nil pass0 (pa_cons (pe_slice sl_str (pv 0) (po_some (pv 1)) (po_some (pv 2))) (pa_cons (pe_glob (v := V.int 3) (by rfl) gR ⟨_, rfl⟩) pa_nil))))
      (pss_cons (ps_set (i := 5) scRR.nd rfl (.inl rfl) (pe_call GN hr (by rfl) gN kN bN .nil pass0 (pa_cons (pe_slice sl_str (pv 0) (po_some (pe_op op_add (pv 2) pe_int)) (po_some (pv 3))) (pa_cons (pe_callB call_len_str (by rfl) ml PySem.boot_len (pa_cons (pv 0) pa_nil)) pa_nil))))
      (pss_cons (ps_if (PW.pt (pw_or (pt_cmpR op_isN (pv 4) pe_non (nomark _)) (pw_or (pt_cmpR op_lt (pv 4) (pe_glob (v := V.int 1) (by rfl) gH ⟨_, rfl⟩) (nomark _)) (pw_or1 (pt_cmpR op_isN (pv 5) pe_non (nomark _)))))) (pss_one (ps_ret pe_non)) pss_nil)
      (pss_cons (ps_set (i := 6) scRR.nd rfl (.inl rfl) (pe_op op_add (pe_op op_add (pv 3) pe_int) (pv 5)))
      (pss_cons (ps_set (i := 7) scRR.nd rfl (.inl rfl) (pe_bm PySem.F.plainAttrs_str PySem.F.slot_str_find PySem.F.type_str_find mt_find3 (pv 0) (pa_cons pe_str (pa_cons (pv 6) pa_nil))))
      (pss_cons (ps_if (PW.pt (pw_or (pt_cmpR op_ne (pe_slice sl_str (pv 0) (po_some (pv 6)) (po_some (pe_op op_add (pv 6) pe_int))) pe_str (nomark _)) (pw_or1 (pt_cmpR op_lt (pv 7) pe_int (nomark _))))) (pss_one (ps_ret pe_non)) pss_nil)
      (pss_cons (ps_if (pt_cmpR op_ne (pe_call GN hr (by rfl) gN kN bN .nil pass0 (pa_cons (pe_slice sl_str (pv 0) (po_some (pe_op op_add (pv 6) pe_int)) (po_some (pv 7))) (pa_cons (pe_op op_sub (pe_glob (v := V.int 4294967291) (by rfl) gM ⟨_, rfl⟩) pe_int) pa_nil))) (pe_call GC (hr.mono (by decide)) (by rfl) gC kC bC .nil pass0 (pa_cons (pe_slice sl_str (pv 0) (po_some (pv 1)) (po_some (pv 6))) pa_nil)) (nomark _)) (pss_one (ps_ret pe_non)) pss_nil)
      (pss_one (ps_ret (pe_tup (pa_cons (pv 4) (pa_cons (pe_slice sl_str (pv 0) (po_some (pe_op op_add (pv 3) pe_int)) (po_some (pv 6))) (pa_cons (pe_op op_add (pv 7) pe_int) pa_nil))))))))))))))), ?_⟩
    have e32 : Str.ofString " " = ⟨#[32]⟩ := by decide +kernel
    have e58 : Str.ofString ":" = ⟨#[58]⟩ := by decide +kernel
    have e59 : Str.ofString ";" = ⟨#[59]⟩ := by decide +kernel
    have neg1 : decide ((-1 : Int) < 0) = true := rfl
    have nat0 : ∀ n : Nat, decide (((n : Nat) : Int) < 0) = false := fun n => decide_eq_false (by omega)
    have ld : d.length = (tl d).length := len_tl d
    refine ⟨_, rfl, rfl, _, rfl, d, _, _, rfl, rfl, ?_⟩
    refine ⟨_, rfl, rfl, _, rfl, _, _, rfl, rfl, d, _, _, rfl, rfl, ?_⟩
    rw [e32, e58, e59]
    rcases find_drop d 32 i with ⟨b1, f1⟩ | ⟨p, r1, b1, f1⟩
    · have pn : parse d.length ((tl d).drop i) = none := by
        unfold parse
        rw [b1]
        rfl
      rw [f1]
      refine ⟨_, rfl, _, _, rfl, rfl, _, rfl, ?_⟩
      rw [neg1]
      exact iteT (iteT (qn pn H (tabbed_refl hT)))
    rw [f1]
    obtain ⟨c1, c2, c3⟩ := drop_brk b1
    rw [show ((i + p.length : Nat) : Int) + 1 = ((i + p.length + 1 : Nat) : Int) by omega]
    refine ⟨_, rfl, _, _, rfl, rfl, _, rfl, ?_⟩
    rw [nat0]
    refine iteF ?_
    refine ⟨_, rfl, _, _, rfl, rfl, _, rfl, ?_⟩
    rcases find_drop d 58 (i + p.length + 1) with ⟨b2, f2⟩ | ⟨q, r2, b2, f2⟩
    · have pn : parse d.length ((tl d).drop i) = none := by
        unfold parse
        rw [b1]
        show (brk 58 r1).bind _ = none
        rw [← c2, b2]
        rfl
      rw [f2, neg1]
      exact iteT (qn pn H (tabbed_refl hT))
    rw [f2, nat0]
    refine iteF ?_
    obtain ⟨c4, c5, c6⟩ := drop_brk b2
    have s1 : cutS d (some (i : Int)) (some ((i + p.length : Nat) : Int)) = Sg p := by
      rw [cut_nat, show i + p.length - i = p.length by omega, c1]
    have s2 : cutS d (some ((i + p.length + 1 : Nat) : Int)) (some ((i + p.length + 1 + q.length : Nat) : Int)) = Sg q := by
      rw [cut_nat, show i + p.length + 1 + q.length - (i + p.length + 1) = q.length by omega, c4]
    -- kind
    have lSg : ∀ l : List Nat, (Sg l).length = l.length := fun l => by rw [len_tl]
    refine ⟨_, rfl, _, rfl, _, rfl, _, rfl, _, rfl, d, rfl, hl, ?_⟩
    rw [s1]
    refine ⟨Sg p, 3, rfl, by rw [lSg]; omega, by decide, hT, fun H1 t1 => ?_⟩
    -- length
    refine ⟨_, rfl, _, rfl, _, _, rfl, rfl, _, rfl, _, rfl, _, rfl, d, rfl, hl, ?_⟩
    rw [show ((i + p.length : Nat) : Int) + 1 = ((i + p.length + 1 : Nat) : Int) by omega, s2]
    have big : sizeLine < 10 ^ 18 := by
      rw [sizeLine_eq]
      decide
    refine ⟨_, rfl, d, rfl, hl, Sg q, d.length, rfl, by rw [lSg]; omega, by omega, t1.1, fun H2 t2 => ?_⟩
    have t12 := tabbed_trans t1 t2
    -- what parse does
    have P0 : parse d.length ((tl d).drop i) = (readNum p 3).bind fun k => (if k < 1 then none else readNum q d.length).bind fun n => (brk 59 (r2.drop n)).bind fun y =>
        if y.1.head? = some 58 ∧ readNum y.1.tail 4294967290 = some (chkL (p ++ (32 :: (q ++ (58 :: r2.take n))))) then some (k, r2.take n, y.2) else none := by
      unfold parse
      rw [b1]
      show (brk 58 r1).bind _ = _
      rw [← c2, b2]
      rfl
    have isN : ∀ a : Int, decide (V.int a = V.non) = false := fun a => decide_eq_false fun z => nomatch z
    have isN2 : decide (V.non = V.non) = true := rfl
    have tq : tl (Sg p) = p := rfl
    have tq2 : tl (Sg q) = q := rfl
    rw [tq, tq2]
    refine ⟨_, rfl, rfl, _, rfl, ?_⟩
    cases hk : readNum p 3 with
    | none =>
      rw [hk] at P0
      exact iteT (iteT (qn P0 H2 t12))
    | some k =>
    rw [hk] at P0
    show if decide (V.int (k : Int) = V.non) = true then _ else _
    rw [isN]
    refine iteF ⟨_, rfl, _, _, rfl, rfl, _, rfl, ?_⟩
    by_cases k0 : k < 1
    · rw [decide_eq_true (show ((k : Nat) : Int) < 1 by omega)]
      have P1 : parse d.length ((tl d).drop i) = none := by
        rw [P0]
        show (if k < 1 then none else readNum q d.length).bind _ = none
        rw [if_pos k0]
        rfl
      exact iteT (iteT (qn P1 H2 t12))
    rw [decide_eq_false (show ¬ ((k : Nat) : Int) < 1 by omega)]
    have P2 : parse d.length ((tl d).drop i) = (readNum q d.length).bind fun n => (brk 59 (r2.drop n)).bind fun y =>
        if y.1.head? = some 58 ∧ readNum y.1.tail 4294967290 = some (chkL (p ++ (32 :: (q ++ (58 :: r2.take n))))) then some (k, r2.take n, y.2) else none := by
      rw [P0]
      show (if k < 1 then none else readNum q d.length).bind _ = _
      rw [if_neg k0]
    refine iteF ⟨_, rfl, rfl, _, rfl, ?_⟩
    cases hn : readNum q d.length with
    | none =>
      rw [hn] at P2
      exact iteT (qn P2 H2 t12)
    | some n =>
    rw [hn] at P2
    show if decide (V.int (n : Int) = V.non) = true then _ else _
    rw [isN]
    refine iteF ?_
    -- behind, last
    refine ⟨_, rfl, _, _, rfl, rfl, _, rfl, _, _, rfl, rfl, ?_⟩
    show gName 6 (V.int (((i + p.length + 1 + q.length : Nat) : Int) + 1 + (n : Int))) _ _ _
    rw [show ((i + p.length + 1 + q.length : Nat) : Int) + 1 + (n : Int) = ((i + p.length + 1 + q.length + 1 + n : Nat) : Int) by omega]
    refine ⟨_, rfl, rfl, _, rfl, d, _, _, rfl, rfl, ?_⟩
    have B : ∃ b : Nat, b = i + p.length + 1 + q.length + 1 + n := ⟨_, rfl⟩
    obtain ⟨b, hb⟩ := B
    rw [← hb]
    have db : (tl d).drop b = r2.drop n := by
      rw [← c5, List.drop_drop, hb]
    have cut1 : cutS d (some (b : Int)) (some ((b : Int) + 1)) = Sg ((r2.drop n).take 1) := by
      rw [show (b : Int) + 1 = ((b + 1 : Nat) : Int) by omega, cut_nat, db, show b + 1 - b = 1 by omega]
    refine ⟨_, rfl, _, rfl, _, rfl, _, rfl, _, _, rfl, rfl, _, rfl, d, rfl, hl, ?_⟩
    rw [cut1]
    refine ⟨rfl, _, rfl, ?_⟩
    have colon : (V.str (Sg ((r2.drop n).take 1)) = V.str ⟨#[58]⟩) ↔ (r2.drop n).head? = some 58 := by
      constructor
      · intro z
        have z2 : (r2.drop n).take 1 = [58] := congrArg tl (V.str.inj z)
        cases hd : r2.drop n with
        | nil =>
          rw [hd] at z2
          cases z2
        | cons a r =>
          rw [hd] at z2
          have : a = 58 := List.cons.inj z2 |>.1
          rw [this]
          rfl
      · intro z
        cases hd : r2.drop n with
        | nil =>
          rw [hd] at z
          cases z
        | cons a r =>
          rw [hd] at z
          have : a = 58 := Option.some.inj z
          rw [this]
          rfl
    have P3 : parse d.length ((tl d).drop i) = (brk 59 (r2.drop n)).bind fun y =>
        if y.1.head? = some 58 ∧ readNum y.1.tail 4294967290 = some (chkL (p ++ (32 :: (q ++ (58 :: r2.take n))))) then some (k, r2.take n, y.2) else none := by
      rw [P2]
      rfl
    rcases find_drop d 59 b with ⟨b3, f3⟩ | ⟨y, r4, b3, f3⟩
    · have pn : parse d.length ((tl d).drop i) = none := by
        rw [P3, ← db, b3]
        rfl
      rw [f3]
      by_cases hc : (r2.drop n).head? = some 58
      · rw [decide_eq_true (colon.mpr hc)]
        refine iteF ⟨_, rfl, _, _, rfl, rfl, _, rfl, ?_⟩
        rw [neg1]
        exact iteT (qn pn H2 t12)
      · rw [decide_eq_false fun z => hc (colon.mp z)]
        exact iteT (iteT (qn pn H2 t12))
    rw [f3]
    rw [db] at b3
    obtain ⟨e5, _⟩ := brk_some b3
    have hy : (r2.drop n).head? = some 58 ↔ y.head? = some 58 := by
      rw [e5]
      cases y with
      | nil =>
        constructor
        · intro z
          exact absurd (Option.some.inj z) (by decide)
        · intro z
          cases z
      | cons a r => exact Iff.rfl
    by_cases hc : (r2.drop n).head? = some 58
    case neg =>
      have pn : parse d.length ((tl d).drop i) = none := by
        rw [P3, b3]
        exact if_neg fun z => hc (hy.mpr z.1)
      rw [decide_eq_false fun z => hc (colon.mp z)]
      exact iteT (iteT (qn pn H2 t12))
    rw [decide_eq_true (colon.mpr hc)]
    refine iteF ⟨_, rfl, _, _, rfl, rfl, _, rfl, ?_⟩
    rw [nat0]
    refine iteF ?_
    have yy := hy.mp hc
    obtain ⟨y', rfl⟩ : ∃ y', y = 58 :: y' := by
      cases y with
      | nil => cases yy
      | cons a r =>
        have : a = 58 := Option.some.inj yy
        exact ⟨r, by rw [this]⟩
    have lr2 : r2.length = d.length - (i + p.length + 1 + q.length + 1) := by
      rw [← c5, List.length_drop, ← ld]
    have le5 := congrArg List.length e5
    rw [List.length_drop, List.length_append, List.length_cons, List.length_cons] at le5
    have cut2 : cutS d (some ((b : Int) + 1)) (some ((b + (58 :: y').length : Nat) : Int)) = Sg y' := by
      rw [show (b : Int) + 1 = ((b + 1 : Nat) : Int) by omega, cut_nat, List.length_cons, show b + (y'.length + 1) - (b + 1) = y'.length by omega, ← List.drop_drop, db, e5]
      show Sg (List.take y'.length (y' ++ 59 :: r4)) = _
      rw [List.take_left]
    have ltake : (r2.take n).length = n := by
      rw [List.length_take]
      omega
    have cut3 : cutS d (some (i : Int)) (some (b : Int)) = Sg (p ++ (32 :: (q ++ (58 :: r2.take n)))) := by
      rw [cut_nat]
      obtain ⟨g1, _⟩ := brk_some b1
      obtain ⟨g2, _⟩ := brk_some b2
      have g3 : (tl d).drop i = (p ++ (32 :: (q ++ (58 :: r2.take n)))) ++ r2.drop n := by
        rw [g1, ← c2, g2]
        simp only [List.append_assoc, List.cons_append, List.take_append_drop]
      have g4 : b - i = (p ++ (32 :: (q ++ (58 :: r2.take n)))).length := by
        rw [List.length_append, List.length_cons, List.length_append, List.length_cons, ltake]
        omega
      rw [g3, g4, List.take_left]
    have cut4 : cutS d (some (((i + p.length + 1 + q.length : Nat) : Int) + 1)) (some (b : Int)) = Sg (r2.take n) := by
      rw [show ((i + p.length + 1 + q.length : Nat) : Int) + 1 = ((i + p.length + 1 + q.length + 1 : Nat) : Int) by omega, cut_nat, c5, show b - (i + p.length + 1 + q.length + 1) = n by omega]
    -- the check number
    refine ⟨_, rfl, _, rfl, _, _, rfl, rfl, _, rfl, _, rfl, _, rfl, d, rfl, hl, ?_⟩
    rw [cut2]
    refine ⟨_, _, rfl, rfl, Sg y', 4294967290, rfl, by rw [lSg]; omega, by decide, t12.1, fun H3 t3 => ?_⟩
    have t123 := tabbed_trans t12 t3
    refine ⟨_, rfl, _, rfl, _, rfl, _, rfl, _, rfl, d, rfl, hl, ?_⟩
    rw [cut3]
    refine ⟨_, rfl, ?_⟩
    show rNe (optV (readNum y' 4294967290)) (V.int ((chkL (p ++ (32 :: (q ++ (58 :: r2.take n)))) : Nat) : Int)) H3 _
    have P4 : parse d.length ((tl d).drop i) = if (58 :: y').head? = some 58 ∧ readNum y' 4294967290 = some (chkL (p ++ (32 :: (q ++ (58 :: r2.take n))))) then some (k, r2.take n, r4) else none := by
      rw [P3, b3]
      rfl
    by_cases hx : readNum y' 4294967290 = some (chkL (p ++ (32 :: (q ++ (58 :: r2.take n)))))
    · have ps : parse d.length ((tl d).drop i) = some (k, r2.take n, r4) := P4.trans (if_pos ⟨rfl, hx⟩)
      rw [hx]
      refine ⟨rfl, _, rfl, ?_⟩
      rw [decide_eq_true (show optV (some (chkL (p ++ (32 :: (q ++ (58 :: r2.take n)))))) = V.int ((chkL (p ++ (32 :: (q ++ (58 :: r2.take n)))) : Nat) : Int) from rfl)]
      refine iteF ?_
      refine ⟨_, rfl, _, rfl, _, rfl, _, _, rfl, rfl, _, rfl, _, rfl, _, rfl, d, rfl, hl, ?_⟩
      rw [cut4]
      refine ⟨_, rfl, _, _, rfl, rfl, by show 3 ≤ sizeLine; rw [sizeLine_eq]; decide, fun a ha => ?_⟩
      have fin := qs k _ r4 ps H3 a t123 ha
      have en : ((d.length - r4.length : Nat) : Int) = ((b + (58 :: y').length : Nat) : Int) + 1 := by
        rw [List.length_cons]
        omega
      rw [en] at fin
      exact fin
    · have pn : parse d.length ((tl d).drop i) = none := P4.trans (if_neg fun z => hx z.2)
      have ne : decide (optV (readNum y' 4294967290) = V.int ((chkL (p ++ (32 :: (q ++ (58 :: r2.take n)))) : Nat) : Int)) = false := by
        refine decide_eq_false fun z => hx ?_
        cases hv : readNum y' 4294967290 with
        | none =>
          rw [hv] at z
          cases z
        | some v =>
          rw [hv] at z
          have z2 : ((v : Nat) : Int) = _ := V.int.inj z
          have z3 : v = chkL (p ++ (32 :: (q ++ (58 :: r2.take n)))) := by omega
          rw [z3]
      refine ⟨?_, _, rfl, ?_⟩
      · cases readNum y' 4294967290 <;> rfl
      · rw [ne]
        exact iteT (qn pn H3 t123)
end
end K85
namespace K85
open PySem PySem.Spec PyProof.Rows L2 QR TL
open GxR (TabB TabG Tabbed GenS)
abbrev sRs : Stmt := topS 18
theorem scRs : FnScope ["data", "rows", "at", "row"] ["data"] (defScope sRs) := ⟨rfl, rfl, rfl, by decide +kernel, rfl, by decide +kernel, by decide +kernel⟩
/-! ### all records -/
theorem parse_nil (M : Nat) : parse M [] = none := rfl
theorem parse_len {M k : Nat} {r t r3 : List Nat} (h : parse M r = some (k, t, r3)) : r3.length + t.length + 7 ≤ r.length := by
  obtain ⟨_, _, e⟩ := parse_some h
  have := recL_len k t
  rw [e, List.length_append]
  omega
theorem recs_fuel (M : Nat) : ∀ (f g : Nat) (r : List Nat), r.length ≤ f → r.length ≤ g → recs M f r = recs M g r
  | 0, g, r, h1, _ => by
    have e : r = [] := List.eq_nil_of_length_eq_zero (by omega)
    subst e
    cases g with
    | zero => rfl
    | succ g =>
      show _ = match parse M [] with | none => ([], []) | some (k, t, r3) => ((k, t) :: (recs M g r3).1, (recs M g r3).2)
      rw [parse_nil]
      rfl
  | f + 1, 0, r, _, h2 => by
    have e : r = [] := List.eq_nil_of_length_eq_zero (by omega)
    subst e
    show (match parse M [] with | none => ([], []) | some (k, t, r3) => ((k, t) :: (recs M f r3).1, (recs M f r3).2)) = _
    rw [parse_nil]
    rfl
  | f + 1, g + 1, r, h1, h2 => by
    show (match parse M r with | none => ([], r) | some (k, t, r3) => ((k, t) :: (recs M f r3).1, (recs M f r3).2)) = match parse M r with | none => ([], r) | some (k, t, r3) => ((k, t) :: (recs M g r3).1, (recs M g r3).2)
    cases h : parse M r with
    | none => rfl
    | some x =>
      obtain ⟨k, t, r3⟩ := x
      have l := parse_len h
      show ((k, t) :: (recs M f r3).1, (recs M f r3).2) = ((k, t) :: (recs M g r3).1, (recs M g r3).2)
      rw [recs_fuel M f g r3 (by omega) (by omega)]
def recsA (M : Nat) (r : List Nat) : List (Nat × List Nat) × List Nat := recs M r.length r
theorem recsA_none {M : Nat} {r : List Nat} (h : parse M r = none) : recsA M r = ([], r) := by
  unfold recsA
  rw [recs_fuel M r.length (r.length + 1) r (Nat.le_refl _) (by omega)]
  show (match parse M r with | none => ([], r) | some (k, t, r3) => ((k, t) :: (recs M _ r3).1, (recs M _ r3).2)) = _
  rw [h]
theorem recsA_some {M k : Nat} {r t r3 : List Nat} (h : parse M r = some (k, t, r3)) : recsA M r = ((k, t) :: (recsA M r3).1, (recsA M r3).2) := by
  unfold recsA
  have l := parse_len h
  rw [recs_fuel M r.length (r3.length + 1) r |> fun _ => recs_fuel M r.length (r.length + 1) r (Nat.le_refl _) (by omega)]
  show (match parse M r with | none => ([], r) | some (k, t, r3) => ((k, t) :: (recs M _ r3).1, (recs M _ r3).2)) = _
  rw [h]
  show ((k, t) :: (recs M r.length r3).1, (recs M r.length r3).2) = _
  rw [recs_fuel M r.length r3.length r3 (by omega) (Nat.le_refl _)]
/-! ### what a heap keeps -/
/-- all but the table stands as before -/
def Keep (T : Addr) (H H' : Hp) : Prop := TabG H' T ∧ ∀ b o, b ≠ T → H b = some o → H' b = some o
theorem keep_refl {T : Addr} {H : Hp} (h : TabG H T) : Keep T H H := ⟨h, fun _ _ _ e => e⟩
theorem keep_trans {T : Addr} {H H1 H2 : Hp} (a : Keep T H H1) (b : Keep T H1 H2) : Keep T H H2 := ⟨b.1, fun x o ne e => b.2 x o ne (a.2 x o ne e)⟩
theorem keep_tabbed {T : Addr} {H H1 : Hp} (a : Tabbed T H H1) : Keep T H H1 := ⟨a.1, fun x o ne e => (a.2 x ne).trans e⟩
theorem tab_ne {T a : Addr} {H : Hp} {o : HO} (h : TabG H T) (e : H a = some o) (d : ∀ ps, o ≠ .tbl ps) : a ≠ T := fun z => by
  obtain ⟨ps, hp, _⟩ := h
  rw [z, hp] at e
  exact d ps (Option.some.inj e).symm
theorem tab_ne0 {T a : Addr} {H : Hp} (h : TabG H T) (e : H a = none) : a ≠ T := fun z => by
  obtain ⟨ps, hp, _⟩ := h
  rw [z, hp] at e
  cases e
theorem tab_upd {T a : Addr} {H : Hp} {o : HO} (h : TabG H T) (ne : a ≠ T) : TabG (upd H a o) T := by
  obtain ⟨ps, hp, q⟩ := h
  exact ⟨ps, by rw [upd_ne (Ne.symm ne)]; exact hp, q⟩
theorem keep_new {T a : Addr} {H : Hp} {o : HO} (h : TabG H T) (e : H a = none) : Keep T H (upd H a o) :=
  ⟨tab_upd h (tab_ne0 h e), fun b o' _ e' => by rw [upd_ne (ne_of_none e' e)]; exact e'⟩
/-! ### the rows -/
def rowH (r : Nat × List Nat) : HO := .tup [.int (r.1 : Int), .str (Sg r.2)]
inductive Tups (H : Hp) : List Addr → List (Nat × List Nat) → Prop
  | nil : Tups H [] []
  | cons {a : Addr} {as : List Addr} {r : Nat × List Nat} {rs : List (Nat × List Nat)} : H a = some (rowH r) → Tups H as rs → Tups H (a :: as) (r :: rs)
theorem Tups.mono {H H' : Hp} : ∀ {as : List Addr} {rs : List (Nat × List Nat)}, Tups H as rs → (∀ a r, H a = some (rowH r) → H' a = some (rowH r)) → Tups H' as rs
  | _, _, .nil, _ => .nil
  | _, _, .cons h t, f => .cons (f _ _ h) (t.mono f)
theorem Tups.snoc {H : Hp} {a : Addr} {r : Nat × List Nat} (h : H a = some (rowH r)) : ∀ {as : List Addr} {rs : List (Nat × List Nat)}, Tups H as rs → Tups H (as ++ [a]) (rs ++ [r])
  | _, _, .nil => .cons h .nil
  | _, _, .cons h1 t => .cons h1 (Tups.snoc h t)
theorem Tups.keep {T : Addr} {H H' : Hp} {as : List Addr} {rs : List (Nat × List Nat)} (t : Tups H as rs) (h : TabG H T) (k : Keep T H H') : Tups H' as rs :=
  t.mono fun a r e => k.2 a _ (tab_ne h e fun ps z => nomatch z) e
theorem Tups.len {H : Hp} : ∀ {as : List Addr} {rs : List (Nat × List Nat)}, Tups H as rs → as.length = rs.length
  | _, _, .nil => rfl
  | _, _, .cons _ t => congrArg (· + 1) t.len
/-- the same at another place's new content -/
theorem Tups.upd {H : Hp} {l : Addr} {xs ys : List V} (hl : H l = some (.lst xs)) {as : List Addr} {rs : List (Nat × List Nat)} (t : Tups H as rs) : Tups (L2.upd H l (.lst ys)) as rs :=
  t.mono fun a r e => by
    rw [upd_ne (ne_of e hl fun z => nomatch z)]
    exact e
def rowD (r : Nat × List Nat) : PyData := .tuple [.int (r.1 : Int), .str (Sg r.2)]
theorem Tups.dp {K : PySem.W.Frag} {H : Hp} : ∀ {as : List Addr} {rs : List (Nat × List Nat)}, Tups H as rs → DpAll K H (as.map V.ref) (rs.map rowD)
  | _, _, .nil => .nil
  | _, _, .cons h t => .cons (.tup (SqT.of h) (.cons (.int _) (.cons (.str _) .nil))) t.dp
section
variable {P : Program} {w : World} {K : PySem.W.Frag} {mg : Str → Option Value} {base : Heap}
/-! ### read_records -/
/-- a is the answer: the rows and where they end -/
def Told (H0 H : Hp) (a : Addr) (rs : List (Nat × List Nat)) (n : Nat) : Prop := ∃ (l : Addr) (as : List Addr), H0 l = none ∧ H a = some (.tup [.ref l, .int (n : Int)]) ∧ H l = some (.lst (as.map V.ref)) ∧ Tups H as rs
def spRs (T : Addr) : Sp := fun vs H Q _ => ∃ d : Str, vs = [.str d] ∧ d.length ≤ sizeLine ∧ TabG H T ∧
  ∀ H' a, Keep T H H' → Told H H' a (recsA d.length (tl d)).1 (d.length - (recsA d.length (tl d)).2.length) → Q (.ref a) H'
/-- the row at i: none, or a tuple -/
def RowOk (d : Str) (i : Nat) (v : V) (H : Hp) : Prop := (parse d.length ((tl d).drop i) = none ∧ v = .non) ∨
  ∃ (k : Nat) (t r3 : List Nat) (p : Addr), parse d.length ((tl d).drop i) = some (k, t, r3) ∧ v = .ref p ∧ H p = some (.tup [.int (k : Int), .str (Sg t), .int ((d.length - r3.length : Nat) : Int)])
theorem spRR_use {T : Addr} {d : Str} {i : Nat} {H : Hp} {X : VK} {E : XK} (hl : d.length ≤ sizeLine) (hi : i ≤ d.length) (hT : TabG H T) (k : ∀ v H', Keep T H H' → RowOk d i v H' → X v H') : spRR T [.str d, .int (i : Int)] H X E := by
  refine ⟨d, i, rfl, hl, hi, hT, fun pn H' t => ?_, fun k' t r3 ps H' p tb np => ?_⟩
  · exact k _ _ (keep_tabbed t) (.inl ⟨pn, rfl⟩)
  · exact k _ _ (keep_trans (keep_tabbed tb) (keep_new tb.1 np)) (.inr ⟨k', t, r3, p, ps, rfl, upd_same⟩)
theorem ok_rs {T f fR : Addr} {fd fdR : FuncData} (F : Fun K "read_records" "read_records" sRs f fd)
    (GR : FnOk P w K mg base CX0 3 fR fdR ["data", "at"] (spRR T)) (bR : Binds K fdR ["data", "at"] []) (gR : mg "read_record" = some (.ref fR)) (kR : PySem.W.keepIn K (.ref fR) = true) :
    FnOk P w K mg base CX0 4 f fd ["data"] (spRs T) := by
  refine F.ok scRs (fun vs H Q E h => ?_) (fun cdv A outer s H vs Q E hr h => ?_)
  · obtain ⟨d, rfl, _⟩ := h
    rfl
  · obtain ⟨d, rfl, hl, hT, q⟩ := h
    refine ⟨_, pss_cons (ps_par (i := 1) (j := 2) rfl scRs.nd rfl rfl (by decide) rfl rfl (pa_cons (pe_lst pa_nil) (pa_cons pe_int pa_nil)) (by rfl))
      (pss_cons (ps_set (i := 3) scRs.nd rfl (.inl rfl) (pe_call GR hr (by rfl) gR kR bR .nil pass0 (pa_cons (pv 0) (pa_cons (pv 2) pa_nil))))
      (pss_cons (ps_while PassesOwn.never (pt_cmpR op_notN (pv 3) pe_non (nomark _))
        (pss_cons (ps_expr (pe_bm PySem.F.plainAttrs_list PySem.F.slot_list_append PySem.F.type_list_append mt_append (pv 1) (pa_cons (pe_tup (pa_cons (pe_ix ix_tup (pv 3) pe_int (fun _ _ => rfl)) (pa_cons (pe_ix ix_tup (pv 3) pe_int (fun _ _ => rfl)) pa_nil))) pa_nil)))
        (pss_cons (ps_set (i := 2) scRs.nd rfl (.inl rfl) (pe_ix ix_tup (pv 3) pe_int (fun _ _ => rfl)))
        (pss_one (ps_set (i := 3) scRs.nd rfl (.inl rfl) (pe_call GR hr (by rfl) gR kR bR .nil pass0 (pa_cons (pv 0) (pa_cons (pv 2) pa_nil))))))))
      (pss_one (ps_ret (pe_tup (pa_cons (pv 1) (pa_cons (pv 2) pa_nil))))))), ?_⟩
    have ld : d.length = (tl d).length := len_tl d
    refine ⟨Nat.zero_le _, fun l nl => ⟨_, _, rfl, ?_⟩⟩
    have k0 : Keep T H (upd H l (.lst [])) := keep_new hT nl
    refine ⟨_, rfl, _, rfl, ?_⟩
    dsimp only [tNil]
    refine spRR_use (i := 0) hl (Nat.zero_le _) k0.1 fun v H1 k1 row1 => ?_
    refine ⟨fun m σ H2 => ∃ (i : Nat) (as : List Addr) (acc : List (Nat × List Nat)) (v : V), σ = [some (.str d), some (.ref l), some (.int (i : Int)), some v] ∧ i ≤ d.length ∧ m = d.length - i ∧ Keep T H H2 ∧
        H2 l = some (.lst (as.map V.ref)) ∧ Tups H2 as acc ∧ RowOk d i v H2 ∧ recsA d.length (tl d) = (acc ++ (recsA d.length ((tl d).drop i)).1, (recsA d.length ((tl d).drop i)).2) ∧ as.length ≤ i,
      ⟨d.length, 0, [], [], v, rfl, Nat.zero_le _, rfl, keep_trans k0 k1, ?_, .nil, row1, rfl, Nat.le_refl _⟩, fun m σ H2 hW => ?_⟩
    · exact k1.2 l _ (tab_ne k0.1 upd_same fun ps z => nomatch z) upd_same
    obtain ⟨i, as, acc, v, rfl, hi, rfl, k2, eL, tu, row, er, la⟩ := hW
    have lT : l ≠ T := tab_ne k2.1 eL fun ps z => nomatch z
    refine ⟨_, rfl, rfl, _, rfl, ?_⟩
    rcases row with ⟨pn, rfl⟩ | ⟨k, t, r3, p, ps, rfl, ep⟩
    · refine iteF ?_
      refine ⟨_, rfl, _, rfl, by show 2 ≤ sizeLine; rw [sizeLine_eq]; decide, fun a na => ?_⟩
      rw [recsA_none pn, List.append_nil] at er
      refine q _ a (keep_trans k2 (keep_new k2.1 na)) ⟨l, as, nl, ?_, ?_, ?_⟩
      · rw [upd_same, er, List.length_drop, ← ld, show d.length - (d.length - i) = i by omega]
      · rw [upd_ne (ne_of_none eL na)]
        exact eL
      · rw [er]
        exact tu.keep k2.1 (keep_new k2.1 na)
    · have lp := parse_len ps
      rw [List.length_drop, ← ld] at lp
      obtain ⟨_, _, split⟩ := parse_some ps
      refine iteT ⟨fun σ' H' => ∃ m', m' < d.length - i ∧ ∃ (i : Nat) (as : List Addr) (acc : List (Nat × List Nat)) (v : V), σ' = [some (.str d), some (.ref l), some (.int (i : Int)), some v] ∧ i ≤ d.length ∧ m' = d.length - i ∧ Keep T H H' ∧
        H' l = some (.lst (as.map V.ref)) ∧ Tups H' as acc ∧ RowOk d i v H' ∧ recsA d.length (tl d) = (acc ++ (recsA d.length ((tl d).drop i)).1, (recsA d.length ((tl d).drop i)).2) ∧ as.length ≤ i, fun σ' H' hN => hN, ?_⟩
      -- rows.append((row[0], row[1]))
      refine ⟨_, rfl, .inl ⟨rfl, _, SqL.of eL⟩, _, rfl, p, _, 0, _, rfl, rfl, SqT.of ep, atI_nat (j := 0) rfl, _, rfl, p, _, 1, _, rfl, rfl, SqT.of ep, atI_nat (j := 1) rfl, by show 2 ≤ sizeLine; rw [sizeLine_eq]; decide, fun a na => ?_⟩
      have kn := keep_new (o := .tup [.int (k : Int), .str (Sg t)]) k2.1 na
      have eL2 : upd H2 a (.tup [.int (k : Int), .str (Sg t)]) l = some (.lst (as.map V.ref)) := by
        rw [upd_ne (ne_of_none eL na)]
        exact eL
      have ep2 : upd H2 a (.tup [.int (k : Int), .str (Sg t)]) p = some (.tup [.int (k : Int), .str (Sg t), .int ((d.length - r3.length : Nat) : Int)]) := by
        rw [upd_ne (ne_of_none ep na)]
        exact ep
      refine ⟨l, _, _, rfl, rfl, eL2, by rw [List.length_map]; omega, ?_⟩
      have pl : p ≠ l := ne_of ep eL fun z => nomatch z
      have ep3 : upd (upd H2 a (.tup [.int (k : Int), .str (Sg t)])) l (.lst (as.map V.ref ++ [.ref a])) p = some (.tup [.int (k : Int), .str (Sg t), .int ((d.length - r3.length : Nat) : Int)]) := by
        rw [upd_ne pl]
        exact ep2
      refine ⟨_, rfl, p, _, 2, _, rfl, rfl, SqT.of ep3, atI_nat (j := 2) rfl, ?_⟩
      refine ⟨_, rfl, _, rfl, ?_⟩
      dsimp only [tNil]
      have tb3 : TabG (upd (upd H2 a (.tup [.int (k : Int), .str (Sg t)])) l (.lst (as.map V.ref ++ [.ref a]))) T := tab_upd kn.1 lT
      refine spRR_use (i := d.length - r3.length) hl (by omega) tb3 fun v' H3 k3 row3 => ?_
      have dr : (tl d).drop (d.length - r3.length) = r3 := by
        have e1 : (tl d).drop (d.length - r3.length) = ((tl d).drop i).drop (d.length - r3.length - i) := by
          rw [List.drop_drop]
          congr 1
          omega
        have e2 : d.length - r3.length - i = (recL k t).length := by
          have := congrArg List.length split
          rw [List.length_drop, ← ld, List.length_append] at this
          omega
        rw [e1, e2, split, List.drop_left]
      have lnew : upd (upd H2 a (.tup [.int (k : Int), .str (Sg t)])) l (.lst (as.map V.ref ++ [.ref a])) l = some (.lst ((as ++ [a]).map V.ref)) := by
        rw [upd_same, List.map_append]
        rfl
      have hlN : H l = none := nl
      refine ⟨d.length - (d.length - r3.length), by omega, d.length - r3.length, as ++ [a], acc ++ [(k, t)], v', rfl, by omega, rfl, ?_, ?_, ?_, row3, ?_, ?_⟩
      · refine ⟨k3.1, fun b o ne e => k3.2 b o ne ?_⟩
        rw [upd_ne (ne_of_none e hlN)]
        exact kn.2 b o ne (k2.2 b o ne e)
      · exact k3.2 l _ lT lnew
      · refine Tups.keep ?_ tb3 k3
        refine Tups.upd eL2 ?_
        have hs : upd H2 a (.tup [.int (k : Int), .str (Sg t)]) a = some (rowH (k, t)) := upd_same
        exact Tups.snoc hs (tu.keep k2.1 kn)
      · rw [er, dr, recsA_some ps]
        show (acc ++ ((k, t) :: (recsA d.length r3).1), _) = _
        rw [List.append_assoc]
        rfl
      · rw [List.length_append, List.length_singleton]
        omega
end
end K85
namespace K85
open PySem PySem.Spec PyProof.Rows L2 QR TL
open GxR (TabB TabG Tabbed GenS)
abbrev sState : Stmt := topS 23
abbrev sDraw : Stmt := topS 24
abbrev sPick : Stmt := topS 25
theorem scState : FnScope ["script", "seed", "cell"] ["script"] (defScope sState) := ⟨rfl, rfl, rfl, by decide +kernel, rfl, by decide +kernel, by decide +kernel⟩
theorem scDraw : FnScope ["state", "many", "cells", "value", "mixed"] ["state", "many"] (defScope sDraw) := ⟨rfl, rfl, rfl, by decide +kernel, rfl, by decide +kernel, by decide +kernel⟩
theorem scPick : FnScope ["state", "row"] ["state", "row"] (defScope sPick) := ⟨rfl, rfl, rfl, by decide +kernel, rfl, by decide +kernel, by decide +kernel⟩
/-! ### the state of the draws: a list of a list and a number -/
structure StateAt (H : Hp) (p c : Addr) : Prop where
  ex : ∃ (seed : Int) (ms : List Int), H p = some (.lst [.ref c, .int seed]) ∧ H c = some (.lst (ms.map V.int)) ∧ ms.length ≤ 63 ∧ (∀ m ∈ ms, 0 ≤ m) ∧ 0 ≤ seed ∧ seed < 4294967296
  ne : p ≠ c
/-- only the state has changed -/
def Drawn (p c : Addr) (H H' : Hp) : Prop := ∀ b, b ≠ p → b ≠ c → H' b = H b
theorem drawn_refl {p c : Addr} {H : Hp} : Drawn p c H H := fun _ _ _ => rfl
theorem drawn_trans {p c : Addr} {H H1 H2 : Hp} (a : Drawn p c H H1) (b : Drawn p c H1 H2) : Drawn p c H H2 := fun x h1 h2 => (b x h1 h2).trans (a x h1 h2)
theorem StateAt.mono {H H' : Hp} {p c : Addr} (s : StateAt H p c) (hp : ∀ o, H p = some o → H' p = some o) (hc : ∀ o, H c = some o → H' c = some o) : StateAt H' p c := by
  obtain ⟨⟨seed, ms, h1, h2, h3⟩, ne⟩ := s
  exact ⟨⟨seed, ms, hp _ h1, hc _ h2, h3⟩, ne⟩
section
variable {P : Program} {w : World} {K : PySem.W.Frag} {mg : Str → Option Value} {base : Heap}
/-! ### _law_state -/
def spState (K : PySem.W.Frag) : Sp := fun vs H Q _ => ∃ (a : Addr) (ns : List Int), vs = [.ref a] ∧ SqL K H a (ns.map V.int) ∧ ns.length ≤ 63 ∧
  ∀ H' p c, Same H H' → H p = none → H c = none → StateAt H' p c → Q (.ref p) H'
theorem abs_nn (z : Int) : 0 ≤ (if z < 0 then -z else z) := by
  split <;> omega
theorem ok_state {f : Addr} {fd : FuncData} (F : Fun K "_law_state" "_law_state" sState f fd) (ma : mg "abs" = none) (mi : mg "int" = none) : FnOk P w K mg base CX0 1 f fd ["script"] (spState K) := by
  refine F.ok scState (fun vs H Q E h => ?_) (fun cdv A outer s H vs Q E hr h => ?_)
  · obtain ⟨a, ns, rfl, _⟩ := h
    rfl
  · obtain ⟨a, ns, rfl, hS, hl, q⟩ := h
    refine ⟨_, pss_cons (ps_set (i := 1) scState.nd rfl (.inl rfl) pe_int)
      (pss_cons (ps_for PassesOwn.never rfl (pi_list (pv 0)) (pg_name (i := 2) scState.nd rfl (.inl rfl))
        (pss_one (ps_set (i := 1) scState.nd rfl (.inl rfl) (pe_op op_mod (pe_callTy call_int1 (by rfl) mi (by decide +kernel) (pa_cons (pe_op op_add (pe_op op_mul (pv 1) pe_int) (pv 2)) pa_nil)) pe_int))))
      (pss_one (ps_ret (pe_lst (pa_cons (pe_lc (own := [("cell", 2)]) (g := gName 2) (tt := tYes) rfl scState.nd (pi_list (pv 0)) (blkOk_by (N := ["script", "seed", "cell"]) (sc := defScope sState) (by decide +kernel))
          (fun _ _ _ _ _ => pg_name (i := 2) scState.nd rfl (Or.inl rfl)) (fun _ _ _ _ _ => pts_nil) (fun _ _ _ _ _ => pe_callB call_abs (by rfl) ma (by decide +kernel) (pa_cons (pv 2) pa_nil)))
        (pa_cons (pe_op op_add (pv 1) pe_int) pa_nil)))))), ?_⟩
    refine ⟨.ref a, rfl, a, rfl, ⟨_, hS⟩, for_list (xs := ns.map V.int) (fun i σ H' => ∃ (z : Int) (y : Option V), σ = [some (.ref a), some (.int z), y] ∧ 0 ≤ z ∧ z < 1000003 ∧ H' = H) ⟨7, none, rfl, by omega, by omega, rfl⟩ ?_ ?_ ?_⟩
    · rintro i σ H' _ ⟨z, y, _, _, _, rfl⟩
      exact hS
    · rintro i x σ H' hx ⟨z, y, rfl, h0, h1, rfl⟩
      obtain ⟨n, _, rfl⟩ := List.mem_map.mp (List.mem_of_getElem? hx)
      refine ⟨_, rfl, _, _, rfl, rfl, .inl ⟨by omega, by omega⟩, _, rfl, _, _, rfl, rfl, .inl ⟨_, rfl, _, _, rfl, rfl, by show (0 : Int) < 1000003; decide, ?_⟩⟩
      exact ⟨_, _, rfl, Int.emod_nonneg _ (by decide), Int.emod_lt_of_pos _ (by decide), rfl⟩
    · rintro σ H' ⟨z, y, rfl, h0, h1, rfl⟩
      refine ⟨.ref a, rfl, a, rfl, ⟨_, hS⟩, fun D nD => ?_⟩
      refine lc_list (xs := ns.map V.int) (fun i H2 => H2 = upd H' D (.lst (((ns.take i).map fun n => if n < 0 then -n else n).map V.int))) rfl ?_ ?_ ?_
      · rintro i H2 _ rfl
        exact Same.seq (fun b o e => by rw [upd_ne (ne_of_none e nD)]; exact e) hS
      · rintro i x H2 hx rfl
        have hx2 : (ns.map V.int)[i]? = some x := hx
        rw [List.getElem?_map] at hx2
        obtain ⟨n, hn, rfl⟩ := Option.map_eq_some_iff.mp hx2
        refine ⟨rfl, ?_⟩
        refine ⟨_, rfl, n, rfl, _, upd_same, ?_, ?_⟩
        · rw [List.length_map, List.length_map, List.length_take, sizeLine_eq]
          omega
        · rw [upd_upd, List.take_add_one, hn, List.map_append, List.map_append]
          rfl
      · rintro H2 rfl
        refine ⟨_, rfl, _, _, rfl, rfl, by show 2 ≤ sizeLine; rw [sizeLine_eq]; decide, fun p np => ?_⟩
        have eD : (upd H' D (.lst (((ns.take (ns.map V.int).length).map fun n => if n < 0 then -n else n).map V.int))) D = _ := upd_same
        have nDp : D ≠ p := ne_of_none eD np
        have np0 : H' p = none := by
          rw [← np, upd_ne (Ne.symm nDp)]
        refine q _ p D (fun b o e => ?_) np0 nD ⟨⟨z + 1, (ns.take (ns.map V.int).length).map fun n => if n < 0 then -n else n, upd_same, ?_, ?_, ?_, by omega, by omega⟩, Ne.symm nDp⟩
        · rw [upd_ne (ne_of_none e np0), upd_ne (ne_of_none e nD)]
          exact e
        · rw [upd_ne nDp]
          exact upd_same
        · rw [List.length_map, List.length_take]
          omega
        · intro m hm
          obtain ⟨n, _, rfl⟩ := List.mem_map.mp hm
          exact abs_nn n
end
end K85
namespace K85
open PySem PySem.Spec PyProof.Rows L2 QR TL
open GxR (TabB TabG Tabbed GenS)
theorem seq0 {n : Nat} (h : 0 < n) : seqIndex? 0 n = some 0 := by
  unfold seqIndex?
  simp [h]
theorem ix0 {n : Nat} (h : 0 < n) : ixN n 0 = some 0 := by
  unfold ixN
  simp [h]
section
variable {P : Program} {w : World} {K : PySem.W.Frag} {mg : Str → Option Value} {base : Heap}
/-! ### _law_draw -/
def spDraw : Sp := fun vs H Q _ => ∃ (p c : Addr) (m : Nat), vs = [.ref p, .int (m : Int)] ∧ m < 1000000000 ∧ StateAt H p c ∧
  ∀ H' (r : Nat), (m = 0 → r = 0) → (0 < m → r < m) → StateAt H' p c → Drawn p c H H' → Q (.int (r : Int)) H'
theorem ok_draw {f : Addr} {fd : FuncData} (F : Fun K "_law_draw" "_law_draw" sDraw f fd) (ml : mg "len" = none) (mi : mg "int" = none) : FnOk P w K mg base CX0 1 f fd ["state", "many"] spDraw := by
  refine F.ok scDraw (fun vs H Q E h => ?_) (fun cdv A outer s H vs Q E hr h => ?_)
  · obtain ⟨p, c, m, rfl, _⟩ := h
    rfl
  · obtain ⟨p, c, m, rfl, hm, ⟨⟨seed, ms, hp, hc, hl, h0, s0, s1⟩, npc⟩, q⟩ := h
    refine ⟨_, (pss_cons (ps_if (pt_cmpR op_lt (pv 1) pe_int (nomark _)) (pss_one (ps_ret pe_int)) pss_nil)
      (pss_cons (ps_set (i := 2) scDraw.nd rfl (.inl rfl) (pe_ix ix_list (pv 0) pe_int (fun _ _ => rfl)))
      (pss_cons (ps_while PassesOwn.never (PW.pt (pw_and (pt_cmpR op_gt (pe_callB call_len_seq (by rfl) ml PySem.boot_len (pa_cons (pv 2) pa_nil)) pe_int (nomark _)) (pw_and1 (pt_cmpR op_eq (pe_ix ix_list (pv 2) pe_int (fun _ _ => rfl)) pe_int (nomark _)))))
        (pss_one (ps_expr (pe_bm PySem.F.plainAttrs_list PySem.F.slot_list_pop PySem.F.type_list_pop mt_popAt (pv 2) (pa_cons pe_int pa_nil)))))
      (pss_cons (ps_if (pt_cmpR op_gt (pe_callB call_len_seq (by rfl) ml PySem.boot_len (pa_cons (pv 2) pa_nil)) pe_int (nomark _))
        (pss_cons (ps_set (i := 3) scDraw.nd rfl (.inl rfl) (pe_ix ix_list (pv 2) pe_int (fun _ _ => rfl)))
      (pss_cons (ps_asg (pe_op op_fdiv (pv 3) (pv 1)) (pg_sub (pv 2) pe_int set_list))
      (pss_one (ps_ret (pe_op op_mod (pe_callTy call_int1 (by rfl) mi (by decide +kernel) (pa_cons (pv 3) pa_nil)) (pv 1)))))) pss_nil)
      (pss_cons (ps_set (i := 4) scDraw.nd rfl (.inl rfl) (pe_op op_mod (pe_callTy call_int1 (by rfl) mi (by decide +kernel) (pa_cons (pe_op op_add (pe_op op_mul (pe_ix ix_list (pv 0) pe_int (fun _ _ => rfl)) pe_int) pe_int) pa_nil)) pe_int))
      (pss_cons (ps_asg (pv 4) (pg_sub (pv 0) pe_int set_list))
      (pss_one (ps_ret (pe_op op_mod (pe_callTy call_int1 (by rfl) mi (by decide +kernel) (pa_cons (pe_op op_fdiv (pv 4) pe_int) pa_nil)) (pv 1)))))))))), ?_⟩
    refine ⟨_, rfl, _, _, rfl, rfl, _, rfl, ite2 (fun h1 => ?_) (fun h1 => ?_)⟩
    · have m0 : m = 0 := by
        have := of_decide_eq_true h1
        omega
      exact q H 0 (fun _ => rfl) (fun z => by omega) ⟨⟨seed, ms, hp, hc, hl, h0, s0, s1⟩, npc⟩ drawn_refl
    have mp : 0 < m := by
      have : ¬ ((m : Nat) : Int) < 1 := fun z => h1 (decide_eq_true z)
      omega
    refine ⟨_, rfl, p, _, 0, _, rfl, rfl, SqL.of hp, atI_nat (j := 0) rfl, ?_⟩
    -- while
    refine ⟨fun n σ H' => ∃ ks : List Int, σ = [some (.ref p), some (.int (m : Int)), some (.ref c), none, none] ∧ n = ks.length ∧ Drawn p c H H' ∧ H' p = some (.lst [.ref c, .int seed]) ∧ H' c = some (.lst (ks.map V.int)) ∧ ks.length ≤ 63 ∧ (∀ k ∈ ks, 0 ≤ k),
      ⟨ms.length, ms, rfl, rfl, drawn_refl, hp, hc, hl, h0⟩, ?_⟩
    rintro n σ H' ⟨ks, rfl, rfl, dr, hp', hc', hl', h0'⟩
    refine ⟨_, rfl, c, _, rfl, .inl (SqL.of hc'), _, _, rfl, rfl, _, rfl, ite2 (fun h2 => ?_) (fun h2 => ?_)⟩
    · obtain ⟨k, r, rfl⟩ : ∃ k r, ks = k :: r := by
        cases ks with
        | nil =>
          have := of_decide_eq_true h2
          exact absurd this (by decide)
        | cons k r => exact ⟨k, r, rfl⟩
      refine ⟨_, rfl, c, _, 0, .int k, rfl, rfl, SqL.of hc', atI_nat (j := 0) rfl, rfl, _, rfl, ite2 (fun h3 => ?_) (fun h3 => ?_)⟩
      · refine ⟨fun σ' H2 => ∃ n', n' < (k :: r).length ∧ ∃ ks : List Int, σ' = [some (.ref p), some (.int (m : Int)), some (.ref c), none, none] ∧ n' = ks.length ∧ Drawn p c H H2 ∧ H2 p = some (.lst [.ref c, .int seed]) ∧ H2 c = some (.lst (ks.map V.int)) ∧ ks.length ≤ 63 ∧ (∀ k ∈ ks, 0 ≤ k), fun _ _ z => z, ?_⟩
        refine ⟨_, rfl, .inl ⟨rfl, _, SqL.of hc'⟩, c, _, 0, 0, .int k, rfl, rfl, hc', by decide, by decide, ?_, rfl, ?_⟩
        · show seqIndex? 0 ((k :: r).map V.int).length = some 0
          show seqIndex? 0 (((k :: r).map V.int).length) = some 0
          exact seq0 (by rw [List.length_map, List.length_cons]; omega)
        · refine ⟨r.length, by show r.length < r.length + 1; omega, r, rfl, rfl, ?_, ?_, ?_, ?_, ?_⟩
          · intro b h1 h2
            rw [upd_ne h2]
            exact dr b h1 h2
          · rw [upd_ne npc]
            exact hp'
          · exact upd_same
          · have : r.length + 1 ≤ 63 := hl'
            omega
          · exact fun x hx => h0' x (List.mem_cons_of_mem _ hx)
      · have kne : k ≠ 0 := fun z => h3 (by rw [z]; rfl)
        have k1 := h0' k List.mem_cons_self
        refine ⟨_, rfl, c, _, rfl, .inl (SqL.of hc'), _, _, rfl, rfl, _, rfl, ite2 (fun _ => ?_) (fun z => absurd h2 z)⟩
        refine ⟨_, rfl, c, _, 0, .int k, rfl, rfl, SqL.of hc', atI_nat (j := 0) rfl, ?_⟩
        refine ⟨_, rfl, _, rfl, k, (m : Int), rfl, rfl, ⟨by omega, by omega⟩, _, rfl, c, _, 0, 0, rfl, rfl, hc', ix0 (by rw [List.length_map, List.length_cons]; omega), ?_⟩
        refine ⟨_, rfl, .inl ⟨_, rfl, _, rfl, _, _, rfl, rfl, by show (0 : Int) < (m : Int); omega, ?_⟩⟩
        have e1 : k % (m : Int) = (((k % (m : Int)).toNat : Nat) : Int) := (Int.toNat_of_nonneg (Int.emod_nonneg _ (by omega))).symm
        have e2 := Int.emod_lt_of_pos k (show (0 : Int) < (m : Int) by omega)
        show Q (V.int (k % (m : Int))) _
        rw [e1]
        refine q _ _ (fun z => by omega) (fun _ => by omega) ⟨⟨seed, (k / (m : Int)) :: r, ?_, ?_, hl', ?_, s0, s1⟩, npc⟩ ?_
        · rw [upd_ne npc]
          exact hp'
        · exact upd_same
        · intro x hx
          rcases List.mem_cons.mp hx with rfl | hx
          · exact Int.ediv_nonneg k1 (by omega)
          · exact h0' x (List.mem_cons_of_mem _ hx)
        · intro b z1 z2
          rw [upd_ne z2]
          exact dr b z1 z2
    · have e0 : ks = [] := by
        cases ks with
        | nil => rfl
        | cons k r => exact absurd (decide_eq_true (show (0 : Int) < (((k :: r).map V.int).length : Int) by rw [List.length_map, List.length_cons]; omega)) h2
      subst e0
      refine ⟨_, rfl, c, _, rfl, .inl (SqL.of hc'), _, _, rfl, rfl, _, rfl, ite2 (fun z => absurd z h2) (fun _ => ?_)⟩
      refine ⟨_, rfl, p, _, 1, _, rfl, rfl, SqL.of hp', atI_nat (j := 1) rfl, _, _, rfl, rfl, .inl ⟨by omega, by omega⟩, _, _, rfl, rfl, .inl ⟨_, rfl, _, _, rfl, rfl, by show (0 : Int) < 2147483647; decide, ?_⟩⟩
      have b0 := Int.emod_nonneg (seed * 48271 + 12345) (show (2147483647 : Int) ≠ 0 by decide)
      have b1 := Int.emod_lt_of_pos (seed * 48271 + 12345) (show (0 : Int) < 2147483647 by decide)
      refine ⟨_, rfl, _, rfl, p, _, 1, 1, rfl, rfl, hp', rfl, ?_⟩
      refine ⟨_, rfl, _, _, rfl, rfl, ⟨by show (0 : Int) < 64; decide, by show (64 : Int) < 1073741824; decide⟩, .inl ⟨_, rfl, _, rfl, _, _, rfl, rfl, by show (0 : Int) < (m : Int); omega, ?_⟩⟩
      have e1 : (seed * 48271 + 12345) % 2147483647 / 64 % (m : Int) = ((((seed * 48271 + 12345) % 2147483647 / 64 % (m : Int)).toNat : Nat) : Int) := (Int.toNat_of_nonneg (Int.emod_nonneg _ (by omega))).symm
      have e2 := Int.emod_lt_of_pos ((seed * 48271 + 12345) % 2147483647 / 64) (show (0 : Int) < (m : Int) by omega)
      show Q (V.int ((seed * 48271 + 12345) % 2147483647 / 64 % (m : Int))) _
      rw [e1]
      refine q _ _ (fun z => by omega) (fun _ => by omega) ⟨⟨(seed * 48271 + 12345) % 2147483647, [], upd_same, ?_, by decide, (fun x hx => nomatch hx), b0, by omega⟩, npc⟩ ?_
      · rw [upd_ne (Ne.symm npc)]
        exact hc'
      · intro b z1 z2
        rw [upd_ne z1]
        exact dr b z1 z2
/-! ### _law_pick -/
def spPick : Sp := fun vs H Q _ => ∃ (p c a : Addr) (xs : List V), vs = [.ref p, .ref a] ∧ H a = some (.lst xs) ∧ a ≠ p ∧ a ≠ c ∧ 0 < xs.length ∧ xs.length < 1000 ∧ StateAt H p c ∧
  ∀ H' v, v ∈ xs → StateAt H' p c → Drawn p c H H' → Q v H'
theorem ok_pick {f fD : Addr} {fd fdD : FuncData} (F : Fun K "_law_pick" "_law_pick" sPick f fd) (GD : FnOk P w K mg base CX0 1 fD fdD ["state", "many"] spDraw) (bD : Binds K fdD ["state", "many"] []) (gD : mg "_law_draw" = some (.ref fD)) (kD : PySem.W.keepIn K (.ref fD) = true) (ml : mg "len" = none) :
    FnOk P w K mg base CX0 2 f fd ["state", "row"] spPick := by
  refine F.ok scPick (fun vs H Q E h => ?_) (fun cdv A outer s H vs Q E hr h => ?_)
  · obtain ⟨p, c, a, xs, rfl, _⟩ := h
    rfl
  · obtain ⟨p, c, a, xs, rfl, ha, np, nc, l0, l1, st, q⟩ := h
    refine ⟨_, (pss_one (ps_ret (pe_ix ix_list (pv 1) (pe_call GD hr (by rfl) gD kD bD .nil pass0 (pa_cons (pv 0) (pa_cons (pe_callB call_len_seq (by rfl) ml PySem.boot_len (pa_cons (pv 1) pa_nil)) pa_nil))) (fun _ _ => rfl)))), ?_⟩
    refine ⟨_, rfl, _, rfl, _, rfl, a, _, rfl, .inl (SqL.of ha), p, c, xs.length, rfl, by omega, st, fun H' r _ hr2 st' dr => ?_⟩
    have lt := hr2 l0
    have ha' : H' a = some (.lst xs) := (dr a np nc).trans ha
    refine ⟨a, _, _, xs[r], rfl, rfl, SqL.of ha', atI_nat (List.getElem?_eq_getElem lt), ?_⟩
    exact q H' _ (List.getElem_mem lt) st' dr
end
end K85
namespace K85
open PySem PySem.Spec PyProof.Rows L2 QR TL
open GxR (TabB TabG Tabbed GenS)
abbrev sLRec : Stmt := topS 26
theorem scLRec : FnScope ["kind", "text", "body", "number", "char"] ["kind", "text"] (defScope sLRec) := ⟨rfl, rfl, rfl, by decide +kernel, rfl, by decide +kernel, by decide +kernel⟩
theorem sgSp : Str.ofString " " = Sg [32] := by decide +kernel
theorem sgCo : Str.ofString ":" = Sg [58] := by decide +kernel
theorem sgSe : Str.ofString ";" = Sg [59] := by decide +kernel
theorem sg_app (a b : List Nat) : Sg a ++ Sg b = Sg (a ++ b) := ext_tl (by rw [tl_append])
theorem sg_num (n : Nat) : Str.ofString (toString (n : Int)) = Sg (numL n) := ext_tl (tl_num n)
theorem sg_of (t : Str) : Sg (tl t) = t := mk_tl t
theorem sg_len (l : List Nat) : (Sg l).length = l.length := by rw [len_tl]
theorem app_size {a b : List Nat} {n : Nat} (h : a.length + b.length ≤ n) : (Sg a).length + (Sg b).length ≤ n := by
  rw [sg_len a, sg_len b]
  exact h
theorem sg_tl (l : List Nat) : tl (Sg l) = l := rfl
theorem small_nat (n : Nat) (h : n < 2 ^ 60) : ((n : Nat) : Int).natAbs.log2 < 1920 := log2_small (n := 60) (by omega) (by decide) (by decide)
section
variable {P : Program} {w : World} {K : PySem.W.Frag} {mg : Str → Option Value} {base : Heap}
theorem ok_lrec {f : Addr} {fd : FuncData} (F : Fun K "_law_record" "_law_record" sLRec f fd) (ml : mg "len" = none) (ms : mg "str" = none) (mi : mg "int" = none) (mo : mg "ord" = none) :
    FnOk P w K mg base CX0 1 f fd ["kind", "text"] spRec := by
  refine F.ok scLRec (fun vs H Q E h => ?_) (fun cdv A outer s H vs Q E hr h => ?_)
  · obtain ⟨k, t, rfl, _⟩ := h
    rfl
  · obtain ⟨k, t, rfl, hk, ht, q⟩ := h
    refine ⟨_, (pss_cons (ps_set (i := 2) scLRec.nd rfl (.inl rfl) (pe_op op_add_str (pe_op op_add_str (pe_op op_add_str (pe_op op_add_str (pe_callTy call_str_int (by rfl) ms (by decide +kernel) (pa_cons (pv 0) pa_nil)) pe_str)
          (pe_callTy call_str_int (by rfl) ms (by decide +kernel) (pa_cons (pe_callB call_len_str (by rfl) ml PySem.boot_len (pa_cons (pv 1) pa_nil)) pa_nil))) pe_str) (pv 1)))
      (pss_cons (ps_set (i := 3) scLRec.nd rfl (.inl rfl) pe_int)
      (pss_cons (ps_for PassesOwn.never rfl (pi_str (pv 2)) (pg_name (i := 4) scLRec.nd rfl (.inl rfl))
        (pss_one (ps_set (i := 3) scLRec.nd rfl (.inl rfl) (pe_op op_mod (pe_callTy call_int1 (by rfl) mi (by decide +kernel) (pa_cons (pe_op op_add (pe_op op_add (pe_op op_mul (pv 3) pe_int)
          (pe_callB call_ord (by rfl) mo (by decide +kernel) (pa_cons (pv 4) pa_nil))) pe_int) pa_nil)) pe_int))))
      (pss_one (ps_ret (pe_op op_add_str (pe_op op_add_str (pe_op op_add_str (pv 2) pe_str) (pe_callTy call_str_int (by rfl) ms (by decide +kernel) (pa_cons (pv 3) pa_nil))) pe_str)))))), ?_⟩
    have lt : t.length = (tl t).length := len_tl t
    have hb := body_len (k := k) (t := tl t) hk (by omega)
    have n1 := num_le_of (n := k) (k := 0) (by omega)
    have n2 := num_le_of (n := (tl t).length) (k := 6) (by omega)
    have lc := chk_lt (bodyL k (tl t))
    have n3 := num_le_of (n := chkL (bodyL k (tl t))) (k := 9) (by omega)
    have zl : 2000000 ≤ sizeLine := by
      rw [sizeLine_eq]
      decide
    refine ⟨_, rfl, (k : Int), rfl, small_nat k (by omega), _, _, rfl, rfl, ?_, _, rfl, t, rfl, by omega, (t.length : Int), rfl, small_nat _ (by omega), _, _, rfl, rfl, ?_, _, _, rfl, rfl, ?_, _, rfl, _, _, rfl, rfl, ?_, ?_⟩
    · rw [sg_num, sgSp]
      refine app_size ?_
      show _ + 1 ≤ _
      omega
    · rw [sg_num, sg_num, sgSp, sg_app]
      refine app_size ?_
      rw [List.length_append, lt]
      show (numL k).length + 1 + _ ≤ _
      omega
    · rw [sg_num, sg_num, sgSp, sgCo, sg_app, sg_app]
      refine app_size ?_
      rw [List.length_append, List.length_append, lt]
      show (numL k).length + 1 + (numL (tl t).length).length + 1 ≤ _
      omega
    · rw [sg_num, sg_num, sgSp, sgCo, sg_app, sg_app, sg_app, sg_len (_ ++ _), List.length_append, List.length_append, List.length_append, lt]
      show (numL k).length + 1 + (numL (tl t).length).length + 1 + _ ≤ _
      omega
    have eb : Str.ofString (toString (k : Int)) ++ Str.ofString " " ++ Str.ofString (toString (t.length : Int)) ++ Str.ofString ":" ++ t = Sg (bodyL k (tl t)) := by
      rw [sg_num, sg_num, sgSp, sgCo, lt]
      conv => lhs; arg 2; rw [← sg_of t]
      rw [sg_app, sg_app, sg_app, sg_app]
      unfold bodyL
      refine congrArg Sg ?_
      simp only [List.append_assoc, List.cons_append, List.nil_append]
    rw [eb]
    have es : (Sg (bodyL k (tl t))).cps.size = (bodyL k (tl t)).length := by simp
    refine ⟨_, rfl, Sg (bodyL k (tl t)), rfl, fun i m σ H' => ∃ y, σ = [some (.int (k : Int)), some (.str t), some (.str (Sg (bodyL k (tl t)))), some (.int ((chkL ((bodyL k (tl t)).take i) : Nat) : Int)), y] ∧ i + m = (bodyL k (tl t)).length ∧ H' = H, ⟨(bodyL k (tl t)).length, none, rfl, by omega, rfl⟩, fun i m σ H1 hW => ?_⟩
    obtain ⟨y, rfl, em, rfl⟩ := hW
    have lt2 := chk_lt ((bodyL k (tl t)).take i)
    by_cases hi : i < (bodyL k (tl t)).length
    · refine .inr ⟨by show i < (Sg (bodyL k (tl t))).cps.size; omega, fun σ' H' => ∃ y, σ' = [some (.int (k : Int)), some (.str t), some (.str (Sg (bodyL k (tl t)))), some (.int ((chkL ((bodyL k (tl t)).take (i + 1)) : Nat) : Int)), y] ∧ H' = H1, fun σ' H' hN => ?_, fun v H' hy => ?_⟩
      · obtain ⟨y', e1, e2⟩ := hN
        exact ⟨m - 1, by omega, y', e1, by omega, e2⟩
      · obtain ⟨rfl, c, hc, rfl⟩ := hy
        have ec : (bodyL k (tl t))[i]? = some c := by
          rw [← hc]
          simp
        refine ⟨_, rfl, _, _, rfl, rfl, .inl ⟨by omega, by omega⟩, _, rfl, ⟨#[c]⟩, rfl, rfl, _, _, rfl, rfl, _, _, rfl, rfl, .inl ⟨_, rfl, _, _, rfl, rfl, (by show (0 : Int) < 4294967291; decide), some (.str ⟨#[c]⟩), ?_, rfl⟩⟩
        rw [chk_take ec]
        have e9 : (((chkL ((bodyL k (tl t)).take i) : Nat) : Int) * 257 + ((c : Nat) : Int) + 1) % 4294967291 = (((chkL ((bodyL k (tl t)).take i) * 257 + c + 1) % 4294967291 : Nat) : Int) := by omega
        rw [← e9]
        rfl
    · refine .inl ⟨by show (Sg (bodyL k (tl t))).cps.size ≤ i; omega, ?_⟩
      have e : (bodyL k (tl t)).take i = bodyL k (tl t) := List.take_of_length_le (by omega)
      rw [e]
      refine ⟨_, rfl, _, _, rfl, rfl, ?_, _, rfl, _, rfl, small_nat _ (by omega), _, _, rfl, rfl, ?_, _, _, rfl, rfl, ?_, ?_⟩
      · rw [sgCo]
        refine app_size ?_
        show _ + 1 ≤ _
        omega
      · rw [sgCo, sg_app, sg_num]
        refine app_size ?_
        rw [List.length_append]
        show _ + 1 + _ ≤ _
        omega
      · rw [sgCo, sgSe, sg_num, sg_app (bodyL k (tl t)) [58], sg_app (bodyL k (tl t) ++ [58]) (numL _)]
        refine app_size ?_
        rw [List.length_append, List.length_append]
        show _ + 1 + _ + 1 ≤ _
        omega
      · have er : Sg (bodyL k (tl t)) ++ Str.ofString ":" ++ Str.ofString (toString ((chkL (bodyL k (tl t)) : Nat) : Int)) ++ Str.ofString ";" = Sg (recL k (tl t)) := by
          rw [sgCo, sgSe, sg_num, sg_app, sg_app, sg_app]
          unfold recL
          refine congrArg Sg ?_
          simp only [List.append_assoc, List.cons_append, List.nil_append]
        rw [er]
        exact q
end
end K85
/-! any(kind == N for kind, _ in rows): own rules -/
namespace K85
open PySem PySem.Spec PyProof.Rows L2 GxR QR
section
variable {X : Cx} {pins : List (Addr × Obj)} {σ : L2.St} {H : Hp} {s : Shared}
theorem vals_refs : ∀ {as : List Addr} {its : List Value}, Vals (as.map V.ref) its → its = as.map Value.ref
  | [], _, .nil => rfl
  | a :: as, _, .cons (r : RelV (.ref a) _) h => by
    have e := vals_refs h
    subst e
    have e2 : _ = Value.ref a := r
    rw [e2]
    rfl
/-- the element is a test of the pair's first -/
def EltT (X : Cx) (P : Addr) (scope : Scope) (x : Str) (elt : Expr) (s1 : Shared) (rs : List (Nat × List Nat)) (tr : Nat → Bool) : Prop :=
  ∀ (ce : Env) (A' : Around) (E' : Value → Shared → Prop) (i : Nat) (r : Nat × List Nat) (t : Tok) (s2 : Shared) (m2 : Str → Option Value), A'.handled = none → ce.scope = scope → ce.globals = X.env.globals →
    rs[i]? = some r → s2.heap.Ns ce.locals m2 → m2 x = some (.int (r.1 : Int) t) → (∀ b o, b ≠ P → s1.heap.get? b = some o → s2.heap.get? b = some o) →
      wpAny (model X.prog X.w) A' (eval elt ce) (fun y s3 => y = .bool (tr i) ∧ Keeps s2 s3) E' s2

theorem gen_makeT {c P : Addr} {elt iter : Expr} {xa xb : Str} {pa pb pt gpos : Pos} {kt : Nat} {scope : Scope} {k : Nat} {Q' : Value → Shared → Prop}
    (hr : Room k X.A) (TB : TabB X.base X.mg c P) (hcode : X.env.code = .ref c) (S : GenS X.env scope xa) (hxb : scope.names.lookup xb = some .local) (hab : xa ≠ xb) (hs : ∀ v, genFold iter X.env v = pure v)
    (h : wpAny (model X.prog X.w) X.A (eval iter X.env) (fun u s1 => ∃ (H1 : Hp) (l : Addr) (as : List Addr) (rs : List (Nat × List Nat)) (tr : Nat → Bool), u = .ref l ∧ Inv X pins σ H1 s1 ∧ TabG H1 P ∧ H1 l = some (.lst (as.map V.ref)) ∧ Tups H1 as rs ∧
      EltT X P scope xa elt s1 rs tr ∧ ∀ g s5, Made X pins σ H1 P as.length tr g s5 → Q' (.ref g) s5) X.xe s) :
    wpAny (model X.prog X.w) X.A (eval (.GeneratorExp elt [⟨.Tuple [.Name xa pa, .Name xb pb] kt pt, iter, [], 0⟩] scope gpos) X.env) Q' X.xe s := by
  have dp := hr.dp
  refine wpAny_GeneratorExp_walksQT hr.hd S.co (closure_ok S.free) S.cell S.dot S.loc hxb hab S.kind (by omega) (thn h ?_) hs
  intro u s1 ⟨H1, l, as, rs, tr, eu, I1, ⟨ps, hP, hps⟩, hL, tu, hel, hQ⟩
  subst eu
  obtain ⟨_, its, nn, hvs, hget⟩ : ObjOk X.prog X.w H1 s1.heap l (.lst (as.map V.ref)) := I1.hok l _ hL
  have eits := vals_refs hvs
  subst eits
  have hIs : s1.heap.IsList l (as.map Value.ref).toArray := ⟨_, hget, rfl, nn, rfl⟩
  have hsz : (as.map Value.ref).toArray.size = as.length := by simp
  have htup : ∀ j, ∃ v : Array Value, j < as.length → ∃ (r : Nat × List Nat) (t1 : Tok) (vb : Value), rs[j]? = some r ∧ v = #[Value.int (r.1 : Int) t1, vb] ∧ s1.heap.IsTuple (as.getD j 0) v := by
    intro j
    by_cases hj : j < as.length
    · have key : ∀ {as : List Addr} {rs : List (Nat × List Nat)} (j : Nat), Tups H1 as rs → j < as.length → ∃ r, rs[j]? = some r ∧ H1 (as.getD j 0) = some (rowH r) := by
        intro as rs j tu
        induction tu generalizing j with
        | nil => intro hj; exact absurd hj (Nat.not_lt_zero _)
        | cons h1 _ ih =>
          intro hj
          cases j with
          | zero => exact ⟨_, rfl, h1⟩
          | succ j =>
            obtain ⟨r, e1, e2⟩ := ih j (Nat.lt_of_succ_lt_succ hj)
            exact ⟨r, e1, e2⟩
      obtain ⟨r, e1, e2⟩ := key j tu hj
      obtain ⟨_, vs, hv, ht⟩ : ObjOk X.prog X.w H1 s1.heap (as.getD j 0) (.tup [.int (r.1 : Int), .str (Sg r.2)]) := I1.hok _ _ e2
      cases hv with
      | cons ra hv =>
        cases hv with
        | cons rb hv =>
          cases hv
          obtain ⟨t1, e⟩ := ra
          subst e
          exact ⟨_, fun _ => ⟨r, t1, _, e1, rfl, ht⟩⟩
    · exact ⟨#[], fun z => absurd z hj⟩
  let vals : Nat → Array Value := fun j => Classical.choose (htup j)
  have hvals : ∀ j, j < as.length → ∃ (r : Nat × List Nat) (t1 : Tok) (vb : Value), rs[j]? = some r ∧ vals j = #[Value.int (r.1 : Int) t1, vb] ∧ s1.heap.IsTuple (as.getD j 0) (vals j) := fun j => Classical.choose_spec (htup j)
  have hTs : ∀ j, j < (as.map Value.ref).toArray.size → s1.heap.IsTuple (as.getD j 0) (vals j) := fun j hj => by
    obtain ⟨_, _, _, _, _, e⟩ := hvals j (hsz ▸ hj)
    exact e
  have hTlt : ∀ j, j < (as.map Value.ref).toArray.size → as.getD j 0 < s1.heap.objs.size := fun j hj => by
    obtain ⟨_, e, _⟩ := hTs j hj
    exact Heap.lt_size e
  have hit : ∀ j, j < (as.map Value.ref).toArray.size → (as.map Value.ref).toArray[j]? = some (.ref (as.getD j 0)) := fun j hj => by
    have hj2 : j < as.length := hsz ▸ hj
    simp [hj2]
  have lL := Heap.lt_size hget
  have W := fun (A' : Around) (hA : A'.handled = none) => (WalksU.listOfTuples (prog := X.prog) (w := X.w) hA s1.heap.objs.size l (Nat.ne_of_lt lL) (as.map Value.ref).toArray (fun j => as.getD j 0) vals hit fun j hj => Nat.ne_of_lt (hTlt j hj)).bound
  refine wpAny_pyIter_list hIs ?_
  generalize hob : ({ cls := .type "list_iterator", data := .fields #[.ref l, .int 0 0] } : Obj) = ob
  -- the table, in the heap before and behind the iterator
  have tb0 : s1.heap.get? P = some { cls := .none, data := .fields ps } := I1.hok P _ hP
  have ltP : P < s1.heap.objs.size := Heap.lt_size tb0
  have tb1 := Heap.get?_push_of_some ob tb0
  have code1 : PySem.W.CodeHd (s1.heap.push ob) c P := TB.code.keeps fun b o e => Heap.get?_push_of_some _ (I1.bk b o e)
  have lim1 := I1.nolimit.push ob
  have lt1 : cStatics < s1.heap.objs.size := let ⟨_, z, _⟩ := I1.nolimit; z.lt
  have neP : cStatics ≠ P := by
    intro e
    obtain ⟨_, ⟨o', es, ep, ho, hd, _⟩, _⟩ := I1.nolimit
    rw [e, tb0] at ho
    cases ho
    cases hd
  have sz1 : (s1.heap.push ob).objs.size = s1.heap.objs.size + 1 := Heap.size_push ..
  have up3 : ∀ h3 : Heap, (s1.heap.push ob).objs.size ≤ h3.objs.size → s1.heap.objs.size < h3.objs.size := fun h3 l => by
    rw [sz1] at l
    exact l
  have lP : l ≠ P := by
    intro e
    rw [e, tb0] at hget
    cases hget
  have tP : ∀ j, j < as.length → as.getD j 0 ≠ P := by
    intro j hj e
    obtain ⟨_, _, _, _, _, o, ho, hc, _⟩ := hvals j hj
    rw [e, tb0] at ho
    cases ho
    cases hc
  have st0 : (s1.heap.push ob).IsListIter s1.heap.objs.size l 0 ∧ (s1.heap.push ob).IsList l (as.map Value.ref).toArray ∧ ∀ k, k < (as.map Value.ref).toArray.size → (s1.heap.push ob).IsTuple (as.getD k 0) (vals k) :=
    ⟨⟨_, Heap.get?_push_size _ (by rw [← hob]; rfl), by rw [← hob], by rw [← hob]; rfl⟩, hIs.push _, fun k hk => (hTs k hk).push _⟩
  refine ⟨lim1, ?_⟩
  have rest : ∀ (code : Value) (h3 : Heap) (tk : Nat) (ps3 : Array Value), Heap.ExtBut P (s1.heap.push ob) h3 → (s1.heap.push ob).objs.size ≤ h3.objs.size → h3.get? P = some { cls := .none, data := .fields ps3 } →
      (∃ q, ps3 = ps ++ q) → TriplesOk ps3.toList →
      wpAny (model X.prog X.w) X.A (builtinsFor X.env.globals X.env.builtins) (fun bi s4 =>
        ∃ Ia fp wr n0 Pt St0 Mid pz F, Value.ref s1.heap.objs.size = .ref Ia ∧ (∀ A' : Around, A'.handled = none → WalksU X.prog X.w A' Ia fp wr n0 Pt St0 Mid) ∧ (∀ i vals, Pt i vals → ∃ va vb, vals = #[va, vb]) ∧ St0 0 s4.heap ∧ (∀ b ∈ fp, b < s4.heap.objs.size) ∧ s4.heap.NoLimit ∧ cStatics ∉ wr ∧
          (∀ hf : Heap, (∀ b o, s4.heap.get? b = some o → hf.get? b = some o) →
            QuietGenT X.prog X.w (genEnv scope (cloFrom X.env.cells scope.names []) s4.heap.objs.size code bi X.env) xa xb [] elt (List.range s4.heap.objs.size) wr Pt pz F hf) ∧
          (∀ a h5 tk gs, gs.bare = true → s4.heap.objs.size < a → h5.objs.size = a + 1 → (∀ b o, s4.heap.get? b = some o → h5.get? b = some o) →
            WalksS X.prog X.w X.A.in4 a (a :: s4.heap.objs.size :: List.range s4.heap.objs.size) (s4.heap.objs.size :: wr) (GenOnlyQ s4.gens.size) (passing pz n0 0).length
              (fun j y => ∃ i, (passing pz n0 0)[j]? = some i ∧ F i y) (GenAt X.prog X.w X.A.in4 a s4.gens.size s4.heap.objs.size (List.range s4.heap.objs.size) wr pz n0 F) →
            GenAt X.prog X.w X.A.in4 a s4.gens.size s4.heap.objs.size (List.range s4.heap.objs.size) wr pz n0 F 0 { s4 with gens := s4.gens.push gs, toks := tk, heap := h5 } →
              Q' (.ref a) { s4 with gens := s4.gens.push gs, toks := tk, heap := h5 })) X.xe { s1 with heap := h3, toks := tk } := by
    intro code h3 tk ps3 ext le3 tb3 hq ok3
    obtain ⟨bm, om, m1, m2, m3, m4, m5, m6, m7, m8⟩ := TB.bm
    have k3 : ∀ b o, b ≠ P → s1.heap.get? b = some o → h3.get? b = some o := fun b o ne e => ext b o ne (Heap.get?_push_of_some _ e)
    refine wpAny_builtinsFor (m := X.mg) ?_ m1 m2 (k3 _ _ m4 (I1.bk _ _ m5)) m6 m7 m8 ?_
    · rw [I1.ok.glob]
      exact ((I1.mod.glob.keeps I1.bk).push ob).extBut ext TB.gP
    refine ⟨s1.heap.objs.size, _, [s1.heap.objs.size], (as.map Value.ref).toArray.size, _, _, _, fun _ => true, fun i y => y = .bool (tr i), rfl, W, ?_, ?_, ?_, lim1.extBut ext neP, ?_, ?_, ?_⟩
    · rintro i v ⟨hi, rfl⟩
      obtain ⟨r, t1, vb, _, e, _⟩ := hvals i (hsz ▸ hi)
      exact ⟨_, _, e⟩
    · refine (W X.A hr.hd).frame _ _ _ st0 fun b hb o e => ext b o ?_ e
      intro z
      rw [z] at hb
      rcases List.mem_cons.mp hb with q | hb
      · rw [q] at ltP
        exact Nat.lt_irrefl _ ltP
      · rcases List.mem_cons.mp hb with q | hb
        · exact lP q.symm
        · obtain ⟨j, hj, e9⟩ := List.mem_map.mp hb
          exact tP j (hsz ▸ List.mem_range.mp hj) e9
    · intro b hb
      show b < h3.objs.size
      rcases List.mem_cons.mp hb with q | hb
      · rw [q]
        exact up3 h3 le3
      · rcases List.mem_cons.mp hb with q | hb
        · rw [q]
          exact Nat.lt_trans lL (up3 h3 le3)
        · obtain ⟨j, hj, e9⟩ := List.mem_map.mp hb
          rw [← e9]
          exact Nat.lt_trans (hTlt j (List.mem_range.mp hj)) (up3 h3 le3)
    · intro z
      rcases List.mem_cons.mp z with q | q
      · rw [q] at lt1
        exact Nat.lt_irrefl _ lt1
      · cases q
    · intro hf hk
      constructor
      · intro A' E' i va vb s2 mm hA hv hn ha hb hkk
        rw [List.forIn_nil]
        exact wpAny_pure ⟨rfl, keeps_refl _⟩
      · intro A' E' i va vb s2 mm hA hv _ hn hma hmb hkk
        obtain ⟨hi, ev⟩ := hv
        obtain ⟨r, t1, vb', er, e, _⟩ := hvals i (hsz ▸ hi)
        rw [e] at ev
        have e7 : va = .int (r.1 : Int) t1 := by
          have := congrArg Array.toList ev
          injection this
        rw [e7] at hma
        refine hel _ A' E' i r t1 s2 mm hA rfl rfl er hn hma fun b o ne e => ?_
        have e3 := k3 b o ne e
        have l1 := Heap.lt_size e
        refine hkk b (List.mem_range.mpr (Heap.lt_size e3)) ?_ o (hk b o e3)
        intro z
        rcases List.mem_cons.mp z with q | q
        · rw [q] at l1
          exact Nat.lt_irrefl _ l1
        · cases q
    · intro g h5 tk5 gs bare5 gt5 sz5 k5 W5 at5
      simp only [GxR.passing_true, List.length_range, hsz] at W5
      simp only [hsz] at at5
      refine hQ g _ ⟨_, _, _, _, _, W5.in4_1, at5, ?_, fun s' mv => ?_⟩
      · intro j y sj Qj Ej ⟨i, hij, ey⟩ hQj
        obtain ⟨lj, ej⟩ := List.getElem?_eq_some_iff.mp hij
        rw [List.getElem_range] at ej
        rw [ey, ← ej]
        exact wpAny_truthy_bool hQj
      · obtain ⟨q, eq3⟩ := hq
        have out : ∀ b o, s1.heap.get? b = some o → b ∉ h3.objs.size :: [s1.heap.objs.size] := by
          intro b o e hb
          have l1 := Heap.lt_size e
          rcases List.mem_cons.mp hb with z | z
          · rw [z] at l1
            have l2 : h3.objs.size < s1.heap.objs.size := l1
            have := up3 h3 le3
            omega
          · rcases List.mem_cons.mp z with z | z
            · rw [z] at l1
              exact Nat.lt_irrefl _ l1
            · cases z
        have tb' : s'.heap.get? P = some { cls := .none, data := .fields (ps ++ q) } := by
          rw [← eq3]
          exact mv.heap P _ (out P _ tb0) (k5 P _ tb3)
        have J := inv_tab (g' := s'.gens) (d' := s'.drawn) (t' := s'.toks) I1 hP (fun b o ne e => mv.heap b o (out b o e) (k5 b o (k3 b o ne e))) tb' (AllBare.movedS (I1.bare.push bare5) mv)
        rw [sh_eta s1 s' mv.os] at J
        exact ⟨upd H1 P (.tbl (ps ++ q)), ⟨⟨ps ++ q, upd_same, by rw [← eq3]; exact ok3⟩, fun b ne => upd_ne ne⟩, J⟩
  cases hc : codeAmong gpos ps.toList with
  | some cv =>
    exact wpAny_genexprCode_hit hcode (code1.code tb1 hps) hc (rest cv _ s1.toks ps (Heap.ExtBut.refl _ _) (Nat.le_refl _) tb1 ⟨#[], (Array.append_empty).symm⟩ hps)
  | none =>
    refine wpAny_genexprCodeX hcode (code1.code tb1 hps) (code1.tab tb1) hc ?_
    intro c' h' tk ext ge lt isC _ tab' _
    obtain ⟨o1, v1, f1, f2, f3, f4, f5, f6, f7, f8, _, _, _, _, _, _, _, _, _, okT, _⟩ := isC
    exact rest _ h' tk _ ext (Nat.le_trans ge (Nat.le_of_lt lt)) tab'.2 ⟨_, rfl⟩ okT

/-- any(kind == N for kind, _ in rows), N the module's number m -/
def tAnyMk (P : Addr) (m : Nat) (te : TE) : TE := fun σ H Q => te σ H fun v H1 => ∃ (l : Addr) (as : List Addr) (rs : List (Nat × List Nat)), v = .ref l ∧ H1 l = some (.lst (as.map V.ref)) ∧ Tups H1 as rs ∧ TabG H1 P ∧
  ∀ H2, Tabbed P H1 H2 → Q (.bl (rs.any fun r => decide ((r.1 : Int) = (m : Int)))) H2
theorem any_trF (f : Nat × List Nat → Bool) : ∀ (rs : List (Nat × List Nat)), (List.range rs.length).any (fun i => ((rs[i]?).map f).getD false) = rs.any f
  | [] => rfl
  | r :: rs => by
    rw [List.length_cons, List.range_succ_eq_map, List.any_cons, List.any_map, List.any_cons, ← any_trF f rs]
    rfl
theorem pe_anyMk {c P : Addr} {iter : Expr} {xa xb N : Str} {m : Nat} {tN : Tok} {pa pb pt p pos gpos p1 p2 p3 : Pos} {kt : Nat} {scope : Scope} {te : TE} {k : Nat}
    (hr : Room k X.A) (hg : Gl X "any") (hm : X.mg "any" = none) (TB : TabB X.base X.mg c P) (hcode : X.env.code = .ref c) (S : GenS X.env scope xa) (hxb : scope.names.lookup xb = some .local) (hab : xa ≠ xb) (hi : PE X iter te) (hs : ∀ v, genFold iter X.env v = pure v)
    (hN : X.mg N = some (.int (m : Int) tN)) (hgN : scope.names.lookup N = some .globalImplicit)
    (he : starEach [.GeneratorExp (.Compare (.Name xa p1) [.Eq] [.Name N p2] p3) [⟨.Tuple [.Name xa pa, .Name xb pb] kt pt, iter, [], 0⟩] scope gpos] X.env = (false, eval (.GeneratorExp (.Compare (.Name xa p1) [.Eq] [.Name N p2] p3) [⟨.Tuple [.Name xa pa, .Name xb pb] kt pt, iter, [], 0⟩] scope gpos) X.env) :: starEach [] X.env := by rfl)
    (hd : (xa == ("__debug__" : Str)) = false := by decide) (hd2 : (N == ("__debug__" : Str)) = false := by decide) :
    PE X (.Call (.Name "any" p) [.GeneratorExp (.Compare (.Name xa p1) [.Eq] [.Name N p2] p3) [⟨.Tuple [.Name xa pa, .Name xb pb] kt pt, iter, [], 0⟩] scope gpos] [] pos) (tAnyMk P m te) := by
  refine ⟨fun pins s σ H Q I h => ?_⟩
  refine wpAny_Call_Name_kw (ld_blt I hg hm (show bootBuiltins "any" = some (.builtin "any") by decide +kernel) ?_)
  refine PyProof.Rows.callWith_builtin1 ?_ he (by rfl)
  rw [he]
  refine Calls.spliced_cons (gen_makeT (pins := pins) (σ := σ) hr TB hcode S hxb hab hs (thn (hi.run pins s σ H _ I h) ?_))
  intro u s1 ⟨v, H1, I1, r1, l, as, rs, ev, eL, tu, T1, q⟩
  subst ev
  obtain rfl : u = Value.ref l := r1
  refine ⟨H1, l, as, rs, fun i => ((rs[i]?).map fun r => decide ((r.1 : Int) = (m : Int))).getD false, rfl, I1, T1, eL, tu, ?_, fun g s5 mk => ?_⟩
  · intro ce A' E' j r t s2 m2 _ es eg er hn hmx kp
    refine wpAny_Compare1 ?_ (by with_unfolding_all rfl)
    refine wpAny_Name (wpAny_loadName_local (by rw [es]; exact S.kind) (by show ce.scope.names.lookup xa = _; rw [es]; exact S.loc) hn hmx ?_) hd
    refine Calls.Name_function_global (by rw [es]; exact S.kind) (by show ce.scope.names.lookup N = _; rw [es]; exact hgN) (Calls.loadGlobal_global (mg := X.mg) ?_ hN ?_) hd2
    · rw [eg, I1.ok.glob]
      obtain ⟨oz, z1, z2⟩ := (I1.mod.glob.keeps I1.bk)
      exact (I1.mod.glob.keeps I1.bk).at fun o e => kp _ o TB.gP e
    · refine eq_int ⟨?_, keeps_refl _⟩
      show Value.bool _ = Value.bool ((Option.map (fun r : Nat × List Nat => decide ((r.1 : Int) = (m : Int))) rs[j]?).getD false)
      rw [er]
      show Value.bool _ = Value.bool (decide _)
      rw [Bool.beq_eq_decide_eq]
  · obtain ⟨fp, wr, G, F, St0, W, st5, tru, back⟩ := mk
    refine Calls.spliced_nil (call_any_walkS (W.self 0 _ _ _ st5 ⟨g, fp, wr, G, as.length, F, St0, _, rfl, W, st5, tru, fun s' mv => ?_⟩))
    obtain ⟨H2, t2, I2⟩ := back s' mv
    refine ⟨.bl _, H2, I2, rfl, ?_⟩
    rw [tu.len, any_trF]
    exact q H2 t2
end
end K85
namespace K85
open PySem PySem.Spec PyProof.Rows L2 QR TL
/-! ### rows: mathematics -/
abbrev Rw := List (Nat × List Nat)
def recR (r : Nat × List Nat) : List Nat := recL r.1 r.2
def flatR : Rw → List Nat
  | [] => []
  | r :: rs => recR r ++ flatR rs
def keptR : Rw → Nat → Rw
  | [], _ => []
  | r :: rs, n => if n < (recR r).length then [] else r :: keptR rs (n - (recR r).length)
def okR (R : Rw) : Prop := ∀ r ∈ R, 1 ≤ r.1 ∧ r.1 ≤ 3 ∧ r.2.length ≤ 20
def textsR (R : Rw) : List (List Nat) := (R.filter fun r => r.1 == 2).map (·.2)
def extraR (R : Rw) : Nat := (R.filter fun r => !(r.1 == 2)).length
def markR (R : Rw) : Bool := R.tail.any fun r => r.1 == 3
theorem recR_pos (r : Nat × List Nat) : 7 ≤ (recR r).length := by
  have := recL_len r.1 r.2
  show 7 ≤ (recL r.1 r.2).length
  omega
theorem flat_app : ∀ (a b : Rw), flatR (a ++ b) = flatR a ++ flatR b
  | [], b => rfl
  | r :: rs, b => by
    show recR r ++ flatR (rs ++ b) = recR r ++ flatR rs ++ flatR b
    rw [flat_app rs b, List.append_assoc]
theorem kept_pre : ∀ (R : Rw) (n : Nat), keptR R n <+: R
  | [], _ => List.prefix_refl _
  | r :: rs, n => by
    unfold keptR
    split
    · exact List.nil_prefix
    · exact List.prefix_cons_inj r |>.mpr (kept_pre rs _)
theorem kept_full : ∀ (R : Rw) (n : Nat), (flatR R).length ≤ n → keptR R n = R
  | [], _, _ => rfl
  | r :: rs, n, h => by
    have h2 : (recR r).length + (flatR rs).length ≤ n := by
      rw [← List.length_append]
      exact h
    unfold keptR
    rw [if_neg (by omega), kept_full rs _ (by omega)]
theorem kept_mono : ∀ (R : Rw) (n m : Nat), n ≤ m → keptR R n <+: keptR R m
  | [], _, _, _ => List.prefix_refl _
  | r :: rs, n, m, h => by
    unfold keptR
    by_cases c : n < (recR r).length
    · rw [if_pos c]
      exact List.nil_prefix
    · rw [if_neg c, if_neg (by omega)]
      exact List.prefix_cons_inj r |>.mpr (kept_mono rs _ _ (by omega))
theorem kept_zero : ∀ (R : Rw), keptR R 0 = []
  | [] => rfl
  | r :: rs => by
    have := recR_pos r
    unfold keptR
    rw [if_pos (by omega)]
theorem kept_app : ∀ (R Z : Rw) (n : Nat), n ≤ (flatR R).length → keptR (R ++ Z) n = keptR R n
  | [], Z, n, h => by
    have e : n = 0 := Nat.le_zero.mp h
    subst e
    exact kept_zero Z
  | r :: rs, Z, n, h => by
    have h2 : n ≤ (recR r).length + (flatR rs).length := by
      rw [← List.length_append]
      exact h
    show keptR (r :: (rs ++ Z)) n = keptR (r :: rs) n
    unfold keptR
    by_cases c : n < (recR r).length
    · rw [if_pos c, if_pos c]
    · rw [if_neg c, if_neg c, kept_app rs Z _ (by omega)]
theorem flat_kept : ∀ (R : Rw) (n : Nat), (flatR (keptR R n)).length ≤ n
  | [], _ => Nat.zero_le _
  | r :: rs, n => by
    unfold keptR
    by_cases c : n < (recR r).length
    · rw [if_pos c]
      exact Nat.zero_le _
    · rw [if_neg c]
      show (recR r ++ flatR _).length ≤ n
      have := flat_kept rs (n - (recR r).length)
      rw [List.length_append]
      omega
theorem flat_kept_le : ∀ (R : Rw) (n : Nat), (flatR (keptR R n)).length ≤ (flatR R).length
  | R, n => by
    obtain ⟨z, e⟩ := kept_pre R n
    conv => rhs; rw [← e, flat_app, List.length_append]
    omega
/-- what stands at the beginning of the flat text -/
theorem flat_kept_take (R : Rw) (n : Nat) : ((flatR R).take n).take (flatR (keptR R n)).length = flatR (keptR R n) := by
  have l := flat_kept R n
  obtain ⟨z, e⟩ := kept_pre R n
  rw [List.take_take, Nat.min_eq_left l]
  conv => lhs; arg 2; rw [← e, flat_app]
  rw [List.take_left]
theorem pre_free {k k' : Nat} {t t' z : List Nat} (h1 : 1 ≤ k) (h3 : k ≤ 3) (g1 : 1 ≤ k') (g3 : k' ≤ 3) (e : recL k t = recL k' t' ++ z) : z = [] := by
  have a := parse_rec (M := t.length + t'.length) (r3 := []) h1 h3 (Nat.le_add_right _ _) (t := t)
  have b := parse_rec (M := t.length + t'.length) (r3 := z) g1 g3 (Nat.le_add_left _ _) (t := t')
  rw [List.append_nil, e, b] at a
  injection a with a
  injection a with _ a
  injection a
theorem parse_cut {M k n : Nat} {t : List Nat} (h1 : 1 ≤ k) (h3 : k ≤ 3) (hn : n < (recL k t).length) : parse M ((recL k t).take n) = none := by
  cases h : parse M ((recL k t).take n) with
  | none => rfl
  | some x =>
    obtain ⟨k', t', r3⟩ := x
    obtain ⟨g1, g3, e⟩ := parse_some h
    have e2 : recL k t = recL k' t' ++ (r3 ++ (recL k t).drop n) := by
      conv => lhs; rw [← List.take_append_drop n (recL k t), e]
      rw [List.append_assoc]
    have := congrArg List.length (pre_free h1 h3 g1 g3 e2)
    rw [List.length_append, List.length_drop, List.length_nil] at this
    omega
theorem recs_cut (M : Nat) : ∀ (R : Rw) (n : Nat), okR R → ((flatR R).take n).length ≤ M →
    (recsA M ((flatR R).take n)).1 = keptR R n ∧ (recsA M ((flatR R).take n)).2.length = ((flatR R).take n).length - (flatR (keptR R n)).length
  | [], n, _, _ => by
    have e : (flatR []).take n = [] := List.take_nil
    rw [e, recsA_none (parse_nil M)]
    exact ⟨rfl, rfl⟩
  | r :: rs, n, ok, hl => by
    obtain ⟨h1, h3, h20⟩ := ok r List.mem_cons_self
    have ok2 : okR rs := fun x hx => ok x (List.mem_cons_of_mem _ hx)
    have ef : flatR (r :: rs) = recR r ++ flatR rs := rfl
    unfold keptR
    by_cases c : n < (recR r).length
    · have e : (flatR (r :: rs)).take n = (recL r.1 r.2).take n := by
        rw [ef, List.take_append_of_le_length (Nat.le_of_lt c)]
        rfl
      rw [e, if_pos c, recsA_none (parse_cut h1 h3 c)]
      exact ⟨rfl, rfl⟩
    · have e : (flatR (r :: rs)).take n = recL r.1 r.2 ++ (flatR rs).take (n - (recR r).length) := by
        rw [ef, List.take_append, List.take_of_length_le (by omega)]
        rfl
      rw [e, List.length_append] at hl
      have l7 := recL_len r.1 r.2
      obtain ⟨i1, i2⟩ := recs_cut M rs (n - (recR r).length) ok2 (by omega)
      rw [e, if_neg c, recsA_some (parse_rec h1 h3 (by omega))]
      refine ⟨by show (r.1, r.2) :: _ = _; rw [i1], ?_⟩
      show (recsA M ((flatR rs).take (n - (recR r).length))).2.length = _
      rw [i2, List.length_append]
      show _ = _ - (recR r ++ flatR (keptR rs (n - (recR r).length))).length
      rw [List.length_append]
      show _ = (recR r).length + _ - _
      omega
/-! ### texts, marks -/
theorem texts_app (a b : Rw) : textsR (a ++ b) = textsR a ++ textsR b := by
  unfold textsR
  rw [List.filter_append, List.map_append]
theorem extra_app (a b : Rw) : extraR (a ++ b) = extraR a + extraR b := by
  unfold extraR
  rw [List.filter_append, List.length_append]
theorem len_split : ∀ (R : Rw), R.length = (textsR R).length + extraR R
  | [] => rfl
  | r :: rs => by
    have ih := len_split rs
    have e1 : textsR (r :: rs) = textsR [r] ++ textsR rs := texts_app [r] rs
    have e2 : extraR (r :: rs) = extraR [r] + extraR rs := extra_app [r] rs
    rw [e1, e2, List.length_append, List.length_cons, ih]
    have : (textsR [r]).length + extraR [r] = 1 := by
      unfold textsR extraR
      by_cases c : r.1 = 2
      · simp [c]
      · simp [c]
    omega
theorem texts_pre {a b : Rw} (h : a <+: b) : textsR a <+: textsR b := by
  obtain ⟨z, rfl⟩ := h
  rw [texts_app]
  exact List.prefix_append _ _
theorem extra_pre {a b : Rw} (h : a <+: b) : extraR a ≤ extraR b := by
  obtain ⟨z, rfl⟩ := h
  rw [extra_app]
  omega
theorem mark_pre {a b : Rw} (h : a <+: b) (m : markR a = true) : markR b = true := by
  obtain ⟨z, rfl⟩ := h
  cases a with
  | nil => cases m
  | cons r rs =>
    show (rs ++ z).any _ = true
    have m2 : rs.any (fun r => r.1 == 3) = true := m
    rw [List.any_append, m2, Bool.true_or]
theorem mark_ne {a : Rw} (m : markR a = true) : a ≠ [] := fun e => by
  rw [e] at m
  cases m
theorem mark_snoc {a : Rw} {r : Nat × List Nat} (ne : a ≠ []) : markR (a ++ [r]) = (markR a || r.1 == 3) := by
  cases a with
  | nil => exact absurd rfl ne
  | cons x xs =>
    show (xs ++ [r]).any _ = (xs.any _ || _)
    rw [List.any_append]
    simp
theorem ok_pre {a b : Rw} (h : a <+: b) (o : okR b) : okR a := fun r hr => o r (h.subset hr)
theorem ok_snoc {a : Rw} {r : Nat × List Nat} (o : okR a) (h : 1 ≤ r.1 ∧ r.1 ≤ 3 ∧ r.2.length ≤ 20) : okR (a ++ [r]) := fun x hx => by
  rcases List.mem_append.mp hx with hx | hx
  · exact o x hx
  · rw [List.mem_singleton.mp hx]
    exact h
/-- the head, if there is a row -/
def HeadIs (R : Rw) (n : Nat) : Prop := ∀ r Z, R = r :: Z → r = (1, numL n)
theorem head_pre {a b : Rw} {n : Nat} (h : a <+: b) (o : HeadIs b n) : HeadIs a n := fun r Z e => by
  obtain ⟨z, rfl⟩ := h
  subst e
  exact o r (Z ++ z) rfl
theorem head_cons {n : Nat} {Z : Rw} : HeadIs ((1, numL n) :: Z) n := fun r Z' e => by
  injection e with e
  exact e.symm
theorem head_nil {n : Nat} : HeadIs [] n := fun r Z e => nomatch e
theorem head_snoc {a : Rw} {n : Nat} {x : Nat × List Nat} (ne : a ≠ []) (o : HeadIs a n) : HeadIs (a ++ [x]) n := by
  cases a with
  | nil => exact absurd rfl ne
  | cons r rs =>
    intro r' Z e
    injection e with e _
    rw [← e]
    exact o r rs rfl
/-- rows of entries -/
def entR (A : List (List Nat)) : Rw := A.map fun x => (2, x)
theorem texts_ent : ∀ A, textsR (entR A) = A
  | [] => rfl
  | x :: A => by
    have e : textsR (entR (x :: A)) = textsR [(2, x)] ++ textsR (entR A) := texts_app [(2, x)] (entR A)
    rw [e, texts_ent A]
    rfl
theorem extra_ent : ∀ A, extraR (entR A) = 0
  | [] => rfl
  | x :: A => by
    have e : extraR (entR (x :: A)) = extraR [(2, x)] + extraR (entR A) := extra_app [(2, x)] (entR A)
    rw [e, extra_ent A]
    rfl
theorem texts_mem {R : Rw} {x : List Nat} (h : x ∈ textsR R) : (2, x) ∈ R := by
  obtain ⟨r, hr, e⟩ := List.mem_map.mp h
  obtain ⟨hr, e2⟩ := List.mem_filter.mp hr
  have e3 : r.1 = 2 := by simpa using e2
  have : r = (2, x) := by rw [← e3, ← e]
  rw [← this]
  exact hr
/-! ### the invariant -/
structure TInv (d n : Nat) (RU RO : Rw) (sU sO : Nat) (A S : List (List Nat)) : Prop where
  okU : okR RU
  okO : okR RO
  hd : HeadIs RU n
  mkd : markR (keptR RU sU) = true
  tx : textsR RU = A
  sy : S <+: textsR (keptR RU sU)
  lU : sU ≤ (flatR RU).length
  lO : sO ≤ (flatR RO).length
  eU : extraR RU ≤ 2
  oth : (d = 0 ∧ RO = [] ∧ sO = 0) ∨
    (d = 1 ∧ RO ≠ [] ∧ HeadIs RO (n + 1) ∧ markR RO = false ∧ textsR RO = A ∧ extraR RO ≤ 1) ∨
    (d = 2 ∧ HeadIs RO (n + 1) ∧ markR RO = true ∧ textsR RO = A ∧ extraR RO ≤ 2 ∧ ∀ q, keptR RO sO <+: q → q <+: RO → markR q = true → S <+: textsR q)
theorem TInv.ne {d n sU sO : Nat} {RU RO : Rw} {A S : List (List Nat)} (h : TInv d n RU RO sU sO A S) : RU ≠ [] := fun e => by
  have := h.mkd
  rw [e] at this
  cases this
theorem TInv.hO {d n sU sO : Nat} {RU RO : Rw} {A S : List (List Nat)} (h : TInv d n RU RO sU sO A S) : HeadIs RO (n + 1) := by
  rcases h.oth with ⟨_, e, _⟩ | ⟨_, _, e, _⟩ | ⟨_, e, _⟩
  · rw [e]
    exact head_nil
  · exact e
  · exact e
theorem TInv.lenU {d n sU sO : Nat} {RU RO : Rw} {A S : List (List Nat)} (h : TInv d n RU RO sU sO A S) : RU.length ≤ A.length + 2 := by
  rw [len_split RU, h.tx]
  have := h.eU
  omega
theorem TInv.lenO {d n sU sO : Nat} {RU RO : Rw} {A S : List (List Nat)} (h : TInv d n RU RO sU sO A S) : RO.length ≤ A.length + 2 := by
  rcases h.oth with ⟨_, e, _⟩ | ⟨_, _, _, _, e, e2⟩ | ⟨_, _, _, e, e2, _⟩
  · rw [e]
    exact Nat.zero_le _
  · rw [len_split RO, e]
    omega
  · rw [len_split RO, e]
    omega
theorem TInv.d3 {d n sU sO : Nat} {RU RO : Rw} {A S : List (List Nat)} (h : TInv d n RU RO sU sO A S) : d < 3 := by
  rcases h.oth with ⟨e, _⟩ | ⟨e, _⟩ | ⟨e, _⟩ <;> omega
theorem pre_snoc {α : Type} {q a : List α} {x : α} (h : q <+: a ++ [x]) : q <+: a ∨ q = a ++ [x] := by
  rcases List.prefix_concat_iff.mp h with e | e
  · exact .inr e
  · exact .inl e
theorem TInv.append {d n sU sO : Nat} {RU RO : Rw} {A S : List (List Nat)} (h : TInv d n RU RO sU sO A S) {x : List Nat} (hx : x.length ≤ 20) :
    TInv d n (RU ++ [(2, x)]) (if d > 0 then RO ++ [(2, x)] else RO) sU sO (A ++ [x]) S := by
  have neU := h.ne
  have k1 : keptR (RU ++ [(2, x)]) sU = keptR RU sU := kept_app _ _ _ h.lU
  have t1 : ∀ R : Rw, textsR (R ++ [(2, x)]) = textsR R ++ [x] := fun R => texts_app R [(2, x)]
  have x1 : ∀ R : Rw, extraR (R ++ [(2, x)]) = extraR R := fun R => extra_app R [(2, x)]
  have f1 : ∀ R : Rw, (flatR R).length ≤ (flatR (R ++ [(2, x)])).length := fun R => by
    rw [flat_app, List.length_append]
    omega
  have r1 : 1 ≤ ((2, x) : Nat × List Nat).1 ∧ ((2, x) : Nat × List Nat).1 ≤ 3 ∧ ((2, x) : Nat × List Nat).2.length ≤ 20 := ⟨Nat.le_succ 1, Nat.le_succ 2, hx⟩
  refine ⟨ok_snoc h.okU r1, ?_, head_snoc neU h.hd, by rw [k1]; exact h.mkd, by rw [t1, h.tx], by rw [k1]; exact h.sy, Nat.le_trans h.lU (f1 RU), ?_, by rw [x1]; exact h.eU, ?_⟩
  · split
    · exact ok_snoc h.okO r1
    · exact h.okO
  · split
    · exact Nat.le_trans h.lO (f1 RO)
    · exact h.lO
  · rcases h.oth with ⟨e, e1, e2⟩ | ⟨e, e1, e2, e3, e4, e5⟩ | ⟨e, e2, e3, e4, e5, e6⟩
    · subst e
      exact .inl ⟨rfl, by rw [if_neg (by decide)]; exact e1, e2⟩
    · subst e
      refine .inr (.inl ?_)
      rw [if_pos (by decide)]
      exact ⟨rfl, by simp, head_snoc e1 e2, by rw [mark_snoc e1, e3]; rfl, by rw [t1, e4], by rw [x1]; exact e5⟩
    · subst e
      refine .inr (.inr ?_)
      rw [if_pos (by decide)]
      have ne := mark_ne e3
      refine ⟨rfl, head_snoc ne e2, by rw [mark_snoc ne, e3]; rfl, by rw [t1, e4], by rw [x1]; exact e5, fun q h1 h2 h3 => ?_⟩
      rw [kept_app _ _ _ h.lO] at h1
      rcases pre_snoc h2 with h4 | h4
      · exact e6 q h1 h4 h3
      · rw [h4, t1]
        exact (e6 RO (kept_pre _ _) (List.prefix_refl _) e3).trans (List.prefix_append _ _)
theorem TInv.sync {d n sU sO : Nat} {RU RO : Rw} {A S : List (List Nat)} (h : TInv d n RU RO sU sO A S) : TInv d n RU RO (flatR RU).length (flatR RO).length A A := by
  have k1 : keptR RU (flatR RU).length = RU := kept_full _ _ (Nat.le_refl _)
  have k2 : keptR RO (flatR RO).length = RO := kept_full _ _ (Nat.le_refl _)
  refine ⟨h.okU, h.okO, h.hd, by rw [k1]; exact mark_pre (kept_pre _ _) h.mkd, h.tx, by rw [k1, h.tx]; exact List.prefix_refl _, Nat.le_refl _, Nat.le_refl _, h.eU, ?_⟩
  rcases h.oth with ⟨e, e1, e2⟩ | ⟨e, e1, e2, e3, e4, e5⟩ | ⟨e, e2, e3, e4, e5, e6⟩
  · exact .inl ⟨e, e1, by rw [e1]; rfl⟩
  · exact .inr (.inl ⟨e, e1, e2, e3, e4, e5⟩)
  · refine .inr (.inr ⟨e, e2, e3, e4, e5, fun q h1 h2 _ => ?_⟩)
    rw [k2] at h1
    rw [← e4]
    exact texts_pre h1
theorem mark_ent (x : Nat × List Nat) : ∀ A, markR (x :: entR A) = false
  | [] => rfl
  | a :: A => by
    have := mark_ent x A
    show ((2, a) :: entR A).any _ = false
    rw [List.any_cons]
    have e : (entR A).any (fun r => r.1 == 3) = false := this
    rw [e]
    rfl
theorem TInv.begin {n sU sO : Nat} {RU RO : Rw} {A S : List (List Nat)} (h : TInv 0 n RU RO sU sO A S) (hn : n ≤ 1000) : TInv 1 n RU ((1, numL (n + 1)) :: entR A) sU 0 A S := by
  have t1 : textsR ((1, numL (n + 1)) :: entR A) = A := by
    have e : textsR ((1, numL (n + 1)) :: entR A) = textsR [(1, numL (n + 1))] ++ textsR (entR A) := texts_app [_] _
    rw [e, texts_ent]
    rfl
  have x1 : extraR ((1, numL (n + 1)) :: entR A) = 1 := by
    have e : extraR ((1, numL (n + 1)) :: entR A) = extraR [(1, numL (n + 1))] + extraR (entR A) := extra_app [_] _
    rw [e, extra_ent]
    rfl
  refine ⟨h.okU, fun r hr => ?_, h.hd, h.mkd, h.tx, h.sy, h.lU, Nat.zero_le _, h.eU, .inr (.inl ⟨rfl, List.cons_ne_nil _ _, head_cons, mark_ent _ A, t1, by omega⟩)⟩
  rcases List.mem_cons.mp hr with e | hr
  · subst e
    exact ⟨by show 1 ≤ 1; decide, by show 1 ≤ 3; decide, Nat.le_trans (num_le_of (n := n + 1) (k := 3) (by omega)) (by decide)⟩
  · obtain ⟨x, hx, e⟩ := List.mem_map.mp hr
    subst e
    rw [← h.tx] at hx
    exact ⟨Nat.le_succ 1, Nat.le_succ 2, (h.okU _ (texts_mem hx)).2.2⟩
theorem TInv.mark {n sU sO : Nat} {RU RO : Rw} {A S : List (List Nat)} (h : TInv 1 n RU RO sU sO A S) : TInv 2 n RU (RO ++ [(3, [])]) sU sO A S := by
  rcases h.oth with ⟨e, _⟩ | ⟨e, e1, e2, e3, e4, e5⟩ | ⟨e, _⟩
  · cases e
  · have t1 : textsR (RO ++ [(3, [])]) = A := by
      rw [texts_app, e4]
      exact List.append_nil _
    have x1 : extraR (RO ++ [(3, [])]) = extraR RO + 1 := extra_app _ _
    refine ⟨h.okU, ok_snoc h.okO ⟨by decide, by decide, by decide⟩, h.hd, h.mkd, h.tx, h.sy, h.lU, ?_, h.eU, .inr (.inr ⟨rfl, head_snoc e1 e2, by rw [mark_snoc e1]; exact Bool.or_true _, t1, by omega, fun q _ h2 h3 => ?_⟩)⟩
    · rw [flat_app, List.length_append]
      have := h.lO
      omega
    · rcases pre_snoc h2 with h4 | h4
      · have := mark_pre h4 h3
        rw [e3] at this
        cases this
      · rw [h4, t1, ← h.tx]
        exact h.sy.trans (texts_pre (kept_pre _ _))
  · cases e
theorem TInv.switch {n sU sO : Nat} {RU RO : Rw} {A S : List (List Nat)} (h : TInv 2 n RU RO sU sO A S) : TInv 0 (n + 1) RO [] (flatR RO).length 0 A A := by
  rcases h.oth with ⟨e, _⟩ | ⟨e, _⟩ | ⟨_, e2, e3, e4, e5, _⟩
  · cases e
  · cases e
  · have k2 : keptR RO (flatR RO).length = RO := kept_full _ _ (Nat.le_refl _)
    exact ⟨h.okO, (fun r hr => nomatch hr), e2, by rw [k2]; exact e3, e4, by rw [k2, e4]; exact List.prefix_refl _, Nat.le_refl _, Nat.zero_le _, e5, .inl ⟨rfl, rfl, rfl⟩⟩
/-- behind a crash: the area that is used -/
theorem TInv.fresh {n : Nat} {R : Rw} (ok : okR R) (hd : HeadIs R n) (mk : markR R = true) (e : extraR R ≤ 2) : TInv 0 n R [] (flatR R).length 0 (textsR R) (textsR R) := by
  have k2 : keptR R (flatR R).length = R := kept_full _ _ (Nat.le_refl _)
  exact ⟨ok, (fun r hr => nomatch hr), hd, by rw [k2]; exact mk, rfl, by rw [k2]; exact List.prefix_refl _, Nat.le_refl _, Nat.zero_le _, e, .inl ⟨rfl, rfl, rfl⟩⟩
theorem TInv.crashU {d n sU sO m : Nat} {RU RO : Rw} {A S : List (List Nat)} (h : TInv d n RU RO sU sO A S) (hm : sU ≤ m) :
    markR (keptR RU m) = true ∧ TInv 0 n (keptR RU m) [] (flatR (keptR RU m)).length 0 (textsR (keptR RU m)) (textsR (keptR RU m)) ∧ textsR (keptR RU m) <+: A ∧ S <+: textsR (keptR RU m) := by
  have p := kept_pre RU m
  have mk := mark_pre (kept_mono RU sU m hm) h.mkd
  refine ⟨mk, TInv.fresh (ok_pre p h.okU) (head_pre p h.hd) mk (Nat.le_trans (extra_pre p) h.eU), ?_, h.sy.trans (texts_pre (kept_mono RU sU m hm))⟩
  rw [← h.tx]
  exact texts_pre p
theorem TInv.crashO {d n sU sO m : Nat} {RU RO : Rw} {A S : List (List Nat)} (h : TInv d n RU RO sU sO A S) (hm : sO ≤ m) (mk : markR (keptR RO m) = true) :
    TInv 0 (n + 1) (keptR RO m) [] (flatR (keptR RO m)).length 0 (textsR (keptR RO m)) (textsR (keptR RO m)) ∧ textsR (keptR RO m) <+: A ∧ S <+: textsR (keptR RO m) := by
  have p := kept_pre RO m
  rcases h.oth with ⟨_, e, _⟩ | ⟨_, _, _, e3, _⟩ | ⟨_, e2, e3, e4, e5, e6⟩
  · rw [e] at mk
    cases mk
  · have := mark_pre p mk
    rw [e3] at this
    cases this
  · refine ⟨TInv.fresh (ok_pre p h.okO) (head_pre p e2) mk (Nat.le_trans (extra_pre p) e5), ?_, e6 _ (kept_mono RO sO m hm) p mk⟩
    rw [← e4]
    exact texts_pre p
/-- the first one -/
theorem TInv.start : TInv 0 0 [(1, [48]), (3, [])] [] (flatR [(1, [48]), (3, [])]).length 0 [] [] :=
  TInv.fresh (R := [(1, [48]), (3, [])]) (fun r hr => by
    rcases List.mem_cons.mp hr with e | hr
    · subst e; exact ⟨by decide, by decide, by decide⟩
    · rw [List.mem_singleton.mp hr]; exact ⟨by decide, by decide, by decide⟩) (by rw [← num_zero]; exact head_cons) (by decide) (by decide)
end K85
namespace K85
open PySem PySem.Spec PyProof.Rows L2 QR TL
open GxR (TabB TabG Tabbed GenS)
/-! ### what a heap keeps: two tables, and S may change -/
structure Fr (T T2 : Addr) (S : List Addr) (H H' : Hp) : Prop where
  t1 : TabG H' T
  t2 : TabG H' T2
  ne : T ≠ T2
  out : ∀ b o, b ≠ T → b ≠ T2 → b ∉ S → H b = some o → H' b = some o
section
variable {T T2 a : Addr} {S S' : List Addr} {H H1 H2 : Hp} {o : HO}
theorem Fr.refl (h1 : TabG H T) (h2 : TabG H T2) (ne : T ≠ T2) : Fr T T2 S H H := ⟨h1, h2, ne, fun _ _ _ _ _ e => e⟩
theorem Fr.trans (a : Fr T T2 S H H1) (b : Fr T T2 S H1 H2) : Fr T T2 S H H2 := ⟨b.t1, b.t2, b.ne, fun x o n1 n2 n3 e => b.out x o n1 n2 n3 (a.out x o n1 n2 n3 e)⟩
theorem Fr.mono (a : Fr T T2 S H H1) (h : ∀ x ∈ S, x ∈ S') : Fr T T2 S' H H1 := ⟨a.t1, a.t2, a.ne, fun x o n1 n2 n3 e => a.out x o n1 n2 (fun z => n3 (h x z)) e⟩
theorem Fr.nil (a : Fr T T2 [] H H1) : Fr T T2 S H H1 := a.mono fun x h => nomatch h
theorem Fr.new (h1 : TabG H T) (h2 : TabG H T2) (ne : T ≠ T2) (e : H a = none) : Fr T T2 S H (upd H a o) :=
  ⟨tab_upd h1 (tab_ne0 h1 e), tab_upd h2 (tab_ne0 h2 e), ne, fun b o' _ _ _ e' => by rw [upd_ne (ne_of_none e' e)]; exact e'⟩
theorem Fr.set {o' : HO} (h1 : TabG H T) (h2 : TabG H T2) (ne : T ≠ T2) (hs : a ∈ S) (e : H a = some o') (d : ∀ ps, o' ≠ .tbl ps) : Fr T T2 S H (upd H a o) :=
  ⟨tab_upd h1 (tab_ne h1 e d), tab_upd h2 (tab_ne h2 e d), ne, fun b o' _ _ n3 e' => by
    rw [upd_ne (fun z => n3 (by rw [z]; exact hs))]
    exact e'⟩
theorem Fr.keep (h2 : TabG H T2) (ne : T ≠ T2) (k : Keep T H H1) : Fr T T2 S H H1 := ⟨k.1, by
  obtain ⟨ps, hp, q⟩ := h2
  exact ⟨ps, k.2 T2 _ (Ne.symm ne) hp, q⟩, ne, fun b o n1 _ _ e => k.2 b o n1 e⟩
theorem Fr.tab2 (h1 : TabG H T) (ne : T ≠ T2) (t : Tabbed T2 H H1) : Fr T T2 S H H1 := ⟨by
  obtain ⟨ps, hp, q⟩ := h1
  exact ⟨ps, (t.2 T ne).trans hp, q⟩, t.1, ne, fun b o _ n2 _ e => (t.2 b n2).trans e⟩
/-- what stands that is no table -/
theorem Fr.at_ (k : Fr T T2 S H H1) (h1 : TabG H T) (h2 : TabG H T2) (e : H a = some o) (d : ∀ ps, o ≠ .tbl ps) (hs : a ∉ S) : H1 a = some o :=
  k.out a o (tab_ne h1 e d) (tab_ne h2 e d) hs e
theorem Tups.fr {as : List Addr} {rs : List (Nat × List Nat)} (t : Tups H as rs) (k : Fr T T2 S H H1) (h1 : TabG H T) (h2 : TabG H T2) (hs : ∀ x ∈ S, ∀ r, H x ≠ some (rowH r)) : Tups H1 as rs :=
  t.mono fun a r e => k.at_ h1 h2 e (fun ps z => nomatch z) fun z => hs a z r e
end
theorem head_get {R : Rw} {n : Nat} {r : Nat × List Nat} {Z : Rw} (h : HeadIs R n) (e : R = r :: Z) : r = (1, numL n) := h r Z e
abbrev sWhole : Stmt := topS 19
theorem scWhole : FnScope ["rows", "number"] ["rows"] (defScope sWhole) := ⟨rfl, rfl, rfl, by decide +kernel, rfl, by decide +kernel, by decide +kernel⟩
/-- the number of an area, or -1 -/
def wnR (R : Rw) (n : Nat) : Int := if markR R = true then (n : Int) else -1
section
variable {P : Program} {w : World} {K : PySem.W.Frag} {mg : Str → Option Value} {base : Heap}
def spWhole (T T2 : Addr) : Sp := fun vs H Q _ => ∃ (l : Addr) (as : List Addr) (rs : Rw) (n : Nat), vs = [.ref l] ∧ H l = some (.lst (as.map V.ref)) ∧ Tups H as rs ∧ rs.length ≤ 1000 ∧ HeadIs rs n ∧ n ≤ 1000 ∧ TabG H T ∧ TabG H T2 ∧ T ≠ T2 ∧
  ∀ H', Fr T T2 [] H H' → Q (.int (wnR rs n)) H'
theorem ok_whole {T c T2 f fN : Addr} {oc kV doc pm ct : Value} {od an : Option Addr} {osl : Array (Option Value)} {fdN : FuncData} {t1 t2 t3 : Tok} (lk : K.lookup f = some ⟨oc, od, .func (PySem.W.fnOf "whole_number" "whole_number" (defArgs sWhole) (defBody sWhole) (defScope sWhole) .none kV doc pm an (.ref c) ct), osl⟩)
    (hcd : PySem.W.codeIn K (.ref c) "whole_number" = true) (TB : TabB base mg c T2) (ma : mg "any" = none)
    (GN : FnOk P w K mg base CX0 2 fN fdN ["text", "most"] (spNum T)) (bN : Binds K fdN ["text", "most"] []) (gN : mg "read_number" = some (.ref fN)) (kN : PySem.W.keepIn K (.ref fN) = true)
    (gH : mg "HEAD" = some (.int 1 t1)) (gR : mg "READY" = some (.int 3 t2)) (gM : mg "MOST_HEAD" = some (.int 999999999999999999 t3)) :
    FnOk P w K mg base CX0 3 f (PySem.W.fnOf "whole_number" "whole_number" (defArgs sWhole) (defBody sWhole) (defScope sWhole) .none kV doc pm an (.ref c) ct) ["rows"] (spWhole T T2) := by
  refine fn_of lk hcd scWhole (fun vs H Q E h => ?_) fun A outer s H vs Q E hr h => ?_
  · obtain ⟨l, as, rs, n, rfl, _⟩ := h
    rfl
  · obtain ⟨l, as, rs, n, rfl, hL, tu, hl, hh, hn, hT, hT2, neT, q⟩ := h
    refine ⟨_, pss_cons (ps_if (PW.pt (pw_or (pt_not (pt_truth (pv 0) (by intro _; rfl))) (pw_or (pt_cmpR op_ne (pe_ix ix_tup (pe_ix ix_list (pv 0) pe_int (fun _ _ => rfl)) pe_int (fun _ _ => rfl)) (pe_glob (v := V.int 1) (by rfl) gH ⟨_, rfl⟩) (nomark _))
        (pw_or1 (pt_not (pt_val (pe_anyMk (m := 3) hr (by rfl) ma TB rfl ⟨rfl, rfl, by decide +kernel, by decide +kernel, by decide +kernel, ?fr⟩ (by decide +kernel) (by decide) (pe_slice sl_list (pv 0) (po_some pe_int) po_none) (fun _ => rfl) gR (by decide +kernel))))))))
        (pss_one (ps_ret (pe_un un_neg pe_int))) pss_nil)
      (pss_cons (ps_set (i := 1) scWhole.nd rfl (.inl rfl) (pe_call GN hr (by rfl) gN kN bN .nil pass0 (pa_cons (pe_ix ix_tup (pe_ix ix_list (pv 0) pe_int (fun _ _ => rfl)) pe_int (fun _ _ => rfl)) (pa_cons (pe_glob (v := V.int 999999999999999999) (by rfl) gM ⟨_, rfl⟩) pa_nil))))
      (pss_one (ps_ret (pe_ifExp (pt_cmpR op_isN (pv 1) pe_non (nomark _)) (pe_un un_neg pe_int) (pv 1))))), ?_⟩
    case fr =>
      intro y hy e
      rcases List.mem_cons.mp hy with rfl | hy
      · cases e
      rcases List.mem_cons.mp hy with rfl | hy
      · cases e
      rcases List.mem_cons.mp hy with rfl | hy
      · cases e
      rcases List.mem_cons.mp hy with rfl | hy
      · cases e
      · cases hy
    refine ⟨.ref l, rfl, !(as.map V.ref).isEmpty, .inl ⟨_, SqL.of hL, rfl⟩, ?_⟩
    cases tu with
    | nil =>
      refine iteT ?_
      exact ⟨_, rfl, q H (Fr.refl hT hT2 neT)⟩
    | @cons a as r rs h1 tu =>
      refine iteF ?_
      obtain rfl := head_get hh rfl
      refine ⟨_, rfl, l, _, 0, .ref a, rfl, rfl, SqL.of hL, atI_nat (j := 0) rfl, a, _, 0, .int 1, rfl, rfl, SqT.of h1, atI_nat (j := 0) rfl, rfl, _, rfl, ?_⟩
      refine iteF ⟨_, rfl, _, rfl, l, _, rfl, SqL.of hL, fun p np => ?_⟩
      have k0 : Fr T T2 [] H (upd H p (.lst (cutV (((a :: as)).map V.ref) (some 1) none))) := Fr.new hT hT2 neT np
      have ec : cutV ((a :: as).map V.ref) (some 1) none = as.map V.ref := by
        unfold cutV
        have e1 : HT.sIx ((a :: as).map V.ref).length 0 (some 1) = 1 := by
          unfold HT.sIx
          simp
        have e2 : HT.sIx ((a :: as).map V.ref).length ((a :: as).map V.ref).length none = as.length + 1 := by
          unfold HT.sIx
          simp
        rw [e1, e2]
        show List.take _ (as.map V.ref) = _
        exact List.take_of_length_le (by rw [List.length_map]; omega)
      refine ⟨p, as, rs, rfl, upd_same.trans (by rw [ec]), tu.fr k0 hT hT2 (fun x hx => nomatch hx), k0.t2, fun H2 tb2 => ?_⟩
      have k2 : Fr T T2 [] H H2 := k0.trans (Fr.tab2 k0.t1 neT tb2)
      have em : (rs.any fun r => decide ((r.1 : Int) = ((3 : Nat) : Int))) = markR ((1, numL n) :: rs) := by
        show _ = rs.any fun r => r.1 == 3
        congr 1
        funext r
        rw [Bool.beq_eq_decide_eq]
        exact decide_eq_decide.mpr (by omega)
      refine ⟨_, rfl, ?_⟩
      cases hm : markR ((1, numL n) :: rs) with
      | false =>
        rw [em, hm]
        refine iteT ⟨_, rfl, ?_⟩
        have := q H2 k2
        unfold wnR at this
        rw [hm, if_neg (by decide)] at this
        exact this
      | true =>
        rw [em, hm]
        refine iteF ?_
        have hL2 : H2 l = some (.lst ((a :: as).map V.ref)) := k2.at_ hT hT2 hL (fun ps z => nomatch z) (fun z => nomatch z)
        have h12 : H2 a = some (rowH (1, numL n)) := k2.at_ hT hT2 h1 (fun ps z => nomatch z) (fun z => nomatch z)
        have ln : (numL n).length ≤ 4 := num_le_of (n := n) (k := 3) (by omega)
        have zl : 4 ≤ sizeLine := by
          rw [sizeLine_eq]
          decide
        refine ⟨_, rfl, l, _, 0, .ref a, rfl, rfl, SqL.of hL2, atI_nat (j := 0) rfl, a, _, 1, .str (Sg (numL n)), rfl, rfl, SqT.of h12, atI_nat (j := 1) rfl, ?_⟩
        dsimp only [tNil]
        refine ⟨Sg (numL n), 999999999999999999, rfl, by rw [len_tl]; show (numL n).length ≤ _; omega, by decide, k2.t1, fun H3 tb3 => ?_⟩
        have e3 : readNum (tl (Sg (numL n))) 999999999999999999 = some n := readNum_num (by omega)
        show gName 1 (optV (readNum (tl (Sg (numL n))) 999999999999999999)) _ _ _
        rw [e3]
        refine ⟨_, rfl, rfl, _, rfl, ?_⟩
        refine iteF ?_
        refine ⟨_, rfl, ?_⟩
        have k3 : Fr T T2 [] H H3 := k2.trans (Fr.keep k2.t2 neT (keep_tabbed tb3))
        have := q H3 k3
        unfold wnR at this
        rw [hm, if_pos rfl] at this
        exact this
end
end K85
namespace K85
open PySem PySem.Spec PyProof.Rows L2 QR TL
open GxR (TabB TabG Tabbed GenS)
abbrev sArea (i : Nat) : Stmt := inClass (topS 20) i
abbrev sTape (i : Nat) : Stmt := inClass (topS 21) i
/-! ### the objects -/
def areaF (l : List Nat) (s : Nat) : List (Str × V) := [("data", .str (Sg l)), ("safe", .int (s : Int))]
def areaO (CA dx : Addr) (l : List Nat) (s : Nat) : HO := .ins CA dx (areaF l s)
def tapeF (la : Addr) (u d : Nat) : List (Str × V) := [("areas", .ref la), ("used", .int (u : Int)), ("done", .int (d : Int))]
def tapeO (CT dx la : Addr) (u d : Nat) : HO := .ins CT dx (tapeF la u d)
theorem nds : ¬ (("data" : Str) = "safe") := by decide +kernel
theorem nau : ¬ (("areas" : Str) = "used") := by decide +kernel
theorem nad : ¬ (("areas" : Str) = "done") := by decide +kernel
theorem nud : ¬ (("used" : Str) = "done") := by decide +kernel
theorem putA_d (l l' : List Nat) (s : Nat) : putF "data" (.str (Sg l')) (areaF l s) = areaF l' s := by
  unfold areaF putF
  rw [if_pos rfl]
theorem putA_s (l : List Nat) (s s' : Nat) : putF "safe" (.int (s' : Int)) (areaF l s) = areaF l s' := by
  unfold areaF putF
  rw [if_neg nds]
  unfold putF
  rw [if_pos rfl]
theorem putA_0 (l : List Nat) (s : Nat) : putF "safe" (.int (s : Int)) (putF "data" (.str (Sg l)) []) = areaF l s := by
  unfold areaF
  show putF "safe" _ [("data", _)] = _
  unfold putF
  rw [if_neg nds]
  rfl
theorem getA_d (l : List Nat) (s : Nat) : (areaF l s).lookup ("data" : Str) = some (.str (Sg l)) := by
  unfold areaF
  simp [List.lookup]
theorem getA_s (l : List Nat) (s : Nat) : (areaF l s).lookup ("safe" : Str) = some (.int (s : Int)) := by
  unfold areaF
  have : (("safe" : Str) == "data") = false := by decide +kernel
  simp [List.lookup, this]
theorem getA_no (l : List Nat) (s : Nat) {m : Str} (h1 : (m == "data") = false) (h2 : (m == "safe") = false) : (areaF l s).lookup m = none := by
  unfold areaF
  simp [List.lookup, h1, h2]
theorem putT_u (la : Addr) (u u' d : Nat) : putF "used" (.int (u' : Int)) (tapeF la u d) = tapeF la u' d := by
  unfold tapeF putF
  rw [if_neg nau]
  unfold putF
  rw [if_pos rfl]
theorem putT_d (la : Addr) (u d d' : Nat) : putF "done" (.int (d' : Int)) (tapeF la u d) = tapeF la u d' := by
  unfold tapeF putF
  rw [if_neg nad]
  unfold putF
  rw [if_neg nud]
  unfold putF
  rw [if_pos rfl]
theorem putT_0 (la : Addr) (u d : Nat) : putF "done" (.int (d : Int)) (putF "used" (.int (u : Int)) (putF "areas" (.ref la) [])) = tapeF la u d := by
  show putF "done" _ (putF "used" _ [("areas", _)]) = _
  have : putF "used" (.int (u : Int)) ([("areas", V.ref la)] : List (Str × V)) = ([("areas", V.ref la), ("used", .int (u : Int))] : List (Str × V)) := by
    unfold putF
    rw [if_neg nau]
    rfl
  rw [this]
  unfold putF
  rw [if_neg nad]
  unfold putF
  rw [if_neg nud]
  rfl
theorem getT_a (la : Addr) (u d : Nat) : (tapeF la u d).lookup ("areas" : Str) = some (.ref la) := by
  unfold tapeF
  simp [List.lookup]
theorem getT_u (la : Addr) (u d : Nat) : (tapeF la u d).lookup ("used" : Str) = some (.int (u : Int)) := by
  unfold tapeF
  have : (("used" : Str) == "areas") = false := by decide +kernel
  simp [List.lookup, this]
theorem getT_d (la : Addr) (u d : Nat) : (tapeF la u d).lookup ("done" : Str) = some (.int (d : Int)) := by
  unfold tapeF
  have h1 : (("done" : Str) == "areas") = false := by decide +kernel
  have h2 : (("done" : Str) == "used") = false := by decide +kernel
  simp [List.lookup, h1, h2]
theorem getT_no (la : Addr) (u d : Nat) {m : Str} (h1 : (m == "areas") = false) (h2 : (m == "used") = false) (h3 : (m == "done") = false) : (tapeF la u d).lookup m = none := by
  unfold tapeF
  simp [List.lookup, h1, h2, h3]
structure TxtC (K : PySem.W.Frag) (mg : Str → Option Value) (CA CT : Addr) : Prop where
  clA : Cls K CA
  nD : NoAttr K CA "data"
  nS : NoAttr K CA "safe"
  clT : Cls K CT
  nA : NoAttr K CT "areas"
  nU : NoAttr K CT "used"
  nDn : NoAttr K CT "done"
  mgA : mg "Area" = some (.ref CA)
  mgT : mg "Tape" = some (.ref CT)
  len : mg "len" = none
  min : mg "min" = none
theorem scA0 : FnScope ["self", "data"] ["self", "data"] (defScope (sArea 0)) := ⟨rfl, rfl, rfl, by decide +kernel, rfl, by decide +kernel, by decide +kernel⟩
theorem scA1 : FnScope ["self", "text"] ["self", "text"] (defScope (sArea 1)) := ⟨rfl, rfl, rfl, by decide +kernel, rfl, by decide +kernel, by decide +kernel⟩
theorem scA2 : FnScope ["self"] ["self"] (defScope (sArea 2)) := ⟨rfl, rfl, rfl, by decide +kernel, rfl, by decide +kernel, by decide +kernel⟩
theorem scA3 : FnScope ["self", "size"] ["self", "size"] (defScope (sArea 3)) := ⟨rfl, rfl, rfl, by decide +kernel, rfl, by decide +kernel, by decide +kernel⟩
def spA0 (CA : Addr) : Sp := fun vs H Q _ => ∃ (a dx : Addr) (l : List Nat), vs = [.ref a, .str (Sg l)] ∧ H a = some (.ins CA dx []) ∧ l.length ≤ 1000000 ∧ Q .non (upd H a (areaO CA dx l l.length))
def spA1 (CA : Addr) : Sp := fun vs H Q _ => ∃ (a dx : Addr) (l x : List Nat) (s : Nat), vs = [.ref a, .str (Sg x)] ∧ H a = some (areaO CA dx l s) ∧ l.length + x.length ≤ 1000000 ∧ Q .non (upd H a (areaO CA dx (l ++ x) s))
def spA2 (CA : Addr) : Sp := fun vs H Q _ => ∃ (a dx : Addr) (l : List Nat) (s : Nat), vs = [.ref a] ∧ H a = some (areaO CA dx l s) ∧ l.length ≤ 1000000 ∧ Q .non (upd H a (areaO CA dx l l.length))
def spA3 (CA : Addr) : Sp := fun vs H Q _ => ∃ (a dx : Addr) (l : List Nat) (s n : Nat), vs = [.ref a, .int (n : Int)] ∧ H a = some (areaO CA dx l s) ∧ l.length ≤ 1000000 ∧ Q .non (upd H a (areaO CA dx (l.take n) (min s n)))
theorem zl : 2000000 ≤ sizeLine := by
  rw [sizeLine_eq]
  decide
theorem lenA (l : List Nat) (s : Nat) : (areaF l s).length < 1000 := by
  show 2 < 1000
  decide
theorem lenT (la : Addr) (u d : Nat) : (tapeF la u d).length < 1000 := by
  show 3 < 1000
  decide
section
variable {P : Program} {w : World} {K : PySem.W.Frag} {mg : Str → Option Value} {base : Heap} {CA CT : Addr}
theorem ok_A0 {f : Addr} {fd : FuncData} (F : Fun K "__init__" "Area.__init__" (sArea 0) f fd) (T : TxtC K mg CA CT) : FnOk P w K mg base CX0 1 f fd ["self", "data"] (spA0 CA) := by
  refine F.ok scA0 (fun vs H Q E h => ?_) (fun cdv A outer s H vs Q E hr h => ?_)
  · obtain ⟨a, dx, l, rfl, _⟩ := h
    rfl
  · obtain ⟨a, dx, l, rfl, h1, hl, q⟩ := h
    refine ⟨_, pss_cons (ps_fld (pv 0) (pv 1) rfl) (pss_one (ps_fld (pv 0) (pe_callB call_len_str (by rfl) T.len PySem.boot_len (pa_cons (pv 1) pa_nil)) rfl)), ?_⟩
    have := zl
    refine ⟨_, rfl, _, rfl, a, CA, dx, [], rfl, h1, T.clA, T.nD, (by show 0 < 1000; decide), _, rfl, Sg l, rfl, by rw [len_tl]; show l.length ≤ _; omega, _, rfl, a, CA, dx, _, rfl, upd_same, T.clA, T.nS, (by show 1 < 1000; decide), ?_⟩
    rw [upd_upd]
    have e : V.int ((Sg l).length : Int) = V.int ((l.length : Nat) : Int) := by rw [len_tl]
    rw [e, putA_0]
    exact q
theorem ok_A1 {f : Addr} {fd : FuncData} (F : Fun K "write" "Area.write" (sArea 1) f fd) (T : TxtC K mg CA CT) : FnOk P w K mg base CX0 1 f fd ["self", "text"] (spA1 CA) := by
  refine F.ok scA1 (fun vs H Q E h => ?_) (fun cdv A outer s H vs Q E hr h => ?_)
  · obtain ⟨a, dx, l, x, s, rfl, _⟩ := h
    rfl
  · obtain ⟨a, dx, l, x, s, rfl, h1, hl, q⟩ := h
    refine ⟨_, pss_one (ps_fldaug (pv 0) (pv 1) in_addS), ?_⟩
    have := zl
    refine ⟨_, rfl, a, CA, dx, _, _, rfl, h1, T.clA, T.nD, getA_d l s, _, rfl, Sg l, Sg x, rfl, rfl, by rw [len_tl, len_tl]; show l.length + x.length ≤ _; omega, dx, _, h1, lenA l s, ?_⟩
    have e : Sg l ++ Sg x = Sg (l ++ x) := ext_tl (by rw [tl_append])
    show Q .non (upd H a (.ins CA dx (putF "data" (.str (Sg l ++ Sg x)) (areaF l s))))
    rw [e, putA_d]
    exact q
theorem ok_A2 {f : Addr} {fd : FuncData} (F : Fun K "secure" "Area.secure" (sArea 2) f fd) (T : TxtC K mg CA CT) : FnOk P w K mg base CX0 1 f fd ["self"] (spA2 CA) := by
  refine F.ok scA2 (fun vs H Q E h => ?_) (fun cdv A outer s H vs Q E hr h => ?_)
  · obtain ⟨a, dx, l, s, rfl, _⟩ := h
    rfl
  · obtain ⟨a, dx, l, s, rfl, h1, hl, q⟩ := h
    refine ⟨_, pss_one (ps_fld (pv 0) (pe_callB call_len_str (by rfl) T.len PySem.boot_len (pa_cons (pe_fld (pv 0) rfl) pa_nil)) rfl), ?_⟩
    have := zl
    refine ⟨_, rfl, a, CA, dx, _, _, rfl, h1, T.clA, T.nD, getA_d l s, Sg l, rfl, by rw [len_tl]; show l.length ≤ _; omega, _, rfl, a, CA, dx, _, rfl, h1, T.clA, T.nS, lenA l s, ?_⟩
    have e : V.int ((Sg l).length : Int) = V.int ((l.length : Nat) : Int) := by rw [len_tl]
    rw [e, putA_s]
    exact q
theorem ok_A3 {f : Addr} {fd : FuncData} (F : Fun K "cut_to" "Area.cut_to" (sArea 3) f fd) (T : TxtC K mg CA CT) : FnOk P w K mg base CX0 1 f fd ["self", "size"] (spA3 CA) := by
  refine F.ok scA3 (fun vs H Q E h => ?_) (fun cdv A outer s H vs Q E hr h => ?_)
  · obtain ⟨a, dx, l, s, n, rfl, _⟩ := h
    rfl
  · obtain ⟨a, dx, l, s, n, rfl, h1, hl, q⟩ := h
    refine ⟨_, pss_cons (ps_fld (pv 0) (pe_slice sl_str (pe_fld (pv 0) rfl) po_none (po_some (pv 1))) rfl)
      (pss_one (ps_fld (pv 0) (pe_callB (call_min2 rfl) (by rfl) T.min (by decide +kernel) (pa_cons (pe_fld (pv 0) rfl) (pa_cons (pv 1) pa_nil))) rfl)), ?_⟩
    have := zl
    have ec : cutS (Sg l) none (some (n : Int)) = Sg (l.take n) := by
      have e : cutS (Sg l) none (some (n : Int)) = cutS (Sg l) (some ((0 : Nat) : Int)) (some (n : Int)) := by
        unfold cutS
        rw [HT.sIx_nat, HT.sIx_none, HT.sIx_nat, Nat.zero_min]
      rw [e, cut_nat]
      rfl
    refine ⟨_, rfl, a, CA, dx, _, _, rfl, h1, T.clA, T.nD, getA_d l s, _, rfl, _, rfl, Sg l, rfl, by rw [len_tl]; show l.length ≤ _; omega, ?_⟩
    rw [ec]
    refine ⟨_, rfl, a, CA, dx, _, rfl, h1, T.clA, T.nD, lenA l s, ?_⟩
    rw [putA_d]
    refine ⟨_, rfl, a, CA, dx, _, _, rfl, upd_same, T.clA, T.nS, getA_s (l.take n) s, _, rfl, _, _, rfl, ?_⟩
    refine ⟨_, rfl, a, CA, dx, _, rfl, upd_same, T.clA, T.nS, lenA (l.take n) s, ?_⟩
    have e : (if (n : Int) < (s : Int) then (n : Int) else (s : Int)) = ((min s n : Nat) : Int) := by
      split <;> omega
    rw [e, putA_s, upd_upd]
    exact q
end
end K85
/-! zip(xs, t), xs a list, t a tuple: own rule -/
namespace ZLT
open PySem PySem.Spec PyProof.Rows L2
/-- a list's items beside a tuple's -/
def ItM (K : PySem.W.Frag) (a b : Addr) : It where
  go := fun i H => ∃ (xs ys : List V) (x y : V), (SqL K H a xs ∧ xs[i]? = some x) ∧ SqT K H b ys ∧ ys[i]? = some y
  yld := fun i H v H' => ∃ (T : Addr) (x y : V), (v = .ref T ∧ H T = none) ∧ H' = upd H T (.tup [x, y]) ∧ (∀ xs, SqL K H a xs → xs[i]? = some x) ∧ ∀ ys, SqT K H b ys → ys[i]? = some y
  stop := fun i H => ∃ xs ys : List V, SqL K H a xs ∧ SqT K H b ys ∧ i = xs.length ∧ i = ys.length
/-- the state of such a walk -/
def StM (a b z TI TO i1 i2 : Addr) (i : Nat) (h : Heap) : Prop := (IsZip h z TI TO .none ∧ IsTupOf2 h TI (.ref i1) (.ref i2)) ∧ (∃ x y, IsTupOf2 h TO x y) ∧ h.IsListIter i1 a i ∧ h.IsTupleIter i2 b i
theorem mem5 {c z TI TO i1 i2 : Addr} (h : c ∈ [z, TI, TO, i1, i2]) : c = z ∨ c = TI ∨ c = TO ∨ c = i1 ∨ c = i2 := by
  simpa using h
theorem sep_of (n a b : Nat) (la : a < n) (lb : b < n) : ZipSep2 (n + 4) (n + 2) (n + 3) n (n + 1) [n, a] [n + 1, b] := by
  have ne : ∀ {x y : Nat}, (x < y ∨ y < x) → (x : Addr) ≠ y := fun h e => by
    have e' : (_ : Nat) = _ := e
    omega
  have nm : ∀ {x u v : Nat}, (x < u ∨ u < x) → (x < v ∨ v < x) → (x : Addr) ∉ ([u, v] : List Addr) := fun h1 h2 hm => by
    rcases List.mem_cons.mp hm with e | hm
    · exact ne h1 e
    · exact ne h2 (List.mem_singleton.mp hm)
  exact { TIz := ne (by omega), TOz := ne (by omega), TITO := ne (by omega), TIi1 := ne (by omega), mem1 := List.mem_cons_self, zf1 := nm (by omega) (by omega), Tf1 := nm (by omega) (by omega),
          TIi2 := ne (by omega), mem2 := List.mem_cons_self, zf2 := nm (by omega) (by omega), Tf2 := nm (by omega) (by omega), sep1_2 := nm (by omega) (by omega), sep2_1 := nm (by omega) (by omega) }
theorem turn_M {P : Program} {w : World} {K : PySem.W.Frag} {elts : List Expr} {kk : Nat} {tpos : Pos} {a b z TI TO i1 i2 : Addr} (S : ZipSep2 z TI TO i1 i2 [i1, a] [i2, b]) :
    Turn P w K (.Tuple elts kk tpos) (ItM K a b) [z, TI, TO, i1, i2] z (StM a b z TI TO i1 i2) where
  mem := List.mem_cons_self
  obj := by
    rintro i h ⟨⟨hz, hTI⟩, ⟨x, y, hTO⟩, ⟨o1, e1, _, d1⟩, ⟨o2, e2, _, d2⟩⟩ c hc
    rcases mem5 hc with q | q | q | q | q <;> subst q
    · exact ⟨_, hz, fun v q => nomatch q⟩
    · exact ⟨_, hTI, fun v q => nomatch q⟩
    · exact ⟨_, hTO, fun v q => nomatch q⟩
    · exact ⟨o1, e1, fun v => by rw [d1]; exact fun q => nomatch q⟩
    · exact ⟨o2, e2, fun v => by rw [d2]; exact fun q => nomatch q⟩
  keep := by
    rintro i h h' ⟨⟨hz, hTI⟩, ⟨x, y, hTO⟩, l1, l2⟩ k
    exact ⟨⟨k z (by simp) _ hz, k TI (by simp) _ hTI⟩, ⟨x, y, k TO (by simp) _ hTO⟩, l1.at (k i1 (by simp)), l2.at (k i2 (by simp))⟩
  item := by
    rintro X rfl rfl rfl hc i pins s σ H E I hf ⟨⟨hz, hTI⟩, ⟨x0, y0, hTO⟩, l1, l2⟩ ⟨xs, ys, x, y, ⟨qx, hx⟩, qy, hy⟩
    obtain ⟨us, rx, px, _⟩ := I.list qx
    obtain ⟨ws, ry, py, _⟩ := I.tuple qy
    obtain ⟨u, hu, ru⟩ := rx.get hx
    obtain ⟨v, hv, rv⟩ := ry.get hy
    have hd : X.A.in1.handled = none := I.ok.hd hc
    have na : a ≠ i1 := fun e => by
      obtain ⟨o1, e1, c1, _⟩ := l1
      obtain ⟨o3, e3, c3, _⟩ := px.isList
      rw [e, e1] at e3
      cases e3
      rw [c1] at c3
      injection c3 with c4
      exact absurd c4 (by decide)
    have nb : b ≠ i2 := fun e => by
      obtain ⟨o1, e1, c1, _⟩ := l2
      obtain ⟨o3, e3, c3, _⟩ := py
      rw [e, e1] at e3
      cases e3
      rw [c1] at c3
      injection c3 with c4
      exact absurd c4 (by decide)
    have lu : i < us.toArray.size := by
      have := (List.getElem?_eq_some_iff.mp hu).1
      simpa using this
    have lv : i < ws.toArray.size := by
      have := (List.getElem?_eq_some_iff.mp hv).1
      simpa using this
    refine wpAny_pyNext_zipD2_item S (Draws.list hd i1 a na us.toArray) (Draws.tuple hd i2 b nb ws.toArray) hz hTI hTO ⟨l1, px.isList⟩ ⟨l2, py⟩ lu lv ?_
    intro x1 x2 h' tk e1 e2 z' TO' t1 t2 hT hsz hk
    have eu : x1 = u := by
      have : us.toArray[i]? = some u := by simpa using hu
      rw [this] at e1
      exact (Option.some.inj e1).symm
    have ev : x2 = v := by
      have : ws.toArray[i]? = some v := by simpa using hv
      rw [this] at e2
      exact (Option.some.inj e2).symm
    subst eu ev
    have lz : z < s.heap.objs.size := Heap.lt_size hz
    refine ⟨_, rfl, wpAny_letOwnedTupleGo_zip (s := { s with heap := h', toks := tk }) z' ?_⟩
    intro h2 z2 sb
    have tup : h2.get? s.heap.objs.size = some { cls := .type "tuple", data := .seq #[x1, x2] } := (sb.2 _ (Nat.ne_of_gt lz)).trans hT
    have new : ObjOk X.prog X.w (upd H s.heap.objs.size (.tup [x, y])) h2 s.heap.objs.size (.tup [x, y]) :=
      ⟨by show 2 ≤ sizeLine; rw [sizeLine_eq]; decide, _, .cons ru (.cons rv .nil), _, tup, rfl, _, rfl⟩
    have J : Inv X pins σ (upd H s.heap.objs.size (.tup [x, y])) { s with heap := h2, toks := tk } :=
      I.turnedNew (ch := [z, TI, TO, i1, i2]) (t' := tk) (fun c o hb q => by
        have hb' : c ≠ z ∧ c ≠ TI ∧ c ≠ TO ∧ c ≠ i1 ∧ c ≠ i2 := by simpa using hb
        exact (sb.2 _ hb'.1).trans (hk c o hb'.1 hb'.2.2.1 hb'.2.2.2.1 hb'.2.2.2.2 q)) hf (Nat.le_refl _) new
    refine ⟨.ref s.heap.objs.size, _, J, rfl, ⟨s.heap.objs.size, x, y, ⟨rfl, I.hok.fresh (Nat.le_refl _)⟩, rfl, fun l hl => ?_, fun l hl => ?_⟩, ⟨⟨z2, ?_⟩, ⟨x1, x2, ?_⟩, ?_, ?_⟩, fun c hcm => ?_⟩
    · rw [I.list_inj hl qx]
      exact hx
    · rw [I.tuple_inj hl qy]
      exact hy
    · exact (sb.2 _ S.TIz).trans (hk _ _ S.TIz S.TITO S.TIi1 S.TIi2 hTI)
    · exact (sb.2 _ S.TOz).trans TO'
    · exact t1.1.at fun o q => (sb.2 _ (fun e => S.zf1 (by rw [← e]; exact S.mem1))).trans q
    · exact t2.1.at fun o q => (sb.2 _ (fun e => S.zf2 (by rw [← e]; exact S.mem2))).trans q
    · obtain ⟨o, eo⟩ : ∃ o, s.heap.get? c = some o := by
        rcases mem5 hcm with q | q | q | q | q <;> subst q
        · exact ⟨_, hz⟩
        · exact ⟨_, hTI⟩
        · exact ⟨_, hTO⟩
        · exact ⟨_, l1.choose_spec.1⟩
        · exact ⟨_, l2.choose_spec.1⟩
      have lt := Heap.lt_size eo
      show upd H s.heap.objs.size _ c = none
      rw [upd_ne (Nat.ne_of_lt lt)]
      exact (hf c hcm).1
  done := by
    rintro X rfl rfl rfl hc i pins s σ H E I hf ⟨⟨hz, hTI⟩, ⟨x0, y0, hTO⟩, l1, l2⟩ ⟨xs, ys, qx, qy, ex, ey⟩
    obtain ⟨us, rx, px, _⟩ := I.list qx
    obtain ⟨ws, ry, py, _⟩ := I.tuple qy
    have hd : X.A.in1.handled = none := I.ok.hd hc
    have na : a ≠ i1 := fun e => by
      obtain ⟨o1, e1, c1, _⟩ := l1
      obtain ⟨o3, e3, c3, _⟩ := px.isList
      rw [e, e1] at e3
      cases e3
      rw [c1] at c3
      injection c3 with c4
      exact absurd c4 (by decide)
    have nb : b ≠ i2 := fun e => by
      obtain ⟨o1, e1, c1, _⟩ := l2
      obtain ⟨o3, e3, c3, _⟩ := py
      rw [e, e1] at e3
      cases e3
      rw [c1] at c3
      injection c3 with c4
      exact absurd c4 (by decide)
    have lu : i = us.toArray.size := by
      have := rx.length
      simp
      omega
    have lv : i = ws.toArray.size := by
      have := ry.length
      simp
      omega
    refine wpAny_pyNext_zipD2_end S (Draws.list hd i1 a na us.toArray) (Draws.tuple hd i2 b nb ws.toArray) hz hTI hTO ⟨l1, px.isList⟩ ⟨l2, py⟩ (Nat.le_of_eq lu) (Nat.le_of_eq lv) (.inl lu) ?_
    intro h' tk hk
    refine ⟨rfl, I.turnedL (ch := [z, TI, TO, i1, i2]) (t' := tk) (fun c o hb q => ?_) hf⟩
    have hb' : c ≠ z ∧ c ≠ TI ∧ c ≠ TO ∧ c ≠ i1 ∧ c ≠ i2 := by simpa using hb
    exact hk c o hb'.1 hb'.2.2.1 hb'.2.2.2.1 hb'.2.2.2.2 q
  self := fun A i s Q E st h => wpAny_pyIter_zip st.1.1 h

def iZipM (K : PySem.W.Frag) (ta : TA) : L2.TI := fun σ H R => ta σ H fun vs H1 => ∃ a b xs ys, vs = [.ref a, .ref b] ∧ SqL K H1 a xs ∧ SqT K H1 b ys ∧ R (ItM K a b) H1
theorem pi_zipM {X : Cx} {e e2 : Expr} {ta : TA} {p pos tpos : Pos} {elts : List Expr} {kk : Nat} (hg : Gl X "zip") (hm : X.mg "zip" = none) (ha : PA X [e, e2] ta)
    (hs : starEach [e, e2] X.env = (false, eval e X.env) :: starEach [e2] X.env := by rfl) (hpl : (backTo pos (starEach [e2] X.env)).any (·.1) = false := by rfl) :
    PI X (.Tuple elts kk tpos) (.Call (.Name "zip" p) [e, e2] [] pos) (iZipM X.K ta) := by
  refine ⟨fun pins s σ H R I h => ?_⟩
  refine Call_ (ld_blt I hg hm PyProof.Rows.boot_zip (PyProof.Rows.callWith_type1 (thn (ha.run pos pins s σ H _ I h) ?_) hs hpl))
  rintro us s1 ⟨vs, H1, I1, r1, a, b, xs, ys, ex, qx, qy, q⟩
  subst ex
  obtain ⟨u, rfl⟩ : ∃ u, us = u := ⟨_, rfl⟩
  cases r1 with
  | cons r rr =>
    cases rr with
    | cons r' rr =>
      cases rr
      cases r
      cases r'
      obtain ⟨cs, rx, px, _⟩ := I1.list qx
      obtain ⟨ds, ry, py, _⟩ := I1.tuple qy
      have la : a < s1.heap.objs.size := px.lt
      have lb : b < s1.heap.objs.size := by
        obtain ⟨o, eo, _⟩ := py
        exact Heap.lt_size eo
      have S : ZipSep2 (s1.heap.objs.size + 4) (s1.heap.objs.size + 2) (s1.heap.objs.size + 3) s1.heap.objs.size (s1.heap.objs.size + 1) [s1.heap.objs.size, a] [s1.heap.objs.size + 1, b] := by
        exact sep_of _ a b la lb
      refine zip_begins2 (begins_list a cs.toArray) (begins_tuple b ds.toArray) px.isList py ?_
      intro h' hz hTI hTO g1 g2 hsz hk
      refine wpAny_pyIter_zip hz ?_
      refine ⟨s1.heap.objs.size + 4, _, _, _, H1, rfl, I1.kept (t' := s1.toks) hk, turn_M S, ⟨⟨hz, hTI⟩, ⟨_, _, hTO⟩, ⟨_, g1, rfl, rfl⟩, ⟨_, g2, rfl, rfl⟩⟩, fun c hcm => ?_, q⟩
      have le : s1.heap.objs.size ≤ c := by
        rcases mem5 hcm with q | q | q | q | q <;> rw [q] <;> first | exact Nat.le_refl _ | exact Nat.le_add_right _ _
      exact I1.fpOk le (I1.hok.fresh le)
/-- a loop over such a zip, both of one length -/
theorem for_zipM {K : PySem.W.Frag} {a b : Addr} {xs ys : List V} {g : TG} {tb : TS} {D : Ends} {σ : L2.St} {H : Hp} (hl : xs.length = ys.length) (Pv : Nat → L2.St → Hp → Prop) (h0 : Pv 0 σ H) (hq : ∀ i σ H, Pv i σ H → SqL K H a xs ∧ SqT K H b ys)
    (hs : ∀ (i : Nat) (x y : V) (T : Addr) (σ : L2.St) (H : Hp), xs[i]? = some x → ys[i]? = some y → Pv i σ H → H T = none →
      g (.ref T) σ (upd H T (.tup [x, y])) fun σ2 H2 => tb { D with nx := Pv (i + 1), ct := Pv (i + 1), bk := D.nx } σ2 H2)
    (hd : ∀ σ H, Pv xs.length σ H → D.nx σ H) :
    ∃ W : Nat → Nat → L2.St → Hp → Prop, (∃ m, W 0 m σ H) ∧ ∀ i m σ H, W i m σ H → ((ItM K a b).stop i H ∧ D.nx σ H) ∨
      ((ItM K a b).go i H ∧ ∃ N : L2.St → Hp → Prop, (∀ σ' H', N σ' H' → ∃ m', m' < m ∧ W (i + 1) m' σ' H') ∧ ∀ v H', (ItM K a b).yld i H v H' → g v σ H' fun σ2 H2 => tb { D with nx := N, ct := N, bk := D.nx } σ2 H2) := by
  refine ⟨fun i m σ H => i + m = xs.length ∧ Pv i σ H, ⟨xs.length, Nat.zero_add _, h0⟩, ?_⟩
  rintro i m σ H ⟨em, p⟩
  obtain ⟨qx, qy⟩ := hq i σ H p
  by_cases hlt : i < xs.length
  · have hx := List.getElem?_eq_getElem hlt
    have hy := List.getElem?_eq_getElem (show i < ys.length by omega)
    refine .inr ⟨⟨xs, ys, _, _, ⟨qx, hx⟩, qy, hy⟩, Pv (i + 1), fun σ' H' p' => ⟨m - 1, by omega, by omega, p'⟩, ?_⟩
    rintro v H' ⟨T, x', y', ⟨rfl, hT⟩, rfl, f1, f2⟩
    exact hs i x' y' T σ H (f1 xs qx) (f2 ys qy) p hT
  · have e : i = xs.length := by omega
    subst e
    exact .inl ⟨⟨xs, ys, qx, qy, rfl, hl⟩, hd σ H p⟩
end ZLT
namespace K85
open PySem PySem.Spec PyProof.Rows L2 QR TL
open GxR (TabB TabG Tabbed GenS)
/-! ### a tape in the heap: aU in use, aO the other one -/
def sel {α : Type} (u : Nat) (x y : α) : List α := if u = 0 then [x, y] else [y, x]
theorem sel_u {u : Nat} (h : u = 0 ∨ u = 1) {α : Type} (x y : α) : (sel u x y)[u]? = some x := by
  rcases h with rfl | rfl <;> rfl
theorem sel_o {u : Nat} (h : u = 0 ∨ u = 1) {α : Type} (x y : α) : (sel u x y)[1 - u]? = some y := by
  rcases h with rfl | rfl <;> rfl
theorem sel_sw {u : Nat} (h : u = 0 ∨ u = 1) {α : Type} (x y : α) : sel (1 - u) y x = sel u x y := by
  rcases h with rfl | rfl <;> rfl
theorem sel_len (u : Nat) {α : Type} (x y : α) : (sel u x y).length = 2 := by
  unfold sel
  split <;> rfl
/-- only S has changed -/
def Ch (S : List Addr) (H H' : Hp) : Prop := ∀ b, b ∉ S → H' b = H b
theorem Ch.refl {S : List Addr} {H : Hp} : Ch S H H := fun _ _ => rfl
theorem Ch.trans {S : List Addr} {H H1 H2 : Hp} (a : Ch S H H1) (b : Ch S H1 H2) : Ch S H H2 := fun x h => (b x h).trans (a x h)
theorem Ch.mono {S S' : List Addr} {H H1 : Hp} (a : Ch S H H1) (h : ∀ x ∈ S, x ∈ S') : Ch S' H H1 := fun x n => a x fun z => n (h x z)
theorem Ch.upd {S : List Addr} {H : Hp} {a : Addr} {o : HO} (h : a ∈ S) : Ch S H (L2.upd H a o) := fun b n => upd_ne fun e => n (by rw [e]; exact h)
theorem Ch.fr {S : List Addr} {T T2 : Addr} {H H1 : Hp} (a : Ch S H H1) (h1 : TabG H T) (h2 : TabG H T2) (ne : T ≠ T2) (n1 : T ∉ S) (n2 : T2 ∉ S) : Fr T T2 S H H1 := by
  refine ⟨?_, ?_, ne, fun b o _ _ hb e => (a b hb).trans e⟩
  · obtain ⟨ps, hp, q⟩ := h1
    exact ⟨ps, (a T n1).trans hp, q⟩
  · obtain ⟨ps, hp, q⟩ := h2
    exact ⟨ps, (a T2 n2).trans hp, q⟩
structure TapeAt (CA CT : Addr) (H : Hp) (t la aU aO : Addr) (u d : Nat) (lU lO : List Nat) (sU sO : Nat) : Prop where
  tp : ∃ dx, H t = some (tapeO CT dx la u d)
  li : H la = some (.lst (sel u (.ref aU) (.ref aO)))
  hU : ∃ dx, H aU = some (areaO CA dx lU sU)
  hO : ∃ dx, H aO = some (areaO CA dx lO sO)
  ne : aU ≠ aO
  u2 : u = 0 ∨ u = 1
theorem ta_ne {CA CT d1 d2 la : Addr} {u d s : Nat} {l : List Nat} : tapeO CT d1 la u d ≠ areaO CA d2 l s := fun e => by
  injection e with _ _ e
  injection e with e _
  injection e with e _
  exact absurd e (by decide +kernel)
section
variable {CA CT : Addr} {H H' : Hp} {t la aU aO : Addr} {u d sU sO : Nat} {lU lO : List Nat}
theorem TapeAt.tU (h : TapeAt CA CT H t la aU aO u d lU lO sU sO) : t ≠ aU := by
  obtain ⟨d1, h1⟩ := h.tp
  obtain ⟨d2, h2⟩ := h.hU
  exact ne_of h1 h2 ta_ne
theorem TapeAt.tO (h : TapeAt CA CT H t la aU aO u d lU lO sU sO) : t ≠ aO := by
  obtain ⟨d1, h1⟩ := h.tp
  obtain ⟨d2, h2⟩ := h.hO
  exact ne_of h1 h2 ta_ne
theorem TapeAt.lt (h : TapeAt CA CT H t la aU aO u d lU lO sU sO) : la ≠ t := by
  obtain ⟨d1, h1⟩ := h.tp
  exact ne_of h.li h1 fun z => nomatch z
theorem TapeAt.laU (h : TapeAt CA CT H t la aU aO u d lU lO sU sO) : la ≠ aU := by
  obtain ⟨d1, h1⟩ := h.hU
  exact ne_of h.li h1 fun z => nomatch z
theorem TapeAt.laO (h : TapeAt CA CT H t la aU aO u d lU lO sU sO) : la ≠ aO := by
  obtain ⟨d1, h1⟩ := h.hO
  exact ne_of h.li h1 fun z => nomatch z
/-- the same, elsewhere unchanged -/
theorem TapeAt.keep (h : TapeAt CA CT H t la aU aO u d lU lO sU sO) (k : ∀ x ∈ [t, la, aU, aO], H' x = H x) : TapeAt CA CT H' t la aU aO u d lU lO sU sO := by
  obtain ⟨⟨d1, h1⟩, h2, ⟨d3, h3⟩, ⟨d4, h4⟩, ne, u2⟩ := h
  exact ⟨⟨d1, (k t (by simp)).trans h1⟩, (k la (by simp)).trans h2, ⟨d3, (k aU (by simp)).trans h3⟩, ⟨d4, (k aO (by simp)).trans h4⟩, ne, u2⟩
theorem TapeAt.setU (h : TapeAt CA CT H t la aU aO u d lU lO sU sO) {dx : Addr} {l : List Nat} {s : Nat} : TapeAt CA CT (upd H aU (areaO CA dx l s)) t la aU aO u d l lO s sO := by
  have n1 := h.tU
  have n2 := h.laU
  obtain ⟨⟨d1, h1⟩, h2, ⟨d3, h3⟩, ⟨d4, h4⟩, ne, u2⟩ := h
  exact ⟨⟨d1, (upd_ne n1).trans h1⟩, (upd_ne n2).trans h2, ⟨dx, upd_same⟩, ⟨d4, (upd_ne (Ne.symm ne)).trans h4⟩, ne, u2⟩
theorem TapeAt.setO (h : TapeAt CA CT H t la aU aO u d lU lO sU sO) {dx : Addr} {l : List Nat} {s : Nat} : TapeAt CA CT (upd H aO (areaO CA dx l s)) t la aU aO u d lU l sU s := by
  have n1 := h.tO
  have n2 := h.laO
  obtain ⟨⟨d1, h1⟩, h2, ⟨d3, h3⟩, ⟨d4, h4⟩, ne, u2⟩ := h
  exact ⟨⟨d1, (upd_ne n1).trans h1⟩, (upd_ne n2).trans h2, ⟨d3, (upd_ne ne).trans h3⟩, ⟨dx, upd_same⟩, ne, u2⟩
theorem TapeAt.setD (h : TapeAt CA CT H t la aU aO u d lU lO sU sO) {dx : Addr} {d' : Nat} : TapeAt CA CT (upd H t (tapeO CT dx la u d')) t la aU aO u d' lU lO sU sO := by
  have n1 := h.tU
  have n2 := h.tO
  have n3 := h.lt
  obtain ⟨⟨d1, h1⟩, h2, ⟨d3, h3⟩, ⟨d4, h4⟩, ne, u2⟩ := h
  exact ⟨⟨dx, upd_same⟩, (upd_ne n3).trans h2, ⟨d3, (upd_ne (Ne.symm n1)).trans h3⟩, ⟨d4, (upd_ne (Ne.symm n2)).trans h4⟩, ne, u2⟩
/-- the areas change their parts -/
theorem TapeAt.swap (h : TapeAt CA CT H t la aU aO u d lU lO sU sO) {dx : Addr} : TapeAt CA CT (upd H t (tapeO CT dx la (1 - u) d)) t la aO aU (1 - u) d lO lU sO sU := by
  have n1 := h.tU
  have n2 := h.tO
  have n3 := h.lt
  obtain ⟨⟨d1, h1⟩, h2, ⟨d3, h3⟩, ⟨d4, h4⟩, ne, u2⟩ := h
  exact ⟨⟨dx, upd_same⟩, by rw [sel_sw u2]; exact (upd_ne n3).trans h2, ⟨d4, (upd_ne (Ne.symm n2)).trans h4⟩, ⟨d3, (upd_ne (Ne.symm n1)).trans h3⟩, Ne.symm ne, by omega⟩
end
theorem scT0 : FnScope ["self"] ["self"] (defScope (sTape 0)) := ⟨rfl, rfl, rfl, by decide +kernel, rfl, by decide +kernel, by decide +kernel⟩
theorem scT1 : FnScope ["self"] ["self"] (defScope (sTape 1)) := ⟨rfl, rfl, rfl, by decide +kernel, rfl, by decide +kernel, by decide +kernel⟩
theorem scT2 : FnScope ["self"] ["self"] (defScope (sTape 2)) := ⟨rfl, rfl, rfl, by decide +kernel, rfl, by decide +kernel, by decide +kernel⟩
theorem scT3 : FnScope ["self", "text", "written"] ["self", "text"] (defScope (sTape 3)) := ⟨rfl, rfl, rfl, by decide +kernel, rfl, by decide +kernel, by decide +kernel⟩
theorem scT4 : FnScope ["self", "area"] ["self"] (defScope (sTape 4)) := ⟨rfl, rfl, rfl, by decide +kernel, rfl, by decide +kernel, by decide +kernel⟩
theorem scT9 : FnScope ["self", "kept", "area", "many"] ["self", "kept"] (defScope (sTape 9)) := ⟨rfl, rfl, rfl, by decide +kernel, rfl, by decide +kernel, by decide +kernel⟩
/-- what the methods are -/
structure MethC (P : Program) (w : World) (K : PySem.W.Frag) (mg : Str → Option Value) (base : Heap) (C : Addr) (m : Str) (k : Nat) (ps : List Str) (sp : Sp) : Prop where
  ex : ∃ (f : Addr) (fd : FuncData), FnOk P w K mg base CX0 k f fd ps sp ∧ Binds K fd ps [] ∧ Meth K C m f
def spIn (CT : Addr) : Sp := fun vs H Q _ => ∃ (t dx la : Addr) (u d : Nat) (x y : V), vs = [.ref t] ∧ H t = some (tapeO CT dx la u d) ∧ H la = some (.lst (sel u x y)) ∧ (u = 0 ∨ u = 1) ∧ Q x H
def spOt (CT : Addr) : Sp := fun vs H Q _ => ∃ (t dx la : Addr) (u d : Nat) (x y : V), vs = [.ref t] ∧ H t = some (tapeO CT dx la u d) ∧ H la = some (.lst (sel u x y)) ∧ (u = 0 ∨ u = 1) ∧ Q y H
section
variable {P : Program} {w : World} {K : PySem.W.Frag} {mg : Str → Option Value} {base : Heap} {CA CT : Addr}
theorem spIn_use {H : Hp} {t la aU aO : Addr} {u d sU sO : Nat} {lU lO : List Nat} {Q : VK} {E : XK} (h : TapeAt CA CT H t la aU aO u d lU lO sU sO) (q : Q (.ref aU) H) : spIn CT [.ref t] H Q E := by
  obtain ⟨dx, h1⟩ := h.tp
  exact ⟨t, dx, la, u, d, _, _, rfl, h1, h.li, h.u2, q⟩
theorem spOt_use {H : Hp} {t la aU aO : Addr} {u d sU sO : Nat} {lU lO : List Nat} {Q : VK} {E : XK} (h : TapeAt CA CT H t la aU aO u d lU lO sU sO) (q : Q (.ref aO) H) : spOt CT [.ref t] H Q E := by
  obtain ⟨dx, h1⟩ := h.tp
  exact ⟨t, dx, la, u, d, _, _, rfl, h1, h.li, h.u2, q⟩
theorem ok_T1 {f : Addr} {fd : FuncData} (F : Fun K "in_use" "Tape.in_use" (sTape 1) f fd) (T : TxtC K mg CA CT) : FnOk P w K mg base CX0 1 f fd ["self"] (spIn CT) := by
  refine F.ok scT1 (fun vs H Q E h => ?_) (fun cdv A outer s H vs Q E hr h => ?_)
  · obtain ⟨t, dx, la, u, d, x, y, rfl, _⟩ := h
    rfl
  · obtain ⟨t, dx, la, u, d, x, y, rfl, h1, h2, u2, q⟩ := h
    refine ⟨_, pss_one (ps_ret (pe_ix ix_list (pe_fld (pv 0) rfl) (pe_fld (pv 0) rfl) (fun _ _ => rfl))), ?_⟩
    exact ⟨_, rfl, t, CT, dx, _, _, rfl, h1, T.clT, T.nA, getT_a la u d, _, rfl, t, CT, dx, _, _, rfl, h1, T.clT, T.nU, getT_u la u d, la, _, _, x, rfl, rfl, SqL.of h2, atI_nat (sel_u u2 x y), q⟩
theorem ok_T2 {f : Addr} {fd : FuncData} (F : Fun K "other" "Tape.other" (sTape 2) f fd) (T : TxtC K mg CA CT) : FnOk P w K mg base CX0 1 f fd ["self"] (spOt CT) := by
  refine F.ok scT2 (fun vs H Q E h => ?_) (fun cdv A outer s H vs Q E hr h => ?_)
  · obtain ⟨t, dx, la, u, d, x, y, rfl, _⟩ := h
    rfl
  · obtain ⟨t, dx, la, u, d, x, y, rfl, h1, h2, u2, q⟩ := h
    refine ⟨_, pss_one (ps_ret (pe_ix ix_list (pe_fld (pv 0) rfl) (pe_op op_sub pe_int (pe_fld (pv 0) rfl)) (fun _ _ => rfl))), ?_⟩
    refine ⟨_, rfl, t, CT, dx, _, _, rfl, h1, T.clT, T.nA, getT_a la u d, _, rfl, t, CT, dx, _, _, rfl, h1, T.clT, T.nU, getT_u la u d, _, _, rfl, rfl, la, _, ((1 - u : Nat) : Int), y, rfl, ?_, SqL.of h2, atI_nat (sel_o u2 x y), q⟩
    have e : (1 : Int) - (u : Int) = ((1 - u : Nat) : Int) := by omega
    exact congrArg V.int e
/-! ### append, sync -/
theorem rec_le {k : Nat} {t : List Nat} (hk : k < 10) (ht : t.length ≤ 1000) : (recL k t).length ≤ 1100 := by
  have b := body_len (k := k) (t := t) hk (by omega)
  have n1 := num_le_of (n := k) (k := 0) (by omega)
  have n2 := num_le_of (n := t.length) (k := 6) (by omega)
  have n3 := num_le_of (n := chkL (bodyL k t)) (k := 9) (by have := chk_lt (bodyL k t); omega)
  have b2 : (bodyL k t).length ≤ 1020 := by
    unfold bodyL
    rw [List.length_append, List.length_cons, List.length_append, List.length_cons]
    omega
  unfold recL
  rw [List.length_append, List.length_cons, List.length_append, List.length_singleton]
  omega
def spAp (CA CT : Addr) : Sp := fun vs H Q _ => ∃ (t la aU aO : Addr) (u d sU sO : Nat) (lU lO x : List Nat), vs = [.ref t, .str (Sg x)] ∧ TapeAt CA CT H t la aU aO u d lU lO sU sO ∧ x.length ≤ 1000 ∧ lU.length ≤ 100000 ∧ lO.length ≤ 100000 ∧
  ∀ H', TapeAt CA CT H' t la aU aO u d (lU ++ recL 2 x) (if d > 0 then lO ++ recL 2 x else lO) sU sO → Ch [aU, aO] H H' → Q .non H'
theorem ok_T3 {f fT fI fO fW : Addr} {fd fdT fdI fdO fdW : FuncData} {t2 : Tok} (F : Fun K "append" "Tape.append" (sTape 3) f fd) (T : TxtC K mg CA CT)
    (GT : FnOk P w K mg base CX0 2 fT fdT ["kind", "text"] spRec) (bT : Binds K fdT ["kind", "text"] []) (gT : mg "record_text" = some (.ref fT)) (kT : PySem.W.keepIn K (.ref fT) = true)
    (GI : FnOk P w K mg base CX0 1 fI fdI ["self"] (spIn CT)) (bI : Binds K fdI ["self"] []) (mI : Meth K CT "in_use" fI)
    (GO : FnOk P w K mg base CX0 1 fO fdO ["self"] (spOt CT)) (bO : Binds K fdO ["self"] []) (mO : Meth K CT "other" fO)
    (GW : FnOk P w K mg base CX0 1 fW fdW ["self", "text"] (spA1 CA)) (bW : Binds K fdW ["self", "text"] []) (mW : Meth K CA "write" fW) (gE : mg "ENTRY" = some (.int 2 t2)) :
    FnOk P w K mg base CX0 3 f fd ["self", "text"] (spAp CA CT) := by
  refine F.ok scT3 (fun vs H Q E h => ?_) (fun cdv A outer s H vs Q E hr h => ?_)
  · obtain ⟨t, la, aU, aO, u, d, sU, sO, lU, lO, x, rfl, _⟩ := h
    rfl
  · obtain ⟨t, la, aU, aO, u, d, sU, sO, lU, lO, x, rfl, ta, hx, bU, bO', q⟩ := h
    have hr1 : Room 1 _ := hr.mono (by decide)
    refine ⟨_, (pss_cons (ps_set (i := 2) scT3.nd rfl (.inl rfl) (pe_call GT hr (by rfl) gT kT bT .nil pass0 (pa_cons (pe_glob (v := V.int 2) (by rfl) gE ⟨_, rfl⟩) (pa_cons (pv 1) pa_nil))))
      (pss_cons (ps_expr (pe_meth (pe_meth0 (pv 0) T.clT mI GI hr1 bI .nil pass0) T.clA mW GW hr1 bW .nil pass0 (pa_cons (pv 2) pa_nil)))
      (pss_one (ps_if (pt_cmpR op_gt (pe_fld (pv 0) rfl) pe_int (nomark _)) (pss_one (ps_expr (pe_meth (pe_meth0 (pv 0) T.clT mO GO hr1 bO .nil pass0) T.clA mW GW hr1 bW .nil pass0 (pa_cons (pv 2) pa_nil)))) pss_nil)))), ?_⟩
    have lr := rec_le (k := 2) (t := x) (by decide) hx
    obtain ⟨dx, h1⟩ := id ta.tp
    obtain ⟨dU, hU⟩ := id ta.hU
    refine ⟨_, rfl, ?_⟩
    dsimp only [tNil]
    refine ⟨2, Sg x, rfl, by decide, by rw [len_tl]; show x.length ≤ _; omega, ?_⟩
    rw [sg_tl]
    refine ⟨_, rfl, t, dx, _, rfl, h1, getT_no _ _ _ (by decide +kernel) (by decide +kernel) (by decide +kernel), ?_⟩
    dsimp only [tNil]
    refine spIn_use ta ?_
    refine ⟨aU, dU, _, rfl, hU, getA_no _ _ (by decide +kernel) (by decide +kernel), _, rfl, ?_⟩
    refine ⟨aU, dU, lU, recL 2 x, sU, rfl, hU, by omega, ?_⟩
    have ta1 : TapeAt CA CT (upd H aU (areaO CA dU (lU ++ recL 2 x) sU)) t la aU aO u d (lU ++ recL 2 x) lO sU sO := ta.setU
    have c1 : Ch [aU, aO] H (upd H aU (areaO CA dU (lU ++ recL 2 x) sU)) := Ch.upd (by simp)
    obtain ⟨dx1, h11⟩ := id ta1.tp
    obtain ⟨dO, hO⟩ := id ta1.hO
    refine ⟨_, rfl, t, CT, dx1, _, _, rfl, h11, T.clT, T.nDn, getT_d la u d, _, _, rfl, rfl, _, rfl, ?_⟩
    by_cases hd : d > 0
    · rw [if_pos hd] at q
      have e : decide ((d : Int) > 0) = true := decide_eq_true (by omega)
      show if decide ((d : Int) > 0) = true then _ else _
      rw [if_pos e]
      refine ⟨_, rfl, t, dx1, _, rfl, h11, getT_no _ _ _ (by decide +kernel) (by decide +kernel) (by decide +kernel), ?_⟩
      dsimp only [tNil]
      refine spOt_use ta1 ?_
      refine ⟨aO, dO, _, rfl, hO, getA_no _ _ (by decide +kernel) (by decide +kernel), _, rfl, ?_⟩
      refine ⟨aO, dO, lO, recL 2 x, sO, rfl, hO, by omega, ?_⟩
      exact q _ ta1.setO (c1.trans (Ch.upd (by simp)))
    · rw [if_neg hd] at q
      have e : ¬ decide ((d : Int) > 0) = true := by simpa using hd
      show if decide ((d : Int) > 0) = true then _ else _
      rw [if_neg e]
      exact q _ ta1 c1
def spSy (CA CT : Addr) : Sp := fun vs H Q _ => ∃ (t la aU aO : Addr) (u d sU sO : Nat) (lU lO : List Nat), vs = [.ref t] ∧ TapeAt CA CT H t la aU aO u d lU lO sU sO ∧ lU.length ≤ 100000 ∧ lO.length ≤ 100000 ∧
  ∀ H', TapeAt CA CT H' t la aU aO u d lU lO lU.length lO.length → Ch [aU, aO] H H' → Q .non H'
theorem ok_T4 {f fS : Addr} {fd fdS : FuncData} (F : Fun K "sync" "Tape.sync" (sTape 4) f fd) (T : TxtC K mg CA CT)
    (GS : FnOk P w K mg base CX0 1 fS fdS ["self"] (spA2 CA)) (bS : Binds K fdS ["self"] []) (mS : Meth K CA "secure" fS) :
    FnOk P w K mg base CX0 2 f fd ["self"] (spSy CA CT) := by
  refine F.ok scT4 (fun vs H Q E h => ?_) (fun cdv A outer s H vs Q E hr h => ?_)
  · obtain ⟨t, la, aU, aO, u, d, sU, sO, lU, lO, rfl, _⟩ := h
    rfl
  · obtain ⟨t, la, aU, aO, u, d, sU, sO, lU, lO, rfl, ta, bU, bO, q⟩ := h
    have hr1 : Room 1 _ := hr.mono (by decide)
    refine ⟨_, (pss_one (ps_for PassesOwn.never rfl (pi_list (pe_fld (pv 0) rfl)) (pg_name (i := 1) scT4.nd rfl (.inl rfl)) (pss_one (ps_expr (pe_meth0 (pv 1) T.clA mS GS hr1 bS .nil pass0))))), ?_⟩
    obtain ⟨dx, h1⟩ := id ta.tp
    refine ⟨_, rfl, t, CT, dx, _, _, rfl, h1, T.clT, T.nA, getT_a la u d, la, rfl, ⟨_, SqL.of ta.li⟩, ?_⟩
    refine for_list (xs := sel u (.ref aU) (.ref aO)) (fun i σ H' => ∃ y : Option V, σ = [some (.ref t), y] ∧ Ch [aU, aO] H H' ∧
        TapeAt CA CT H' t la aU aO u d lU lO (if (u = 0 ∧ 1 ≤ i) ∨ 2 ≤ i then lU.length else sU) (if (u = 1 ∧ 1 ≤ i) ∨ 2 ≤ i then lO.length else sO))
      ⟨none, rfl, Ch.refl, by simpa using ta⟩ ?_ ?_ ?_
    · rintro i σ H' _ ⟨y, _, _, tb⟩
      exact SqL.of tb.li
    · rintro i v σ H' hv ⟨y, rfl, ch, tb⟩
      have stU : v = .ref aU → (∀ pU, (if (u = 0 ∧ 1 ≤ i) ∨ 2 ≤ i then lU.length else sU) = pU → True) → ∀ R : Hp → Prop, (∀ H2, Ch [aU, aO] H H2 → TapeAt CA CT H2 t la aU aO u d lU lO lU.length (if (u = 1 ∧ 1 ≤ i) ∨ 2 ≤ i then lO.length else sO) → R H2) →
          tMeth CA "secure" (spA2 CA) [] E0 (tVar 1) tNil [some (.ref t), some v] H' (fun _ H2 => R H2) := by
        rintro rfl _ R hR
        obtain ⟨dU, hU⟩ := id tb.hU
        refine ⟨_, rfl, aU, dU, _, rfl, hU, getA_no _ _ (by decide +kernel) (by decide +kernel), ?_⟩
        exact ⟨aU, dU, lU, _, rfl, hU, by omega, hR _ (ch.trans (Ch.upd (by simp))) tb.setU⟩
      have stO : v = .ref aO → ∀ R : Hp → Prop, (∀ H2, Ch [aU, aO] H H2 → TapeAt CA CT H2 t la aU aO u d lU lO (if (u = 0 ∧ 1 ≤ i) ∨ 2 ≤ i then lU.length else sU) lO.length → R H2) →
          tMeth CA "secure" (spA2 CA) [] E0 (tVar 1) tNil [some (.ref t), some v] H' (fun _ H2 => R H2) := by
        rintro rfl R hR
        obtain ⟨dO, hO⟩ := id tb.hO
        refine ⟨_, rfl, aO, dO, _, rfl, hO, getA_no _ _ (by decide +kernel) (by decide +kernel), ?_⟩
        exact ⟨aO, dO, lO, _, rfl, hO, by omega, hR _ (ch.trans (Ch.upd (by simp))) tb.setO⟩
      have li : i < 2 := by
        have := (List.getElem?_eq_some_iff.mp hv).1
        rw [sel_len] at this
        exact this
      rcases ta.u2 with e0 | e1
      · subst e0
        match i, li, hv with
        | 0, _, hv =>
          refine stU (Option.some.inj hv).symm (fun _ _ => trivial) _ fun H2 c2 t2 => ⟨_, rfl, c2, ?_⟩
          simpa using t2
        | 1, _, hv =>
          refine stO (Option.some.inj hv).symm _ fun H2 c2 t2 => ⟨_, rfl, c2, ?_⟩
          simpa using t2
      · subst e1
        match i, li, hv with
        | 0, _, hv =>
          refine stO (Option.some.inj hv).symm _ fun H2 c2 t2 => ⟨_, rfl, c2, ?_⟩
          simpa using t2
        | 1, _, hv =>
          refine stU (Option.some.inj hv).symm (fun _ _ => trivial) _ fun H2 c2 t2 => ⟨_, rfl, c2, ?_⟩
          simpa using t2
    · rintro σ H' ⟨y, rfl, ch, tb⟩
      rw [sel_len] at tb
      exact q _ (by simpa using tb) ch
end
end K85
namespace PySem
namespace StepX
open PySem.W PySem.Calls PyProof.Rows PySem.HandSPX
/-! ### the text of __init__ -/
def iA (p1 p2 : Pos) : Arguments := { posonlyargs := [], args := [{ arg := "self", annotation := none, pos := p1 }, { arg := "step", annotation := none, pos := p2 }], vararg := none, kwonlyargs := [], kw_defaults := [], kwarg := none, defaults := [] }
def iB (q1 q2 q3 q4 : Pos) : List Stmt := [.Assign [.Attribute (.Name "self" q1) "step" q2] (.Name "step" q3) q4]
def iS : Scope := { kind := .function, names := [(PySem.Str.ofString "self", .local), (PySem.Str.ofString "step", .local)], isGenerator := false, isCoroutine := false, more := [] }
/-- what the written part says of Low, at C, and of its __init__, at fI -/
structure StepTxt (K : Frag) (mg : Str → Option Value) (C fI : Addr) : Prop where
  gC : mg "StepError" = some (.ref C)
  cls : ∃ nm q N bs bm sn sub ab col dd k0 k1 k2 k3 k5, K.lookup C = some (excClassObj nm q C N bs bm true sn sub ab col dd k0 k1 k2 k3 k5 "ValueError.__new__") ∧ refsVE bm = true
  sa : findIn K (.ref C) "__setattr__" = some (some (.builtin "object.__setattr__"))
  ga : findIn K (.ref C) "__getattribute__" = some (some (.builtin "BaseException.__getattribute__"))
  gg : findIn K (.ref C) "__getattr__" = some none
  noN : findIn K (.ref C) "step" = some none
  iC : findIn K (.ref C) "__init__" = some (some (.ref fI))
  tC : typeIn K (.ref fI) = some (.type "function")
  kC : keepIn K (.ref C) = true
  exC : subIn K (.ref C) (.type "BaseException") = some true
  tyC : typeIn K (.ref C) = some (.type "type")
  hdC : hasDictIn K C = true
  te : exmOne K (.ref C) (.ref C) = some true
  fn : ∃ (oc : Value) (od : Option Addr) (doc pm : Value) (an : Option Addr) (cdv ct : Value) (osl : Array (Option Value)) (p1 p2 q1 q2 q3 q4 : Pos),
    K.lookup fI = some ⟨oc, od, .func (fnOf "__init__" "StepError.__init__" (iA p1 p2) (iB q1 q2 q3 q4) iS .none .none doc pm an cdv ct), osl⟩ ∧ codeIn K cdv "StepError.__init__" = true
theorem one_size (v : Value) : [v].length ≤ sizeLine := by
  rw [sizeLine_eq]
  exact (by decide : 1 ≤ 16777216)
theorem kept_but {K : Frag} {h h' : Heap} {x : Addr} (X : K.In h) (hx : K.lookup x = none) (k : ∀ b o, b ≠ x → h.get? b = some o → h'.get? b = some o) : K.In h' := fun a o e =>
  k a o (fun z => by rw [z, hx] at e; cases e) (X a o e)
theorem ldC {M : Model} {s : Shared} {name : Str} {scope : Scope} {L a : Addr} {cd : Value} {m : Str → Option Value} {x : Str} {pos : Pos} {v : Value} {Q : Value → Shared → Prop} {A : Around} {E : Value → Shared → Prop} (hn : s.heap.Ns L m) (hv : m x = some v) (h : Q v s)
    (hk : scope.kind = .function := by rfl) (hl : (envOfC name scope L a cd).kindOf x = some .local := by rfl) (hd : (x == ("__debug__" : Str)) = false := by decide) :
    wpAny M A (eval (.Name x pos) (envOfC name scope L a cd)) Q E s := wpAny_Name (wpAny_loadName_local hk hl hn hv h) hd
/-- what __init__ leaves of a fresh exception at x -/
structure InitEnd (h h' : Heap) (x C dx t1 : Addr) (v : Value) : Prop where
  keep : ∀ b o, b ≠ x → h.get? b = some o → h'.get? b = some o
  obj : h'.get? x = some { cls := .ref C, dict := some dx, data := .fields #[.ref t1, .none, .none, .none, .bool false, .none] }
  dbig : h.objs.size ≤ dx
  dne : dx ≠ x
  ns : h'.Ns1 dx (fun y => if y = "step" then some v else none)
/-- a made Low -/
structure OwnMade (h h' : Heap) (e C d : Addr) (v : Value) : Prop where
  keep : ∀ b o, h.get? b = some o → h'.get? b = some o
  new : h.objs.size ≤ e
  obj : ∃ oe vs, h'.get? e = some oe ∧ oe.cls = .ref C ∧ oe.dict = some d ∧ oe.data = .fields vs ∧ vs[1]? = some .none
  dbig : h.objs.size ≤ d
  dne : d ≠ e
  ns : h'.Ns1 d (fun y => if y = "step" then some v else none)
section
variable {prog : Program} {w : World} {A : Around} {E : Value → Shared → Prop} {R : Result → Shared → Prop} {s : Shared} {K : Frag} {mg : Str → Option Value} {C fI : Addr}
theorem step_init (T : StepTxt K mg C fI) {x t0 : Addr} {v : Value} (X : K.In s.heap) (hlim : s.heap.NoLimit) (hx : s.heap.get? x = some (excO C t0)) (hnx : K.lookup x = none) (hroom : A.depth < recursionLimit)
    (hq : ∀ h' tk dx, InitEnd s.heap h' x C dx t0 v → R (.ok (.ret .none)) { s with heap := h', toks := tk }) :
    codeAny (model prog w) A (.call (.ref fI) ⟨[.ref x, v], []⟩) R s := by
  obtain ⟨oc, od, doc, pm, an, cdv, ct, osl, p1, p2, q1, q2, q3, q4, ho, hcd⟩ := T.fn
  obtain ⟨nm, q, N, bs, bm, sn, sub, ab, col, dd, k0, k1, k2, k3, k5, hC, hbm⟩ := T.cls
  have hcl : clsIn K C = some { name := nm, bases := bs, mro := .ref C :: bm, ns := N, qualname := q, hasDict := true, slotNames := sn, subclasses := sub, abstract := ab, collection := col, hasDel := false } := by unfold clsIn; rw [hC] <;> rfl
  refine Att.call_fn (binds := [("self", .ref x), ("step", v)]) X hlim ho hcd hroom (BindsTo.of_eq (by first | rfl | with_unfolding_all rfl)) (by first | rfl | decide | with_unfolding_all rfl) (fun s₁ IC => ?_) rfl rfl rfl
  obtain ⟨h₁, tk₁, rfl⟩ := IC.toInCall.same
  have k : ∀ b o, s.heap.get? b = some o → h₁.get? b = some o := IC.toInCall.keep
  have hn := IC.toInCall.ns
  have hxL : s.heap.objs.size ≠ x := Nat.ne_of_gt (Heap.lt_size hx)
  have X₁ : K.In h₁ := X.keeps k
  have hx₁ := k _ _ hx
  -- self.by = by
  show wpAny _ _ (execs _ _) _ _ _
  refine wpAny_execs_cons (plainObj_wpAny_Assign_Attribute ?_)
  refine ldC (v := v) hn (by first | rfl | with_unfolding_all rfl | kernel_rfl) (ldC (v := .ref x) hn (by first | rfl | with_unfolding_all rfl | kernel_rfl) ?_)
  refine set_plain X₁ (ox := excO C t0) (od := none) ⟨hx₁, rfl, rfl, trivial⟩ T.sa ?_
  refine exc_osa X₁ hx₁ hcl (show refsVE (.ref C :: bm) = true from hbm) rfl T.noN (fun h₃ tk₃ dx k₃ dn dne hx₃ hn₃ => ?_)
  show wpAny _ _ (execs _ _) _ _ _
  have z : s.heap.objs.size < h₁.objs.size := hn.lt
  exact wpAny_execs_nil (hq h₃ tk₃ dx ⟨fun b o hb e => k₃ b o hb (k b o e), hx₃, Nat.le_of_lt (Nat.lt_of_lt_of_le z dn), dne, hn₃⟩)
theorem step_made (T : StepTxt K mg C fI) {v : Value} (X : K.In s.heap) (hlim : s.heap.NoLimit) (hroom : A.depth + 1 < recursionLimit)
    (hq : ∀ h' tk e d, OwnMade s.heap h' e C d v → R (.ok (.ret (.ref e))) { s with heap := h', toks := tk }) :
    codeAny (model prog w) A (.call (.ref C) ⟨[v], []⟩) R s := by
  obtain ⟨nm, q, N, bs, bm, sn, sub, ab, col, dd, k0, k1, k2, k3, k5, hC, hbm⟩ := T.cls
  obtain ⟨hp, g, dr, tk, os⟩ := s
  have k : ∀ b o, hp.get? b = some o → ((hp.push (kdv_tup [v])).push (excO C hp.objs.size)).get? b = some o := fun b o e => Heap.get?_push_of_some _ (Heap.get?_push_of_some _ e)
  have hget : ((hp.push (kdv_tup [v])).push (excO C hp.objs.size)).get? (hp.objs.size + 1) = some (excO C hp.objs.size) := by heap_get
  have hnx : K.lookup (hp.objs.size + 1) = none := by
    cases e : K.lookup (hp.objs.size + 1) with
    | none => rfl
    | some o =>
      have z : hp.get? (hp.objs.size + 1) = some o := X _ _ e
      exact absurd (Nat.lt_of_succ_lt (Heap.lt_size z)) (Nat.lt_irrefl _)
  refine call_own F.excBase_ValueError (fun X => refsVE_contains X bm hbm) (X _ _ hC) (looks_findIn X T.iC) (fun self => bind_fn X self T.tC) (one_size v) ?_
  refine step_init (s := ⟨(hp.push (kdv_tup [v])).push (excO C hp.objs.size), g, dr, tk, os⟩) T (X.keeps k) (hlim.keeps k) hget hnx ?_ fun h' tk' dx ⟨k', hx, dn, dne, hns⟩ => ?_
  · show A.depth + 1 < recursionLimit
    exact hroom
  · have old : ∀ b o, hp.get? b = some o → h'.get? b = some o := fun b o e => k' b o (Nat.ne_of_lt (Nat.lt_succ_of_lt (Heap.lt_size e))) (k b o e)
    have z : hp.objs.size + 1 + 1 ≤ dx := by
      first
        | (simpa only [Heap.size_push] using dn)
        | exact dn
        | (have q := dn; rw [Heap.size_push, Heap.size_push] at q; exact q)
    exact ⟨rfl, hq h' tk' (hp.objs.size + 1) dx ⟨old, Nat.le_succ _, ⟨_, _, hx, rfl, rfl, rfl, rfl⟩, Nat.le_trans (Nat.le_trans (Nat.le_succ _) (Nat.le_succ _)) z, dne, hns⟩⟩
end
end StepX
end PySem
namespace L2
open PySem PySem.Spec PyProof.Rows
theorem relO_step {v : V} {v' : Value} (r : RelV v v') (f : Str) : RelO (List.lookup f [(("step" : Str), v)]) (if f = "step" then some v' else none) := by
  by_cases hw : f = "step"
  · subst hw
    rw [if_pos rfl]
    have q : List.lookup ("step" : Str) [(("step" : Str), v)] = some v := by simp [List.lookup]
    rw [q]
    exact r
  · rw [if_neg hw]
    have qw : (f == ("step" : Str)) = false := by simpa using hw
    have q2 : List.lookup f [(("step" : Str), v)] = none := by simp [List.lookup, qw]
    rw [q2]
    trivial
section
variable {X : Cx} {C fI : Addr}
/-- Low(e) -/
def tMkStep (C : Addr) (ta : TA) : St → Hp → XK → Prop := fun σ H Q => ta σ H fun vs H1 => ∃ v, vs = [v] ∧ ∀ d, H1 d = none → Q (.ref C) (some d) (upd H1 d (.xd [(("step" : Str), v)]))
theorem pmk_step {a : Expr} {ta : TA} {p pos : Pos} {k : Nat} (T : PySem.StepX.StepTxt X.K X.mg C fI) (hr : Room k X.A) (ha : PA X [a] ta) (hg : Gl X "StepError" := by rfl)
    (he : starEach (a :: []) X.env = (false, eval a X.env) :: starEach [] X.env := by rfl) (hpl : (backTo pos (starEach [] X.env)).any (·.1) = false := by rfl) :
    PMk X (.Call (.Name "StepError" p) [a] [] pos) (tMkStep C ta) := by
  intro pins s σ H Q I h
  refine wpAny_Call_Name_kw (ld_glob I hg T.gC ?_)
  refine PySem.W.callWith_K (h₀ := X.base) I.ok.mod.kin T.kC (thn (ha.run pos pins s σ H _ I h) fun us s1 hh => ?_) he hpl
  obtain ⟨vs, H1, I1, r1, v, ev, q1⟩ := hh
  subst ev
  refine ⟨I1.kIn, ?_⟩
  cases r1 with
  | cons rv rn =>
    rename_i v' us'
    cases rn
    show wpAny _ _ (call (.ref C) [v']) _ _ _
    have hlim := I1.nolimit
    obtain ⟨hp, g, dr, tk, os⟩ := s1
    refine wpAny_call (PySem.StepX.step_made T I1.kIn hlim (by have := hr.dp; omega) fun h' tk' e d M => ?_)
    show MkP X pins σ Q (.ref e) ⟨h', g, dr, tk', os⟩
    obtain ⟨oe, fv, hoe, hc, hd, hdat, h1⟩ := M.obj
    have hns := M.ns
    obtain ⟨G', g1, g2⟩ := restrict h' fun b => decide (b ≠ e)
    have gk : ∀ b, b ≠ e → G'.get? b = h'.get? b := fun b hb => g1 b (decide_eq_true hb)
    have ge : G'.get? e = none := g2 e (by simp)
    have old : ∀ b o, hp.get? b = some o → G'.get? b = some o := fun b o q => (gk b (Nat.ne_of_lt (Nat.lt_of_lt_of_le (Heap.lt_size q) M.new))).trans (M.keep b o q)
    have ob : ObjOk X.prog X.w (upd H1 d (.xd [(("step" : Str), v)])) G' d (.xd [(("step" : Str), v)]) :=
      ⟨_, hns.at (fun o q => (gk d M.dne).trans q), fun f => relO_step rv f⟩
    have J : Inv X pins σ (upd H1 d (.xd [(("step" : Str), v)])) ⟨G', g, dr, tk', os⟩ := I1.laid (t' := tk') old M.dbig ob
    refine ⟨e, oe, fv, ⟨G', g, dr, tk', os⟩, _, .ref C, some d, rfl, J, fun b o q => ?_, ge, hoe, ⟨hc, hd⟩, hdat, h1, ?_, rfl, I1.bare, raises_own T.exC T.tyC, q1 d (I1.hok.fresh M.dbig)⟩
    · by_cases hb : b = e
      · have q' : G'.get? b = some o := q
        rw [hb, ge] at q'; cases q'
      · exact (gk b hb).symm.trans q
    · rw [upd_ne (Ne.symm M.dne)]
      exact I1.hok.fresh M.new
/-- raise Low(e) -/
def tRaiseStep (C : Addr) (W : WX) (ta : TA) : TS := fun _ σ H => tMkStep C ta σ H fun cls d H' => W cls d σ H'
theorem ps_raiseStep {a : Expr} {ta : TA} {W : WX} {p pos pos2 : Pos} {k : Nat} (hc : X.calm = true) (T : PySem.StepX.StepTxt X.K X.mg C fI) (hr : Room k X.A) (tk : Takes X W) (ha : PA X [a] ta) (hg : Gl X "StepError" := by rfl)
    (he : starEach (a :: []) X.env = (false, eval a X.env) :: starEach [] X.env := by rfl) (hpl : (backTo pos (starEach [] X.env)).any (·.1) = false := by rfl) :
    PS X (.Raise (some (.Call (.Name "StepError" p) [a] [] pos)) none pos2) (tRaiseStep C W ta) := ps_raise hc tk (pmk_step T hr ha hg he hpl)
/-- low.by, low the exception that the suite holds (at a; its class cls, its dict d) -/
def tStepOf (C : Addr) (a : Addr) (cls : Value) (d : Option Addr) (te : TE) : TE := fun σ H Q => te σ H fun x H1 => x = .ref a ∧ cls = .ref C ∧ ∃ (dd : Addr) (v : V), d = some dd ∧ H1 dd = some (.xd [(("step" : Str), v)]) ∧ Q v H1
theorem pe_stepOf {a : Addr} {oe : Obj} {cls : Value} {d : Option Addr} {pn : List (Addr × Obj)} {e : Expr} {te : TE} {pos : Pos} (T : PySem.StepX.StepTxt X.K X.mg C fI) (hz : Zc cls d oe) (hf : ∃ vs, oe.data = .fields vs) (he : PE (X.suite a ((a, oe) :: pn)) e te)
    (hb : attributeBase e "step" X.env (eval e X.env) = eval e X.env := by rfl) :
    PE (X.suite a ((a, oe) :: pn)) (.Attribute e "step" pos) (tStepOf C a cls d te) := by
  refine ⟨fun pins s σ H Q I h => ?_⟩
  refine attr_of hb (thn (he.run pins s σ H _ I h) fun u s1 hh => ?_)
  obtain ⟨x, H1, I1, rx, ex, ec, dd, v, ed, ea, q⟩ := hh
  subst ex
  obtain rfl : u = Value.ref a := rx
  subst ec
  subst ed
  obtain ⟨ha, _⟩ := I1.pin (a, oe) (List.mem_append_left _ List.mem_cons_self)
  obtain ⟨vs, hd⟩ := hf
  have hx : ObjOk X.prog X.w H1 s1.heap dd (.xd [(("step" : Str), v)]) := I1.hok dd _ ea
  obtain ⟨mA, hns, hr⟩ := hx
  obtain ⟨od, ho, hl⟩ := lookIn_ns hns
  have l : List.lookup ("step" : Str) [(("step" : Str), v)] = some v := by simp [List.lookup]
  obtain ⟨u, hu, ru⟩ := RelO.some_of (v := v) (o := mA "step") (by rw [← l]; exact hr "step")
  have J : PySem.W.InstAt s1.heap a oe C (some od) := ⟨ha, hz.1, by unfold PySem.W.notCls; rw [hd] <;> rfl, by rw [hz.2]; exact ho⟩
  exact HandSPX.exc_get I1.kIn J T.ga T.gg T.exC (PySem.W.findObj_own T.hdC T.noN rfl (by rw [hl, hu])) (handed_of ru) ⟨v, H1, I1.tok _, ru, q⟩
end
end L2
namespace K85
open PySem PySem.Spec PyProof.Rows L2 QR TL
open GxR (TabB TabG Tabbed GenS)
theorem scT5 : FnScope ["self", "step"] ["self", "step"] (defScope (sTape 5)) := ⟨rfl, rfl, rfl, by decide +kernel, rfl, by decide +kernel, by decide +kernel⟩
theorem scT6 : FnScope ["self", "texts", "head", "text"] ["self", "texts"] (defScope (sTape 6)) := ⟨rfl, rfl, rfl, by decide +kernel, rfl, by decide +kernel, by decide +kernel⟩
theorem scT7 : FnScope ["self"] ["self"] (defScope (sTape 7)) := ⟨rfl, rfl, rfl, by decide +kernel, rfl, by decide +kernel, by decide +kernel⟩
theorem scT8 : FnScope ["self"] ["self"] (defScope (sTape 8)) := ⟨rfl, rfl, rfl, by decide +kernel, rfl, by decide +kernel, by decide +kernel⟩
/-- the way out by the error of a step -/
def Out (CS : Addr) (E : XK) (d : Nat) (H : Hp) : Prop := ∀ e, H e = none → E (.ref CS) (some e) (upd H e (.xd [("step", .int (d : Int))]))
def spCk (CT CS : Addr) : Sp := fun vs H Q E => ∃ (t dx la : Addr) (u d k : Nat), vs = [.ref t, .int (k : Int)] ∧ H t = some (tapeO CT dx la u d) ∧ (d ≠ k → Out CS E d H) ∧ (d = k → Q .non H)
section
variable {P : Program} {w : World} {K : PySem.W.Frag} {mg : Str → Option Value} {base : Heap} {CA CT CS fSE : Addr}
theorem ok_T5 {f : Addr} {fd : FuncData} (F : Fun K "check_step" "Tape.check_step" (sTape 5) f fd) (T : TxtC K mg CA CT) (L : PySem.StepX.StepTxt K mg CS fSE) : FnOk P w K mg base (L2.CX P w) 3 f fd ["self", "step"] (spCk CT CS) := by
  refine F.okX scT5 (fun vs H Q E h => ?_) (fun cdv A outer s H vs Q E hr h => ?_)
  · obtain ⟨t, dx, la, u, d, k, rfl, _⟩ := h
    rfl
  · obtain ⟨t, dx, la, u, d, k, rfl, h1, q1, q2⟩ := h
    refine ⟨_, pss_one (ps_if (pt_cmpR op_ne (pe_fld (pv 0) rfl) (pv 1) (nomark _)) (pss_one (ps_raiseStep rfl L hr (takes_of rfl rfl rfl rfl) (by exact (pa_cons (pe_fld (pv 0) rfl) pa_nil)))) pss_nil), ?_⟩
    refine ⟨_, rfl, t, CT, dx, _, _, rfl, h1, T.clT, T.nDn, getT_d la u d, _, rfl, rfl, _, rfl, ?_⟩
    by_cases hd : d = k
    · subst hd
      refine ite2 (fun z => absurd z (by simp)) (fun _ => q2 rfl)
    · refine ite2 (fun _ => ?_) (fun z => absurd z (by simp; omega))
      exact ⟨_, rfl, t, CT, dx, _, _, rfl, h1, T.clT, T.nDn, getT_d la u d, _, rfl, fun e he => q1 hd e he⟩
/-- the method of the error's way -/
theorem out_ck {H : Hp} {t la aU aO : Addr} {u d k sU sO : Nat} {lU lO : List Nat} {Q : VK} {E : XK} (h : TapeAt CA CT H t la aU aO u d lU lO sU sO) (q1 : d ≠ k → Out CS E d H) (q2 : d = k → Q .non H) : spCk CT CS [.ref t, .int (k : Int)] H Q E := by
  obtain ⟨dx, h1⟩ := h.tp
  exact ⟨t, dx, la, u, d, k, rfl, h1, q1, q2⟩
def spMk (CA CT CS : Addr) : Sp := fun vs H Q E => ∃ (t la aU aO : Addr) (u d sU sO : Nat) (lU lO : List Nat), vs = [.ref t] ∧ TapeAt CA CT H t la aU aO u d lU lO sU sO ∧ lO.length ≤ 100000 ∧
  (d ≠ 1 → Out CS E d H) ∧ (d = 1 → ∀ H', TapeAt CA CT H' t la aU aO u 2 lU (lO ++ recL 3 []) sU sO → Ch [t, aO] H H' → Q .non H')
theorem no_meth (la : Addr) (u d : Nat) {m : Str} (h1 : (m == "areas") = false := by decide +kernel) (h2 : (m == "used") = false := by decide +kernel) (h3 : (m == "done") = false := by decide +kernel) : (tapeF la u d).lookup m = none := getT_no la u d h1 h2 h3
theorem no_methA (l : List Nat) (s : Nat) {m : Str} (h1 : (m == "data") = false := by decide +kernel) (h2 : (m == "safe") = false := by decide +kernel) : (areaF l s).lookup m = none := getA_no l s h1 h2
theorem ok_T7 {f fC fT fO fW : Addr} {fd fdC fdT fdO fdW : FuncData} {t3 : Tok} (F : Fun K "mark" "Tape.mark" (sTape 7) f fd) (T : TxtC K mg CA CT)
    (GC : FnOk P w K mg base (L2.CX P w) 3 fC fdC ["self", "step"] (spCk CT CS)) (bC : Binds K fdC ["self", "step"] []) (mC : Meth K CT "check_step" fC)
    (GT : FnOk P w K mg base CX0 2 fT fdT ["kind", "text"] spRec) (bT : Binds K fdT ["kind", "text"] []) (gT : mg "record_text" = some (.ref fT)) (kT : PySem.W.keepIn K (.ref fT) = true)
    (GO : FnOk P w K mg base CX0 1 fO fdO ["self"] (spOt CT)) (bO : Binds K fdO ["self"] []) (mO : Meth K CT "other" fO)
    (GW : FnOk P w K mg base CX0 1 fW fdW ["self", "text"] (spA1 CA)) (bW : Binds K fdW ["self", "text"] []) (mW : Meth K CA "write" fW) (gR : mg "READY" = some (.int 3 t3)) :
    FnOk P w K mg base (L2.CX P w) 4 f fd ["self"] (spMk CA CT CS) := by
  refine F.okX scT7 (fun vs H Q E h => ?_) (fun cdv A outer s H vs Q E hr h => ?_)
  · obtain ⟨t, la, aU, aO, u, d, sU, sO, lU, lO, rfl, _⟩ := h
    rfl
  · obtain ⟨t, la, aU, aO, u, d, sU, sO, lU, lO, rfl, ta, bO', q1, q2⟩ := h
    have hr1 : Room 1 _ := hr.mono (by decide)
    have hr2 : Room 2 _ := hr.mono (by decide)
    refine ⟨_, (pss_cons (ps_expr (pe_meth (pv 0) T.clT mC GC hr bC .nil (passes_call (takes_of rfl rfl rfl rfl) (fun _ _ _ _ h => h)) (pa_cons pe_int pa_nil)))
      (pss_cons (ps_expr (pe_meth (pe_meth0 (pv 0) T.clT mO GO hr1 bO .nil pass0) T.clA mW GW hr1 bW .nil pass0 (pa_cons (pe_call GT hr2 (by rfl) gT kT bT .nil pass0 (pa_cons (pe_glob (v := V.int 3) (by rfl) gR ⟨_, rfl⟩) (pa_cons pe_str pa_nil))) pa_nil)))
      (pss_one (ps_fld (pv 0) pe_int rfl)))), ?_⟩
    obtain ⟨dx, h1⟩ := id ta.tp
    refine ⟨_, rfl, t, dx, _, rfl, h1, no_meth _ _ _, ?_⟩
    dsimp only [tCons, tNil, tC]
    refine out_ck (k := 1) ta q1 fun ed => ?_
    subst ed
    refine ⟨_, rfl, t, dx, _, rfl, h1, no_meth _ _ _, ?_⟩
    dsimp only [tNil]
    refine spOt_use ta ?_
    obtain ⟨dO, hO⟩ := id ta.hO
    refine ⟨aO, dO, _, rfl, hO, no_methA _ _, ?_⟩
    have es : Str.ofString "" = Sg [] := by decide +kernel
    refine ⟨3, Sg [], by rw [← es]; rfl, by decide, by decide, ?_⟩
    rw [sg_tl]
    have lr := rec_le (k := 3) (t := []) (by decide) (by decide)
    refine ⟨aO, dO, lO, recL 3 [], sO, rfl, hO, by omega, ?_⟩
    have ta1 : TapeAt CA CT (upd H aO (areaO CA dO (lO ++ recL 3 []) sO)) t la aU aO u 1 lU (lO ++ recL 3 []) sU sO := ta.setO
    obtain ⟨dx1, h11⟩ := id ta1.tp
    refine ⟨_, rfl, t, CT, dx1, _, rfl, h11, T.clT, T.nDn, lenT la u 1, ?_⟩
    have e : putF "done" (.int 2) (tapeF la u 1) = tapeF la u 2 := putT_d la u 1 2
    rw [e]
    exact q2 rfl _ (ta1.setD (d' := 2)) ((Ch.upd (by simp)).trans (Ch.upd (by simp)))
def spSw (CA CT CS : Addr) : Sp := fun vs H Q E => ∃ (t la aU aO : Addr) (u d sU sO : Nat) (lU lO : List Nat), vs = [.ref t] ∧ TapeAt CA CT H t la aU aO u d lU lO sU sO ∧ lU.length ≤ 100000 ∧ lO.length ≤ 100000 ∧
  (d ≠ 2 → Out CS E d H) ∧ (d = 2 → ∀ H', TapeAt CA CT H' t la aO aU (1 - u) 0 lO [] lO.length 0 → Ch [t, aU, aO] H H' → Q .non H')
theorem ok_T8 {f fC fY fI fX : Addr} {fd fdC fdY fdI fdX : FuncData} (F : Fun K "switch" "Tape.switch" (sTape 8) f fd) (T : TxtC K mg CA CT)
    (GC : FnOk P w K mg base (L2.CX P w) 3 fC fdC ["self", "step"] (spCk CT CS)) (bC : Binds K fdC ["self", "step"] []) (mC : Meth K CT "check_step" fC)
    (GY : FnOk P w K mg base CX0 2 fY fdY ["self"] (spSy CA CT)) (bY : Binds K fdY ["self"] []) (mY : Meth K CT "sync" fY)
    (GI : FnOk P w K mg base CX0 1 fI fdI ["self"] (spIn CT)) (bI : Binds K fdI ["self"] []) (mI : Meth K CT "in_use" fI)
    (GX : FnOk P w K mg base CX0 1 fX fdX ["self", "size"] (spA3 CA)) (bX : Binds K fdX ["self", "size"] []) (mX : Meth K CA "cut_to" fX) :
    FnOk P w K mg base (L2.CX P w) 4 f fd ["self"] (spSw CA CT CS) := by
  refine F.okX scT8 (fun vs H Q E h => ?_) (fun cdv A outer s H vs Q E hr h => ?_)
  · obtain ⟨t, la, aU, aO, u, d, sU, sO, lU, lO, rfl, _⟩ := h
    rfl
  · obtain ⟨t, la, aU, aO, u, d, sU, sO, lU, lO, rfl, ta, bU', bO', q1, q2⟩ := h
    have hr1 : Room 1 _ := hr.mono (by decide)
    have hr2 : Room 2 _ := hr.mono (by decide)
    refine ⟨_, (pss_cons (ps_expr (pe_meth (pv 0) T.clT mC GC hr bC .nil (passes_call (takes_of rfl rfl rfl rfl) (fun _ _ _ _ h => h)) (pa_cons pe_int pa_nil)))
      (pss_cons (ps_expr (pe_meth0 (pv 0) T.clT mY GY hr2 bY .nil pass0))
      (pss_cons (ps_expr (pe_meth (pe_meth0 (pv 0) T.clT mI GI hr1 bI .nil pass0) T.clA mX GX hr1 bX .nil pass0 (pa_cons pe_int pa_nil)))
      (pss_cons (ps_fld (pv 0) (pe_op op_sub pe_int (pe_fld (pv 0) rfl)) rfl)
      (pss_one (ps_fld (pv 0) pe_int rfl)))))), ?_⟩
    obtain ⟨dx, h1⟩ := id ta.tp
    refine ⟨_, rfl, t, dx, _, rfl, h1, no_meth _ _ _, ?_⟩
    dsimp only [tCons, tNil, tC]
    refine out_ck (k := 2) ta q1 fun ed => ?_
    subst ed
    refine ⟨_, rfl, t, dx, _, rfl, h1, no_meth _ _ _, ?_⟩
    dsimp only [tNil]
    refine ⟨t, la, aU, aO, u, 2, sU, sO, lU, lO, rfl, ta, bU', bO', fun H1 ta1 c1 => ?_⟩
    obtain ⟨dx1, h11⟩ := id ta1.tp
    refine ⟨_, rfl, t, dx1, _, rfl, h11, no_meth _ _ _, ?_⟩
    dsimp only [tNil]
    refine spIn_use ta1 ?_
    obtain ⟨dU, hU⟩ := id ta1.hU
    refine ⟨aU, dU, _, rfl, hU, no_methA _ _, ?_⟩
    refine ⟨aU, dU, lU, lU.length, 0, rfl, hU, by omega, ?_⟩
    have ta2 : TapeAt CA CT (upd H1 aU (areaO CA dU (lU.take 0) (min lU.length 0))) t la aU aO u 2 (lU.take 0) lO (min lU.length 0) lO.length := ta1.setU
    obtain ⟨dx2, h12⟩ := id ta2.tp
    refine ⟨_, rfl, t, CT, dx2, _, _, rfl, h12, T.clT, T.nU, getT_u la u 2, _, _, rfl, rfl, _, rfl, t, CT, dx2, _, rfl, h12, T.clT, T.nU, lenT la u 2, ?_⟩
    have e0 : (1 : Int) - (u : Int) = ((1 - u : Nat) : Int) := by
      have := ta.u2
      omega
    have e1 : (fun i j : Int => V.int (i - j)) 1 (u : Int) = V.int ((1 - u : Nat) : Int) := congrArg V.int e0
    rw [e1, putT_u]
    have ta3 : TapeAt CA CT (upd (upd H1 aU (areaO CA dU (lU.take 0) (min lU.length 0))) t (tapeO CT dx2 la (1 - u) 2)) t la aO aU (1 - u) 2 lO (lU.take 0) lO.length (min lU.length 0) := ta2.swap
    refine ⟨_, rfl, t, CT, dx2, _, rfl, upd_same, T.clT, T.nDn, lenT la (1 - u) 2, ?_⟩
    have e : putF "done" (.int 0) (tapeF la (1 - u) 2) = tapeF la (1 - u) 0 := putT_d la (1 - u) 2 0
    rw [e]
    have ta4 := ta3.setD (dx := dx2) (d' := 0)
    rw [Nat.min_zero] at ta4 ⊢
    exact q2 rfl _ ta4 (((c1.mono (by simp)).trans (Ch.upd (by simp))).trans ((Ch.upd (by simp)).trans (Ch.upd (by simp))))
end
end K85
namespace K85
open PySem PySem.Spec PyProof.Rows L2 QR TL
open GxR (TabB TabG Tabbed GenS)
theorem int_num {n : Nat} (h : n < 10 ^ 18) : PySem.intText? (Sg (numL n)) = some (n : Int) := by
  have l : (numL n).length ≤ 18 := numL_len (by decide) h
  have e := PySem.intText_digits (x := Sg (numL n)) (numL_digits n) (numL_ne n) (by rw [len_tl]; show (numL n).length ≤ _; omega)
  rw [e]
  exact congrArg (fun k : Nat => some (k : Int)) (numL_val n)
def strsV (A : List (List Nat)) : List V := A.map fun y => .str (Sg y)
def spBg (T T2 CA CT CS : Addr) : Sp := fun vs H Q E => ∃ (t la aU aO x : Addr) (u d sU sO n : Nat) (lU lO : List Nat) (A : List (List Nat)), vs = [.ref t, .ref x] ∧ TapeAt CA CT H t la aU aO u d lU lO sU sO ∧ H x = some (.lst (strsV A)) ∧ TabG H T ∧ TabG H T2 ∧ T ≠ T2 ∧
  lU.length ≤ 100000 ∧ lO.length ≤ 100000 ∧ A.length ≤ 50 ∧ (∀ y ∈ A, y.length ≤ 20) ∧ n ≤ 1000 ∧ (∃ r3, parse lU.length lU = some (1, numL n, r3)) ∧
  (d ≠ 0 → Out CS E d H) ∧ (d = 0 → ∀ H', TapeAt CA CT H' t la aU aO u 1 lU (flatR ((1, numL (n + 1)) :: entR A)) sU 0 → Fr T T2 [t, aO] H H' → Q .non H')
theorem TapeAt.fr {CA CT : Addr} {H H' : Hp} {t la aU aO : Addr} {u d sU sO : Nat} {lU lO : List Nat} {T T2 : Addr} (h : TapeAt CA CT H t la aU aO u d lU lO sU sO) (h1 : TabG H T) (h2 : TabG H T2) (k : Fr T T2 [] H H') : TapeAt CA CT H' t la aU aO u d lU lO sU sO := by
  obtain ⟨⟨d1, g1⟩, g2, ⟨d3, g3⟩, ⟨d4, g4⟩, ne, u2⟩ := h
  exact ⟨⟨d1, k.at_ h1 h2 g1 (fun ps z => nomatch z) (fun z => nomatch z)⟩, k.at_ h1 h2 g2 (fun ps z => nomatch z) (fun z => nomatch z), ⟨d3, k.at_ h1 h2 g3 (fun ps z => nomatch z) (fun z => nomatch z)⟩, ⟨d4, k.at_ h1 h2 g4 (fun ps z => nomatch z) (fun z => nomatch z)⟩, ne, u2⟩
/-- a table stands apart from the tape -/
theorem TapeAt.tabs {CA CT : Addr} {H : Hp} {t la aU aO : Addr} {u d sU sO : Nat} {lU lO : List Nat} {T : Addr} (h : TapeAt CA CT H t la aU aO u d lU lO sU sO) (h1 : TabG H T) : T ∉ [t, la, aU, aO] := fun hm => by
  obtain ⟨ps, hp, _⟩ := h1
  obtain ⟨⟨d1, g1⟩, g2, ⟨d3, g3⟩, ⟨d4, g4⟩, _⟩ := h
  simp only [List.mem_cons, List.not_mem_nil, or_false] at hm
  rcases hm with e | e | e | e <;> subst e
  · rw [hp] at g1; cases g1
  · rw [hp] at g2; cases g2
  · rw [hp] at g3; cases g3
  · rw [hp] at g4; cases g4
theorem flat_snoc (R : Rw) (r : Nat × List Nat) : flatR (R ++ [r]) = flatR R ++ recR r := by
  rw [flat_app]
  show flatR R ++ (recR r ++ []) = _
  rw [List.append_nil]
theorem flat_len : ∀ (R : Rw), okR R → (flatR R).length ≤ R.length * 1100
  | [], _ => Nat.zero_le _
  | r :: rs, h => by
    obtain ⟨h1, h3, h20⟩ := h r List.mem_cons_self
    have a := flat_len rs fun x hx => h x (List.mem_cons_of_mem _ hx)
    have b := rec_le (k := r.1) (t := r.2) (by omega) (by omega)
    show (recL r.1 r.2 ++ flatR rs).length ≤ (rs.length + 1) * 1100
    rw [List.length_append]
    omega
section
variable {P : Program} {w : World} {K : PySem.W.Frag} {mg : Str → Option Value} {base : Heap} {T1 T2 CA CT CS fSE : Addr}
theorem ok_T6 {f fC fR fT fI fO fW fX : Addr} {fd fdC fdR fdT fdI fdO fdW fdX : FuncData} {t1 t2 : Tok} (F : Fun K "begin" "Tape.begin" (sTape 6) f fd) (T : TxtC K mg CA CT)
    (GC : FnOk P w K mg base (L2.CX P w) 3 fC fdC ["self", "step"] (spCk CT CS)) (bC : Binds K fdC ["self", "step"] []) (mC : Meth K CT "check_step" fC)
    (GR : FnOk P w K mg base CX0 3 fR fdR ["data", "at"] (spRR T1)) (bR : Binds K fdR ["data", "at"] []) (gR : mg "read_record" = some (.ref fR)) (kR : PySem.W.keepIn K (.ref fR) = true)
    (GT : FnOk P w K mg base CX0 2 fT fdT ["kind", "text"] spRec) (bT : Binds K fdT ["kind", "text"] []) (gT : mg "record_text" = some (.ref fT)) (kT : PySem.W.keepIn K (.ref fT) = true)
    (GI : FnOk P w K mg base CX0 1 fI fdI ["self"] (spIn CT)) (bI : Binds K fdI ["self"] []) (mI : Meth K CT "in_use" fI)
    (GO : FnOk P w K mg base CX0 1 fO fdO ["self"] (spOt CT)) (bO : Binds K fdO ["self"] []) (mO : Meth K CT "other" fO)
    (GW : FnOk P w K mg base CX0 1 fW fdW ["self", "text"] (spA1 CA)) (bW : Binds K fdW ["self", "text"] []) (mW : Meth K CA "write" fW)
    (GX : FnOk P w K mg base CX0 1 fX fdX ["self", "size"] (spA3 CA)) (bX : Binds K fdX ["self", "size"] []) (mX : Meth K CA "cut_to" fX)
    (gH : mg "HEAD" = some (.int 1 t1)) (gE : mg "ENTRY" = some (.int 2 t2)) (ms : mg "str" = none) (mi : mg "int" = none) :
    FnOk P w K mg base (L2.CX P w) 4 f fd ["self", "texts"] (spBg T1 T2 CA CT CS) := by
  refine F.okX scT6 (fun vs H Q E h => ?_) (fun cdv A outer s H vs Q E hr h => ?_)
  · obtain ⟨t, la, aU, aO, x, u, d, sU, sO, n, lU, lO, B, rfl, _⟩ := h
    rfl
  · obtain ⟨t, la, aU, aO, x, u, d, sU, sO, n, lU, lO, B, rfl, ta, hx, hT, hT2, neT, bU', bO', lB, sB, hn, ⟨r3, pr⟩, q1, q2⟩ := h
    have hr1 : Room 1 _ := hr.mono (by decide)
    have hr2 : Room 2 _ := hr.mono (by decide)
    refine ⟨_, pss_cons (ps_expr (pe_meth (pv 0) T.clT mC GC hr bC .nil (passes_call (takes_of rfl rfl rfl rfl) (fun _ _ _ _ h => h)) (pa_cons pe_int pa_nil))) (PSs.nox (pss_cons (ps_set (i := 2) scT6.nd rfl (.inl rfl) (pe_call GR hr (by rfl) gR kR bR .nil pass0 (pa_cons (pe_fld (pe_meth0 (pv 0) T.clT mI GI hr1 bI .nil pass0) rfl) (pa_cons pe_int pa_nil))))
      (pss_cons (ps_expr (pe_meth (pe_meth0 (pv 0) T.clT mO GO hr1 bO .nil pass0) T.clA mX GX hr1 bX .nil pass0 (pa_cons pe_int pa_nil)))
      (pss_cons (ps_expr (pe_meth (pe_meth0 (pv 0) T.clT mO GO hr1 bO .nil pass0) T.clA mW GW hr1 bW .nil pass0 (pa_cons (pe_call GT hr2 (by rfl) gT kT bT .nil pass0 (pa_cons (pe_glob (v := V.int 1) (by rfl) gH ⟨_, rfl⟩)
        (pa_cons (pe_callTy call_str_int (by rfl) ms (by decide +kernel) (pa_cons (pe_op op_add (pe_callTy call_int_str (by rfl) mi (by decide +kernel) (pa_cons (pe_ix ix_tup (pv 2) pe_int (fun _ _ => rfl)) pa_nil)) pe_int) pa_nil)) pa_nil))) pa_nil)))
      (pss_cons (ps_for PassesOwn.never rfl (pi_list (pv 1)) (pg_name (i := 3) scT6.nd rfl (.inl rfl))
        (pss_one (ps_expr (pe_meth (pe_meth0 (pv 0) T.clT mO GO hr1 bO .nil pass0) T.clA mW GW hr1 bW .nil pass0 (pa_cons (pe_call GT hr2 (by rfl) gT kT bT .nil pass0 (pa_cons (pe_glob (v := V.int 2) (by rfl) gE ⟨_, rfl⟩) (pa_cons (pv 3) pa_nil))) pa_nil)))))
      (pss_one (ps_fld (pv 0) pe_int rfl))))))), ?_⟩
    obtain ⟨dx, h1⟩ := id ta.tp
    refine ⟨_, rfl, t, dx, _, rfl, h1, no_meth _ _ _, ?_⟩
    dsimp only [tCons, tNil, tC]
    refine out_ck (k := 0) ta q1 fun ed => ?_
    subst ed
    -- head
    obtain ⟨dU, hU⟩ := id ta.hU
    have := zl
    refine ⟨_, rfl, t, dx, _, rfl, h1, no_meth _ _ _, ?_⟩
    dsimp only [tNil]
    refine spIn_use ta ?_
    refine ⟨aU, CA, dU, _, _, rfl, hU, T.clA, T.nD, getA_d lU sU, ?_⟩
    dsimp only [tCons, tNil, tC]
    refine spRR_use (i := 0) (by rw [len_tl]; show lU.length ≤ _; omega) (Nat.zero_le _) hT fun v H1 k1 row => ?_
    have f1 : Fr T1 T2 [t, aO] H H1 := Fr.keep hT2 neT k1
    have f1n : Fr T1 T2 [] H H1 := Fr.keep hT2 neT k1
    have ta1 := ta.fr hT hT2 f1n
    obtain ⟨p, rfl, hp⟩ : ∃ p, v = .ref p ∧ H1 p = some (.tup [.int 1, .str (Sg (numL n)), .int (((Sg lU).length - r3.length : Nat) : Int)]) := by
      have lL : (Sg lU).length = lU.length := len_tl _
      rcases row with ⟨pn, _⟩ | ⟨k, y, r4, p, ps, rfl, hp⟩
      · rw [lL, List.drop_zero] at pn
        have pn' : parse lU.length lU = none := pn
        rw [pr] at pn'
        cases pn'
      · rw [lL, List.drop_zero] at ps
        have ps' : parse lU.length lU = some (k, y, r4) := ps
        rw [pr] at ps'
        cases ps'
        exact ⟨p, rfl, hp⟩
    obtain ⟨dx1, h11⟩ := id ta1.tp
    obtain ⟨dO, hO⟩ := id ta1.hO
    refine ⟨_, rfl, t, dx1, _, rfl, h11, no_meth _ _ _, ?_⟩
    dsimp only [tNil]
    refine spOt_use ta1 ?_
    refine ⟨aO, dO, _, rfl, hO, no_methA _ _, ?_⟩
    refine ⟨aO, dO, lO, sO, 0, rfl, hO, by omega, ?_⟩
    rw [Nat.min_zero]
    have ta2 : TapeAt CA CT (upd H1 aO (areaO CA dO (lO.take 0) 0)) t la aU aO u 0 lU [] sU 0 := ta1.setO
    have f2 : Fr T1 T2 [t, aO] H1 (upd H1 aO (areaO CA dO (lO.take 0) 0)) := Fr.set f1.t1 f1.t2 neT (by simp) hO (fun ps z => nomatch z)
    generalize upd H1 aO (areaO CA dO (lO.take 0) 0) = H2 at ta2 f2
    have pO : p ≠ aO := ne_of hp hO fun z => nomatch z
    have pt : p ≠ t := ne_of hp h11 fun z => nomatch z
    have hp2 := f2.at_ f1.t1 f1.t2 hp (fun ps z => nomatch z) (by simp [pO, pt])
    obtain ⟨dx2, h12⟩ := id ta2.tp
    obtain ⟨dO2, hO2⟩ := id ta2.hO
    refine ⟨_, rfl, t, dx2, _, rfl, h12, no_meth _ _ _, ?_⟩
    dsimp only [tNil]
    refine spOt_use ta2 ?_
    refine ⟨aO, dO2, _, rfl, hO2, no_methA _ _, ?_⟩
    have l1 : (numL n).length ≤ 4 := num_le_of (n := n) (k := 3) (by omega)
    refine ⟨_, rfl, p, _, 1, .str (Sg (numL n)), rfl, rfl, SqT.of hp2, atI_nat (j := 1) rfl, Sg (numL n), (n : Int), rfl, int_num (by omega), by rw [len_tl]; show (numL n).length ≤ _; omega, (n : Int), 1, rfl, rfl, ?_⟩
    refine ⟨(n : Int) + 1, rfl, small_nat (n + 1) (by omega), ?_⟩
    have en : Str.ofString (toString ((n : Int) + 1)) = Sg (numL (n + 1)) := sg_num (n + 1)
    dsimp only [tCons, tNil, tC]
    rw [en]
    have l2 : (numL (n + 1)).length ≤ 4 := num_le_of (n := n + 1) (k := 3) (by omega)
    refine ⟨1, Sg (numL (n + 1)), rfl, by decide, by rw [len_tl]; show (numL (n + 1)).length ≤ _; omega, ?_⟩
    rw [sg_tl]
    have lr := rec_le (k := 1) (t := numL (n + 1)) (by decide) (by omega)
    refine ⟨aO, dO2, [], recL 1 (numL (n + 1)), 0, rfl, hO2, by simp only [List.length_nil]; omega, ?_⟩
    have ta3 : TapeAt CA CT (upd H2 aO (areaO CA dO2 ([] ++ recL 1 (numL (n + 1))) 0)) t la aU aO u 0 lU ([] ++ recL 1 (numL (n + 1))) sU 0 := ta2.setO
    have f3 : Fr T1 T2 [t, aO] H2 (upd H2 aO (areaO CA dO2 ([] ++ recL 1 (numL (n + 1))) 0)) := Fr.set f2.t1 f2.t2 neT (by simp) hO2 (fun ps z => nomatch z)
    generalize upd H2 aO (areaO CA dO2 ([] ++ recL 1 (numL (n + 1))) 0) = H3 at ta3 f3
    have f03 := (f1.trans f2).trans f3
    have xO : x ≠ aO := by
      obtain ⟨_, hO0⟩ := ta.hO
      exact ne_of hx hO0 fun z => nomatch z
    have xt : x ≠ t := ne_of hx h1 fun z => nomatch z
    have hx3 := f03.at_ hT hT2 hx (fun ps z => nomatch z) (by simp [xO, xt])
    -- the entries
    refine ⟨.ref x, rfl, x, rfl, ⟨_, SqL.of hx3⟩, ?_⟩
    refine for_list (xs := strsV B) (fun i σ H' => ∃ y : Option V, σ = [some (.ref t), some (.ref x), some (.ref p), y] ∧ Fr T1 T2 [t, aO] H H' ∧ TapeAt CA CT H' t la aU aO u 0 lU (flatR ((1, numL (n + 1)) :: entR (B.take i))) sU 0)
      ⟨none, rfl, f03, ?_⟩ ?_ ?_ ?_
    · have e : flatR ((1, numL (n + 1)) :: entR (B.take 0)) = [] ++ recL 1 (numL (n + 1)) := by
        show recL 1 (numL (n + 1)) ++ [] = _
        rw [List.append_nil, List.nil_append]
      rw [e]
      exact ta3
    · rintro i σ H' _ ⟨y, _, f4, _⟩
      exact SqL.of (f4.at_ hT hT2 hx (fun ps z => nomatch z) (by simp [xO, xt]))
    · rintro i v σ H' hv ⟨y, rfl, f4, ta4⟩
      obtain ⟨z, hz, rfl⟩ : ∃ z, B[i]? = some z ∧ v = .str (Sg z) := by
        unfold strsV at hv
        rw [List.getElem?_map] at hv
        obtain ⟨z, hz, e⟩ := Option.map_eq_some_iff.mp hv
        exact ⟨z, hz, e.symm⟩
      have hz20 := sB z (List.mem_of_getElem? hz)
      obtain ⟨dx4, h14⟩ := id ta4.tp
      obtain ⟨dO4, hO4⟩ := id ta4.hO
      refine ⟨_, rfl, t, dx4, _, rfl, h14, no_meth _ _ _, ?_⟩
      dsimp only [tNil]
      refine spOt_use ta4 ?_
      refine ⟨aO, dO4, _, rfl, hO4, no_methA _ _, ?_⟩
      refine ⟨_, rfl, ?_⟩
      dsimp only [tCons, tNil, tC]
      refine ⟨2, Sg z, rfl, by decide, by rw [len_tl]; show z.length ≤ _; omega, ?_⟩
      rw [sg_tl]
      have lr := rec_le (k := 2) (t := z) (by decide) (by omega)
      have lf : (flatR ((1, numL (n + 1)) :: entR (B.take i))).length ≤ (1 + B.length) * 1100 := by
        refine Nat.le_trans (flat_len _ ?_) ?_
        · intro r hr
          rcases List.mem_cons.mp hr with e | hr
          · subst e
            exact ⟨Nat.le_refl 1, by show 1 ≤ 3; omega, by show (numL (n + 1)).length ≤ 20; omega⟩
          · obtain ⟨y, hy, e⟩ := List.mem_map.mp hr
            subst e
            exact ⟨Nat.le_succ 1, Nat.le_succ 2, sB y (List.mem_of_mem_take hy)⟩
        · show ((B.take i).map _).length.succ * 1100 ≤ _
          rw [List.length_map, List.length_take]
          omega
      refine ⟨aO, dO4, _, recL 2 z, 0, rfl, hO4, by omega, ?_⟩
      have e : flatR ((1, numL (n + 1)) :: entR (B.take (i + 1))) = flatR ((1, numL (n + 1)) :: entR (B.take i)) ++ recL 2 z := by
        rw [List.take_add_one, hz]
        show flatR ((1, numL (n + 1)) :: List.map _ (B.take i ++ [z])) = _
        rw [List.map_append]
        exact flat_snoc ((1, numL (n + 1)) :: entR (B.take i)) (2, z)
      refine ⟨_, rfl, f4.trans (Fr.set f4.t1 f4.t2 neT (by simp) hO4 (fun ps z => nomatch z)), ?_⟩
      rw [e]
      exact ta4.setO
    · rintro σ H' ⟨y, rfl, f4, ta4⟩
      obtain ⟨dx4, h14⟩ := id ta4.tp
      refine ⟨_, rfl, t, CT, dx4, _, rfl, h14, T.clT, T.nDn, lenT la u 0, ?_⟩
      have e : putF "done" (.int 1) (tapeF la u 0) = tapeF la u 1 := putT_d la u 0 1
      rw [e]
      have eB : B.take (strsV B).length = B := by
        unfold strsV
        rw [List.length_map, List.take_length]
      rw [eB] at ta4
      exact q2 rfl _ (ta4.setD (d' := 1)) (f4.trans (Fr.set f4.t1 f4.t2 neT (by simp) h14 (fun ps z => nomatch z)))
end
end K85
namespace K85
open PySem PySem.Spec PyProof.Rows L2 QR TL
open GxR (TabB TabG Tabbed GenS)
section
variable {P : Program} {w : World} {K : PySem.W.Frag} {mg : Str → Option Value} {base : Heap} {T1 T2 CA CT CS fSE : Addr}
def spT0 (CA CT : Addr) : Sp := fun vs H Q _ => ∃ (t dx : Addr), vs = [.ref t] ∧ H t = some (.ins CT dx []) ∧
  ∀ H' la aU aO, TapeAt CA CT H' t la aU aO 0 0 (flatR [(1, [48]), (3, [])]) [] (flatR [(1, [48]), (3, [])]).length 0 → (∀ b o, b ≠ t → H b = some o → H' b = some o) → H la = none → H aU = none → H aO = none → Q .non H'
theorem ok_T0 {f fT fA : Addr} {fd fdT fdA : FuncData} {t1 t3 : Tok} (F : Fun K "__init__" "Tape.__init__" (sTape 0) f fd) (T : TxtC K mg CA CT)
    (GT : FnOk P w K mg base CX0 2 fT fdT ["kind", "text"] spRec) (bT : Binds K fdT ["kind", "text"] []) (gT : mg "record_text" = some (.ref fT)) (kT : PySem.W.keepIn K (.ref fT) = true)
    (MA : Mk K CA fA) (GA : FnOk P w K mg base CX0 1 fA fdA ["self", "data"] (spA0 CA)) (bA : Binds K fdA ["self", "data"] [])
    (gH : mg "HEAD" = some (.int 1 t1)) (gR : mg "READY" = some (.int 3 t3)) :
    FnOk P w K mg base CX0 3 f fd ["self"] (spT0 CA CT) := by
  refine F.ok scT0 (fun vs H Q E h => ?_) (fun cdv A outer s H vs Q E hr h => ?_)
  · obtain ⟨t, dx, rfl, _⟩ := h
    rfl
  · obtain ⟨t, dx, rfl, h1, q⟩ := h
    have hr1 : Room 1 _ := hr.mono (by decide)
    refine ⟨_, (pss_cons (ps_fld (pv 0) (pe_lst (pa_cons (pe_make MA GA hr rfl T.mgA bA .nil pass0 (pa_cons (pe_op op_add_str (pe_call GT hr (by rfl) gT kT bT .nil pass0 (pa_cons (pe_glob (v := V.int 1) (by rfl) gH ⟨_, rfl⟩) (pa_cons pe_str pa_nil)))
        (pe_call GT hr (by rfl) gT kT bT .nil pass0 (pa_cons (pe_glob (v := V.int 3) (by rfl) gR ⟨_, rfl⟩) (pa_cons pe_str pa_nil)))) pa_nil)) (pa_cons (pe_make MA GA hr rfl T.mgA bA .nil pass0 (pa_cons pe_str pa_nil)) pa_nil))) rfl)
      (pss_cons (ps_fld (pv 0) pe_int rfl)
      (pss_one (ps_fld (pv 0) pe_int rfl)))), ?_⟩
    have := zl
    have e0 : Str.ofString "0" = Sg [48] := by decide +kernel
    have e1 : Str.ofString "" = Sg [] := by decide +kernel
    have l1 := rec_le (k := 1) (t := [48]) (by decide) (by decide)
    have l3 := rec_le (k := 3) (t := []) (by decide) (by decide)
    refine ⟨1, Sg [48], by rw [← e0]; rfl, by decide, by decide, ?_⟩
    dsimp only [tCons, tNil, tC]
    refine ⟨3, Sg [], by rw [← e1]; rfl, by decide, by decide, ?_⟩
    rw [sg_tl, sg_tl]
    have ea : Sg (recL 1 [48]) ++ Sg (recL 3 []) = Sg (flatR [(1, [48]), (3, [])]) := by
      rw [sg_app]
      show Sg (recL 1 [48] ++ recL 3 []) = Sg (recL 1 [48] ++ (recL 3 [] ++ []))
      rw [List.append_nil]
    refine ⟨_, _, rfl, rfl, by rw [sg_len, sg_len]; omega, ?_⟩
    rw [ea]
    intro x d1 nx nd nxd
    have lf : (flatR [(1, [48]), (3, [])]).length ≤ 3000 := by
      show (recL 1 [48] ++ (recL 3 [] ++ [])).length ≤ _
      rw [List.length_append, List.append_nil]
      omega
    refine ⟨x, d1, _, rfl, upd_same, by omega, rfl, ?_⟩
    intro x2 d2 nx2 nd2 nxd2
    refine ⟨x2, d2, [], by rw [← e1]; rfl, upd_same, Nat.zero_le _, rfl, ?_⟩
    have lx2 : x2 ≠ x := fun z => by
      rw [z, upd_same] at nx2
      cases nx2
    have hx2n : H x2 = none := by
      have e := nx2
      rw [upd_ne lx2, upd_ne lx2] at e
      by_cases z : x2 = d1
      · rw [z]
        exact nd
      · rw [upd_ne z] at e
        exact e
    have ld2 : d2 ≠ x := fun z => by
      rw [z, upd_same] at nd2
      cases nd2
    have keep : ∀ b o, H b = some o → b ≠ x ∧ b ≠ d1 ∧ b ≠ x2 ∧ b ≠ d2 := fun b o e => by
      refine ⟨ne_of_none e nx, ne_of_none e nd, ne_of_none e hx2n, fun z => ?_⟩
      have e9 := nd2
      rw [← z, upd_ne (ne_of_none e nx), upd_ne (ne_of_none e nx), upd_ne (ne_of_none e nd), e] at e9
      cases e9
    generalize hH3 : upd (upd (upd (upd (upd (upd H d1 (.own x)) x (.ins CA d1 [])) x (areaO CA d1 (flatR [(1, [48]), (3, [])]) (flatR [(1, [48]), (3, [])]).length)) d2 (.own x2)) x2 (.ins CA d2 [])) x2 (areaO CA d2 [] ([] : List Nat).length) = H3
    have k3 : ∀ b o, H b = some o → H3 b = some o := fun b o e => by
      obtain ⟨n1, n2, n3, n4⟩ := keep b o e
      rw [← hH3, upd_ne n3, upd_ne n3, upd_ne n4, upd_ne n1, upd_ne n1, upd_ne n2]
      exact e
    have a1 : H3 x = some (areaO CA d1 (flatR [(1, [48]), (3, [])]) (flatR [(1, [48]), (3, [])]).length) := by
      rw [← hH3, upd_ne (Ne.symm lx2), upd_ne (Ne.symm lx2), upd_ne (Ne.symm ld2), upd_same]
    have a2 : H3 x2 = some (areaO CA d2 [] 0) := by
      rw [← hH3, upd_same]
      rfl
    refine ⟨by show 2 ≤ sizeLine; omega, fun p np => ?_⟩
    have hp0 : H p = none := by
      cases e : H p with
      | none => rfl
      | some o =>
        rw [k3 p o e] at np
        cases np
    have ht3 := k3 t _ h1
    have pt : t ≠ p := ne_of_none ht3 np
    refine ⟨_, rfl, t, CT, dx, [], rfl, (upd_ne pt).trans ht3, T.clT, T.nA, (by show 0 < 1000; decide), ?_⟩
    refine ⟨_, rfl, t, CT, dx, _, rfl, upd_same, T.clT, T.nU, (by show 1 < 1000; decide), ?_⟩
    refine ⟨_, rfl, t, CT, dx, _, rfl, upd_same, T.clT, T.nDn, ?_, ?_⟩
    · have e : putF "used" (.int 0) (putF "areas" (.ref p) []) = ([("areas", .ref p), ("used", .int 0)] : List (Str × V)) := by
        show putF "used" _ [("areas", _)] = _
        unfold putF
        rw [if_neg nau]
        rfl
      rw [e]
      show 2 < 1000
      decide
    · have e : putF "done" (.int 0) (putF "used" (.int 0) (putF "areas" (.ref p) [])) = tapeF p 0 0 := putT_0 p 0 0
      rw [e]
      have tx : t ≠ x := (keep t _ h1).1
      have tx2 : t ≠ x2 := (keep t _ h1).2.2.1
      have px : p ≠ x := fun z => by
        rw [z, a1] at np
        cases np
      have px2 : p ≠ x2 := fun z => by
        rw [z, a2] at np
        cases np
      refine q _ p x x2 ⟨⟨dx, upd_same⟩, ?_, ⟨d1, ?_⟩, ⟨d2, ?_⟩, Ne.symm lx2, .inl rfl⟩ (fun b o nb e => ?_) hp0 nx hx2n
      · rw [upd_ne (Ne.symm pt), upd_ne (Ne.symm pt), upd_ne (Ne.symm pt), upd_same]
        rfl
      · rw [upd_ne (Ne.symm tx), upd_ne (Ne.symm tx), upd_ne (Ne.symm tx), upd_ne (Ne.symm px)]
        exact a1
      · rw [upd_ne (Ne.symm tx2), upd_ne (Ne.symm tx2), upd_ne (Ne.symm tx2), upd_ne (Ne.symm px2)]
        exact a2
      · rw [upd_ne nb, upd_ne nb, upd_ne nb, upd_ne (ne_of_none e hp0)]
        exact k3 b o e
/-! ### crash -/
def spCr (T T2 CA CT : Addr) : Sp := fun vs H Q _ => ∃ (t la aU aO kp : Addr) (u d sU sO mU mO : Nat) (lU lO : List Nat), vs = [.ref t, .ref kp] ∧ TapeAt CA CT H t la aU aO u d lU lO sU sO ∧ H kp = some (HO.tup (sel u (V.int (mU : Int)) (V.int (mO : Int)))) ∧ TabG H T ∧ TabG H T2 ∧ T ≠ T2 ∧ lU.length ≤ 100000 ∧ lO.length ≤ 100000 ∧
  ∀ H', TapeAt CA CT H' t la aU aO u 0 (lU.take (sU + mU)) (lO.take (sO + mO)) sU sO → Fr T T2 [t, aU, aO] H H' → Q .non H'
theorem ok_T9 {f fX : Addr} {fd fdX : FuncData} (F : Fun K "crash" "Tape.crash" (sTape 9) f fd) (T : TxtC K mg CA CT)
    (GX : FnOk P w K mg base CX0 1 fX fdX ["self", "size"] (spA3 CA)) (bX : Binds K fdX ["self", "size"] []) (mX : Meth K CA "cut_to" fX) (mz : mg "zip" = none) :
    FnOk P w K mg base CX0 2 f fd ["self", "kept"] (spCr T1 T2 CA CT) := by
  refine F.ok scT9 (fun vs H Q E h => ?_) (fun cdv A outer s H vs Q E hr h => ?_)
  · obtain ⟨t, la, aU, aO, kp, u, d, sU, sO, mU, mO, lU, lO, rfl, _⟩ := h
    rfl
  · obtain ⟨t, la, aU, aO, kp, u, d, sU, sO, mU, mO, lU, lO, rfl, ta, hk, hT, hT2, neT, bU', bO', q⟩ := h
    have hr1 : Room 1 _ := hr.mono (by decide)
    refine ⟨_, (pss_cons (ps_for PassesOwn.never rfl (ZLT.pi_zipM (by rfl) mz (pa_cons (pe_fld (pv 0) rfl) (pa_cons (pv 1) pa_nil))) (pg_tup (by rfl) (pgs_cons (pg_name (i := 2) scT9.nd rfl (.inl rfl)) (pgs_cons (pg_name (i := 3) scT9.nd rfl (.inl rfl)) pgs_nil)))
        (pss_one (ps_expr (pe_meth (pv 2) T.clA mX GX hr1 bX .nil pass0 (pa_cons (pe_op op_add (pe_fld (pv 2) rfl) (pv 3)) pa_nil)))))
      (pss_one (ps_fld (pv 0) pe_int rfl))), ?_⟩
    obtain ⟨dx, h1⟩ := id ta.tp
    refine ⟨_, rfl, t, CT, dx, _, _, rfl, h1, T.clT, T.nA, getT_a la u d, _, rfl, la, kp, _, _, rfl, SqL.of ta.li, SqT.of hk, ?_⟩
    have hkn : kp ∉ [t, aU, aO] := by
      obtain ⟨_, g1⟩ := ta.tp
      obtain ⟨_, g2⟩ := ta.hU
      obtain ⟨_, g3⟩ := ta.hO
      intro hm
      simp only [List.mem_cons, List.not_mem_nil, or_false] at hm
      rcases hm with e | e | e <;> subst e
      · rw [hk] at g1; cases g1
      · rw [hk] at g2; cases g2
      · rw [hk] at g3; cases g3
    refine ZLT.for_zipM (xs := sel u (V.ref aU) (V.ref aO)) (ys := sel u (V.int (mU : Int)) (V.int (mO : Int))) (by rw [sel_len, sel_len]) (fun i σ H' => ∃ y z : Option V, σ = [some (V.ref t), some (V.ref kp), y, z] ∧ Fr T1 T2 [t, aU, aO] H H' ∧
        TapeAt CA CT H' t la aU aO u d (if (u = 0 ∧ 1 ≤ i) ∨ 2 ≤ i then lU.take (sU + mU) else lU) (if (u = 1 ∧ 1 ≤ i) ∨ 2 ≤ i then lO.take (sO + mO) else lO) sU sO)
      ⟨none, none, rfl, Fr.refl hT hT2 neT, by simpa using ta⟩ ?_ ?_ ?_
    · rintro i σ H' ⟨y, z, _, f1, tb⟩
      exact ⟨SqL.of tb.li, SqT.of (f1.at_ hT hT2 hk (fun ps z => nomatch z) hkn)⟩
    · rintro i v m Tp σ H' hv hm ⟨y, z, rfl, f1, tb⟩ nT
      have f2 : Fr T1 T2 [] H' (upd H' Tp (.tup [v, m])) := Fr.new f1.t1 f1.t2 neT nT
      have tb2 := tb.fr f1.t1 f1.t2 f2
      refine ⟨Tp, _, rfl, SqT.of upd_same, rfl, ?_⟩
      have fN : Fr T1 T2 [t, aU, aO] H (upd H' Tp (.tup [v, m])) := f1.trans f2.nil
      generalize upd H' Tp (.tup [v, m]) = H2 at tb2 fN
      have li : i < 2 := by
        have := (List.getElem?_eq_some_iff.mp hv).1
        rw [sel_len] at this
        exact this
      obtain ⟨a, dA, l, s, mm, rfl, rfl, hA, lA, ma, fin⟩ : ∃ (a dA : Addr) (l : List Nat) (s mm : Nat), v = .ref a ∧ m = .int (mm : Int) ∧ H2 a = some (areaO CA dA l s) ∧ l.length ≤ 100000 ∧ a ∈ [t, aU, aO] ∧
          TapeAt CA CT (upd H2 a (areaO CA dA (l.take (s + mm)) s)) t la aU aO u d (if (u = 0 ∧ 1 ≤ i + 1) ∨ 2 ≤ i + 1 then lU.take (sU + mU) else lU) (if (u = 1 ∧ 1 ≤ i + 1) ∨ 2 ≤ i + 1 then lO.take (sO + mO) else lO) sU sO := by
        obtain ⟨dU, hU⟩ := id tb2.hU
        obtain ⟨dO, hO⟩ := id tb2.hO
        rcases ta.u2 with e0 | e1
        · subst e0
          match i, li, hv, hm with
          | 0, _, hv, hm => exact ⟨aU, dU, _, sU, mU, (Option.some.inj hv).symm, (Option.some.inj hm).symm, hU, by simpa using bU', by simp, by simpa using tb2.setU⟩
          | 1, _, hv, hm => exact ⟨aO, dO, _, sO, mO, (Option.some.inj hv).symm, (Option.some.inj hm).symm, hO, by simpa using bO', by simp, by simpa using tb2.setO⟩
        · subst e1
          match i, li, hv, hm with
          | 0, _, hv, hm => exact ⟨aO, dO, _, sO, mO, (Option.some.inj hv).symm, (Option.some.inj hm).symm, hO, by simpa using bO', by simp, by simpa using tb2.setO⟩
          | 1, _, hv, hm => exact ⟨aU, dU, _, sU, mU, (Option.some.inj hv).symm, (Option.some.inj hm).symm, hU, by simpa using bU', by simp, by simpa using tb2.setU⟩
      refine ⟨_, _, rfl, _, _, rfl, rfl, _, rfl, a, dA, _, rfl, hA, no_methA _ _, _, rfl, a, CA, dA, _, _, rfl, hA, T.clA, T.nS, getA_s l s, _, rfl, _, _, rfl, rfl, ?_⟩
      refine ⟨a, dA, l, s, s + mm, rfl, hA, by omega, ?_⟩
      rw [Nat.min_eq_left (Nat.le_add_right s mm)]
      exact ⟨_, _, rfl, fN.trans (Fr.set fN.t1 fN.t2 neT ma hA (fun ps z => nomatch z)), fin⟩
    · rintro σ H' ⟨y, z, rfl, f1, tb⟩
      rw [sel_len] at tb
      obtain ⟨dx1, h11⟩ := id tb.tp
      refine ⟨_, rfl, t, CT, dx1, _, rfl, h11, T.clT, T.nDn, lenT la u d, ?_⟩
      have e : putF "done" (.int 0) (tapeF la u d) = tapeF la u 0 := putT_d la u d 0
      rw [e]
      have tb2 := tb.setD (dx := dx1) (d' := 0)
      rw [if_pos (.inr (Nat.le_refl 2)), if_pos (.inr (Nat.le_refl 2))] at tb2
      exact q _ tb2 (f1.trans (Fr.set f1.t1 f1.t2 neT (by simp) h11 (fun ps z => nomatch z)))
end
end K85
namespace K85
open PySem PySem.Spec PyProof.Rows L2 QR TL
open GxR (TabB TabG Tabbed GenS)
abbrev nRc : List Str := ["self", "read", "area", "numbers", "rows", "_", "size", "kind", "text"]
theorem scT10 : FnScope nRc ["self"] (defScope (sTape 10)) := ⟨rfl, rfl, rfl, by decide +kernel, rfl, by decide +kernel, by decide +kernel⟩
/-- an object that is new may change -/
theorem Fr.updNew {T T2 D : Addr} {S : List Addr} {H H1 : Hp} {o o' : HO} (k : Fr T T2 S H H1) (n : H D = none) (hD : H1 D = some o') (d : ∀ ps, o' ≠ .tbl ps) : Fr T T2 S H (upd H1 D o) :=
  ⟨tab_upd k.t1 (tab_ne k.t1 hD d), tab_upd k.t2 (tab_ne k.t2 hD d), k.ne, fun b o n1 n2 n3 e => (upd_ne (ne_of_none e n)).trans (k.out b o n1 n2 n3 e)⟩
/-- a pair of rows and their end, apart from D -/
def ToldAt (D : Addr) (H : Hp) (a : Addr) (rs : Rw) (n : Nat) : Prop := ∃ (l : Addr) (as : List Addr), l ≠ D ∧ H a = some (.tup [.ref l, .int (n : Int)]) ∧ H l = some (.lst (as.map V.ref)) ∧ Tups H as rs
theorem ToldAt.upd {D : Addr} {H : Hp} {a : Addr} {rs : Rw} {n : Nat} {ys zs : List V} (h : ToldAt D H a rs n) (hD : H D = some (.lst ys)) : ToldAt D (L2.upd H D (.lst zs)) a rs n := by
  obtain ⟨l, as, ne, h1, h2, tu⟩ := h
  exact ⟨l, as, ne, (upd_ne (ne_of h1 hD fun z => nomatch z)).trans h1, (upd_ne ne).trans h2, tu.upd hD⟩
theorem ToldAt.fr {D T T2 : Addr} {S : List Addr} {H H' : Hp} {a : Addr} {rs : Rw} {n : Nat} (h : ToldAt D H a rs n) (h1 : TabG H T) (h2 : TabG H T2) (k : Fr T T2 [] H H') : ToldAt D H' a rs n := by
  obtain ⟨l, as, ne, g1, g2, tu⟩ := h
  exact ⟨l, as, ne, k.at_ h1 h2 g1 (fun ps z => nomatch z) (fun z => nomatch z), k.at_ h1 h2 g2 (fun ps z => nomatch z) (fun z => nomatch z), tu.fr k h1 h2 fun x z => nomatch z⟩
theorem Tups.get {H : Hp} : ∀ {as : List Addr} {rs : List (Nat × List Nat)} {i : Nat} {a : Addr}, Tups H as rs → as[i]? = some a → ∃ r, rs[i]? = some r ∧ H a = some (rowH r)
  | _, _, 0, _, .cons h _, e => ⟨_, rfl, by cases e; exact h⟩
  | _, _, i + 1, _, .cons _ t, e => t.get e
  | _, _, 0, _, .nil, e => nomatch e
  | _, _, _ + 1, _, .nil, e => nomatch e
theorem texts_take {R : Rw} {i : Nat} {r : Nat × List Nat} (h : R[i]? = some r) : textsR (R.take (i + 1)) = textsR (R.take i) ++ (if r.1 = 2 then [r.2] else []) := by
  rw [List.take_add_one, h]
  show textsR (R.take i ++ [r]) = _
  rw [texts_app]
  congr 1
  unfold textsR
  by_cases c : r.1 = 2
  · rw [if_pos c]
    simp [c]
  · rw [if_neg c]
    simp [c]
/-- what is new stands for nothing before -/
theorem Fr.none_of {T T2 a : Addr} {S : List Addr} {H H' : Hp} (k : Fr T T2 S H H') (n : H' a = none) (hs : ∀ x ∈ S, H' x ≠ none) : H a = none := by
  cases e : H a with
  | none => rfl
  | some o =>
    have := k.out a o (fun z => by
      obtain ⟨ps, hp, _⟩ := k.t1
      rw [← z, n] at hp
      cases hp) (fun z => by
      obtain ⟨ps, hp, _⟩ := k.t2
      rw [← z, n] at hp
      cases hp) (fun z => hs a z n) e
    rw [n] at this
    cases this
/-- what an area's text holds -/
structure AreaIs (l : List Nat) (R : Rw) (n : Nat) : Prop where
  len : l.length ≤ 100000
  rows : (recsA l.length l).1 = R
  cut : l.take (l.length - (recsA l.length l).2.length) = flatR R
  few : R.length ≤ 200
  hd : HeadIs R n
  hn : n ≤ 1000
def endN (l : List Nat) : Nat := l.length - (recsA l.length l).2.length
def spRc (T T2 CA CT : Addr) : Sp := fun vs H Q _ => ∃ (t la aU aO : Addr) (u d sU sO n : Nat) (lU lO : List Nat) (KU KO : Rw), vs = [.ref t] ∧ TapeAt CA CT H t la aU aO u d lU lO sU sO ∧ TabG H T ∧ TabG H T2 ∧ T ≠ T2 ∧
  AreaIs lU KU n ∧ AreaIs lO KO (n + 1) ∧ markR KU = true ∧
  ∀ H' a, H a = none → Fr T T2 [t, aU, aO] H H' → H' a = some (.lst (strsV (textsR (if markR KO = true then KO else KU)))) →
    (if markR KO = true then TapeAt CA CT H' t la aO aU (1 - u) 0 (flatR KO) [] (flatR KO).length 0 else TapeAt CA CT H' t la aU aO u 0 (flatR KU) [] (flatR KU).length 0) → Q (.ref a) H'
section
variable {P : Program} {w : World} {K : PySem.W.Frag} {mg : Str → Option Value} {base : Heap} {T1 T2 CA CT CS fSE : Addr}
theorem ok_T10 {f fR fH fI fO fX fS : Addr} {fd fdR fdH fdI fdO fdX fdS : FuncData} {t2 : Tok} (F : Fun K "recover" "Tape.recover" (sTape 10) f fd) (T : TxtC K mg CA CT)
    (GR : FnOk P w K mg base CX0 4 fR fdR ["data"] (spRs T1)) (bR : Binds K fdR ["data"] []) (gR : mg "read_records" = some (.ref fR)) (kR : PySem.W.keepIn K (.ref fR) = true)
    (GH : FnOk P w K mg base CX0 3 fH fdH ["rows"] (spWhole T1 T2)) (bH : Binds K fdH ["rows"] []) (gH : mg "whole_number" = some (.ref fH)) (kH : PySem.W.keepIn K (.ref fH) = true)
    (GI : FnOk P w K mg base CX0 1 fI fdI ["self"] (spIn CT)) (bI : Binds K fdI ["self"] []) (mI : Meth K CT "in_use" fI)
    (GO : FnOk P w K mg base CX0 1 fO fdO ["self"] (spOt CT)) (bO : Binds K fdO ["self"] []) (mO : Meth K CT "other" fO)
    (GX : FnOk P w K mg base CX0 1 fX fdX ["self", "size"] (spA3 CA)) (bX : Binds K fdX ["self", "size"] []) (mX : Meth K CA "cut_to" fX)
    (GS : FnOk P w K mg base CX0 1 fS fdS ["self"] (spA2 CA)) (bS : Binds K fdS ["self"] []) (mS : Meth K CA "secure" fS)
    (gE : mg "ENTRY" = some (.int 2 t2)) :
    FnOk P w K mg base CX0 5 f fd ["self"] (spRc T1 T2 CA CT) := by
  refine F.ok scT10 (fun vs H Q E h => ?_) (fun cdv A outer s H vs Q E hr h => ?_)
  · obtain ⟨t, la, aU, aO, u, d, sU, sO, n, lU, lO, KU, KO, rfl, _⟩ := h
    rfl
  · obtain ⟨t, la, aU, aO, u, d, sU, sO, n, lU, lO, KU, KO, rfl, ta, hT, hT2, neT, iU, iO, mkU, q⟩ := h
    have hr1 : Room 1 _ := hr.mono (by decide)
    have hr3 : Room 3 _ := hr.mono (by decide)
    refine ⟨_, (pss_cons (ps_setLc (i := 1) (own := [("area", 2)]) (g := gName 2) (tt := tYes) (te := tCall (spRs T1) [] E0 (tCons (tFld K (tVar 2) "data") tNil)) rfl scT10.nd rfl rfl (sw_true rfl rfl rfl (by decide +kernel)) (pi_list (pe_fld (pv 0) rfl)) (blkOk_by (N := nRc) (sc := defScope (sTape 10)) (by decide +kernel))
          (fun _ _ _ _ _ => pg_name (i := 2) scT10.nd rfl (Or.inl rfl)) (fun _ _ _ _ _ => pts_nil) (fun _ _ _ _ _ => by exact pe_call GR hr (by rfl) gR kR bR .nil pass0 (pa_cons (pe_fld (pv 2) rfl) pa_nil)))
      (pss_cons (ps_setLc (i := 3) (own := [("rows", 4), ("_", 5)]) (tt := tYes) (te := tCall (spWhole T1 T2) [] E0 (tCons (tVar 4) tNil)) rfl scT10.nd rfl rfl (sw_true rfl rfl rfl (by decide +kernel)) (pi_list (pv 1)) (blkOk_by (N := nRc) (sc := defScope (sTape 10)) (by decide +kernel))
          (g := gTup K 2 (gCons (gName 4) (gCons (gName 5) gNil))) (fun _ _ _ _ _ => by exact pg_tup (by rfl) (pgs_cons (pg_name (i := 4) scT10.nd rfl (.inl rfl)) (pgs_cons (pg_name (i := 5) scT10.nd rfl (.inl rfl)) pgs_nil))) (fun _ _ _ _ _ => pts_nil) (fun _ _ _ _ _ => by exact pe_call GH hr3 (by rfl) gH kH bH .nil pass0 (pa_cons (pv 4) pa_nil)))
      (pss_cons (ps_fld (pv 0) (pe_ifExp (pt_cmpR op_ge (pe_ix ix_list (pv 3) pe_int (fun _ _ => rfl)) (pe_ix ix_list (pv 3) pe_int (fun _ _ => rfl)) (nomark _)) pe_int pe_int) rfl)
      (pss_cons (ps_asg (pe_ix ix_list (pv 1) (pe_fld (pv 0) rfl) (fun _ _ => rfl)) (pg_tup (by rfl) (pgs_cons (pg_name (i := 4) scT10.nd rfl (.inl rfl)) (pgs_cons (pg_name (i := 6) scT10.nd rfl (.inl rfl)) pgs_nil))))
      (pss_cons (ps_expr (pe_meth (pe_meth0 (pv 0) T.clT mI GI hr1 bI .nil pass0) T.clA mX GX hr1 bX .nil pass0 (pa_cons (pv 6) pa_nil)))
      (pss_cons (ps_expr (pe_meth0 (pe_meth0 (pv 0) T.clT mI GI hr1 bI .nil pass0) T.clA mS GS hr1 bS .nil pass0))
      (pss_cons (ps_expr (pe_meth (pe_meth0 (pv 0) T.clT mO GO hr1 bO .nil pass0) T.clA mX GX hr1 bX .nil pass0 (pa_cons pe_int pa_nil)))
      (pss_cons (ps_fld (pv 0) pe_int rfl)
      (pss_one (ps_ret (pe_lc (own := [("kind", 7), ("text", 8)]) (te := tVar 8) (tt := tTest (tOp rEq (tVar 7) (tC (.int 2)))) rfl scT10.nd (pi_list (pv 4)) (blkOk_by (N := nRc) (sc := defScope (sTape 10)) (by decide +kernel))
          (g := gTup K 2 (gCons (gName 7) (gCons (gName 8) gNil))) (fun _ _ _ _ _ => by exact pg_tup (by rfl) (pgs_cons (pg_name (i := 7) scT10.nd rfl (.inl rfl)) (pgs_cons (pg_name (i := 8) scT10.nd rfl (.inl rfl)) pgs_nil))) (fun _ _ _ _ _ => by exact pts_one (pt_cmpR op_eq (pv 7) (pe_glob (v := V.int 2) (by rfl) gE ⟨_, rfl⟩) (nomark _))) (fun _ _ _ _ _ => by exact pv 8)))))))))))), ?_⟩
    obtain ⟨dx, h1⟩ := id ta.tp
    refine ⟨_, rfl, t, CT, dx, _, _, rfl, h1, T.clT, T.nA, getT_a la u d, la, rfl, ⟨_, SqL.of ta.li⟩, fun D nD => ?_⟩
    have u2 := ta.u2
    -- the records of both areas
    refine lc_list (xs := sel u (V.ref aU) (V.ref aO)) (fun i H' => Fr T1 T2 [] H H' ∧ ∃ qs : List Addr, H' D = some (.lst (qs.map V.ref)) ∧ qs.length = i ∧
        ∀ j q, qs[j]? = some q → (j = u → ToldAt D H' q KU (endN lU)) ∧ (j = 1 - u → ToldAt D H' q KO (endN lO))) ⟨Fr.new hT hT2 neT nD, [], upd_same, rfl, fun j q z => nomatch z⟩ ?_ ?_ ?_
    · rintro i H' _ ⟨f1, _⟩
      exact SqL.of (ta.fr hT hT2 f1).li
    · rintro i v H' hv ⟨f1, qs, hD, lq, told⟩
      have tb := ta.fr hT hT2 f1
      have li : i < 2 := by
        have := (List.getElem?_eq_some_iff.mp hv).1
        rw [sel_len] at this
        exact this
      obtain ⟨a, dA, l, sA, R, rfl, hA, ia, lA⟩ : ∃ (a dA : Addr) (l : List Nat) (sA : Nat) (R : Rw), v = .ref a ∧ H' a = some (areaO CA dA l sA) ∧ ((i = u → R = KU ∧ endN l = endN lU) ∧ (i = 1 - u → R = KO ∧ endN l = endN lO)) ∧ (l.length ≤ 100000 ∧ (recsA l.length l).1 = R) := by
        obtain ⟨dU, hU⟩ := id tb.hU
        obtain ⟨dO, hO⟩ := id tb.hO
        by_cases ei : i = u
        · subst ei
          rw [sel_u u2] at hv
          exact ⟨aU, dU, lU, sU, KU, (Option.some.inj hv).symm, hU, ⟨fun _ => ⟨rfl, rfl⟩, fun z => by omega⟩, iU.len, iU.rows⟩
        · have ei2 : i = 1 - u := by omega
          subst ei2
          rw [sel_o u2] at hv
          exact ⟨aO, dO, lO, sO, KO, (Option.some.inj hv).symm, hO, ⟨fun z => by omega, fun _ => ⟨rfl, rfl⟩⟩, iO.len, iO.rows⟩
      have := zl
      refine ⟨rfl, ?_⟩
      refine ⟨_, rfl, a, CA, dA, _, _, rfl, hA, T.clA, T.nD, getA_d l sA, ?_⟩
      refine ⟨Sg l, rfl, by rw [len_tl]; show l.length ≤ _; omega, f1.t1, fun H2 q0 k2 td => ?_⟩
      have lL : (Sg l).length = l.length := len_tl _
      rw [lL, sg_tl, lA.2] at td
      obtain ⟨l2, as2, n2, g1, g2, g3⟩ := td
      have f2 : Fr T1 T2 [] H' H2 := Fr.keep f1.t2 neT k2
      have hD2 : H2 D = some (.lst (qs.map V.ref)) := f2.at_ f1.t1 f1.t2 hD (fun ps z => nomatch z) (fun z => nomatch z)
      have l2D : l2 ≠ D := fun z => by
        rw [z, hD] at n2
        cases n2
      have td2 : ToldAt D H2 q0 R (endN l) := ⟨l2, as2, l2D, g1, g2, g3⟩
      refine ⟨_, hD2, by rw [List.length_map]; omega, (f1.trans f2).updNew nD hD2 (fun ps z => nomatch z), qs ++ [q0], by rw [upd_same, List.map_append]; rfl, by rw [List.length_append, lq]; rfl, ?_⟩
      · intro j q hj
        rcases Nat.lt_or_ge j qs.length with hlt | hge
        · rw [List.getElem?_append_left hlt] at hj
          obtain ⟨t1, t2⟩ := told j q hj
          exact ⟨fun z => ((t1 z).fr (S := []) f1.t1 f1.t2 f2).upd hD2, fun z => ((t2 z).fr (S := []) f1.t1 f1.t2 f2).upd hD2⟩
        · rw [List.getElem?_append_right hge] at hj
          have ej : j = i := by
            have := (List.getElem?_eq_some_iff.mp hj).1
            rw [List.length_singleton] at this
            omega
          have eq0 : q = q0 := by
            rw [ej, lq, Nat.sub_self] at hj
            exact (Option.some.inj hj).symm
          subst eq0
          subst ej
          obtain ⟨i1, i2⟩ := ia
          exact ⟨fun z => by obtain ⟨z1, z2⟩ := i1 z; rw [← z1, ← z2]; exact td2.upd hD2, fun z => by obtain ⟨z1, z2⟩ := i2 z; rw [← z1, ← z2]; exact td2.upd hD2⟩
    · rintro H1 ⟨f1, qs, hD, lq, told⟩
      rw [sel_len] at lq
      obtain ⟨qU, eqU⟩ : ∃ qU, qs[u]? = some qU := ⟨_, List.getElem?_eq_getElem (by omega)⟩
      obtain ⟨qO, eqO⟩ : ∃ qO, qs[1 - u]? = some qO := ⟨_, List.getElem?_eq_getElem (by omega)⟩
      obtain ⟨rU, asU, _, gU1, gU2, gU3⟩ := (told u qU eqU).1 rfl
      obtain ⟨rO, asO, _, gO1, gO2, gO3⟩ := (told (1 - u) qO eqO).2 rfl
      have eqs : qs.map V.ref = sel u (.ref qU) (.ref qO) := by
        match qs, lq with
        | [a, b], _ =>
          rcases u2 with e | e
          · subst e
            cases eqU
            cases eqO
            rfl
          · subst e
            cases eqU
            cases eqO
            rfl
      rw [eqs] at hD
      -- the numbers
      refine ⟨.ref D, rfl, D, rfl, ⟨_, SqL.of hD⟩, fun D2 nD2 => ?_⟩
      refine lc_list (xs := sel u (V.ref qU) (V.ref qO)) (fun i H' => Fr T1 T2 [] H1 H' ∧ H' D2 = some (.lst ((sel u (V.int (wnR KU n)) (V.int (wnR KO (n + 1)))).take i))) ⟨Fr.new f1.t1 f1.t2 neT nD2, upd_same⟩ ?_ ?_ ?_
      · rintro i H' _ ⟨f2, _⟩
        exact SqL.of (f2.at_ f1.t1 f1.t2 hD (fun ps z => nomatch z) (fun z => nomatch z))
      · rintro i v H' hv ⟨f2, hD2⟩
        have li : i < 2 := by
          have := (List.getElem?_eq_some_iff.mp hv).1
          rw [sel_len] at this
          exact this
        obtain ⟨a, r, as, R, m, e, rfl, g1, g2, g3, gl, gh, gm, gx⟩ : ∃ (a r : Addr) (as : List Addr) (R : Rw) (m e : Nat), v = .ref a ∧ H1 a = some (.tup [.ref r, .int (e : Int)]) ∧ H1 r = some (.lst (as.map V.ref)) ∧ Tups H1 as R ∧ R.length ≤ 200 ∧ HeadIs R m ∧ m ≤ 1000 ∧
            (sel u (V.int (wnR KU n)) (V.int (wnR KO (n + 1))))[i]? = some (V.int (wnR R m)) := by
          by_cases ei : i = u
          · subst ei
            rw [sel_u u2] at hv
            exact ⟨qU, rU, asU, KU, n, _, (Option.some.inj hv).symm, gU1, gU2, gU3, iU.few, iU.hd, iU.hn, sel_u u2 _ _⟩
          · have ei2 : i = 1 - u := by omega
            subst ei2
            rw [sel_o u2] at hv
            exact ⟨qO, rO, asO, KO, n + 1, _, (Option.some.inj hv).symm, gO1, gO2, gO3, iO.few, iO.hd, iO.hn, sel_o u2 _ _⟩
        have g1' := f2.at_ f1.t1 f1.t2 g1 (fun ps z => nomatch z) (fun z => nomatch z)
        have g2' := f2.at_ f1.t1 f1.t2 g2 (fun ps z => nomatch z) (fun z => nomatch z)
        have g3' := g3.fr f2 f1.t1 f1.t2 (fun x z => nomatch z)
        refine ⟨a, _, rfl, SqT.of g1', rfl, _, _, rfl, _, _, rfl, rfl, rfl, ?_⟩
        refine ⟨_, rfl, ?_⟩
        refine ⟨r, as, R, m, rfl, g2', g3', by omega, gh, gm, f2.t1, f2.t2, neT, fun H3 f3 => ?_⟩
        have hD3 := f3.at_ f2.t1 f2.t2 hD2 (fun ps z => nomatch z) (fun z => nomatch z)
        have := zl
        refine ⟨_, hD3, by rw [List.length_take, sel_len]; omega, (f2.trans f3).updNew nD2 hD3 (fun ps z => nomatch z), ?_⟩
        rw [upd_same, List.take_add_one, gx]
        rfl
      rintro H2 ⟨f2, hD2⟩
      rw [show (sel u (V.ref qU) (V.ref qO)).length = (sel u (V.int (wnR KU n)) (V.int (wnR KO (n + 1)))).length by rw [sel_len, sel_len], List.take_length] at hD2
      have f02 := f1.trans f2
      have ta2 := ta.fr hT hT2 f02
      obtain ⟨dx2, h12⟩ := id ta2.tp
      have hDr : H2 D = some (.lst (sel u (.ref qU) (.ref qO))) := f2.at_ f1.t1 f1.t2 hD (fun ps z => nomatch z) (fun z => nomatch z)
      -- which one is used
      obtain ⟨v, ev⟩ : ∃ v, v = if markR KO = true then 1 - u else u := ⟨_, rfl⟩
      have v2 : v = 0 ∨ v = 1 := by
        rw [ev]
        split <;> omega
      obtain ⟨z0, z1, ez, ev0⟩ : ∃ z0 z1 : Int, sel u (V.int (wnR KU n)) (V.int (wnR KO (n + 1))) = [V.int z0, V.int z1] ∧ (z1 ≤ z0 ↔ v = 0) := by
        have eU : wnR KU n = (n : Int) := by
          unfold wnR
          rw [if_pos mkU]
        have eO : wnR KO (n + 1) = if markR KO = true then ((n + 1 : Nat) : Int) else -1 := rfl
        rw [eU, eO]
        rcases u2 with e | e
        · subst e
          refine ⟨_, _, rfl, ?_⟩
          rw [ev]
          split <;> omega
        · subst e
          refine ⟨_, _, rfl, ?_⟩
          rw [ev]
          split <;> omega
      rw [ez] at hD2
      have both : ∀ (σ : L2.St) (Q : VK), Q (V.int (v : Int)) H2 → if decide (z1 ≤ z0) = true then tC (V.int 0) σ H2 Q else tC (V.int 1) σ H2 Q := by
        intro σ Q h
        by_cases c : z1 ≤ z0
        · rw [if_pos (decide_eq_true c)]
          have : v = 0 := ev0.mp c
          subst this
          exact h
        · rw [if_neg (by simpa using c)]
          have : v = 1 := by
            rcases v2 with e | e
            · exact absurd (ev0.mpr e) c
            · exact e
          subst this
          exact h
      refine ⟨_, rfl, D2, _, 0, V.int z0, rfl, rfl, SqL.of hD2, atI_nat (j := 0) rfl, _, rfl, D2, _, 1, V.int z1, rfl, rfl, SqL.of hD2, atI_nat (j := 1) rfl, _, _, rfl, rfl, _, rfl, both _ _ ?_⟩
      refine ⟨_, rfl, t, CT, dx2, _, rfl, h12, T.clT, T.nU, lenT la u d, ?_⟩
      rw [putT_u]
      have f03 : Fr T1 T2 [t, aU, aO] H (upd H2 t (tapeO CT dx2 la v d)) := f02.nil.trans (Fr.set f02.t1 f02.t2 neT (by simp) h12 (fun ps z => nomatch z))
      have kt : ∀ a o, H2 a = some o → a ≠ t → upd H2 t (tapeO CT dx2 la v d) a = some o := fun a o e ne => (upd_ne ne).trans e
      have tupT : ∀ {a : Addr} {xs : List V}, H2 a = some (.tup xs) → a ≠ t := fun e => ne_of e h12 fun z => nomatch z
      have lstT : ∀ {a : Addr} {xs : List V}, H2 a = some (.lst xs) → a ≠ t := fun e => ne_of e h12 fun z => nomatch z
      have out2 : ∀ a o, H1 a = some o → (∀ ps, o ≠ .tbl ps) → H2 a = some o := fun a o e d => f2.at_ f1.t1 f1.t2 e d (fun z => nomatch z)
      obtain ⟨aV, aW, lV, lW, sV, sW, qV, rV, asV, KV, m, taV, iV, lW5, eV, c1, c2, c3, mV, mW, hVW, fin⟩ : ∃ (aV aW : Addr) (lV lW : List Nat) (sV sW : Nat) (qV rV : Addr) (asV : List Addr) (KV : Rw) (m : Nat),
          TapeAt CA CT (upd H2 t (tapeO CT dx2 la v d)) t la aV aW v d lV lW sV sW ∧ AreaIs lV KV m ∧ lW.length ≤ 100000 ∧ (sel u (V.ref qU) (V.ref qO))[v]? = some (.ref qV) ∧
          upd H2 t (tapeO CT dx2 la v d) qV = some (.tup [.ref rV, .int (endN lV : Int)]) ∧ upd H2 t (tapeO CT dx2 la v d) rV = some (.lst (asV.map V.ref)) ∧ Tups (upd H2 t (tapeO CT dx2 la v d)) asV KV ∧ aV ∈ [t, aU, aO] ∧ aW ∈ [t, aU, aO] ∧ ((aV = aO ∧ aW = aU) ∨ (aV = aU ∧ aW = aO)) ∧
          ∀ H' a, H a = none → Fr T1 T2 [t, aU, aO] H H' → H' a = some (.lst (strsV (textsR KV))) → TapeAt CA CT H' t la aV aW v 0 (flatR KV) [] (flatR KV).length 0 → Q (.ref a) H' := by
        by_cases mo : markR KO = true
        · rw [if_pos mo] at ev
          subst ev
          refine ⟨aO, aU, lO, lU, sO, sU, qO, rO, asO, KO, n + 1, ta2.swap, iO, iU.len, sel_o u2 _ _, ?_, ?_, ?_, by simp, by simp, .inl ⟨rfl, rfl⟩, fun H' a h1 h2 h3 h4 => q H' a h1 h2 ?_ ?_⟩
          · have e := out2 qO _ gO1 fun ps z => nomatch z
            exact kt _ _ e (tupT e)
          · have e := out2 rO _ gO2 fun ps z => nomatch z
            exact kt _ _ e (lstT e)
          · exact gO3.mono fun x r e => by
              have e2 := out2 x _ e fun ps z => nomatch z
              exact kt _ _ e2 (tupT e2)
          · rw [if_pos mo]
            exact h3
          · rw [if_pos mo]
            exact h4
        · rw [if_neg mo] at ev
          subst ev
          have same : TapeAt CA CT (upd H2 t (tapeO CT dx2 la v d)) t la aU aO v d lU lO sU sO := ta2.setD
          refine ⟨aU, aO, lU, lO, sU, sO, qU, rU, asU, KU, n, same, iU, iO.len, sel_u u2 _ _, ?_, ?_, ?_, by simp, by simp, .inr ⟨rfl, rfl⟩, fun H' a h1 h2 h3 h4 => q H' a h1 h2 ?_ ?_⟩
          · have e := out2 qU _ gU1 fun ps z => nomatch z
            exact kt _ _ e (tupT e)
          · have e := out2 rU _ gU2 fun ps z => nomatch z
            exact kt _ _ e (lstT e)
          · exact gU3.mono fun x r e => by
              have e2 := out2 x _ e fun ps z => nomatch z
              exact kt _ _ e2 (tupT e2)
          · rw [if_neg mo]
            exact h3
          · rw [if_neg mo]
            exact h4
      have hDr3 := kt _ _ hDr (lstT hDr)
      have e9 : HO.ins CT dx2 (tapeF la v d) = tapeO CT dx2 la v d := rfl
      rw [e9]
      generalize upd H2 t (tapeO CT dx2 la v d) = H3 at f03 taV c1 c2 c3 hDr3
      clear both kt tupT lstT out2
      obtain ⟨dx3, h13⟩ := id taV.tp
      refine ⟨_, rfl, _, rfl, t, CT, dx3, _, _, rfl, h13, T.clT, T.nU, getT_u la v d, D, _, (v : Int), .ref qV, rfl, rfl, SqL.of hDr3, atI_nat eV, ?_⟩
      refine ⟨qV, _, rfl, SqT.of c1, rfl, _, _, rfl, _, _, rfl, rfl, ?_⟩
      -- cut_to(size)
      obtain ⟨dV, hV⟩ := id taV.hU
      refine ⟨_, rfl, t, dx3, _, rfl, h13, no_meth _ _ _, ?_⟩
      dsimp only [tNil]
      refine spIn_use taV ?_
      have lV5 := iV.len
      refine ⟨aV, dV, _, rfl, hV, no_methA _ _, _, rfl, ?_⟩
      refine ⟨aV, dV, lV, sV, endN lV, rfl, hV, by omega, ?_⟩
      have ec : lV.take (endN lV) = flatR KV := iV.cut
      rw [ec]
      have ta4 : TapeAt CA CT (upd H3 aV (areaO CA dV (flatR KV) (min sV (endN lV)))) t la aV aW v d (flatR KV) lW (min sV (endN lV)) sW := taV.setU
      have f4 : Fr T1 T2 [t, aU, aO] H (upd H3 aV (areaO CA dV (flatR KV) (min sV (endN lV)))) := f03.trans (Fr.set f03.t1 f03.t2 neT mV hV (fun ps z => nomatch z))
      have k4 : ∀ a o, H3 a = some o → (∀ C dx fs, o ≠ .ins C dx fs) → upd H3 aV (areaO CA dV (flatR KV) (min sV (endN lV))) a = some o := fun a o e d => (upd_ne (ne_of e hV (d _ _ _))).trans e
      have c2' := k4 _ _ c2 fun _ _ _ z => nomatch z
      have c3' := c3.mono fun a r e => k4 _ _ e fun _ _ _ z => nomatch z
      generalize upd H3 aV (areaO CA dV (flatR KV) (min sV (endN lV))) = H4 at ta4 f4 c2' c3'
      clear k4
      -- secure()
      have lf : (flatR KV).length ≤ 100000 := by
        rw [← ec, List.length_take]
        omega
      obtain ⟨dx4, h14⟩ := id ta4.tp
      obtain ⟨dV4, hV4⟩ := id ta4.hU
      refine ⟨_, rfl, t, dx4, _, rfl, h14, no_meth _ _ _, ?_⟩
      dsimp only [tNil]
      refine spIn_use ta4 ?_
      refine ⟨aV, dV4, _, rfl, hV4, no_methA _ _, ?_⟩
      refine ⟨aV, dV4, flatR KV, _, rfl, hV4, by omega, ?_⟩
      have ta5 : TapeAt CA CT (upd H4 aV (areaO CA dV4 (flatR KV) (flatR KV).length)) t la aV aW v d (flatR KV) lW (flatR KV).length sW := ta4.setU
      have f5 : Fr T1 T2 [t, aU, aO] H (upd H4 aV (areaO CA dV4 (flatR KV) (flatR KV).length)) := f4.trans (Fr.set f4.t1 f4.t2 neT mV hV4 (fun ps z => nomatch z))
      have k5 : ∀ a o, H4 a = some o → (∀ C dx fs, o ≠ .ins C dx fs) → upd H4 aV (areaO CA dV4 (flatR KV) (flatR KV).length) a = some o := fun a o e d => (upd_ne (ne_of e hV4 (d _ _ _))).trans e
      have c25 := k5 _ _ c2' fun _ _ _ z => nomatch z
      have c35 := c3'.mono fun a r e => k5 _ _ e fun _ _ _ z => nomatch z
      generalize upd H4 aV (areaO CA dV4 (flatR KV) (flatR KV).length) = H5 at ta5 f5 c25 c35
      clear k5
      -- other().cut_to(0)
      obtain ⟨dx5, h15⟩ := id ta5.tp
      obtain ⟨dW5, hW5⟩ := id ta5.hO
      refine ⟨_, rfl, t, dx5, _, rfl, h15, no_meth _ _ _, ?_⟩
      dsimp only [tNil]
      refine spOt_use ta5 ?_
      refine ⟨aW, dW5, _, rfl, hW5, no_methA _ _, ?_⟩
      refine ⟨aW, dW5, lW, sW, 0, rfl, hW5, by omega, ?_⟩
      rw [Nat.min_zero, List.take_zero]
      have ta6 : TapeAt CA CT (upd H5 aW (areaO CA dW5 [] 0)) t la aV aW v d (flatR KV) [] (flatR KV).length 0 := ta5.setO
      have f6 : Fr T1 T2 [t, aU, aO] H (upd H5 aW (areaO CA dW5 [] 0)) := f5.trans (Fr.set f5.t1 f5.t2 neT mW hW5 (fun ps z => nomatch z))
      have k6 : ∀ a o, H5 a = some o → (∀ C dx fs, o ≠ .ins C dx fs) → upd H5 aW (areaO CA dW5 [] 0) a = some o := fun a o e d => (upd_ne (ne_of e hW5 (d _ _ _))).trans e
      have c26 := k6 _ _ c25 fun _ _ _ z => nomatch z
      have c36 := c35.mono fun a r e => k6 _ _ e fun _ _ _ z => nomatch z
      generalize upd H5 aW (areaO CA dW5 [] 0) = H6 at ta6 f6 c26 c36
      clear k6
      -- done
      obtain ⟨dx6, h16⟩ := id ta6.tp
      refine ⟨_, rfl, t, CT, dx6, _, rfl, h16, T.clT, T.nDn, lenT la v d, ?_⟩
      have e10 : putF "done" (.int 0) (tapeF la v d) = tapeF la v 0 := putT_d la v d 0
      rw [e10]
      have ta7 : TapeAt CA CT (upd H6 t (tapeO CT dx6 la v 0)) t la aV aW v 0 (flatR KV) [] (flatR KV).length 0 := ta6.setD
      have f7 : Fr T1 T2 [t, aU, aO] H (upd H6 t (tapeO CT dx6 la v 0)) := f6.trans (Fr.set f6.t1 f6.t2 neT (by simp) h16 (fun ps z => nomatch z))
      have k7 : ∀ a o, H6 a = some o → (∀ C dx fs, o ≠ .ins C dx fs) → upd H6 t (tapeO CT dx6 la v 0) a = some o := fun a o e d => (upd_ne (ne_of e h16 (d _ _ _))).trans e
      have c27 := k7 _ _ c26 fun _ _ _ z => nomatch z
      have c37 := c36.mono fun a r e => k7 _ _ e fun _ _ _ z => nomatch z
      have e11 : HO.ins CT dx6 (tapeF la v 0) = tapeO CT dx6 la v 0 := rfl
      rw [e11]
      generalize upd H6 t (tapeO CT dx6 la v 0) = H7 at ta7 f7 c27 c37
      clear k7
      -- the entries
      refine ⟨.ref rV, rfl, rV, rfl, ⟨_, SqL.of c27⟩, fun D3 nD3 => ?_⟩
      have rD3 : rV ≠ D3 := ne_of_none c27 nD3
      refine lc_list (xs := asV.map V.ref) (fun i H' => H' = upd H7 D3 (.lst (strsV (textsR (KV.take i))))) rfl ?_ ?_ ?_
      · rintro i H' _ rfl
        exact SqL.of ((upd_ne rD3).trans c27)
      · rintro i x H' hx rfl
        rw [List.getElem?_map] at hx
        obtain ⟨a, ha, rfl⟩ := Option.map_eq_some_iff.mp hx
        obtain ⟨r, hr9, har⟩ := c37.get ha
        have ia : i < KV.length := (List.getElem?_eq_some_iff.mp hr9).1
        have fw := iV.few
        have := zl
        refine ⟨a, _, rfl, SqT.of ((upd_ne (ne_of_none har nD3)).trans har), rfl, _, _, rfl, _, _, rfl, rfl, rfl, ?_⟩
        refine ⟨_, rfl, rfl, _, rfl, ite2 (fun hz => ?_) (fun hz => ?_)⟩
        · have e2 : r.1 = 2 := by
            have := of_decide_eq_true hz
            injection this with this
            omega
          refine ⟨_, rfl, _, upd_same, ?_, ?_⟩
          · show ((textsR (KV.take i)).map _).length < _
            have l1 := len_split (KV.take i)
            rw [List.length_take] at l1
            rw [List.length_map]
            omega
          · rw [upd_upd, texts_take hr9, if_pos e2]
            unfold strsV
            rw [List.map_append]
            rfl
        · have e2 : ¬ r.1 = 2 := fun z => hz (decide_eq_true (by rw [z]; rfl))
          rw [texts_take hr9, if_neg e2, List.append_nil]
      · rintro H' rfl
        have ek : KV.take (asV.map V.ref).length = KV := by
          rw [List.length_map, c37.len, List.take_length]
        rw [ek]
        have sm : ∀ x ∈ [t, aU, aO], H7 x ≠ none := by
          obtain ⟨_, g1⟩ := ta7.tp
          obtain ⟨_, g2⟩ := ta7.hU
          obtain ⟨_, g3⟩ := ta7.hO
          intro x hx
          have hxs : x = t ∨ x = aV ∨ x = aW := by
            simp only [List.mem_cons, List.not_mem_nil, or_false] at hx
            rcases hVW with ⟨w1, w2⟩ | ⟨w1, w2⟩
            · rw [w1, w2]
              rcases hx with e | e | e
              · exact .inl e
              · exact .inr (.inr e)
              · exact .inr (.inl e)
            · rw [w1, w2]
              exact hx
          rcases hxs with e | e | e <;> subst e
          · rw [g1]; exact fun z => nomatch z
          · rw [g2]; exact fun z => nomatch z
          · rw [g3]; exact fun z => nomatch z
        have nD30 := f7.none_of nD3 sm
        refine fin _ D3 nD30 ((f7.trans (Fr.new f7.t1 f7.t2 neT nD3))) upd_same (ta7.keep fun x hx => upd_ne ?_)
        obtain ⟨_, g1⟩ := ta7.tp
        obtain ⟨_, g2⟩ := ta7.hU
        obtain ⟨_, g3⟩ := ta7.hO
        have g4 := ta7.li
        simp only [List.mem_cons, List.not_mem_nil, or_false] at hx
        rcases hx with e | e | e | e <;> subst e
        · exact ne_of_none g1 nD3
        · exact ne_of_none g4 nD3
        · exact ne_of_none g2 nD3
        · exact ne_of_none g3 nD3
end
end K85
namespace K85
open PySem PySem.Spec PyProof.Rows L2 QR TL
open GxR (TabB TabG Tabbed GenS)
abbrev sLRows : Stmt := topS 27
abbrev sLKept : Stmt := topS 28
abbrev sLWhole : Stmt := topS 29
theorem scLRows : FnScope ["area", "kind", "text"] ["area"] (defScope sLRows) := ⟨rfl, rfl, rfl, by decide +kernel, rfl, by decide +kernel, by decide +kernel⟩
theorem scLKept : FnScope ["area", "count", "found", "left", "kind", "text"] ["area", "count"] (defScope sLKept) := ⟨rfl, rfl, rfl, by decide +kernel, rfl, by decide +kernel, by decide +kernel⟩
theorem scLWhole : FnScope ["area", "row"] ["area"] (defScope sLWhole) := ⟨rfl, rfl, rfl, by decide +kernel, rfl, by decide +kernel, by decide +kernel⟩
theorem same_new {a : Addr} {H : Hp} {o : HO} (e : H a = none) : Same H (upd H a o) := fun b o' e' => by
  rw [upd_ne (ne_of_none e' e)]
  exact e'
theorem same_upd {a : Addr} {H H1 : Hp} {o : HO} (e : H a = none) (s : Same H H1) : Same H (upd H1 a o) := fun b o' e' => by
  rw [upd_ne (ne_of_none e' e)]
  exact s b o' e'
theorem Tups.same {H H' : Hp} {as : List Addr} {rs : List (Nat × List Nat)} (t : Tups H as rs) (s : Same H H') : Tups H' as rs := t.mono fun a r e => s _ _ e
theorem Fr.same {T T2 : Addr} {S : List Addr} {H H' : Hp} (h1 : TabG H T) (h2 : TabG H T2) (ne : T ≠ T2) (s : Same H H') : Fr T T2 S H H' := by
  refine ⟨?_, ?_, ne, fun b o _ _ _ e => s b o e⟩
  · obtain ⟨ps, hp, q⟩ := h1
    exact ⟨ps, s _ _ hp, q⟩
  · obtain ⟨ps, hp, q⟩ := h2
    exact ⟨ps, s _ _ hp, q⟩
theorem joinL_flat : ∀ R : Rw, joinL [] (R.map recR) = flatR R
  | [] => rfl
  | [r] => by
    show recR r = recR r ++ []
    rw [List.append_nil]
  | r :: q :: R => by
    show recR r ++ ([] ++ joinL [] ((q :: R).map recR)) = recR r ++ flatR (q :: R)
    rw [List.nil_append, joinL_flat (q :: R)]
theorem join_flat (R : Rw) : Txt.join (Str.ofString "") (R.map fun r => Sg (recR r)) = Sg (flatR R) := by
  refine ext_tl ?_
  rw [join_eq, tl_join, List.map_map]
  have e : (tl ∘ fun r : Nat × List Nat => Sg (recR r)) = recR := by
    funext r
    rfl
  rw [e, show tl (Str.ofString "") = [] by decide +kernel]
  exact joinL_flat R
theorem sum_flat : ∀ R : Rw, ((R.map fun r => Sg (recR r)).map (·.length)).sum = (flatR R).length
  | [] => rfl
  | r :: R => by
    show (Sg (recR r)).length + ((R.map fun r => Sg (recR r)).map (·.length)).sum = (recR r ++ flatR R).length
    rw [sum_flat R, List.length_append, len_tl]
section
variable {P : Program} {w : World} {K : PySem.W.Frag} {mg : Str → Option Value} {base : Heap}
/-! ### _law_rows -/
def spLRows : Sp := fun vs H Q _ => ∃ (r : Addr) (as : List Addr) (R : Rw), vs = [.ref r] ∧ H r = some (.lst (as.map V.ref)) ∧ Tups H as R ∧ okR R ∧ R.length ≤ 100 ∧ ∀ H', Same H H' → Q (.str (Sg (flatR R))) H'
theorem ok_lrows {f fL : Addr} {fd fdL : FuncData} (F : Fun K "_law_rows" "_law_rows" sLRows f fd)
    (GL : FnOk P w K mg base CX0 1 fL fdL ["kind", "text"] spRec) (bL : Binds K fdL ["kind", "text"] []) (gL : mg "_law_record" = some (.ref fL)) (kL : PySem.W.keepIn K (.ref fL) = true) :
    FnOk P w K mg base CX0 2 f fd ["area"] spLRows := by
  refine F.ok scLRows (fun vs H Q E h => ?_) (fun cdv A outer s H vs Q E hr h => ?_)
  · obtain ⟨r, as, R, rfl, _⟩ := h
    rfl
  · obtain ⟨r, as, R, rfl, hL, tu, ok, few, q⟩ := h
    refine ⟨_, pss_one (ps_ret (pe_join pe_str (pe_lc (own := [("kind", 1), ("text", 2)]) (g := gTup K 2 (gCons (gName 1) (gCons (gName 2) gNil))) (tt := tYes) (te := tCall spRec [] E0 (tCons (tVar 1) (tCons (tVar 2) tNil))) rfl scLRows.nd (pi_list (pv 0)) (blkOk_by (N := ["area", "kind", "text"]) (sc := defScope sLRows) (by decide +kernel))
          (fun _ _ _ _ _ => by exact pg_tup (by rfl) (pgs_cons (pg_name (i := 1) scLRows.nd rfl (.inl rfl)) (pgs_cons (pg_name (i := 2) scLRows.nd rfl (.inl rfl)) pgs_nil))) (fun _ _ _ _ _ => pts_nil) (fun _ _ _ _ _ => by exact pe_call GL hr (by rfl) gL kL bL .nil pass0 (pa_cons (pv 1) (pa_cons (pv 2) pa_nil)))))), ?_⟩
    refine ⟨⟨_, rfl⟩, .ref r, rfl, r, rfl, ⟨_, SqL.of hL⟩, fun D nD => ?_⟩
    have rD : r ≠ D := ne_of_none hL nD
    have := zl
    refine lc_list (xs := as.map V.ref) (fun i H' => H' = upd H D (.lst (((R.take i).map fun x => Sg (recR x)).map V.str))) rfl ?_ ?_ ?_
    · rintro i H' _ rfl
      exact SqL.of ((upd_ne rD).trans hL)
    · rintro i x H' hx rfl
      rw [List.getElem?_map] at hx
      obtain ⟨a, ha, rfl⟩ := Option.map_eq_some_iff.mp hx
      obtain ⟨y, hy, hay⟩ := tu.get ha
      obtain ⟨y1, y3, y20⟩ := ok y (List.mem_of_getElem? hy)
      refine ⟨a, _, rfl, SqT.of ((upd_ne (ne_of_none hay nD)).trans hay), rfl, _, _, rfl, _, _, rfl, rfl, rfl, ?_⟩
      refine ⟨_, rfl, _, rfl, ?_⟩
      dsimp only [tNil]
      refine ⟨y.1, Sg y.2, rfl, by omega, by rw [len_tl]; show y.2.length ≤ _; omega, _, upd_same, ?_, ?_⟩
      · rw [List.length_map, List.length_map, List.length_take]
        omega
      · rw [upd_upd, List.take_add_one, hy, sg_tl]
        show upd H D _ = upd H D _
        congr 2
        rw [List.map_append, List.map_append]
        rfl
    · rintro H' rfl
      rw [List.length_map, tu.len, List.take_length]
      refine ⟨Str.ofString "", D, R.map fun x => Sg (recR x), rfl, rfl, .inl (SqL.of upd_same), ?_, ?_⟩
      · rw [sum_flat]
        have l1 := flat_len R ok
        have l2 : (Str.ofString "").length = 0 := by decide +kernel
        rw [l2]
        omega
      · rw [join_flat]
        exact q _ (same_new nD)
/-! ### _law_kept -/
def spLKept : Sp := fun vs H Q _ => ∃ (r : Addr) (as : List Addr) (R : Rw) (n : Nat), vs = [.ref r, .int (n : Int)] ∧ H r = some (.lst (as.map V.ref)) ∧ Tups H as R ∧ okR R ∧ R.length ≤ 100 ∧
  ∀ H' f as', Same H H' → H f = none → H' f = some (.lst (as'.map V.ref)) → Tups H' as' (keptR R n) → Q (.ref f) H'
theorem kept_snoc : ∀ {R : Rw} {i n : Nat} {r : Nat × List Nat}, R[i]? = some r → (flatR (R.take i)).length ≤ n → keptR R n = R.take i ++ keptR (R.drop i) (n - (flatR (R.take i)).length)
  | R, 0, n, r, _, _ => by
    show _ = [] ++ keptR R (n - 0)
    rw [List.nil_append, Nat.sub_zero]
  | x :: R, i + 1, n, r, h, hl => by
    have hl2 : (recR x).length + (flatR (R.take i)).length ≤ n := by
      rw [← List.length_append]
      exact hl
    have ih := kept_snoc (R := R) (i := i) (n := n - (recR x).length) (r := r) h (by omega)
    show keptR (x :: R) n = x :: (R.take i ++ keptR (R.drop i) (n - (recR x ++ flatR (R.take i)).length))
    have e : keptR (x :: R) n = x :: keptR R (n - (recR x).length) := by
      conv => lhs; unfold keptR
      rw [if_neg (by omega)]
    rw [e, ih, List.length_append, Nat.sub_sub]
theorem ok_lkept {f fL : Addr} {fd fdL : FuncData} (F : Fun K "_law_kept" "_law_kept" sLKept f fd)
    (GL : FnOk P w K mg base CX0 1 fL fdL ["kind", "text"] spRec) (bL : Binds K fdL ["kind", "text"] []) (gL : mg "_law_record" = some (.ref fL)) (kL : PySem.W.keepIn K (.ref fL) = true) (ml : mg "len" = none) :
    FnOk P w K mg base CX0 2 f fd ["area", "count"] spLKept := by
  refine F.ok scLKept (fun vs H Q E h => ?_) (fun cdv A outer s H vs Q E hr h => ?_)
  · obtain ⟨r, as, R, n, rfl, _⟩ := h
    rfl
  · obtain ⟨r, as, R, n, rfl, hL, tu, ok, few, q⟩ := h
    refine ⟨_, (pss_cons (ps_set (i := 2) scLKept.nd rfl (.inl rfl) (pe_lst pa_nil))
      (pss_cons (ps_set (i := 3) scLKept.nd rfl (.inl rfl) (pv 1))
      (pss_cons (ps_for PassesOwn.never rfl (pi_list (pv 0)) (pg_tup (by rfl) (pgs_cons (pg_name (i := 4) scLKept.nd rfl (.inl rfl)) (pgs_cons (pg_name (i := 5) scLKept.nd rfl (.inl rfl)) pgs_nil)))
        (pss_cons (ps_set (i := 3) scLKept.nd rfl (.inl rfl) (pe_op op_sub (pv 3) (pe_callB call_len_str (by rfl) ml PySem.boot_len (pa_cons (pe_call GL hr (by rfl) gL kL bL .nil pass0 (pa_cons (pv 4) (pa_cons (pv 5) pa_nil))) pa_nil))))
      (pss_cons (ps_if (pt_cmpR op_lt (pv 3) pe_int (nomark _)) (pss_one (ps_break)) pss_nil)
      (pss_one (ps_expr (pe_bm PySem.F.plainAttrs_list PySem.F.slot_list_append PySem.F.type_list_append mt_append (pv 2) (pa_cons (pe_tup (pa_cons (pv 4) (pa_cons (pv 5) pa_nil))) pa_nil)))))))
      (pss_one (ps_ret (pv 2)))))), ?_⟩
    have := zl
    refine ⟨Nat.zero_le _, fun F0 nF => ?_⟩
    refine ⟨_, rfl, _, rfl, r, rfl, ⟨_, SqL.of (same_new nF _ _ hL)⟩, ?_⟩
    have fin : ∀ (σ : L2.St) (H' : Hp) (as' : List Addr), σ[2]? = some (some (.ref F0)) → Same H H' → H' F0 = some (.lst (as'.map V.ref)) → Tups H' as' (keptR R n) → tRet (tVar 2) { nx := fun _ H' => Q V.non H', rt := Q } σ H' := by
      intro σ H' as' e s1 e1 t1
      exact ⟨_, e, q H' F0 as' s1 nF e1 t1⟩
    refine for_list (xs := as.map V.ref) (fun i σ H' => ∃ (as' : List Addr) (y z : Option V), (flatR (R.take i)).length ≤ n ∧ σ = [some (.ref r), some (.int (n : Int)), some (.ref F0), some (.int ((n - (flatR (R.take i)).length : Nat) : Int)), y, z] ∧ Same H H' ∧
        H' F0 = some (.lst (as'.map V.ref)) ∧ Tups H' as' (R.take i)) ⟨[], none, none, Nat.zero_le _, rfl, same_new nF, upd_same, .nil⟩ ?_ ?_ ?_
    · rintro i σ H' _ ⟨as', y, z, _, _, s1, _⟩
      exact SqL.of (s1 _ _ hL)
    · rintro i x σ H' hx ⟨as', y, z, hle, rfl, s1, hF, tF⟩
      rw [List.getElem?_map] at hx
      obtain ⟨a, ha, rfl⟩ := Option.map_eq_some_iff.mp hx
      obtain ⟨g, hg, hag⟩ := tu.get ha
      obtain ⟨g1, g3, g20⟩ := ok g (List.mem_of_getElem? hg)
      have gi : i < R.length := (List.getElem?_eq_some_iff.mp hg).1
      have ks := kept_snoc (n := n) hg hle
      have dr : R.drop i = g :: R.drop (i + 1) := by
        have e2 := List.drop_eq_getElem_cons gi
        rw [(List.getElem?_eq_some_iff.mp hg).2] at e2
        exact e2
      rw [dr] at ks
      have lr := rec_le (k := g.1) (t := g.2) (by omega) (by omega)
      refine ⟨a, _, rfl, SqT.of (s1 _ _ hag), rfl, _, _, rfl, _, _, rfl, rfl, ?_⟩
      refine ⟨_, rfl, _, rfl, _, rfl, ?_⟩
      dsimp only [tNil]
      refine ⟨g.1, Sg g.2, rfl, by omega, by rw [len_tl]; show g.2.length ≤ _; omega, ?_⟩
      rw [sg_tl]
      refine ⟨_, rfl, by rw [len_tl]; show (recL g.1 g.2).length ≤ _; omega, _, _, rfl, rfl, ?_⟩
      have lL : (Sg (recL g.1 g.2)).length = (recR g).length := len_tl _
      rw [lL]
      refine ⟨_, rfl, _, _, rfl, rfl, _, rfl, ite2 (fun hz => ?_) (fun hz => ?_)⟩
      · have hz2 := of_decide_eq_true hz
        have hlt : n - (flatR (R.take i)).length < (recR g).length := by omega
        have ek : keptR R n = R.take i := by
          rw [ks]
          conv => lhs; arg 2; unfold keptR
          rw [if_pos hlt, List.append_nil]
        exact fin _ H' as' rfl s1 hF (by rw [ek]; exact tF)
      · have hz2 : ¬ ((n - (flatR (R.take i)).length : Nat) : Int) - ((recR g).length : Int) < 0 := fun z => hz (decide_eq_true z)
        refine ⟨_, rfl, .inl ⟨rfl, _, SqL.of hF⟩, _, rfl, _, rfl, by show 2 ≤ sizeLine; omega, fun b nb => ?_⟩
        have bF : F0 ≠ b := ne_of_none hF nb
        have lF := tF.len
        refine ⟨F0, _, _, rfl, rfl, (upd_ne bF).trans hF, by rw [List.length_map, lF, List.length_take]; omega, ?_⟩
        have et : flatR (R.take (i + 1)) = flatR (R.take i) ++ recR g := by
          rw [List.take_add_one, hg]
          exact flat_snoc _ _
        have e7 : ((n - (flatR (R.take i)).length : Nat) : Int) - ((recR g).length : Int) = ((n - (flatR (R.take (i + 1))).length : Nat) : Int) := by
          rw [et, List.length_append]
          omega
        refine ⟨as' ++ [b], some (.int (g.1 : Int)), some (.str (Sg g.2)), ?_, ?_, same_upd nF (fun b' o e => (upd_ne (ne_of_none (s1 b' o e) nb)).trans (s1 b' o e)), ?_, ?_⟩
        · rw [et, List.length_append]
          omega
        · rw [← e7]
          rfl
        · rw [upd_same, List.map_append]
          rfl
        · rw [List.take_add_one, hg]
          refine Tups.upd ((upd_ne bF).trans hF) ?_
          exact Tups.snoc upd_same (tF.mono fun x y e => (upd_ne (ne_of_none e nb)).trans e)
    · rintro σ H' ⟨as', y, z, hle, rfl, s1, hF, tF⟩
      rw [List.length_map, tu.len, List.take_length] at hle tF
      refine fin _ H' as' rfl s1 hF ?_
      rw [kept_full R n hle]
      exact tF
/-! ### _law_whole -/
def spLWhole : Sp := fun vs H Q _ => ∃ (r : Addr) (as : List Addr) (R : Rw) (n : Nat), vs = [.ref r] ∧ H r = some (.lst (as.map V.ref)) ∧ Tups H as R ∧ R.length ≤ 100 ∧ HeadIs R n ∧ ∀ H', Same H H' → Q (.bl (markR R)) H'
theorem ok_lwhole {f : Addr} {fd : FuncData} (F : Fun K "_law_whole" "_law_whole" sLWhole f fd) (ml : mg "len" = none) :
    FnOk P w K mg base CX0 1 f fd ["area"] spLWhole := by
  refine F.ok scLWhole (fun vs H Q E h => ?_) (fun cdv A outer s H vs Q E hr h => ?_)
  · obtain ⟨r, as, R, n, rfl, _⟩ := h
    rfl
  · obtain ⟨r, as, R, n, rfl, hL, tu, few, hh, q⟩ := h
    refine ⟨_, pss_one (ps_ret (pe_and (pe_cmpR op_gt (pe_callB call_len_seq (by rfl) ml PySem.boot_len (pa_cons (pv 0) pa_nil)) pe_int (nomark _)) (pe_and (pe_cmpR op_eq (pe_ix ix_tup (pe_ix ix_list (pv 0) pe_int (fun _ _ => rfl)) pe_int (fun _ _ => rfl)) pe_int (nomark _))
      (pe_one (pe_cmpR op_gt (pe_callB call_len_seq (by rfl) ml PySem.boot_len (pa_cons (pe_lc (own := [("row", 1)]) (g := gName 1) (te := tVar 1) (tt := tTest (tOp rEq (tOp (rIxT K) (tVar 1) (tC (.int 0))) (tC (.int 3)))) rfl scLWhole.nd (pi_list (pe_slice sl_list (pv 0) (po_some pe_int) po_none)) (blkOk_by (N := ["area", "row"]) (sc := defScope sLWhole) (by decide +kernel))
          (fun _ _ _ _ _ => by exact pg_name (i := 1) scLWhole.nd rfl (.inl rfl)) (fun _ _ _ _ _ => by exact pts_one (pt_cmpR op_eq (pe_ix ix_tup (pv 1) pe_int (fun _ _ => rfl)) pe_int (nomark _))) (fun _ _ _ _ _ => by exact pv 1)) pa_nil)) pe_int (nomark _)))))), ?_⟩
    refine ⟨_, rfl, r, _, rfl, .inl (SqL.of hL), _, _, rfl, rfl, _, rfl, ?_⟩
    cases tu with
    | nil =>
      refine ite2 (fun z => absurd z (by decide)) (fun _ => ?_)
      exact q H (Same.refl _)
    | @cons a as x R h1 tu =>
      refine ite2 (fun _ => ?_) (fun z => absurd (decide_eq_true (show (0 : Int) < (((a :: as).map V.ref).length : Int) by rw [List.length_map, List.length_cons]; omega)) z)
      obtain rfl := head_get hh rfl
      refine ⟨_, rfl, r, _, 0, .ref a, rfl, rfl, SqL.of hL, atI_nat (j := 0) rfl, a, _, 0, .int 1, rfl, rfl, SqT.of h1, atI_nat (j := 0) rfl, rfl, _, rfl, ?_⟩
      refine iteT ?_
      have e1 : HT.sIx ((a :: as).map V.ref).length 0 (some 1) = 1 := by
        unfold HT.sIx
        simp
      have e2 : HT.sIx ((a :: as).map V.ref).length ((a :: as).map V.ref).length none = as.length + 1 := by
        unfold HT.sIx
        simp
      have ec : cutV ((a :: as).map V.ref) (some 1) none = as.map V.ref := by
        unfold cutV
        rw [e1, e2]
        show List.take _ (as.map V.ref) = _
        exact List.take_of_length_le (by rw [List.length_map]; omega)
      refine ⟨_, rfl, _, rfl, r, _, rfl, SqL.of hL, fun p np => ⟨p, rfl, ⟨_, SqL.of upd_same⟩, fun D nD => ?_⟩⟩
      rw [ec] at nD ⊢
      have pD : p ≠ D := ne_of_none upd_same nD
      have s1 : Same H (upd H p (.lst (as.map V.ref))) := same_new np
      have tu1 := tu.same s1
      generalize hH1 : upd H p (.lst (as.map V.ref)) = H1 at nD s1 tu1
      have hp1 : H1 p = some (.lst (as.map V.ref)) := by
        rw [← hH1, upd_same]
      have nD0 : H D = none := by
        cases e : H D with
        | none => rfl
        | some o =>
          rw [s1 D o e] at nD
          cases nD
      have := zl
      have lt := tu.len
      have few2 : R.length + 1 ≤ 100 := few
      refine lc_list (xs := as.map V.ref) (fun i H' => ∃ ys : List V, H' = upd H1 D (.lst ys) ∧ ys.length ≤ i ∧ (decide (0 < ys.length)) = (R.take i).any fun r => r.1 == 3) ⟨[], rfl, Nat.zero_le _, rfl⟩ ?_ ?_ ?_
      · rintro i H' _ ⟨ys, rfl, _⟩
        exact SqL.of ((upd_ne pD).trans hp1)
      · rintro i x H' hx ⟨ys, rfl, ly, ey⟩
        rw [List.getElem?_map] at hx
        obtain ⟨b, hb, rfl⟩ := Option.map_eq_some_iff.mp hx
        obtain ⟨y, hy, hby⟩ := tu1.get hb
        have li : i < R.length := (List.getElem?_eq_some_iff.mp hy).1
        refine ⟨rfl, ?_⟩
        have e3 : (R.take (i + 1)).any (fun r => r.1 == 3) = ((R.take i).any (fun r => r.1 == 3) || y.1 == 3) := by
          rw [List.take_add_one, hy, List.any_append]
          simp
        refine ⟨_, rfl, b, _, 0, .int (y.1 : Int), rfl, rfl, SqT.of ((upd_ne (ne_of_none hby nD)).trans hby), atI_nat (j := 0) rfl, rfl, _, rfl, ite2 (fun hz => ?_) (fun hz => ?_)⟩
        · have e2 : y.1 = 3 := by
            have := of_decide_eq_true hz
            injection this with this
            omega
          refine ⟨_, rfl, ys, upd_same, by omega, ys ++ [.ref b], by rw [upd_upd], by rw [List.length_append, List.length_singleton]; omega, ?_⟩
          rw [e3, e2, List.length_append, List.length_singleton]
          simp
        · have e2 : ¬ y.1 = 3 := fun z => hz (decide_eq_true (by rw [z]; rfl))
          refine ⟨ys, rfl, by omega, ?_⟩
          rw [e3, ey]
          simp [e2]
      · rintro H' ⟨ys, rfl, ly, ey⟩
        rw [List.length_map, lt, List.take_length] at ey
        refine ⟨D, ys, rfl, .inl (SqL.of upd_same), _, _, rfl, rfl, ?_⟩
        have em : decide ((0 : Int) < (ys.length : Int)) = markR ((1, numL n) :: R) := by
          show _ = R.any fun r => r.1 == 3
          rw [← ey]
          exact decide_eq_decide.mpr (by omega)
        show Q (V.bl (decide ((0 : Int) < (ys.length : Int)))) _
        rw [em]
        exact q _ (same_upd nD0 s1)
end
end K85
/-! isinstance of a caught error that has its own dict; a method that may raise within a try: own rules -/
namespace K85E
open PySem PySem.Spec PyProof.Rows L2
def rIsD (K : PySem.W.Frag) (D a : Addr) (cls : Value) (d : Option Addr) : List V → Hp → VK → Prop := fun xs H Q => ∃ (c : V) (cv : Value) (b : Bool) (dd : Addr) (fs : List (Str × V)), xs = [.ref a, c] ∧ cls = .ref D ∧ d = some dd ∧
  (∀ u, RelV c u → u = cv) ∧ PySem.W.kitOne K (.ref D) cv = some b ∧ H dd = some (.xd fs) ∧ Q (.bl b) H
theorem call_isD {X : Cx} {a D : Addr} {oe : Obj} {cls : Value} {d : Option Addr} {pn : List (Addr × Obj)} (C : ExcC X.K D) (hz : Zc cls d oe) (hf : ∃ vs, oe.data = .fields vs) : CallR (X.suite a ((a, oe) :: pn)) (.builtin "isinstance") (rIsD X.K D a cls d) := by
  rintro pins s σ H xs us Q I r ⟨c, cv, b, dd, fs, rfl, rfl, rfl, hcv, e, hx, q⟩
  cases r with
  | cons rx rr =>
    cases rr with
    | cons rt rr =>
      cases rr
      cases rx
      obtain rfl := hcv _ rt
      have hget := (I.pin (a, oe) (List.mem_append_left _ List.mem_cons_self)).1
      obtain ⟨vs, hv⟩ := hf
      have hD : ObjOk X.prog X.w H s.heap dd (.xd fs) := I.hok dd _ hx
      obtain ⟨mA, hns, _⟩ := hD
      obtain ⟨od, ho, _⟩ := lookIn_ns hns
      have J : PySem.W.InstAt s.heap a oe D (some od) := ⟨hget, hz.1, by unfold PySem.W.notCls; rw [hv] <;> rfl, by rw [hz.2]; exact ho⟩
      have cl : (PySem.W.clsIn X.K D).isSome = true := by
        have h := C.hd
        unfold PySem.W.hasDictIn at h
        cases hc : PySem.W.clsIn X.K D with
        | none =>
          rw [hc] at h
          cases h
        | some cd => rfl
      refine PySem.W.kia_one (PySem.W.kitx_exc (od := some od) cl C.hg C.hk C.hs C.ha C.hn C.ht C.hm) I.kIn J e (fun z => nomatch z) fun tk => ?_
      exact ⟨.bl b, H, I.kept (t' := tk) fun _ _ z => z, rfl, q⟩
def tMethE (C : Addr) (m : Str) (sp : Sp) (E : L2.St → XK) (ta : TE) (t : TA) : TE := fun σ H Q => ta σ H fun x H1 => ∃ a dx fs, x = .ref a ∧ H1 a = some (.ins C dx fs) ∧ fs.lookup m = none ∧ t σ H1 fun vs H2 => sp (x :: vs) H2 Q (E σ)
section
variable {X : Cx} {CX : CXT} {k : Nat} {f C : Addr} {fd : FuncData} {ps : List Str} {sp : Sp} {E : L2.St → XK} {m : Str} {pos apos : Pos} {e o : Expr} {es : List Expr} {ta : TE} {t : TA}
theorem pe_methE {pl : Sem Bool} (he : PE X o ta) (c : Cls X.K C) (hm : Meth X.K C m f) (G : FnOk X.prog X.w X.K X.mg X.base CX k f fd ps sp) (hr : Room k X.A) (hb : Binds X.K fd ps []) (hx : ∀ σ, PassesAt CX X σ (E σ)) (ha : PA X (e :: es) t)
    (hst : starEach (e :: es) X.env = (false, eval e X.env) :: starEach es X.env := by rfl) (hpl : (backTo pos (starEach es X.env)).any (·.1) = false := by rfl)
    (ht : eval (.Call (.Attribute o m apos) (e :: es) [] pos) X.env = (do
      let ov ← eval o X.env; standAt apos.atName; let (f, first) ← holding [ov] (getMethod ov m pl); callWith pos f first (backTo pos (starEach (e :: es) X.env)) (backToKw pos (keywordEach [] X.env))) := by rfl) :
    PE X (.Call (.Attribute o m apos) (e :: es) [] pos) (tMethE C m sp E ta t) := by
  constructor
  intro pins s σ H Q I h
  refine PySem.W.methodCall_KW (pl := pl) (thn (he.run pins s σ H _ I h) ?_) ht
  rintro u s1 ⟨x, H1, I1, rx, a, dx, fs, rfl, ea, l, q⟩
  obtain rfl : u = Value.ref a := rx
  refine getmeth_ok I1 ea c hm l (PySem.W.callWith_K (first := [.ref a]) (h₀ := X.base) I.ok.mod.kin hm.kp (thn (ha.run pos pins s1 σ H1 _ I1 q) ?_) hst hpl)
  rintro us s2 ⟨vs, H2, I2, r, q2⟩
  exact ⟨I2.kIn, run_fnS (us := .ref a :: us) (vs := .ref a :: vs) G hr hb (hx σ) I2 (.cons rfl r) q2⟩
theorem pe_methE0 {pl : Sem Bool} (he : PE X o ta) (c : Cls X.K C) (hm : Meth X.K C m f) (G : FnOk X.prog X.w X.K X.mg X.base CX k f fd ps sp) (hr : Room k X.A) (hb : Binds X.K fd ps []) (hx : ∀ σ, PassesAt CX X σ (E σ))
    (ht : eval (.Call (.Attribute o m apos) [] [] pos) X.env = (do
      let ov ← eval o X.env; standAt apos.atName; let (f, first) ← holding [ov] (getMethod ov m pl); callWith pos f first (backTo pos (starEach [] X.env)) (backToKw pos (keywordEach [] X.env))) := by rfl) :
    PE X (.Call (.Attribute o m apos) [] [] pos) (tMethE C m sp E ta tNil) := by
  constructor
  intro pins s σ H Q I h
  refine PySem.W.methodCall_KW (pl := pl) (thn (he.run pins s σ H _ I h) ?_) ht
  rintro u s1 ⟨x, H1, I1, rx, a, dx, fs, rfl, ea, l, q⟩
  obtain rfl : u = Value.ref a := rx
  exact getmeth_ok I1 ea c hm l (PySem.W.callWith_K0 (first := [.ref a]) I1.kIn hm.kp (run_fnS (us := [.ref a]) (vs := [.ref a]) G hr hb (hx σ) I1 (.cons rfl .nil) q))
end
end K85E
namespace K85
open PySem PySem.Spec PyProof.Rows L2 QR TL
open GxR (TabB TabG Tabbed GenS)
abbrev sLStep : Stmt := topS 30
abbrev nStep : List Str := ["tape", "word", "texts", "e"]
theorem scLStep : FnScope nStep ["tape", "word", "texts"] (defScope sLStep) := ⟨rfl, rfl, rfl, by decide +kernel, rfl, by decide +kernel, by decide +kernel⟩
structure StepF (K : PySem.W.Frag) (mg : Str → Option Value) (CS fSE CW : Addr) : Prop where
  low : PySem.StepX.StepTxt K mg CS fSE
  ex : ExcC K CS
  gW : mg "WardError" = some (.ref CW)
  kit : PySem.W.kitOne K (.ref CS) (.ref CW) = some true
  mi : mg "isinstance" = none
def wordS : Nat → Str
  | 0 => "begin"
  | 1 => "mark"
  | _ => "switch"
/-- the tape behind the k-th step -/
def StepTape (CA CT : Addr) (H' : Hp) (t la aU aO : Addr) (u n : Nat) (lU lO : List Nat) (sU sO : Nat) (A : List (List Nat)) : Nat → Prop
  | 0 => TapeAt CA CT H' t la aU aO u 1 lU (flatR ((1, numL (n + 1)) :: entR A)) sU 0
  | 1 => TapeAt CA CT H' t la aU aO u 2 lU (lO ++ recL 3 []) sU sO
  | _ => TapeAt CA CT H' t la aO aU (1 - u) 0 lO [] lO.length 0
def spStep (T T2 CA CT : Addr) : Sp := fun vs H Q E => ∃ (t la aU aO x : Addr) (u d sU sO n k : Nat) (lU lO : List Nat) (A : List (List Nat)), vs = [.ref t, .str (wordS k), .ref x] ∧ k < 3 ∧ TapeAt CA CT H t la aU aO u d lU lO sU sO ∧ H x = some (.lst (strsV A)) ∧ TabG H T ∧ TabG H T2 ∧ T ≠ T2 ∧
  lU.length ≤ 100000 ∧ lO.length ≤ 100000 ∧ A.length ≤ 50 ∧ (∀ y ∈ A, y.length ≤ 20) ∧ n ≤ 1000 ∧ (∃ r3, parse lU.length lU = some (1, numL n, r3)) ∧
  (d ≠ k → ∀ H' p, Same H H' → H p = none → H' p = some (.tup [.str "step", .int (d : Int)]) → Q (.ref p) H') ∧
  (d = k → ∀ H', StepTape CA CT H' t la aU aO u n lU lO sU sO A k → Fr T T2 [t, aU, aO] H H' → Q .non H')
section
variable {P : Program} {w : World} {K : PySem.W.Frag} {mg : Str → Option Value} {base : Heap} {T1 T2 CA CT CS fSE CW : Addr}
theorem ok_lstep {f fB fM fW : Addr} {fd fdB fdM fdW : FuncData} (F : Fun K "_law_step" "_law_step" sLStep f fd) (T : TxtC K mg CA CT) (L : StepF K mg CS fSE CW)
    (GB : FnOk P w K mg base (L2.CX P w) 4 fB fdB ["self", "texts"] (spBg T1 T2 CA CT CS)) (bB : Binds K fdB ["self", "texts"] []) (mB : Meth K CT "begin" fB)
    (GM : FnOk P w K mg base (L2.CX P w) 4 fM fdM ["self"] (spMk CA CT CS)) (bM : Binds K fdM ["self"] []) (mM : Meth K CT "mark" fM)
    (GW : FnOk P w K mg base (L2.CX P w) 4 fW fdW ["self"] (spSw CA CT CS)) (bW : Binds K fdW ["self"] []) (mW : Meth K CT "switch" fW) :
    FnOk P w K mg base CX0 5 f fd ["tape", "word", "texts"] (spStep T1 T2 CA CT) := by
  refine F.ok scLStep (fun vs H Q E h => ?_) (fun cdv A outer s H vs Q E hr h => ?_)
  · obtain ⟨t, la, aU, aO, x, u, d, sU, sO, n, k, lU, lO, B, rfl, _⟩ := h
    rfl
  · obtain ⟨t, la, aU, aO, x, u, d, sU, sO, n, k, lU, lO, B, rfl, hk, ta, hx, hT, hT2, neT, bU, bO, lB, sB, hn, pr, q1, q2⟩ := h
    refine ⟨_, (pss_cons (ps_try_as (i := 3) rfl rfl scLStep.nd rfl rfl ⟨rfl, by decide, .inl L.low.gC⟩ takes0
        (fun W pn xe tk _ => pss_one (ps_if (pt_cmpR op_eq (pv 1) pe_str (nomark _)) (pss_one (ps_expr (K85E.pe_methE (pv 0) T.clT mB GB hr bB (fun σ => passAt tk σ) (pa_cons (pv 2) pa_nil))))
          (pss_one (ps_if (pt_cmpR op_eq (pv 1) pe_str (nomark _)) (pss_one (ps_expr (K85E.pe_methE0 (pv 0) T.clT mM GM hr bM (fun σ => passAt tk σ)))) (pss_one (ps_expr (K85E.pe_methE0 (pv 0) T.clT mW GW hr bW (fun σ => passAt tk σ))))))))
        (fun a oe cls d pn hz hf => pss_one (ps_ret (pe_ifExp (pt_val (pe_callB (K85E.call_isD L.ex hz hf) (by rfl) L.mi (by decide +kernel) (pa_cons (pv 3) (pa_cons (pe_glob (v := V.ref CW) (by rfl) L.gW rfl) pa_nil))))
          (pe_tup (pa_cons pe_str (pa_cons (pe_stepOf L.low hz hf (pv 3)) pa_nil))) pe_non))))
      (pss_one (ps_ret pe_non))), ?_⟩
    have := zl
    obtain ⟨dx, h1⟩ := id ta.tp
    have nBM : ¬ (("mark" : Str) = "begin") := by decide +kernel
    have nSB : ¬ (("switch" : Str) = "begin") := by decide +kernel
    have nSM : ¬ (("switch" : Str) = "mark") := by decide +kernel
    have m1 : ∀ S : List Addr, (∀ x ∈ S, x ∈ [t, aU, aO]) → T1 ∉ S ∧ T2 ∉ S := fun S hS => by
      have g1 := ta.tabs hT
      have g2 := ta.tabs hT2
      have sub : ∀ x ∈ [t, aU, aO], x ∈ [t, la, aU, aO] := by simp
      exact ⟨fun z => g1 (sub _ (hS _ z)), fun z => g2 (sub _ (hS _ z))⟩
    match k, hk with
    | 0, _ =>
      refine ⟨_, rfl, rfl, _, rfl, ite2 (fun _ => ?_) (fun z => absurd (decide_eq_true rfl) z)⟩
      refine ⟨_, rfl, t, dx, _, rfl, h1, no_meth _ _ _, _, rfl, ?_⟩
      refine ⟨t, la, aU, aO, x, u, d, sU, sO, n, lU, lO, B, rfl, ta, hx, hT, hT2, neT, bU, bO, lB, sB, hn, pr, fun NE => fun e he => ⟨true, L.low.te, fun _ a0 _ => ?_, fun q => Bool.noConfusion q⟩, fun ed H' tb fr => ?_⟩
      · refine ⟨_, rfl, _, _, true, e, _, rfl, rfl, rfl, fun u h => h, L.kit, upd_same, true, rfl, ?_⟩
        refine iteT ⟨_, rfl, rfl, rfl, e, _, rfl, upd_same, by show 2 ≤ sizeLine; omega, fun p np => ?_⟩
        have pe : e ≠ p := ne_of_none upd_same np
        have np0 : H p = none := by
          rw [upd_ne (Ne.symm pe)] at np
          exact np
        exact q1 NE _ p (same_upd np0 (same_new he)) np0 upd_same
      · exact q2 ed H' tb (fr.mono (by simp))
    | 1, _ =>
      refine ⟨_, rfl, rfl, _, rfl, ite2 (fun z => absurd (V.str.inj (of_decide_eq_true z)) nBM) (fun _ => ?_)⟩
      refine ⟨_, rfl, rfl, _, rfl, ite2 (fun _ => ?_) (fun z => absurd (decide_eq_true rfl) z)⟩
      refine ⟨_, rfl, t, dx, _, rfl, h1, no_meth _ _ _, ?_⟩
      dsimp only [tNil]
      refine ⟨t, la, aU, aO, u, d, sU, sO, lU, lO, rfl, ta, bO, fun NE => fun e he => ⟨true, L.low.te, fun _ a0 _ => ?_, fun q => Bool.noConfusion q⟩, fun ed H' tb ch => ?_⟩
      · refine ⟨_, rfl, _, _, true, e, _, rfl, rfl, rfl, fun u h => h, L.kit, upd_same, true, rfl, ?_⟩
        refine iteT ⟨_, rfl, rfl, rfl, e, _, rfl, upd_same, by show 2 ≤ sizeLine; omega, fun p np => ?_⟩
        have pe : e ≠ p := ne_of_none upd_same np
        have np0 : H p = none := by
          rw [upd_ne (Ne.symm pe)] at np
          exact np
        exact q1 NE _ p (same_upd np0 (same_new he)) np0 upd_same
      · have m := m1 [t, aO] (by simp)
        exact q2 ed H' tb ((ch.fr hT hT2 neT m.1 m.2).mono (by simp))
    | 2, _ =>
      refine ⟨_, rfl, rfl, _, rfl, ite2 (fun z => absurd (V.str.inj (of_decide_eq_true z)) nSB) (fun _ => ?_)⟩
      refine ⟨_, rfl, rfl, _, rfl, ite2 (fun z => absurd (V.str.inj (of_decide_eq_true z)) nSM) (fun _ => ?_)⟩
      refine ⟨_, rfl, t, dx, _, rfl, h1, no_meth _ _ _, ?_⟩
      dsimp only [tNil]
      refine ⟨t, la, aU, aO, u, d, sU, sO, lU, lO, rfl, ta, bU, bO, fun NE => fun e he => ⟨true, L.low.te, fun _ a0 _ => ?_, fun q => Bool.noConfusion q⟩, fun ed H' tb ch => ?_⟩
      · refine ⟨_, rfl, _, _, true, e, _, rfl, rfl, rfl, fun u h => h, L.kit, upd_same, true, rfl, ?_⟩
        refine iteT ⟨_, rfl, rfl, rfl, e, _, rfl, upd_same, by show 2 ≤ sizeLine; omega, fun p np => ?_⟩
        have pe : e ≠ p := ne_of_none upd_same np
        have np0 : H p = none := by
          rw [upd_ne (Ne.symm pe)] at np
          exact np
        exact q1 NE _ p (same_upd np0 (same_new he)) np0 upd_same
      · have m := m1 [t, aU, aO] (by simp)
        exact q2 ed H' tb (ch.fr hT hT2 neT m.1 m.2)
end
end K85
namespace K85
open PySem PySem.Spec PyProof.Rows L2 QR TL
open GxR (TabB TabG Tabbed GenS)
abbrev sLDo : Stmt := topS 31
abbrev nDo : List Str := ["m", "word", "texts", "step", "other", "number", "text", "area"]
theorem scLDo : FnScope nDo ["m", "word", "texts"] (defScope sLDo) := ⟨rfl, rfl, rfl, by decide +kernel, rfl, by decide +kernel, by decide +kernel⟩
theorem sel_set_o {u : Nat} (h : u = 0 ∨ u = 1) {α : Type} (x y z : α) : (sel u x y).set (1 - u) z = sel u x z := by
  rcases h with rfl | rfl <;> rfl
theorem sel_set_u {u : Nat} (h : u = 0 ∨ u = 1) {α : Type} (x y z : α) : (sel u x y).set u z = sel u z y := by
  rcases h with rfl | rfl <;> rfl
theorem ixN_u {u : Nat} (h : u = 0 ∨ u = 1) : ixN 2 (u : Int) = some u := by
  rcases h with rfl | rfl <;> rfl
theorem ixN_o {u : Nat} (h : u = 0 ∨ u = 1) : ixN 2 ((1 - u : Nat) : Int) = some (1 - u) := by
  rcases h with rfl | rfl <;> rfl
/-- the plain model in the heap -/
structure ModAt (H : Hp) (m A S rU rO : Addr) (u d : Nat) (RU RO : Rw) (sU sO : Nat) : Prop where
  hm : H m = some (.lst [.ref A, .ref S, .int (u : Int), .int (d : Int)])
  hA : H A = some (.lst (sel u (.ref rU) (.ref rO)))
  hS : H S = some (.lst (sel u (.int (sU : Int)) (.int (sO : Int))))
  hU : ∃ as : List Addr, H rU = some (.lst (as.map V.ref)) ∧ Tups H as RU
  hO : ∃ as : List Addr, H rO = some (.lst (as.map V.ref)) ∧ Tups H as RO
  nd : [m, A, S, rU, rO].Nodup
  u2 : u = 0 ∨ u = 1
theorem nd5 {m A S rU rO : Addr} (h : [m, A, S, rU, rO].Nodup) : (m ≠ A ∧ m ≠ S ∧ m ≠ rU ∧ m ≠ rO) ∧ (A ≠ S ∧ A ≠ rU ∧ A ≠ rO) ∧ (S ≠ rU ∧ S ≠ rO) ∧ rU ≠ rO := by
  simp only [List.nodup_cons, List.mem_cons, List.not_mem_nil, or_false, not_or, List.nodup_nil, and_true, not_false_eq_true] at h
  exact h
theorem nd5' {m A S rU rO : Addr} (h : (m ≠ A ∧ m ≠ S ∧ m ≠ rU ∧ m ≠ rO) ∧ (A ≠ S ∧ A ≠ rU ∧ A ≠ rO) ∧ (S ≠ rU ∧ S ≠ rO) ∧ rU ≠ rO) : [m, A, S, rU, rO].Nodup := by
  simp only [List.nodup_cons, List.mem_cons, List.not_mem_nil, or_false, not_or, List.nodup_nil, and_true, not_false_eq_true]
  exact h
/-- outside S all stands -/
def Ou (S : List Addr) (H H' : Hp) : Prop := ∀ b o, b ∉ S → H b = some o → H' b = some o
theorem Ou.refl {S : List Addr} {H : Hp} : Ou S H H := fun _ _ _ e => e
theorem Ou.trans {S : List Addr} {H H1 H2 : Hp} (a : Ou S H H1) (b : Ou S H1 H2) : Ou S H H2 := fun x o n e => b x o n (a x o n e)
theorem Ou.same {S : List Addr} {H H1 : Hp} (a : Same H H1) : Ou S H H1 := fun x o _ e => a x o e
theorem Ou.set {S : List Addr} {H : Hp} {a : Addr} {o : HO} (h : a ∈ S) : Ou S H (upd H a o) := fun x o' n e => by
  rw [upd_ne (fun z => n (by rw [z]; exact h))]
  exact e
theorem Ou.updNew {S : List Addr} {H H1 : Hp} {a : Addr} {o : HO} (k : Ou S H H1) (n : H a = none) : Ou S H (upd H1 a o) := fun x o' nx e => by
  rw [upd_ne (ne_of_none e n)]
  exact k x o' nx e
theorem same_trans {H H1 H2 : Hp} (a : Same H H1) (b : Same H1 H2) : Same H H2 := fun x o e => b x o (a x o e)
theorem ModAt.same {H H' : Hp} {m A S rU rO : Addr} {u d : Nat} {RU RO : Rw} {sU sO : Nat} (h : ModAt H m A S rU rO u d RU RO sU sO) (s : Same H H') : ModAt H' m A S rU rO u d RU RO sU sO := by
  obtain ⟨h1, h2, h3, ⟨a1, h4, h5⟩, ⟨a2, h6, h7⟩, nd, u2⟩ := h
  exact ⟨s _ _ h1, s _ _ h2, s _ _ h3, ⟨a1, s _ _ h4, h5.same s⟩, ⟨a2, s _ _ h6, h7.same s⟩, nd, u2⟩
/-- tuples stand through a list's change -/
theorem Tups.setL {H : Hp} {l : Addr} {xs ys : List V} (hl : H l = some (.lst xs)) {as : List Addr} {rs : List (Nat × List Nat)} (t : Tups H as rs) : Tups (L2.upd H l (.lst ys)) as rs := t.upd hl
/-- the model's parts change, one by one -/
theorem ModAt.setM {H : Hp} {m A S rU rO : Addr} {u d : Nat} {RU RO : Rw} {sU sO : Nat} (h : ModAt H m A S rU rO u d RU RO sU sO) {d' : Nat} : ModAt (upd H m (.lst [.ref A, .ref S, .int (u : Int), .int (d' : Int)])) m A S rU rO u d' RU RO sU sO := by
  obtain ⟨h1, h2, h3, ⟨a1, h4, h5⟩, ⟨a2, h6, h7⟩, nd, u2⟩ := h
  obtain ⟨⟨n1, n2, n3, n4⟩, _⟩ := nd5 nd
  exact ⟨upd_same, (upd_ne (Ne.symm n1)).trans h2, (upd_ne (Ne.symm n2)).trans h3, ⟨a1, (upd_ne (Ne.symm n3)).trans h4, h5.upd h1⟩, ⟨a2, (upd_ne (Ne.symm n4)).trans h6, h7.upd h1⟩, nd, u2⟩
theorem ModAt.setS {H : Hp} {m A S rU rO : Addr} {u d : Nat} {RU RO : Rw} {sU sO : Nat} (h : ModAt H m A S rU rO u d RU RO sU sO) {sU' sO' : Nat} : ModAt (upd H S (.lst (sel u (.int (sU' : Int)) (.int (sO' : Int))))) m A S rU rO u d RU RO sU' sO' := by
  obtain ⟨h1, h2, h3, ⟨a1, h4, h5⟩, ⟨a2, h6, h7⟩, nd, u2⟩ := h
  obtain ⟨⟨n1, n2, n3, n4⟩, ⟨n5, n6, n7⟩, ⟨n8, n9⟩, _⟩ := nd5 nd
  exact ⟨(upd_ne n2).trans h1, (upd_ne n5).trans h2, upd_same, ⟨a1, (upd_ne (Ne.symm n8)).trans h4, h5.upd h3⟩, ⟨a2, (upd_ne (Ne.symm n9)).trans h6, h7.upd h3⟩, nd, u2⟩
/-- another list of safe numbers -/
theorem ModAt.newS {H : Hp} {m A S rU rO : Addr} {u d : Nat} {RU RO : Rw} {sU sO : Nat} (h : ModAt H m A S rU rO u d RU RO sU sO) {S' : Addr} {sU' sO' : Nat} (hS : H S' = some (.lst (sel u (.int (sU' : Int)) (.int (sO' : Int))))) (n : S' ∉ [m, A, rU, rO]) :
    ModAt (upd H m (.lst [.ref A, .ref S', .int (u : Int), .int (d : Int)])) m A S' rU rO u d RU RO sU' sO' := by
  obtain ⟨h1, h2, h3, ⟨a1, h4, h5⟩, ⟨a2, h6, h7⟩, nd, u2⟩ := h
  obtain ⟨⟨n1, n2, n3, n4⟩, ⟨n5, n6, n7⟩, ⟨n8, n9⟩, n10⟩ := nd5 nd
  simp only [List.mem_cons, List.not_mem_nil, or_false, not_or] at n
  obtain ⟨k1, k2, k3, k4⟩ := n
  exact ⟨upd_same, (upd_ne (Ne.symm n1)).trans h2, (upd_ne k1).trans hS, ⟨a1, (upd_ne (Ne.symm n3)).trans h4, h5.upd h1⟩, ⟨a2, (upd_ne (Ne.symm n4)).trans h6, h7.upd h1⟩, nd5' ⟨⟨n1, Ne.symm k1, n3, n4⟩, ⟨Ne.symm k2, n6, n7⟩, ⟨k3, k4⟩, n10⟩, u2⟩
/-- another area that is not in use -/
theorem ModAt.newO {H : Hp} {m A S rU rO : Addr} {u d : Nat} {RU RO : Rw} {sU sO : Nat} (h : ModAt H m A S rU rO u d RU RO sU sO) {r : Addr} {R : Rw} {as : List Addr} (hr : H r = some (.lst (as.map V.ref))) (tu : Tups H as R) (n : r ∉ [m, A, S, rU]) :
    ModAt (upd H A (.lst (sel u (.ref rU) (.ref r)))) m A S rU r u d RU R sU sO := by
  obtain ⟨h1, h2, h3, ⟨a1, h4, h5⟩, ⟨a2, h6, h7⟩, nd, u2⟩ := h
  obtain ⟨⟨n1, n2, n3, n4⟩, ⟨n5, n6, n7⟩, ⟨n8, n9⟩, n10⟩ := nd5 nd
  simp only [List.mem_cons, List.not_mem_nil, or_false, not_or] at n
  obtain ⟨k1, k2, k3, k4⟩ := n
  exact ⟨(upd_ne n1).trans h1, upd_same, (upd_ne (Ne.symm n5)).trans h3, ⟨a1, (upd_ne (Ne.symm n6)).trans h4, h5.upd h2⟩, ⟨as, (upd_ne k2).trans hr, tu.upd h2⟩, nd5' ⟨⟨n1, n2, n3, Ne.symm k1⟩, ⟨n5, n6, Ne.symm k2⟩, ⟨n8, Ne.symm k3⟩, Ne.symm k4⟩, u2⟩
theorem ModAt.newU {H : Hp} {m A S rU rO : Addr} {u d : Nat} {RU RO : Rw} {sU sO : Nat} (h : ModAt H m A S rU rO u d RU RO sU sO) {r : Addr} {R : Rw} {as : List Addr} (hr : H r = some (.lst (as.map V.ref))) (tu : Tups H as R) (n : r ∉ [m, A, S, rO]) :
    ModAt (upd H A (.lst (sel u (.ref r) (.ref rO)))) m A S r rO u d R RO sU sO := by
  obtain ⟨h1, h2, h3, ⟨a1, h4, h5⟩, ⟨a2, h6, h7⟩, nd, u2⟩ := h
  obtain ⟨⟨n1, n2, n3, n4⟩, ⟨n5, n6, n7⟩, ⟨n8, n9⟩, n10⟩ := nd5 nd
  simp only [List.mem_cons, List.not_mem_nil, or_false, not_or] at n
  obtain ⟨k1, k2, k3, k4⟩ := n
  exact ⟨(upd_ne n1).trans h1, upd_same, (upd_ne (Ne.symm n5)).trans h3, ⟨as, (upd_ne k2).trans hr, tu.upd h2⟩, ⟨a2, (upd_ne (Ne.symm n7)).trans h6, h7.upd h2⟩, nd5' ⟨⟨n1, n2, Ne.symm k1, n4⟩, ⟨n5, Ne.symm k2, n7⟩, ⟨Ne.symm k3, n9⟩, k4⟩, u2⟩
/-- the other area grows -/
theorem ModAt.appO {H : Hp} {m A S rU rO : Addr} {u d : Nat} {RU RO : Rw} {sU sO : Nat} (h : ModAt H m A S rU rO u d RU RO sU sO) {r : Nat × List Nat} {b : Addr} {as : List Addr} (ha : H rO = some (.lst (as.map V.ref))) (ta : Tups H as RO) (hb : H b = some (rowH r)) :
    ModAt (upd H rO (.lst (as.map V.ref ++ [.ref b]))) m A S rU rO u d RU (RO ++ [r]) sU sO := by
  obtain ⟨h1, h2, h3, ⟨a1, h4, h5⟩, ⟨a2, h6, h7⟩, nd, u2⟩ := h
  obtain ⟨⟨n1, n2, n3, n4⟩, ⟨n5, n6, n7⟩, ⟨n8, n9⟩, n10⟩ := nd5 nd
  exact ⟨(upd_ne n4).trans h1, (upd_ne n7).trans h2, (upd_ne n9).trans h3, ⟨a1, (upd_ne n10).trans h4, h5.upd h6⟩, ⟨as ++ [b], by rw [upd_same, List.map_append]; rfl, Tups.upd ha (Tups.snoc hb ta)⟩, nd, u2⟩
theorem ModAt.appU {H : Hp} {m A S rU rO : Addr} {u d : Nat} {RU RO : Rw} {sU sO : Nat} (h : ModAt H m A S rU rO u d RU RO sU sO) {r : Nat × List Nat} {b : Addr} {as : List Addr} (ha : H rU = some (.lst (as.map V.ref))) (ta : Tups H as RU) (hb : H b = some (rowH r)) :
    ModAt (upd H rU (.lst (as.map V.ref ++ [.ref b]))) m A S rU rO u d (RU ++ [r]) RO sU sO := by
  obtain ⟨h1, h2, h3, ⟨a1, h4, h5⟩, ⟨a2, h6, h7⟩, nd, u2⟩ := h
  obtain ⟨⟨n1, n2, n3, n4⟩, ⟨n5, n6, n7⟩, ⟨n8, n9⟩, n10⟩ := nd5 nd
  exact ⟨(upd_ne n3).trans h1, (upd_ne n6).trans h2, (upd_ne n8).trans h3, ⟨as ++ [b], by rw [upd_same, List.map_append]; rfl, Tups.upd ha (Tups.snoc hb ta)⟩, ⟨a2, (upd_ne (Ne.symm n10)).trans h6, h7.upd h4⟩, nd, u2⟩
/-- the areas change their parts -/
theorem ModAt.swap {H : Hp} {m A S rU rO : Addr} {u d : Nat} {RU RO : Rw} {sU sO : Nat} (h : ModAt H m A S rU rO u d RU RO sU sO) : ModAt (upd H m (.lst [.ref A, .ref S, .int ((1 - u : Nat) : Int), .int (d : Int)])) m A S rO rU (1 - u) d RO RU sO sU := by
  obtain ⟨h1, h2, h3, ⟨a1, h4, h5⟩, ⟨a2, h6, h7⟩, nd, u2⟩ := h
  obtain ⟨⟨n1, n2, n3, n4⟩, ⟨n5, n6, n7⟩, ⟨n8, n9⟩, n10⟩ := nd5 nd
  exact ⟨upd_same, by rw [sel_sw u2]; exact (upd_ne (Ne.symm n1)).trans h2, by rw [sel_sw u2]; exact (upd_ne (Ne.symm n2)).trans h3, ⟨a2, (upd_ne (Ne.symm n4)).trans h6, h7.upd h1⟩, ⟨a1, (upd_ne (Ne.symm n3)).trans h4, h5.upd h1⟩,
    nd5' ⟨⟨n1, n2, n4, n3⟩, ⟨n5, n7, n6⟩, ⟨n9, n8⟩, Ne.symm n10⟩, by omega⟩
theorem same_none {H H' : Hp} {a : Addr} (s : Same H H') (n : H' a = none) : H a = none := by
  cases e : H a with
  | none => rfl
  | some o =>
    rw [s a o e] at n
    cases n
/-- the lengths of both areas, written -/
def tLens (i : Nat) : TE := tCB (fun xs H Q => ∃ z, xs = [V.str z] ∧ z.length ≤ sizeLine ∧ Q (V.int (z.length : Int)) H) (tCons (tCall spLRows [] E0 (tCons (tVar i) tNil)) tNil)
theorem lens_tLc {K : PySem.W.Frag} {te0 : TE} {i : Nat} {vs : List Nat} {σ : L2.St} {H : Hp} {m A S rU rO : Addr} {u d : Nat} {RU RO : Rw} {sU sO : Nat} {Q : VK} (mo : ModAt H m A S rU rO u d RU RO sU sO) (oU : okR RU) (oO : okR RO) (lU : RU.length ≤ 100) (lO : RO.length ≤ 100)
    (h0 : ∀ Q : VK, Q (.ref A) H → te0 σ H Q) (hw : ∀ x, wipe ((wipe σ vs).set i (some x)) vs = wipe σ vs) (hs : ∀ x, ((wipe σ vs).set i (some x))[i]? = some (some x))
    (q : ∀ D H', H D = none → Same H H' → H' D = some (.lst (sel u (.int ((flatR RU).length : Int)) (.int ((flatR RO).length : Int)))) → Q (.ref D) H') : tLc (iList K te0) (gName i) tYes (tLens i) vs σ H Q := by
  refine h0 _ ⟨A, rfl, ⟨_, SqL.of mo.hA⟩, fun D nD => ?_⟩
  have u2 := mo.u2
  obtain ⟨aU, gU, tU⟩ := mo.hU
  obtain ⟨aO, gO, tO⟩ := mo.hO
  refine lc_list (xs := sel u (V.ref rU) (V.ref rO)) (fun j H' => Same H H' ∧ H' D = some (.lst ((sel u (V.int ((flatR RU).length : Int)) (V.int ((flatR RO).length : Int))).take j))) ⟨same_new nD, upd_same⟩ ?_ ?_ ?_
  · rintro j H' _ ⟨s1, _⟩
    exact SqL.of (s1 _ _ mo.hA)
  · rintro j v H' hv ⟨s1, hD⟩
    have lj : j < 2 := by
      have := (List.getElem?_eq_some_iff.mp hv).1
      rw [sel_len] at this
      exact this
    obtain ⟨r, as, R, rfl, g1, g2, g3, g4, gx⟩ : ∃ (r : Addr) (as : List Addr) (R : Rw), v = .ref r ∧ H r = some (.lst (as.map V.ref)) ∧ Tups H as R ∧ okR R ∧ R.length ≤ 100 ∧ (sel u (V.int ((flatR RU).length : Int)) (V.int ((flatR RO).length : Int)))[j]? = some (.int ((flatR R).length : Int)) := by
      by_cases ej : j = u
      · subst ej
        rw [sel_u u2] at hv
        exact ⟨rU, aU, RU, (Option.some.inj hv).symm, gU, tU, oU, lU, sel_u u2 _ _⟩
      · have ej2 : j = 1 - u := by omega
        subst ej2
        rw [sel_o u2] at hv
        exact ⟨rO, aO, RO, (Option.some.inj hv).symm, gO, tO, oO, lO, sel_o u2 _ _⟩
    refine ⟨hw _, ?_⟩
    refine ⟨_, hs _, ?_⟩
    dsimp only [tNil]
    refine ⟨r, as, R, rfl, s1 _ _ g1, g2.same s1, g3, g4, fun H3 s3 => ?_⟩
    have hD3 := s3 _ _ hD
    have lf := flat_len R g3
    have z2 := zl
    refine ⟨Sg (flatR R), rfl, by rw [len_tl]; show (flatR R).length ≤ _; omega, _, hD3, by rw [List.length_take, sel_len]; omega, same_upd nD (same_trans s1 s3), ?_⟩
    rw [upd_same, List.take_add_one, gx, len_tl]
    rfl
  · rintro H' ⟨s1, hD⟩
    rw [sel_len, List.take_of_length_le (by rw [sel_len]; exact Nat.le_refl 2)] at hD
    exact q D H' nD s1 hD
/-- the model behind the k-th step -/
def StepMod (H' : Hp) (m A S rU rO S' rU' rO' : Addr) (u n : Nat) (RU RO : Rw) (sU sO : Nat) (B : List (List Nat)) : Nat → Prop
  | 0 => ModAt H' m A S' rU' rO' u 1 RU ((1, numL (n + 1)) :: entR B) sU 0
  | 1 => ModAt H' m A S' rU' rO' u 2 RU (RO ++ [(3, [])]) sU sO
  | _ => ModAt H' m A S' rU' rO' (1 - u) 0 RO [] (flatR RO).length 0
def spDo : Sp := fun vs H Q _ => ∃ (m A S rU rO x : Addr) (u d sU sO n k : Nat) (RU RO : Rw) (B : List (List Nat)), vs = [.ref m, .str (wordS k), .ref x] ∧ k < 3 ∧ ModAt H m A S rU rO u d RU RO sU sO ∧ H x = some (.lst (strsV B)) ∧ x ∉ [m, A, S, rU, rO] ∧
  HeadIs RU n ∧ RU ≠ [] ∧ n ≤ 1000 ∧ okR RU ∧ okR RO ∧ RU.length ≤ 100 ∧ RO.length ≤ 100 ∧ B.length ≤ 50 ∧
  (d ≠ k → ∀ H' p, Same H H' → H p = none → H' p = some (.tup [.str "step", .int (d : Int)]) → Q (.ref p) H') ∧
  (d = k → ∀ H' S' rU' rO', StepMod H' m A S rU rO S' rU' rO' u n RU RO sU sO B k → Ou [m, A, S, rU, rO] H H' → (∀ y ∈ [S', rU', rO'], y ∈ [m, A, S, rU, rO] ∨ H y = none) → Q .non H')
section
variable {P : Program} {w : World} {K : PySem.W.Frag} {mg : Str → Option Value} {base : Heap}
theorem ok_ldo {f fR : Addr} {fd fdR : FuncData} (F : Fun K "_law_do" "_law_do" sLDo f fd)
    (GR : FnOk P w K mg base CX0 2 fR fdR ["area"] spLRows) (bR : Binds K fdR ["area"] []) (gR : mg "_law_rows" = some (.ref fR)) (kR : PySem.W.keepIn K (.ref fR) = true) (ml : mg "len" = none) (ms : mg "str" = none) (mi : mg "int" = none) :
    FnOk P w K mg base CX0 3 f fd ["m", "word", "texts"] spDo := by
  refine F.ok scLDo (fun vs H Q E h => ?_) (fun cdv A outer s H vs Q E hr h => ?_)
  · obtain ⟨m, A, S, rU, rO, x, u, d, sU, sO, n, k, RU, RO, B, rfl, _⟩ := h
    rfl
  · obtain ⟨m, A', S, rU, rO, x, u, d, sU, sO, n, k, RU, RO, B, rfl, hk, mo, hx, xn, hh, neU, hn, oU, oO, lU, lO, lB, q1, q2⟩ := h
    refine ⟨_, (pss_cons (ps_set (i := 3) scLDo.nd rfl (.inl rfl) (pe_dget (hu_of hr) (pe_disp (pps_cons pe_str pe_int (pps_cons pe_str pe_int (pps_cons pe_str pe_int pps_nil))) (by rfl) (by rfl) (fun z => by cases z) (by decide)) (pv 1) (fun _ _ => rfl)))
      (pss_cons (ps_if (pt_cmpR op_ne (pe_ix ix_list (pv 0) pe_int (fun _ _ => rfl)) (pv 3) (nomark _)) (pss_one (ps_ret (pe_tup (pa_cons pe_str (pa_cons (pe_ix ix_list (pv 0) pe_int (fun _ _ => rfl)) pa_nil))))) pss_nil)
      (pss_cons (ps_set (i := 4) scLDo.nd rfl (.inl rfl) (pe_op op_sub pe_int (pe_ix ix_list (pv 0) pe_int (fun _ _ => rfl))))
      (pss_cons (ps_if (pt_cmpR op_eq (pv 1) pe_str (nomark _))
        (pss_cons (ps_set (i := 5) scLDo.nd rfl (.inl rfl) (pe_op op_add (pe_callTy call_int_str (by rfl) mi (by decide +kernel) (pa_cons (pe_ix ix_tup (pe_ix ix_list (pe_ix ix_list (pe_ix ix_list (pv 0) pe_int (fun _ _ => rfl)) (pe_ix ix_list (pv 0) pe_int (fun _ _ => rfl)) (fun _ _ => rfl)) pe_int (fun _ _ => rfl)) pe_int (fun _ _ => rfl)) pa_nil)) pe_int))
      (pss_cons (ps_asg (pe_op op_cat (pe_lst (pa_cons (pe_tup (pa_cons pe_int (pa_cons (pe_callTy call_str_int (by rfl) ms (by decide +kernel) (pa_cons (pv 5) pa_nil)) pa_nil))) pa_nil))
            (pe_lc (own := [("text", 6)]) (g := gName 6) (tt := tYes) (te := tTup (tCons (tC (.int 2)) (tCons (tVar 6) tNil))) rfl scLDo.nd (pi_list (pv 2)) (blkOk_by (N := nDo) (sc := defScope sLDo) (by decide +kernel)) (fun _ _ _ _ _ => by exact pg_name (i := 6) scLDo.nd rfl (.inl rfl)) (fun _ _ _ _ _ => pts_nil) (fun _ _ _ _ _ => by exact pe_tup (pa_cons pe_int (pa_cons (pv 6) pa_nil)))))
            (pg_sub (pe_ix ix_list (pv 0) pe_int (fun _ _ => rfl)) (pv 4) set_list))
      (pss_one (ps_asg pe_int (pg_sub (pe_ix ix_list (pv 0) pe_int (fun _ _ => rfl)) (pv 4) set_list)))))
        (pss_one (ps_if (pt_cmpR op_eq (pv 1) pe_str (nomark _))
          (pss_one (ps_expr (pe_bm PySem.F.plainAttrs_list PySem.F.slot_list_append PySem.F.type_list_append mt_append (pe_ix ix_list (pe_ix ix_list (pv 0) pe_int (fun _ _ => rfl)) (pv 4) (fun _ _ => rfl)) (pa_cons (pe_tup (pa_cons pe_int (pa_cons pe_str pa_nil))) pa_nil))))
          (pss_cons (ps_asg (pe_lc (own := [("area", 7)]) (g := gName 7) (tt := tYes) (te := tLens 7) rfl scLDo.nd (pi_list (pe_ix ix_list (pv 0) pe_int (fun _ _ => rfl))) (blkOk_by (N := nDo) (sc := defScope sLDo) (by decide +kernel)) (fun _ _ _ _ _ => by exact pg_name (i := 7) scLDo.nd rfl (.inl rfl)) (fun _ _ _ _ _ => pts_nil)
                (fun _ _ _ _ _ => by exact pe_callB call_len_str (by rfl) ml PySem.boot_len (pa_cons (pe_call GR hr (by rfl) gR kR bR .nil pass0 (pa_cons (pv 7) pa_nil)) pa_nil))) (pg_sub (pv 0) pe_int set_list))
      (pss_cons (ps_asg (pe_lst pa_nil) (pg_sub (pe_ix ix_list (pv 0) pe_int (fun _ _ => rfl)) (pe_ix ix_list (pv 0) pe_int (fun _ _ => rfl)) set_list))
      (pss_cons (ps_asg pe_int (pg_sub (pe_ix ix_list (pv 0) pe_int (fun _ _ => rfl)) (pe_ix ix_list (pv 0) pe_int (fun _ _ => rfl)) set_list))
      (pss_one (ps_asg (pv 4) (pg_sub (pv 0) pe_int set_list)))))))))
      (pss_cons (ps_asg (pe_ifExp (pt_cmpR op_eq (pv 1) pe_str (nomark _)) pe_int (pe_op op_add (pv 3) pe_int)) (pg_sub (pv 0) pe_int set_list))
      (pss_one (ps_ret pe_non))))))), ?_⟩
    have z2 := zl
    have u2 := mo.u2
    refine fun p np => ⟨upd_same, [(Sum.inr "begin", .int 0), (Sum.inr "mark", .int 1), (Sum.inr "switch", .int 2)], rfl, by decide, ?_⟩
    rw [upd_upd]
    generalize hmk : (mergeK [] [(Sum.inr "begin", .int 0), (Sum.inr "mark", .int 1), (Sum.inr "switch", .int 2)] : List (Key × V)) = kvs
    have sP : Same H (upd H p (.dK kvs)) := same_new np
    have hk9 : some (V.int (k : Int)) = valV kvs (Sum.inr (wordS k)) := by
      rw [← hmk]
      match k, hk with
      | 0, _ => decide +kernel
      | 1, _ => decide +kernel
      | 2, _ => decide +kernel
    have hp : upd H p (.dK kvs) p = some (.dK kvs) := upd_same
    have moC := mo.same sP
    have hxC := sP _ _ hx
    generalize upd H p (.dK kvs) = Hc at sP hp moC hxC
    refine ⟨_, rfl, p, .int (k : Int), rfl, .inl ⟨kvs, Sum.inr (wordS k), .inl hp, rfl, hk9⟩, ?_⟩
    refine ⟨_, rfl, m, _, 3, .int (d : Int), rfl, rfl, SqL.of moC.hm, atI_nat (j := 3) rfl, _, rfl, rfl, _, rfl, ite2 (fun hz => ?_) (fun hz => ?_)⟩
    · have ne : d ≠ k := fun e => absurd hz (by rw [e]; simp)
      refine ⟨_, rfl, m, _, 3, .int (d : Int), rfl, rfl, SqL.of moC.hm, atI_nat (j := 3) rfl, by show 2 ≤ sizeLine; omega, fun p2 np2 => ?_⟩
      exact q1 ne _ p2 (same_trans sP (same_new np2)) (same_none sP np2) upd_same
    have ed : d = k := by
      have : ¬ (d ≠ k) := fun ne => hz (by simp; omega)
      omega
    subst ed
    refine ⟨_, rfl, m, _, 2, .int (u : Int), rfl, rfl, SqL.of moC.hm, atI_nat (j := 2) rfl, _, _, rfl, rfl, ?_⟩
    have e0 : (1 : Int) - (u : Int) = ((1 - u : Nat) : Int) := by omega
    show gName 4 (V.int ((1 : Int) - (u : Int))) _ _ _
    rw [e0]
    obtain ⟨aU, gU, tU⟩ := id moC.hU
    obtain ⟨aO, gO, tO⟩ := id moC.hO
    have nBM : ¬ (("mark" : Str) = "begin") := by decide +kernel
    have nSB : ¬ (("switch" : Str) = "begin") := by decide +kernel
    have nSM : ¬ (("switch" : Str) = "mark") := by decide +kernel
    have nBS : ¬ (("begin" : Str) = "switch") := by decide +kernel
    have nMS : ¬ (("mark" : Str) = "switch") := by decide +kernel
    have lx : (sel u (V.ref rU) (V.ref rO)).length = 2 := sel_len _ _ _
    have lxS : (sel u (V.int (sU : Int)) (V.int (sO : Int))).length = 2 := sel_len _ _ _
    match d, hk with
    | 0, _ =>
      refine ⟨_, rfl, rfl, _, rfl, ite2 (fun _ => ?_) (fun z => absurd (decide_eq_true rfl) z)⟩
      cases hRU : RU with
      | nil => exact absurd hRU neU
      | cons r0 Z =>
        obtain rfl := head_get hh hRU
        obtain ⟨a0, at', ea, ga0⟩ : ∃ a0 at', aU = a0 :: at' ∧ Hc a0 = some (rowH (1, numL n)) := by
          rw [hRU] at tU
          cases tU with
          | cons g1 _ => exact ⟨_, _, rfl, g1⟩
        have l1 : (numL n).length ≤ 4 := num_le_of (n := n) (k := 3) (by omega)
        refine ⟨_, rfl, m, _, 0, .ref A', rfl, rfl, SqL.of moC.hm, atI_nat (j := 0) rfl, _, rfl, m, _, 2, .int (u : Int), rfl, rfl, SqL.of moC.hm, atI_nat (j := 2) rfl, A', _, (u : Int), .ref rU, rfl, rfl, SqL.of moC.hA, atI_nat (sel_u u2 _ _), rU, _, 0, .ref a0, rfl, rfl, SqL.of gU, atI_nat (j := 0) (by rw [ea]; rfl),
          a0, _, 1, .str (Sg (numL n)), rfl, rfl, SqT.of ga0, atI_nat (j := 1) rfl, Sg (numL n), (n : Int), rfl, int_num (by omega), by rw [len_tl]; show (numL n).length ≤ _; omega, _, _, rfl, rfl, ?_⟩
        have en : Str.ofString (toString ((n : Int) + 1)) = Sg (numL (n + 1)) := sg_num (n + 1)
        refine ⟨_, rfl, (n : Int) + 1, rfl, small_nat (n + 1) (by omega), by show 2 ≤ sizeLine; omega, fun b nb => ?_⟩
        rw [en]
        have hb : upd Hc b (.tup [.int 1, .str (Sg (numL (n + 1)))]) b = some (rowH (1, numL (n + 1))) := upd_same
        have s1 : Same Hc (upd Hc b (.tup [.int 1, .str (Sg (numL (n + 1)))])) := same_new nb
        generalize upd Hc b (.tup [.int 1, .str (Sg (numL (n + 1)))]) = H1 at hb s1
        refine ⟨by show 1 ≤ sizeLine; omega, fun L1 nL1 => ?_⟩
        have hL1 : upd H1 L1 (.lst [.ref b]) L1 = some (.lst [.ref b]) := upd_same
        have s2 : Same H1 (upd H1 L1 (.lst [.ref b])) := same_new nL1
        generalize upd H1 L1 (.lst [.ref b]) = H2 at hL1 s2
        have s02 := same_trans (same_trans sP s1) s2
        refine ⟨.ref x, rfl, x, rfl, ⟨_, SqL.of (s02 _ _ hx)⟩, fun D nD => ?_⟩
        refine lc_list (xs := strsV B) (fun i H' => ∃ ts : List Addr, Same H2 H' ∧ H' D = some (.lst (ts.map V.ref)) ∧ Tups H' ts (entR (B.take i))) ⟨[], same_new nD, upd_same, .nil⟩ ?_ ?_ ?_
        · rintro i H' _ ⟨ts, s3, _⟩
          exact SqL.of (s3 _ _ (s02 _ _ hx))
        · rintro i v H' hv ⟨ts, s3, hD, tt⟩
          obtain ⟨y, hy, rfl⟩ : ∃ y, B[i]? = some y ∧ v = .str (Sg y) := by
            unfold strsV at hv
            rw [List.getElem?_map] at hv
            obtain ⟨y, hy, e⟩ := Option.map_eq_some_iff.mp hv
            exact ⟨y, hy, e.symm⟩
          have li : i < B.length := (List.getElem?_eq_some_iff.mp hy).1
          refine ⟨rfl, ?_⟩
          refine ⟨_, rfl, by show 2 ≤ sizeLine; omega, fun g ng => ?_⟩
          have Dg : D ≠ g := ne_of_none hD ng
          have hD2 : upd H' g (.tup [.int 2, .str (Sg y)]) D = some (.lst (ts.map V.ref)) := (upd_ne Dg).trans hD
          have lts := tt.len
          unfold entR at lts
          rw [List.length_map, List.length_take] at lts
          refine ⟨_, hD2, by rw [List.length_map]; omega, ts ++ [g], same_upd nD (same_trans s3 (same_new ng)), by rw [upd_same, List.map_append]; rfl, ?_⟩
          have e9 : entR (B.take (i + 1)) = entR (B.take i) ++ [(2, y)] := by
            rw [List.take_add_one, hy]
            unfold entR
            rw [List.map_append]
            rfl
          rw [e9]
          have hg2 : upd H' g (.tup [.int 2, .str (Sg y)]) g = some (rowH (2, y)) := upd_same
          exact Tups.upd hD2 (Tups.snoc hg2 (tt.mono fun a r e => (upd_ne (ne_of_none e ng)).trans e))
        · rintro H3 ⟨ts, s3, hD, tt⟩
          have eB : B.take (strsV B).length = B := by
            unfold strsV
            rw [List.length_map, List.take_length]
          rw [eB] at tt
          have lts := tt.len
          unfold entR at lts
          rw [List.length_map] at lts
          have hL3 := s3 _ _ hL1
          refine ⟨L1, D, _, _, rfl, rfl, hL3, hD, by rw [List.length_map]; show 1 + _ ≤ _; omega, fun r nr => ?_⟩
          have s4 : Same H3 (upd H3 r (.lst ([.ref b] ++ ts.map V.ref))) := same_new nr
          have s04 := same_trans (same_trans s02 s3) s4
          have mo4 := moC.same (same_trans (same_trans (same_trans s1 s2) s3) s4)
          have hr4 : upd H3 r (.lst ([.ref b] ++ ts.map V.ref)) r = some (.lst ((b :: ts).map V.ref)) := upd_same
          have tu4 : Tups (upd H3 r (.lst ([.ref b] ++ ts.map V.ref))) (b :: ts) ((1, numL (n + 1)) :: entR B) := .cons ((same_trans (same_trans s2 s3) s4) _ _ hb) (tt.same s4)
          have nr0 : H r = none := same_none (same_trans s02 s3) nr
          generalize upd H3 r (.lst ([.ref b] ++ ts.map V.ref)) = H4 at s4 s04 mo4 hr4 tu4
          refine ⟨_, rfl, m, _, 0, .ref A', rfl, rfl, SqL.of mo4.hm, atI_nat (j := 0) rfl, _, rfl, A', _, _, 1 - u, rfl, rfl, mo4.hA, by rw [lx]; exact ixN_o u2, ?_⟩
          rw [sel_set_o u2]
          have rn : r ∉ [m, A', S, rU] := by
            obtain ⟨_, g1, _⟩ := mo.hU
            simp only [List.mem_cons, List.not_mem_nil, or_false, not_or]
            exact ⟨fun z => (by rw [z, mo.hm] at nr0; cases nr0), fun z => (by rw [z, mo.hA] at nr0; cases nr0), fun z => (by rw [z, mo.hS] at nr0; cases nr0), fun z => (by rw [z, g1] at nr0; cases nr0)⟩
          have mo5 := mo4.newO hr4 tu4 rn
          have o5 : Ou [m, A', S, rU, rO] H (upd H4 A' (.lst (sel u (.ref rU) (.ref r)))) := (Ou.same s04).trans (Ou.set (by simp))
          generalize upd H4 A' (.lst (sel u (.ref rU) (.ref r))) = H5 at mo5 o5
          refine ⟨_, rfl, m, _, 1, .ref S, rfl, rfl, SqL.of mo5.hm, atI_nat (j := 1) rfl, _, rfl, S, _, _, 1 - u, rfl, rfl, mo5.hS, by rw [lxS]; exact ixN_o u2, ?_⟩
          rw [sel_set_o u2]
          have mo6 : ModAt (upd H5 S (.lst (sel u (.int (sU : Int)) (.int 0)))) m A' S rU r u 0 RU ((1, numL (n + 1)) :: entR B) sU 0 := mo5.setS (sO' := 0)
          have o6 : Ou [m, A', S, rU, rO] H (upd H5 S (.lst (sel u (.int (sU : Int)) (.int 0)))) := o5.trans (Ou.set (by simp))
          generalize upd H5 S (.lst (sel u (.int (sU : Int)) (.int 0))) = H6 at mo6 o6
          refine ⟨_, rfl, rfl, _, rfl, ite2 (fun z => absurd (V.str.inj (of_decide_eq_true z)) nBS) (fun _ => ?_)⟩
          refine ⟨_, rfl, _, _, rfl, rfl, _, rfl, m, _, 3, 3, rfl, rfl, mo6.hm, rfl, ?_⟩
          exact q2 rfl _ S rU r (mo6.setM (d' := 1)) (o6.trans (Ou.set (by simp))) (by
            intro y hy
            simp only [List.mem_cons, List.not_mem_nil, or_false] at hy
            rcases hy with e | e | e
            · exact .inl (by simp [e])
            · exact .inl (by simp [e])
            · exact .inr (by rw [e]; exact nr0))
    | 1, _ =>
      refine ⟨_, rfl, rfl, _, rfl, ite2 (fun z => absurd (V.str.inj (of_decide_eq_true z)) nBM) (fun _ => ?_)⟩
      refine ⟨_, rfl, rfl, _, rfl, ite2 (fun _ => ?_) (fun z => absurd (decide_eq_true rfl) z)⟩
      refine ⟨_, rfl, m, _, 0, .ref A', rfl, rfl, SqL.of moC.hm, atI_nat (j := 0) rfl, _, rfl, A', _, ((1 - u : Nat) : Int), .ref rO, rfl, rfl, SqL.of moC.hA, atI_nat (sel_o u2 _ _), .inl ⟨rfl, _, SqL.of gO⟩, by show 2 ≤ sizeLine; omega, fun b nb => ?_⟩
      have es : Str.ofString "" = Sg [] := by decide +kernel
      rw [es]
      have hb : upd Hc b (.tup [.int 3, .str (Sg [])]) b = some (rowH (3, [])) := upd_same
      have s1 : Same Hc (upd Hc b (.tup [.int 3, .str (Sg [])])) := same_new nb
      generalize upd Hc b (.tup [.int 3, .str (Sg [])]) = H1 at hb s1
      have lO2 := tO.len
      refine ⟨rO, _, _, rfl, rfl, s1 _ _ gO, by rw [List.length_map]; omega, ?_⟩
      have mo1 := (moC.same s1).appO (s1 _ _ gO) (tO.same s1) hb
      have o1 : Ou [m, A', S, rU, rO] H (upd H1 rO (.lst (aO.map V.ref ++ [.ref b]))) := (Ou.same (same_trans sP s1)).trans (Ou.set (by simp))
      generalize upd H1 rO (.lst (aO.map V.ref ++ [.ref b])) = H2 at mo1 o1
      refine ⟨_, rfl, rfl, _, rfl, ite2 (fun z => absurd (V.str.inj (of_decide_eq_true z)) nMS) (fun _ => ?_)⟩
      refine ⟨_, rfl, _, _, rfl, rfl, _, rfl, m, _, 3, 3, rfl, rfl, mo1.hm, rfl, ?_⟩
      exact q2 rfl _ S rU rO (mo1.setM (d' := 2)) (o1.trans (Ou.set (by simp))) (by
        intro y hy
        simp only [List.mem_cons, List.not_mem_nil, or_false] at hy
        rcases hy with e | e | e <;> exact .inl (by simp [e]))
    | 2, _ =>
      refine ⟨_, rfl, rfl, _, rfl, ite2 (fun z => absurd (V.str.inj (of_decide_eq_true z)) nSB) (fun _ => ?_)⟩
      refine ⟨_, rfl, rfl, _, rfl, ite2 (fun z => absurd (V.str.inj (of_decide_eq_true z)) nSM) (fun _ => ?_)⟩
      unfold tSeq tAsg
      refine lens_tLc (i := 7) moC oU oO lU lO (fun Q h => ⟨_, rfl, m, _, 0, .ref A', rfl, rfl, SqL.of moC.hm, atI_nat (j := 0) rfl, h⟩) (fun _ => rfl) (fun _ => rfl) fun D H1 nD s1 hD => ?_
      have mo1 := moC.same s1
      have nD0 : H D = none := same_none sP nD
      have Dn : D ∉ [m, A', rU, rO] := by
        obtain ⟨_, g1, _⟩ := mo.hU
        obtain ⟨_, g2, _⟩ := mo.hO
        simp only [List.mem_cons, List.not_mem_nil, or_false, not_or]
        exact ⟨fun z => (by rw [z, mo.hm] at nD0; cases nD0), fun z => (by rw [z, mo.hA] at nD0; cases nD0), fun z => (by rw [z, g1] at nD0; cases nD0), fun z => (by rw [z, g2] at nD0; cases nD0)⟩
      refine ⟨_, rfl, m, _, 1, 1, rfl, rfl, mo1.hm, rfl, ?_⟩
      have mo2 : ModAt (upd H1 m (.lst [.ref A', .ref D, .int (u : Int), .int ((2 : Nat) : Int)])) m A' D rU rO u 2 RU RO (flatR RU).length (flatR RO).length := mo1.newS hD Dn
      have o2 : Ou [m, A', S, rU, rO] H (upd H1 m (.lst [.ref A', .ref D, .int (u : Int), .int ((2 : Nat) : Int)])) := (Ou.same (same_trans sP s1)).trans (Ou.set (by simp))
      have e12 : upd H1 m (.lst ([.ref A', .ref S, .int (u : Int), .int ((2 : Nat) : Int)].set 1 (.ref D))) = upd H1 m (.lst [.ref A', .ref D, .int (u : Int), .int ((2 : Nat) : Int)]) := rfl
      rw [e12]
      have hS2 : upd H1 m (.lst [.ref A', .ref D, .int (u : Int), .int ((2 : Nat) : Int)]) S = _ := (upd_ne (Ne.symm (nd5 mo.nd).1.2.1)).trans mo1.hS
      generalize upd H1 m (.lst [.ref A', .ref D, .int (u : Int), .int ((2 : Nat) : Int)]) = H2 at mo2 o2 hS2
      -- m[0][m[2]] = []
      refine ⟨Nat.zero_le _, fun r nr => ?_⟩
      have hr : upd H2 r (.lst []) r = some (.lst (([] : List Addr).map V.ref)) := upd_same
      have mo3 := mo2.same (same_new (o := .lst []) nr)
      have nr0 : H r = none := by
        cases e : H r with
        | none => rfl
        | some o =>
          by_cases hm : r ∈ [m, A', S, rU, rO]
          · obtain ⟨_, g1, _⟩ := mo2.hU
            obtain ⟨_, g2, _⟩ := mo2.hO
            simp only [List.mem_cons, List.not_mem_nil, or_false] at hm
            rcases hm with z | z | z | z | z
            · rw [z, mo2.hm] at nr; cases nr
            · rw [z, mo2.hA] at nr; cases nr
            · rw [z, hS2] at nr; cases nr
            · rw [z, g1] at nr; cases nr
            · rw [z, g2] at nr; cases nr
          · rw [o2 r o hm e] at nr
            cases nr
      have o3 : Ou [m, A', S, rU, rO] H (upd H2 r (.lst [])) := o2.updNew nr0
      have rn : r ∉ [m, A', D, rO] := by
        obtain ⟨_, g2, _⟩ := mo2.hO
        simp only [List.mem_cons, List.not_mem_nil, or_false, not_or]
        exact ⟨fun z => (by rw [z, mo2.hm] at nr; cases nr), fun z => (by rw [z, mo2.hA] at nr; cases nr), fun z => (by rw [z, mo2.hS] at nr; cases nr), fun z => (by rw [z, g2] at nr; cases nr)⟩
      generalize upd H2 r (.lst []) = H3 at hr mo3 o3
      have lxD : (sel u (V.int ((flatR RU).length : Int)) (V.int ((flatR RO).length : Int))).length = 2 := sel_len _ _ _
      refine ⟨_, rfl, m, _, 0, .ref A', rfl, rfl, SqL.of mo3.hm, atI_nat (j := 0) rfl, _, rfl, m, _, 2, .int (u : Int), rfl, rfl, SqL.of mo3.hm, atI_nat (j := 2) rfl, A', _, _, u, rfl, rfl, mo3.hA, by rw [lx]; exact ixN_u u2, ?_⟩
      rw [sel_set_u u2]
      have mo4 : ModAt (upd H3 A' (.lst (sel u (.ref r) (.ref rO)))) m A' D r rO u 2 [] RO (flatR RU).length (flatR RO).length := mo3.newU hr .nil rn
      have o4 : Ou [m, A', S, rU, rO] H (upd H3 A' (.lst (sel u (.ref r) (.ref rO)))) := o3.trans (Ou.set (by simp))
      generalize upd H3 A' (.lst (sel u (.ref r) (.ref rO))) = H4 at mo4 o4
      -- m[1][m[2]] = 0
      refine ⟨_, rfl, m, _, 1, .ref D, rfl, rfl, SqL.of mo4.hm, atI_nat (j := 1) rfl, _, rfl, m, _, 2, .int (u : Int), rfl, rfl, SqL.of mo4.hm, atI_nat (j := 2) rfl, D, _, _, u, rfl, rfl, mo4.hS, by rw [lxD]; exact ixN_u u2, ?_⟩
      rw [sel_set_u u2]
      have mo5 : ModAt (upd H4 D (.lst (sel u (.int 0) (.int ((flatR RO).length : Int))))) m A' D r rO u 2 [] RO 0 (flatR RO).length := mo4.setS (sU' := 0)
      have o5 : Ou [m, A', S, rU, rO] H (upd H4 D (.lst (sel u (.int 0) (.int ((flatR RO).length : Int))))) := o4.updNew nD0
      generalize upd H4 D (.lst (sel u (.int 0) (.int ((flatR RO).length : Int)))) = H5 at mo5 o5
      -- m[2] = other
      refine ⟨_, rfl, _, rfl, m, _, 2, 2, rfl, rfl, mo5.hm, rfl, ?_⟩
      have mo6 := mo5.swap
      have o6 : Ou [m, A', S, rU, rO] H (upd H5 m (.lst [.ref A', .ref D, .int ((1 - u : Nat) : Int), .int ((2 : Nat) : Int)])) := o5.trans (Ou.set (by simp))
      refine ⟨_, rfl, rfl, _, rfl, ite2 (fun _ => ?_) (fun z => absurd (decide_eq_true rfl) z)⟩
      refine ⟨_, rfl, m, _, 3, 3, rfl, rfl, upd_same, rfl, ?_⟩
      refine q2 rfl _ D rO r (mo6.setM (d' := 0)) (o6.trans (Ou.set (by simp))) ?_
      intro y hy
      simp only [List.mem_cons, List.not_mem_nil, or_false] at hy
      rcases hy with e | e | e
      · exact .inr (by rw [e]; exact nD0)
      · exact .inl (by simp [e])
      · exact .inr (by rw [e]; exact nr0)
end
end K85
namespace K85
open PySem PySem.Spec PyProof.Rows L2 QR TL
open GxR (TabB TabG Tabbed GenS)
abbrev sLCr : Stmt := topS 32
abbrev nCr : List Str := ["state", "m", "tape", "kept", "k", "area", "numbers", "kind", "text"]
theorem scLCr : FnScope nCr ["state", "m", "tape"] (defScope sLCr) := ⟨rfl, rfl, rfl, by decide +kernel, rfl, by decide +kernel, by decide +kernel⟩
theorem drawn_fr {p c T T2 : Addr} {S : List Addr} {H H' : Hp} (d : Drawn p c H H') (h1 : TabG H T) (h2 : TabG H T2) (ne : T ≠ T2) (hp : ∃ xs, H p = some (.lst xs)) (hc : ∃ xs, H c = some (.lst xs)) (mp : p ∈ S) (mc : c ∈ S) : Fr T T2 S H H' := by
  have np : ∀ {t : Addr}, TabG H t → t ≠ p ∧ t ≠ c := fun h => by
    obtain ⟨ps, e, _⟩ := h
    obtain ⟨xs, e1⟩ := hp
    obtain ⟨ys, e2⟩ := hc
    exact ⟨fun z => (by rw [z, e1] at e; cases e), fun z => (by rw [z, e2] at e; cases e)⟩
  refine ⟨?_, ?_, ne, fun b o _ _ n e => (d b (fun z => n (by rw [z]; exact mp)) (fun z => n (by rw [z]; exact mc))).trans e⟩
  · obtain ⟨n1, n2⟩ := np h1
    obtain ⟨ps, e, q⟩ := h1
    exact ⟨ps, (d T n1 n2).trans e, q⟩
  · obtain ⟨n1, n2⟩ := np h2
    obtain ⟨ps, e, q⟩ := h2
    exact ⟨ps, (d T2 n1 n2).trans e, q⟩
theorem StateAt.lst {H : Hp} {p c : Addr} (s : StateAt H p c) : (∃ xs, H p = some (.lst xs)) ∧ ∃ xs, H c = some (.lst xs) := by
  obtain ⟨⟨seed, ms, h1, h2, _⟩, _⟩ := s
  exact ⟨⟨_, h1⟩, ⟨_, h2⟩⟩
theorem ModAt.fr {H H' : Hp} {m A S rU rO T T2 : Addr} {X : List Addr} {u d : Nat} {RU RO : Rw} {sU sO : Nat} (h : ModAt H m A S rU rO u d RU RO sU sO) (k : Fr T T2 X H H') (h1 : TabG H T) (h2 : TabG H T2) (n : ∀ y ∈ [m, A, S, rU, rO], y ∉ X) (nt : ∀ y ∈ X, ∀ r, H y ≠ some (rowH r)) : ModAt H' m A S rU rO u d RU RO sU sO := by
  obtain ⟨g1, g2, g3, ⟨a1, g4, g5⟩, ⟨a2, g6, g7⟩, nd, u2⟩ := h
  have k' : ∀ {a : Addr} {xs : List V}, a ∈ [m, A, S, rU, rO] → H a = some (.lst xs) → H' a = some (.lst xs) := fun ha e => k.at_ h1 h2 e (fun ps z => nomatch z) (n _ ha)
  exact ⟨k' (by simp) g1, k' (by simp) g2, k' (by simp) g3, ⟨a1, k' (by simp) g4, g5.fr k h1 h2 nt⟩, ⟨a2, k' (by simp) g6, g7.fr k h1 h2 nt⟩, nd, u2⟩
theorem TapeAt.fr' {CA CT : Addr} {H H' : Hp} {t la aU aO : Addr} {u d sU sO : Nat} {lU lO : List Nat} {T T2 : Addr} {X : List Addr} (h : TapeAt CA CT H t la aU aO u d lU lO sU sO) (h1 : TabG H T) (h2 : TabG H T2) (k : Fr T T2 X H H') (n : ∀ y ∈ [t, la, aU, aO], y ∉ X) : TapeAt CA CT H' t la aU aO u d lU lO sU sO := by
  obtain ⟨⟨d1, g1⟩, g2, ⟨d3, g3⟩, ⟨d4, g4⟩, ne, u2⟩ := h
  exact ⟨⟨d1, k.at_ h1 h2 g1 (fun ps z => nomatch z) (n _ (by simp))⟩, k.at_ h1 h2 g2 (fun ps z => nomatch z) (n _ (by simp)), ⟨d3, k.at_ h1 h2 g3 (fun ps z => nomatch z) (n _ (by simp))⟩, ⟨d4, k.at_ h1 h2 g4 (fun ps z => nomatch z) (n _ (by simp))⟩, ne, u2⟩
/-- outside Y all stands, and Y stands somehow -/
structure Ov (Y : List Addr) (H H' : Hp) : Prop where
  ou : Ou Y H H'
  st : ∀ y ∈ Y, H' y ≠ none
theorem Ov.refl {Y : List Addr} {H : Hp} (h : ∀ y ∈ Y, H y ≠ none) : Ov Y H H := ⟨Ou.refl, h⟩
theorem Ov.upd {Y : List Addr} {H H1 : Hp} {a : Addr} {o : HO} (k : Ov Y H H1) (h : a ∈ Y ∨ H a = none) : Ov Y H (L2.upd H1 a o) := by
  refine ⟨?_, fun y hy => ?_⟩
  · rcases h with h | h
    · exact k.ou.trans (Ou.set h)
    · exact k.ou.updNew h
  · by_cases e : y = a
    · rw [e, upd_same]
      exact fun z => nomatch z
    · rw [upd_ne e]
      exact k.st y hy
theorem Ov.same {Y : List Addr} {H H1 H2 : Hp} (k : Ov Y H H1) (s : Same H1 H2) : Ov Y H H2 := ⟨k.ou.trans (Ou.same s), fun y hy e => k.st y hy (same_none s e)⟩
theorem Ov.none {Y : List Addr} {H H1 : Hp} {a : Addr} (k : Ov Y H H1) (n : H1 a = none) : H a = none := by
  cases e : H a with
  | none => rfl
  | some o =>
    by_cases h : a ∈ Y
    · exact absurd n (k.st a h)
    · rw [k.ou a o h e] at n
      cases n
theorem ixN_i {u : Nat} (h : u < 2) : ixN 2 (u : Int) = some u := ixN_u (by omega)
theorem ModAt.mem {H : Hp} {m A S rU rO : Addr} {u d : Nat} {RU RO : Rw} {sU sO : Nat} (h : ModAt H m A S rU rO u d RU RO sU sO) : ∀ y ∈ [m, A, S, rU, rO], H y ≠ none := by
  intro y hy
  obtain ⟨_, g1, _⟩ := h.hU
  obtain ⟨_, g2, _⟩ := h.hO
  simp only [List.mem_cons, List.not_mem_nil, or_false] at hy
  rcases hy with e | e | e | e | e
  · rw [e, h.hm]; exact fun z => nomatch z
  · rw [e, h.hA]; exact fun z => nomatch z
  · rw [e, h.hS]; exact fun z => nomatch z
  · rw [e, g1]; exact fun z => nomatch z
  · rw [e, g2]; exact fun z => nomatch z
def spLCr (T T2 CA CT : Addr) : Sp := fun vs H Q _ => ∃ (p c m A S rU rO t la aU aO : Addr) (u d sU sO n : Nat) (RU RO : Rw), vs = [.ref p, .ref m, .ref t] ∧ StateAt H p c ∧ ModAt H m A S rU rO u d RU RO sU sO ∧ TapeAt CA CT H t la aU aO u d (flatR RU) (flatR RO) sU sO ∧ TabG H T ∧ TabG H T2 ∧ T ≠ T2 ∧
  HeadIs RU n ∧ HeadIs RO (n + 1) ∧ n ≤ 900 ∧ okR RU ∧ okR RO ∧ RU.length ≤ 80 ∧ RO.length ≤ 80 ∧ markR (keptR RU sU) = true ∧ (∀ y ∈ [m, A, S, rU, rO], y ∉ [p, c, t, la, aU, aO]) ∧ (∀ y ∈ [p, c], y ∉ [t, la, aU, aO]) ∧
  ∀ nU nO H' S' rU' rO' a, sU ≤ nU → sO ≤ nO → H a = none → Fr T T2 [p, c, t, aU, aO, m, A, S, rU, rO] H H' → (∀ y ∈ [S', rU', rO'], y ∈ [m, A, S, rU, rO] ∨ H y = none) → a ∉ [m, A, S', rU', rO'] → StateAt H' p c →
    H' a = some (.lst (strsV (textsR (if markR (keptR RO nO) = true then keptR RO nO else keptR RU nU)))) →
    (if markR (keptR RO nO) = true then ModAt H' m A S' rU' rO' (1 - u) 0 (keptR RO nO) [] (flatR (keptR RO nO)).length 0 else ModAt H' m A S' rU' rO' u 0 (keptR RU nU) [] (flatR (keptR RU nU)).length 0) →
    TapeAt CA CT H' t la aU aO u 0 ((flatR RU).take nU) ((flatR RO).take nO) sU sO → Q (.ref a) H'
section
variable {P : Program} {w : World} {K : PySem.W.Frag} {mg : Str → Option Value} {base : Heap} {T1 T2 CA CT CS fSE CW : Addr}
theorem ok_lcr {f fD fC fK fH fR : Addr} {fd fdD fdC fdK fdH fdR : FuncData} (F : Fun K "_law_crash" "_law_crash" sLCr f fd) (T : TxtC K mg CA CT)
    (GD : FnOk P w K mg base CX0 1 fD fdD ["state", "many"] spDraw) (bD : Binds K fdD ["state", "many"] []) (gD : mg "_law_draw" = some (.ref fD)) (kD : PySem.W.keepIn K (.ref fD) = true)
    (GC : FnOk P w K mg base CX0 2 fC fdC ["self", "kept"] (spCr T1 T2 CA CT)) (bC : Binds K fdC ["self", "kept"] []) (mC : Meth K CT "crash" fC)
    (GK : FnOk P w K mg base CX0 2 fK fdK ["area", "count"] spLKept) (bK : Binds K fdK ["area", "count"] []) (gK : mg "_law_kept" = some (.ref fK)) (kK : PySem.W.keepIn K (.ref fK) = true)
    (GH : FnOk P w K mg base CX0 1 fH fdH ["area"] spLWhole) (bH : Binds K fdH ["area"] []) (gH : mg "_law_whole" = some (.ref fH)) (kH : PySem.W.keepIn K (.ref fH) = true)
    (GR : FnOk P w K mg base CX0 2 fR fdR ["area"] spLRows) (bR : Binds K fdR ["area"] []) (gR : mg "_law_rows" = some (.ref fR)) (kR : PySem.W.keepIn K (.ref fR) = true)
    (ml : mg "len" = none) (mi : mg "int" = none) (mr : mg "range" = none) :
    FnOk P w K mg base CX0 3 f fd ["state", "m", "tape"] (spLCr T1 T2 CA CT) := by
  refine F.ok scLCr (fun vs H Q E h => ?_) (fun cdv A outer s H vs Q E hr h => ?_)
  · obtain ⟨p, c, m, A, S, rU, rO, t, la, aU, aO, u, d, sU, sO, n, RU, RO, rfl, _⟩ := h
    rfl
  · obtain ⟨p, c, m, A', S, rU, rO, t, la, aU, aO, u, d, sU, sO, n, RU, RO, rfl, st, mo, ta, hT, hT2, neT, hhU, hhO, hn, oU, oO, lU, lO, mk, dj, dj2, q⟩ := h
    have hr1 : Room 1 _ := hr.mono (by decide)
    refine ⟨_, (pss_cons (ps_set (i := 3) scLCr.nd rfl (.inl rfl) (pe_tup (pa_cons (pe_call GD hr1 (by rfl) gD kD bD .nil pass0 (pa_cons (pv 0) (pa_cons pe_int pa_nil))) (pa_cons (pe_call GD hr1 (by rfl) gD kD bD .nil pass0 (pa_cons (pv 0) (pa_cons pe_int pa_nil))) pa_nil))))
      (pss_cons (ps_expr (pe_meth (pv 2) T.clT mC GC hr bC .nil pass0 (pa_cons (pv 3) pa_nil)))
      (pss_cons (ps_for PassesOwn.never rfl (pi_range1 rfl mr (pa_cons pe_int pa_nil)) (pg_name (i := 4) scLCr.nd rfl (.inl rfl))
        (pss_one (ps_asg (pe_call GK hr (by rfl) gK kK bK .nil pass0 (pa_cons (pe_ix ix_list (pe_ix ix_list (pv 1) pe_int (fun _ _ => rfl)) (pv 4) (fun _ _ => rfl)) (pa_cons (pe_op op_add (pe_ix ix_list (pe_ix ix_list (pv 1) pe_int (fun _ _ => rfl)) (pv 4) (fun _ _ => rfl)) (pe_ix ix_tup (pv 3) (pv 4) (fun _ _ => rfl))) pa_nil)))
          (pg_sub (pe_ix ix_list (pv 1) pe_int (fun _ _ => rfl)) (pv 4) set_list))))
      (pss_cons (ps_setLc (i := 6) (own := [("area", 5)]) (g := gName 5) (tt := tYes) rfl scLCr.nd rfl rfl (sw_true rfl rfl rfl (by decide +kernel)) (pi_list (pe_ix ix_list (pv 1) pe_int (fun _ _ => rfl))) (blkOk_by (N := nCr) (sc := defScope sLCr) (by decide +kernel)) (fun _ _ _ _ _ => by exact pg_name (i := 5) scLCr.nd rfl (.inl rfl)) (fun _ _ _ _ _ => pts_nil)
          (te := tIf (tB (tCall spLWhole [] E0 (tCons (tVar 5) tNil))) (tCB (fun xs H Q => ∃ a n, xs = [V.str a] ∧ PySem.intText? a = some n ∧ a.length ≤ 640 ∧ Q (V.int n) H) (tCons (tOp (rIxT K) (tOp (rIxL K) (tVar 5) (tC (.int 0))) (tC (.int 1))) tNil)) (tUn (L2.rU fun i => .int (-i)) (tC (.int 1))))
          (fun _ _ _ _ _ => by exact pe_ifExp (pt_val (pe_call GH hr1 (by rfl) gH kH bH .nil pass0 (pa_cons (pv 5) pa_nil))) (pe_callTy call_int_str (by rfl) mi (by decide +kernel) (pa_cons (pe_ix ix_tup (pe_ix ix_list (pv 5) pe_int (fun _ _ => rfl)) pe_int (fun _ _ => rfl)) pa_nil)) (pe_un un_neg pe_int)))
      (pss_cons (ps_asg (pe_ifExp (pt_cmpR op_ge (pe_ix ix_list (pv 6) pe_int (fun _ _ => rfl)) (pe_ix ix_list (pv 6) pe_int (fun _ _ => rfl)) (nomark _)) pe_int pe_int) (pg_sub (pv 1) pe_int set_list))
      (pss_cons (ps_asg (pe_lst pa_nil) (pg_sub (pe_ix ix_list (pv 1) pe_int (fun _ _ => rfl)) (pe_op op_sub pe_int (pe_ix ix_list (pv 1) pe_int (fun _ _ => rfl))) set_list))
      (pss_cons (ps_asg (pe_lc (own := [("area", 5)]) (g := gName 5) (tt := tYes) (te := tLens 5) rfl scLCr.nd (pi_list (pe_ix ix_list (pv 1) pe_int (fun _ _ => rfl))) (blkOk_by (N := nCr) (sc := defScope sLCr) (by decide +kernel)) (fun _ _ _ _ _ => by exact pg_name (i := 5) scLCr.nd rfl (.inl rfl)) (fun _ _ _ _ _ => pts_nil)
          (fun _ _ _ _ _ => by exact pe_callB call_len_str (by rfl) ml PySem.boot_len (pa_cons (pe_call GR hr (by rfl) gR kR bR .nil pass0 (pa_cons (pv 5) pa_nil)) pa_nil))) (pg_sub (pv 1) pe_int set_list))
      (pss_cons (ps_asg pe_int (pg_sub (pv 1) pe_int set_list))
      (pss_one (ps_ret (pe_lc (own := [("kind", 7), ("text", 8)]) (te := tVar 8) (tt := tTest (tOp rEq (tVar 7) (tC (.int 2)))) (g := gTup K 2 (gCons (gName 7) (gCons (gName 8) gNil))) rfl scLCr.nd (pi_list (pe_ix ix_list (pe_ix ix_list (pv 1) pe_int (fun _ _ => rfl)) (pe_ix ix_list (pv 1) pe_int (fun _ _ => rfl)) (fun _ _ => rfl))) (blkOk_by (N := nCr) (sc := defScope sLCr) (by decide +kernel))
          (fun _ _ _ _ _ => by exact pg_tup (by rfl) (pgs_cons (pg_name (i := 7) scLCr.nd rfl (.inl rfl)) (pgs_cons (pg_name (i := 8) scLCr.nd rfl (.inl rfl)) pgs_nil))) (fun _ _ _ _ _ => by exact pts_one (pt_cmpR op_eq (pv 7) pe_int (nomark _))) (fun _ _ _ _ _ => by exact pv 8)))))))))))), ?_⟩
    have z2 := zl
    have u2 := mo.u2
    have fU := flat_len RU oU
    have fO := flat_len RO oO
    -- the draws
    refine ⟨_, rfl, p, c, 250, rfl, by decide, st, fun H1 k0 _ _ st1 d1 => ?_⟩
    refine ⟨_, rfl, p, c, 250, rfl, by decide, st1, fun H2 k1 _ _ st2 d2 => ?_⟩
    refine ⟨by show 2 ≤ sizeLine; omega, fun kp nk => ?_⟩
    have d02 := drawn_trans d1 d2
    have f2 : Fr T1 T2 [p, c] H H2 := drawn_fr d02 hT hT2 neT st.lst.1 st.lst.2 (by simp) (by simp)
    obtain ⟨mU, mO, ek⟩ : ∃ mU mO : Nat, [V.int (k0 : Int), V.int (k1 : Int)] = sel u (V.int (mU : Int)) (V.int (mO : Int)) := by
      rcases u2 with e | e
      · subst e
        exact ⟨k0, k1, rfl⟩
      · subst e
        exact ⟨k1, k0, rfl⟩
    rw [ek]
    have hk3 : upd H2 kp (.tup (sel u (V.int (mU : Int)) (V.int (mO : Int)))) kp = some (.tup (sel u (V.int (mU : Int)) (V.int (mO : Int)))) := upd_same
    have sk : Same H2 (upd H2 kp (.tup (sel u (V.int (mU : Int)) (V.int (mO : Int))))) := same_new nk
    have f3 : Fr T1 T2 [p, c] H (upd H2 kp (.tup (sel u (V.int (mU : Int)) (V.int (mO : Int))))) := f2.trans (Fr.same f2.t1 f2.t2 neT sk)
    have st3 : StateAt (upd H2 kp (.tup (sel u (V.int (mU : Int)) (V.int (mO : Int))))) p c := st2.mono (fun o e => sk _ _ e) (fun o e => sk _ _ e)
    generalize upd H2 kp (.tup (sel u (V.int (mU : Int)) (V.int (mO : Int)))) = H3 at hk3 f3 st3
    have mo3 := mo.fr f3 hT hT2 (fun y hy z => dj y hy (by
        simp only [List.mem_cons, List.not_mem_nil, or_false] at z ⊢
        rcases z with z | z
        · exact .inl z
        · exact .inr (.inl z))) (fun y hy r z => by
        simp only [List.mem_cons, List.not_mem_nil, or_false] at hy
        obtain ⟨⟨_, e1⟩, ⟨_, e2⟩⟩ := st.lst
        rcases hy with e | e <;> subst e
        · rw [e1] at z; cases z
        · rw [e2] at z; cases z)
    have ta3 := ta.fr' hT hT2 f3 (fun y hy z => dj2 y z hy)
    -- the power is lost
    obtain ⟨dx, h13⟩ := id ta3.tp
    refine ⟨_, rfl, t, dx, _, rfl, h13, no_meth _ _ _, _, rfl, ?_⟩
    refine ⟨t, la, aU, aO, kp, u, d, sU, sO, mU, mO, flatR RU, flatR RO, rfl, ta3, hk3, f3.t1, f3.t2, neT, by omega, by omega, fun H4 ta4 f4 => ?_⟩
    have insN : ∀ y ∈ [t, aU, aO], ∀ o, H3 y = some o → ∀ xs, o ≠ .lst xs ∧ o ≠ .tup xs := by
      obtain ⟨_, g1⟩ := ta3.tp
      obtain ⟨_, g2⟩ := ta3.hU
      obtain ⟨_, g3⟩ := ta3.hO
      intro y hy o e xs
      simp only [List.mem_cons, List.not_mem_nil, or_false] at hy
      rcases hy with e1 | e1 | e1 <;> subst e1
      · rw [g1] at e; cases e; exact ⟨(fun z => nomatch z), (fun z => nomatch z)⟩
      · rw [g2] at e; cases e; exact ⟨(fun z => nomatch z), (fun z => nomatch z)⟩
      · rw [g3] at e; cases e; exact ⟨(fun z => nomatch z), (fun z => nomatch z)⟩
    have mo4 := mo3.fr f4 f3.t1 f3.t2 (fun y hy z => dj y hy (by
        simp only [List.mem_cons, List.not_mem_nil, or_false] at z ⊢
        rcases z with z | z | z
        · exact .inr (.inr (.inl z))
        · exact .inr (.inr (.inr (.inr (.inl z))))
        · exact .inr (.inr (.inr (.inr (.inr z)))))) (fun y hy r z => (insN y hy _ z _).2 rfl)
    have pcn : ∀ y ∈ [p, c], y ∉ [t, aU, aO] := fun y hy z => dj2 y hy (by
        simp only [List.mem_cons, List.not_mem_nil, or_false] at z ⊢
        rcases z with z | z | z
        · exact .inl z
        · exact .inr (.inr (.inl z))
        · exact .inr (.inr (.inr z)))
    have lsN : ∀ {a : Addr} {xs : List V}, H3 a = some (.lst xs) → a ∉ [t, aU, aO] → H4 a = some (.lst xs) := fun e n => f4.at_ f3.t1 f3.t2 e (fun ps z => nomatch z) n
    have st4 : StateAt H4 p c := by
      obtain ⟨⟨seed, ms, g1, g2, g3⟩, ne⟩ := st3
      exact ⟨⟨seed, ms, lsN g1 (pcn _ (by simp)), lsN g2 (pcn _ (by simp)), g3⟩, ne⟩
    have hk4 : H4 kp = some (.tup (sel u (V.int (mU : Int)) (V.int (mO : Int)))) := f4.at_ f3.t1 f3.t2 hk3 (fun ps z => nomatch z) (fun z => (insN kp z _ hk3 _).2 rfl)
    have f04 : Fr T1 T2 [p, c, t, aU, aO] H H4 := (f3.mono (by simp)).trans (f4.mono (by simp))
    clear f3 f4 ta3 mo3 st3 insN lsN hk3 st1 st2 d1 d2 d02 f2 sk
    have kpY : kp ∉ [m, A', S, rU, rO] := fun hm => by
      obtain ⟨_, g1, _⟩ := mo4.hU
      obtain ⟨_, g2, _⟩ := mo4.hO
      simp only [List.mem_cons, List.not_mem_nil, or_false] at hm
      rcases hm with e | e | e | e | e
      · rw [e, mo4.hm] at hk4; cases hk4
      · rw [e, mo4.hA] at hk4; cases hk4
      · rw [e, mo4.hS] at hk4; cases hk4
      · rw [e, g1] at hk4; cases hk4
      · rw [e, g2] at hk4; cases hk4
    -- the model's areas are cut
    refine ⟨_, rfl, by decide, by decide, ?_⟩
    refine for_range (n := 2) (fun i σ H' => ∃ (y : Option V) (rU' rO' : Addr), σ = [some (.ref p), some (.ref m), some (.ref t), some (.ref kp), y, none, none, none, none] ∧ Ov [m, A', S, rU, rO] H4 H' ∧
        ModAt H' m A' S rU' rO' u d (if (u = 0 ∧ 1 ≤ i) ∨ 2 ≤ i then keptR RU (sU + mU) else RU) (if (u = 1 ∧ 1 ≤ i) ∨ 2 ≤ i then keptR RO (sO + mO) else RO) sU sO ∧ (rU' = rU ∨ H4 rU' = none) ∧ (rO' = rO ∨ H4 rO' = none))
      ⟨none, rU, rO, rfl, Ov.refl mo4.mem, by simpa using mo4, .inl rfl, .inl rfl⟩ ?_ ?_
    · rintro i σ H' hi ⟨y, rU', rO', rfl, ov, mo5, n1, n2⟩
      rw [Int.zero_add (i : Int)]
      have hk5 := ov.ou _ _ kpY hk4
      obtain ⟨aU5, gU5, tU5⟩ := id mo5.hU
      obtain ⟨aO5, gO5, tO5⟩ := id mo5.hO
      have lA5 : (sel u (V.ref rU') (V.ref rO')).length = 2 := sel_len _ _ _
      by_cases ei : i = u
      · have eRU : (if (u = 0 ∧ 1 ≤ i) ∨ 2 ≤ i then keptR RU (sU + mU) else RU) = RU := by
          rw [if_neg]
          omega
        rw [eRU] at mo5 tU5
        subst ei
        refine ⟨_, rfl, m, _, 0, .ref A', rfl, rfl, SqL.of mo5.hm, atI_nat (j := 0) rfl, _, rfl, A', _, _, .ref rU', rfl, rfl, SqL.of mo5.hA, atI_nat (sel_u u2 _ _), _, rfl, m, _, 1, .ref S, rfl, rfl, SqL.of mo5.hm, atI_nat (j := 1) rfl, _, rfl, S, _, _, .int (sU : Int), rfl, rfl, SqL.of mo5.hS, atI_nat (sel_u u2 _ _),
          _, rfl, _, rfl, kp, _, _, .int (mU : Int), rfl, rfl, SqT.of hk5, atI_nat (sel_u u2 _ _), _, _, rfl, rfl, ?_⟩
        dsimp only [tNil]
        refine ⟨rU', aU5, RU, sU + mU, rfl, gU5, tU5, oU, by omega, fun H6 f as' s6 nf hf tf => ?_⟩
        have mo6 := mo5.same s6
        have ov6 := ov.same s6
        have nf4 := ov.none nf
        refine ⟨_, rfl, m, _, 0, .ref A', rfl, rfl, SqL.of mo6.hm, atI_nat (j := 0) rfl, _, rfl, A', _, _, i, rfl, rfl, mo6.hA, by rw [lA5]; exact ixN_i hi, ?_⟩
        rw [sel_set_u u2]
        have fn : f ∉ [m, A', S, rO'] := fun hm => by
          simp only [List.mem_cons, List.not_mem_nil, or_false] at hm
          rcases hm with e | e | e | e
          · rw [e, mo5.hm] at nf; cases nf
          · rw [e, mo5.hA] at nf; cases nf
          · rw [e, mo5.hS] at nf; cases nf
          · rw [e, gO5] at nf; cases nf
        have mo7 := mo6.newU hf tf fn
        refine ⟨_, f, rO', rfl, ov6.upd (.inl (by simp)), ?_, .inr nf4, n2⟩
        have e1 : (if (i = 0 ∧ 1 ≤ i + 1) ∨ 2 ≤ i + 1 then keptR RU (sU + mU) else RU) = keptR RU (sU + mU) := by
          rw [if_pos]
          omega
        have e2 : (if (i = 1 ∧ 1 ≤ i + 1) ∨ 2 ≤ i + 1 then keptR RO (sO + mO) else RO) = (if (i = 1 ∧ 1 ≤ i) ∨ 2 ≤ i then keptR RO (sO + mO) else RO) := by
          rcases u2 with e | e <;> subst e <;> simp
        rw [e1, e2]
        exact mo7
      · have ei2 : i = 1 - u := by omega
        have eRO : (if (u = 1 ∧ 1 ≤ i) ∨ 2 ≤ i then keptR RO (sO + mO) else RO) = RO := by
          rw [if_neg]
          omega
        rw [eRO] at mo5 tO5
        subst ei2
        refine ⟨_, rfl, m, _, 0, .ref A', rfl, rfl, SqL.of mo5.hm, atI_nat (j := 0) rfl, _, rfl, A', _, _, .ref rO', rfl, rfl, SqL.of mo5.hA, atI_nat (sel_o u2 _ _), _, rfl, m, _, 1, .ref S, rfl, rfl, SqL.of mo5.hm, atI_nat (j := 1) rfl, _, rfl, S, _, _, .int (sO : Int), rfl, rfl, SqL.of mo5.hS, atI_nat (sel_o u2 _ _),
          _, rfl, _, rfl, kp, _, _, .int (mO : Int), rfl, rfl, SqT.of hk5, atI_nat (sel_o u2 _ _), _, _, rfl, rfl, ?_⟩
        dsimp only [tNil]
        refine ⟨rO', aO5, RO, sO + mO, rfl, gO5, tO5, oO, by omega, fun H6 f as' s6 nf hf tf => ?_⟩
        have mo6 := mo5.same s6
        have ov6 := ov.same s6
        have nf4 := ov.none nf
        refine ⟨_, rfl, m, _, 0, .ref A', rfl, rfl, SqL.of mo6.hm, atI_nat (j := 0) rfl, _, rfl, A', _, _, 1 - u, rfl, rfl, mo6.hA, by rw [lA5]; exact ixN_o u2, ?_⟩
        rw [sel_set_o u2]
        have fn : f ∉ [m, A', S, rU'] := fun hm => by
          simp only [List.mem_cons, List.not_mem_nil, or_false] at hm
          rcases hm with e | e | e | e
          · rw [e, mo5.hm] at nf; cases nf
          · rw [e, mo5.hA] at nf; cases nf
          · rw [e, mo5.hS] at nf; cases nf
          · rw [e, gU5] at nf; cases nf
        have mo7 := mo6.newO hf tf fn
        refine ⟨_, rU', f, rfl, ov6.upd (.inl (by simp)), ?_, n1, .inr nf4⟩
        have e1 : (if (u = 1 ∧ 1 ≤ 1 - u + 1) ∨ 2 ≤ 1 - u + 1 then keptR RO (sO + mO) else RO) = keptR RO (sO + mO) := by
          rw [if_pos]
          omega
        have e2 : (if (u = 0 ∧ 1 ≤ 1 - u + 1) ∨ 2 ≤ 1 - u + 1 then keptR RU (sU + mU) else RU) = (if (u = 0 ∧ 1 ≤ 1 - u) ∨ 2 ≤ 1 - u then keptR RU (sU + mU) else RU) := by
          rcases u2 with e | e <;> subst e <;> simp
        rw [e1, e2]
        exact mo7
    rintro σ H5 ⟨y, rU', rO', rfl, ov, mo5, n1, n2⟩
    have mo5' : ModAt H5 m A' S rU' rO' u d (keptR RU (sU + mU)) (keptR RO (sO + mO)) sU sO := by simpa using mo5
    clear mo5
    have iU : okR (keptR RU (sU + mU)) ∧ (keptR RU (sU + mU)).length ≤ 80 := ⟨ok_pre (kept_pre _ _) oU, Nat.le_trans (kept_pre _ _).length_le lU⟩
    have iO : okR (keptR RO (sO + mO)) ∧ (keptR RO (sO + mO)).length ≤ 80 := ⟨ok_pre (kept_pre _ _) oO, Nat.le_trans (kept_pre _ _).length_le lO⟩
    have hKU : HeadIs (keptR RU (sU + mU)) n := head_pre (kept_pre _ _) hhU
    have hKO : HeadIs (keptR RO (sO + mO)) (n + 1) := head_pre (kept_pre _ _) hhO
    have mkU : markR (keptR RU (sU + mU)) = true := mark_pre (kept_mono _ _ _ (Nat.le_add_right _ _)) mk
    have q0 := q (sU + mU) (sO + mO)
    generalize keptR RU (sU + mU) = KU at mo5' iU hKU mkU q0
    generalize keptR RO (sO + mO) = KO at mo5' iO hKO q0
    obtain ⟨aU5, gU5, tU5⟩ := id mo5'.hU
    obtain ⟨aO5, gO5, tO5⟩ := id mo5'.hO
    -- the numbers
    refine ⟨_, rfl, m, _, 0, .ref A', rfl, rfl, SqL.of mo5'.hm, atI_nat (j := 0) rfl, A', rfl, ⟨_, SqL.of mo5'.hA⟩, fun D2 nD2 => ?_⟩
    refine lc_list (xs := sel u (V.ref rU') (V.ref rO')) (fun i H' => Same H5 H' ∧ H' D2 = some (.lst ((sel u (V.int (wnR KU n)) (V.int (wnR KO (n + 1)))).take i))) ⟨same_new nD2, upd_same⟩ ?_ ?_ ?_
    · rintro i H' _ ⟨s1, _⟩
      exact SqL.of (s1 _ _ mo5'.hA)
    · rintro i v H' hv ⟨s1, hD⟩
      have li : i < 2 := by
        have := (List.getElem?_eq_some_iff.mp hv).1
        rw [sel_len] at this
        exact this
      obtain ⟨r, as, R, mm, rfl, g1, g2, g4, g5, g6, gx⟩ : ∃ (r : Addr) (as : List Addr) (R : Rw) (mm : Nat), v = .ref r ∧ H5 r = some (.lst (as.map V.ref)) ∧ Tups H5 as R ∧ R.length ≤ 80 ∧ HeadIs R mm ∧ mm ≤ 1000 ∧ (sel u (V.int (wnR KU n)) (V.int (wnR KO (n + 1))))[i]? = some (.int (wnR R mm)) := by
        by_cases ei : i = u
        · subst ei
          rw [sel_u u2] at hv
          exact ⟨rU', aU5, KU, n, (Option.some.inj hv).symm, gU5, tU5, iU.2, hKU, by omega, sel_u u2 _ _⟩
        · have ei2 : i = 1 - u := by omega
          subst ei2
          rw [sel_o u2] at hv
          exact ⟨rO', aO5, KO, n + 1, (Option.some.inj hv).symm, gO5, tO5, iO.2, hKO, by omega, sel_o u2 _ _⟩
      have fin : ∀ (H6 : Hp), Same H' H6 → ∃ acc, H6 D2 = some (.lst acc) ∧ acc.length < sizeLine ∧ (Same H5 (upd H6 D2 (.lst (acc ++ [V.int (wnR R mm)]))) ∧ upd H6 D2 (.lst (acc ++ [V.int (wnR R mm)])) D2 = some (.lst ((sel u (V.int (wnR KU n)) (V.int (wnR KO (n + 1)))).take (i + 1)))) := by
        intro H6 s6
        refine ⟨_, s6 _ _ hD, by rw [List.length_take, sel_len]; omega, same_upd nD2 (same_trans s1 s6), ?_⟩
        rw [upd_same, List.take_add_one, gx]
        rfl
      refine ⟨rfl, ?_⟩
      refine ⟨_, rfl, ?_⟩
      dsimp only [tNil]
      refine ⟨r, as, R, mm, rfl, s1 _ _ g1, g2.same s1, by omega, g5, fun H6 s6 => ⟨_, rfl, ?_⟩⟩
      have s56 := same_trans s1 s6
      cases hm : markR R with
      | false =>
        refine iteF ?_
        refine ⟨1, rfl, ?_⟩
        have := fin H6 s6
        unfold wnR at this
        rw [hm, if_neg (by decide)] at this
        exact this
      | true =>
        refine iteT ?_
        cases R with
        | nil => cases hm
        | cons r0 Z =>
          obtain rfl := head_get g5 rfl
          cases g2 with
          | @cons a0 as2 _ _ k1 k2 =>
            have l1 : (numL mm).length ≤ 4 := num_le_of (n := mm) (k := 3) (by omega)
            refine ⟨_, rfl, r, _, 0, .ref a0, rfl, rfl, SqL.of (s56 _ _ g1), atI_nat (j := 0) rfl, a0, _, 1, .str (Sg (numL mm)), rfl, rfl, SqT.of (s56 _ _ k1), atI_nat (j := 1) rfl, Sg (numL mm), (mm : Int), rfl, int_num (by omega), by rw [len_tl]; show (numL mm).length ≤ _; omega, ?_⟩
            have := fin H6 s6
            unfold wnR at this
            rw [hm, if_pos rfl] at this
            exact this
    rintro H6 ⟨s6, hD2⟩
    rw [sel_len, List.take_of_length_le (by rw [sel_len]; exact Nat.le_refl 2)] at hD2
    have mo6 := mo5'.same s6
    have ov6 := ov.same s6
    have nD24 := ov.none nD2
    have gU6 := s6 _ _ gU5
    have gO6 := s6 _ _ gO5
    have tU6 := tU5.same s6
    have tO6 := tO5.same s6
    -- which one is used
    obtain ⟨v, ev⟩ : ∃ v, v = if markR KO = true then 1 - u else u := ⟨_, rfl⟩
    have v2 : v = 0 ∨ v = 1 := by
      rw [ev]
      split <;> omega
    obtain ⟨z0, z1, ez, ev0⟩ : ∃ z0 z1 : Int, sel u (V.int (wnR KU n)) (V.int (wnR KO (n + 1))) = [V.int z0, V.int z1] ∧ (z1 ≤ z0 ↔ v = 0) := by
      have eU : wnR KU n = (n : Int) := by
        unfold wnR
        rw [if_pos mkU]
      have eO : wnR KO (n + 1) = if markR KO = true then ((n + 1 : Nat) : Int) else -1 := rfl
      rw [eU, eO]
      rcases u2 with e | e
      · subst e
        refine ⟨_, _, rfl, ?_⟩
        rw [ev]
        split <;> omega
      · subst e
        refine ⟨_, _, rfl, ?_⟩
        rw [ev]
        split <;> omega
    rw [ez] at hD2
    have both : ∀ (σ : L2.St) (Q : VK), Q (V.int (v : Int)) H6 → if decide (z1 ≤ z0) = true then tC (V.int 0) σ H6 Q else tC (V.int 1) σ H6 Q := by
      intro σ Q h
      by_cases c : z1 ≤ z0
      · rw [if_pos (decide_eq_true c)]
        have : v = 0 := ev0.mp c
        subst this
        exact h
      · rw [if_neg (by simpa using c)]
        have : v = 1 := by
          rcases v2 with e | e
          · exact absurd (ev0.mpr e) c
          · exact e
        subst this
        exact h
    refine ⟨_, rfl, D2, _, 0, V.int z0, rfl, rfl, SqL.of hD2, atI_nat (j := 0) rfl, _, rfl, D2, _, 1, V.int z1, rfl, rfl, SqL.of hD2, atI_nat (j := 1) rfl, _, _, rfl, rfl, _, rfl, both _ _ ?_⟩
    refine ⟨_, rfl, m, _, 2, 2, rfl, rfl, mo6.hm, rfl, ?_⟩
    have e12 : upd H6 m (.lst ([.ref A', .ref S, .int (u : Int), .int (d : Int)].set 2 (.int (v : Int)))) = upd H6 m (.lst [.ref A', .ref S, .int (v : Int), .int (d : Int)]) := rfl
    rw [e12]
    have ov7 : Ov [m, A', S, rU, rO] H4 (upd H6 m (.lst [.ref A', .ref S, .int (v : Int), .int (d : Int)])) := ov6.upd (.inl (by simp))
    have kt : ∀ {a : Addr} {xs : List V}, a ≠ m → H6 a = some (.lst xs) → upd H6 m (.lst [.ref A', .ref S, .int (v : Int), .int (d : Int)]) a = some (.lst xs) := fun ne e => (upd_ne ne).trans e
    obtain ⟨⟨n1m, n2m, n3m, n4m⟩, _⟩ := nd5 mo6.nd
    obtain ⟨rV, rW, KV, KW, sV, sW, asV, mo7, gV, tV, lV, oV, lW, oW, nV, fin⟩ : ∃ (rV rW : Addr) (KV KW : Rw) (sV sW : Nat) (asV : List Addr), ModAt (upd H6 m (.lst [.ref A', .ref S, .int (v : Int), .int (d : Int)])) m A' S rV rW v d KV KW sV sW ∧
        upd H6 m (.lst [.ref A', .ref S, .int (v : Int), .int (d : Int)]) rV = some (.lst (asV.map V.ref)) ∧ Tups (upd H6 m (.lst [.ref A', .ref S, .int (v : Int), .int (d : Int)])) asV KV ∧ KV.length ≤ 80 ∧ okR KV ∧ KW.length ≤ 80 ∧ okR KW ∧ (rV ∈ [rU, rO] ∨ H4 rV = none) ∧
        ∀ H' S' rW' a, H a = none → Fr T1 T2 [p, c, t, aU, aO, m, A', S, rU, rO] H H' → (∀ y ∈ [S', rV, rW'], y ∈ [m, A', S, rU, rO] ∨ H y = none) → a ∉ [m, A', S', rV, rW'] → StateAt H' p c → H' a = some (.lst (strsV (textsR KV))) → ModAt H' m A' S' rV rW' v 0 KV [] (flatR KV).length 0 →
          TapeAt CA CT H' t la aU aO u 0 ((flatR RU).take (sU + mU)) ((flatR RO).take (sO + mO)) sU sO → Q (.ref a) H' := by
      by_cases mo' : markR KO = true
      · rw [if_pos mo'] at ev
        subst ev
        refine ⟨rO', rU', KO, KU, sO, sU, aO5, mo6.swap, kt (Ne.symm n4m) gO6, tO6.upd mo6.hm, iO.2, iO.1, iU.2, iU.1, ?_, fun H' S' rW' a h1 h2 h3 h4 h5 h6 h7 h8 => q0 H' S' rO' rW' a (Nat.le_add_right _ _) (Nat.le_add_right _ _) h1 h2 h3 h4 h5 ?_ ?_ h8⟩
        · rcases n2 with e | e
          · exact .inl (by simp [e])
          · exact .inr e
        · rw [if_pos mo']
          exact h6
        · rw [if_pos mo']
          exact h7
      · rw [if_neg mo'] at ev
        subst ev
        have same : ModAt (upd H6 m (.lst [.ref A', .ref S, .int (v : Int), .int (d : Int)])) m A' S rU' rO' v d KU KO sU sO := mo6.setM
        refine ⟨rU', rO', KU, KO, sU, sO, aU5, same, kt (Ne.symm n3m) gU6, tU6.upd mo6.hm, iU.2, iU.1, iO.2, iO.1, ?_, fun H' S' rW' a h1 h2 h3 h4 h5 h6 h7 h8 => q0 H' S' rU' rW' a (Nat.le_add_right _ _) (Nat.le_add_right _ _) h1 h2 h3 h4 h5 ?_ ?_ h8⟩
        · rcases n1 with e | e
          · exact .inl (by simp [e])
          · exact .inr e
        · rw [if_neg mo']
          exact h6
        · rw [if_neg mo']
          exact h7
    clear both kt e12 q0 q
    generalize upd H6 m (.lst [.ref A', .ref S, .int (v : Int), .int (d : Int)]) = H7 at ov7 mo7 gV tV
    -- m[0][1 - m[2]] = []
    refine ⟨Nat.zero_le _, fun r0 nr0 => ?_⟩
    have hr0 : upd H7 r0 (.lst []) r0 = some (.lst (([] : List Addr).map V.ref)) := upd_same
    have s8 : Same H7 (upd H7 r0 (.lst [])) := same_new nr0
    have nr04 := ov7.none nr0
    have mo8 := mo7.same s8
    have ov8 := ov7.same s8
    have gV8 := s8 _ _ gV
    have tV8 := tV.same s8
    have r0n : r0 ∉ [m, A', S, rV] := fun hm => by
      simp only [List.mem_cons, List.not_mem_nil, or_false] at hm
      rcases hm with e | e | e | e
      · rw [e, mo7.hm] at nr0; cases nr0
      · rw [e, mo7.hA] at nr0; cases nr0
      · rw [e, mo7.hS] at nr0; cases nr0
      · rw [e, gV] at nr0; cases nr0
    generalize upd H7 r0 (.lst []) = H8 at hr0 mo8 ov8 gV8 tV8
    clear s8
    have lA8 : (sel v (V.ref rV) (V.ref rW)).length = 2 := sel_len _ _ _
    refine ⟨_, rfl, m, _, 0, .ref A', rfl, rfl, SqL.of mo8.hm, atI_nat (j := 0) rfl, _, rfl, m, _, 2, .int (v : Int), rfl, rfl, SqL.of mo8.hm, atI_nat (j := 2) rfl, _, _, rfl, rfl, A', _, ((1 - v : Nat) : Int), 1 - v, rfl, ?_, mo8.hA, by rw [lA8]; exact ixN_o v2, ?_⟩
    · have e0 : (1 : Int) - (v : Int) = ((1 - v : Nat) : Int) := by omega
      exact congrArg V.int e0
    rw [sel_set_o v2]
    have mo9 : ModAt (upd H8 A' (.lst (sel v (.ref rV) (.ref r0)))) m A' S rV r0 v d KV [] sV sW := mo8.newO hr0 .nil r0n
    have ov9 : Ov [m, A', S, rU, rO] H4 (upd H8 A' (.lst (sel v (.ref rV) (.ref r0)))) := ov8.upd (.inl (by simp))
    have gV9 : upd H8 A' (.lst (sel v (.ref rV) (.ref r0))) rV = some (.lst (asV.map V.ref)) := (upd_ne (Ne.symm (nd5 mo8.nd).2.1.2.1)).trans gV8
    have tV9 : Tups (upd H8 A' (.lst (sel v (.ref rV) (.ref r0)))) asV KV := tV8.upd mo8.hA
    generalize upd H8 A' (.lst (sel v (.ref rV) (.ref r0))) = H9 at mo9 ov9 gV9 tV9
    -- m[1] = ..
    dsimp only [tSeq, tAsg]
    refine lens_tLc (i := 5) mo9 oV (fun _ z => nomatch z) (by omega) (Nat.zero_le _) (fun Q h => ⟨_, rfl, m, _, 0, .ref A', rfl, rfl, SqL.of mo9.hm, atI_nat (j := 0) rfl, h⟩) (fun _ => rfl) (fun _ => rfl) fun D3 H10 nD3 s10 hD3 => ?_
    have mo10 := mo9.same s10
    have ov10 := ov9.same s10
    have nD34 := ov9.none nD3
    have gV10 := s10 _ _ gV9
    have tV10 := tV9.same s10
    have D3n : D3 ∉ [m, A', rV, r0] := fun hm => by
      obtain ⟨_, g1, _⟩ := mo9.hO
      simp only [List.mem_cons, List.not_mem_nil, or_false] at hm
      rcases hm with e | e | e | e
      · rw [e, mo9.hm] at nD3; cases nD3
      · rw [e, mo9.hA] at nD3; cases nD3
      · rw [e, gV9] at nD3; cases nD3
      · rw [e, g1] at nD3; cases nD3
    refine ⟨_, rfl, m, _, 1, 1, rfl, rfl, mo10.hm, rfl, ?_⟩
    have e13 : upd H10 m (.lst ([.ref A', .ref S, .int (v : Int), .int (d : Int)].set 1 (.ref D3))) = upd H10 m (.lst [.ref A', .ref D3, .int (v : Int), .int (d : Int)]) := rfl
    rw [e13]
    have mo11 : ModAt (upd H10 m (.lst [.ref A', .ref D3, .int (v : Int), .int (d : Int)])) m A' D3 rV r0 v d KV [] (flatR KV).length 0 := mo10.newS (sO' := 0) hD3 D3n
    have ov11 : Ov [m, A', S, rU, rO] H4 (upd H10 m (.lst [.ref A', .ref D3, .int (v : Int), .int (d : Int)])) := ov10.upd (.inl (by simp))
    have nmV : rV ≠ m := Ne.symm (nd5 mo10.nd).1.2.2.1
    have gV11 : upd H10 m (.lst [.ref A', .ref D3, .int (v : Int), .int (d : Int)]) rV = some (.lst (asV.map V.ref)) := (upd_ne nmV).trans gV10
    have tV11 : Tups (upd H10 m (.lst [.ref A', .ref D3, .int (v : Int), .int (d : Int)])) asV KV := tV10.upd mo10.hm
    generalize upd H10 m (.lst [.ref A', .ref D3, .int (v : Int), .int (d : Int)]) = H11 at mo11 ov11 gV11 tV11
    -- m[3] = 0
    refine ⟨_, rfl, m, _, 3, 3, rfl, rfl, mo11.hm, rfl, ?_⟩
    have e14 : upd H11 m (.lst ([.ref A', .ref D3, .int (v : Int), .int (d : Int)].set 3 (.int 0))) = upd H11 m (.lst [.ref A', .ref D3, .int (v : Int), .int ((0 : Nat) : Int)]) := rfl
    rw [e14]
    have mo12 : ModAt (upd H11 m (.lst [.ref A', .ref D3, .int (v : Int), .int ((0 : Nat) : Int)])) m A' D3 rV r0 v 0 KV [] (flatR KV).length 0 := mo11.setM
    have ov12 : Ov [m, A', S, rU, rO] H4 (upd H11 m (.lst [.ref A', .ref D3, .int (v : Int), .int ((0 : Nat) : Int)])) := ov11.upd (.inl (by simp))
    have gV12 : upd H11 m (.lst [.ref A', .ref D3, .int (v : Int), .int ((0 : Nat) : Int)]) rV = some (.lst (asV.map V.ref)) := (upd_ne nmV).trans gV11
    have tV12 : Tups (upd H11 m (.lst [.ref A', .ref D3, .int (v : Int), .int ((0 : Nat) : Int)])) asV KV := tV11.upd mo11.hm
    generalize upd H11 m (.lst [.ref A', .ref D3, .int (v : Int), .int ((0 : Nat) : Int)]) = H12 at mo12 ov12 gV12 tV12
    -- the entries
    refine ⟨_, rfl, m, _, 0, .ref A', rfl, rfl, SqL.of mo12.hm, atI_nat (j := 0) rfl, _, rfl, m, _, 2, .int (v : Int), rfl, rfl, SqL.of mo12.hm, atI_nat (j := 2) rfl, A', _, _, .ref rV, rfl, rfl, SqL.of mo12.hA, atI_nat (sel_u v2 _ _), rV, rfl, ⟨_, SqL.of gV12⟩, fun E3 nE3 => ?_⟩
    have rE3 : rV ≠ E3 := ne_of_none gV12 nE3
    refine lc_list (xs := asV.map V.ref) (fun i H' => H' = upd H12 E3 (.lst (strsV (textsR (KV.take i))))) rfl ?_ ?_ ?_
    · rintro i H' _ rfl
      exact SqL.of ((upd_ne rE3).trans gV12)
    · rintro i x H' hx rfl
      rw [List.getElem?_map] at hx
      obtain ⟨a, ha, rfl⟩ := Option.map_eq_some_iff.mp hx
      obtain ⟨r, hr9, har⟩ := tV12.get ha
      have ia : i < KV.length := (List.getElem?_eq_some_iff.mp hr9).1
      refine ⟨a, _, rfl, SqT.of ((upd_ne (ne_of_none har nE3)).trans har), rfl, _, _, rfl, _, _, rfl, rfl, rfl, ?_⟩
      refine ⟨_, rfl, rfl, _, rfl, ite2 (fun hz => ?_) (fun hz => ?_)⟩
      · have e2 : r.1 = 2 := by
          have := of_decide_eq_true hz
          injection this with this
          omega
        refine ⟨_, rfl, _, upd_same, ?_, ?_⟩
        · show ((textsR (KV.take i)).map _).length < _
          have l1 := len_split (KV.take i)
          rw [List.length_take] at l1
          rw [List.length_map]
          omega
        · rw [upd_upd, texts_take hr9, if_pos e2]
          unfold strsV
          rw [List.map_append]
          rfl
      · have e2 : ¬ r.1 = 2 := fun z => hz (decide_eq_true (by rw [z]; rfl))
        rw [texts_take hr9, if_neg e2, List.append_nil]
    rintro H' rfl
    have ek : KV.take (asV.map V.ref).length = KV := by
      rw [List.length_map, tV12.len, List.take_length]
    rw [ek]
    have nE4 : H4 E3 = none := ov12.none nE3
    have ov13 : Ov [m, A', S, rU, rO] H4 (upd H12 E3 (.lst (strsV (textsR KV)))) := ov12.upd (.inr nE4)
    have mo13 := mo12.same (same_new (o := .lst (strsV (textsR KV))) nE3)
    have tabY : ∀ {t0 : Addr}, TabG H4 t0 → t0 ∉ [m, A', S, rU, rO] := fun ht hm => by
      obtain ⟨ps, e, _⟩ := ht
      obtain ⟨_, g1, _⟩ := mo4.hU
      obtain ⟨_, g2, _⟩ := mo4.hO
      simp only [List.mem_cons, List.not_mem_nil, or_false] at hm
      rcases hm with z | z | z | z | z
      · rw [z, mo4.hm] at e; cases e
      · rw [z, mo4.hA] at e; cases e
      · rw [z, mo4.hS] at e; cases e
      · rw [z, g1] at e; cases e
      · rw [z, g2] at e; cases e
    have fE : Fr T1 T2 [m, A', S, rU, rO] H4 (upd H12 E3 (.lst (strsV (textsR KV)))) := by
      refine ⟨?_, ?_, neT, fun b o _ _ hb e => ov13.ou b o hb e⟩
      · have ht := f04.t1
        have hy := tabY ht
        obtain ⟨ps, e, z⟩ := ht
        exact ⟨ps, ov13.ou _ _ hy e, z⟩
      · have ht := f04.t2
        have hy := tabY ht
        obtain ⟨ps, e, z⟩ := ht
        exact ⟨ps, ov13.ou _ _ hy e, z⟩
    have back : ∀ {y : Addr}, y ∉ [p, c, t, aU, aO] → H4 y = none → H y = none := fun {y} hy e => by
      cases e2 : H y with
      | none => rfl
      | some o =>
        by_cases h1 : y = T1
        · obtain ⟨ps, e3, _⟩ := f04.t1
          rw [← h1, e] at e3
          cases e3
        · by_cases h2 : y = T2
          · obtain ⟨ps, e3, _⟩ := f04.t2
            rw [← h2, e] at e3
            cases e3
          · rw [f04.out y o h1 h2 hy e2] at e
            cases e
    have n4of : ∀ {y : Addr}, H4 y = none → y ∉ [p, c, t, aU, aO] := fun e hm => by
      obtain ⟨_, g1⟩ := ta4.tp
      obtain ⟨_, g2⟩ := ta4.hU
      obtain ⟨_, g3⟩ := ta4.hO
      obtain ⟨⟨_, g4⟩, ⟨_, g5⟩⟩ := st4.lst
      simp only [List.mem_cons, List.not_mem_nil, or_false] at hm
      rcases hm with z | z | z | z | z
      · rw [z, g4] at e; cases e
      · rw [z, g5] at e; cases e
      · rw [z, g1] at e; cases e
      · rw [z, g2] at e; cases e
      · rw [z, g3] at e; cases e
    have fresh : ∀ {y : Addr}, H4 y = none → H y = none := fun e => back (n4of e) e
    have djY : ∀ y ∈ [p, c, t, la, aU, aO], y ∉ [m, A', S, rU, rO] := fun y hy z => dj y z hy
    refine fin _ D3 r0 E3 (fresh nE4) ((f04.mono (by simp)).trans (fE.mono (by simp))) ?_ ?_ ?_ upd_same mo13 ?_
    · intro y hy
      simp only [List.mem_cons, List.not_mem_nil, or_false] at hy
      rcases hy with e | e | e
      · exact .inr (by rw [e]; exact fresh nD34)
      · rw [e]
        rcases nV with z | z
        · exact .inl (by simp only [List.mem_cons, List.not_mem_nil, or_false] at z ⊢; rcases z with z | z <;> simp [z])
        · exact .inr (fresh z)
      · exact .inr (by rw [e]; exact fresh nr04)
    · intro hm
      exact mo12.mem _ hm nE3
    · exact st4.mono (fun o e => ov13.ou _ _ (djY _ (by simp)) e) (fun o e => ov13.ou _ _ (djY _ (by simp)) e)
    · obtain ⟨⟨d1, g1⟩, g2, ⟨d3, g3⟩, ⟨d4, g4⟩, ne, u2'⟩ := ta4
      exact ⟨⟨d1, ov13.ou _ _ (djY _ (by simp)) g1⟩, ov13.ou _ _ (djY _ (by simp)) g2, ⟨d3, ov13.ou _ _ (djY _ (by simp)) g3⟩, ⟨d4, ov13.ou _ _ (djY _ (by simp)) g4⟩, ne, u2'⟩
end
end K85
namespace K85
open PySem PySem.Spec PyProof.Rows L2 QR TL
open GxR (TabB TabG Tabbed GenS)
abbrev sLSame : Stmt := topS 33
abbrev sLaw : Stmt := topS 35
theorem scLSame : FnScope ["tape", "m", "k"] ["tape", "m"] (defScope sLSame) := ⟨rfl, rfl, rfl, by decide +kernel, rfl, by decide +kernel, by decide +kernel⟩
abbrev nLaw : List Str := ["script", "state", "tape", "m", "synced", "appended", "k", "kind", "text", "word", "texts", "due", "told", "area"]
theorem scLaw : FnScope nLaw ["script"] (defScope sLaw) := ⟨rfl, rfl, rfl, by decide +kernel, rfl, by decide +kernel, by decide +kernel⟩
def spSame (CA CT : Addr) : Sp := fun vs H Q _ => ∃ (m A S rU rO t la aU aO : Addr) (u d sU sO : Nat) (RU RO : Rw), vs = [.ref t, .ref m] ∧ ModAt H m A S rU rO u d RU RO sU sO ∧ TapeAt CA CT H t la aU aO u d (flatR RU) (flatR RO) sU sO ∧ okR RU ∧ okR RO ∧ RU.length ≤ 100 ∧ RO.length ≤ 100 ∧
  ∀ H', Same H H' → Q (.bl true) H'
section
variable {P : Program} {w : World} {K : PySem.W.Frag} {mg : Str → Option Value} {base : Heap} {T1 T2 CA CT CS fSE CW : Addr}
theorem TapeAt.same {H H' : Hp} {t la aU aO : Addr} {u d sU sO : Nat} {lU lO : List Nat} (h : TapeAt CA CT H t la aU aO u d lU lO sU sO) (s : Same H H') : TapeAt CA CT H' t la aU aO u d lU lO sU sO := by
  obtain ⟨⟨d1, g1⟩, g2, ⟨d3, g3⟩, ⟨d4, g4⟩, ne, u2⟩ := h
  exact ⟨⟨d1, s _ _ g1⟩, s _ _ g2, ⟨d3, s _ _ g3⟩, ⟨d4, s _ _ g4⟩, ne, u2⟩
theorem ok_lsame {f fR : Addr} {fd fdR : FuncData} (F : Fun K "_law_same" "_law_same" sLSame f fd) (T : TxtC K mg CA CT)
    (GR : FnOk P w K mg base CX0 2 fR fdR ["area"] spLRows) (bR : Binds K fdR ["area"] []) (gR : mg "_law_rows" = some (.ref fR)) (kR : PySem.W.keepIn K (.ref fR) = true) (mr : mg "range" = none) :
    FnOk P w K mg base CX0 3 f fd ["tape", "m"] (spSame CA CT) := by
  refine F.ok scLSame (fun vs H Q E h => ?_) (fun cdv A outer s H vs Q E hr h => ?_)
  · obtain ⟨m, A, S, rU, rO, t, la, aU, aO, u, d, sU, sO, RU, RO, rfl, _⟩ := h
    rfl
  · obtain ⟨m, A', S, rU, rO, t, la, aU, aO, u, d, sU, sO, RU, RO, rfl, mo, ta, oU, oO, lU, lO, q⟩ := h
    refine ⟨_, (pss_cons (ps_for PassesOwn.never rfl (pi_range1 rfl mr (pa_cons pe_int pa_nil)) (pg_name (i := 2) scLSame.nd rfl (.inl rfl))
        (pss_one (ps_if (PW.pt (pw_or (pt_cmpR op_ne (pe_fld (pe_ix ix_list (pe_fld (pv 0) rfl) (pv 2) (fun _ _ => rfl)) rfl) (pe_call GR hr (by rfl) gR kR bR .nil pass0 (pa_cons (pe_ix ix_list (pe_ix ix_list (pv 1) pe_int (fun _ _ => rfl)) (pv 2) (fun _ _ => rfl)) pa_nil)) (nomark _))
            (pw_or1 (pt_cmpR op_ne (pe_fld (pe_ix ix_list (pe_fld (pv 0) rfl) (pv 2) (fun _ _ => rfl)) rfl) (pe_ix ix_list (pe_ix ix_list (pv 1) pe_int (fun _ _ => rfl)) (pv 2) (fun _ _ => rfl)) (nomark _))))) (pss_one (ps_ret pe_bl)) pss_nil)))
      (pss_one (ps_ret (pe_cmpR op_eq (pe_fld (pv 0) rfl) (pe_ix ix_list (pv 1) pe_int (fun _ _ => rfl)) (nomark _))))), ?_⟩
    have u2 := mo.u2
    refine ⟨_, rfl, by decide, by decide, ?_⟩
    refine for_range (n := 2) (fun i σ H' => ∃ y : Option V, σ = [some (.ref t), some (.ref m), y] ∧ Same H H') ⟨none, rfl, Same.refl _⟩ ?_ ?_
    · rintro i σ H' hi ⟨y, rfl, s1⟩
      rw [Int.zero_add (i : Int)]
      have ta1 := ta.same s1
      have mo1 := mo.same s1
      obtain ⟨dx, h1⟩ := id ta1.tp
      obtain ⟨aV, dV, rV, RV, sV, asV, eA, hV, eR, gR', tR, oV, lV, eS⟩ : ∃ (aV dV rV : Addr) (RV : Rw) (sV : Nat) (asV : List Addr), (sel u (V.ref aU) (V.ref aO))[i]? = some (.ref aV) ∧ H' aV = some (areaO CA dV (flatR RV) sV) ∧ (sel u (V.ref rU) (V.ref rO))[i]? = some (.ref rV) ∧ H' rV = some (.lst (asV.map V.ref)) ∧ Tups H' asV RV ∧ okR RV ∧ RV.length ≤ 100 ∧
          (sel u (V.int (sU : Int)) (V.int (sO : Int)))[i]? = some (.int (sV : Int)) := by
        obtain ⟨dU, hU⟩ := id ta1.hU
        obtain ⟨dO, hO⟩ := id ta1.hO
        obtain ⟨a1, g1, t1⟩ := id mo1.hU
        obtain ⟨a2, g2, t2⟩ := id mo1.hO
        by_cases ei : i = u
        · subst ei
          exact ⟨aU, dU, rU, RU, sU, a1, sel_u u2 _ _, hU, sel_u u2 _ _, g1, t1, oU, lU, sel_u u2 _ _⟩
        · have ei2 : i = 1 - u := by omega
          subst ei2
          exact ⟨aO, dO, rO, RO, sO, a2, sel_o u2 _ _, hO, sel_o u2 _ _, g2, t2, oO, lO, sel_o u2 _ _⟩
      refine ⟨_, rfl, t, CT, dx, _, _, rfl, h1, T.clT, T.nA, getT_a la u d, _, rfl, la, _, _, .ref aV, rfl, rfl, SqL.of ta1.li, atI_nat eA, aV, CA, dV, _, _, rfl, hV, T.clA, T.nD, getA_d _ _, ?_⟩
      refine ⟨_, rfl, m, _, 0, .ref A', rfl, rfl, SqL.of mo1.hm, atI_nat (j := 0) rfl, _, rfl, A', _, _, .ref rV, rfl, rfl, SqL.of mo1.hA, atI_nat eR, ?_⟩
      dsimp only [tNil]
      refine ⟨rV, asV, RV, rfl, gR', tR, oV, lV, fun H2 s2 => ?_⟩
      have s02 := same_trans s1 s2
      have ta2 := ta1.same s2
      have mo2 := mo1.same s2
      obtain ⟨dx2, h2⟩ := id ta2.tp
      refine ⟨rfl, _, rfl, ite2 (fun z => absurd z (by simp)) (fun _ => ?_)⟩
      refine ⟨_, rfl, t, CT, dx2, _, _, rfl, h2, T.clT, T.nA, getT_a la u d, _, rfl, la, _, _, .ref aV, rfl, rfl, SqL.of ta2.li, atI_nat eA, aV, CA, dV, _, _, rfl, s2 _ _ hV, T.clA, T.nS, getA_s _ _, ?_⟩
      refine ⟨_, rfl, m, _, 1, .ref S, rfl, rfl, SqL.of mo2.hm, atI_nat (j := 1) rfl, _, rfl, S, _, _, .int (sV : Int), rfl, rfl, SqL.of mo2.hS, atI_nat eS, rfl, _, rfl, ite2 (fun z => absurd z (by simp)) (fun _ => ?_)⟩
      exact ⟨_, rfl, s02⟩
    · rintro σ H' ⟨y, rfl, s1⟩
      have ta1 := ta.same s1
      have mo1 := mo.same s1
      obtain ⟨dx, h1⟩ := id ta1.tp
      refine ⟨_, rfl, t, CT, dx, _, _, rfl, h1, T.clT, T.nU, getT_u la u d, _, rfl, m, _, 2, .int (u : Int), rfl, rfl, SqL.of mo1.hm, atI_nat (j := 2) rfl, rfl, ?_⟩
      have e : decide (V.int (u : Int) = V.int (u : Int)) = true := decide_eq_true rfl
      show Q (V.bl (decide (V.int (u : Int) = V.int (u : Int)))) _
      rw [e]
      exact q _ s1
end
end K85
namespace K85
open PySem PySem.Spec PyProof.Rows L2 QR TL
open GxR (TabB TabG Tabbed GenS)
/-- where the law stands before its turn i -/
structure LI (g : Bool) (T1 T2 CA CT : Addr) (i : Nat) (H : Hp) (p c t la aU aO m A S rU rO ap sy : Addr) (u d n : Nat) (RU RO : Rw) (sU sO : Nat) (B Sy : List (List Nat)) : Prop where
  st : StateAt H p c
  mo : ModAt H m A S rU rO u d RU RO sU sO
  ta : TapeAt CA CT H t la aU aO u d (flatR RU) (flatR RO) sU sO
  t1 : TabG H T1
  t2 : TabG H T2
  ha : H ap = some (.lst (strsV B))
  hs : (g = true ∧ H sy = some (.lst (strsV Sy))) ∨ (g = false ∧ sy = T1)
  ti : TInv d n RU RO sU sO B Sy
  dj : ∀ y ∈ [m, A, S, rU, rO], y ∉ [p, c, t, la, aU, aO, ap, sy]
  dj2 : ∀ y ∈ [p, c], y ∉ [t, la, aU, aO, ap, sy]
  dj3 : ∀ y ∈ [ap, sy], y ∉ [t, la, aU, aO]
  ne : ap ≠ sy
  cn : n ≤ 101 + i
  cB : B.length ≤ 6 + i
section
variable {g : Bool} {T1 T2 CA CT : Addr} {i : Nat} {H H' : Hp} {p c t la aU aO m A S rU rO ap sy : Addr} {u d n : Nat} {RU RO : Rw} {sU sO : Nat} {B Sy : List (List Nat)}
theorem LI.kept (h : LI g T1 T2 CA CT i H p c t la aU aO m A S rU rO ap sy u d n RU RO sU sO B Sy) (k : ∀ b o, b ∉ [p, c] → H b = some o → H' b = some o) (st' : StateAt H' p c) : LI g T1 T2 CA CT i H' p c t la aU aO m A S rU rO ap sy u d n RU RO sU sO B Sy := by
  obtain ⟨st, mo, ta, t1, t2, ha, hs, ti, dj, dj2, dj3, ne, cn, cB⟩ := h
  obtain ⟨⟨x1, e1⟩, ⟨x2, e2⟩⟩ := st.lst
  have nT : ∀ {T : Addr}, TabG H T → T ∉ [p, c] := fun h hm => by
    obtain ⟨ps, e, _⟩ := h
    simp only [List.mem_cons, List.not_mem_nil, or_false] at hm
    rcases hm with z | z
    · rw [z, e1] at e; cases e
    · rw [z, e2] at e; cases e
  have kT : ∀ {T : Addr}, TabG H T → TabG H' T := fun h => by
    have n := nT h
    obtain ⟨ps, e, q⟩ := h
    exact ⟨ps, k _ _ n e, q⟩
  have nm : ∀ y ∈ [m, A, S, rU, rO], y ∉ [p, c] := fun y hy z => dj y hy (by
    simp only [List.mem_cons, List.not_mem_nil, or_false] at z ⊢
    rcases z with z | z <;> simp [z])
  have nt : ∀ y ∈ [t, la, aU, aO, ap, sy], y ∉ [p, c] := fun y hy z => dj2 y z hy
  have kt : ∀ {as : List Addr} {rs : List (Nat × List Nat)}, Tups H as rs → Tups H' as rs := fun tu => tu.mono fun a r e => k a _ (fun hm => by
    simp only [List.mem_cons, List.not_mem_nil, or_false] at hm
    rcases hm with z | z
    · rw [z, e1] at e; cases e
    · rw [z, e2] at e; cases e) e
  refine ⟨st', ?_, ?_, kT t1, kT t2, k _ _ (nt _ (by simp)) ha, hs.imp (fun z => ⟨z.1, k _ _ (nt _ (by simp)) z.2⟩) (fun z => z), ti, dj, dj2, dj3, ne, cn, cB⟩
  · obtain ⟨g1, g2, g3, ⟨a1, g4, g5⟩, ⟨a2, g6, g7⟩, nd, u2⟩ := mo
    exact ⟨k _ _ (nm _ (by simp)) g1, k _ _ (nm _ (by simp)) g2, k _ _ (nm _ (by simp)) g3, ⟨a1, k _ _ (nm _ (by simp)) g4, kt g5⟩, ⟨a2, k _ _ (nm _ (by simp)) g6, kt g7⟩, nd, u2⟩
  · obtain ⟨⟨d1, g1⟩, g2, ⟨d3, g3⟩, ⟨d4, g4⟩, ne, u2⟩ := ta
    exact ⟨⟨d1, k _ _ (nt _ (by simp)) g1⟩, k _ _ (nt _ (by simp)) g2, ⟨d3, k _ _ (nt _ (by simp)) g3⟩, ⟨d4, k _ _ (nt _ (by simp)) g4⟩, ne, u2⟩
theorem LI.drawn (h : LI g T1 T2 CA CT i H p c t la aU aO m A S rU rO ap sy u d n RU RO sU sO B Sy) (st' : StateAt H' p c) (dr : Drawn p c H H') : LI g T1 T2 CA CT i H' p c t la aU aO m A S rU rO ap sy u d n RU RO sU sO B Sy :=
  h.kept (fun b o hb e => (dr b (fun z => hb (by simp [z])) (fun z => hb (by simp [z]))).trans e) st'
theorem LI.same (h : LI g T1 T2 CA CT i H p c t la aU aO m A S rU rO ap sy u d n RU RO sU sO B Sy) (s : Same H H') : LI g T1 T2 CA CT i H' p c t la aU aO m A S rU rO ap sy u d n RU RO sU sO B Sy :=
  h.kept (fun b o _ e => s b o e) (h.st.mono (fun o e => s _ _ e) (fun o e => s _ _ e))
theorem LI.lU (h : LI g T1 T2 CA CT i H p c t la aU aO m A S rU rO ap sy u d n RU RO sU sO B Sy) : RU.length ≤ i + 8 := by
  have := h.ti.lenU
  have := h.cB
  omega
theorem LI.lO (h : LI g T1 T2 CA CT i H p c t la aU aO m A S rU rO ap sy u d n RU RO sU sO B Sy) : RO.length ≤ i + 8 := by
  have := h.ti.lenO
  have := h.cB
  omega
theorem LI.s20 (h : LI g T1 T2 CA CT i H p c t la aU aO m A S rU rO ap sy u d n RU RO sU sO B Sy) : ∀ y ∈ B, y.length ≤ 20 := fun y hy => by
  rw [← h.ti.tx] at hy
  exact (h.ti.okU _ (texts_mem hy)).2.2
theorem LI.syn (h : LI g T1 T2 CA CT i H p c t la aU aO m A S rU rO ap sy u d n RU RO sU sO B Sy) : H sy ≠ none := fun e => by
  rcases h.hs with ⟨_, z⟩ | ⟨_, z⟩
  · rw [e] at z
    cases z
  · obtain ⟨ps, q, _⟩ := h.t1
    rw [z, q] at e
    cases e
theorem LI.hsy (h : LI true T1 T2 CA CT i H p c t la aU aO m A S rU rO ap sy u d n RU RO sU sO B Sy) : H sy = some (.lst (strsV Sy)) := by
  rcases h.hs with ⟨_, z⟩ | ⟨z, _⟩
  · exact z
  · cases z
/-- a new address is none of them -/
theorem LI.new (h : LI g T1 T2 CA CT i H p c t la aU aO m A S rU rO ap sy u d n RU RO sU sO B Sy) {a : Addr} (na : H a = none) : a ∉ [p, c, t, la, aU, aO, m, A, S, rU, rO, ap, sy] := fun hm => by
  obtain ⟨⟨_, e1⟩, ⟨_, e2⟩⟩ := h.st.lst
  obtain ⟨_, g1⟩ := h.ta.tp
  obtain ⟨_, g2⟩ := h.ta.hU
  obtain ⟨_, g3⟩ := h.ta.hO
  have g4 := h.ta.li
  obtain ⟨_, g5, _⟩ := h.mo.hU
  obtain ⟨_, g6, _⟩ := h.mo.hO
  simp only [List.mem_cons, List.not_mem_nil, or_false] at hm
  rcases hm with z | z | z | z | z | z | z | z | z | z | z | z | z <;> rw [z] at na
  · rw [e1] at na; cases na
  · rw [e2] at na; cases na
  · rw [g1] at na; cases na
  · rw [g4] at na; cases na
  · rw [g2] at na; cases na
  · rw [g3] at na; cases na
  · rw [h.mo.hm] at na; cases na
  · rw [h.mo.hA] at na; cases na
  · rw [h.mo.hS] at na; cases na
  · rw [g5] at na; cases na
  · rw [g6] at na; cases na
  · rw [h.ha] at na; cases na
  · exact h.syn na
end
/-! ### the head of an area; what a cut area holds -/
theorem parse_head {R : Rw} {n : Nat} (hh : HeadIs R n) (ne : R ≠ []) : ∃ r3, parse (flatR R).length (flatR R) = some (1, numL n, r3) := by
  cases R with
  | nil => exact absurd rfl ne
  | cons r Z =>
    obtain rfl := head_get hh rfl
    have l := recL_len 1 (numL n)
    exact ⟨flatR Z, parse_rec (Nat.le_refl 1) (show 1 ≤ 3 by omega) (by
      show (numL n).length ≤ (recL 1 (numL n) ++ flatR Z).length
      rw [List.length_append]
      omega)⟩
theorem area_cut {R : Rw} {n m : Nat} (ok : okR R) (hh : HeadIs R n) (hn : n ≤ 1000) (lR : R.length ≤ 80) : AreaIs ((flatR R).take m) (keptR R m) n := by
  obtain ⟨e1, e2⟩ := recs_cut ((flatR R).take m).length R m ok (Nat.le_refl _)
  have fl := flat_len R ok
  have lt : (flatR (keptR R m)).length ≤ ((flatR R).take m).length := by
    have := congrArg List.length (flat_kept_take R m)
    rw [List.length_take] at this
    omega
  refine ⟨?_, e1, ?_, Nat.le_trans (kept_pre R m).length_le (by omega), head_pre (kept_pre R m) hh, hn⟩
  · rw [List.length_take]
    omega
  · rw [e2, show ((flatR R).take m).length - (((flatR R).take m).length - (flatR (keptR R m)).length) = (flatR (keptR R m)).length by omega]
    exact flat_kept_take R m
/-! ### lists of texts as data -/
def strsD (A : List (List Nat)) : PyData := .list (A.map fun y => .str (Sg y))
theorem dpAll_strs {K : PySem.W.Frag} {H : Hp} : ∀ A : List (List Nat), DpAll K H (strsV A) (A.map fun y => .str (Sg y))
  | [] => .nil
  | y :: A => .cons (.str _) (dpAll_strs A)
theorem dp_strs {K : PySem.W.Frag} {H : Hp} {a : Addr} {A : List (List Nat)} (h : H a = some (.lst (strsV A))) : Dp K H (.ref a) (strsD A) := .lst (SqL.of h) (dpAll_strs A)
theorem plain_strs (A : List (List Nat)) : (strsD A).plain = true := by
  have : ∀ A : List (List Nat), PyData.plainAll (A.map fun y => PyData.str (Sg y)) = true := by
    intro A
    induction A with
    | nil => rfl
    | cons y A ih =>
      show (PyData.plain (.str (Sg y)) && PyData.plainAll (A.map fun y => PyData.str (Sg y))) = true
      rw [ih]
      rfl
  exact this A
theorem depth_strs (A : List (List Nat)) : (strsD A).depth ≤ 60 := by
  have : ∀ A : List (List Nat), PyData.depthAll (A.map fun y => PyData.str (Sg y)) ≤ 1 := by
    intro A
    induction A with
    | nil => decide
    | cons y A ih =>
      show PyData.depthAll (PyData.str (Sg y) :: A.map fun y => PyData.str (Sg y)) ≤ 1
      simp only [PyData.depthAll, PyData.depth]
      omega
  have := this A
  simp only [strsD, PyData.depth]
  omega
theorem eqv_strs (A : List (List Nat)) : PyData.eqv (strsD A) (strsD A) = true := PySem.SeqAt.eqv_refl_plain _ (plain_strs A)
theorem strs_take (A : List (List Nat)) (n : Nat) : strsV (A.take n) = (strsV A).take n := by
  unfold strsV
  rw [List.map_take]
theorem strs_cut (A : List (List Nat)) (n : Nat) : cutV (strsV A) none (some (n : Int)) = strsV (A.take n) := by
  unfold cutV
  rw [HT.sIx_nat, HT.sIx_none, Nat.sub_zero, List.drop_zero, strs_take]
  rcases Nat.le_total n (strsV A).length with h | h
  · rw [Nat.min_eq_left h]
  · rw [Nat.min_eq_right h, List.take_length, List.take_of_length_le h]
theorem take_pre {α : Type} {a b : List α} (h : a <+: b) : b.take a.length = a := by
  obtain ⟨z, rfl⟩ := h
  exact List.take_left
theorem strs_snoc (A : List (List Nat)) (y : List Nat) : strsV (A ++ [y]) = strsV A ++ [.str (Sg y)] := by
  unfold strsV
  rw [List.map_append]
  rfl
theorem strs_len (A : List (List Nat)) : (strsV A).length = A.length := List.length_map _
end K85
namespace K85
open PySem PySem.Spec PyProof.Rows L2 QR TL
open GxR (TabB TabG Tabbed GenS)
section
variable {g : Bool} {T1 T2 CA CT : Addr} {i : Nat} {H H' : Hp} {p c t la aU aO m A S rU rO ap sy : Addr} {u d n : Nat} {RU RO : Rw} {sU sO : Nat} {B Sy : List (List Nat)}
/-- what stands whatever of these changes -/
theorem LI.base (h : LI g T1 T2 CA CT i H p c t la aU aO m A S rU rO ap sy u d n RU RO sU sO B Sy) {Y : List Addr} (k : ∀ b o, b ∉ Y → H b = some o → H' b = some o) (hY : ∀ y ∈ Y, y ∈ [t, la, aU, aO, m, A, S, rU, rO, ap]) : StateAt H' p c ∧ TabG H' T1 ∧ TabG H' T2 := by
  have h' := h
  obtain ⟨st, mo, ta, t1, t2, ha, hs, ti, dj, dj2, dj3, ne, cn, cB⟩ := h
  have pcY : ∀ y ∈ [p, c], y ∉ Y := fun y hy hm => by
    have h1 := hY y hm
    have h2 := dj2 y hy
    simp only [List.mem_cons, List.not_mem_nil, or_false, not_or] at h1 h2 hy
    have h3 : ∀ z ∈ [m, A, S, rU, rO], y ≠ z := fun z hz e => dj z hz (by rw [← e]; rcases hy with q | q <;> simp [q])
    rcases h1 with e | e | e | e | e | e | e | e | e | e
    · exact h2.1 e
    · exact h2.2.1 e
    · exact h2.2.2.1 e
    · exact h2.2.2.2.1 e
    · exact h3 m (by simp) e
    · exact h3 A (by simp) e
    · exact h3 S (by simp) e
    · exact h3 rU (by simp) e
    · exact h3 rO (by simp) e
    · exact h2.2.2.2.2.1 e
  have kT : ∀ {T : Addr}, TabG H T → TabG H' T := fun {T} hT => by
    have n : T ∉ Y := fun hm => by
      have h1 := hY T hm
      obtain ⟨ps, e, _⟩ := hT
      obtain ⟨_, g1⟩ := ta.tp
      obtain ⟨_, g2⟩ := ta.hU
      obtain ⟨_, g3⟩ := ta.hO
      have g4 := ta.li
      obtain ⟨_, g5, _⟩ := mo.hU
      obtain ⟨_, g6, _⟩ := mo.hO
      simp only [List.mem_cons, List.not_mem_nil, or_false] at h1
      rcases h1 with z | z | z | z | z | z | z | z | z | z <;> rw [z] at e
      · rw [g1] at e; cases e
      · rw [g4] at e; cases e
      · rw [g2] at e; cases e
      · rw [g3] at e; cases e
      · rw [mo.hm] at e; cases e
      · rw [mo.hA] at e; cases e
      · rw [mo.hS] at e; cases e
      · rw [g5] at e; cases e
      · rw [g6] at e; cases e
      · rw [ha] at e; cases e
    obtain ⟨ps, e, q⟩ := hT
    exact ⟨ps, k _ _ n e, q⟩
  exact ⟨st.mono (fun o e => k _ _ (pcY p (by simp)) e) (fun o e => k _ _ (pcY c (by simp)) e), kT t1, kT t2⟩
end
theorem ModAt.ou {H H' : Hp} {m A S rU rO : Addr} {Y : List Addr} {u d : Nat} {RU RO : Rw} {sU sO : Nat} (h : ModAt H m A S rU rO u d RU RO sU sO) (k : ∀ b o, b ∉ Y → H b = some o → H' b = some o) (n : ∀ y ∈ [m, A, S, rU, rO], y ∉ Y) (nt : ∀ y ∈ Y, ∀ r, H y ≠ some (rowH r)) : ModAt H' m A S rU rO u d RU RO sU sO := by
  obtain ⟨g1, g2, g3, ⟨a1, g4, g5⟩, ⟨a2, g6, g7⟩, nd, u2⟩ := h
  have kt : ∀ {as : List Addr} {rs : List (Nat × List Nat)}, Tups H as rs → Tups H' as rs := fun tu => tu.mono fun a r e => k a _ (fun hm => nt a hm r e) e
  exact ⟨k _ _ (n _ (by simp)) g1, k _ _ (n _ (by simp)) g2, k _ _ (n _ (by simp)) g3, ⟨a1, k _ _ (n _ (by simp)) g4, kt g5⟩, ⟨a2, k _ _ (n _ (by simp)) g6, kt g7⟩, nd, u2⟩
theorem TapeAt.ou {CA CT : Addr} {H H' : Hp} {t la aU aO : Addr} {Y : List Addr} {u d sU sO : Nat} {lU lO : List Nat} (h : TapeAt CA CT H t la aU aO u d lU lO sU sO) (k : ∀ b o, b ∉ Y → H b = some o → H' b = some o) (n : ∀ y ∈ [t, la, aU, aO], y ∉ Y) : TapeAt CA CT H' t la aU aO u d lU lO sU sO := by
  obtain ⟨⟨d1, g1⟩, g2, ⟨d3, g3⟩, ⟨d4, g4⟩, ne, u2⟩ := h
  exact ⟨⟨d1, k _ _ (n _ (by simp)) g1⟩, k _ _ (n _ (by simp)) g2, ⟨d3, k _ _ (n _ (by simp)) g3⟩, ⟨d4, k _ _ (n _ (by simp)) g4⟩, ne, u2⟩
theorem tape_ins {CA CT : Addr} {H : Hp} {t la aU aO : Addr} {u d sU sO : Nat} {lU lO : List Nat} (h : TapeAt CA CT H t la aU aO u d lU lO sU sO) : ∀ y ∈ [t, aU, aO], ∃ C dx fs, H y = some (.ins C dx fs) := by
  obtain ⟨⟨d1, g1⟩, _, ⟨d3, g3⟩, ⟨d4, g4⟩, _, _⟩ := h
  intro y hy
  simp only [List.mem_cons, List.not_mem_nil, or_false] at hy
  rcases hy with z | z | z <;> rw [z]
  · exact ⟨_, _, _, g1⟩
  · exact ⟨_, _, _, g3⟩
  · exact ⟨_, _, _, g4⟩
theorem ins_row {H : Hp} {y : Addr} (h : ∃ C dx fs, H y = some (.ins C dx fs)) (r : Nat × List Nat) : H y ≠ some (rowH r) := by
  obtain ⟨C, dx, fs, e⟩ := h
  rw [e]
  exact fun z => nomatch z
theorem Ch.ou {S : List Addr} {H H' : Hp} (h : Ch S H H') : ∀ b o, b ∉ S → H b = some o → H' b = some o := fun b o n e => (h b n).trans e
/-- the law's look at both -/
def tSame (CA CT : Addr) : TS := tIfS (tNot (tB (tCall (spSame CA CT) [] E0 (tCons (tVar 2) (tCons (tVar 3) tNil))))) (tRet (tC (.bl false))) tNext
theorem same_ok {g : Bool} {T1 T2 CA CT : Addr} {i : Nat} {H : Hp} {p c t la aU aO m A S rU rO ap sy : Addr} {u d n : Nat} {RU RO : Rw} {sU sO : Nat} {B Sy : List (List Nat)} {D : Ends} {σ : L2.St} (h2 : σ[2]? = some (some (.ref t))) (h3 : σ[3]? = some (some (.ref m)))
    (h : LI g T1 T2 CA CT i H p c t la aU aO m A S rU rO ap sy u d n RU RO sU sO B Sy) (hi : i ≤ 14) (k : ∀ H2, Same H H2 → D.nx σ H2) : tSame CA CT D σ H := by
  have l1 := h.lU
  have l2 := h.lO
  refine ⟨_, h2, _, h3, ?_⟩
  dsimp only [tNil]
  refine ⟨m, A, S, rU, rO, t, la, aU, aO, u, d, sU, sO, RU, RO, rfl, h.mo, h.ta, h.ti.okU, h.ti.okO, by omega, by omega, fun H2 s2 => ⟨true, rfl, ?_⟩⟩
  refine iteF ?_
  exact k H2 s2
theorem LI.succ {g : Bool} {T1 T2 CA CT : Addr} {i : Nat} {H : Hp} {p c t la aU aO m A S rU rO ap sy : Addr} {u d n : Nat} {RU RO : Rw} {sU sO : Nat} {B Sy : List (List Nat)} (h : LI g T1 T2 CA CT i H p c t la aU aO m A S rU rO ap sy u d n RU RO sU sO B Sy) : LI g T1 T2 CA CT (i + 1) H p c t la aU aO m A S rU rO ap sy u d n RU RO sU sO B Sy :=
  ⟨h.st, h.mo, h.ta, h.t1, h.t2, h.ha, h.hs, h.ti, h.dj, h.dj2, h.dj3, h.ne, Nat.le_succ_of_le h.cn, Nat.le_succ_of_le h.cB⟩
/-- what is old or new stays apart -/
theorem LI.djs {g : Bool} {T1 T2 CA CT : Addr} {i : Nat} {H : Hp} {p c t la aU aO m A S rU rO ap sy : Addr} {u d n : Nat} {RU RO : Rw} {sU sO : Nat} {B Sy : List (List Nat)} (h : LI g T1 T2 CA CT i H p c t la aU aO m A S rU rO ap sy u d n RU RO sU sO B Sy)
    {S' rU' rO' ap' sy' : Addr} (hM : ∀ y ∈ [S', rU', rO'], y ∈ [m, A, S, rU, rO] ∨ H y = none) (hap : ap' = ap ∨ H ap' = none) (hsy : sy' = sy ∨ H sy' = none)
    (n1 : ∀ y ∈ [S', rU', rO'], (H ap' = none → y ≠ ap') ∧ (H sy' = none → y ≠ sy')) :
    (∀ y ∈ [m, A, S', rU', rO'], y ∉ [p, c, t, la, aU, aO, ap', sy']) ∧ (∀ y ∈ [p, c], y ∉ [t, la, aU, aO, ap', sy']) ∧ ∀ y ∈ [ap', sy'], y ∉ [t, la, aU, aO] := by
  have nw : ∀ {a : Addr}, H a = none → ∀ z ∈ [p, c, t, la, aU, aO, m, A, S, rU, rO, ap, sy], a ≠ z := fun na z hz e => h.new na (by rw [e]; exact hz)
  have old1 : ∀ z ∈ [p, c, t, la, aU, aO], ∀ y, (y ∈ [m, A, S, rU, rO] ∨ H y = none) → y ≠ z := fun z hz y hy e => by
    rcases hy with hy | hy
    · exact h.dj y hy (by rw [e]; simp only [List.mem_cons, List.not_mem_nil, or_false] at hz ⊢; rcases hz with q | q | q | q | q | q <;> simp [q])
    · exact nw hy z (by simp only [List.mem_cons, List.not_mem_nil, or_false] at hz ⊢; rcases hz with q | q | q | q | q | q <;> simp [q]) e
  have asz : ∀ x, (x = ap ∨ x = sy ∨ H x = none) → ∀ z ∈ [p, c, t, la, aU, aO], x ≠ z := fun x hx z hz e => by
    have hz6 : z ∈ [p, c] ∨ z ∈ [t, la, aU, aO] := by
      simp only [List.mem_cons, List.not_mem_nil, or_false] at hz ⊢
      rcases hz with q | q | q | q | q | q <;> simp [q]
    rcases hx with hx | hx | hx
    · rcases hz6 with q | q
      · exact h.dj2 z q (by rw [← e, hx]; simp)
      · exact h.dj3 ap (by simp) (by rw [← hx, e]; exact q)
    · rcases hz6 with q | q
      · exact h.dj2 z q (by rw [← e, hx]; simp)
      · exact h.dj3 sy (by simp) (by rw [← hx, e]; exact q)
    · exact nw hx z (by simp only [List.mem_cons, List.not_mem_nil, or_false] at hz ⊢; rcases hz with q | q | q | q | q | q <;> simp [q]) e
  have hap3 : ap' = ap ∨ ap' = sy ∨ H ap' = none := by
    rcases hap with e | e
    · exact .inl e
    · exact .inr (.inr e)
  have hsy3 : sy' = ap ∨ sy' = sy ∨ H sy' = none := by
    rcases hsy with e | e
    · exact .inr (.inl e)
    · exact .inr (.inr e)
  refine ⟨fun y hy hm => ?_, fun y hy hm => ?_, fun y hy hm => ?_⟩
  · have yo : y ∈ [m, A, S, rU, rO] ∨ H y = none := by
      simp only [List.mem_cons, List.not_mem_nil, or_false] at hy
      rcases hy with e | e | e | e | e
      · exact .inl (by simp [e])
      · exact .inl (by simp [e])
      · exact hM y (by simp [e])
      · exact hM y (by simp [e])
      · exact hM y (by simp [e])
    have hx : ∀ x, (x = ap ∨ x = sy ∨ H x = none) → (H x = none → ∀ z ∈ [S', rU', rO'], z ≠ x) → y ≠ x := fun x hx hn e => by
      rcases hx with q | q | q
      · rcases yo with yo | yo
        · exact h.dj y yo (by rw [e, q]; simp)
        · exact nw yo ap (by simp) (by rw [← q]; exact e)
      · rcases yo with yo | yo
        · exact h.dj y yo (by rw [e, q]; simp)
        · exact nw yo sy (by simp) (by rw [← q]; exact e)
      · by_cases h3 : y ∈ [S', rU', rO']
        · exact hn q y h3 e
        · have : y ∈ [m, A] := by
            simp only [List.mem_cons, List.not_mem_nil, or_false, not_or] at hy h3 ⊢
            rcases hy with z | z | z | z | z
            · exact .inl z
            · exact .inr z
            · exact absurd z h3.1
            · exact absurd z h3.2.1
            · exact absurd z h3.2.2
          exact nw q y (by simp only [List.mem_cons, List.not_mem_nil, or_false] at this ⊢; rcases this with z | z <;> simp [z]) e.symm
    simp only [List.mem_cons, List.not_mem_nil, or_false] at hm
    rcases hm with e | e | e | e | e | e | e | e
    · exact old1 p (by simp) y yo e
    · exact old1 c (by simp) y yo e
    · exact old1 t (by simp) y yo e
    · exact old1 la (by simp) y yo e
    · exact old1 aU (by simp) y yo e
    · exact old1 aO (by simp) y yo e
    · exact hx ap' hap3 (fun q z hz => (n1 z hz).1 q) e
    · exact hx sy' hsy3 (fun q z hz => (n1 z hz).2 q) e
  · have h2 := h.dj2 y hy
    have hy6 : y ∈ [p, c, t, la, aU, aO] := by
      simp only [List.mem_cons, List.not_mem_nil, or_false] at hy ⊢
      rcases hy with q | q <;> simp [q]
    simp only [List.mem_cons, List.not_mem_nil, or_false, not_or] at hm h2
    rcases hm with e | e | e | e | e | e
    · exact h2.1 e
    · exact h2.2.1 e
    · exact h2.2.2.1 e
    · exact h2.2.2.2.1 e
    · exact asz ap' hap3 y hy6 e.symm
    · exact asz sy' hsy3 y hy6 e.symm
  · have hm6 : y ∈ [p, c, t, la, aU, aO] := by
      simp only [List.mem_cons, List.not_mem_nil, or_false] at hm ⊢
      rcases hm with q | q | q | q <;> simp [q]
    simp only [List.mem_cons, List.not_mem_nil, or_false] at hy
    rcases hy with e | e
    · exact asz ap' hap3 y hm6 e.symm
    · exact asz sy' hsy3 y hm6 e.symm
theorem LI.newA {g : Bool} {T1 T2 CA CT : Addr} {i : Nat} {H : Hp} {p c t la aU aO m A S rU rO ap sy x : Addr} {u d n : Nat} {RU RO : Rw} {sU sO : Nat} {B Sy : List (List Nat)} (h : LI g T1 T2 CA CT i H p c t la aU aO m A S rU rO ap sy u d n RU RO sU sO B Sy) (nx : H x = none) :
    LI g T1 T2 CA CT i (upd H x (.lst (strsV B))) p c t la aU aO m A S rU rO x sy u d n RU RO sU sO B Sy := by
  have li := h.same (same_new (o := .lst (strsV B)) nx)
  have hn := h.new nx
  simp only [List.mem_cons, List.not_mem_nil, or_false, not_or] at hn
  obtain ⟨_, _, _, _, _, _, _, _, q1, q2, q3, _, q5⟩ := hn
  obtain ⟨j1, j2, j3⟩ := h.djs (S' := S) (rU' := rU) (rO' := rO) (ap' := x) (sy' := sy) (fun y hy => .inl (by
    simp only [List.mem_cons, List.not_mem_nil, or_false] at hy ⊢
    rcases hy with q | q | q <;> simp [q])) (.inr nx) (.inl rfl) (fun y hy => ⟨fun _ z => by
      simp only [List.mem_cons, List.not_mem_nil, or_false] at hy
      rcases hy with q | q | q
      · exact q1 (z ▸ q)
      · exact q2 (z ▸ q)
      · exact q3 (z ▸ q), fun e => absurd e h.syn⟩)
  exact ⟨li.st, li.mo, li.ta, li.t1, li.t2, upd_same, li.hs, li.ti, j1, j2, j3, q5, li.cn, li.cB⟩
theorem LI.newS {g : Bool} {T1 T2 CA CT : Addr} {i : Nat} {H : Hp} {p c t la aU aO m A S rU rO ap sy x : Addr} {u d n : Nat} {RU RO : Rw} {sU sO : Nat} {B Sy : List (List Nat)} (h : LI g T1 T2 CA CT i H p c t la aU aO m A S rU rO ap sy u d n RU RO sU sO B Sy) (nx : H x = none) :
    LI true T1 T2 CA CT i (upd H x (.lst (strsV Sy))) p c t la aU aO m A S rU rO ap x u d n RU RO sU sO B Sy := by
  have li := h.same (same_new (o := .lst (strsV Sy)) nx)
  have hn := h.new nx
  simp only [List.mem_cons, List.not_mem_nil, or_false, not_or] at hn
  obtain ⟨_, _, _, _, _, _, _, _, q1, q2, q3, q4, _⟩ := hn
  obtain ⟨j1, j2, j3⟩ := h.djs (S' := S) (rU' := rU) (rO' := rO) (ap' := ap) (sy' := x) (fun y hy => .inl (by
    simp only [List.mem_cons, List.not_mem_nil, or_false] at hy ⊢
    rcases hy with q | q | q <;> simp [q])) (.inl rfl) (.inr nx) (fun y hy => ⟨fun e => (by rw [h.ha] at e; cases e), fun _ z => by
      simp only [List.mem_cons, List.not_mem_nil, or_false] at hy
      rcases hy with q | q | q
      · exact q1 (z ▸ q)
      · exact q2 (z ▸ q)
      · exact q3 (z ▸ q)⟩)
  exact ⟨li.st, li.mo, li.ta, li.t1, li.t2, li.ha, .inl ⟨rfl, upd_same⟩, li.ti, j1, j2, j3, Ne.symm q4, li.cn, li.cB⟩
/-- the roles of the areas are turned -/
theorem dj_sw {p c t la aU aO ap sy y : Addr} (h : y ∉ [p, c, t, la, aU, aO, ap, sy]) : y ∉ [p, c, t, la, aO, aU, ap, sy] := fun hm => h (by
  simp only [List.mem_cons, List.not_mem_nil, or_false] at hm ⊢
  rcases hm with q | q | q | q | q | q | q | q <;> simp [q])
theorem dj_sw2 {t la aU aO ap sy y : Addr} (h : y ∉ [t, la, aU, aO, ap, sy]) : y ∉ [t, la, aO, aU, ap, sy] := fun hm => h (by
  simp only [List.mem_cons, List.not_mem_nil, or_false] at hm ⊢
  rcases hm with q | q | q | q | q | q <;> simp [q])
theorem dj_sw3 {t la aU aO y : Addr} (h : y ∉ [t, la, aU, aO]) : y ∉ [t, la, aO, aU] := fun hm => h (by
  simp only [List.mem_cons, List.not_mem_nil, or_false] at hm ⊢
  rcases hm with q | q | q | q <;> simp [q])
end K85
namespace K85
open PySem PySem.Spec PyProof.Rows L2 QR TL
open GxR (TabB TabG Tabbed GenS)
open C8 (pss_cut tCut)
abbrev sLComp : Stmt := topS 34
theorem scLComp : FnScope ["state", "tape", "m", "appended", "many", "k", "text", "word"] ["state", "tape", "m", "appended"] (defScope sLComp) := ⟨rfl, rfl, rfl, by decide +kernel, rfl, by decide +kernel, by decide +kernel⟩
def wordsV : List V := [.str "begin", .str "mark", .str "switch"]
theorem words_at : ∀ k, k < 3 → wordsV[k]? = some (.str (wordS k)) := fun k hk => by
  match k, hk with
  | 0, _ => rfl
  | 1, _ => rfl
  | 2, _ => rfl
/-- behind a step of both, the k-th one -/
theorem LI.stepped {g : Bool} {T1 T2 CA CT : Addr} {i : Nat} {H7 H8 H8' H9 : Hp} {p c t la aU aO m A S rU rO ap sy S' rU' rO' : Addr} {u d n k : Nat} {RU RO : Rw} {sU sO : Nat} {B Sy : List (List Nat)}
    (li7 : LI g T1 T2 CA CT i H7 p c t la aU aO m A S rU rO ap sy u d n RU RO sU sO B Sy) (neT : T1 ≠ T2) (hgf : g = false) (hk3 : k < 3) (ED : d = k) (hi : i ≤ 20)
    (sm : StepMod H8 m A S rU rO S' rU' rO' u n RU RO sU sO B k) (ou8 : Ou [m, A, S, rU, rO] H7 H8) (nw : ∀ y ∈ [S', rU', rO'], y ∈ [m, A, S, rU, rO] ∨ H7 y = none) (s8 : Same H8 H8')
    (stp : StepTape CA CT H9 t la aU aO u n (flatR RU) (flatR RO) sU sO B k) (fr9 : Fr T1 T2 [t, aU, aO] H8' H9) (hn : n + 1 ≤ 101 + i) :
    ∃ (aU' aO' : Addr) (u' d' n' : Nat) (RU' RO' : Rw) (sU' sO' : Nat) (Sy' : List (List Nat)), LI g T1 T2 CA CT i H9 p c t la aU' aO' m A S' rU' rO' ap sy u' d' n' RU' RO' sU' sO' B Sy' ∧ ((k < 2 ∧ d' = k + 1 ∧ n' = n) ∨ (k = 2 ∧ d' = 0 ∧ n' = n + 1 ∧ Sy' = B)) := by
  have dj := li7.dj
  have tpn : ∀ y ∈ [t, la, aU, aO], y ∉ [m, A, S, rU, rO] := fun y hy z => dj y z (by
    simp only [List.mem_cons, List.not_mem_nil, or_false] at hy ⊢
    rcases hy with q | q | q | q <;> simp [q])
  have apn : ∀ y ∈ [ap, sy], y ∉ [m, A, S, rU, rO] := fun y hy z => dj y z (by
    simp only [List.mem_cons, List.not_mem_nil, or_false] at hy ⊢
    rcases hy with q | q <;> simp [q])
  obtain ⟨st8, t18, t28⟩ := li7.base ou8 (by
    intro y hy
    simp only [List.mem_cons, List.not_mem_nil, or_false] at hy ⊢
    rcases hy with z | z | z | z | z <;> simp [z])
  have ta8 := li7.ta.ou ou8 tpn
  have ha8 := ou8 _ _ (apn ap (by simp)) li7.ha
  have f8 : Fr T1 T2 [] H8 H8' := Fr.same t18 t28 neT s8
  have t18' := f8.t1
  have t28' := f8.t2
  have ta8' := ta8.same s8
  have ha8' := s8 _ _ ha8
  have st8' : StateAt H8' p c := st8.mono (fun o e => s8 _ _ e) (fun o e => s8 _ _ e)
  have tpa : ∀ y ∈ [ap, sy], y ∉ [t, aU, aO] := fun y hy z => li7.dj3 y hy (by
    simp only [List.mem_cons, List.not_mem_nil, or_false] at z ⊢
    rcases z with q | q | q <;> simp [q])
  have tpc : ∀ y ∈ [p, c], y ∉ [t, aU, aO] := fun y hy z => li7.dj2 y hy (by
    simp only [List.mem_cons, List.not_mem_nil, or_false] at z ⊢
    rcases z with q | q | q <;> simp [q])
  have ha9 : H9 ap = some (.lst (strsV B)) := fr9.at_ t18' t28' ha8' (fun ps z => nomatch z) (tpa ap (by simp))
  have hs9 : ∀ Sy' : List (List Nat), (g = true ∧ H9 sy = some (.lst (strsV Sy'))) ∨ (g = false ∧ sy = T1) := fun Sy' => by
    rcases li7.hs with ⟨z, _⟩ | z
    · rw [hgf] at z
      cases z
    · exact .inr z
  have st9 : StateAt H9 p c := by
    obtain ⟨⟨seed, ms, g1, g2, g3⟩, ne⟩ := st8'
    exact ⟨⟨seed, ms, fr9.at_ t18' t28' g1 (fun ps z => nomatch z) (tpc p (by simp)), fr9.at_ t18' t28' g2 (fun ps z => nomatch z) (tpc c (by simp)), g3⟩, ne⟩
  obtain ⟨j1, j2, j3⟩ := li7.djs (S' := S') (rU' := rU') (rO' := rO') (ap' := ap) (sy' := sy) nw (.inl rfl) (.inl rfl) (by
    intro y hy
    exact ⟨fun e => (by rw [li7.ha] at e; cases e), fun e => absurd e li7.syn⟩)
  have insT := tape_ins ta8'
  have mnT : ∀ y ∈ [m, A, S', rU', rO'], y ∉ [t, aU, aO] := fun y hy z => j1 y hy (by
    simp only [List.mem_cons, List.not_mem_nil, or_false] at z ⊢
    rcases z with q | q | q <;> simp [q])
  match k, hk3 with
  | 0, _ =>
    have d0 : d = 0 := ED
    subst d0
    have mo8 : ModAt H8' m A S' rU' rO' u 1 RU ((1, numL (n + 1)) :: entR B) sU 0 := ModAt.same sm s8
    have mo9 : ModAt H9 m A S' rU' rO' u 1 RU ((1, numL (n + 1)) :: entR B) sU 0 := ModAt.fr mo8 fr9 t18' t28' mnT (fun y hy r => ins_row (insT y hy) r)
    exact ⟨aU, aO, u, 1, n, _, _, _, _, Sy, ⟨st9, mo9, stp, fr9.t1, fr9.t2, ha9, hs9 Sy, li7.ti.begin (by have := li7.cn; omega), j1, j2, j3, li7.ne, li7.cn, li7.cB⟩, .inl ⟨by decide, rfl, rfl⟩⟩
  | 1, _ =>
    have d1 : d = 1 := ED
    subst d1
    have mo8 : ModAt H8' m A S' rU' rO' u 2 RU (RO ++ [(3, [])]) sU sO := ModAt.same sm s8
    have mo9 : ModAt H9 m A S' rU' rO' u 2 RU (RO ++ [(3, [])]) sU sO := ModAt.fr mo8 fr9 t18' t28' mnT (fun y hy r => ins_row (insT y hy) r)
    have ta9 : TapeAt CA CT H9 t la aU aO u 2 (flatR RU) (flatR (RO ++ [(3, [])])) sU sO := by
      have e : flatR (RO ++ [(3, [])]) = flatR RO ++ recL 3 [] := flat_snoc _ _
      rw [e]
      exact stp
    exact ⟨aU, aO, u, 2, n, _, _, _, _, Sy, ⟨st9, mo9, ta9, fr9.t1, fr9.t2, ha9, hs9 Sy, li7.ti.mark, j1, j2, j3, li7.ne, li7.cn, li7.cB⟩, .inl ⟨by decide, rfl, rfl⟩⟩
  | 2, _ =>
    have d2 : d = 2 := ED
    subst d2
    have mo8 : ModAt H8' m A S' rU' rO' (1 - u) 0 RO [] (flatR RO).length 0 := ModAt.same sm s8
    have mo9 : ModAt H9 m A S' rU' rO' (1 - u) 0 RO [] (flatR RO).length 0 := ModAt.fr mo8 fr9 t18' t28' mnT (fun y hy r => ins_row (insT y hy) r)
    exact ⟨aO, aU, 1 - u, 0, n + 1, _, _, _, _, B, ⟨st9, mo9, stp, fr9.t1, fr9.t2, ha9, hs9 B, li7.ti.switch, fun y hy => dj_sw (j1 y hy), fun y hy => dj_sw2 (j2 y hy), fun y hy => dj_sw3 (j3 y hy), li7.ne, hn, li7.cB⟩, .inr ⟨rfl, rfl, rfl, rfl⟩⟩
theorem sel_head {x y : V} {u : Nat} (u2 : u = 0 ∨ u = 1) : (sel u x y).head? = some x ∨ (sel u x y).head? = some y := by
  rcases u2 with rfl | rfl
  · exact .inl rfl
  · exact .inr rfl
theorem LI.words {g : Bool} {T1 T2 CA CT : Addr} {i : Nat} {H : Hp} {p c t la aU aO m A S rU rO ap sy l : Addr} {u d n : Nat} {RU RO : Rw} {sU sO : Nat} {B Sy : List (List Nat)} (h : LI g T1 T2 CA CT i H p c t la aU aO m A S rU rO ap sy u d n RU RO sU sO B Sy) (e : H l = some (.lst wordsV)) : l ∉ [t, la, aU, aO, m, A, S, rU, rO] := fun hm => by
  obtain ⟨_, g1⟩ := h.ta.tp
  obtain ⟨_, g2⟩ := h.ta.hU
  obtain ⟨_, g3⟩ := h.ta.hO
  obtain ⟨as1, g5, _⟩ := h.mo.hU
  obtain ⟨as2, g6, _⟩ := h.mo.hO
  have hd : ∀ {xs : List V}, H l = some (.lst xs) → xs.head? = some (.str "begin") := fun q => by
    rw [q] at e
    have := HO.lst.inj (Option.some.inj e)
    rw [this]
    rfl
  have hr : ∀ (as : List Addr), (as.map V.ref).head? ≠ some (.str "begin") := fun as z => by
    cases as with
    | nil => cases z
    | cons a as => cases z
  simp only [List.mem_cons, List.not_mem_nil, or_false] at hm
  rcases hm with z | z | z | z | z | z | z | z | z
  · rw [z, g1] at e; cases e
  · have q := hd (z ▸ h.ta.li)
    rcases sel_head (x := V.ref aU) (y := V.ref aO) h.ta.u2 with y | y <;> · rw [y] at q; cases q
  · rw [z, g2] at e; cases e
  · rw [z, g3] at e; cases e
  · have q := hd (z ▸ h.mo.hm)
    cases q
  · have q := hd (z ▸ h.mo.hA)
    rcases sel_head (x := V.ref rU) (y := V.ref rO) h.mo.u2 with y | y <;> · rw [y] at q; cases q
  · have q := hd (z ▸ h.mo.hS)
    rcases sel_head (x := V.int (sU : Int)) (y := V.int (sO : Int)) h.mo.u2 with y | y <;> · rw [y] at q; cases q
  · exact hr _ (hd (z ▸ g5))
  · exact hr _ (hd (z ▸ g6))
theorem or_join {c1 c2 : Prop} [Decidable c1] [Decidable c2] {σ : L2.St} {H : Hp} {u : TT} {KA KB : Hp → Prop} (ha : c1 ∨ c2 → KA H) (hb : ¬ (c1 ∨ c2) → KB H) (hu : ∀ Q : Bool → Hp → Prop, Q (decide c2) H → u σ H Q) :
    if decide c1 = true then (if true = true then KA H else KB H) else u σ H (fun b H1 => if b = true then KA H1 else KB H1) := by
  refine ite2 (fun z => ?_) (fun z => ?_)
  · exact ite2 (fun _ => ha (.inl (of_decide_eq_true z))) (fun q => absurd rfl q)
  · refine hu _ (ite2 (fun y => ha (.inr (of_decide_eq_true y))) (fun y => hb ?_))
    rintro (q | q)
    · exact z (decide_eq_true q)
    · exact y (decide_eq_true q)
def spComp (T1 T2 CA CT : Addr) : Sp := fun vs H Q _ => ∃ (p c t la aU aO m A S rU rO ap : Addr), vs = [.ref p, .ref t, .ref m, .ref ap] ∧
  LI false T1 T2 CA CT 0 H p c t la aU aO m A S rU rO ap T1 0 0 0 [(1, [48]), (3, [])] [] (flatR [(1, [48]), (3, [])]).length 0 [] [] ∧ T1 ≠ T2 ∧
  ∀ H' aU' aO' S' rU' rO' u n RU RO sU sO B, LI false T1 T2 CA CT 0 H' p c t la aU' aO' m A S' rU' rO' ap T1 u 0 n RU RO sU sO B B → Q (.bl true) H'
section
variable {P : Program} {w : World} {K : PySem.W.Frag} {mg : Str → Option Value} {base : Heap} {T1 T2 CA CT CS fSE CW : Addr}
theorem ok_lcomp {f fD fAp fO fB : Addr} {fd fdD fdAp fdO fdB : FuncData} (F : Fun K "_law_compacted" "_law_compacted" sLComp f fd) (T : TxtC K mg CA CT)
    (GD : FnOk P w K mg base CX0 1 fD fdD ["state", "many"] spDraw) (bD : Binds K fdD ["state", "many"] []) (gD : mg "_law_draw" = some (.ref fD)) (kD : PySem.W.keepIn K (.ref fD) = true)
    (GA : FnOk P w K mg base CX0 3 fAp fdAp ["self", "text"] (spAp CA CT)) (bA : Binds K fdAp ["self", "text"] []) (mA : Meth K CT "append" fAp)
    (GO : FnOk P w K mg base CX0 3 fO fdO ["m", "word", "texts"] spDo) (bO : Binds K fdO ["m", "word", "texts"] []) (gO : mg "_law_do" = some (.ref fO)) (kO : PySem.W.keepIn K (.ref fO) = true)
    (GB : FnOk P w K mg base CX0 5 fB fdB ["tape", "word", "texts"] (spStep T1 T2 CA CT)) (bB : Binds K fdB ["tape", "word", "texts"] []) (gB : mg "_law_step" = some (.ref fB)) (kB : PySem.W.keepIn K (.ref fB) = true)
    (mr : mg "range" = none) (ms : mg "str" = none) (mL : mg "list" = none) :
    FnOk P w K mg base CX0 6 f fd ["state", "tape", "m", "appended"] (spComp T1 T2 CA CT) := by
  refine F.ok scLComp (fun vs H Q E h => ?_) (fun cdv A outer s H vs Q E hr h => ?_)
  · obtain ⟨p, c, t, la, aU, aO, m, A', S, rU, rO, ap, rfl, _⟩ := h
    rfl
  · obtain ⟨p, c, t, la, aU, aO, m, rA, S, rU, rO, ap, rfl, li0, neT, q⟩ := h
    have hr1 : Room 1 _ := hr.mono (by decide)
    have hr3 : Room 3 _ := hr.mono (by decide)
    refine ⟨_, (pss_cut (ps_set (i := 4) scLComp.nd rfl (.inl rfl) (pe_ifExp (pt_cmpR op_eq (pe_call GD hr1 (by rfl) gD kD bD .nil pass0 (pa_cons (pv 0) (pa_cons pe_int pa_nil))) pe_int (nomark _))
          (pe_op op_add pe_int (pe_call GD hr1 (by rfl) gD kD bD .nil pass0 (pa_cons (pv 0) (pa_cons pe_int pa_nil)))) (pe_op op_add pe_int (pe_call GD hr1 (by rfl) gD kD bD .nil pass0 (pa_cons (pv 0) (pa_cons pe_int pa_nil))))) )
      (pss_cons (ps_for PassesOwn.never rfl (pi_range1 rfl mr (pa_cons (pv 4) pa_nil)) (pg_name (i := 5) scLComp.nd rfl (.inl rfl))
        (pss_cut (ps_if (PW.pt (pw_or (pt_cmpR op_lt (pv 5) pe_int (nomark _)) (pw_or1 (pt_cmpR op_gt (pv 5) (pe_op op_sub (pv 4) pe_int) (nomark _)))))
            (pss_cons (ps_set (i := 6) scLComp.nd rfl (.inl rfl) (pe_op op_add_str pe_str (pe_callTy call_str_int (by rfl) ms (by decide +kernel) (pa_cons (pv 5) pa_nil))))
      (pss_cons (ps_expr (pe_meth (pv 1) T.clT mA GA hr3 bA .nil pass0 (pa_cons (pv 6) pa_nil)))
      (pss_cons (ps_expr (pe_bm PySem.F.plainAttrs_list PySem.F.slot_list_append PySem.F.type_list_append mt_append (pe_ix ix_list (pe_ix ix_list (pv 2) pe_int (fun _ _ => rfl)) (pe_ix ix_list (pv 2) pe_int (fun _ _ => rfl)) (fun _ _ => rfl)) (pa_cons (pe_tup (pa_cons pe_int (pa_cons (pv 6) pa_nil))) pa_nil)))
      (pss_one (ps_expr (pe_bm PySem.F.plainAttrs_list PySem.F.slot_list_append PySem.F.type_list_append mt_append (pv 3) (pa_cons (pv 6) pa_nil))))))) pss_nil )
      (pss_one (ps_for PassesOwn.never rfl (pi_list (pe_lst (pa_cons pe_str (pa_cons pe_str (pa_cons pe_str pa_nil))))) (pg_name (i := 7) scLComp.nd rfl (.inl rfl))
            (pss_one (ps_if (PW.pt (pw_or (pt_cmpR op_notN (pe_call GO hr3 (by rfl) gO kO bO .nil pass0 (pa_cons (pv 2) (pa_cons (pv 7) (pa_cons (pe_callTy call_list_of (by rfl) mL (by decide +kernel) (pa_cons (pv 3) pa_nil)) pa_nil)))) pe_non (nomark _))
                (pw_or1 (pt_cmpR op_notN (pe_call GB hr (by rfl) gB kB bB .nil pass0 (pa_cons (pv 1) (pa_cons (pv 7) (pa_cons (pe_callTy call_list_of (by rfl) mL (by decide +kernel) (pa_cons (pv 3) pa_nil)) pa_nil)))) pe_non (nomark _))))) (pss_one (ps_ret pe_bl)) pss_nil))))))
      (pss_one (ps_ret pe_bl)))), ?_⟩
    have z2 := zl
    refine ⟨fun σ H1 => ∃ N : Nat, 7 ≤ N ∧ N ≤ 101 ∧ σ = [some (.ref p), some (.ref t), some (.ref m), some (.ref ap), some (.int (N : Int)), none, none, none] ∧ LI false T1 T2 CA CT 0 H1 p c t la aU aO m rA S rU rO ap T1 0 0 0 [(1, [48]), (3, [])] [] (flatR [(1, [48]), (3, [])]).length 0 [] [], ?_, ?_⟩
    · refine ⟨_, rfl, p, c, 8, rfl, by decide, li0.st, fun H1 r1 _ _ st1 d1 => ⟨rfl, _, rfl, ite2 (fun _ => ?_) (fun _ => ?_)⟩⟩
      · refine ⟨_, rfl, p, c, 5, rfl, by decide, st1, fun H2 r2 _ h2 st2 d2 => ⟨_, _, rfl, rfl, 97 + r2, by omega, by have := h2 (by decide); omega, ?_, (li0.drawn st1 d1).drawn st2 d2⟩⟩
        have e : (97 : Int) + (r2 : Int) = ((97 + r2 : Nat) : Int) := by omega
        rw [← e]
        rfl
      · refine ⟨_, rfl, p, c, 6, rfl, by decide, st1, fun H2 r2 _ h2 st2 d2 => ⟨_, _, rfl, rfl, 7 + r2, by omega, by have := h2 (by decide); omega, ?_, (li0.drawn st1 d1).drawn st2 d2⟩⟩
        have e : (7 : Int) + (r2 : Int) = ((7 + r2 : Nat) : Int) := by omega
        rw [← e]
        rfl
    rintro _ H1 ⟨N, h7, h101, rfl, li1⟩
    clear li0
    refine ⟨_, rfl, _, rfl, by omega, by omega, ?_⟩
    refine for_range (n := N) (fun k σ H' => ∃ (aU aO S rU rO : Addr) (u : Nat) (RU RO : Rw) (sU sO : Nat) (B : List (List Nat)) (y5 y6 y7 : Option V),
        σ = [some (.ref p), some (.ref t), some (.ref m), some (.ref ap), some (.int (N : Int)), y5, y6, y7] ∧ LI false T1 T2 CA CT 0 H' p c t la aU aO m rA S rU rO ap T1 u 0 k RU RO sU sO B B ∧ B.length ≤ 3 + (k - (N - 2)) ∧ B.length ≤ k)
      ⟨aU, aO, S, rU, rO, 0, _, _, _, _, [], none, none, none, rfl, li1, Nat.zero_le _, Nat.zero_le _⟩ ?_ ?_
    case refine_2 =>
      rintro σ H' ⟨aU, aO, S, rU, rO, u, RU, RO, sU, sO, B, y5, y6, y7, rfl, li, _⟩
      exact q H' _ _ _ _ _ _ _ _ _ _ _ _ li
    clear li1
    rintro k σ H2 hk ⟨aU, aO, S, rU, rO, u, RU, RO, sU, sO, B, y5, y6, y7, rfl, li, hB, hBk⟩
    rw [Int.zero_add (k : Int)]
    refine ⟨fun σ H' => ∃ (aU aO S rU rO : Addr) (u : Nat) (RU RO : Rw) (sU sO : Nat) (B Sy : List (List Nat)) (y6 y7 : Option V),
        σ = [some (.ref p), some (.ref t), some (.ref m), some (.ref ap), some (.int (N : Int)), some (.int (k : Int)), y6, y7] ∧ LI false T1 T2 CA CT 0 H' p c t la aU aO m rA S rU rO ap T1 u 0 k RU RO sU sO B Sy ∧ B.length ≤ 3 + (k + 1 - (N - 2)) ∧ B.length ≤ k + 1, ?_, ?_⟩
    · -- an entry now and then
      have u2 := li.mo.u2
      have lU := li.lU
      have fU : (flatR RU).length ≤ 50000 := by
        have := flat_len _ li.ti.okU
        omega
      have fO : (flatR RO).length ≤ 50000 := by
        have := flat_len _ li.ti.okO
        have := li.lO
        omega
      refine ⟨_, rfl, _, _, rfl, rfl, _, rfl, or_join (c2 := (k : Int) > (N : Int) - 3) (fun hc => ?_) (fun hc => ?_) (fun Q' q' => ⟨_, rfl, _, rfl, _, _, rfl, rfl, _, _, rfl, rfl, _, rfl, q'⟩)⟩
      case refine_2 =>
        exact ⟨aU, aO, S, rU, rO, u, RU, RO, sU, sO, B, B, _, _, rfl, li, by omega, by omega⟩
      have hB1 : B.length + 1 ≤ 3 + (k + 1 - (N - 2)) := by omega
      have l9 : (numL k).length ≤ 3 := num_le_of (n := k) (k := 2) (by omega)
      have e0 : Str.ofString "e" = Sg [101] := by decide +kernel
      refine ⟨_, rfl, (k : Int), rfl, small_nat k (by omega), _, _, rfl, rfl, ?_, ?_⟩
      · rw [sg_num, e0]
        exact app_size (by show 1 + (numL k).length ≤ _; omega)
      rw [sg_num, e0, sg_app]
      obtain ⟨x, ex, lx⟩ : ∃ x, [101] ++ numL k = x ∧ x.length ≤ 20 := ⟨_, rfl, by rw [List.length_append]; show 1 + _ ≤ _; omega⟩
      rw [ex]
      obtain ⟨dx, h1⟩ := id li.ta.tp
      refine ⟨_, rfl, t, dx, _, rfl, h1, no_meth _ _ _, _, rfl, ?_⟩
      refine ⟨t, la, aU, aO, u, 0, sU, sO, flatR RU, flatR RO, x, rfl, li.ta, by omega, by omega, by omega, fun H6 ta6 ch6 => ?_⟩
      have dj := li.dj
      have mo6 := li.mo.ou ch6.ou (fun y hy z => dj y hy (by
        simp only [List.mem_cons, List.not_mem_nil, or_false] at z ⊢
        rcases z with z | z <;> simp [z])) (fun y hy r => ins_row (tape_ins li.ta y (List.mem_cons_of_mem _ hy)) r)
      have ha6 : H6 ap = some (.lst (strsV B)) := ch6.ou _ _ (fun z => li.dj3 ap (by simp) (by
        simp only [List.mem_cons, List.not_mem_nil, or_false] at z ⊢
        rcases z with z | z <;> simp [z])) li.ha
      have ov6 : Ov [aU, aO, rU, rO, ap] H2 H6 := by
        refine ⟨fun b o hb e => ch6.ou b o (fun z => hb (by
          simp only [List.mem_cons, List.not_mem_nil, or_false] at z ⊢
          rcases z with z | z <;> simp [z])) e, fun y hy => ?_⟩
        obtain ⟨_, g1⟩ := ta6.hU
        obtain ⟨_, g2⟩ := ta6.hO
        obtain ⟨_, g3, _⟩ := mo6.hU
        obtain ⟨_, g4, _⟩ := mo6.hO
        simp only [List.mem_cons, List.not_mem_nil, or_false] at hy
        rcases hy with z | z | z | z | z <;> rw [z]
        · rw [g1]; exact fun z => nomatch z
        · rw [g2]; exact fun z => nomatch z
        · rw [g3]; exact fun z => nomatch z
        · rw [g4]; exact fun z => nomatch z
        · rw [ha6]; exact fun z => nomatch z
      obtain ⟨aU6, gU6, tU6⟩ := id mo6.hU
      have lt6 := tU6.len
      -- m[0][m[2]].append((2, text))
      refine ⟨_, rfl, m, _, 0, .ref rA, rfl, rfl, SqL.of mo6.hm, atI_nat (j := 0) rfl, _, rfl, m, _, 2, .int (u : Int), rfl, rfl, SqL.of mo6.hm, atI_nat (j := 2) rfl, rA, _, _, .ref rU, rfl, rfl, SqL.of mo6.hA, atI_nat (sel_u u2 _ _), .inl ⟨rfl, _, SqL.of gU6⟩, _, rfl, by show 2 ≤ sizeLine; omega, fun b nb => ?_⟩
      have hb7 : upd H6 b (.tup [.int 2, .str (Sg x)]) b = some (rowH (2, x)) := upd_same
      have s7 : Same H6 (upd H6 b (.tup [.int 2, .str (Sg x)])) := same_new nb
      have ov7 := ov6.same s7
      generalize upd H6 b (.tup [.int 2, .str (Sg x)]) = H7 at hb7 s7 ov7 ⊢
      refine ⟨rU, _, _, rfl, rfl, s7 _ _ gU6, by rw [List.length_map]; omega, ?_⟩
      have mo8 := (mo6.same s7).appU (s7 _ _ gU6) (tU6.same s7) hb7
      have ov8 : Ov [aU, aO, rU, rO, ap] H2 (upd H7 rU (.lst (aU6.map V.ref ++ [.ref b]))) := ov7.upd (.inl (by simp))
      have rUap : ap ≠ rU := fun z => dj rU (by simp) (by simp [z])
      have ha8 : upd H7 rU (.lst (aU6.map V.ref ++ [.ref b])) ap = some (.lst (strsV B)) := (upd_ne rUap).trans (s7 _ _ ha6)
      have tn : ∀ y ∈ [t, la, aU, aO], y ∉ [rU, rO, ap] := fun y hy hm => by
        simp only [List.mem_cons, List.not_mem_nil, or_false] at hm
        rcases hm with z | z | z
        · exact dj rU (by simp) (by
            rw [← z]
            simp only [List.mem_cons, List.not_mem_nil, or_false] at hy ⊢
            rcases hy with q | q | q | q <;> simp [q])
        · exact dj rO (by simp) (by
            rw [← z]
            simp only [List.mem_cons, List.not_mem_nil, or_false] at hy ⊢
            rcases hy with q | q | q | q <;> simp [q])
        · exact li.dj3 ap (by simp) (by rw [← z]; exact hy)
      have o8 : ∀ b' o, b' ∉ [rU, rO, ap] → H6 b' = some o → upd H7 rU (.lst (aU6.map V.ref ++ [.ref b])) b' = some o := fun b' o hb e => (upd_ne (fun z => hb (by simp [z]))).trans (s7 _ _ e)
      generalize upd H7 rU (.lst (aU6.map V.ref ++ [.ref b])) = H8 at mo8 ov8 ha8 o8 ⊢
      clear ov7 hb7 nb
      have o10 : ∀ b' o, b' ∉ [rU, rO, ap] → H6 b' = some o → upd H8 ap (.lst (strsV B ++ [.str (Sg x)])) b' = some o := fun b' o hb e => (upd_ne (fun z => hb (by simp [z]))).trans (o8 _ _ hb e)
      have ov10 : Ov [aU, aO, rU, rO, ap] H2 (upd H8 ap (.lst (strsV B ++ [.str (Sg x)]))) := ov8.upd (.inl (by simp))
      have ti10 := li.ti.append lx
      obtain ⟨st10, t110, t210⟩ := li.base ov10.ou (by
        intro y hy
        simp only [List.mem_cons, List.not_mem_nil, or_false] at hy ⊢
        rcases hy with z | z | z | z | z <;> simp [z])
      have mo10 : ModAt (upd H8 ap (.lst (strsV B ++ [.str (Sg x)]))) m rA S rU rO u 0 (RU ++ [(2, x)]) RO sU sO := mo8.ou (Y := [ap]) (fun b' o hb e => (upd_ne (fun z => hb (by simp [z]))).trans e) (fun y hy z => dj y hy (by simp only [List.mem_cons, List.not_mem_nil, or_false] at z; simp [z])) (fun y hy r e => by
        simp only [List.mem_cons, List.not_mem_nil, or_false] at hy
        rw [hy, ha8] at e
        cases e)
      have ta10 := ta6.ou o10 tn
      refine ⟨_, rfl, .inl ⟨rfl, _, SqL.of ha8⟩, _, rfl, ap, _, _, rfl, rfl, ha8, by rw [strs_len]; omega, ?_⟩
      refine ⟨aU, aO, S, rU, rO, u, RU ++ [(2, x)], RO, sU, sO, B ++ [x], B, _, _, rfl, ⟨st10, mo10, ?_, t110, t210, by rw [strs_snoc]; exact upd_same, .inr ⟨rfl, rfl⟩, ti10, dj, li.dj2, li.dj3, li.ne, li.cn, by rw [List.length_append]; show B.length + 1 ≤ _; omega⟩, by rw [List.length_append]; exact hB1, by rw [List.length_append]; show B.length + 1 ≤ _; omega⟩
      have e1 : flatR (RU ++ [(2, x)]) = flatR RU ++ recL 2 x := flat_snoc _ _
      rw [e1]
      exact ta10
    clear hB hBk li
    rintro _ H3 ⟨aU, aO, S, rU, rO, u, RU, RO, sU, sO, B, Sy, y6, y7, rfl, li, hB, hBk⟩
    -- the three steps
    refine ⟨by show 3 ≤ sizeLine; omega, fun l nl => ?_⟩
    have li4 := li.same (same_new (o := .lst wordsV) nl)
    have hl4 : upd H3 l (.lst wordsV) l = some (.lst wordsV) := upd_same
    refine ⟨l, rfl, ⟨wordsV, SqL.of hl4⟩, ?_⟩
    refine for_list (xs := wordsV) (fun j σ H' => ∃ (aU aO S rU rO : Addr) (u d n : Nat) (RU RO : Rw) (sU sO : Nat) (Sy : List (List Nat)) (y7 : Option V),
        σ = [some (.ref p), some (.ref t), some (.ref m), some (.ref ap), some (.int (N : Int)), some (.int (k : Int)), y6, y7] ∧ LI false T1 T2 CA CT 0 H' p c t la aU aO m rA S rU rO ap T1 u d n RU RO sU sO B Sy ∧ H' l = some (.lst wordsV) ∧
          ((j < 3 ∧ d = j ∧ n = k) ∨ (j = 3 ∧ d = 0 ∧ n = k + 1 ∧ Sy = B))) ⟨aU, aO, S, rU, rO, u, 0, k, RU, RO, sU, sO, Sy, y7, rfl, li4, hl4, .inl ⟨by decide, rfl, rfl⟩⟩ ?_ ?_ ?_
    · rintro j σ H' _ ⟨aU, aO, S, rU, rO, u, d, n, RU, RO, sU, sO, Sy, y7, _, _, hl, _⟩
      exact SqL.of hl
    · clear li li4 hl4 nl
      rintro j x σ H4 hx ⟨aU, aO, S, rU, rO, u, d, n, RU, RO, sU, sO, Sy, y7, rfl, li, hl, hj⟩
      have j3 : j < 3 := (List.getElem?_eq_some_iff.mp hx).1
      obtain ⟨dj, hnk⟩ : d = j ∧ n = k := by
        rcases hj with ⟨_, h⟩ | ⟨h, _⟩
        · exact h
        · omega
      have ex : x = .str (wordS j) := by
        rw [words_at j j3] at hx
        exact (Option.some.inj hx).symm
      subst ex
      have lU := li.lU
      have lO := li.lO
      -- the model's
      refine ⟨_, rfl, _, rfl, _, rfl, ap, _, rfl, .inl (SqL.of li.ha), fun tx ntx => ?_⟩
      dsimp only [tNil]
      have txn := li.new ntx
      have li5 := li.same (same_new (o := .lst (strsV B)) ntx)
      have htx : upd H4 tx (.lst (strsV B)) tx = some (.lst (strsV B)) := upd_same
      have hl5 : upd H4 tx (.lst (strsV B)) l = some (.lst wordsV) := same_new ntx _ _ hl
      generalize upd H4 tx (.lst (strsV B)) = H5 at li5 htx hl5 ⊢
      have txm : tx ∉ [m, rA, S, rU, rO] := fun hm => txn (by
        simp only [List.mem_cons, List.not_mem_nil, or_false] at hm ⊢
        rcases hm with q | q | q | q | q <;> simp [q])
      refine ⟨m, rA, S, rU, rO, tx, u, d, sU, sO, n, j, RU, RO, B, rfl, j3, li5.mo, htx, txm, li5.ti.hd, li5.ti.ne, by omega, li5.ti.okU, li5.ti.okO, by omega, by omega, by omega, fun NE => absurd dj NE, fun _ H6 S' rU' rO' sm ou6 nw => ?_⟩
      have ha6 : H6 ap = some (.lst (strsV B)) := ou6 _ _ (fun z => li5.dj ap z (by simp)) li5.ha
      refine ⟨rfl, _, rfl, ite2 (fun z => absurd z (by simp)) (fun _ => ?_)⟩
      -- the tape's
      refine ⟨_, rfl, _, rfl, _, rfl, ap, _, rfl, .inl (SqL.of ha6), fun tx2 ntx2 => ?_⟩
      dsimp only [tNil]
      have tpn : ∀ y ∈ [t, la, aU, aO], y ∉ [m, rA, S, rU, rO] := fun y hy z => li5.dj y z (by
        simp only [List.mem_cons, List.not_mem_nil, or_false] at hy ⊢
        rcases hy with q | q | q | q <;> simp [q])
      obtain ⟨_, t16, t26⟩ := li5.base ou6 (by
        intro y hy
        simp only [List.mem_cons, List.not_mem_nil, or_false] at hy ⊢
        rcases hy with z | z | z | z | z <;> simp [z])
      have ta6 := li5.ta.ou ou6 tpn
      have ln := li5.words hl5
      have hl6 : H6 l = some (.lst wordsV) := ou6 _ _ (fun z => ln (by
        simp only [List.mem_cons, List.not_mem_nil, or_false] at z ⊢
        rcases z with q | q | q | q | q <;> simp [q])) hl5
      have s7 : Same H6 (upd H6 tx2 (.lst (strsV B))) := same_new ntx2
      have htx2 : upd H6 tx2 (.lst (strsV B)) tx2 = some (.lst (strsV B)) := upd_same
      generalize upd H6 tx2 (.lst (strsV B)) = H7 at s7 htx2 ⊢
      have f7 := Fr.same (S := []) t16 t26 neT s7
      have fU : (flatR RU).length ≤ 50000 := by
        have := flat_len _ li5.ti.okU
        omega
      have fO : (flatR RO).length ≤ 50000 := by
        have := flat_len _ li5.ti.okO
        omega
      refine ⟨t, la, aU, aO, tx2, u, d, sU, sO, n, j, flatR RU, flatR RO, B, rfl, j3, ta6.same s7, htx2, f7.t1, f7.t2, neT, by omega, by omega, by omega, li5.s20, by omega, parse_head li5.ti.hd li5.ti.ne, fun NE => absurd dj NE, fun _ H8 stp fr8 => ?_⟩
      refine ⟨rfl, _, rfl, ite2 (fun z => absurd z (by simp)) (fun _ => ?_)⟩
      have hn1 : n + 1 ≤ 101 + 0 := by omega
      have st8 := LI.stepped (S' := S') (rU' := rU') (rO' := rO') (H8 := H6) (H8' := H7) (H9 := H8) li5 neT rfl j3 dj (by decide) sm ou6 nw s7 stp fr8 hn1
      obtain ⟨aU', aO', u', d', n', RU', RO', sU', sO', Sy', li8, hj'⟩ := st8
      have hl8 : H8 l = some (.lst wordsV) := fr8.at_ f7.t1 f7.t2 (s7 _ _ hl6) (fun ps z => nomatch z) (fun z => ln (by
        simp only [List.mem_cons, List.not_mem_nil, or_false] at z ⊢
        rcases z with q | q | q <;> simp [q]))
      refine ⟨aU', aO', S', rU', rO', u', d', n', RU', RO', sU', sO', Sy', _, rfl, li8, hl8, ?_⟩
      rcases hj' with ⟨h1, h2, h3⟩ | ⟨h1, h2, h3, h4⟩
      · exact .inl ⟨by omega, by omega, by omega⟩
      · exact .inr ⟨by omega, by omega, by omega, h4⟩
    · rintro σ H4 ⟨aU, aO, S, rU, rO, u, d, n, RU, RO, sU, sO, Sy, y7, rfl, li, _, hj⟩
      obtain ⟨rfl, rfl, rfl⟩ : d = 0 ∧ n = k + 1 ∧ Sy = B := by
        rcases hj with ⟨h, _⟩ | ⟨_, h⟩
        · exact absurd h (by decide)
        · exact h
      exact ⟨aU, aO, S, rU, rO, u, RU, RO, sU, sO, _, _, _, _, rfl, li, hB, hBk⟩
end
end K85
namespace K85
open PySem PySem.Spec PyProof.Rows L2 QR TL
open GxR (TabB TabG Tabbed GenS)
def spLaw (K : PySem.W.Frag) (T T2 : Addr) : Sp := fun vs H Q _ => ∃ (a : Addr) (ns : List Int), vs = [.ref a] ∧ SqL K H a (ns.map V.int) ∧ ns.length ≤ 63 ∧ TabG H T ∧ TabG H T2 ∧ T ≠ T2 ∧ ∀ H', Q (.bl true) H'
theorem rows0 {H : Hp} {b1 b2 r : Addr} (n1 : H b1 = none) (n2 : upd H b1 (.tup [.int 1, .str (Sg [48])]) b2 = none) (n3 : upd (upd H b1 (.tup [.int 1, .str (Sg [48])])) b2 (.tup [.int 3, .str (Sg [])]) r = none) :
    Same H (upd (upd (upd H b1 (.tup [.int 1, .str (Sg [48])])) b2 (.tup [.int 3, .str (Sg [])])) r (.lst [.ref b1, .ref b2])) ∧ H r = none ∧
      upd (upd (upd H b1 (.tup [.int 1, .str (Sg [48])])) b2 (.tup [.int 3, .str (Sg [])])) r (.lst [.ref b1, .ref b2]) r = some (.lst (([b1, b2] : List Addr).map V.ref)) ∧ Tups (upd (upd (upd H b1 (.tup [.int 1, .str (Sg [48])])) b2 (.tup [.int 3, .str (Sg [])])) r (.lst [.ref b1, .ref b2])) [b1, b2] [(1, [48]), (3, [])] := by
  have g1 : upd H b1 (.tup [.int 1, .str (Sg [48])]) b1 = some (rowH (1, [48])) := upd_same
  have s1 : Same H (upd H b1 (.tup [.int 1, .str (Sg [48])])) := same_new n1
  have s2 : Same (upd H b1 (.tup [.int 1, .str (Sg [48])])) (upd (upd H b1 (.tup [.int 1, .str (Sg [48])])) b2 (.tup [.int 3, .str (Sg [])])) := same_new n2
  have g2 : upd (upd H b1 (.tup [.int 1, .str (Sg [48])])) b2 (.tup [.int 3, .str (Sg [])]) b2 = some (rowH (3, [])) := upd_same
  have s3 : Same (upd (upd H b1 (.tup [.int 1, .str (Sg [48])])) b2 (.tup [.int 3, .str (Sg [])])) (upd (upd (upd H b1 (.tup [.int 1, .str (Sg [48])])) b2 (.tup [.int 3, .str (Sg [])])) r (.lst [.ref b1, .ref b2])) := same_new n3
  exact ⟨same_trans (same_trans s1 s2) s3, same_none (same_trans s1 s2) n3, upd_same, .cons (s3 _ _ (s2 _ _ g1)) (.cons (s3 _ _ g2) .nil)⟩
section
variable {P : Program} {w : World} {K : PySem.W.Frag} {mg : Str → Option Value} {base : Heap} {T1 T2 CA CT CS fSE CW : Addr}
theorem ok_law {f fS fD fP fAp fSy fR fO fB fC fV fX fT0 fQ : Addr} {fd fdS fdD fdP fdAp fdSy fdR fdO fdB fdC fdV fdX fdT0 fdQ : FuncData} (F : Fun K "law" "law" sLaw f fd) (T : TxtC K mg CA CT)
    (GS : FnOk P w K mg base CX0 1 fS fdS ["script"] (spState K)) (bS : Binds K fdS ["script"] []) (gS : mg "_law_state" = some (.ref fS)) (kS : PySem.W.keepIn K (.ref fS) = true)
    (GD : FnOk P w K mg base CX0 1 fD fdD ["state", "many"] spDraw) (bD : Binds K fdD ["state", "many"] []) (gD : mg "_law_draw" = some (.ref fD)) (kD : PySem.W.keepIn K (.ref fD) = true)
    (GP : FnOk P w K mg base CX0 2 fP fdP ["state", "row"] spPick) (bP : Binds K fdP ["state", "row"] []) (gP : mg "_law_pick" = some (.ref fP)) (kP : PySem.W.keepIn K (.ref fP) = true)
    (MT : Mk K CT fT0) (GT : FnOk P w K mg base CX0 3 fT0 fdT0 ["self"] (spT0 CA CT)) (bT : Binds K fdT0 ["self"] [])
    (GR : FnOk P w K mg base CX0 2 fR fdR ["area"] spLRows) (bR : Binds K fdR ["area"] []) (gR : mg "_law_rows" = some (.ref fR)) (kR : PySem.W.keepIn K (.ref fR) = true)
    (GA : FnOk P w K mg base CX0 3 fAp fdAp ["self", "text"] (spAp CA CT)) (bA : Binds K fdAp ["self", "text"] []) (mA : Meth K CT "append" fAp)
    (GY : FnOk P w K mg base CX0 2 fSy fdSy ["self"] (spSy CA CT)) (bY : Binds K fdSy ["self"] []) (mY : Meth K CT "sync" fSy)
    (GO : FnOk P w K mg base CX0 3 fO fdO ["m", "word", "texts"] spDo) (bO : Binds K fdO ["m", "word", "texts"] []) (gO : mg "_law_do" = some (.ref fO)) (kO : PySem.W.keepIn K (.ref fO) = true)
    (GB : FnOk P w K mg base CX0 5 fB fdB ["tape", "word", "texts"] (spStep T1 T2 CA CT)) (bB : Binds K fdB ["tape", "word", "texts"] []) (gB : mg "_law_step" = some (.ref fB)) (kB : PySem.W.keepIn K (.ref fB) = true)
    (GC : FnOk P w K mg base CX0 3 fC fdC ["state", "m", "tape"] (spLCr T1 T2 CA CT)) (bC : Binds K fdC ["state", "m", "tape"] []) (gC : mg "_law_crash" = some (.ref fC)) (kC : PySem.W.keepIn K (.ref fC) = true)
    (GV : FnOk P w K mg base CX0 5 fV fdV ["self"] (spRc T1 T2 CA CT)) (bV : Binds K fdV ["self"] []) (mV : Meth K CT "recover" fV)
    (GX : FnOk P w K mg base CX0 3 fX fdX ["tape", "m"] (spSame CA CT)) (bX : Binds K fdX ["tape", "m"] []) (gX : mg "_law_same" = some (.ref fX)) (kX : PySem.W.keepIn K (.ref fX) = true)
    (GQ : FnOk P w K mg base CX0 6 fQ fdQ ["state", "tape", "m", "appended"] (spComp T1 T2 CA CT)) (bQ : Binds K fdQ ["state", "tape", "m", "appended"] []) (gQ : mg "_law_compacted" = some (.ref fQ)) (kQ : PySem.W.keepIn K (.ref fQ) = true)
    (ml : mg "len" = none) (mr : mg "range" = none) (ms : mg "str" = none) (mL : mg "list" = none) (mI : mg "isinstance" = none) :
    FnOk P w K mg base CX0 7 f fd ["script"] (spLaw K T1 T2) := by
  refine F.ok scLaw (fun vs H Q E h => ?_) (fun cdv A outer s H vs Q E hr h => ?_)
  · obtain ⟨a, ns, rfl, _⟩ := h
    rfl
  · obtain ⟨a, ns, rfl, hS, hl, hT, hT2, neT, q⟩ := h
    have hr1 : Room 1 _ := hr.mono (by decide)
    have hr2 : Room 2 _ := hr.mono (by decide)
    have hr3 : Room 3 _ := hr.mono (by decide)
    have hr4 : Room 4 _ := hr.mono (by decide)
    have hr5 : Room 5 _ := hr.mono (by decide)
    have hu := hr.units0
    refine ⟨_, (pss_cons (ps_set (i := 1) scLaw.nd rfl (.inl rfl) (pe_call GS hr1 (by rfl) gS kS bS .nil pass0 (pa_cons (pv 0) pa_nil)))
      (pss_cons (ps_set (i := 2) scLaw.nd rfl (.inl rfl) (pe_make0 MT GT hr4 rfl T.mgT bT .nil pass0))
      (pss_cons (ps_set (i := 3) scLaw.nd rfl (.inl rfl) (pe_lst (pa_cons (pe_lst (pa_cons (pe_lst (pa_cons (pe_tup (pa_cons pe_int (pa_cons pe_str pa_nil))) (pa_cons (pe_tup (pa_cons pe_int (pa_cons pe_str pa_nil))) pa_nil))) (pa_cons (pe_lst pa_nil) pa_nil)))
        (pa_cons (pe_lst (pa_cons (pe_callB call_len_str (by rfl) ml PySem.boot_len (pa_cons (pe_call GR hr2 (by rfl) gR kR bR .nil pass0 (pa_cons (pe_lst (pa_cons (pe_tup (pa_cons pe_int (pa_cons pe_str pa_nil))) (pa_cons (pe_tup (pa_cons pe_int (pa_cons pe_str pa_nil))) pa_nil))) pa_nil)) pa_nil)) (pa_cons pe_int pa_nil))) (pa_cons pe_int (pa_cons pe_int pa_nil))))))
      (pss_cons (ps_set (i := 5) scLaw.nd rfl (.inl rfl) (pe_lst pa_nil))
      (pss_cons (ps_if (PW.pt (pw_or (pt_not (pt_val (pe_call GQ hr (by rfl) gQ kQ bQ .nil pass0 (pa_cons (pv 1) (pa_cons (pv 2) (pa_cons (pv 3) (pa_cons (pv 5) pa_nil))))))) (pw_or1 (pt_not (pt_val (pe_call GX hr3 (by rfl) gX kX bX .nil pass0 (pa_cons (pv 2) (pa_cons (pv 3) pa_nil)))))))) (pss_one (ps_ret pe_bl)) pss_nil)
      (pss_cons (ps_set (i := 4) scLaw.nd rfl (.inl rfl) (pe_callTy call_list_of (by rfl) mL (by decide +kernel) (pa_cons (pv 5) pa_nil)))
      (pss_cons (ps_for PassesOwn.never rfl (pi_range1 rfl mr (pa_cons (pe_op op_add pe_int (pe_call GD hr1 (by rfl) gD kD bD .nil pass0 (pa_cons (pv 1) (pa_cons pe_int pa_nil)))) pa_nil)) (pg_name (i := 6) scLaw.nd rfl (.inl rfl))
        (pss_cons (ps_set (i := 7) scLaw.nd rfl (.inl rfl) (pe_call GD hr1 (by rfl) gD kD bD .nil pass0 (pa_cons (pv 1) (pa_cons pe_int pa_nil))))
      (pss_cons (ps_if (pt_cmpR op_lt (pv 7) pe_int (nomark _))
            (pss_cons (ps_set (i := 8) scLaw.nd rfl (.inl rfl) (pe_op op_add_str (pe_call GP hr2 (by rfl) gP kP bP .nil pass0 (pa_cons (pv 1) (pa_cons (pe_lst (pa_cons pe_str (pa_cons pe_str (pa_cons pe_str (pa_cons pe_str (pa_cons pe_str pa_nil)))))) pa_nil))) (pe_callTy call_str_int (by rfl) ms (by decide +kernel) (pa_cons (pv 6) pa_nil))))
      (pss_cons (ps_expr (pe_meth (pv 2) T.clT mA GA hr3 bA .nil pass0 (pa_cons (pv 8) pa_nil)))
      (pss_cons (ps_expr (pe_bm PySem.F.plainAttrs_list PySem.F.slot_list_append PySem.F.type_list_append mt_append (pe_ix ix_list (pe_ix ix_list (pv 3) pe_int (fun _ _ => rfl)) (pe_ix ix_list (pv 3) pe_int (fun _ _ => rfl)) (fun _ _ => rfl)) (pa_cons (pe_tup (pa_cons pe_int (pa_cons (pv 8) pa_nil))) pa_nil)))
      (pss_cons (ps_if (pt_cmpR op_gt (pe_ix ix_list (pv 3) pe_int (fun _ _ => rfl)) pe_int (nomark _))
                (pss_one (ps_expr (pe_bm PySem.F.plainAttrs_list PySem.F.slot_list_append PySem.F.type_list_append mt_append (pe_ix ix_list (pe_ix ix_list (pv 3) pe_int (fun _ _ => rfl)) (pe_op op_sub pe_int (pe_ix ix_list (pv 3) pe_int (fun _ _ => rfl))) (fun _ _ => rfl)) (pa_cons (pe_tup (pa_cons pe_int (pa_cons (pv 8) pa_nil))) pa_nil)))) pss_nil)
      (pss_one (ps_expr (pe_bm PySem.F.plainAttrs_list PySem.F.slot_list_append PySem.F.type_list_append mt_append (pv 5) (pa_cons (pv 8) pa_nil))))))))
            (pss_one (ps_if (pt_cmpR op_eq (pv 7) pe_int (nomark _))
              (pss_cons (ps_expr (pe_meth0 (pv 2) T.clT mY GY hr2 bY .nil pass0))
      (pss_cons (ps_asg (pe_lc (own := [("area", 13)]) (g := gName 13) (tt := tYes) (te := tLens 13) rfl scLaw.nd (pi_list (pe_ix ix_list (pv 3) pe_int (fun _ _ => rfl))) (blkOk_by (N := nLaw) (sc := defScope sLaw) (by decide +kernel)) (fun _ _ _ _ _ => by exact pg_name (i := 13) scLaw.nd rfl (.inl rfl)) (fun _ _ _ _ _ => pts_nil)
                  (fun _ _ _ _ _ => by exact pe_callB call_len_str (by rfl) ml PySem.boot_len (pa_cons (pe_call GR hr2 (by rfl) gR kR bR .nil pass0 (pa_cons (pv 13) pa_nil)) pa_nil))) (pg_sub (pv 3) pe_int set_list))
      (pss_one (ps_set (i := 4) scLaw.nd rfl (.inl rfl) (pe_callTy call_list_of (by rfl) mL (by decide +kernel) (pa_cons (pv 5) pa_nil))))))
              (pss_one (ps_if (pt_cmpR op_lt (pv 7) pe_int (nomark _))
                (pss_cons (ps_set (i := 9) scLaw.nd rfl (.inl rfl) (pe_ifExp (pt_cmpR op_gt (pe_call GD hr1 (by rfl) gD kD bD .nil pass0 (pa_cons (pv 1) (pa_cons pe_int pa_nil))) pe_int (nomark _)) (pe_ix ix_list (pe_lst (pa_cons pe_str (pa_cons pe_str (pa_cons pe_str pa_nil)))) (pe_ix ix_list (pv 3) pe_int (fun _ _ => rfl)) (fun _ _ => rfl))
                      (pe_call GP hr2 (by rfl) gP kP bP .nil pass0 (pa_cons (pv 1) (pa_cons (pe_lst (pa_cons pe_str (pa_cons pe_str (pa_cons pe_str pa_nil)))) pa_nil)))))
      (pss_cons (ps_set (i := 10) scLaw.nd rfl (.inl rfl) (pe_callTy call_list_of (by rfl) mL (by decide +kernel) (pa_cons (pv 5) pa_nil)))
      (pss_cons (ps_set (i := 11) scLaw.nd rfl (.inl rfl) (pe_call GO hr3 (by rfl) gO kO bO .nil pass0 (pa_cons (pv 3) (pa_cons (pv 9) (pa_cons (pv 10) pa_nil)))))
      (pss_cons (ps_if (pt_cmpR (op_neP hr.units) (pe_call GB hr5 (by rfl) gB kB bB .nil pass0 (pa_cons (pv 2) (pa_cons (pv 9) (pa_cons (pv 10) pa_nil)))) (pv 11) (nomark _)) (pss_one (ps_ret pe_bl)) pss_nil)
      (pss_one (ps_if (PW.pt (pw_and (pt_cmpR op_eq (pv 9) pe_str (nomark _)) (pw_and1 (pt_cmpR op_isN (pv 11) pe_non (nomark _))))) (pss_one (ps_set (i := 4) scLaw.nd rfl (.inl rfl) (pe_callTy call_list_of (by rfl) mL (by decide +kernel) (pa_cons (pv 5) pa_nil)))) pss_nil))))))
                (pss_cons (ps_set (i := 11) scLaw.nd rfl (.inl rfl) (pe_call GC hr3 (by rfl) gC kC bC .nil pass0 (pa_cons (pv 1) (pa_cons (pv 3) (pa_cons (pv 2) pa_nil)))))
      (pss_cons (ps_set (i := 12) scLaw.nd rfl (.inl rfl) (pe_meth0 (pv 2) T.clT mV GV hr5 bV .nil pass0))
      (pss_cons (ps_if (PW.pt (pw_or (pt_not (pt_val (pe_callB call_isi (by rfl) mI (by decide +kernel) (pa_cons (pv 12) (pa_cons (pe_bltn (v := V.ty "list") (u := .type "list") (by rfl) mL (by decide +kernel) rfl) pa_nil))))) (pw_or1 (pt_cmpR (op_neP hr.units) (pv 12) (pv 11) (nomark _))))) (pss_one (ps_ret pe_bl)) pss_nil)
      (pss_cons (ps_if (PW.pt (pw_or (pt_cmpR (op_neP hr.units) (pv 11) (pe_slice sl_list (pv 5) po_none (po_some (pe_callB call_len_seq (by rfl) ml PySem.boot_len (pa_cons (pv 11) pa_nil)))) (nomark _)) (pw_or1 (pt_cmpR (op_neP hr.units) (pe_slice sl_list (pv 11) po_none (po_some (pe_callB call_len_seq (by rfl) ml PySem.boot_len (pa_cons (pv 4) pa_nil)))) (pv 4) (nomark _))))) (pss_one (ps_ret pe_bl)) pss_nil)
      (pss_cons (ps_set (i := 5) scLaw.nd rfl (.inl rfl) (pe_callTy call_list_of (by rfl) mL (by decide +kernel) (pa_cons (pv 11) pa_nil)))
      (pss_one (ps_set (i := 4) scLaw.nd rfl (.inl rfl) (pe_callTy call_list_of (by rfl) mL (by decide +kernel) (pa_cons (pv 11) pa_nil))))))))))))))
      (pss_one (ps_if (pt_not (pt_val (pe_call GX hr3 (by rfl) gX kX bX .nil pass0 (pa_cons (pv 2) (pa_cons (pv 3) pa_nil))))) (pss_one (ps_ret pe_bl)) pss_nil)))))
      (pss_one (ps_ret pe_bl))))))))), ?_⟩
    have z2 := zl
    refine ⟨_, rfl, a, ns, rfl, hS, hl, fun H1 p c sm1 np nc st => ?_⟩
    have tA1 : TabG H1 T1 := (Fr.same (S := []) hT hT2 neT sm1).t1
    have tB1 : TabG H1 T2 := (Fr.same (S := []) hT hT2 neT sm1).t2
    -- the tape
    intro t dt nt ndt ndtt
    refine ⟨t, dt, rfl, upd_same, fun H2 la aU aO ta2 k2 nla naU naO => ⟨rfl, ?_⟩⟩
    have pre2 : ∀ b o, H1 b = some o → upd (upd H1 dt (.own t)) t (.ins CT dt []) b = some o := fun b o e => by
      rw [upd_ne (ne_of_none e nt), upd_ne (ne_of_none e ndt)]
      exact e
    have s12 : Same H1 H2 := fun b o e => k2 b o (ne_of_none e nt) (pre2 b o e)
    have new1 : ∀ {b : Addr}, upd (upd H1 dt (.own t)) t (.ins CT dt []) b = none → H1 b = none := fun {b} e => by
      cases e2 : H1 b with
      | none => rfl
      | some o =>
        rw [pre2 b o e2] at e
        cases e
    have nla1 := new1 nla
    have naU1 := new1 naU
    have naO1 := new1 naO
    have st2 : StateAt H2 p c := st.mono (fun o e => s12 _ _ e) (fun o e => s12 _ _ e)
    have tA2 : TabG H2 T1 := (Fr.same (S := []) tA1 tB1 neT s12).t1
    have tB2 : TabG H2 T2 := (Fr.same (S := []) tA1 tB1 neT s12).t2
    have pc1 : ∀ y ∈ [p, c], H1 y ≠ none := by
      obtain ⟨⟨_, e1⟩, ⟨_, e2⟩⟩ := st.lst
      intro y hy
      simp only [List.mem_cons, List.not_mem_nil, or_false] at hy
      rcases hy with z | z <;> rw [z]
      · rw [e1]; exact fun z => nomatch z
      · rw [e2]; exact fun z => nomatch z
    have pct : ∀ y ∈ [p, c], y ∉ [t, la, aU, aO] := fun y hy hm => by
      have h := pc1 y hy
      simp only [List.mem_cons, List.not_mem_nil, or_false] at hm
      rcases hm with z | z | z | z <;> rw [z] at h
      · exact h nt
      · exact h nla1
      · exact h naU1
      · exact h naO1
    clear k2 nla naU naO pre2 new1
    -- the model
    have e0 : Str.ofString "0" = Sg [48] := by decide +kernel
    have e1 : Str.ofString "" = Sg [] := by decide +kernel
    rw [e0, e1]
    refine ⟨by show 2 ≤ sizeLine; omega, fun b1 n1 => ⟨by show 2 ≤ sizeLine; omega, fun b2 n2 => ⟨by show 2 ≤ sizeLine; omega, fun r3 n3 => ?_⟩⟩⟩
    obtain ⟨s3, nr3, gr3, tr3⟩ := rows0 n1 n2 n3
    generalize upd (upd (upd H2 b1 (.tup [.int 1, .str (Sg [48])])) b2 (.tup [.int 3, .str (Sg [])])) r3 (.lst [.ref b1, .ref b2]) = H3 at s3 gr3 tr3 ⊢
    clear n1 n2 n3
    -- [], then the pair of areas
    refine ⟨Nat.zero_le _, fun rE nrE => ?_⟩
    have s4 : Same H3 (upd H3 rE (.lst [])) := same_new nrE
    have gE4 : upd H3 rE (.lst []) rE = some (.lst (([] : List Addr).map V.ref)) := upd_same
    have rE3 : r3 ≠ rE := ne_of_none gr3 nrE
    generalize upd H3 rE (.lst []) = H4 at s4 gE4 ⊢
    refine ⟨by show 2 ≤ sizeLine; omega, fun rA nrA => ?_⟩
    have s5 : Same H4 (upd H4 rA (.lst [.ref r3, .ref rE])) := same_new nrA
    have gA5 : upd H4 rA (.lst [.ref r3, .ref rE]) rA = some (.lst [.ref r3, .ref rE]) := upd_same
    generalize upd H4 rA (.lst [.ref r3, .ref rE]) = H5 at s5 gA5 ⊢
    refine ⟨by show 2 ≤ sizeLine; omega, fun b1 n1 => ⟨by show 2 ≤ sizeLine; omega, fun b2 n2 => ⟨by show 2 ≤ sizeLine; omega, fun r6 n3 => ?_⟩⟩⟩
    obtain ⟨s6, nr6, gr6, tr6⟩ := rows0 n1 n2 n3
    generalize upd (upd (upd H5 b1 (.tup [.int 1, .str (Sg [48])])) b2 (.tup [.int 3, .str (Sg [])])) r6 (.lst [.ref b1, .ref b2]) = H6 at s6 gr6 tr6 ⊢
    clear n1 n2 n3
    -- its length, written
    dsimp only [tNil]
    have okR0 : okR [(1, [48]), (3, [])] := TInv.start.okU
    refine ⟨r6, _, _, rfl, gr6, tr6, okR0, by show 2 ≤ 100; omega, fun H7 s7 => ?_⟩
    have lf0 := flat_len _ okR0
    have lf1 : (flatR [(1, [48]), (3, [])]).length ≤ 2200 := lf0
    refine ⟨Sg (flatR [(1, [48]), (3, [])]), rfl, by rw [len_tl]; show (flatR [(1, [48]), (3, [])]).length ≤ _; omega, by show 2 ≤ sizeLine; omega, fun rS nrS => ?_⟩
    have eL : ((Sg (flatR [(1, [48]), (3, [])])).length : Int) = ((flatR [(1, [48]), (3, [])]).length : Int) := by rw [len_tl]
    rw [eL]
    have s8 : Same H7 (upd H7 rS (.lst [.int ((flatR [(1, [48]), (3, [])]).length : Int), .int 0])) := same_new nrS
    have gS8 : upd H7 rS (.lst [.int ((flatR [(1, [48]), (3, [])]).length : Int), .int 0]) rS = some (.lst [.int ((flatR [(1, [48]), (3, [])]).length : Int), .int 0]) := upd_same
    generalize upd H7 rS (.lst [.int ((flatR [(1, [48]), (3, [])]).length : Int), .int 0]) = H8 at s8 gS8 ⊢
    refine ⟨by show 4 ≤ sizeLine; omega, fun m nm => ?_⟩
    have s9 : Same H8 (upd H8 m (.lst [.ref rA, .ref rS, .int 0, .int 0])) := same_new nm
    have gm9 : upd H8 m (.lst [.ref rA, .ref rS, .int 0, .int 0]) m = some (.lst [.ref rA, .ref rS, .int 0, .int 0]) := upd_same
    generalize upd H8 m (.lst [.ref rA, .ref rS, .int 0, .int 0]) = H9 at s9 gm9 ⊢
    -- appended
    refine ⟨Nat.zero_le _, fun ap nap => ?_⟩
    have s11 : Same H9 (upd H9 ap (.lst [])) := same_new nap
    have gp11 : upd H9 ap (.lst []) ap = some (.lst (strsV [])) := upd_same
    generalize upd H9 ap (.lst []) = H11 at s11 gp11 ⊢
    -- all of it stands
    have s67 := same_trans s6 s7
    have s5_11 := same_trans (same_trans (same_trans s67 s8) s9) s11
    have s2_5 := same_trans (same_trans s3 s4) s5
    have s2_11 := same_trans s2_5 s5_11
    have old : ∀ {y : Addr}, H2 y ≠ none → y ∉ [m, rA, rS, r3, rE] ∧ y ≠ ap := fun {y} hy => by
      have q3 : y ≠ r3 := fun z => hy (by rw [z]; exact nr3)
      have qE : y ≠ rE := fun z => hy (by rw [z]; exact same_none s3 nrE)
      have qA : y ≠ rA := fun z => hy (by rw [z]; exact same_none (same_trans s3 s4) nrA)
      have qS : y ≠ rS := fun z => hy (by rw [z]; exact same_none (same_trans s2_5 s67) nrS)
      have qm : y ≠ m := fun z => hy (by rw [z]; exact same_none (same_trans (same_trans s2_5 s67) s8) nm)
      have qp : y ≠ ap := fun z => hy (by rw [z]; exact same_none (same_trans (same_trans (same_trans s2_5 s67) s8) s9) nap)
      refine ⟨?_, qp⟩
      simp only [List.mem_cons, List.not_mem_nil, or_false, not_or]
      exact ⟨qm, qA, qS, q3, qE⟩
    have ta2' := ta2
    obtain ⟨⟨_, x1⟩, x2, ⟨_, x3⟩, ⟨_, x4⟩, _, _⟩ := ta2'
    obtain ⟨⟨_, x5⟩, ⟨_, x6⟩⟩ := st2.lst
    have oldAll : ∀ y ∈ [p, c, t, la, aU, aO], y ∉ [m, rA, rS, r3, rE] ∧ y ≠ ap := by
      intro y hy
      refine old ?_
      simp only [List.mem_cons, List.not_mem_nil, or_false] at hy
      rcases hy with z | z | z | z | z | z <;> rw [z]
      · rw [x5]; exact fun z => nomatch z
      · rw [x6]; exact fun z => nomatch z
      · rw [x1]; exact fun z => nomatch z
      · rw [x2]; exact fun z => nomatch z
      · rw [x3]; exact fun z => nomatch z
      · rw [x4]; exact fun z => nomatch z
    have g3_11 := (same_trans (same_trans s4 s5) s5_11) _ _ gr3
    have t3_11 := tr3.same (same_trans (same_trans s4 s5) s5_11)
    have gE11 := (same_trans s5 s5_11) _ _ gE4
    have gA11 := s5_11 _ _ gA5
    have gS11 := (same_trans s9 s11) _ _ gS8
    have gm11 := s11 _ _ gm9
    have mne : m ≠ rA ∧ m ≠ rS ∧ m ≠ r3 ∧ m ≠ rE := by
      have h := fun {y : Addr} {o : HO} (e : H8 y = some o) => Ne.symm (ne_of_none e nm)
      exact ⟨h ((same_trans s67 s8) _ _ gA5), h gS8, h ((same_trans (same_trans (same_trans s4 s5) s67) s8) _ _ gr3), h ((same_trans (same_trans s5 s67) s8) _ _ gE4)⟩
    have Ane : rA ≠ rS ∧ rA ≠ r3 ∧ rA ≠ rE := ⟨ne_of_none (s67 _ _ gA5) nrS, Ne.symm (ne_of_none (s4 _ _ gr3) nrA), Ne.symm (ne_of_none gE4 nrA)⟩
    have Sne : rS ≠ r3 ∧ rS ≠ rE := ⟨Ne.symm (ne_of_none ((same_trans (same_trans s4 s5) s67) _ _ gr3) nrS), Ne.symm (ne_of_none ((same_trans s5 s67) _ _ gE4) nrS)⟩
    have nt1 : ∀ {y : Addr} {o : HO}, H11 y = some o → (∀ ps, o ≠ .tbl ps) → y ≠ T1 := fun {y o} e d z => by
      obtain ⟨ps, e1, _⟩ := (Fr.same (S := []) tA2 tB2 neT s2_11).t1
      rw [z, e1] at e
      exact d _ (Option.some.inj e).symm
    have hap : ∀ z ∈ [m, rA, rS, r3, rE], z ≠ ap ∧ z ≠ T1 := by
      have hq := fun {y : Addr} {xs : List V} (e : H9 y = some (.lst xs)) => (⟨ne_of_none e nap, nt1 (s11 _ _ e) (fun _ z => nomatch z)⟩ : y ≠ ap ∧ y ≠ T1)
      intro z hz
      simp only [List.mem_cons, List.not_mem_nil, or_false] at hz
      rcases hz with e | e | e | e | e <;> rw [e]
      · exact hq gm9
      · exact hq ((same_trans (same_trans s67 s8) s9) _ _ gA5)
      · exact hq (s9 _ _ gS8)
      · exact hq ((same_trans (same_trans (same_trans (same_trans s4 s5) s67) s8) s9) _ _ gr3)
      · exact hq ((same_trans (same_trans (same_trans s5 s67) s8) s9) _ _ gE4)
    have oldT : ∀ y ∈ [p, c, t, la, aU, aO], y ≠ T1 := by
      intro y hy
      simp only [List.mem_cons, List.not_mem_nil, or_false] at hy
      rcases hy with z | z | z | z | z | z <;> rw [z]
      · exact nt1 (s2_11 _ _ x5) (fun _ z => nomatch z)
      · exact nt1 (s2_11 _ _ x6) (fun _ z => nomatch z)
      · exact nt1 (s2_11 _ _ x1) (fun _ z => nomatch z)
      · exact nt1 (s2_11 _ _ x2) (fun _ z => nomatch z)
      · exact nt1 (s2_11 _ _ x3) (fun _ z => nomatch z)
      · exact nt1 (s2_11 _ _ x4) (fun _ z => nomatch z)
    have li0 : LI false T1 T2 CA CT 0 H11 p c t la aU aO m rA rS r3 rE ap T1 0 0 0 [(1, [48]), (3, [])] [] (flatR [(1, [48]), (3, [])]).length 0 [] [] := by
      have f2 : Fr T1 T2 [] H2 H11 := Fr.same tA2 tB2 neT s2_11
      refine ⟨st2.mono (fun o e => s2_11 _ _ e) (fun o e => s2_11 _ _ e), ⟨gm11, gA11, gS11, ⟨_, g3_11, t3_11⟩, ⟨[], gE11, .nil⟩, nd5' ⟨mne, Ane, Sne, rE3⟩, .inl rfl⟩, ta2.same s2_11, f2.t1, f2.t2, gp11, .inr ⟨rfl, rfl⟩, TInv.start, ?_, ?_, ?_, nt1 gp11 (fun _ z => nomatch z), Nat.zero_le _, Nat.zero_le _⟩
      · intro y hy hm
        by_cases h6 : y ∈ [p, c, t, la, aU, aO]
        · exact (oldAll y h6).1 hy
        · have := hap y hy
          simp only [List.mem_cons, List.not_mem_nil, or_false, not_or] at hm h6
          obtain ⟨q1, q2, q3, q4, q5, q6⟩ := h6
          rcases hm with e | e | e | e | e | e | e | e
          · exact q1 e
          · exact q2 e
          · exact q3 e
          · exact q4 e
          · exact q5 e
          · exact q6 e
          · exact this.1 e
          · exact this.2 e
      · intro y hy hm
        have h1 := pct y hy
        have h2 := oldAll y (by
          simp only [List.mem_cons, List.not_mem_nil, or_false] at hy ⊢
          rcases hy with e | e <;> simp [e])
        simp only [List.mem_cons, List.not_mem_nil, or_false, not_or] at hm h1
        rcases hm with e | e | e | e | e | e
        · exact h1.1 e
        · exact h1.2.1 e
        · exact h1.2.2.1 e
        · exact h1.2.2.2 e
        · exact h2.2 e
        · exact oldT y (by
            simp only [List.mem_cons, List.not_mem_nil, or_false] at hy ⊢
            rcases hy with e | e <;> simp [e]) e
      · intro y hy hm
        have h2 := oldAll y (by
          simp only [List.mem_cons, List.not_mem_nil, or_false] at hm ⊢
          rcases hm with e | e | e | e <;> simp [e])
        simp only [List.mem_cons, List.not_mem_nil, or_false] at hy
        rcases hy with e | e
        · exact h2.2 e
        · exact oldT y (by
            simp only [List.mem_cons, List.not_mem_nil, or_false] at hm ⊢
            rcases hm with q | q | q | q <;> simp [q]) e
    clear s67 s5_11 s2_5 s2_11 old ta2 x1 x2 x3 x4 x5 x6 oldAll g3_11 t3_11 gE11 gA11 gS11 gm11 mne Ane Sne s3 s4 s5 s6 s7 s8 s9 s11 gr3 gr6 tr3 tr6 gE4 gA5 gS8 gm9 gp11 pct pc1 st st2 nt1 hap oldT
    refine ⟨_, rfl, _, rfl, _, rfl, _, rfl, ?_⟩
    dsimp only [tNil]
    refine ⟨p, c, t, la, aU, aO, m, rA, rS, r3, rE, ap, rfl, li0, neT, fun H12 aU aO S rU rO u n RU RO sU sO B lic => ⟨true, rfl, ?_⟩⟩
    clear li0
    refine iteF ?_
    have lU := lic.lU
    have lO := lic.lO
    refine ⟨_, rfl, _, rfl, ?_⟩
    dsimp only [tNil]
    refine ⟨m, rA, S, rU, rO, t, la, aU, aO, u, 0, sU, sO, RU, RO, rfl, lic.mo, lic.ta, lic.ti.okU, lic.ti.okO, by omega, by omega, fun H13 s13 => ⟨true, rfl, ?_⟩⟩
    refine iteF ?_
    have lid := lic.same s13
    clear lic
    refine ⟨_, rfl, ap, _, rfl, .inl (SqL.of lid.ha), fun sy nsy => ?_⟩
    have li0 := lid.newS nsy
    generalize upd H13 sy (.lst (strsV B)) = H14 at li0 ⊢
    clear lid nsy
    refine ⟨_, rfl, p, c, 11, rfl, by decide, li0.st, fun H15 r23 _ hr23 st12 d12 => ⟨_, _, rfl, rfl, _, rfl, by omega, by omega, ?_⟩⟩
    have r23' := hr23 (by decide)
    have li1 := li0.drawn st12 d12
    have ok28 : ∀ {R : Rw} {k : Nat}, okR R → R.length ≤ k → k ≤ 30 → (flatR R).length ≤ 50000 := fun o h1 h2 => by
      have := flat_len _ o
      omega
    refine for_range (n := ((4 : Int) + ((r23 : Nat) : Int)).toNat) (fun i σ H' => ∃ (aU aO S rU rO ap sy : Addr) (u d n : Nat) (RU RO : Rw) (sU sO : Nat) (B Sy : List (List Nat)) (y6 y7 y8 y9 y10 y11 y12 : Option V),
        σ = [some (.ref a), some (.ref p), some (.ref t), some (.ref m), some (.ref sy), some (.ref ap), y6, y7, y8, y9, y10, y11, y12, none] ∧ LI true T1 T2 CA CT i H' p c t la aU aO m rA S rU rO ap sy u d n RU RO sU sO B Sy)
      ⟨aU, aO, S, rU, rO, ap, sy, u, 0, n, _, _, _, _, _, _, none, none, none, none, none, none, none, rfl, li1⟩ ?_ ?_
    case refine_2 =>
      rintro σ H' _
      exact q H'
    clear li0 li1 d12 st12
    rintro i σ H3 hi ⟨aU, aO, S, rU, rO, ap, sy, u, d, n, RU, RO, sU, sO, B, Sy, y6, y7, y8, y9, y10, y11, y12, rfl, li⟩
    have hi26 : i ≤ 13 := by omega
    rw [Int.zero_add (i : Int)]
    refine ⟨_, rfl, p, c, 10, rfl, by decide, li.st, fun H4 r4 _ _ st4 d4 => ?_⟩
    have li4 := li.drawn st4 d4
    clear li st4 d4
    have u2 := li4.mo.u2
    have lU := li4.lU
    have lO := li4.lO
    have cB := li4.cB
    have fU := ok28 li4.ti.okU lU (by omega)
    have fO := ok28 li4.ti.okO lO (by omega)
    refine ⟨_, rfl, _, _, rfl, rfl, _, rfl, ite2 (fun _ => ?_) (fun _ => ?_)⟩
    · -- an entry is appended
      refine ⟨_, rfl, by show 5 ≤ sizeLine; omega, fun l nl => ?_⟩
      have ln := li4.new nl
      simp only [List.mem_cons, List.not_mem_nil, or_false, not_or] at ln
      have li5 := li4.same (same_new (o := .lst [.str (Str.ofString "a"), .str (Sg []), .str (Str.ofString "bb"), .str (Str.ofString "c c"), .str (Str.ofString "7")]) nl)
      refine ⟨p, c, l, _, rfl, upd_same, ln.1, ln.2.1, by decide, by decide, li5.st, fun H5 v hv st5 d5 => ?_⟩
      have li6 := li5.drawn st5 d5
      clear li5 st5 d5
      obtain ⟨y, rfl, ly⟩ : ∃ y : List Nat, v = .str (Sg y) ∧ y.length ≤ 3 := by
        have mk : ∀ z : Str, z.length ≤ 3 → ∃ y : List Nat, V.str z = .str (Sg y) ∧ y.length ≤ 3 := fun z hz => ⟨tl z, by rw [sg_of], by rw [← len_tl]; exact hz⟩
        simp only [List.mem_cons, List.not_mem_nil, or_false] at hv
        rcases hv with rfl | rfl | rfl | rfl | rfl
        · exact mk _ (by decide +kernel)
        · exact mk _ (by decide +kernel)
        · exact mk _ (by decide +kernel)
        · exact mk _ (by decide +kernel)
        · exact mk _ (by decide +kernel)
      have l9 : (numL i).length ≤ 2 := num_le_of (n := i) (k := 1) (by omega)
      refine ⟨_, rfl, (i : Int), rfl, small_nat i (by omega), _, _, rfl, rfl, ?_, ?_⟩
      · rw [sg_num]
        exact app_size (by omega)
      rw [sg_num, sg_app]
      obtain ⟨x, ex, lx⟩ : ∃ x, y ++ numL i = x ∧ x.length ≤ 20 := ⟨_, rfl, by rw [List.length_append]; omega⟩
      rw [ex]
      obtain ⟨dx, h1⟩ := id li6.ta.tp
      refine ⟨_, rfl, t, dx, _, rfl, h1, no_meth _ _ _, _, rfl, ?_⟩
      refine ⟨t, la, aU, aO, u, d, sU, sO, flatR RU, flatR RO, x, rfl, li6.ta, by omega, by omega, by omega, fun H6 ta6 ch6 => ?_⟩
      have dj := li6.dj
      have mo6 := li6.mo.ou ch6.ou (fun y hy z => dj y hy (by
        simp only [List.mem_cons, List.not_mem_nil, or_false] at z ⊢
        rcases z with z | z <;> simp [z])) (fun y hy r => ins_row (tape_ins li6.ta y (List.mem_cons_of_mem _ hy)) r)
      have ha6 : H6 ap = some (.lst (strsV B)) := ch6.ou _ _ (fun z => li6.dj3 ap (by simp) (by
        simp only [List.mem_cons, List.not_mem_nil, or_false] at z ⊢
        rcases z with z | z <;> simp [z])) li6.ha
      have hs6 : H6 sy = some (.lst (strsV Sy)) := ch6.ou _ _ (fun z => li6.dj3 sy (by simp) (by
        simp only [List.mem_cons, List.not_mem_nil, or_false] at z ⊢
        rcases z with z | z <;> simp [z])) li6.hsy
      have ov6 : Ov [aU, aO, rU, rO, ap] H5 H6 := by
        refine ⟨fun b o hb e => ch6.ou b o (fun z => hb (by
          simp only [List.mem_cons, List.not_mem_nil, or_false] at z ⊢
          rcases z with z | z <;> simp [z])) e, fun y hy => ?_⟩
        obtain ⟨_, g1⟩ := ta6.hU
        obtain ⟨_, g2⟩ := ta6.hO
        obtain ⟨_, g3, _⟩ := mo6.hU
        obtain ⟨_, g4, _⟩ := mo6.hO
        simp only [List.mem_cons, List.not_mem_nil, or_false] at hy
        rcases hy with z | z | z | z | z <;> rw [z]
        · rw [g1]; exact fun z => nomatch z
        · rw [g2]; exact fun z => nomatch z
        · rw [g3]; exact fun z => nomatch z
        · rw [g4]; exact fun z => nomatch z
        · rw [ha6]; exact fun z => nomatch z
      obtain ⟨aU6, gU6, tU6⟩ := id mo6.hU
      have lt6 := tU6.len
      -- m[0][m[2]].append((2, text))
      refine ⟨_, rfl, m, _, 0, .ref rA, rfl, rfl, SqL.of mo6.hm, atI_nat (j := 0) rfl, _, rfl, m, _, 2, .int (u : Int), rfl, rfl, SqL.of mo6.hm, atI_nat (j := 2) rfl, rA, _, _, .ref rU, rfl, rfl, SqL.of mo6.hA, atI_nat (sel_u u2 _ _), .inl ⟨rfl, _, SqL.of gU6⟩, _, rfl, by show 2 ≤ sizeLine; omega, fun b nb => ?_⟩
      have hb7 : upd H6 b (.tup [.int 2, .str (Sg x)]) b = some (rowH (2, x)) := upd_same
      have s7 : Same H6 (upd H6 b (.tup [.int 2, .str (Sg x)])) := same_new nb
      have ov7 := ov6.same s7
      generalize upd H6 b (.tup [.int 2, .str (Sg x)]) = H7 at hb7 s7 ov7 ⊢
      refine ⟨rU, _, _, rfl, rfl, s7 _ _ gU6, by rw [List.length_map]; omega, ?_⟩
      have mo8 := (mo6.same s7).appU (s7 _ _ gU6) (tU6.same s7) hb7
      have ov8 : Ov [aU, aO, rU, rO, ap] H5 (upd H7 rU (.lst (aU6.map V.ref ++ [.ref b]))) := ov7.upd (.inl (by simp))
      have rUap : ap ≠ rU := fun z => dj rU (by simp) (by simp [z])
      have rUsy : sy ≠ rU := fun z => dj rU (by simp) (by simp [z])
      have ha8 : upd H7 rU (.lst (aU6.map V.ref ++ [.ref b])) ap = some (.lst (strsV B)) := (upd_ne rUap).trans (s7 _ _ ha6)
      have tn : ∀ y ∈ [t, la, aU, aO], y ∉ [rU, rO, ap] := fun y hy hm => by
        simp only [List.mem_cons, List.not_mem_nil, or_false] at hm
        rcases hm with z | z | z
        · exact dj rU (by simp) (by
            rw [← z]
            simp only [List.mem_cons, List.not_mem_nil, or_false] at hy ⊢
            rcases hy with q | q | q | q <;> simp [q])
        · exact dj rO (by simp) (by
            rw [← z]
            simp only [List.mem_cons, List.not_mem_nil, or_false] at hy ⊢
            rcases hy with q | q | q | q <;> simp [q])
        · exact li6.dj3 ap (by simp) (by rw [← z]; exact hy)
      have o8 : ∀ b' o, b' ∉ [rU, rO, ap] → H6 b' = some o → upd H7 rU (.lst (aU6.map V.ref ++ [.ref b])) b' = some o := fun b' o hb e => (upd_ne (fun z => hb (by simp [z]))).trans (s7 _ _ e)
      generalize upd H7 rU (.lst (aU6.map V.ref ++ [.ref b])) = H8 at mo8 ov8 ha8 o8 ⊢
      clear ov7 hb7 nb
      -- if m[3] > 0
      have fin : ∀ (H9 : Hp) (σ9 : L2.St), σ9 = [some (.ref a), some (.ref p), some (.ref t), some (.ref m), some (.ref sy), some (.ref ap), some (.int (i : Int)), some (.int (r4 : Int)), some (.str (Sg x)), y9, y10, y11, y12, none] → ModAt H9 m rA S rU rO u d (RU ++ [(2, x)]) (if d > 0 then RO ++ [(2, x)] else RO) sU sO → Ov [aU, aO, rU, rO, ap] H5 H9 → H9 ap = some (.lst (strsV B)) →
          (∀ b' o, b' ∉ [rU, rO, ap] → H6 b' = some o → H9 b' = some o) → ∃ H10, H10 = upd H9 ap (.lst (strsV B ++ [.str (Sg x)])) ∧ LI true T1 T2 CA CT (i + 1) H10 p c t la aU aO m rA S rU rO ap sy u d n (RU ++ [(2, x)]) (if d > 0 then RO ++ [(2, x)] else RO) sU sO (B ++ [x]) Sy := by
        intro H9 σ9 _ mo9 ov9 ha9 o9
        refine ⟨_, rfl, ?_⟩
        have ov10 : Ov [aU, aO, rU, rO, ap] H5 (upd H9 ap (.lst (strsV B ++ [.str (Sg x)]))) := ov9.upd (.inl (by simp))
        have ti10 := li6.ti.append lx
        have o10 : ∀ b' o, b' ∉ [rU, rO, ap] → H6 b' = some o → upd H9 ap (.lst (strsV B ++ [.str (Sg x)])) b' = some o := fun b' o hb e => (upd_ne (fun z => hb (by simp [z]))).trans (o9 _ _ hb e)
        obtain ⟨st10, t110, t210⟩ := li6.base ov10.ou (by
          intro y hy
          simp only [List.mem_cons, List.not_mem_nil, or_false] at hy ⊢
          rcases hy with z | z | z | z | z <;> simp [z])
        have mo10 : ModAt (upd H9 ap (.lst (strsV B ++ [.str (Sg x)]))) m rA S rU rO u d (RU ++ [(2, x)]) (if d > 0 then RO ++ [(2, x)] else RO) sU sO := mo9.ou (Y := [ap]) (fun b' o hb e => (upd_ne (fun z => hb (by simp [z]))).trans e) (fun y hy z => dj y hy (by simp only [List.mem_cons, List.not_mem_nil, or_false] at z; simp [z])) (fun y hy r e => by
          simp only [List.mem_cons, List.not_mem_nil, or_false] at hy
          rw [hy, ha9] at e
          cases e)
        have ta10 := ta6.ou o10 tn
        have sya : sy ∉ [rU, rO, ap] := fun hm => by
          simp only [List.mem_cons, List.not_mem_nil, or_false] at hm
          rcases hm with z | z | z
          · exact dj rU (by simp) (by simp [z])
          · exact dj rO (by simp) (by simp [z])
          · exact li6.ne z.symm
        refine ⟨st10, mo10, ?_, t110, t210, by rw [strs_snoc]; exact upd_same, (.inl ⟨rfl, o10 _ _ sya hs6⟩), ti10, dj, li6.dj2, li6.dj3, li6.ne, Nat.le_succ_of_le li6.cn, by rw [List.length_append]; exact Nat.succ_le_succ cB⟩
        have e1 : flatR (RU ++ [(2, x)]) = flatR RU ++ recL 2 x := flat_snoc _ _
        have e2 : flatR (if d > 0 then RO ++ [(2, x)] else RO) = (if d > 0 then flatR RO ++ recL 2 x else flatR RO) := by
          split
          · exact flat_snoc _ _
          · rfl
        rw [e1, e2]
        exact ta10
      refine ⟨_, rfl, m, _, 3, .int (d : Int), rfl, rfl, SqL.of mo8.hm, atI_nat (j := 3) rfl, _, _, rfl, rfl, _, rfl, ite2 (fun hz => ?_) (fun hz => ?_)⟩
      · have hd : d > 0 := by
          have := of_decide_eq_true hz
          omega
        obtain ⟨aO8, gO8, tO8⟩ := id mo8.hO
        have lt8 := tO8.len
        have e0 : (1 : Int) - (u : Int) = ((1 - u : Nat) : Int) := by omega
        refine ⟨_, rfl, m, _, 0, .ref rA, rfl, rfl, SqL.of mo8.hm, atI_nat (j := 0) rfl, _, rfl, m, _, 2, .int (u : Int), rfl, rfl, SqL.of mo8.hm, atI_nat (j := 2) rfl, _, _, rfl, rfl, rA, _, ((1 - u : Nat) : Int), .ref rO, rfl, congrArg V.int e0, SqL.of mo8.hA, atI_nat (sel_o u2 _ _), .inl ⟨rfl, _, SqL.of gO8⟩, _, rfl, by show 2 ≤ sizeLine; omega, fun b2 nb2 => ?_⟩
        have hb9 : upd H8 b2 (.tup [.int 2, .str (Sg x)]) b2 = some (rowH (2, x)) := upd_same
        have s9 : Same H8 (upd H8 b2 (.tup [.int 2, .str (Sg x)])) := same_new nb2
        have ov9 := ov8.same s9
        generalize upd H8 b2 (.tup [.int 2, .str (Sg x)]) = H9 at hb9 s9 ov9 ⊢
        refine ⟨rO, _, _, rfl, rfl, s9 _ _ gO8, by rw [List.length_map]; omega, ?_⟩
        have mo10 := (mo8.same s9).appO (s9 _ _ gO8) (tO8.same s9) hb9
        have ov10 : Ov [aU, aO, rU, rO, ap] H5 (upd H9 rO (.lst (aO8.map V.ref ++ [.ref b2]))) := ov9.upd (.inl (by simp))
        have rOap : ap ≠ rO := fun z => dj rO (by simp) (by simp [z])
        have ha10 : upd H9 rO (.lst (aO8.map V.ref ++ [.ref b2])) ap = some (.lst (strsV B)) := (upd_ne rOap).trans (s9 _ _ ha8)
        have o10 : ∀ b' o, b' ∉ [rU, rO, ap] → H6 b' = some o → upd H9 rO (.lst (aO8.map V.ref ++ [.ref b2])) b' = some o := fun b' o hb e => (upd_ne (fun z => hb (by simp [z]))).trans (s9 _ _ (o8 _ _ hb e))
        generalize upd H9 rO (.lst (aO8.map V.ref ++ [.ref b2])) = H10 at mo10 ov10 ha10 o10 ⊢
        obtain ⟨H11, e11, li11⟩ := fin H10 _ rfl (by rw [if_pos hd]; exact mo10) ov10 ha10 o10
        refine ⟨_, rfl, .inl ⟨rfl, _, SqL.of ha10⟩, _, rfl, ap, _, _, rfl, rfl, ha10, by rw [strs_len]; omega, ?_⟩
        rw [← e11]
        refine same_ok (CA := CA) (CT := CT) rfl rfl li11 (by omega) fun H12' s12' => ?_
        exact ⟨aU, aO, S, rU, rO, ap, sy, u, d, n, _, _, sU, sO, _, _, _, _, _, _, _, _, _, rfl, li11.same s12'⟩
      · have hd : ¬ d > 0 := fun z => hz (decide_eq_true (by omega))
        obtain ⟨H11, e11, li11⟩ := fin H8 _ rfl (by rw [if_neg hd]; exact mo8) ov8 ha8 o8
        refine ⟨_, rfl, .inl ⟨rfl, _, SqL.of ha8⟩, _, rfl, ap, _, _, rfl, rfl, ha8, by rw [strs_len]; omega, ?_⟩
        rw [← e11]
        refine same_ok (CA := CA) (CT := CT) rfl rfl li11 (by omega) fun H12' s12' => ?_
        exact ⟨aU, aO, S, rU, rO, ap, sy, u, d, n, _, _, sU, sO, _, _, _, _, _, _, _, _, _, rfl, li11.same s12'⟩
    refine ⟨_, rfl, rfl, _, rfl, ite2 (fun _ => ?_) (fun _ => ?_)⟩
    · -- it is synced
      obtain ⟨dx, h1⟩ := id li4.ta.tp
      refine ⟨_, rfl, t, dx, _, rfl, h1, no_meth _ _ _, ?_⟩
      dsimp only [tNil]
      refine ⟨t, la, aU, aO, u, d, sU, sO, flatR RU, flatR RO, rfl, li4.ta, by omega, by omega, fun H5 ta5 ch5 => ?_⟩
      have dj := li4.dj
      have mo5 := li4.mo.ou ch5.ou (fun y hy z => dj y hy (by
        simp only [List.mem_cons, List.not_mem_nil, or_false] at z ⊢
        rcases z with z | z <;> simp [z])) (fun y hy r => ins_row (tape_ins li4.ta y (List.mem_cons_of_mem _ hy)) r)
      have ov5 : Ov [aU, aO, m] H4 H5 := by
        refine ⟨fun b o hb e => ch5.ou b o (fun z => hb (by
          simp only [List.mem_cons, List.not_mem_nil, or_false] at z ⊢
          rcases z with z | z <;> simp [z])) e, fun y hy => ?_⟩
        obtain ⟨_, g1⟩ := ta5.hU
        obtain ⟨_, g2⟩ := ta5.hO
        simp only [List.mem_cons, List.not_mem_nil, or_false] at hy
        rcases hy with z | z | z <;> rw [z]
        · rw [g1]; exact fun z => nomatch z
        · rw [g2]; exact fun z => nomatch z
        · rw [mo5.hm]; exact fun z => nomatch z
      dsimp only [tSeq, tAsg]
      refine lens_tLc (i := 13) mo5 li4.ti.okU li4.ti.okO (by omega) (by omega) (fun Q h => ⟨_, rfl, m, _, 0, .ref rA, rfl, rfl, SqL.of mo5.hm, atI_nat (j := 0) rfl, h⟩) (fun _ => rfl) (fun _ => rfl) fun D H6 nD s6 hD => ?_
      have ov6 := ov5.same s6
      have nD4 := ov5.none nD
      have Dnew := li4.new nD4
      refine ⟨_, rfl, m, _, 1, 1, rfl, rfl, (mo5.same s6).hm, rfl, ?_⟩
      have e12 : upd H6 m (.lst ([.ref rA, .ref S, .int (u : Int), .int (d : Int)].set 1 (.ref D))) = upd H6 m (.lst [.ref rA, .ref D, .int (u : Int), .int (d : Int)]) := rfl
      rw [e12]
      have Dn : D ∉ [m, rA, rU, rO] := fun hm => Dnew (by
        simp only [List.mem_cons, List.not_mem_nil, or_false] at hm ⊢
        rcases hm with q | q | q | q <;> simp [q])
      have mo7 := (mo5.same s6).newS hD Dn
      have ov7 : Ov [aU, aO, m] H4 (upd H6 m (.lst [.ref rA, .ref D, .int (u : Int), .int (d : Int)])) := ov6.upd (.inl (by simp))
      have mna : m ≠ D := fun z => Dn (by simp [z])
      have hD7 : upd H6 m (.lst [.ref rA, .ref D, .int (u : Int), .int (d : Int)]) D ≠ none := by
        rw [upd_ne (Ne.symm mna), hD]
        exact fun z => nomatch z
      have ta7 : TapeAt CA CT (upd H6 m (.lst [.ref rA, .ref D, .int (u : Int), .int (d : Int)])) t la aU aO u d (flatR RU) (flatR RO) (flatR RU).length (flatR RO).length := (ta5.same s6).ou (Y := [m]) (fun b o hb e => (upd_ne (fun z => hb (by simp [z]))).trans e) (fun y hy z => dj m (by simp) (by
        simp only [List.mem_cons, List.not_mem_nil, or_false] at z hy ⊢
        rcases hy with q | q | q | q <;> simp [← z, q]))
      generalize upd H6 m (.lst [.ref rA, .ref D, .int (u : Int), .int (d : Int)]) = H7 at mo7 ov7 hD7 ta7 ⊢
      have tpm : ∀ y ∈ [ap, sy], y ∉ [aU, aO, m] := fun y hy hm => by
        have h3 := li4.dj3 y hy
        simp only [List.mem_cons, List.not_mem_nil, or_false, not_or] at hm h3
        rcases hm with q | q | q
        · exact h3.2.2.1 q
        · exact h3.2.2.2 q
        · exact dj m (by simp) (by
            simp only [List.mem_cons, List.not_mem_nil, or_false] at hy ⊢
            rcases hy with z | z <;> simp [← q, z])
      have ha7 : H7 ap = some (.lst (strsV B)) := ov7.ou _ _ (tpm ap (by simp)) li4.ha
      refine ⟨_, rfl, ap, _, rfl, .inl (SqL.of ha7), fun sy' nsy => ?_⟩
      have s8 : Same H7 (upd H7 sy' (.lst (strsV B))) := same_new nsy
      have hs8 : upd H7 sy' (.lst (strsV B)) sy' = some (.lst (strsV B)) := upd_same
      have ov8 := ov7.same s8
      have nsy4 := ov7.none nsy
      generalize upd H7 sy' (.lst (strsV B)) = H8 at s8 hs8 ov8 ⊢
      obtain ⟨st8, t18, t28⟩ := li4.base ov8.ou (by
        intro y hy
        simp only [List.mem_cons, List.not_mem_nil, or_false] at hy ⊢
        rcases hy with z | z | z <;> simp [z])
      have syD : D ≠ sy' := fun z => hD7 (by rw [z]; exact nsy)
      obtain ⟨j1, j2, j3⟩ := li4.djs (S' := D) (rU' := rU) (rO' := rO) (ap' := ap) (sy' := sy') (by
        intro y hy
        simp only [List.mem_cons, List.not_mem_nil, or_false] at hy
        rcases hy with z | z | z
        · exact .inr (by rw [z]; exact nD4)
        · exact .inl (by simp [z])
        · exact .inl (by simp [z])) (.inl rfl) (.inr nsy4) (by
        intro y hy
        refine ⟨fun e => (by rw [li4.ha] at e; cases e), fun _ z => ?_⟩
        have hn := li4.new nsy4
        simp only [List.mem_cons, List.not_mem_nil, or_false, not_or] at hy hn
        rcases hy with q | q | q
        · exact syD (q ▸ z)
        · exact hn.2.2.2.2.2.2.2.2.2.1 (z ▸ q)
        · exact hn.2.2.2.2.2.2.2.2.2.2.1 (z ▸ q))
      have li8 : LI true T1 T2 CA CT (i + 1) H8 p c t la aU aO m rA D rU rO ap sy' u d n RU RO (flatR RU).length (flatR RO).length B B :=
        ⟨st8, mo7.same s8, ta7.same s8, t18, t28, s8 _ _ ha7, .inl ⟨rfl, hs8⟩, li4.ti.sync, j1, j2, j3, fun z => (by rw [← z, li4.ha] at nsy4; cases nsy4), Nat.le_succ_of_le li4.cn, Nat.le_succ_of_le cB⟩
      refine same_ok (CA := CA) (CT := CT) rfl rfl li8 (by omega) fun H12' s12' => ?_
      exact ⟨aU, aO, D, rU, rO, ap, sy', u, d, n, _, _, _, _, _, _, _, _, _, _, _, _, _, rfl, li8.same s12'⟩
    refine ⟨_, rfl, _, _, rfl, rfl, _, rfl, ite2 (fun _ => ?_) (fun _ => ?_)⟩
    · -- a step
      have nBS : ¬ (("begin" : Str) = "switch") := by decide +kernel
      have nMS : ¬ (("mark" : Str) = "switch") := by decide +kernel
      have d3 := li4.ti.d3
      have hw : ∀ k, k < 3 → ([V.str "begin", V.str "mark", V.str "switch"] : List V)[k]? = some (.str (wordS k)) := fun k hk => by
        match k, hk with
        | 0, _ => rfl
        | 1, _ => rfl
        | 2, _ => rfl
      refine ⟨_, rfl, p, c, 6, rfl, by decide, li4.st, fun H5 r6 _ _ st5 d5 => ?_⟩
      have li5 := li4.drawn st5 d5
      clear li4 st5 d5
      refine ⟨_, _, rfl, rfl, _, rfl, ite2 (fun _ => ?_) (fun _ => ?_)⟩
      · refine ⟨by show 3 ≤ sizeLine; omega, fun l nl => ?_⟩
        have li6 := li5.same (same_new (o := .lst [.str "begin", .str "mark", .str "switch"]) nl)
        have hl6 : upd H5 l (.lst [.str "begin", .str "mark", .str "switch"]) l = some (.lst [.str "begin", .str "mark", .str "switch"]) := upd_same
        generalize upd H5 l (.lst [.str "begin", .str "mark", .str "switch"]) = H6 at li6 hl6 ⊢
        refine ⟨_, rfl, m, _, 3, .int (d : Int), rfl, rfl, SqL.of li6.mo.hm, atI_nat (j := 3) rfl, l, _, (d : Int), .str (wordS d), rfl, rfl, SqL.of hl6, atI_nat (hw d d3), ?_⟩
        obtain ⟨k, ek, hk3⟩ : ∃ k, d = k ∧ k < 3 := ⟨d, rfl, d3⟩
        have ew : wordS d = wordS k := by rw [ek]
        rw [ew]
        clear ek ew hl6
        -- texts, due
        refine ⟨_, rfl, ap, _, rfl, .inl (SqL.of li6.ha), fun tx ntx => ?_⟩
        have txn := li6.new ntx
        have li7 := li6.same (same_new (o := .lst (strsV B)) ntx)
        have htx : upd H6 tx (.lst (strsV B)) tx = some (.lst (strsV B)) := upd_same
        generalize upd H6 tx (.lst (strsV B)) = H7 at li7 htx ⊢
        have txm : tx ∉ [m, rA, S, rU, rO] := fun hm => txn (by
          simp only [List.mem_cons, List.not_mem_nil, or_false] at hm ⊢
          rcases hm with q | q | q | q | q <;> simp [q])
        refine ⟨_, rfl, _, rfl, _, rfl, ?_⟩
        dsimp only [tNil]
        have cn := li7.cn
        refine ⟨m, rA, S, rU, rO, tx, u, d, sU, sO, n, k, RU, RO, B, rfl, hk3, li7.mo, htx, txm, li7.ti.hd, li7.ti.ne, by omega, li7.ti.okU, li7.ti.okO, by omega, by omega, by omega, fun NE H8 p8 s8 n8 g8 => ?_, fun ED H8 S' rU' rO' sm ou8 nw => ?_⟩
        · have li8 := li7.same s8
          refine ⟨_, rfl, _, rfl, _, rfl, ?_⟩
          dsimp only [tNil]
          refine ⟨t, la, aU, aO, tx, u, d, sU, sO, n, k, flatR RU, flatR RO, B, rfl, hk3, li8.ta, s8 _ _ htx, li8.t1, li8.t2, neT, by omega, by omega, by omega, li8.s20, by omega, parse_head li8.ti.hd li8.ti.ne, fun NE' H9 p9 s9 n9 g9 => ?_, fun ED => absurd ED NE⟩
          have li9 := li8.same s9
          refine ⟨_, rfl, .tuple [.str "step", .int (d : Int)], .tuple [.str "step", .int (d : Int)], .tup (SqT.of g9) (.cons (.str _) (.cons (.int _) .nil)), .tup (SqT.of (s9 _ _ g8)) (.cons (.str _) (.cons (.int _) .nil)), rfl, rfl, (by simp only [PyData.depth, PyData.depthAll]; omega), _, rfl, ?_⟩
          rw [PySem.SeqAt.eqv_refl_plain (.tuple [.str "step", .int (d : Int)]) rfl]
          refine iteF ?_
          have li10 := li9.succ
          refine ⟨_, rfl, rfl, _, rfl, ite2 (fun _ => ⟨_, rfl, rfl, _, rfl, ite2 (fun z => absurd (of_decide_eq_true z) (fun e => nomatch e)) (fun _ => ?_)⟩) (fun _ => ?_)⟩
          · refine same_ok (CA := CA) (CT := CT) rfl rfl li10 (by omega) fun H12' s12' => ?_
            exact ⟨aU, aO, S, rU, rO, ap, sy, u, d, n, _, _, sU, sO, _, _, _, _, _, _, _, _, _, rfl, li10.same s12'⟩
          · refine same_ok (CA := CA) (CT := CT) rfl rfl li10 (by omega) fun H12' s12' => ?_
            exact ⟨aU, aO, S, rU, rO, ap, sy, u, d, n, _, _, sU, sO, _, _, _, _, _, _, _, _, _, rfl, li10.same s12'⟩
        · have dj := li7.dj
          have tpn : ∀ y ∈ [t, la, aU, aO], y ∉ [m, rA, S, rU, rO] := fun y hy z => dj y z (by
            simp only [List.mem_cons, List.not_mem_nil, or_false] at hy ⊢
            rcases hy with q | q | q | q <;> simp [q])
          have apn : ∀ y ∈ [ap, sy], y ∉ [m, rA, S, rU, rO] := fun y hy z => dj y z (by
            simp only [List.mem_cons, List.not_mem_nil, or_false] at hy ⊢
            rcases hy with q | q <;> simp [q])
          obtain ⟨st8, t18, t28⟩ := li7.base ou8 (by
            intro y hy
            simp only [List.mem_cons, List.not_mem_nil, or_false] at hy ⊢
            rcases hy with z | z | z | z | z <;> simp [z])
          have ta8 := li7.ta.ou ou8 tpn
          have ha8 := ou8 _ _ (apn ap (by simp)) li7.ha
          have hs8 := ou8 _ _ (apn sy (by simp)) li7.hsy
          have htx8 := ou8 _ _ txm htx
          refine ⟨_, rfl, _, rfl, _, rfl, ?_⟩
          dsimp only [tNil]
          refine ⟨t, la, aU, aO, tx, u, d, sU, sO, n, k, flatR RU, flatR RO, B, rfl, hk3, ta8, htx8, t18, t28, neT, by omega, by omega, by omega, li7.s20, by omega, parse_head li7.ti.hd li7.ti.ne, fun NE => absurd ED NE, fun _ H9 stp fr9 => ?_⟩
          refine ⟨_, rfl, .none, .none, .non, .non, rfl, rfl, by decide, _, rfl, ?_⟩
          rw [PySem.SeqAt.eqv_refl_plain .none rfl]
          refine iteF ?_
          have tpa : ∀ y ∈ [ap, sy], y ∉ [t, aU, aO] := fun y hy z => li7.dj3 y hy (by
            simp only [List.mem_cons, List.not_mem_nil, or_false] at z ⊢
            rcases z with q | q | q <;> simp [q])
          have tpc : ∀ y ∈ [p, c], y ∉ [t, aU, aO] := fun y hy z => li7.dj2 y hy (by
            simp only [List.mem_cons, List.not_mem_nil, or_false] at z ⊢
            rcases z with q | q | q <;> simp [q])
          have ha9 : H9 ap = some (.lst (strsV B)) := fr9.at_ t18 t28 ha8 (fun ps z => nomatch z) (tpa ap (by simp))
          have hs9 : H9 sy = some (.lst (strsV Sy)) := fr9.at_ t18 t28 hs8 (fun ps z => nomatch z) (tpa sy (by simp))
          have st9 : StateAt H9 p c := by
            obtain ⟨⟨seed, ms, g1, g2, g3⟩, ne⟩ := st8
            exact ⟨⟨seed, ms, fr9.at_ t18 t28 g1 (fun ps z => nomatch z) (tpc p (by simp)), fr9.at_ t18 t28 g2 (fun ps z => nomatch z) (tpc c (by simp)), g3⟩, ne⟩
          obtain ⟨j1, j2, j3⟩ := li7.djs (S' := S') (rU' := rU') (rO' := rO') (ap' := ap) (sy' := sy) nw (.inl rfl) (.inl rfl) (by
            intro y hy
            exact ⟨fun e => (by rw [li7.ha] at e; cases e), fun e => (by rw [li7.hsy] at e; cases e)⟩)
          have insT := tape_ins ta8
          have mnT : ∀ y ∈ [m, rA, S', rU', rO'], y ∉ [t, aU, aO] := fun y hy z => j1 y hy (by
            simp only [List.mem_cons, List.not_mem_nil, or_false] at z ⊢
            rcases z with q | q | q <;> simp [q])
          match k, hk3 with
          | 0, _ =>
            have d0 : d = 0 := ED
            subst d0
            have mo9 : ModAt H9 m rA S' rU' rO' u 1 RU ((1, numL (n + 1)) :: entR B) sU 0 := ModAt.fr sm fr9 t18 t28 mnT (fun y hy r => ins_row (insT y hy) r)
            have li9 : LI true T1 T2 CA CT (i + 1) H9 p c t la aU aO m rA S' rU' rO' ap sy u 1 n RU ((1, numL (n + 1)) :: entR B) sU 0 B Sy := ⟨st9, mo9, stp, fr9.t1, fr9.t2, ha9, .inl ⟨rfl, hs9⟩, li7.ti.begin (by omega), j1, j2, j3, li7.ne, Nat.le_succ_of_le li7.cn, Nat.le_succ_of_le li7.cB⟩
            refine ⟨_, rfl, rfl, _, rfl, ite2 (fun z => absurd (V.str.inj (of_decide_eq_true z)) nBS) (fun _ => ?_)⟩
            refine same_ok (CA := CA) (CT := CT) rfl rfl li9 (by omega) fun H12' s12' => ?_
            exact ⟨aU, aO, S', rU', rO', ap, sy, u, 1, n, _, _, _, _, _, _, _, _, _, _, _, _, _, rfl, li9.same s12'⟩
          | 1, _ =>
            have d1 : d = 1 := ED
            subst d1
            have mo9 : ModAt H9 m rA S' rU' rO' u 2 RU (RO ++ [(3, [])]) sU sO := ModAt.fr sm fr9 t18 t28 mnT (fun y hy r => ins_row (insT y hy) r)
            have ta9 : TapeAt CA CT H9 t la aU aO u 2 (flatR RU) (flatR (RO ++ [(3, [])])) sU sO := by
              have e : flatR (RO ++ [(3, [])]) = flatR RO ++ recL 3 [] := flat_snoc _ _
              rw [e]
              exact stp
            have li9 : LI true T1 T2 CA CT (i + 1) H9 p c t la aU aO m rA S' rU' rO' ap sy u 2 n RU (RO ++ [(3, [])]) sU sO B Sy := ⟨st9, mo9, ta9, fr9.t1, fr9.t2, ha9, .inl ⟨rfl, hs9⟩, li7.ti.mark, j1, j2, j3, li7.ne, Nat.le_succ_of_le li7.cn, Nat.le_succ_of_le li7.cB⟩
            refine ⟨_, rfl, rfl, _, rfl, ite2 (fun z => absurd (V.str.inj (of_decide_eq_true z)) nMS) (fun _ => ?_)⟩
            refine same_ok (CA := CA) (CT := CT) rfl rfl li9 (by omega) fun H12' s12' => ?_
            exact ⟨aU, aO, S', rU', rO', ap, sy, u, 2, n, _, _, _, _, _, _, _, _, _, _, _, _, _, rfl, li9.same s12'⟩
          | 2, _ =>
            have d2 : d = 2 := ED
            subst d2
            have mo9 : ModAt H9 m rA S' rU' rO' (1 - u) 0 RO [] (flatR RO).length 0 := ModAt.fr sm fr9 t18 t28 mnT (fun y hy r => ins_row (insT y hy) r)
            have tiw : TInv 0 (n + 1) RO [] (flatR RO).length 0 B Sy := by
              have w := li7.ti.switch
              have pre : Sy <+: B := li7.ti.sy.trans (by
                have h := texts_pre (kept_pre RU sU)
                rw [li7.ti.tx] at h
                exact h)
              exact ⟨w.okU, w.okO, w.hd, w.mkd, w.tx, pre.trans w.sy, w.lU, w.lO, w.eU, .inl ⟨rfl, rfl, rfl⟩⟩
            have li9 : LI true T1 T2 CA CT (i + 1) H9 p c t la aO aU m rA S' rU' rO' ap sy (1 - u) 0 (n + 1) RO [] (flatR RO).length 0 B Sy := ⟨st9, mo9, stp, fr9.t1, fr9.t2, ha9, .inl ⟨rfl, hs9⟩, tiw, fun y hy => dj_sw (j1 y hy), fun y hy => dj_sw2 (j2 y hy), fun y hy => dj_sw3 (j3 y hy), li7.ne, Nat.succ_le_succ li7.cn, Nat.le_succ_of_le li7.cB⟩
            refine ⟨_, rfl, rfl, _, rfl, ite2 (fun _ => ⟨_, rfl, rfl, _, rfl, ite2 (fun _ => ?_) (fun z => absurd (decide_eq_true rfl) z)⟩) (fun z => absurd (decide_eq_true rfl) z)⟩
            refine ⟨_, rfl, ap, _, rfl, .inl (SqL.of ha9), fun sy' nsy => ?_⟩
            have s10 : Same H9 (upd H9 sy' (.lst (strsV B))) := same_new nsy
            have hs10 : upd H9 sy' (.lst (strsV B)) sy' = some (.lst (strsV B)) := upd_same
            have f10 := Fr.same (S := []) fr9.t1 fr9.t2 neT s10
            generalize upd H9 sy' (.lst (strsV B)) = H10 at s10 hs10 f10 ⊢
            obtain ⟨w1, w2, w3⟩ := li9.djs (S' := S') (rU' := rU') (rO' := rO') (ap' := ap) (sy' := sy') (by
              intro y hy
              simp only [List.mem_cons, List.not_mem_nil, or_false] at hy ⊢
              rcases hy with q | q | q <;> simp [q]) (.inl rfl) (.inr nsy) (by
              intro y hy
              refine ⟨fun e => (by rw [ha9] at e; cases e), fun _ z => ?_⟩
              refine mo9.mem y ?_ (by rw [z]; exact nsy)
              simp only [List.mem_cons, List.not_mem_nil, or_false] at hy ⊢
              rcases hy with q | q | q <;> simp [q])
            have li10 : LI true T1 T2 CA CT (i + 1) H10 p c t la aO aU m rA S' rU' rO' ap sy' (1 - u) 0 (n + 1) RO [] (flatR RO).length 0 B B :=
              ⟨st9.mono (fun o e => s10 _ _ e) (fun o e => s10 _ _ e), mo9.same s10, TapeAt.same stp s10, f10.t1, f10.t2, s10 _ _ ha9, .inl ⟨rfl, hs10⟩, li7.ti.switch, w1, w2, w3,
                fun z => (by rw [← z, ha9] at nsy; cases nsy), Nat.succ_le_succ li7.cn, Nat.le_succ_of_le li7.cB⟩
            refine same_ok (CA := CA) (CT := CT) rfl rfl li10 (by omega) fun H12' s12' => ?_
            exact ⟨aO, aU, S', rU', rO', ap, sy', 1 - u, 0, n + 1, _, _, _, _, _, _, _, _, _, _, _, _, _, rfl, li10.same s12'⟩
      · refine ⟨_, rfl, by show 3 ≤ sizeLine; omega, fun l nl => ?_⟩
        have ln := li5.new nl
        simp only [List.mem_cons, List.not_mem_nil, or_false, not_or] at ln
        have li5b := li5.same (same_new (o := .lst [.str "begin", .str "mark", .str "switch"]) nl)
        refine ⟨p, c, l, _, rfl, upd_same, ln.1, ln.2.1, by decide, by decide, li5b.st, fun H6 v hv st6 d6 => ?_⟩
        have li6 := li5b.drawn st6 d6
        clear li5b st6 d6
        obtain ⟨k, rfl, hk3⟩ : ∃ k, v = .str (wordS k) ∧ k < 3 := by
          simp only [List.mem_cons, List.not_mem_nil, or_false] at hv
          rcases hv with e | e | e
          · exact ⟨0, e, by decide⟩
          · exact ⟨1, e, by decide⟩
          · exact ⟨2, e, by decide⟩
        clear hv
        -- texts, due
        refine ⟨_, rfl, ap, _, rfl, .inl (SqL.of li6.ha), fun tx ntx => ?_⟩
        have txn := li6.new ntx
        have li7 := li6.same (same_new (o := .lst (strsV B)) ntx)
        have htx : upd H6 tx (.lst (strsV B)) tx = some (.lst (strsV B)) := upd_same
        generalize upd H6 tx (.lst (strsV B)) = H7 at li7 htx ⊢
        have txm : tx ∉ [m, rA, S, rU, rO] := fun hm => txn (by
          simp only [List.mem_cons, List.not_mem_nil, or_false] at hm ⊢
          rcases hm with q | q | q | q | q <;> simp [q])
        refine ⟨_, rfl, _, rfl, _, rfl, ?_⟩
        dsimp only [tNil]
        have cn := li7.cn
        refine ⟨m, rA, S, rU, rO, tx, u, d, sU, sO, n, k, RU, RO, B, rfl, hk3, li7.mo, htx, txm, li7.ti.hd, li7.ti.ne, by omega, li7.ti.okU, li7.ti.okO, by omega, by omega, by omega, fun NE H8 p8 s8 n8 g8 => ?_, fun ED H8 S' rU' rO' sm ou8 nw => ?_⟩
        · have li8 := li7.same s8
          refine ⟨_, rfl, _, rfl, _, rfl, ?_⟩
          dsimp only [tNil]
          refine ⟨t, la, aU, aO, tx, u, d, sU, sO, n, k, flatR RU, flatR RO, B, rfl, hk3, li8.ta, s8 _ _ htx, li8.t1, li8.t2, neT, by omega, by omega, by omega, li8.s20, by omega, parse_head li8.ti.hd li8.ti.ne, fun NE' H9 p9 s9 n9 g9 => ?_, fun ED => absurd ED NE⟩
          have li9 := li8.same s9
          refine ⟨_, rfl, .tuple [.str "step", .int (d : Int)], .tuple [.str "step", .int (d : Int)], .tup (SqT.of g9) (.cons (.str _) (.cons (.int _) .nil)), .tup (SqT.of (s9 _ _ g8)) (.cons (.str _) (.cons (.int _) .nil)), rfl, rfl, (by simp only [PyData.depth, PyData.depthAll]; omega), _, rfl, ?_⟩
          rw [PySem.SeqAt.eqv_refl_plain (.tuple [.str "step", .int (d : Int)]) rfl]
          refine iteF ?_
          have li10 := li9.succ
          refine ⟨_, rfl, rfl, _, rfl, ite2 (fun _ => ⟨_, rfl, rfl, _, rfl, ite2 (fun z => absurd (of_decide_eq_true z) (fun e => nomatch e)) (fun _ => ?_)⟩) (fun _ => ?_)⟩
          · refine same_ok (CA := CA) (CT := CT) rfl rfl li10 (by omega) fun H12' s12' => ?_
            exact ⟨aU, aO, S, rU, rO, ap, sy, u, d, n, _, _, sU, sO, _, _, _, _, _, _, _, _, _, rfl, li10.same s12'⟩
          · refine same_ok (CA := CA) (CT := CT) rfl rfl li10 (by omega) fun H12' s12' => ?_
            exact ⟨aU, aO, S, rU, rO, ap, sy, u, d, n, _, _, sU, sO, _, _, _, _, _, _, _, _, _, rfl, li10.same s12'⟩
        · have dj := li7.dj
          have tpn : ∀ y ∈ [t, la, aU, aO], y ∉ [m, rA, S, rU, rO] := fun y hy z => dj y z (by
            simp only [List.mem_cons, List.not_mem_nil, or_false] at hy ⊢
            rcases hy with q | q | q | q <;> simp [q])
          have apn : ∀ y ∈ [ap, sy], y ∉ [m, rA, S, rU, rO] := fun y hy z => dj y z (by
            simp only [List.mem_cons, List.not_mem_nil, or_false] at hy ⊢
            rcases hy with q | q <;> simp [q])
          obtain ⟨st8, t18, t28⟩ := li7.base ou8 (by
            intro y hy
            simp only [List.mem_cons, List.not_mem_nil, or_false] at hy ⊢
            rcases hy with z | z | z | z | z <;> simp [z])
          have ta8 := li7.ta.ou ou8 tpn
          have ha8 := ou8 _ _ (apn ap (by simp)) li7.ha
          have hs8 := ou8 _ _ (apn sy (by simp)) li7.hsy
          have htx8 := ou8 _ _ txm htx
          refine ⟨_, rfl, _, rfl, _, rfl, ?_⟩
          dsimp only [tNil]
          refine ⟨t, la, aU, aO, tx, u, d, sU, sO, n, k, flatR RU, flatR RO, B, rfl, hk3, ta8, htx8, t18, t28, neT, by omega, by omega, by omega, li7.s20, by omega, parse_head li7.ti.hd li7.ti.ne, fun NE => absurd ED NE, fun _ H9 stp fr9 => ?_⟩
          refine ⟨_, rfl, .none, .none, .non, .non, rfl, rfl, by decide, _, rfl, ?_⟩
          rw [PySem.SeqAt.eqv_refl_plain .none rfl]
          refine iteF ?_
          have tpa : ∀ y ∈ [ap, sy], y ∉ [t, aU, aO] := fun y hy z => li7.dj3 y hy (by
            simp only [List.mem_cons, List.not_mem_nil, or_false] at z ⊢
            rcases z with q | q | q <;> simp [q])
          have tpc : ∀ y ∈ [p, c], y ∉ [t, aU, aO] := fun y hy z => li7.dj2 y hy (by
            simp only [List.mem_cons, List.not_mem_nil, or_false] at z ⊢
            rcases z with q | q | q <;> simp [q])
          have ha9 : H9 ap = some (.lst (strsV B)) := fr9.at_ t18 t28 ha8 (fun ps z => nomatch z) (tpa ap (by simp))
          have hs9 : H9 sy = some (.lst (strsV Sy)) := fr9.at_ t18 t28 hs8 (fun ps z => nomatch z) (tpa sy (by simp))
          have st9 : StateAt H9 p c := by
            obtain ⟨⟨seed, ms, g1, g2, g3⟩, ne⟩ := st8
            exact ⟨⟨seed, ms, fr9.at_ t18 t28 g1 (fun ps z => nomatch z) (tpc p (by simp)), fr9.at_ t18 t28 g2 (fun ps z => nomatch z) (tpc c (by simp)), g3⟩, ne⟩
          obtain ⟨j1, j2, j3⟩ := li7.djs (S' := S') (rU' := rU') (rO' := rO') (ap' := ap) (sy' := sy) nw (.inl rfl) (.inl rfl) (by
            intro y hy
            exact ⟨fun e => (by rw [li7.ha] at e; cases e), fun e => (by rw [li7.hsy] at e; cases e)⟩)
          have insT := tape_ins ta8
          have mnT : ∀ y ∈ [m, rA, S', rU', rO'], y ∉ [t, aU, aO] := fun y hy z => j1 y hy (by
            simp only [List.mem_cons, List.not_mem_nil, or_false] at z ⊢
            rcases z with q | q | q <;> simp [q])
          match k, hk3 with
          | 0, _ =>
            have d0 : d = 0 := ED
            subst d0
            have mo9 : ModAt H9 m rA S' rU' rO' u 1 RU ((1, numL (n + 1)) :: entR B) sU 0 := ModAt.fr sm fr9 t18 t28 mnT (fun y hy r => ins_row (insT y hy) r)
            have li9 : LI true T1 T2 CA CT (i + 1) H9 p c t la aU aO m rA S' rU' rO' ap sy u 1 n RU ((1, numL (n + 1)) :: entR B) sU 0 B Sy := ⟨st9, mo9, stp, fr9.t1, fr9.t2, ha9, .inl ⟨rfl, hs9⟩, li7.ti.begin (by omega), j1, j2, j3, li7.ne, Nat.le_succ_of_le li7.cn, Nat.le_succ_of_le li7.cB⟩
            refine ⟨_, rfl, rfl, _, rfl, ite2 (fun z => absurd (V.str.inj (of_decide_eq_true z)) nBS) (fun _ => ?_)⟩
            refine same_ok (CA := CA) (CT := CT) rfl rfl li9 (by omega) fun H12' s12' => ?_
            exact ⟨aU, aO, S', rU', rO', ap, sy, u, 1, n, _, _, _, _, _, _, _, _, _, _, _, _, _, rfl, li9.same s12'⟩
          | 1, _ =>
            have d1 : d = 1 := ED
            subst d1
            have mo9 : ModAt H9 m rA S' rU' rO' u 2 RU (RO ++ [(3, [])]) sU sO := ModAt.fr sm fr9 t18 t28 mnT (fun y hy r => ins_row (insT y hy) r)
            have ta9 : TapeAt CA CT H9 t la aU aO u 2 (flatR RU) (flatR (RO ++ [(3, [])])) sU sO := by
              have e : flatR (RO ++ [(3, [])]) = flatR RO ++ recL 3 [] := flat_snoc _ _
              rw [e]
              exact stp
            have li9 : LI true T1 T2 CA CT (i + 1) H9 p c t la aU aO m rA S' rU' rO' ap sy u 2 n RU (RO ++ [(3, [])]) sU sO B Sy := ⟨st9, mo9, ta9, fr9.t1, fr9.t2, ha9, .inl ⟨rfl, hs9⟩, li7.ti.mark, j1, j2, j3, li7.ne, Nat.le_succ_of_le li7.cn, Nat.le_succ_of_le li7.cB⟩
            refine ⟨_, rfl, rfl, _, rfl, ite2 (fun z => absurd (V.str.inj (of_decide_eq_true z)) nMS) (fun _ => ?_)⟩
            refine same_ok (CA := CA) (CT := CT) rfl rfl li9 (by omega) fun H12' s12' => ?_
            exact ⟨aU, aO, S', rU', rO', ap, sy, u, 2, n, _, _, _, _, _, _, _, _, _, _, _, _, _, rfl, li9.same s12'⟩
          | 2, _ =>
            have d2 : d = 2 := ED
            subst d2
            have mo9 : ModAt H9 m rA S' rU' rO' (1 - u) 0 RO [] (flatR RO).length 0 := ModAt.fr sm fr9 t18 t28 mnT (fun y hy r => ins_row (insT y hy) r)
            have tiw : TInv 0 (n + 1) RO [] (flatR RO).length 0 B Sy := by
              have w := li7.ti.switch
              have pre : Sy <+: B := li7.ti.sy.trans (by
                have h := texts_pre (kept_pre RU sU)
                rw [li7.ti.tx] at h
                exact h)
              exact ⟨w.okU, w.okO, w.hd, w.mkd, w.tx, pre.trans w.sy, w.lU, w.lO, w.eU, .inl ⟨rfl, rfl, rfl⟩⟩
            have li9 : LI true T1 T2 CA CT (i + 1) H9 p c t la aO aU m rA S' rU' rO' ap sy (1 - u) 0 (n + 1) RO [] (flatR RO).length 0 B Sy := ⟨st9, mo9, stp, fr9.t1, fr9.t2, ha9, .inl ⟨rfl, hs9⟩, tiw, fun y hy => dj_sw (j1 y hy), fun y hy => dj_sw2 (j2 y hy), fun y hy => dj_sw3 (j3 y hy), li7.ne, Nat.succ_le_succ li7.cn, Nat.le_succ_of_le li7.cB⟩
            refine ⟨_, rfl, rfl, _, rfl, ite2 (fun _ => ⟨_, rfl, rfl, _, rfl, ite2 (fun _ => ?_) (fun z => absurd (decide_eq_true rfl) z)⟩) (fun z => absurd (decide_eq_true rfl) z)⟩
            refine ⟨_, rfl, ap, _, rfl, .inl (SqL.of ha9), fun sy' nsy => ?_⟩
            have s10 : Same H9 (upd H9 sy' (.lst (strsV B))) := same_new nsy
            have hs10 : upd H9 sy' (.lst (strsV B)) sy' = some (.lst (strsV B)) := upd_same
            have f10 := Fr.same (S := []) fr9.t1 fr9.t2 neT s10
            generalize upd H9 sy' (.lst (strsV B)) = H10 at s10 hs10 f10 ⊢
            obtain ⟨w1, w2, w3⟩ := li9.djs (S' := S') (rU' := rU') (rO' := rO') (ap' := ap) (sy' := sy') (by
              intro y hy
              simp only [List.mem_cons, List.not_mem_nil, or_false] at hy ⊢
              rcases hy with q | q | q <;> simp [q]) (.inl rfl) (.inr nsy) (by
              intro y hy
              refine ⟨fun e => (by rw [ha9] at e; cases e), fun _ z => ?_⟩
              refine mo9.mem y ?_ (by rw [z]; exact nsy)
              simp only [List.mem_cons, List.not_mem_nil, or_false] at hy ⊢
              rcases hy with q | q | q <;> simp [q])
            have li10 : LI true T1 T2 CA CT (i + 1) H10 p c t la aO aU m rA S' rU' rO' ap sy' (1 - u) 0 (n + 1) RO [] (flatR RO).length 0 B B :=
              ⟨st9.mono (fun o e => s10 _ _ e) (fun o e => s10 _ _ e), mo9.same s10, TapeAt.same stp s10, f10.t1, f10.t2, s10 _ _ ha9, .inl ⟨rfl, hs10⟩, li7.ti.switch, w1, w2, w3,
                fun z => (by rw [← z, ha9] at nsy; cases nsy), Nat.succ_le_succ li7.cn, Nat.le_succ_of_le li7.cB⟩
            refine same_ok (CA := CA) (CT := CT) rfl rfl li10 (by omega) fun H12' s12' => ?_
            exact ⟨aO, aU, S', rU', rO', ap, sy', 1 - u, 0, n + 1, _, _, _, _, _, _, _, _, _, _, _, _, _, rfl, li10.same s12'⟩
    · -- the power is lost
      have cn := li4.cn
      have lU80 : RU.length ≤ 80 := by omega
      have lO80 : RO.length ≤ 80 := by omega
      refine ⟨_, rfl, _, rfl, _, rfl, ?_⟩
      dsimp only [tNil]
      refine ⟨p, c, m, rA, S, rU, rO, t, la, aU, aO, u, d, sU, sO, n, RU, RO, rfl, li4.st, li4.mo, li4.ta, li4.t1, li4.t2, neT, li4.ti.hd, li4.ti.hO, by omega, li4.ti.okU, li4.ti.okO, lU80, lO80, li4.ti.mkd, ?_, ?_, ?_⟩
      · intro y hy z
        refine li4.dj y hy ?_
        simp only [List.mem_cons, List.not_mem_nil, or_false] at z ⊢
        rcases z with q | q | q | q | q | q <;> simp [q]
      · intro y hy z
        refine li4.dj2 y hy ?_
        simp only [List.mem_cons, List.not_mem_nil, or_false] at z ⊢
        rcases z with q | q | q | q <;> simp [q]
      intro nU nO H5 S' rU' rO' du gU gO ndu f5 nw dun st5 hdu moK taK
      obtain ⟨mkU, tiU, preU, sufU⟩ := li4.ti.crashU gU
      -- recover
      obtain ⟨dx, h1⟩ := id taK.tp
      refine ⟨_, rfl, t, dx, _, rfl, h1, no_meth _ _ _, ?_⟩
      dsimp only [tNil]
      refine ⟨t, la, aU, aO, u, 0, sU, sO, n, (flatR RU).take nU, (flatR RO).take nO, keptR RU nU, keptR RO nO, rfl, taK, f5.t1, f5.t2, neT, area_cut li4.ti.okU li4.ti.hd (by omega) lU80, area_cut li4.ti.okO li4.ti.hO (by omega) lO80, mkU, fun H6 to nto f6 hto taV => ?_⟩
      obtain ⟨X, eX⟩ : ∃ X, textsR (if markR (keptR RO nO) = true then keptR RO nO else keptR RU nU) = X := ⟨_, rfl⟩
      rw [eX] at hdu hto
      have insT := tape_ins taK
      have duT : du ∉ [t, aU, aO] := fun z => by
        obtain ⟨C, dy, fs, e⟩ := insT du z
        rw [hdu] at e
        cases e
      have hdu6 : H6 du = some (.lst (strsV X)) := f6.at_ f5.t1 f5.t2 hdu (fun ps z => nomatch z) duT
      obtain ⟨k1, k2, k3⟩ := li4.djs (S' := S') (rU' := rU') (rO' := rO') (ap' := du) (sy' := sy) nw (.inr ndu) (.inl rfl) (by
        intro y hy
        refine ⟨fun _ z => dun (by
          rw [← z]
          simp only [List.mem_cons, List.not_mem_nil, or_false] at hy ⊢
          rcases hy with q | q | q <;> simp [q]), fun e => (by rw [li4.hsy] at e; cases e)⟩)
      have duto : du ≠ to := fun z => by
        rw [z, nto] at hdu
        cases hdu
      have tape5 : ∀ y ∈ [t, la, aU, aO], H5 y ≠ none := by
        obtain ⟨⟨_, g1⟩, g2, ⟨_, g3⟩, ⟨_, g4⟩, _, _⟩ := taK
        intro y hy
        simp only [List.mem_cons, List.not_mem_nil, or_false] at hy
        rcases hy with z | z | z | z <;> rw [z]
        · rw [g1]; exact fun z => nomatch z
        · rw [g2]; exact fun z => nomatch z
        · rw [g3]; exact fun z => nomatch z
        · rw [g4]; exact fun z => nomatch z
      have st5n : ∀ y ∈ [p, c], H5 y ≠ none := by
        obtain ⟨⟨_, g1⟩, ⟨_, g2⟩⟩ := st5.lst
        intro y hy
        simp only [List.mem_cons, List.not_mem_nil, or_false] at hy
        rcases hy with z | z <;> rw [z]
        · rw [g1]; exact fun z => nomatch z
        · rw [g2]; exact fun z => nomatch z
      have mod5 : ∀ y ∈ [m, rA, S', rU', rO'], H5 y ≠ none := by
        by_cases mo' : markR (keptR RO nO) = true
        · rw [if_pos mo'] at moK
          exact moK.mem
        · rw [if_neg mo'] at moK
          exact moK.mem
      have toN : ∀ y, H5 y ≠ none → y ≠ to := fun y hy z => hy (by rw [z]; exact nto)
      have j1 : ∀ y ∈ [m, rA, S', rU', rO'], y ∉ [p, c, t, la, aU, aO, du, to] := fun y hy hm => by
        have h1 := k1 y hy
        simp only [List.mem_cons, List.not_mem_nil, or_false, not_or] at hm h1
        obtain ⟨a1, a2, a3, a4, a5, a6, a7, _⟩ := h1
        rcases hm with z | z | z | z | z | z | z | z
        · exact a1 z
        · exact a2 z
        · exact a3 z
        · exact a4 z
        · exact a5 z
        · exact a6 z
        · exact a7 z
        · exact toN y (mod5 y hy) z
      have j2 : ∀ y ∈ [p, c], y ∉ [t, la, aU, aO, du, to] := fun y hy hm => by
        have h1 := k2 y hy
        simp only [List.mem_cons, List.not_mem_nil, or_false, not_or] at hm h1
        obtain ⟨a3, a4, a5, a6, a7, _⟩ := h1
        rcases hm with z | z | z | z | z | z
        · exact a3 z
        · exact a4 z
        · exact a5 z
        · exact a6 z
        · exact a7 z
        · exact toN y (st5n y hy) z
      have j3 : ∀ y ∈ [du, to], y ∉ [t, la, aU, aO] := fun y hy hm => by
        simp only [List.mem_cons, List.not_mem_nil, or_false] at hy
        rcases hy with z | z
        · rw [z] at hm
          exact k3 du (by simp) hm
        · exact toN y (tape5 y hm) z
      have mnT : ∀ y ∈ [m, rA, S', rU', rO'], y ∉ [t, aU, aO] := fun y hy z => j1 y hy (by
        simp only [List.mem_cons, List.not_mem_nil, or_false] at z ⊢
        rcases z with q | q | q <;> simp [q])
      have pcT : ∀ y ∈ [p, c], y ∉ [t, aU, aO] := fun y hy z => j2 y hy (by
        simp only [List.mem_cons, List.not_mem_nil, or_false] at z ⊢
        rcases z with q | q | q <;> simp [q])
      have st6 : StateAt H6 p c := by
        obtain ⟨⟨seed, ms, g1, g2, g3⟩, ne⟩ := st5
        exact ⟨⟨seed, ms, f6.at_ f5.t1 f5.t2 g1 (fun ps z => nomatch z) (pcT p (by simp)), f6.at_ f5.t1 f5.t2 g2 (fun ps z => nomatch z) (pcT c (by simp)), g3⟩, ne⟩
      obtain ⟨u', n', aV, aW, rV, rW, KV, preX, sufX, li6⟩ : ∃ (u' n' : Nat) (aV aW rV rW : Addr) (KV : Rw), X <+: B ∧ Sy <+: X ∧ LI true T1 T2 CA CT (i + 1) H6 p c t la aV aW m rA S' rV rW du to u' 0 n' KV [] (flatR KV).length 0 X X := by
        by_cases mo' : markR (keptR RO nO) = true
        · rw [if_pos mo'] at moK taV eX
          obtain ⟨tiO, preO, sufO⟩ := li4.ti.crashO gO mo'
          rw [eX] at tiO preO sufO
          have lX : X.length ≤ 6 + (i + 1) := Nat.le_trans preO.length_le (Nat.le_succ_of_le cB)
          have mo6 := moK.fr f6 f5.t1 f5.t2 mnT (fun y hy r => ins_row (insT y hy) r)
          exact ⟨1 - u, n + 1, aO, aU, rU', rO', keptR RO nO, preO, sufO, ⟨st6, mo6, taV, f6.t1, f6.t2, hdu6, .inl ⟨rfl, hto⟩, tiO, fun y hy => dj_sw (j1 y hy), fun y hy => dj_sw2 (j2 y hy), fun y hy => dj_sw3 (j3 y hy), duto, Nat.succ_le_succ cn, lX⟩⟩
        · rw [if_neg mo'] at moK taV eX
          rw [eX] at tiU preU sufU
          have lX : X.length ≤ 6 + (i + 1) := Nat.le_trans preU.length_le (Nat.le_succ_of_le cB)
          have mo6 := moK.fr f6 f5.t1 f5.t2 mnT (fun y hy r => ins_row (insT y hy) r)
          exact ⟨u, n, aU, aO, rU', rO', keptR RU nU, preU, sufU, ⟨st6, mo6, taV, f6.t1, f6.t2, hdu6, .inl ⟨rfl, hto⟩, tiU, j1, j2, j3, duto, Nat.le_succ_of_le cn, lX⟩⟩
      -- appended and synced as they stood
      have ap5 : ∀ y ∈ [ap, sy], y ∉ [p, c, t, aU, aO, m, rA, S, rU, rO] ∧ y ∉ [t, aU, aO] := fun y hy => by
        have h3 := li4.dj3 y hy
        have h2 : y ∉ [p, c] := fun z => li4.dj2 y z (by
          simp only [List.mem_cons, List.not_mem_nil, or_false] at hy ⊢
          rcases hy with q | q <;> simp [q])
        have h1 : y ∉ [m, rA, S, rU, rO] := fun z => li4.dj y z (by
          simp only [List.mem_cons, List.not_mem_nil, or_false] at hy ⊢
          rcases hy with q | q <;> simp [q])
        simp only [List.mem_cons, List.not_mem_nil, or_false, not_or] at h1 h2 h3 ⊢
        obtain ⟨b1, b2, b3, b4, b5⟩ := h1
        obtain ⟨b6, b7⟩ := h2
        obtain ⟨b8, b9, b10, b11⟩ := h3
        exact ⟨⟨b6, b7, b8, b10, b11, b1, b2, b3, b4, b5⟩, ⟨b8, b10, b11⟩⟩
      have ha6 : H6 ap = some (.lst (strsV B)) := f6.at_ f5.t1 f5.t2 (f5.at_ li4.t1 li4.t2 li4.ha (fun ps z => nomatch z) (ap5 ap (by simp)).1) (fun ps z => nomatch z) (ap5 ap (by simp)).2
      have hs6 : H6 sy = some (.lst (strsV Sy)) := f6.at_ f5.t1 f5.t2 (f5.at_ li4.t1 li4.t2 li4.hsy (fun ps z => nomatch z) (ap5 sy (by simp)).1) (fun ps z => nomatch z) (ap5 sy (by simp)).2
      -- told
      refine ⟨_, rfl, _, _, _, _, true, rfl, .ty _, .base (.lst hto), kit_ty (by decide +kernel), _, rfl, ?_⟩
      refine iteF ?_
      refine ⟨_, rfl, _, rfl, strsD X, strsD X, dp_strs hto, dp_strs hdu6, plain_strs X, plain_strs X, depth_strs X, _, rfl, ?_⟩
      rw [eqv_strs]
      refine iteF ?_
      -- due and appended
      refine ⟨_, rfl, _, rfl, _, rfl, du, _, rfl, .inl (SqL.of hdu6), _, rfl, ap, _, rfl, SqL.of ha6, fun q1 nq1 => ?_⟩
      have e1 : cutV (strsV B) none (some ((strsV X).length : Int)) = strsV X := by
        rw [strs_len, strs_cut, take_pre preX]
      rw [e1]
      have s7 : Same H6 (upd H6 q1 (.lst (strsV X))) := same_new nq1
      have g7 : upd H6 q1 (.lst (strsV X)) q1 = some (.lst (strsV X)) := upd_same
      generalize upd H6 q1 (.lst (strsV X)) = H7 at s7 g7 ⊢
      refine ⟨strsD X, strsD X, dp_strs (s7 _ _ hdu6), dp_strs g7, plain_strs X, plain_strs X, depth_strs X, _, rfl, ?_⟩
      rw [eqv_strs]
      refine iteF ?_
      -- due and synced
      refine ⟨_, rfl, _, rfl, sy, _, rfl, .inl (SqL.of (s7 _ _ hs6)), _, rfl, du, _, rfl, SqL.of (s7 _ _ hdu6), fun q2 nq2 => ?_⟩
      have e2 : cutV (strsV X) none (some ((strsV Sy).length : Int)) = strsV Sy := by
        rw [strs_len, strs_cut, take_pre sufX]
      rw [e2]
      have s8 : Same H7 (upd H7 q2 (.lst (strsV Sy))) := same_new nq2
      have g8 : upd H7 q2 (.lst (strsV Sy)) q2 = some (.lst (strsV Sy)) := upd_same
      generalize upd H7 q2 (.lst (strsV Sy)) = H8 at s8 g8 ⊢
      have s68 := same_trans s7 s8
      refine ⟨_, rfl, strsD Sy, strsD Sy, dp_strs g8, dp_strs (s68 _ _ hs6), plain_strs Sy, plain_strs Sy, depth_strs Sy, _, rfl, ?_⟩
      rw [eqv_strs]
      refine iteF ?_
      -- both anew
      have li8 := li6.same s68
      refine ⟨_, rfl, du, _, rfl, .inl (SqL.of (s68 _ _ hdu6)), fun a2 na2 => ?_⟩
      have li9 := li8.newA na2
      have hdu9 : upd H8 a2 (.lst (strsV X)) du = some (.lst (strsV X)) := same_new na2 _ _ (s68 _ _ hdu6)
      generalize upd H8 a2 (.lst (strsV X)) = H9 at li9 hdu9 ⊢
      refine ⟨_, rfl, du, _, rfl, .inl (SqL.of hdu9), fun a3 na3 => ?_⟩
      have li10 := li9.newS na3
      refine same_ok (CA := CA) (CT := CT) rfl rfl li10 (by omega) fun H12' s12' => ?_
      exact ⟨aV, aW, S', rV, rW, a2, a3, u', 0, n', _, _, _, _, _, _, _, _, _, _, _, _, _, rfl, li10.same s12'⟩
end
end K85
namespace K85
open PySem PySem.Spec PyProof.Rows L2 QR TL
theorem exm_self {K : PySem.W.Frag} {S : Addr} (h1 : PySem.W.subIn K (.ref S) (.type "BaseException") = some true) (h2 : PySem.W.hasDictIn K S = true) (h3 : PySem.W.typeIn K (.ref S) = some (.type "type")) (h4 : PySem.W.subIn K (.ref S) (.ref S) = some true) :
    PySem.W.exmOne K (.ref S) (.ref S) = some true := PySem.W.exm_ref h1 h2 h3 h4
theorem all_mk {l : PySem.W.OpenLaw} {q : Program} {w : World} {K : PySem.W.Frag} {h : Heap} {mg : Str → Option Value} {fa : Addr} (X : K.In h) (G : h.Ns mainGlobals mg) (hfa : mg "law" = some (.ref fa)) (tabs : AllTabs q K mg h) (hrec : ((recsOf q).any fun e => e.name == ("is_word" : Str)) = true) (hrec2 : ((recsOf q).any fun e => e.name == ("whole_number" : Str)) = true)
    {fW fN fC fT fR fA fH fS fD fP fL fXr fXk fXw fXs fXd fXc fXm fXq fZ fA0 fA1 fA2 fA3 fT0 fT1 fT2 fT3 fT4 fT5 fT6 fT7 fT8 fT9 fT10 fE CA CT CE CW : Addr} {odW anW odN anN odC anC odT anT odR anR odA anA odH anH odS anS odD anD odP anP odL anL odXr anXr odXk anXk odXw anXw odXs anXs odXd anXd odXc anXc odXm anXm odXq anXq odZ anZ odA0 anA0 odA1 anA1 odA2 anA2 odA3 anA3 odT0 anT0 odT1 anT1 odT2 anT2 odT3 anT3 odT4 anT4 odT5 anT5 odT6 anT6 odT7 anT7 odT8 anT8 odT9 anT9 odT10 anT10 odE anE : Option Addr}
    {slW slN slC slT slR slA slH slS slD slP slL slXr slXk slXw slXs slXd slXc slXm slXq slZ slA0 slA1 slA2 slA3 slT0 slT1 slT2 slT3 slT4 slT5 slT6 slT7 slT8 slT9 slT10 slE : Array (Option Value)}
    {ocW kVW dcW pmW ctW ocN kVN dcN pmN ctN cdN ocC kVC dcC pmC ctC cdC ocT kVT dcT pmT ctT cdT ocR kVR dcR pmR ctR cdR ocA kVA dcA pmA ctA cdA ocH kVH dcH pmH ctH ocS kVS dcS pmS ctS cdS ocD kVD dcD pmD ctD cdD ocP kVP dcP pmP ctP cdP ocL kVL dcL pmL ctL cdL ocXr kVXr dcXr pmXr ctXr cdXr ocXk kVXk dcXk pmXk ctXk cdXk ocXw kVXw dcXw pmXw ctXw cdXw ocXs kVXs dcXs pmXs ctXs cdXs ocXd kVXd dcXd pmXd ctXd cdXd ocXc kVXc dcXc pmXc ctXc cdXc ocXm kVXm dcXm pmXm ctXm cdXm ocXq kVXq dcXq pmXq ctXq cdXq ocZ kVZ dcZ pmZ ctZ cdZ ocA0 kVA0 dcA0 pmA0 ctA0 cdA0 ocA1 kVA1 dcA1 pmA1 ctA1 cdA1 ocA2 kVA2 dcA2 pmA2 ctA2 cdA2 ocA3 kVA3 dcA3 pmA3 ctA3 cdA3 ocT0 kVT0 dcT0 pmT0 ctT0 cdT0 ocT1 kVT1 dcT1 pmT1 ctT1 cdT1 ocT2 kVT2 dcT2 pmT2 ctT2 cdT2 ocT3 kVT3 dcT3 pmT3 ctT3 cdT3 ocT4 kVT4 dcT4 pmT4 ctT4 cdT4 ocT5 kVT5 dcT5 pmT5 ctT5 cdT5 ocT6 kVT6 dcT6 pmT6 ctT6 cdT6 ocT7 kVT7 dcT7 pmT7 ctT7 cdT7 ocT8 kVT8 dcT8 pmT8 ctT8 cdT8 ocT9 kVT9 dcT9 pmT9 ctT9 cdT9 ocT10 kVT10 dcT10 pmT10 ctT10 cdT10 ocE dcE pmE cdE ctE : Value}
    {cW tW cH tH : Addr} {eW eH : Value} {ddW ddH : Option Addr} {vsW vsH : Array Value} {ssW ssH : Array (Option Value)} {kDI kHE kEN kRE kMH kCS kCF kCM : Tok}
    {nmE qE : Str} {NE : Addr} {bsE : List Value} {snE : List Str} {subE : List Value} {abE : Bool} {colE : Option Bool} {ddE : Option Addr} {m0E m1E m2E m3E m5E : Option Value}
    (aW : PySem.W.nsIn K mainGlobals "is_word" = some (some (.ref fW)))
    (lW : K.lookup fW = some ⟨ocW, odW, .func (PySem.W.fnOf "is_word" "is_word" (defArgs sWord) (defBody sWord) (defScope sWord) .none kVW dcW pmW anW (.ref cW) ctW), slW⟩)
    (cW1 : PySem.W.codeIn K (.ref cW) "is_word" = true) (kW1 : PySem.W.keepIn K (.ref fW) = true)
    (aN : PySem.W.nsIn K mainGlobals "read_number" = some (some (.ref fN)))
    (lN : K.lookup fN = some ⟨ocN, odN, .func (PySem.W.fnOf "read_number" "read_number" (defArgs sNum) (defBody sNum) (defScope sNum) .none kVN dcN pmN anN (cdN) ctN), slN⟩)
    (cN1 : PySem.W.codeIn K (cdN) "read_number" = true) (kN1 : PySem.W.keepIn K (.ref fN) = true)
    (aC : PySem.W.nsIn K mainGlobals "check_number" = some (some (.ref fC)))
    (lC : K.lookup fC = some ⟨ocC, odC, .func (PySem.W.fnOf "check_number" "check_number" (defArgs sChk) (defBody sChk) (defScope sChk) .none kVC dcC pmC anC (cdC) ctC), slC⟩)
    (cC1 : PySem.W.codeIn K (cdC) "check_number" = true) (kC1 : PySem.W.keepIn K (.ref fC) = true)
    (aT : PySem.W.nsIn K mainGlobals "record_text" = some (some (.ref fT)))
    (lT : K.lookup fT = some ⟨ocT, odT, .func (PySem.W.fnOf "record_text" "record_text" (defArgs sRec) (defBody sRec) (defScope sRec) .none kVT dcT pmT anT (cdT) ctT), slT⟩)
    (cT1 : PySem.W.codeIn K (cdT) "record_text" = true) (kT1 : PySem.W.keepIn K (.ref fT) = true)
    (aR : PySem.W.nsIn K mainGlobals "read_record" = some (some (.ref fR)))
    (lR : K.lookup fR = some ⟨ocR, odR, .func (PySem.W.fnOf "read_record" "read_record" (defArgs sRR) (defBody sRR) (defScope sRR) .none kVR dcR pmR anR (cdR) ctR), slR⟩)
    (cR1 : PySem.W.codeIn K (cdR) "read_record" = true) (kR1 : PySem.W.keepIn K (.ref fR) = true)
    (aA : PySem.W.nsIn K mainGlobals "read_records" = some (some (.ref fA)))
    (lA : K.lookup fA = some ⟨ocA, odA, .func (PySem.W.fnOf "read_records" "read_records" (defArgs sRs) (defBody sRs) (defScope sRs) .none kVA dcA pmA anA (cdA) ctA), slA⟩)
    (cA1 : PySem.W.codeIn K (cdA) "read_records" = true) (kA1 : PySem.W.keepIn K (.ref fA) = true)
    (aH : PySem.W.nsIn K mainGlobals "whole_number" = some (some (.ref fH)))
    (lH : K.lookup fH = some ⟨ocH, odH, .func (PySem.W.fnOf "whole_number" "whole_number" (defArgs sWhole) (defBody sWhole) (defScope sWhole) .none kVH dcH pmH anH (.ref cH) ctH), slH⟩)
    (cH1 : PySem.W.codeIn K (.ref cH) "whole_number" = true) (kH1 : PySem.W.keepIn K (.ref fH) = true)
    (aS : PySem.W.nsIn K mainGlobals "_law_state" = some (some (.ref fS)))
    (lS : K.lookup fS = some ⟨ocS, odS, .func (PySem.W.fnOf "_law_state" "_law_state" (defArgs sState) (defBody sState) (defScope sState) .none kVS dcS pmS anS (cdS) ctS), slS⟩)
    (cS1 : PySem.W.codeIn K (cdS) "_law_state" = true) (kS1 : PySem.W.keepIn K (.ref fS) = true)
    (aD : PySem.W.nsIn K mainGlobals "_law_draw" = some (some (.ref fD)))
    (lD : K.lookup fD = some ⟨ocD, odD, .func (PySem.W.fnOf "_law_draw" "_law_draw" (defArgs sDraw) (defBody sDraw) (defScope sDraw) .none kVD dcD pmD anD (cdD) ctD), slD⟩)
    (cD1 : PySem.W.codeIn K (cdD) "_law_draw" = true) (kD1 : PySem.W.keepIn K (.ref fD) = true)
    (aP : PySem.W.nsIn K mainGlobals "_law_pick" = some (some (.ref fP)))
    (lP : K.lookup fP = some ⟨ocP, odP, .func (PySem.W.fnOf "_law_pick" "_law_pick" (defArgs sPick) (defBody sPick) (defScope sPick) .none kVP dcP pmP anP (cdP) ctP), slP⟩)
    (cP1 : PySem.W.codeIn K (cdP) "_law_pick" = true) (kP1 : PySem.W.keepIn K (.ref fP) = true)
    (aL : PySem.W.nsIn K mainGlobals "_law_record" = some (some (.ref fL)))
    (lL : K.lookup fL = some ⟨ocL, odL, .func (PySem.W.fnOf "_law_record" "_law_record" (defArgs sLRec) (defBody sLRec) (defScope sLRec) .none kVL dcL pmL anL (cdL) ctL), slL⟩)
    (cL1 : PySem.W.codeIn K (cdL) "_law_record" = true) (kL1 : PySem.W.keepIn K (.ref fL) = true)
    (aXr : PySem.W.nsIn K mainGlobals "_law_rows" = some (some (.ref fXr)))
    (lXr : K.lookup fXr = some ⟨ocXr, odXr, .func (PySem.W.fnOf "_law_rows" "_law_rows" (defArgs sLRows) (defBody sLRows) (defScope sLRows) .none kVXr dcXr pmXr anXr (cdXr) ctXr), slXr⟩)
    (cXr1 : PySem.W.codeIn K (cdXr) "_law_rows" = true) (kXr1 : PySem.W.keepIn K (.ref fXr) = true)
    (aXk : PySem.W.nsIn K mainGlobals "_law_kept" = some (some (.ref fXk)))
    (lXk : K.lookup fXk = some ⟨ocXk, odXk, .func (PySem.W.fnOf "_law_kept" "_law_kept" (defArgs sLKept) (defBody sLKept) (defScope sLKept) .none kVXk dcXk pmXk anXk (cdXk) ctXk), slXk⟩)
    (cXk1 : PySem.W.codeIn K (cdXk) "_law_kept" = true) (kXk1 : PySem.W.keepIn K (.ref fXk) = true)
    (aXw : PySem.W.nsIn K mainGlobals "_law_whole" = some (some (.ref fXw)))
    (lXw : K.lookup fXw = some ⟨ocXw, odXw, .func (PySem.W.fnOf "_law_whole" "_law_whole" (defArgs sLWhole) (defBody sLWhole) (defScope sLWhole) .none kVXw dcXw pmXw anXw (cdXw) ctXw), slXw⟩)
    (cXw1 : PySem.W.codeIn K (cdXw) "_law_whole" = true) (kXw1 : PySem.W.keepIn K (.ref fXw) = true)
    (aXs : PySem.W.nsIn K mainGlobals "_law_step" = some (some (.ref fXs)))
    (lXs : K.lookup fXs = some ⟨ocXs, odXs, .func (PySem.W.fnOf "_law_step" "_law_step" (defArgs sLStep) (defBody sLStep) (defScope sLStep) .none kVXs dcXs pmXs anXs (cdXs) ctXs), slXs⟩)
    (cXs1 : PySem.W.codeIn K (cdXs) "_law_step" = true) (kXs1 : PySem.W.keepIn K (.ref fXs) = true)
    (aXd : PySem.W.nsIn K mainGlobals "_law_do" = some (some (.ref fXd)))
    (lXd : K.lookup fXd = some ⟨ocXd, odXd, .func (PySem.W.fnOf "_law_do" "_law_do" (defArgs sLDo) (defBody sLDo) (defScope sLDo) .none kVXd dcXd pmXd anXd (cdXd) ctXd), slXd⟩)
    (cXd1 : PySem.W.codeIn K (cdXd) "_law_do" = true) (kXd1 : PySem.W.keepIn K (.ref fXd) = true)
    (aXc : PySem.W.nsIn K mainGlobals "_law_crash" = some (some (.ref fXc)))
    (lXc : K.lookup fXc = some ⟨ocXc, odXc, .func (PySem.W.fnOf "_law_crash" "_law_crash" (defArgs sLCr) (defBody sLCr) (defScope sLCr) .none kVXc dcXc pmXc anXc (cdXc) ctXc), slXc⟩)
    (cXc1 : PySem.W.codeIn K (cdXc) "_law_crash" = true) (kXc1 : PySem.W.keepIn K (.ref fXc) = true)
    (aXm : PySem.W.nsIn K mainGlobals "_law_same" = some (some (.ref fXm)))
    (lXm : K.lookup fXm = some ⟨ocXm, odXm, .func (PySem.W.fnOf "_law_same" "_law_same" (defArgs sLSame) (defBody sLSame) (defScope sLSame) .none kVXm dcXm pmXm anXm (cdXm) ctXm), slXm⟩)
    (cXm1 : PySem.W.codeIn K (cdXm) "_law_same" = true) (kXm1 : PySem.W.keepIn K (.ref fXm) = true)
    (aXq : PySem.W.nsIn K mainGlobals "_law_compacted" = some (some (.ref fXq)))
    (lXq : K.lookup fXq = some ⟨ocXq, odXq, .func (PySem.W.fnOf "_law_compacted" "_law_compacted" (defArgs sLComp) (defBody sLComp) (defScope sLComp) .none kVXq dcXq pmXq anXq (cdXq) ctXq), slXq⟩)
    (cXq1 : PySem.W.codeIn K (cdXq) "_law_compacted" = true) (kXq1 : PySem.W.keepIn K (.ref fXq) = true)
    (aZ : PySem.W.nsIn K mainGlobals "law" = some (some (.ref fZ)))
    (lZ : K.lookup fZ = some ⟨ocZ, odZ, .func (PySem.W.fnOf "law" "law" (defArgs sLaw) (defBody sLaw) (defScope sLaw) .none kVZ dcZ pmZ anZ (cdZ) ctZ), slZ⟩)
    (cZ1 : PySem.W.codeIn K (cdZ) "law" = true) (kZ1 : PySem.W.keepIn K (.ref fZ) = true)
    (nCA : PySem.W.nsIn K mainGlobals "Area" = some (some (.ref CA))) (pgCA : PySem.W.plainGet K CA Str.empty = true) (hdCA : PySem.W.hasDictIn K CA = true) (poCA : PySem.W.plainOver K CA = true) (saCA : PySem.W.findIn K (.ref CA) "__setattr__" = some (some (.builtin "object.__setattr__"))) (mkCA : PySem.W.makesIn K CA = true) (kpCA : PySem.W.keepIn K (.ref CA) = true)
    (nCT : PySem.W.nsIn K mainGlobals "Tape" = some (some (.ref CT))) (pgCT : PySem.W.plainGet K CT Str.empty = true) (hdCT : PySem.W.hasDictIn K CT = true) (poCT : PySem.W.plainOver K CT = true) (saCT : PySem.W.findIn K (.ref CT) "__setattr__" = some (some (.builtin "object.__setattr__"))) (mkCT : PySem.W.makesIn K CT = true) (kpCT : PySem.W.keepIn K (.ref CT) = true)
    (no_data : PySem.W.findIn K (.ref CA) "data" = some none)
    (no_safe : PySem.W.findIn K (.ref CA) "safe" = some none)
    (no_areas : PySem.W.findIn K (.ref CT) "areas" = some none)
    (no_used : PySem.W.findIn K (.ref CT) "used" = some none)
    (no_done : PySem.W.findIn K (.ref CT) "done" = some none)
    (aA0 : PySem.W.findIn K (.ref CA) "__init__" = some (some (.ref fA0))) (iA0 : PySem.W.isFn K (.ref fA0) = true)
    (lA0 : K.lookup fA0 = some ⟨ocA0, odA0, .func (PySem.W.fnOf "__init__" "Area.__init__" (defArgs (sArea 0)) (defBody (sArea 0)) (defScope (sArea 0)) .none kVA0 dcA0 pmA0 anA0 cdA0 ctA0), slA0⟩)
    (cA01 : PySem.W.codeIn K cdA0 "Area.__init__" = true) (kA01 : PySem.W.keepIn K (.ref fA0) = true)
    (aA1 : PySem.W.findIn K (.ref CA) "write" = some (some (.ref fA1))) (iA1 : PySem.W.isFn K (.ref fA1) = true)
    (lA1 : K.lookup fA1 = some ⟨ocA1, odA1, .func (PySem.W.fnOf "write" "Area.write" (defArgs (sArea 1)) (defBody (sArea 1)) (defScope (sArea 1)) .none kVA1 dcA1 pmA1 anA1 cdA1 ctA1), slA1⟩)
    (cA11 : PySem.W.codeIn K cdA1 "Area.write" = true) (kA11 : PySem.W.keepIn K (.ref fA1) = true)
    (aA2 : PySem.W.findIn K (.ref CA) "secure" = some (some (.ref fA2))) (iA2 : PySem.W.isFn K (.ref fA2) = true)
    (lA2 : K.lookup fA2 = some ⟨ocA2, odA2, .func (PySem.W.fnOf "secure" "Area.secure" (defArgs (sArea 2)) (defBody (sArea 2)) (defScope (sArea 2)) .none kVA2 dcA2 pmA2 anA2 cdA2 ctA2), slA2⟩)
    (cA21 : PySem.W.codeIn K cdA2 "Area.secure" = true) (kA21 : PySem.W.keepIn K (.ref fA2) = true)
    (aA3 : PySem.W.findIn K (.ref CA) "cut_to" = some (some (.ref fA3))) (iA3 : PySem.W.isFn K (.ref fA3) = true)
    (lA3 : K.lookup fA3 = some ⟨ocA3, odA3, .func (PySem.W.fnOf "cut_to" "Area.cut_to" (defArgs (sArea 3)) (defBody (sArea 3)) (defScope (sArea 3)) .none kVA3 dcA3 pmA3 anA3 cdA3 ctA3), slA3⟩)
    (cA31 : PySem.W.codeIn K cdA3 "Area.cut_to" = true) (kA31 : PySem.W.keepIn K (.ref fA3) = true)
    (aT0 : PySem.W.findIn K (.ref CT) "__init__" = some (some (.ref fT0))) (iT0 : PySem.W.isFn K (.ref fT0) = true)
    (lT0 : K.lookup fT0 = some ⟨ocT0, odT0, .func (PySem.W.fnOf "__init__" "Tape.__init__" (defArgs (sTape 0)) (defBody (sTape 0)) (defScope (sTape 0)) .none kVT0 dcT0 pmT0 anT0 cdT0 ctT0), slT0⟩)
    (cT01 : PySem.W.codeIn K cdT0 "Tape.__init__" = true) (kT01 : PySem.W.keepIn K (.ref fT0) = true)
    (aT1 : PySem.W.findIn K (.ref CT) "in_use" = some (some (.ref fT1))) (iT1 : PySem.W.isFn K (.ref fT1) = true)
    (lT1 : K.lookup fT1 = some ⟨ocT1, odT1, .func (PySem.W.fnOf "in_use" "Tape.in_use" (defArgs (sTape 1)) (defBody (sTape 1)) (defScope (sTape 1)) .none kVT1 dcT1 pmT1 anT1 cdT1 ctT1), slT1⟩)
    (cT11 : PySem.W.codeIn K cdT1 "Tape.in_use" = true) (kT11 : PySem.W.keepIn K (.ref fT1) = true)
    (aT2 : PySem.W.findIn K (.ref CT) "other" = some (some (.ref fT2))) (iT2 : PySem.W.isFn K (.ref fT2) = true)
    (lT2 : K.lookup fT2 = some ⟨ocT2, odT2, .func (PySem.W.fnOf "other" "Tape.other" (defArgs (sTape 2)) (defBody (sTape 2)) (defScope (sTape 2)) .none kVT2 dcT2 pmT2 anT2 cdT2 ctT2), slT2⟩)
    (cT21 : PySem.W.codeIn K cdT2 "Tape.other" = true) (kT21 : PySem.W.keepIn K (.ref fT2) = true)
    (aT3 : PySem.W.findIn K (.ref CT) "append" = some (some (.ref fT3))) (iT3 : PySem.W.isFn K (.ref fT3) = true)
    (lT3 : K.lookup fT3 = some ⟨ocT3, odT3, .func (PySem.W.fnOf "append" "Tape.append" (defArgs (sTape 3)) (defBody (sTape 3)) (defScope (sTape 3)) .none kVT3 dcT3 pmT3 anT3 cdT3 ctT3), slT3⟩)
    (cT31 : PySem.W.codeIn K cdT3 "Tape.append" = true) (kT31 : PySem.W.keepIn K (.ref fT3) = true)
    (aT4 : PySem.W.findIn K (.ref CT) "sync" = some (some (.ref fT4))) (iT4 : PySem.W.isFn K (.ref fT4) = true)
    (lT4 : K.lookup fT4 = some ⟨ocT4, odT4, .func (PySem.W.fnOf "sync" "Tape.sync" (defArgs (sTape 4)) (defBody (sTape 4)) (defScope (sTape 4)) .none kVT4 dcT4 pmT4 anT4 cdT4 ctT4), slT4⟩)
    (cT41 : PySem.W.codeIn K cdT4 "Tape.sync" = true) (kT41 : PySem.W.keepIn K (.ref fT4) = true)
    (aT5 : PySem.W.findIn K (.ref CT) "check_step" = some (some (.ref fT5))) (iT5 : PySem.W.isFn K (.ref fT5) = true)
    (lT5 : K.lookup fT5 = some ⟨ocT5, odT5, .func (PySem.W.fnOf "check_step" "Tape.check_step" (defArgs (sTape 5)) (defBody (sTape 5)) (defScope (sTape 5)) .none kVT5 dcT5 pmT5 anT5 cdT5 ctT5), slT5⟩)
    (cT51 : PySem.W.codeIn K cdT5 "Tape.check_step" = true) (kT51 : PySem.W.keepIn K (.ref fT5) = true)
    (aT6 : PySem.W.findIn K (.ref CT) "begin" = some (some (.ref fT6))) (iT6 : PySem.W.isFn K (.ref fT6) = true)
    (lT6 : K.lookup fT6 = some ⟨ocT6, odT6, .func (PySem.W.fnOf "begin" "Tape.begin" (defArgs (sTape 6)) (defBody (sTape 6)) (defScope (sTape 6)) .none kVT6 dcT6 pmT6 anT6 cdT6 ctT6), slT6⟩)
    (cT61 : PySem.W.codeIn K cdT6 "Tape.begin" = true) (kT61 : PySem.W.keepIn K (.ref fT6) = true)
    (aT7 : PySem.W.findIn K (.ref CT) "mark" = some (some (.ref fT7))) (iT7 : PySem.W.isFn K (.ref fT7) = true)
    (lT7 : K.lookup fT7 = some ⟨ocT7, odT7, .func (PySem.W.fnOf "mark" "Tape.mark" (defArgs (sTape 7)) (defBody (sTape 7)) (defScope (sTape 7)) .none kVT7 dcT7 pmT7 anT7 cdT7 ctT7), slT7⟩)
    (cT71 : PySem.W.codeIn K cdT7 "Tape.mark" = true) (kT71 : PySem.W.keepIn K (.ref fT7) = true)
    (aT8 : PySem.W.findIn K (.ref CT) "switch" = some (some (.ref fT8))) (iT8 : PySem.W.isFn K (.ref fT8) = true)
    (lT8 : K.lookup fT8 = some ⟨ocT8, odT8, .func (PySem.W.fnOf "switch" "Tape.switch" (defArgs (sTape 8)) (defBody (sTape 8)) (defScope (sTape 8)) .none kVT8 dcT8 pmT8 anT8 cdT8 ctT8), slT8⟩)
    (cT81 : PySem.W.codeIn K cdT8 "Tape.switch" = true) (kT81 : PySem.W.keepIn K (.ref fT8) = true)
    (aT9 : PySem.W.findIn K (.ref CT) "crash" = some (some (.ref fT9))) (iT9 : PySem.W.isFn K (.ref fT9) = true)
    (lT9 : K.lookup fT9 = some ⟨ocT9, odT9, .func (PySem.W.fnOf "crash" "Tape.crash" (defArgs (sTape 9)) (defBody (sTape 9)) (defScope (sTape 9)) .none kVT9 dcT9 pmT9 anT9 cdT9 ctT9), slT9⟩)
    (cT91 : PySem.W.codeIn K cdT9 "Tape.crash" = true) (kT91 : PySem.W.keepIn K (.ref fT9) = true)
    (aT10 : PySem.W.findIn K (.ref CT) "recover" = some (some (.ref fT10))) (iT10 : PySem.W.isFn K (.ref fT10) = true)
    (lT10 : K.lookup fT10 = some ⟨ocT10, odT10, .func (PySem.W.fnOf "recover" "Tape.recover" (defArgs (sTape 10)) (defBody (sTape 10)) (defScope (sTape 10)) .none kVT10 dcT10 pmT10 anT10 cdT10 ctT10), slT10⟩)
    (cT101 : PySem.W.codeIn K cdT10 "Tape.recover" = true) (kT101 : PySem.W.keepIn K (.ref fT10) = true)
    (nE : PySem.W.nsIn K mainGlobals "StepError" = some (some (.ref CE))) (nW : PySem.W.nsIn K mainGlobals "WardError" = some (some (.ref CW)))
    (xE : K.lookup CE = some (excClassObj nmE qE CE NE bsE [.ref CW, .type "ValueError", .type "Exception", .type "BaseException", .type "object"] true snE subE abE colE ddE m0E m1E m2E m3E m5E "ValueError.__new__"))
    (saE : PySem.W.findIn K (.ref CE) "__setattr__" = some (some (.builtin "object.__setattr__"))) (gaE : PySem.W.findIn K (.ref CE) "__getattribute__" = some (some (.builtin "BaseException.__getattribute__"))) (ggE : PySem.W.findIn K (.ref CE) "__getattr__" = some none) (nsE : PySem.W.findIn K (.ref CE) "step" = some none)
    (aE : PySem.W.findIn K (.ref CE) "__init__" = some (some (.ref fE))) (tE : PySem.W.typeIn K (.ref fE) = some (.type "function"))
    (lE : K.lookup fE = some ⟨ocE, odE, .func (PySem.W.fnOf "__init__" "StepError.__init__" (PySem.StepX.iA ⟨6, 17, 6, 21⟩ ⟨6, 23, 6, 27⟩) (PySem.StepX.iB ⟨7, 8, 7, 12⟩ ⟨7, 8, 7, 17⟩ ⟨7, 20, 7, 24⟩ ⟨7, 8, 7, 24⟩) PySem.StepX.iS .none .none dcE pmE anE cdE ctE), slE⟩) (cE : PySem.W.codeIn K cdE "StepError.__init__" = true)
    (kpE : PySem.W.keepIn K (.ref CE) = true) (eE : PySem.W.subIn K (.ref CE) (.type "BaseException") = some true) (tyE : PySem.W.typeIn K (.ref CE) = some (.type "type")) (hdE : PySem.W.hasDictIn K CE = true) (sbE : PySem.W.subIn K (.ref CE) (.ref CE) = some true)
    (clE : PySem.W.findIn K (.ref CE) "__class__" = some (some (.builtin "object.__class__"))) (snC : PySem.W.specialIn K (.builtin "object.__class__") "__get__" = some (some (.builtin "getset_descriptor.__get__"))) (tkC : PySem.W.takesIn K (.builtin "object.__class__") = some true) (mrE : PySem.W.mroIn K CE (.type "object") = some true)
    (ktE : PySem.W.kitOne K (.ref CE) (.ref CW) = some true)
    (tWc : K.lookup cW = some ⟨eW, ddW, .fields vsW, ssW⟩) (tWv : vsW[11]? = some (.ref tW)) (tWh : PySem.W.codeHdIn K cW tW = true) (tWn : K.lookup tW = none)
    (tHc : K.lookup cH = some ⟨eH, ddH, .fields vsH, ssH⟩) (tHv : vsH[11]? = some (.ref tH)) (tHh : PySem.W.codeHdIn K cH tH = true) (tHn : K.lookup tH = none)
    (neT : tW ≠ tH)
    (gDI0 : PySem.W.nsIn K mainGlobals "DIGITS" = some (some (.str "0123456789" kDI)))
    (gHE0 : PySem.W.nsIn K mainGlobals "HEAD" = some (some (.int 1 kHE)))
    (gEN0 : PySem.W.nsIn K mainGlobals "ENTRY" = some (some (.int 2 kEN)))
    (gRE0 : PySem.W.nsIn K mainGlobals "READY" = some (some (.int 3 kRE)))
    (gMH0 : PySem.W.nsIn K mainGlobals "MOST_HEAD" = some (some (.int 999999999999999999 kMH)))
    (gCS0 : PySem.W.nsIn K mainGlobals "CHECK_START" = some (some (.int 7 kCS)))
    (gCF0 : PySem.W.nsIn K mainGlobals "CHECK_FACTOR" = some (some (.int 257 kCF)))
    (gCM0 : PySem.W.nsIn K mainGlobals "CHECK_MODULUS" = some (some (.int 4294967291 kCM)))
    (z_len : PySem.W.nsIn K mainGlobals "len" = some none)
    (z_all : PySem.W.nsIn K mainGlobals "all" = some none)
    (z_any : PySem.W.nsIn K mainGlobals "any" = some none)
    (z_str : PySem.W.nsIn K mainGlobals "str" = some none)
    (z_int : PySem.W.nsIn K mainGlobals "int" = some none)
    (z_ord : PySem.W.nsIn K mainGlobals "ord" = some none)
    (z_abs : PySem.W.nsIn K mainGlobals "abs" = some none)
    (z_range : PySem.W.nsIn K mainGlobals "range" = some none)
    (z_list : PySem.W.nsIn K mainGlobals "list" = some none)
    (z_isinstance : PySem.W.nsIn K mainGlobals "isinstance" = some none)
    (z_zip : PySem.W.nsIn K mainGlobals "zip" = some none)
    (z_min : PySem.W.nsIn K mainGlobals "min" = some none)
    : LamX.LawAtS l w K CX0 7 63 "script" mg fa h := by
  have e := hfa.symm.trans (PySem.W.mg_of X G aZ)
  cases e
  have FN := fun_mk (st := sNum) lN cN1 kN1
  have FC := fun_mk (st := sChk) lC cC1 kC1
  have FT := fun_mk (st := sRec) lT cT1 kT1
  have FR := fun_mk (st := sRR) lR cR1 kR1
  have FA := fun_mk (st := sRs) lA cA1 kA1
  have FS := fun_mk (st := sState) lS cS1 kS1
  have FD := fun_mk (st := sDraw) lD cD1 kD1
  have FP := fun_mk (st := sPick) lP cP1 kP1
  have FL := fun_mk (st := sLRec) lL cL1 kL1
  have FXr := fun_mk (st := sLRows) lXr cXr1 kXr1
  have FXk := fun_mk (st := sLKept) lXk cXk1 kXk1
  have FXw := fun_mk (st := sLWhole) lXw cXw1 kXw1
  have FXs := fun_mk (st := sLStep) lXs cXs1 kXs1
  have FXd := fun_mk (st := sLDo) lXd cXd1 kXd1
  have FXc := fun_mk (st := sLCr) lXc cXc1 kXc1
  have FXm := fun_mk (st := sLSame) lXm cXm1 kXm1
  have FXq := fun_mk (st := sLComp) lXq cXq1 kXq1
  have FZ := fun_mk (st := sLaw) lZ cZ1 kZ1
  have FA0 := fun_mk (st := (sArea 0)) lA0 cA01 kA01
  have FA1 := fun_mk (st := (sArea 1)) lA1 cA11 kA11
  have FA2 := fun_mk (st := (sArea 2)) lA2 cA21 kA21
  have FA3 := fun_mk (st := (sArea 3)) lA3 cA31 kA31
  have FT0 := fun_mk (st := (sTape 0)) lT0 cT01 kT01
  have FT1 := fun_mk (st := (sTape 1)) lT1 cT11 kT11
  have FT2 := fun_mk (st := (sTape 2)) lT2 cT21 kT21
  have FT3 := fun_mk (st := (sTape 3)) lT3 cT31 kT31
  have FT4 := fun_mk (st := (sTape 4)) lT4 cT41 kT41
  have FT5 := fun_mk (st := (sTape 5)) lT5 cT51 kT51
  have FT6 := fun_mk (st := (sTape 6)) lT6 cT61 kT61
  have FT7 := fun_mk (st := (sTape 7)) lT7 cT71 kT71
  have FT8 := fun_mk (st := (sTape 8)) lT8 cT81 kT81
  have FT9 := fun_mk (st := (sTape 9)) lT9 cT91 kT91
  have FT10 := fun_mk (st := (sTape 10)) lT10 cT101 kT101
  have bN := FN.binds (ps := ["text", "most"]) fun _ _ _ _ _ _ us hl => match us, hl with | [_, _], _ => rfl
  have bC := FC.binds (ps := ["text"]) fun _ _ _ _ _ _ us hl => match us, hl with | [_], _ => rfl
  have bT := FT.binds (ps := ["kind", "text"]) fun _ _ _ _ _ _ us hl => match us, hl with | [_, _], _ => rfl
  have bR := FR.binds (ps := ["data", "at"]) fun _ _ _ _ _ _ us hl => match us, hl with | [_, _], _ => rfl
  have bA := FA.binds (ps := ["data"]) fun _ _ _ _ _ _ us hl => match us, hl with | [_], _ => rfl
  have bS := FS.binds (ps := ["script"]) fun _ _ _ _ _ _ us hl => match us, hl with | [_], _ => rfl
  have bD := FD.binds (ps := ["state", "many"]) fun _ _ _ _ _ _ us hl => match us, hl with | [_, _], _ => rfl
  have bP := FP.binds (ps := ["state", "row"]) fun _ _ _ _ _ _ us hl => match us, hl with | [_, _], _ => rfl
  have bL := FL.binds (ps := ["kind", "text"]) fun _ _ _ _ _ _ us hl => match us, hl with | [_, _], _ => rfl
  have bXr := FXr.binds (ps := ["area"]) fun _ _ _ _ _ _ us hl => match us, hl with | [_], _ => rfl
  have bXk := FXk.binds (ps := ["area", "count"]) fun _ _ _ _ _ _ us hl => match us, hl with | [_, _], _ => rfl
  have bXw := FXw.binds (ps := ["area"]) fun _ _ _ _ _ _ us hl => match us, hl with | [_], _ => rfl
  have bXs := FXs.binds (ps := ["tape", "word", "texts"]) fun _ _ _ _ _ _ us hl => match us, hl with | [_, _, _], _ => rfl
  have bXd := FXd.binds (ps := ["m", "word", "texts"]) fun _ _ _ _ _ _ us hl => match us, hl with | [_, _, _], _ => rfl
  have bXc := FXc.binds (ps := ["state", "m", "tape"]) fun _ _ _ _ _ _ us hl => match us, hl with | [_, _, _], _ => rfl
  have bXm := FXm.binds (ps := ["tape", "m"]) fun _ _ _ _ _ _ us hl => match us, hl with | [_, _], _ => rfl
  have bXq := FXq.binds (ps := ["state", "tape", "m", "appended"]) fun _ _ _ _ _ _ us hl => match us, hl with | [_, _, _, _], _ => rfl
  have bA0 := FA0.binds (ps := ["self", "data"]) fun _ _ _ _ _ _ us hl => match us, hl with | [_, _], _ => rfl
  have bA1 := FA1.binds (ps := ["self", "text"]) fun _ _ _ _ _ _ us hl => match us, hl with | [_, _], _ => rfl
  have bA2 := FA2.binds (ps := ["self"]) fun _ _ _ _ _ _ us hl => match us, hl with | [_], _ => rfl
  have bA3 := FA3.binds (ps := ["self", "size"]) fun _ _ _ _ _ _ us hl => match us, hl with | [_, _], _ => rfl
  have bT0 := FT0.binds (ps := ["self"]) fun _ _ _ _ _ _ us hl => match us, hl with | [_], _ => rfl
  have bT1 := FT1.binds (ps := ["self"]) fun _ _ _ _ _ _ us hl => match us, hl with | [_], _ => rfl
  have bT2 := FT2.binds (ps := ["self"]) fun _ _ _ _ _ _ us hl => match us, hl with | [_], _ => rfl
  have bT3 := FT3.binds (ps := ["self", "text"]) fun _ _ _ _ _ _ us hl => match us, hl with | [_, _], _ => rfl
  have bT4 := FT4.binds (ps := ["self"]) fun _ _ _ _ _ _ us hl => match us, hl with | [_], _ => rfl
  have bT5 := FT5.binds (ps := ["self", "step"]) fun _ _ _ _ _ _ us hl => match us, hl with | [_, _], _ => rfl
  have bT6 := FT6.binds (ps := ["self", "texts"]) fun _ _ _ _ _ _ us hl => match us, hl with | [_, _], _ => rfl
  have bT7 := FT7.binds (ps := ["self"]) fun _ _ _ _ _ _ us hl => match us, hl with | [_], _ => rfl
  have bT8 := FT8.binds (ps := ["self"]) fun _ _ _ _ _ _ us hl => match us, hl with | [_], _ => rfl
  have bT9 := FT9.binds (ps := ["self", "kept"]) fun _ _ _ _ _ _ us hl => match us, hl with | [_, _], _ => rfl
  have bT10 := FT10.binds (ps := ["self"]) fun _ _ _ _ _ _ us hl => match us, hl with | [_], _ => rfl
  have bW : Binds K (PySem.W.fnOf "is_word" "is_word" (defArgs sWord) (defBody sWord) (defScope sWord) .none kVW dcW pmW anW (.ref cW) ctW) ["text", "signs", "most"] [] := .all fun us hl => match us, hl with | [_, _, _], _ => rfl
  have bH : Binds K (PySem.W.fnOf "whole_number" "whole_number" (defArgs sWhole) (defBody sWhole) (defScope sWhole) .none kVH dcH pmH anH (.ref cH) ctH) ["rows"] [] := .all fun us hl => match us, hl with | [_], _ => rfl
  have gW := PySem.W.mg_of X G aW
  have gN := PySem.W.mg_of X G aN
  have gC := PySem.W.mg_of X G aC
  have gT := PySem.W.mg_of X G aT
  have gR := PySem.W.mg_of X G aR
  have gA := PySem.W.mg_of X G aA
  have gH := PySem.W.mg_of X G aH
  have gS := PySem.W.mg_of X G aS
  have gD := PySem.W.mg_of X G aD
  have gP := PySem.W.mg_of X G aP
  have gL := PySem.W.mg_of X G aL
  have gXr := PySem.W.mg_of X G aXr
  have gXk := PySem.W.mg_of X G aXk
  have gXw := PySem.W.mg_of X G aXw
  have gXs := PySem.W.mg_of X G aXs
  have gXd := PySem.W.mg_of X G aXd
  have gXc := PySem.W.mg_of X G aXc
  have gXm := PySem.W.mg_of X G aXm
  have gXq := PySem.W.mg_of X G aXq
  have gZ := PySem.W.mg_of X G aZ
  have gDI := PySem.W.mg_of X G gDI0
  have gHE := PySem.W.mg_of X G gHE0
  have gEN := PySem.W.mg_of X G gEN0
  have gRE := PySem.W.mg_of X G gRE0
  have gMH := PySem.W.mg_of X G gMH0
  have gCS := PySem.W.mg_of X G gCS0
  have gCF := PySem.W.mg_of X G gCF0
  have gCM := PySem.W.mg_of X G gCM0
  have m_len := PySem.W.mg_none_of X G z_len
  have m_all := PySem.W.mg_none_of X G z_all
  have m_any := PySem.W.mg_none_of X G z_any
  have m_str := PySem.W.mg_none_of X G z_str
  have m_int := PySem.W.mg_none_of X G z_int
  have m_ord := PySem.W.mg_none_of X G z_ord
  have m_abs := PySem.W.mg_none_of X G z_abs
  have m_range := PySem.W.mg_none_of X G z_range
  have m_list := PySem.W.mg_none_of X G z_list
  have m_isinstance := PySem.W.mg_none_of X G z_isinstance
  have m_zip := PySem.W.mg_none_of X G z_zip
  have m_min := PySem.W.mg_none_of X G z_min
  have MA0 : Meth K CA "__init__" fA0 := ⟨aA0, iA0, kA01⟩
  have MA1 : Meth K CA "write" fA1 := ⟨aA1, iA1, kA11⟩
  have MA2 : Meth K CA "secure" fA2 := ⟨aA2, iA2, kA21⟩
  have MA3 : Meth K CA "cut_to" fA3 := ⟨aA3, iA3, kA31⟩
  have MT0 : Meth K CT "__init__" fT0 := ⟨aT0, iT0, kT01⟩
  have MT1 : Meth K CT "in_use" fT1 := ⟨aT1, iT1, kT11⟩
  have MT2 : Meth K CT "other" fT2 := ⟨aT2, iT2, kT21⟩
  have MT3 : Meth K CT "append" fT3 := ⟨aT3, iT3, kT31⟩
  have MT4 : Meth K CT "sync" fT4 := ⟨aT4, iT4, kT41⟩
  have MT5 : Meth K CT "check_step" fT5 := ⟨aT5, iT5, kT51⟩
  have MT6 : Meth K CT "begin" fT6 := ⟨aT6, iT6, kT61⟩
  have MT7 : Meth K CT "mark" fT7 := ⟨aT7, iT7, kT71⟩
  have MT8 : Meth K CT "switch" fT8 := ⟨aT8, iT8, kT81⟩
  have MT9 : Meth K CT "crash" fT9 := ⟨aT9, iT9, kT91⟩
  have MT10 : Meth K CT "recover" fT10 := ⟨aT10, iT10, kT101⟩
  have TC : TxtC K mg CA CT := ⟨⟨pgCA, hdCA, poCA, saCA⟩, no_data, no_safe, ⟨pgCT, hdCT, poCT, saCT⟩, no_areas, no_used, no_done, PySem.W.mg_of X G nCA, PySem.W.mg_of X G nCT, m_len, m_min⟩
  have MkA : Mk K CA fA0 := ⟨mkCA, aA0, iA0, kpCA⟩
  have MkT : Mk K CT fT0 := ⟨mkCT, aT0, iT0, kpCT⟩
  have low : PySem.StepX.StepTxt K mg CE fE :=
    { gC := PySem.W.mg_of X G nE, cls := ⟨nmE, qE, NE, bsE, _, snE, subE, abE, colE, ddE, m0E, m1E, m2E, m3E, m5E, xE, rfl⟩, sa := saE, ga := gaE, gg := ggE, noN := nsE, iC := aE, tC := tE, kC := kpE, exC := eE, tyC := tyE, hdC := hdE, te := exm_self eE hdE tyE sbE,
      fn := ⟨_, _, _, _, _, _, _, _, _, _, _, _, _, _, lE, cE⟩ }
  have SF : StepF K mg CE fE CW := ⟨low, ⟨gaE, ggE, eE, hdE, clE, snC, tkC, mrE⟩, PySem.W.mg_of X G nW, ktE, m_isinstance⟩
  have emptyW : h.get? tW = some { cls := .none, data := .fields #[] } := tabs "is_word" fW hrec gW cW tW _ _ _ _ _ _ lW rfl rfl tWc tWv
  have emptyH : h.get? tH = some { cls := .none, data := .fields #[] } := tabs "whole_number" fH hrec2 gH cH tH _ _ _ _ _ _ lH rfl rfl tHc tHv
  refine ⟨PySem.W.fnOf "law" "law" (defArgs sLaw) (defBody sLaw) (defScope sLaw) .none kVZ dcZ pmZ anZ cdZ ctZ, [(cW, tW), (cH, tH)], spLaw K tW tH, ?_, ?_, ?_, fun s v => .of_eq rfl, ?_, ?_⟩
  · intro p hp
    rcases List.mem_cons.mp hp with e | hp
    · rw [e]
      exact emptyW
    · rw [List.mem_singleton.mp hp]
      exact emptyH
  · intro p hp
    rcases List.mem_cons.mp hp with e | hp
    · rw [e]
      exact tWn
    · rw [List.mem_singleton.mp hp]
      exact tHn
  · intro p hp
    rcases List.mem_cons.mp hp with e | hp
    · rw [e]
      exact PySem.W.codeHd_of_K X tWh
    · rw [List.mem_singleton.mp hp]
      exact PySem.W.codeHd_of_K X tHh
  · intro H a ns hl _ hH hS
    exact ⟨a, ns, rfl, hS, hl, ⟨#[], hH (cW, tW) List.mem_cons_self, trivial⟩, ⟨#[], hH (cH, tH) (List.mem_cons_of_mem _ (List.mem_singleton.mpr rfl)), trivial⟩, neT, fun _ => rfl⟩
  · intro base _ _ hT
    have tb := hT (cW, tW) List.mem_cons_self
    have tb2 := hT (cH, tH) (List.mem_cons_of_mem _ (List.mem_singleton.mpr rfl))
    have TB : GxR.TabB base mg cW tW := ⟨tb.code, tb.bm, tb.gP⟩
    have TB2 : GxR.TabB base mg cH tH := ⟨tb2.code, tb2.bm, tb2.gP⟩
    have GW := ok_word (P := l.prog) (w := w) lW cW1 TB m_len m_all
    have GN := ok_num (P := l.prog) (w := w) (base := base) FN GW bW gW kW1 gDI m_len m_str m_int
    have GC := ok_chk (P := l.prog) (w := w) (base := base) FC gCS gCF gCM m_ord
    have GT := ok_rec (P := l.prog) (w := w) (base := base) FT GC bC gC kC1 m_len
    have GR := ok_rr (P := l.prog) (w := w) (base := base) FR GN bN gN kN1 GC bC gC kC1 gHE gRE gCM m_len
    have GA := ok_rs (P := l.prog) (w := w) (base := base) FA GR bR gR kR1
    have GH := ok_whole (P := l.prog) (w := w) lH cH1 TB2 m_any GN bN gN kN1 gHE gRE gMH
    have GA0 := ok_A0 (P := l.prog) (w := w) (base := base) FA0 TC
    have GA1 := ok_A1 (P := l.prog) (w := w) (base := base) FA1 TC
    have GA2 := ok_A2 (P := l.prog) (w := w) (base := base) FA2 TC
    have GA3 := ok_A3 (P := l.prog) (w := w) (base := base) FA3 TC
    have GT0 := ok_T0 (P := l.prog) (w := w) (base := base) FT0 TC GT bT gT kT1 MkA GA0 bA0 gHE gRE
    have GT1 := ok_T1 (P := l.prog) (w := w) (base := base) FT1 TC
    have GT2 := ok_T2 (P := l.prog) (w := w) (base := base) FT2 TC
    have GT3 := ok_T3 (P := l.prog) (w := w) (base := base) FT3 TC GT bT gT kT1 GT1 bT1 MT1 GT2 bT2 MT2 GA1 bA1 MA1 gEN
    have GT4 := ok_T4 (P := l.prog) (w := w) (base := base) FT4 TC GA2 bA2 MA2
    have GT5 := ok_T5 (P := l.prog) (w := w) (base := base) FT5 TC low
    have GT6 := ok_T6 (P := l.prog) (w := w) (base := base) (T1 := tW) (T2 := tH) FT6 TC GT5 bT5 MT5 GR bR gR kR1 GT bT gT kT1 GT1 bT1 MT1 GT2 bT2 MT2 GA1 bA1 MA1 GA3 bA3 MA3 gHE gEN m_str m_int
    have GT7 := ok_T7 (P := l.prog) (w := w) (base := base) FT7 TC GT5 bT5 MT5 GT bT gT kT1 GT2 bT2 MT2 GA1 bA1 MA1 gRE
    have GT8 := ok_T8 (P := l.prog) (w := w) (base := base) FT8 TC GT5 bT5 MT5 GT4 bT4 MT4 GT1 bT1 MT1 GA3 bA3 MA3
    have GT9 := ok_T9 (P := l.prog) (w := w) (base := base) (T1 := tW) (T2 := tH) FT9 TC GA3 bA3 MA3 m_zip
    have GT10 := ok_T10 (P := l.prog) (w := w) (base := base) (T1 := tW) (T2 := tH) FT10 TC GA bA gA kA1 GH bH gH kH1 GT1 bT1 MT1 GT2 bT2 MT2 GA3 bA3 MA3 GA2 bA2 MA2 gEN
    have GS := ok_state (P := l.prog) (w := w) (base := base) FS m_abs m_int
    have GD := ok_draw (P := l.prog) (w := w) (base := base) FD m_len m_int
    have GP := ok_pick (P := l.prog) (w := w) (base := base) FP GD bD gD kD1 m_len
    have GL := ok_lrec (P := l.prog) (w := w) (base := base) FL m_len m_str m_int m_ord
    have GXr := ok_lrows (P := l.prog) (w := w) (base := base) FXr GL bL gL kL1
    have GXk := ok_lkept (P := l.prog) (w := w) (base := base) FXk GL bL gL kL1 m_len
    have GXw := ok_lwhole (P := l.prog) (w := w) (base := base) FXw m_len
    have GXs := ok_lstep (P := l.prog) (w := w) (base := base) (T1 := tW) (T2 := tH) FXs TC SF GT6 bT6 MT6 GT7 bT7 MT7 GT8 bT8 MT8
    have GXd := ok_ldo (P := l.prog) (w := w) (base := base) FXd GXr bXr gXr kXr1 m_len m_str m_int
    have GXc := ok_lcr (P := l.prog) (w := w) (base := base) (T1 := tW) (T2 := tH) FXc TC GD bD gD kD1 GT9 bT9 MT9 GXk bXk gXk kXk1 GXw bXw gXw kXw1 GXr bXr gXr kXr1 m_len m_int m_range
    have GXm := ok_lsame (P := l.prog) (w := w) (base := base) FXm TC GXr bXr gXr kXr1 m_range
    have GXq := ok_lcomp (P := l.prog) (w := w) (base := base) (T1 := tW) (T2 := tH) FXq TC GD bD gD kD1 GT3 bT3 MT3 GXd bXd gXd kXd1 GXs bXs gXs kXs1 m_range m_str m_list
    exact ok_law FZ TC GS bS gS kS1 GD bD gD kD1 GP bP gP kP1 MkT GT0 bT0 GXr bXr gXr kXr1 GT3 bT3 MT3 GT4 bT4 MT4 GXd bXd gXd kXd1 GXs bXs gXs kXs1 GXc bXc gXc kXc1 GT10 bT10 MT10 GXm bXm gXm kXm1 GXq bXq gXq kXq1 m_len m_range m_str m_list m_isinstance
end K85
open PySem PySem.W PyProof.Rows
set_option maxRecDepth 100000 in
set_option maxHeartbeats 0 in
theorem PySem.Challenge.cw_quiltward_k85_tapes_behind_many_compacti_holds : PySem.Challenge.rw_quiltward_k85_tapes_behind_many_compacti.Holds := by
  w_on; o_law; k_head; (case hw => w_witness2)
  k_fill
  refine QR.walk_tabs (l := PySem.Challenge.rw_quiltward_k85_tapes_behind_many_compacti) (n := 63) (k := 7) (x := "script") (CX := fun _ => L2.CX0) rfl (by decide) rfl ⟨rfl, by decide, by decide⟩ (fun w h Y => PySem.W.kIn_of Y) ?F (fun _ _ _ _ _ h => h)
  case F =>
    intro w mg fa h Y KX G hmg tabs
    refine' K85.all_mk KX G hmg tabs ?hrec ?hrec2 ?aW ?lW ?cW1 ?kW1 ?aN ?lN ?cN1 ?kN1 ?aC ?lC ?cC1 ?kC1 ?aT ?lT ?cT1 ?kT1 ?aR ?lR ?cR1 ?kR1 ?aA ?lA ?cA1 ?kA1 ?aH ?lH ?cH1 ?kH1 ?aS ?lS ?cS1 ?kS1 ?aD ?lD ?cD1 ?kD1 ?aP ?lP ?cP1 ?kP1 ?aL ?lL ?cL1 ?kL1 ?aXr ?lXr ?cXr1 ?kXr1 ?aXk ?lXk ?cXk1 ?kXk1 ?aXw ?lXw ?cXw1 ?kXw1 ?aXs ?lXs ?cXs1 ?kXs1 ?aXd ?lXd ?cXd1 ?kXd1 ?aXc ?lXc ?cXc1 ?kXc1 ?aXm ?lXm ?cXm1 ?kXm1 ?aXq ?lXq ?cXq1 ?kXq1 ?aZ ?lZ ?cZ1 ?kZ1 ?nCA ?pgCA ?hdCA ?poCA ?saCA ?mkCA ?kpCA ?nCT ?pgCT ?hdCT ?poCT ?saCT ?mkCT ?kpCT ?no_data ?no_safe ?no_areas ?no_used ?no_done ?aA0 ?iA0 ?lA0 ?cA01 ?kA01 ?aA1 ?iA1 ?lA1 ?cA11 ?kA11 ?aA2 ?iA2 ?lA2 ?cA21 ?kA21 ?aA3 ?iA3 ?lA3 ?cA31 ?kA31 ?aT0 ?iT0 ?lT0 ?cT01 ?kT01 ?aT1 ?iT1 ?lT1 ?cT11 ?kT11 ?aT2 ?iT2 ?lT2 ?cT21 ?kT21 ?aT3 ?iT3 ?lT3 ?cT31 ?kT31 ?aT4 ?iT4 ?lT4 ?cT41 ?kT41 ?aT5 ?iT5 ?lT5 ?cT51 ?kT51 ?aT6 ?iT6 ?lT6 ?cT61 ?kT61 ?aT7 ?iT7 ?lT7 ?cT71 ?kT71 ?aT8 ?iT8 ?lT8 ?cT81 ?kT81 ?aT9 ?iT9 ?lT9 ?cT91 ?kT91 ?aT10 ?iT10 ?lT10 ?cT101 ?kT101 ?nE ?nW ?xE ?saE ?gaE ?ggE ?nsE ?aE ?tE ?lE ?cE ?kpE ?eE ?tyE ?hdE ?sbE ?clE ?snC ?tkC ?mrE ?ktE ?tWc ?tWv ?tWh ?tWn ?tHc ?tHv ?tHh ?tHn ?neT ?gDI0 ?gHE0 ?gEN0 ?gRE0 ?gMH0 ?gCS0 ?gCF0 ?gCM0 ?z_len ?z_all ?z_any ?z_str ?z_int ?z_ord ?z_abs ?z_range ?z_list ?z_isinstance ?z_zip ?z_min
    (case hrec => decide +kernel)
    (case hrec2 => decide +kernel)
    (case aW => k_is)
    (case lW => k_is)
    (case cW1 => k_is)
    (case kW1 => k_is)
    (case aN => k_is)
    (case lN => k_is)
    (case cN1 => k_is)
    (case kN1 => k_is)
    (case aC => k_is)
    (case lC => k_is)
    (case cC1 => k_is)
    (case kC1 => k_is)
    (case aT => k_is)
    (case lT => k_is)
    (case cT1 => k_is)
    (case kT1 => k_is)
    (case aR => k_is)
    (case lR => k_is)
    (case cR1 => k_is)
    (case kR1 => k_is)
    (case aA => k_is)
    (case lA => k_is)
    (case cA1 => k_is)
    (case kA1 => k_is)
    (case aH => k_is)
    (case lH => k_is)
    (case cH1 => k_is)
    (case kH1 => k_is)
    (case aS => k_is)
    (case lS => k_is)
    (case cS1 => k_is)
    (case kS1 => k_is)
    (case aD => k_is)
    (case lD => k_is)
    (case cD1 => k_is)
    (case kD1 => k_is)
    (case aP => k_is)
    (case lP => k_is)
    (case cP1 => k_is)
    (case kP1 => k_is)
    (case aL => k_is)
    (case lL => k_is)
    (case cL1 => k_is)
    (case kL1 => k_is)
    (case aXr => k_is)
    (case lXr => k_is)
    (case cXr1 => k_is)
    (case kXr1 => k_is)
    (case aXk => k_is)
    (case lXk => k_is)
    (case cXk1 => k_is)
    (case kXk1 => k_is)
    (case aXw => k_is)
    (case lXw => k_is)
    (case cXw1 => k_is)
    (case kXw1 => k_is)
    (case aXs => k_is)
    (case lXs => k_is)
    (case cXs1 => k_is)
    (case kXs1 => k_is)
    (case aXd => k_is)
    (case lXd => k_is)
    (case cXd1 => k_is)
    (case kXd1 => k_is)
    (case aXc => k_is)
    (case lXc => k_is)
    (case cXc1 => k_is)
    (case kXc1 => k_is)
    (case aXm => k_is)
    (case lXm => k_is)
    (case cXm1 => k_is)
    (case kXm1 => k_is)
    (case aXq => k_is)
    (case lXq => k_is)
    (case cXq1 => k_is)
    (case kXq1 => k_is)
    (case aZ => k_is)
    (case lZ => k_is)
    (case cZ1 => k_is)
    (case kZ1 => k_is)
    (case nCA => k_is)
    (case pgCA => k_is)
    (case hdCA => k_is)
    (case poCA => k_is)
    (case saCA => k_is)
    (case mkCA => k_is)
    (case kpCA => k_is)
    (case nCT => k_is)
    (case pgCT => k_is)
    (case hdCT => k_is)
    (case poCT => k_is)
    (case saCT => k_is)
    (case mkCT => k_is)
    (case kpCT => k_is)
    (case no_data => k_is)
    (case no_safe => k_is)
    (case no_areas => k_is)
    (case no_used => k_is)
    (case no_done => k_is)
    (case aA0 => k_is)
    (case iA0 => k_is)
    (case lA0 => k_is)
    (case cA01 => k_is)
    (case kA01 => k_is)
    (case aA1 => k_is)
    (case iA1 => k_is)
    (case lA1 => k_is)
    (case cA11 => k_is)
    (case kA11 => k_is)
    (case aA2 => k_is)
    (case iA2 => k_is)
    (case lA2 => k_is)
    (case cA21 => k_is)
    (case kA21 => k_is)
    (case aA3 => k_is)
    (case iA3 => k_is)
    (case lA3 => k_is)
    (case cA31 => k_is)
    (case kA31 => k_is)
    (case aT0 => k_is)
    (case iT0 => k_is)
    (case lT0 => k_is)
    (case cT01 => k_is)
    (case kT01 => k_is)
    (case aT1 => k_is)
    (case iT1 => k_is)
    (case lT1 => k_is)
    (case cT11 => k_is)
    (case kT11 => k_is)
    (case aT2 => k_is)
    (case iT2 => k_is)
    (case lT2 => k_is)
    (case cT21 => k_is)
    (case kT21 => k_is)
    (case aT3 => k_is)
    (case iT3 => k_is)
    (case lT3 => k_is)
    (case cT31 => k_is)
    (case kT31 => k_is)
    (case aT4 => k_is)
    (case iT4 => k_is)
    (case lT4 => k_is)
    (case cT41 => k_is)
    (case kT41 => k_is)
    (case aT5 => k_is)
    (case iT5 => k_is)
    (case lT5 => k_is)
    (case cT51 => k_is)
    (case kT51 => k_is)
    (case aT6 => k_is)
    (case iT6 => k_is)
    (case lT6 => k_is)
    (case cT61 => k_is)
    (case kT61 => k_is)
    (case aT7 => k_is)
    (case iT7 => k_is)
    (case lT7 => k_is)
    (case cT71 => k_is)
    (case kT71 => k_is)
    (case aT8 => k_is)
    (case iT8 => k_is)
    (case lT8 => k_is)
    (case cT81 => k_is)
    (case kT81 => k_is)
    (case aT9 => k_is)
    (case iT9 => k_is)
    (case lT9 => k_is)
    (case cT91 => k_is)
    (case kT91 => k_is)
    (case aT10 => k_is)
    (case iT10 => k_is)
    (case lT10 => k_is)
    (case cT101 => k_is)
    (case kT101 => k_is)
    (case nE => k_is)
    (case nW => k_is)
    (case xE => k_is)
    (case saE => k_is)
    (case gaE => k_is)
    (case ggE => k_is)
    (case nsE => k_is)
    (case aE => k_is)
    (case tE => k_is)
    (case lE => k_is)
    (case cE => k_is)
    (case kpE => k_is)
    (case eE => k_is)
    (case tyE => k_is)
    (case hdE => k_is)
    (case sbE => first | rfl | k_is)
    (case clE => k_is)
    (case snC => k_is)
    (case tkC => k_is)
    (case mrE => k_is)
    (case ktE => first | rfl | k_is)
    (case tWc => k_is)
    (case tWv => rfl)
    (case tWh => first | rfl | kernel_rfl)
    (case tWn => first | rfl | kernel_rfl)
    (case tHc => k_is)
    (case tHv => rfl)
    (case tHh => first | rfl | kernel_rfl)
    (case tHn => first | rfl | kernel_rfl)
    (case neT => first | decide | (intro z; cases z))
    (case gDI0 => k_is)
    (case gHE0 => k_is)
    (case gEN0 => k_is)
    (case gRE0 => k_is)
    (case gMH0 => k_is)
    (case gCS0 => k_is)
    (case gCF0 => k_is)
    (case gCM0 => k_is)
    (case z_len => k_is)
    (case z_all => k_is)
    (case z_any => k_is)
    (case z_str => k_is)
    (case z_int => k_is)
    (case z_ord => k_is)
    (case z_abs => k_is)
    (case z_range => k_is)
    (case z_list => k_is)
    (case z_isinstance => k_is)
    (case z_zip => k_is)
    (case z_min => k_is)
