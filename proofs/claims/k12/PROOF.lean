import PyProof.Rows.All
import Wide.All
import OpenK.AllK
import Wide.FinOn
import PySem.Challenge.RW_quiltward_k12_ways_in_graphs
import HandS.ForSpec
import HandS.Comp
import HandS.AnyAll
import PyProof.GenQ
import PyProof.ToksMono
import HandS.Dict
import HandS.DictTup
import HandS.DictComp
import HandS.TupLen
import PyProof.DictMoreH
import PyProof.DictTruth
import HandS.EndTab
import HandS.Style
import PyProof.ReprRoads
import KE.KDictKeyed
import KE.KeyNested
import HandS.Iter
import HandS.Walk
import KE.KDictCopyH
import HandS.More
import KE.SortData
import PyProof.Transfer
import HandS.ForMost
import HandS.RevRange
import HandS.TupLe
import HandS.StrMore
import HandS.IsInst
import HandS.Wide
import HandS.TupMul
import KE.DataEq
import KE.Datum
import KE.GoesEnum
import PyProof.Draws
import PyProof.EnumMake
import PyProof.StrOps2
import PyProof.StrLawsChain
import PyProof.StrLawsTight
import KE.KDictPairs
import KE.KDictOf
import HandS.DictEq
import HandS.ListEq
import KE.DataCmp
import HandS.SortRule
import HandS.Text
import HandS.Words
set_option Elab.async false
set_option linter.all false
set_option maxRecDepth 100000
set_option maxHeartbeats 4000000
/-! the array of generators never shrinks -/
namespace GX
open PySem PySem.Spec PyProof.Rows L2 GxR

theorem runs_gens_le {M : Model} {Γ : PySem.Ctx} {p : Pos} {t : Sem Fin} {fs : List Frame} {s s' : Shared} {e : End} (h : Runs M Γ p t fs s e s') : s.gens.size ≤ s'.gens.size := by
  induction h <;> (try simp only [Shared.setGen, Array.size_push, Array.size_setIfInBounds] at *) <;> omega

theorem wakes_gens_le {M : Model} {Γ : PySem.Ctx} {p : Pos} {g : Nat} {r : Resume} {s s' : Shared} {res : GenResult} (h : Wakes M Γ p g r s res s') : s.gens.size ≤ s'.gens.size := by
  have sz : ∀ (z : Shared) x, (z.setGen g x).gens.size = z.gens.size := fun z x => by simp [Shared.setGen]
  unfold Wakes at h
  split at h
  · exact h.elim
  · split at h
    · obtain ⟨e₁, s₁, hr, _, _, rfl⟩ := h
      rw [sz]; exact (sz s .running) ▸ runs_gens_le hr
    · obtain ⟨_, rfl⟩ := h; first | exact Nat.le_refl _ | (rw [sz]; exact Nat.le_refl _)
    · obtain ⟨_, rfl⟩ := h; first | exact Nat.le_refl _ | (rw [sz]; exact Nat.le_refl _)
  · obtain ⟨e₁, s₁, hr, _, _, rfl⟩ := h
    rw [sz]; exact (sz s .running) ▸ runs_gens_le hr
  · obtain ⟨_, rfl⟩ := h; exact Nat.le_refl _
  · obtain ⟨_, rfl⟩ := h; exact Nat.le_refl _

theorem wp_gens {α : Type} (M : Model) (Γ : PySem.Ctx) (n : Nat) (t : Sem α) : ∀ (Q : α → Pos → Shared → Prop) (E : Value → Pos → Shared → Prop) (p : Pos) (s : Shared), n ≤ s.gens.size → Sem.wp M Γ t Q E p s →
    Sem.wp M Γ t (fun a p' s' => n ≤ s'.gens.size ∧ Q a p' s') (fun e p' s' => n ≤ s'.gens.size ∧ E e p' s') p s := by
  induction t with
  | pure a => intro Q E p s hn h; exact ⟨hn, h⟩
  | raise e => intro Q E p s hn h; exact ⟨hn, h⟩
  | unsupported _ => intro Q E p s _ h; exact h
  | finish _ => intro Q E p s _ h; exact h
  | rule _ k ih => intro Q E p s hn h; exact ih () Q E p s hn h
  | «at» p' k ih => intro Q E p s hn h; exact ih () Q E p' s hn h
  | load a _ k ih => intro Q E p s hn h; obtain ⟨o, ho, h⟩ := h; exact ⟨o, ho, ih o Q E p s hn h⟩
  | update a _ f k ih => intro Q E p s hn h; exact ⟨h.1, ih () Q E p _ hn h.2⟩
  | loadIfAlive a k ih => intro Q E p s hn h; exact ih _ Q E p s hn h
  | point _ k ih => intro Q E p s hn h; exact ih () Q E p s hn h
  | register _ _ => intro Q E p s _ h; exact h
  | alloc o k ih => intro Q E p s hn h; exact ih _ Q E p _ hn h
  | fresh k ih => intro Q E p s hn h; exact ih _ Q E p _ hn h
  | ask k ih => intro Q E p s hn h; exact ih _ Q E p s hn h
  | choose src m k ih => intro Q E p s hn h; exact ⟨h.1, ih _ Q E p _ hn h.2⟩
  | os q _ k ih => intro Q E p s hn h; exact ih _ Q E p _ hn h
  | call c hd _ _ k ih => intro Q E p s hn h; obtain ⟨r, s', hr, h⟩ := h; exact ⟨r, s', hr, ih r Q E p s' (Nat.le_trans hn (runs_gens_le hr)) h⟩
  | handled own k ih => intro Q E p s hn h; exact ih _ Q E p s hn h
  | genState g k ih => intro Q E p s hn h; obtain ⟨st, hs, h⟩ := h; exact ⟨st, hs, ih _ Q E p s hn h⟩
  | newGen c k ih => intro Q E p s hn h; exact ih _ Q E p _ (by show n ≤ (s.gens.push _).size; rw [Array.size_push]; exact Nat.le_succ_of_le hn) h
  | resume g r _ k ih => intro Q E p s hn h; obtain ⟨res, s', hw, h⟩ := h; exact ⟨res, s', hw, ih res Q E p s' (Nat.le_trans hn (wakes_gens_le hw)) h⟩
  | yield _ _ _ _ => intro Q E p s _ h; exact h
  | stack k ih => intro Q E p s hn h; exact ih _ Q E p s hn h
  | fork _ _ => intro Q E p s _ h; exact h
  | thread k ih => intro Q E p s hn h; exact ih _ Q E p s hn h
  | await _ _ _ _ _ => intro Q E p s _ h; exact h

theorem wpAny_with_gens {α : Type} {M : Model} {A : Around} {s : Shared} {t : Sem α} {Q : α → Shared → Prop} {E : Value → Shared → Prop} {n : Nat} (hn : n ≤ s.gens.size)
    (h : wpAny M A t (fun a s' => n ≤ s'.gens.size → Q a s') (fun e s' => n ≤ s'.gens.size → E e s') s) : wpAny M A t Q E s :=
  wpAny_mono (Q := fun a s' => n ≤ s'.gens.size ∧ (n ≤ s'.gens.size → Q a s')) (E := fun e s' => n ≤ s'.gens.size ∧ (n ≤ s'.gens.size → E e s')) (fun Γ p hΓ => wp_gens M Γ n t _ _ p s hn (h Γ p hΓ)) (fun _ _ x => x.2 x.1) (fun _ _ x => x.2 x.1)

/-- the invariant speaks of the heap; the generators' array is bare -/
theorem inv_heap {X : Cx} {pins : List (Addr × Obj)} {σ : L2.St} {H : Hp} {s s' : Shared} (I : Inv X pins σ H s) (h : s'.heap = s.heap) (ho : s'.os = s.os) (hb : AllBare s'.gens) : Inv X pins σ H s' := by
  obtain ⟨h1, g1, d1, t1, o1⟩ := s
  obtain ⟨h2, g2, d2, t2, o2⟩ := s'
  obtain rfl : h2 = h1 := h
  obtain rfl : o2 = o1 := ho
  exact ⟨I.ok, I.os, hb, I.base, I.loc, I.cell, I.free, I.freeC, I.pin, I.hok, I.len⟩
theorem bare_set {s : Shared} {g : Nat} {x : GenState} (h : AllBare s.gens) (hx : x.bare = true) : AllBare (s.setGen g x).gens := by
  intro y hy
  have hy : y ∈ s.gens.setIfInBounds g x := hy
  obtain ⟨i, hi, e⟩ := Array.mem_iff_getElem.mp hy
  have hi2 : i < s.gens.size := by simpa using hi
  rw [Array.getElem_setIfInBounds hi2] at e
  split at e
  · rw [← e]; exact hx
  · rw [← e]; exact h _ (Array.getElem_mem _)
end GX
namespace GX
open PySem PySem.Spec PyProof.Rows L2 GxR

/-- the context of a generator's body -/
abbrev gCx (X : Cx) (s : Shared) (H : Hp) (ce : Env) (fp : List Addr) (A' : Around) : Cx := { X with s_0 := s, H_0 := H, env := ce, outer := X.stack, stack := ce :: X.stack, ex := fp, fn := fun _ => false, pn := [], xe := fun _ _ => False, A := A' }

section
variable {X : Cx} {pins : List (Addr × Obj)} {σ : L2.St} {H : Hp} {s : Shared}
theorem gen_start {scope : Scope} {own : List (Str × Nat)} {fp : List Addr} {code : Value} {ce : Env} {a : Addr} {go : Obj} {A' : Around} {s' : Shared} {m : Str → Option Value} (I : Inv X pins σ H s) (ok : BlkOk X.N X.env.scope scope own) (nc : ∀ y ∈ scope.names, y.2 ≠ .cell)
    (hN : X.N.Nodup) (hfp : ∀ b ∈ fp, FpOk X pins H b ∧ b < s.heap.objs.size) (hd : X.calm = true → A'.handled = none) (hfr : A'.frames = some (ce :: X.stack))
    (hce : ce = genEnv scope (cloFrom X.env.cells scope.names []) s.heap.objs.size code builtinsNs X.env) (kp : ∀ b o, s.heap.get? b = some o → s'.heap.get? b = some o) (hns : s'.heap.Ns s.heap.objs.size m)
    (hgo : s'.heap.get? a = some go) (hga : s.heap.objs.size < a) (hgd : ∀ v, go.data ≠ .cell v) (hos : s'.os = s.os) (hb : AllBare s'.gens) :
    Inv (gCx X s H ce fp A') [(a, go)] (wipe σ (own.map (·.2))) H s' := by
  have hfree : ∀ y ∈ scope.names, y.2 = .free → ∃ c, X.env.cells.lookup y.1 = some c := fun y hy e => by
    rcases ok.free y hy e with k | k
    · exact I.ok.has _ (.inl k)
    · exact I.ok.has _ (.inr k)
  have hL : ce.locals = s.heap.objs.size := by rw [hce]; rfl
  have hcl : ce.cells = cloFrom X.env.cells scope.names [] := by rw [hce]; rfl
  have hsc : ce.scope = scope := by rw [hce]; rfl
  have hfm : ce.frame = some ce.locals := by rw [hce]; rfl
  have cm : ∀ {y c}, ce.cells.lookup y = some c → X.env.cells.lookup y = some c ∧ c < s.heap.objs.size := fun {y c} e => by
    rw [hcl] at e
    rcases cloFrom_mem (PySem.mem_of_lookup e) with hm | ⟨h1, rfl⟩
    · cases hm
    · obtain ⟨c, hc⟩ := hfree _ h1 rfl
      rw [hc]
      obtain ⟨w, z⟩ := I.cell _ _ hc
      exact ⟨rfl, z.lt⟩
  have look : ∀ {y}, scope.names.lookup y = some .free → ∃ c, ce.cells.lookup y = some c ∧ X.env.cells.lookup y = some c := fun {y} hl => by
    have hy : (y, NameKind.free) ∈ scope.names := PySem.mem_of_lookup hl
    obtain ⟨c', e'⟩ := mem_lookup (cloFrom_has (cells := X.env.cells) (acc := []) hy)
    rw [← hcl] at e'
    exact ⟨c', e', (cm e').1⟩
  have stk : ∀ b ∈ frs X.stack, b < s.heap.objs.size := fun b hb => by
    obtain ⟨_, o, ho, _⟩ := I.stack.mem hb
    exact Heap.lt_size ho
  have okB : (gCx X s H ce fp A').Ok := by
    refine ⟨I.ok.mod, by show ce.scope.kind = _; rw [hsc]; exact ok.kind, by show ce.globals = _; rw [hce]; exact I.ok.glob, by show ce.builtins = _; rw [hce]; rfl, by show s.heap.objs.size ≤ ce.locals; rw [hL]; exact Nat.le_refl _,
      fun y z c e1 e2 => I.ok.inj y z c (cm e1).1 (cm e2).1, fun y hy => ?_, fun y c z e => (by cases z), hd, hfr, .inr ⟨rfl, hfm⟩, fun b hb => ⟨?_, fun y c e z => (hfp b hb).1.2.2.2.2.1 y c (cm e).1 z⟩, I.bs, Nat.le_trans I.ok.bsz I.sz, fun b o e hb => ?_, fun b hb z => ?_, I.stack, I.stkFree⟩
    · show ∃ c, ce.cells.lookup y = some c
      have hy : ce.scope.names.lookup y = some .cell ∨ ce.scope.names.lookup y = some .free := hy
      rw [hsc] at hy
      rcases hy with hy | hy
      · exact absurd rfl (nc _ (PySem.mem_of_lookup hy))
      · obtain ⟨c, h1, _⟩ := look hy
        exact ⟨c, h1⟩
    · show b ≠ ce.locals
      rw [hL]; exact Nat.ne_of_lt (hfp b hb).2
    · rcases (hfp b hb).1.2.2.2.1 with z | z
      · exact I.ok.noex b o e z
      · exact absurd (Nat.lt_of_lt_of_le (Heap.lt_size e) (Nat.le_trans I.ok.bsz z)) (Nat.lt_irrefl _)
    · rcases List.mem_cons.mp (I.stkSub b z) with z | z
      · exact (hfp b hb).1.2.1 z
      · exact (hfp b hb).1.2.2.1 z
  refine ⟨okB, hos, hb, Un.kept kp, ⟨m, ?_, fun i y av e1 e2 e3 => ?_⟩, fun y c e => ?_, ?_, fun y c e => I.freeC y c (cm e).1, fun p hp => ?_, I.hok.kept kp, by rw [wipe_length]; exact I.len⟩
  · show Heap.Ns _ ce.locals _
    rw [hL]
    exact hns
  · obtain ⟨e2, hne⟩ := wipe_some e2
    have e3 : Vis ce.scope y := e3
    rw [hsc] at e3
    have no : ∀ k, scope.names.lookup y = some k → ¬ (k = .local ∨ k = .cell) := fun k e hh => by
      rcases ok.own _ (PySem.mem_of_lookup e) hh with e' | e'
      · obtain ⟨p, hp, hpy⟩ := List.mem_map.mp e'
        have e3 := ok.ix p hp
        have : p.1 = y := hpy
        rw [this] at e3
        exact hne (List.mem_map.mpr ⟨p, hp, nodup_ix hN e3 e1⟩)
      · exact e' (List.mem_of_getElem? e1)
    have hfr : scope.names.lookup y = some .free := by
      rcases e3 with e3 | e3 | e3
      · exact absurd (.inl rfl) (no _ e3)
      · exact absurd (.inr rfl) (no _ e3)
      · exact e3
    obtain ⟨m, hn, hl⟩ := I.loc
    have hvis : Vis X.env.scope y := (ok.free _ (PySem.mem_of_lookup hfr) rfl).elim (fun k => .inr (.inl k)) (fun k => .inr (.inr k))
    obtain ⟨w, r, q⟩ := hl i y av e1 e2 hvis
    obtain ⟨c, h1, h2⟩ := look hfr
    refine ⟨w, r, .inr ⟨.inr (show ce.scope.names.lookup y = _ by rw [hsc]; exact hfr), c, h1, ?_⟩⟩
    rcases q with ⟨k, _⟩ | ⟨_, c', e', z⟩
    · have k : X.env.scope.names.lookup y = some .local := k
      rcases ok.free _ (PySem.mem_of_lookup hfr) rfl with k' | k' <;> rw [show X.env.scope.names.lookup y = _ from k'] at k <;> cases k
    · rw [h2] at e'; cases e'
      exact z.keeps kp
  · obtain ⟨w, z⟩ := I.cell y c (cm e).1
    exact ⟨w, z.keeps kp⟩
  · show H ce.locals = none
    rw [hL]; exact I.hok.fresh (Nat.le_refl _)
  · have hp : p ∈ [] ++ [(a, go)] := hp
    have e : p = (a, go) := by simpa using hp
    subst e
    refine ⟨hgo, I.hok.fresh (Nat.le_of_lt hga), ?_, fun z => ?_, hgd⟩
    · show a ≠ ce.locals
      rw [hL]; exact Nat.ne_of_gt hga
    · exact absurd (Nat.lt_trans (stk a z) hga) (Nat.lt_irrefl _)
end

/-- what is wanted of a walk: W by the turn and a measure; d: the item that ends it -/
def Wk (d : Bool) (J : It) (g : TG) (tt : TT) (te : TE) (vs : List Nat) (σ : L2.St) (W : Nat → Nat → Hp → Prop) (Qe Qd : Hp → Prop) : Prop := ∀ i m H, W i m H →
  (J.stop i H ∧ Qe H) ∨ (J.go i H ∧ ∃ Nx : Hp → Prop, (∀ H', Nx H' → ∃ m', m' < m ∧ W (i + 1) m' H') ∧ ∀ x H', J.yld i H x H' → g x (wipe σ vs) H' fun σ2 H2 => wipe σ2 vs = wipe σ vs ∧ tt σ2 H2 fun b H3 =>
    if b = true then te σ2 H3 fun y H4 => ∃ c, y = .bl c ∧ if c = d then Qd H4 else Nx H4 else Nx H3)

section
variable {Y : Cx} {A : Around} {σ : L2.St} {vs : List Nat} {a : Addr} {go : Obj}
def YE (Y : Cx) (a : Addr) (go : Obj) (ws : L2.St) (Qe : Hp → Prop) (s : Shared) : Prop := ∃ H, Inv Y [(a, go)] ws H s ∧ Qe H
def YP (d : Bool) (Y : Cx) (a : Addr) (go : Obj) (ws : L2.St) (Qd : Hp → Prop) : Protocol := fun _ _ v s kap =>
  ∃ c H, v = .bool c ∧ Inv Y [(a, go)] ws H s ∧ if c = d then Qd H else ∀ s'' : Shared, s''.heap = s.heap → s''.os = s.os → AllBare s''.gens → kap (.send .none) s''
abbrev YR (Y : Cx) (a : Addr) (go : Obj) (ws : L2.St) (Qe : Hp → Prop) : GenEnd := fun n s₀ r s₁ => r = .ok .next ∧ (fun (_ : Nat) (_ s₁ : Shared) => YE Y a go ws Qe s₁) n s₀ s₁

theorem seg_gl {d : Bool} {tg elt iter : Expr} {ifs : List Expr} {scope : Scope} {pos : Pos} {it : Addr} {fp : List Addr} {tn : Nat → Heap → Prop} {J : It} {g : TG} {tt : TT} {te : TE} {W : Nat → Nat → Hp → Prop} {Qe Qd : Hp → Prop}
    (hA : Y.A = A.over (.compLoop (.GeneratorExp elt [⟨tg, iter, ifs, 0⟩] scope pos) 0 (.ref it) .none Y.env) []) (hc : Y.calm = true) (hco : Y.env.scope.isCoroutine = false) (T : Turn Y.prog Y.w Y.K tg J fp it tn)
    (hx : Y.ex = fp) (hpn : Y.pn = []) (hafp : a ∉ fp) (pg : PG Y tg g) (pt : PTs Y ifs tt) (pe : PE Y elt te) (hW : Wk d J g tt te vs σ W Qe Qd) (hxe : Y.xe = fun _ _ => False) :
    ∀ (m n : Nat), m < n → ∀ (i : Nat) (H : Hp) (s₀ s : Shared), Inv Y [(a, go)] (wipe σ vs) H s → tn i s.heap → (∀ b ∈ fp, H b = none) → W i m H →
      Seg (model Y.prog Y.w) A (YR Y a go (wipe σ vs) Qe) (YP d Y a go (wipe σ vs) Qd) n s₀
        (.compLoop (.GeneratorExp elt [⟨tg, iter, ifs, 0⟩] scope pos) 0 (.ref it) .none Y.env)
        ((model Y.prog Y.w).den (.compLoop (.GeneratorExp elt [⟨tg, iter, ifs, 0⟩] scope pos) 0 (.ref it) .none Y.env)) [] s := by
  intro m
  induction m using Nat.strongRecOn with
  | _ m ih =>
  intro n hmn i H s₀ s I st nf w
  have stat : ∀ {ps : List (Addr × Obj)} {σ' : L2.St} {H' : Hp} {s' : Shared}, Inv Y [(a, go)] σ' H' s' → (∀ b ∈ fp, H' b = none) → ∀ b ∈ fp, FpOk Y [(a, go)] H' b := fun {ps σ' H' s'} I' hn b hb =>
    ⟨hn b hb, (I'.ok.exf b (hx ▸ hb)).1, I'.ok.exfs b (hx ▸ hb), .inl (hx ▸ hb), fun x c e => (I'.ok.exf b (hx ▸ hb)).2 x c e, fun p hp => by
      rw [hpn] at hp
      have e : p = (a, go) := by simpa using hp
      rw [e]
      exact fun z => hafp (by rw [show a = b from z]; exact hb)⟩
  show Seg _ A _ _ _ s₀ _ ((compTurn (.GeneratorExp elt [⟨tg, iter, ifs, 0⟩] scope pos) 0 (.ref it) .none Y.env).onRaise (leaving Y.env)) [] s
  rw [compTurn_gen, Sem.onRaise_eq_wrap]
  refine seg_bind_wrap (wpAny_standAt ?_)
  rcases hW i m H w with ⟨stop, qe⟩ | ⟨go1, Nx, hNx, step⟩
  · refine seg_bind_wrap ?_
    rw [← hA]
    refine thnF (T.done Y rfl rfl rfl hc i _ s _ H (fun _ _ => False) I (stat (ps := []) I nf) st stop) fun r s1 ⟨hr, I1⟩ => ?_
    subst hr
    exact seg_end (.ok .next) ⟨rfl, H, I1, qe⟩
  · refine seg_bind_wrap ?_
    rw [← hA]
    refine thnF (T.item Y rfl rfl rfl hc i _ s _ H (fun _ _ => False) I (stat (ps := []) I nf) st go1) fun r s1 ⟨u, hr, h1⟩ => ?_
    subst hr
    refine seg_bind_wrap ?_
    rw [← hA]
    refine thnF h1 fun _ s2 ⟨x, H2, I2, r2, y2, st2, n2⟩ => ?_
    have I2' := I2.pinned (stat (ps := []) I2 n2) (T.obj _ _ st2)
    have pg1 := pg.run _ s2 _ H2 x u _ I2' r2 (step x H2 y2)
    rw [hxe] at pg1
    refine seg_bind_wrap ?_
    rw [← hA]
    refine thnF pg1 fun _ s3 ⟨σ3, H3, I3, hw3, q3⟩ => ?_
    have pt1 := pt.run _ s3 σ3 H3 _ I3 q3
    rw [hxe] at pt1
    refine seg_bind_wrap ?_
    rw [← hA]
    refine thnF pt1 fun b s4 ⟨H4, I4, q4⟩ => ?_
    -- the turn's end
    have fin : ∀ {s' : Shared} {H' : Hp}, Inv Y ([(a, go)] ++ pinsAt fp s2.heap) σ3 H' s' → Inv Y [(a, go)] (wipe σ vs) H' s' ∧ tn (i + 1) s'.heap ∧ (∀ b ∈ fp, H' b = none) := fun {s' H'} I' => by
      have pin' : ∀ b ∈ fp, ∀ o, s2.heap.get? b = some o → s'.heap.get? b = some o ∧ H' b = none := fun b hb o e =>
        let z := I'.pin (b, o) (List.mem_append_right _ (List.mem_append_right _ (mem_pinsAt hb e)))
        ⟨z.1, z.2.1⟩
      have hl : (wipe σ vs).length = σ3.length := by rw [← hw3, wipe_length]
      refine ⟨(I'.unpinned (pins := [(a, go)])).weak hl (fun j v e => ?_), T.keep _ _ _ st2 fun b hb o e => (pin' b hb o e).1, fun b hb => ?_⟩
      · rw [← hw3] at e
        exact (wipe_some e).1
      · obtain ⟨o, e, _⟩ := T.obj _ _ st2 b hb
        exact (pin' b hb o e).2
    cases b with
    | false =>
      simp only [Bool.false_eq_true, if_false] at q4 ⊢
      obtain ⟨m', hm, w'⟩ := hNx H4 q4
      obtain ⟨J1, J2, J3⟩ := fin I4
      exact seg_again rfl (ih m' hm n (by omega) (i + 1) H4 s₀ s4 J1 J2 J3 w')
    | true =>
      simp only [if_true] at q4 ⊢
      have hy : ∀ v, yieldOut Y.env v = yieldValue v := fun v => by simp only [yieldOut, hco, Bool.false_eq_true, if_false]
      simp only [hy]
      have pe1 := pe.run _ s4 σ3 H4 _ I4 q4
      rw [hxe] at pe1
      rw [Sem.bind_eq_wrap', Sem.bind_eq_wrap', Sem.wrap_wrap, Sem.wrap_wrap]
      refine seg_wrap ?_
      rw [← hA]
      refine thnF pe1 fun z s5 ⟨y, H5, I5, r5, c, ec, q5⟩ => ?_
      subst ec
      cases r5
      obtain ⟨J1, J2, J3⟩ := fin I5
      by_cases hcd : c = d
      · rw [if_pos hcd] at q5
        obtain ⟨n, rfl⟩ : ∃ k, n = k + 1 := ⟨n - 1, by omega⟩
        exact seg_at (seg_yield rfl rfl rfl ⟨c, H5, rfl, J1, by rw [if_pos hcd]; exact q5⟩)
      · rw [if_neg hcd] at q5
        obtain ⟨m', hm, w'⟩ := hNx H5 q5
        obtain ⟨n, rfl⟩ : ∃ k, n = k + 1 := ⟨n - 1, by omega⟩
        refine seg_at (seg_yield rfl rfl rfl ⟨c, H5, rfl, J1, ?_⟩)
        rw [if_neg hcd]
        intro s'' h1 h2 h3
        exact seg_again rfl (ih m' hm n (by omega) (i + 1) H5 s'' s'' (inv_heap J1 h1 h2 h3) (by rw [h1]; exact J2) J3 w')
end
end GX
namespace GX
open PySem PySem.Spec PyProof.Rows L2 GxR

section
variable {Y : Cx} {A : Around} {σ : L2.St} {vs : List Nat} {a : Addr} {go : Obj}
theorem seg_gs {d : Bool} {tg elt iter : Expr} {ifs : List Expr} {scope : Scope} {pos : Pos} {it : Addr} {fp : List Addr} {tn : Nat → Heap → Prop} {J : It} {g : TG} {tt : TT} {te : TE} {W : Nat → Nat → Hp → Prop} {Qe Qd : Hp → Prop}
    (hA : Y.A = A.over (.compLoop (.GeneratorExp elt [⟨tg, iter, ifs, 0⟩] scope pos) 0 (.ref it) .none Y.env) []) (hc : Y.calm = true) (hco : Y.env.scope.isCoroutine = false) (T : Turn Y.prog Y.w Y.K tg J fp it tn)
    (hx : Y.ex = fp) (hpn : Y.pn = []) (hafp : a ∉ fp) (pg : PG Y tg g) (pt : PTs Y ifs tt) (pe : PE Y elt te) (hW : Wk d J g tt te vs σ W Qe Qd) (hxe : Y.xe = fun _ _ => False)
    (m : Nat) (H : Hp) (s₀ s : Shared) (I : Inv Y [(a, go)] (wipe σ vs) H s) (st : tn 0 s.heap) (nf : ∀ b ∈ fp, H b = none) (w : W 0 m H) :
      Seg (model Y.prog Y.w) A (YR Y a go (wipe σ vs) Qe) (YP d Y a go (wipe σ vs) Qd) (m + 1) s₀
        (.compStart (.GeneratorExp elt [⟨tg, iter, ifs, 0⟩] scope pos) 0 (.ref it) .none Y.env)
        ((model Y.prog Y.w).den (.compStart (.GeneratorExp elt [⟨tg, iter, ifs, 0⟩] scope pos) 0 (.ref it) .none Y.env)) [] s := by
  have loop := seg_gl (iter := iter) (scope := scope) (pos := pos) hA hc hco T hx hpn hafp pg pt pe hW hxe m (m + 1) (Nat.lt_succ_self m) 0 H s₀ s I st nf w
  show Seg _ A _ _ _ s₀ _ ((compStart (.GeneratorExp elt [⟨tg, iter, ifs, 0⟩] scope pos) 0 (.ref it) .none Y.env).onRaise (leaving Y.env)) [] s
  unfold compStart
  rw [Sem.onRaise_eq_wrap]
  show Seg _ A _ _ _ s₀ _ ((ask >>= _).wrap _ _ _ _) [] s
  refine seg_bind_wrap (wpAny_askSetting ?_)
  split
  · exact seg_again rfl loop
  · first
      | exact seg_bind_wrap (wpAny_rule (seg_bind_wrap (wpAny_standAt (seg_bind_wrap (T.self _ 0 s _ _ st (seg_again rfl loop))))))
      | (refine seg_bind_wrap (wpAny_rule ?_); show Seg _ A _ _ _ s₀ _ ((standAt iter.pos >>= _).wrap _ _ _ _) [] s; exact seg_bind_wrap (wpAny_standAt (seg_bind_wrap (T.self _ 0 s _ _ st (seg_again rfl loop)))))

/-- the loop of all(..) -/
theorem loop_all {prog : Program} {w : World} {gn : Nat} {ws : L2.St} {Qe Qd : Hp → Prop} {Rr : Result → Shared → Prop} (hh : A.handled = none) (hroom : A.depth < recursionLimit) (hgo : ∀ h : Heap, h.get? a = some go → h.IsGen a gn)
    (hT : ∀ s₁ h', YE Y a go ws Qe s₁ → (∀ b o, s₁.heap.get? b = some o → h'.get? b = some o) → Rr (.ok (.ret (.bool true))) { s₁.setGen gn .finished with heap := h' })
    (hF : ∀ s₁ gs' H, gs'.bare = true → Inv Y [(a, go)] ws H s₁ → Qd H → Rr (.ok (.ret (.bool false))) (s₁.setGen gn gs')) :
    ∀ (n : Nat) (s : Shared) (gs : GenState), s.heap.get? a = some go → s.heap.NoLimit → AllBare s.gens → s.gens[gn]? = some gs →
      (∀ s'' : Shared, s''.heap = s.heap → s''.os = s.os → AllBare s''.gens → gs.Goes (model prog w) A.in1.in1 (YR Y a go ws Qe) (YP false Y a go ws Qd) n (.send .none) s'') →
      codeAny (model prog w) A (.builtin "all.loop" ⟨[.ref a], []⟩) Rr s := by
  intro n
  induction n with
  | zero =>
    intro s gs hg hl hb hgs hgoes
    refine codeAny_builtin F.entry_all_loop ?_
    rw [Around.under_plainId F.plain_all_loop _]
    show wpAny _ A.in1 (pyNext (.ref a) >>= _) _ _ s
    refine wpAny_bind (wpAny_pyNext_genexpQ (P := fun _ _ s₁ => YE Y a go ws Qe s₁) hh hl hroom (hgo _ hg) hgs (hgoes _ rfl rfl (bare_set hb rfl)) (fun v s₁ gs' hb' hv => ?_) (fun s₁ hp h' hk => ?_))
    · obtain ⟨c, H, rfl, I, q⟩ := hv
      cases c with
      | false =>
        rw [if_pos rfl] at q
        refine wpAny_bind (wpAny_holding (wpAny_truthy_bool (wpAny_bind (wpAny_letGo ?_))))
        refine wpAny_bind (wpAny_rule (wpAny_pure ?_))
        exact hF s₁ gs' H hb' I q
      | true =>
        rw [if_neg (by decide)] at q
        exact (q s₁ rfl rfl I.bare).elim
    · refine wpAny_bind (wpAny_rule (wpAny_pure ?_))
      exact hT s₁ h' hp hk
  | succ n ih =>
    intro s gs hg hl hb hgs hgoes
    have hlt : gn < s.gens.size := by
      rcases Nat.lt_or_ge gn s.gens.size with h' | h'
      · exact h'
      · rw [Array.getElem?_eq_none h'] at hgs; cases hgs
    refine codeAny_builtin F.entry_all_loop ?_
    rw [Around.under_plainId F.plain_all_loop _]
    show wpAny _ A.in1 (pyNext (.ref a) >>= _) _ _ s
    refine wpAny_bind (wpAny_with_gens (Nat.le_refl s.gens.size) (wpAny_pyNext_genexpQ (P := fun _ _ s₁ => YE Y a go ws Qe s₁) hh hl hroom (hgo _ hg) hgs (hgoes _ rfl rfl (bare_set hb rfl)) (fun v s₁ gs' hb' hv => ?_) (fun s₁ hp h' hk => ?_)))
    · intro hsz
      have hsz : s.gens.size ≤ s₁.gens.size := by
        have z : s.gens.size ≤ (s₁.setGen gn gs').gens.size := hsz
        simpa [Shared.setGen] using z
      obtain ⟨c, H, rfl, I, q⟩ := hv
      cases c with
      | false =>
        rw [if_pos rfl] at q
        refine wpAny_bind (wpAny_holding (wpAny_truthy_bool (wpAny_bind (wpAny_letGo ?_))))
        refine wpAny_bind (wpAny_rule (wpAny_pure ?_))
        exact hF s₁ gs' H hb' I q
      | true =>
        rw [if_neg (by decide)] at q
        refine wpAny_bind (wpAny_holding (wpAny_truthy_bool (wpAny_bind (wpAny_letGo ?_))))
        refine wpAny_pure ⟨plainId_quiet F.plain_all_loop _, ih (s₁.setGen gn gs') gs' ?_ ?_ (bare_set I.bare hb') ?_ fun s'' h1 h2 h3 => q s'' h1 h2 h3⟩
        · exact (I.pin (a, go) (List.mem_append_right _ (List.mem_singleton.mpr rfl))).1
        · exact I.nolimit
        · show (s₁.gens.setIfInBounds gn gs')[gn]? = some gs'
          rw [Array.getElem?_setIfInBounds_self_of_lt (Nat.lt_of_lt_of_le hlt hsz)]
    · intro _
      refine wpAny_bind (wpAny_rule (wpAny_pure ?_))
      exact hT s₁ h' hp hk

/-- the loop of any(..) -/
theorem loop_any {prog : Program} {w : World} {gn : Nat} {ws : L2.St} {Qe Qd : Hp → Prop} {Rr : Result → Shared → Prop} (hh : A.handled = none) (hroom : A.depth < recursionLimit) (hgo : ∀ h : Heap, h.get? a = some go → h.IsGen a gn)
    (hT : ∀ s₁ h', YE Y a go ws Qe s₁ → (∀ b o, s₁.heap.get? b = some o → h'.get? b = some o) → Rr (.ok (.ret (.bool false))) { s₁.setGen gn .finished with heap := h' })
    (hF : ∀ s₁ gs' H, gs'.bare = true → Inv Y [(a, go)] ws H s₁ → Qd H → Rr (.ok (.ret (.bool true))) (s₁.setGen gn gs')) :
    ∀ (n : Nat) (s : Shared) (gs : GenState), s.heap.get? a = some go → s.heap.NoLimit → AllBare s.gens → s.gens[gn]? = some gs →
      (∀ s'' : Shared, s''.heap = s.heap → s''.os = s.os → AllBare s''.gens → gs.Goes (model prog w) A.in1.in1 (YR Y a go ws Qe) (YP true Y a go ws Qd) n (.send .none) s'') →
      codeAny (model prog w) A (.builtin "any.loop" ⟨[.ref a], []⟩) Rr s := by
  intro n
  induction n with
  | zero =>
    intro s gs hg hl hb hgs hgoes
    refine codeAny_builtin F.entry_any_loop ?_
    rw [Around.under_plainId F.plain_any_loop _]
    show wpAny _ A.in1 (pyNext (.ref a) >>= _) _ _ s
    refine wpAny_bind (wpAny_pyNext_genexpQ (P := fun _ _ s₁ => YE Y a go ws Qe s₁) hh hl hroom (hgo _ hg) hgs (hgoes _ rfl rfl (bare_set hb rfl)) (fun v s₁ gs' hb' hv => ?_) (fun s₁ hp h' hk => ?_))
    · obtain ⟨c, H, rfl, I, q⟩ := hv
      cases c with
      | true =>
        rw [if_pos rfl] at q
        refine wpAny_bind (wpAny_holding (wpAny_truthy_bool (wpAny_bind (wpAny_letGo ?_))))
        refine wpAny_bind (wpAny_rule (wpAny_pure ?_))
        exact hF s₁ gs' H hb' I q
      | false =>
        rw [if_neg (by decide)] at q
        exact (q s₁ rfl rfl I.bare).elim
    · refine wpAny_bind (wpAny_rule (wpAny_pure ?_))
      exact hT s₁ h' hp hk
  | succ n ih =>
    intro s gs hg hl hb hgs hgoes
    have hlt : gn < s.gens.size := by
      rcases Nat.lt_or_ge gn s.gens.size with h' | h'
      · exact h'
      · rw [Array.getElem?_eq_none h'] at hgs; cases hgs
    refine codeAny_builtin F.entry_any_loop ?_
    rw [Around.under_plainId F.plain_any_loop _]
    show wpAny _ A.in1 (pyNext (.ref a) >>= _) _ _ s
    refine wpAny_bind (wpAny_with_gens (Nat.le_refl s.gens.size) (wpAny_pyNext_genexpQ (P := fun _ _ s₁ => YE Y a go ws Qe s₁) hh hl hroom (hgo _ hg) hgs (hgoes _ rfl rfl (bare_set hb rfl)) (fun v s₁ gs' hb' hv => ?_) (fun s₁ hp h' hk => ?_)))
    · intro hsz
      have hsz : s.gens.size ≤ s₁.gens.size := by
        have z : s.gens.size ≤ (s₁.setGen gn gs').gens.size := hsz
        simpa [Shared.setGen] using z
      obtain ⟨c, H, rfl, I, q⟩ := hv
      cases c with
      | true =>
        rw [if_pos rfl] at q
        refine wpAny_bind (wpAny_holding (wpAny_truthy_bool (wpAny_bind (wpAny_letGo ?_))))
        refine wpAny_bind (wpAny_rule (wpAny_pure ?_))
        exact hF s₁ gs' H hb' I q
      | false =>
        rw [if_neg (by decide)] at q
        refine wpAny_bind (wpAny_holding (wpAny_truthy_bool (wpAny_bind (wpAny_letGo ?_))))
        refine wpAny_pure ⟨plainId_quiet F.plain_any_loop _, ih (s₁.setGen gn gs') gs' ?_ ?_ (bare_set I.bare hb') ?_ fun s'' h1 h2 h3 => q s'' h1 h2 h3⟩
        · exact (I.pin (a, go) (List.mem_append_right _ (List.mem_singleton.mpr rfl))).1
        · exact I.nolimit
        · show (s₁.gens.setIfInBounds gn gs')[gn]? = some gs'
          rw [Array.getElem?_setIfInBounds_self_of_lt (Nat.lt_of_lt_of_le hlt hsz)]
    · intro _
      refine wpAny_bind (wpAny_rule (wpAny_pure ?_))
      exact hT s₁ h' hp hk
end

theorem room_over {k : Nat} {A : Around} {elt : Expr} {gs : List Comprehension} {scope : Scope} {pos : Pos} {it acc : Value} {ce : Env} (hr : Room (k + 1) A) : Room k (A.in1.in1.over (.compLoop (.GeneratorExp elt gs scope pos) 0 it acc ce) []) := by
  have h1 := hr.hd
  have h2 := hr.dp
  have h3 := hr.un
  have w : (Code.compLoop (.GeneratorExp elt gs scope pos) 0 it acc ce).weight = 1 := rfl
  have u : (Code.compLoop (.GeneratorExp elt gs scope pos) 0 it acc ce).cUnits = 3 := rfl
  refine ⟨h1, ?_, ?_⟩
  · show A.depth + 0 + _ + 3 * k + 5 < _
    rw [w]; omega
  · show A.units + 1 + 1 + 0 + _ + 16 * k + 200 < _
    rw [u]; omega
theorem frames_over {A : Around} {elt : Expr} {gs : List Comprehension} {scope : Scope} {pos : Pos} {it acc : Value} {ce : Env} {l : List Env} (hf : A.frames = some l) : (A.in1.in1.over (.compLoop (.GeneratorExp elt gs scope pos) 0 it acc ce) []).frames = some (ce :: l) := by
  show pushEnvs [ce] (pushEnvs [] A.frames) = _
  rw [hf]; rfl
end GX
namespace GX
open PySem PySem.Spec PyProof.Rows L2 GxR

/-- a generator expression's names, code, table -/
structure GenX (X : Cx) (scope : Scope) (own : List (Str × Nat)) (c P : Addr) : Prop where
  ok : BlkOk X.N X.env.scope scope own
  nc : ∀ y ∈ scope.names, y.2 ≠ .cell
  co : scope.isCoroutine = false
  dot : scope.names.lookup (".0" : Str) = some NameKind.local
  tb : TabB X.base X.mg c P
  code : X.env.code = .ref c

abbrev gEnv (X : Cx) (scope : Scope) (C : Addr) (code : Value) : Env := genEnv scope (cloFrom X.env.cells scope.names []) C code builtinsNs X.env

section
variable {X : Cx} {pins : List (Addr × Obj)} {σ : L2.St} {H : Hp} {s : Shared}
/-- the generator is made -/
def GReady (d : Bool) (X : Cx) (pins : List (Addr × Obj)) (σ : L2.St) (Qe Qd : Hp → Prop) (u : Value) (s5 : Shared) : Prop :=
  ∃ (a : Addr) (gn : Nat) (go : Obj) (Y : Cx) (ws : L2.St) (n : Nat) (gs : GenState), u = .ref a ∧ (∀ h : Heap, h.get? a = some go → h.IsGen a gn) ∧ s5.heap.get? a = some go ∧ s5.heap.NoLimit ∧ AllBare s5.gens ∧ s5.gens[gn]? = some gs ∧
    (∀ s'' : Shared, s''.heap = s5.heap → s''.os = s5.os → AllBare s''.gens → gs.Goes (model X.prog X.w) X.A.in1.in1 (YR Y a go ws Qe) (YP d Y a go ws Qd) n (.send .none) s'') ∧
    (∀ s₁ H s', Inv Y [(a, go)] ws H s₁ → s'.os = s₁.os → (∀ b o, s₁.heap.get? b = some o → s'.heap.get? b = some o) → AllBare s'.gens → Inv X pins σ H s')

theorem gen_makeG {d : Bool} {tg elt iter : Expr} {ifs : List Expr} {scope : Scope} {own : List (Str × Nat)} {gpos : Pos} {c P : Addr} {wi : TI} {g : TG} {tt : TT} {te : TE} {k : Nat} {Qe Qd : Hp → Prop}
    (hr : Room (k + 1) X.A) (hc : X.calm = true) (hN : X.N.Nodup) (G : GenX X scope own c P) (hs : ∀ v, genFold iter X.env v = pure v) (hi : PI X tg iter wi)
    (hg : ∀ (s : Shared) (H : Hp) (C : Addr) (code : Value) (fp : List Addr) (A' : Around), Room k A' → PG (gCx X s H (gEnv X scope C code) fp A') tg g)
    (ht : ∀ (s : Shared) (H : Hp) (C : Addr) (code : Value) (fp : List Addr) (A' : Around), Room k A' → PTs (gCx X s H (gEnv X scope C code) fp A') ifs tt)
    (he : ∀ (s : Shared) (H : Hp) (C : Addr) (code : Value) (fp : List Addr) (A' : Around), Room k A' → PE (gCx X s H (gEnv X scope C code) fp A') elt te)
    (I : Inv X pins σ H s)
    (h : wi σ H fun J H1 => TabG H1 P ∧ ∀ H2, Tabbed P H1 H2 → ∃ W : Nat → Nat → Hp → Prop, (∃ m, W 0 m H2) ∧ Wk d J g tt te (own.map (·.2)) σ W Qe Qd) :
    wpAny (model X.prog X.w) X.A (eval (.GeneratorExp elt [⟨tg, iter, ifs, 0⟩] scope gpos) X.env) (GReady d X pins σ Qe Qd) X.xe s := by
  have ok := G.ok
  have hfree : ∀ y ∈ scope.names, y.2 = .free → ∃ c, X.env.cells.lookup y.1 = some c := fun y hy e => by
    rcases ok.free y hy e with k | k
    · exact I.ok.has _ (.inl k)
    · exact I.ok.has _ (.inr k)
  have dp := hr.dp
  refine wpAny_GeneratorExp_make G.co (closure_ok hfree) G.nc G.dot ok.kind (by omega) (thn (hi.run pins s σ H _ I h) fun xv s1 hx => thn hx fun itv s2 h2 => ?_) hs
  obtain ⟨it, fp, tn, J, H1, e, I1, T, st1, f1, ⟨ps, hP, hps⟩, q⟩ := h2
  subst e
  refine ⟨I1.nolimit, ?_⟩
  have tb0 : s2.heap.get? P = some { cls := .none, data := .fields ps } := I1.hok P _ hP
  have code1 : PySem.W.CodeHd s2.heap c P := G.tb.code.keeps fun b o e => I1.bk b o e
  have rest : ∀ (code : Value) (h3 : Heap) (tk : Nat) (ps3 : Array Value), Heap.ExtBut P s2.heap h3 → s2.heap.objs.size ≤ h3.objs.size → h3.get? P = some { cls := .none, data := .fields ps3 } →
      (∃ q, ps3 = ps ++ q) → TriplesOk ps3.toList →
      wpAny (model X.prog X.w) X.A (builtinsFor X.env.globals X.env.builtins) (fun bi s4 => ∀ h', h'.Ns s4.heap.objs.size (fun y => if y = ".0" then some (Value.ref it) else none) → Heap.SameBut s4.heap.objs.size (s4.heap.push { cls := .type "frame", data := .dict #[] }) h' →
          GReady d X pins σ Qe Qd (.ref h'.objs.size) { s4 with
            gens := s4.gens.push (.fresh (.compStart (.GeneratorExp elt [⟨tg, iter, ifs, 0⟩] scope gpos) 0 (.ref it) .none (genEnv scope (cloFrom X.env.cells scope.names []) s4.heap.objs.size code bi X.env))),
            toks := s4.toks + 1 + 1 + 1,
            heap := h'.push { cls := .type "generator", data := .fields #[.int s4.gens.size 0, .str "<genexpr>" (s4.toks + 1), .str (X.env.qual ++ "<genexpr>") (s4.toks + 1 + 1)] } }) X.xe { s2 with heap := h3, toks := tk } := by
    intro code h3 tk ps3 ext le3 tb3 ⟨qq, hq⟩ ok3
    obtain ⟨bm, om, m1, m2, m3, m4, m5, m6, m7, m8⟩ := G.tb.bm
    have k3 : ∀ b o, b ≠ P → s2.heap.get? b = some o → h3.get? b = some o := fun b o ne e => ext b o ne e
    refine wpAny_builtinsFor (m := X.mg) ?_ m1 m2 (k3 _ _ m4 (I1.bk _ _ m5)) m6 m7 m8 ?_
    · rw [I1.ok.glob]
      exact (I1.mod.glob.keeps I1.bk).extBut ext G.tb.gP
    rw [hq] at tb3
    have I4 : Inv X pins σ (upd H1 P (.tbl (ps ++ qq))) { s2 with heap := h3, toks := tk } := inv_tab (g' := s2.gens) (d' := s2.drawn) (t' := tk) I1 hP k3 tb3 I1.bare
    generalize hH4 : upd H1 P (.tbl (ps ++ qq)) = H4 at I4
    have TbG : Tabbed P H1 H4 := by
      subst hH4
      exact ⟨⟨ps ++ qq, upd_same, by rw [← hq]; exact ok3⟩, fun b ne => upd_ne ne⟩
    have nP : ∀ b ∈ fp, b ≠ P := fun b hb z => by
      have := (f1 b hb).1
      rw [z, hP] at this
      cases this
    have sz : ∀ b ∈ fp, b < s2.heap.objs.size := fun b hb => by
      obtain ⟨o, e, _⟩ := T.obj _ _ st1 b hb
      exact Heap.lt_size e
    have f4 : ∀ b ∈ fp, FpOk X pins H4 b ∧ b < h3.objs.size := fun b hb =>
      ⟨⟨by rw [TbG.2 b (nP b hb)]; exact (f1 b hb).1, (f1 b hb).2⟩, Nat.lt_of_lt_of_le (sz b hb) le3⟩
    have st3 : tn 0 h3 := T.keep _ _ _ st1 fun b hb o e => k3 b o (nP b hb) e
    obtain ⟨W, ⟨m0, w0⟩, hW⟩ := q H4 TbG
    generalize hs4 : ({ s2 with heap := h3, toks := tk } : Shared) = s4 at I4 ⊢
    have hh4 : s4.heap = h3 := by rw [← hs4]
    have f4 : ∀ b ∈ fp, FpOk X pins H4 b ∧ b < s4.heap.objs.size := by rw [hh4]; exact f4
    have st4 : tn 0 s4.heap := by rw [hh4]; exact st3
    intro h' hn' hs'
    have hsz : h'.objs.size = s4.heap.objs.size + 1 := by rw [hs'.1, Heap.size_push]
    have keep' : ∀ b o, s4.heap.get? b = some o → h'.get? b = some o := fun b o e => hs'.extBut b o (Nat.ne_of_lt (Heap.lt_size e)) (Heap.get?_push_of_some _ e)
    generalize hgo : ({ cls := .type "generator", data := .fields #[.int s4.gens.size 0, .str "<genexpr>" (s4.toks + 1), .str (X.env.qual ++ "<genexpr>") (s4.toks + 1 + 1)] } : Obj) = go
    have gog : ∀ h : Heap, h.get? h'.objs.size = some go → h.IsGen h'.objs.size s4.gens.size := fun h e => by
      rw [← hgo] at e
      exact ⟨_, _, _, e, rfl, rfl, rfl⟩
    have keep5 : ∀ b o, s4.heap.get? b = some o → (h'.push go).get? b = some o := fun b o e => Heap.get?_push_of_some _ (keep' b o e)
    have gfree : go.isFreed = false := by rw [← hgo]; rfl
    have hgoAt : (h'.push go).get? h'.objs.size = some go := Heap.get?_push_size _ gfree
    generalize hce : genEnv scope (cloFrom X.env.cells scope.names []) s4.heap.objs.size code builtinsNs X.env = ce
    generalize hA' : X.A.in1.in1.over (.compLoop (.GeneratorExp elt [⟨tg, iter, ifs, 0⟩] scope gpos) 0 (.ref it) .none ce) [] = A'
    have rm : Room k A' := by rw [← hA']; exact room_over hr
    have fr : A'.frames = some (ce :: X.stack) := by rw [← hA']; exact frames_over I1.ok.frames
    have bare5 : ∀ (x : GenState), x.bare = true → AllBare (s4.gens.push x) := fun x hx => I4.bare.push hx
    have I5 : ∀ (gs : Array GenState) (tk5 : Nat), AllBare gs → Inv (gCx X s4 H4 ce fp A') [(h'.objs.size, go)] (wipe σ (own.map (·.2))) H4 { s4 with gens := gs, toks := tk5, heap := h'.push go } := fun gs tk5 hb =>
      gen_start (X := X) (s := s4) (H := H4) (scope := scope) (own := own) (code := code) (m := fun y => if y = ".0" then some (Value.ref it) else none) I4 ok G.nc hN f4 (fun _ => rm.hd) fr hce.symm keep5 (hn'.push _) hgoAt (by rw [hsz]; exact Nat.lt_succ_self _) (fun v z => by rw [← hgo] at z; cases z) rfl hb
    have pg := hg s4 H4 s4.heap.objs.size code fp A' rm
    have pt := ht s4 H4 s4.heap.objs.size code fp A' rm
    have pe := he s4 H4 s4.heap.objs.size code fp A' rm
    have hce' : gEnv X scope s4.heap.objs.size code = ce := hce
    rw [hce'] at pg pt pe
    have cco : ce.scope.isCoroutine = false := by rw [← hce]; exact G.co
    refine ⟨h'.objs.size, s4.gens.size, go, gCx X s4 H4 ce fp A', wipe σ (own.map (·.2)), m0 + 1, _, rfl, gog, hgoAt, I4.nolimit.keeps keep5, bare5 _ rfl, Array.getElem?_push_size .., fun s'' h1 h2 h3' => ⟨rfl, ?_⟩, fun s₁ H' s' I6 ho kk hb => ?_⟩
    · refine seg_gs (Y := gCx X s4 H4 ce fp A') (fp := fp) (tn := tn) (J := J) (W := W) hA'.symm hc cco T rfl rfl (fun z => ?_) pg pt pe hW rfl m0 H4 s'' s'' (inv_heap (I5 (s4.gens.push .finished) 0 (bare5 _ rfl)) h1 h2 h3') ?_ (fun b hb => (f4 b hb).1.1) w0
      · have z2 : h'.objs.size < s4.heap.objs.size := (f4 _ z).2
        rw [hsz] at z2
        exact absurd z2 (by omega)
      · rw [h1]
        exact T.keep _ _ _ st4 fun b _ o e => keep5 b o e
    · exact I4.call' (ch := fp) (ho.trans I6.os) (Un.trans I6.base (Un.kept kk)) (I6.hok.kept kk) hb fun b hb => ⟨(f4 b hb).1.2.2.2.1, (f4 b hb).1.2.1, (f4 b hb).1.2.2.2.2.1, (f4 b hb).1.2.2.2.2.2⟩
  cases hcd : codeAmong gpos ps.toList with
  | some cv =>
    exact wpAny_genexprCode_hit G.code (code1.code tb0 hps) hcd (rest cv _ s2.toks ps (Heap.ExtBut.refl _ _) (Nat.le_refl _) tb0 ⟨#[], (Array.append_empty).symm⟩ hps)
  | none =>
    refine wpAny_genexprCodeX G.code (code1.code tb0 hps) (code1.tab tb0) hcd ?_
    intro c' h' tk ext ge lt isC _ tab' _
    obtain ⟨o1, v1, f1, f2, f3, f4, f5, f6, f7, f8, _, _, _, _, _, _, _, _, _, okT, _⟩ := isC
    exact rest _ h' tk _ ext (Nat.le_trans ge (Nat.le_of_lt lt)) tab'.2 ⟨_, rfl⟩ okT

/-- all(elt for tg in iter if ..), any(..): W by the turn and a measure -/
def tWalk (d : Bool) (P : Addr) (wi : TI) (g : TG) (tt : TT) (te : TE) (vs : List Nat) : TE := fun σ H Q => wi σ H fun J H1 => TabG H1 P ∧ ∀ H2, Tabbed P H1 H2 → ∃ W : Nat → Nat → Hp → Prop, (∃ m, W 0 m H2) ∧
  Wk d J g tt te vs σ W (fun H => Q (.bl (!d)) H) (fun H => Q (.bl d) H)

theorem pe_allG {tg elt iter : Expr} {ifs : List Expr} {scope : Scope} {own : List (Str × Nat)} {gpos p pos : Pos} {c P : Addr} {wi : TI} {g : TG} {tt : TT} {te : TE} {k : Nat}
    (hr : Room (k + 1) X.A) (hc : X.calm = true) (hN : X.N.Nodup) (hgl : Gl X "all") (hm : X.mg "all" = none) (G : GenX X scope own c P) (hi : PI X tg iter wi)
    (hg : ∀ (s : Shared) (H : Hp) (C : Addr) (code : Value) (fp : List Addr) (A' : Around), Room k A' → PG (gCx X s H (gEnv X scope C code) fp A') tg g)
    (ht : ∀ (s : Shared) (H : Hp) (C : Addr) (code : Value) (fp : List Addr) (A' : Around), Room k A' → PTs (gCx X s H (gEnv X scope C code) fp A') ifs tt)
    (he : ∀ (s : Shared) (H : Hp) (C : Addr) (code : Value) (fp : List Addr) (A' : Around), Room k A' → PE (gCx X s H (gEnv X scope C code) fp A') elt te)
    (hs : ∀ v, genFold iter X.env v = pure v)
    (hst : starEach [.GeneratorExp elt [⟨tg, iter, ifs, 0⟩] scope gpos] X.env = (false, eval (.GeneratorExp elt [⟨tg, iter, ifs, 0⟩] scope gpos) X.env) :: starEach [] X.env := by rfl) :
    PE X (.Call (.Name "all" p) [.GeneratorExp elt [⟨tg, iter, ifs, 0⟩] scope gpos] [] pos) (tWalk false P wi g tt te (own.map (·.2))) := by
  refine ⟨fun pins s σ H Q I h => ?_⟩
  refine wpAny_Call_Name_kw (ld_blt I hgl hm (show bootBuiltins "all" = some (.builtin "all") by decide +kernel) ?_)
  refine PyProof.Rows.callWith_builtin1 ?_ hst (by rfl)
  rw [hst]
  have dp := hr.dp
  refine Calls.spliced_cons (thn (gen_makeG (d := false) hr hc hN G hs hi hg ht he I h) fun u s5 R => ?_)
  obtain ⟨a, gn, go, Y, ws, n, gs, rfl, gog, hgo, hl, hb, hgs, goes, back⟩ := R
  refine Calls.spliced_nil (call_function_tree F.kind_all F.plain_all F.entry_all (F.args_all1 _) ?_)
  unfold Builtin.«all»
  refine wpAny_bind (m := oneArg "all" _) (wpAny_pure ?_)
  refine wpAny_bind (wpAny_pyIter_gen (gog _ hgo) (wpAny_pure ⟨plainId_quiet F.plain_all_loop _, loop_all (Y := Y) (go := go) (ws := ws) (Qe := fun H => Q (.bl (!false)) H) (Qd := fun H => Q (.bl false) H) hr.hd (by omega) gog (fun s₁ h' ⟨H', I', q⟩ hk => ?_) (fun s₁ gs' H' hb' I' q => ?_) n s5 gs hgo hl hb hgs goes⟩))
  · exact ⟨.bl false, H', back s₁ H' _ I' rfl (fun _ _ e => e) (bare_set I'.bare hb'), rfl, q⟩
  · exact ⟨.bl true, H', back s₁ H' _ I' rfl hk (bare_set I'.bare rfl), rfl, q⟩

theorem pe_anyG {tg elt iter : Expr} {ifs : List Expr} {scope : Scope} {own : List (Str × Nat)} {gpos p pos : Pos} {c P : Addr} {wi : TI} {g : TG} {tt : TT} {te : TE} {k : Nat}
    (hr : Room (k + 1) X.A) (hc : X.calm = true) (hN : X.N.Nodup) (hgl : Gl X "any") (hm : X.mg "any" = none) (G : GenX X scope own c P) (hi : PI X tg iter wi)
    (hg : ∀ (s : Shared) (H : Hp) (C : Addr) (code : Value) (fp : List Addr) (A' : Around), Room k A' → PG (gCx X s H (gEnv X scope C code) fp A') tg g)
    (ht : ∀ (s : Shared) (H : Hp) (C : Addr) (code : Value) (fp : List Addr) (A' : Around), Room k A' → PTs (gCx X s H (gEnv X scope C code) fp A') ifs tt)
    (he : ∀ (s : Shared) (H : Hp) (C : Addr) (code : Value) (fp : List Addr) (A' : Around), Room k A' → PE (gCx X s H (gEnv X scope C code) fp A') elt te)
    (hs : ∀ v, genFold iter X.env v = pure v)
    (hst : starEach [.GeneratorExp elt [⟨tg, iter, ifs, 0⟩] scope gpos] X.env = (false, eval (.GeneratorExp elt [⟨tg, iter, ifs, 0⟩] scope gpos) X.env) :: starEach [] X.env := by rfl) :
    PE X (.Call (.Name "any" p) [.GeneratorExp elt [⟨tg, iter, ifs, 0⟩] scope gpos] [] pos) (tWalk true P wi g tt te (own.map (·.2))) := by
  refine ⟨fun pins s σ H Q I h => ?_⟩
  refine wpAny_Call_Name_kw (ld_blt I hgl hm (show bootBuiltins "any" = some (.builtin "any") by decide +kernel) ?_)
  refine PyProof.Rows.callWith_builtin1 ?_ hst (by rfl)
  rw [hst]
  have dp := hr.dp
  refine Calls.spliced_cons (thn (gen_makeG (d := true) hr hc hN G hs hi hg ht he I h) fun u s5 R => ?_)
  obtain ⟨a, gn, go, Y, ws, n, gs, rfl, gog, hgo, hl, hb, hgs, goes, back⟩ := R
  refine Calls.spliced_nil (call_function_tree F.kind_any F.plain_any F.entry_any (F.args_any1 _) ?_)
  unfold Builtin.«any»
  refine wpAny_bind (m := oneArg "any" _) (wpAny_pure ?_)
  refine wpAny_bind (wpAny_pyIter_gen (gog _ hgo) (wpAny_pure ⟨plainId_quiet F.plain_any_loop _, loop_any (Y := Y) (go := go) (ws := ws) (Qe := fun H => Q (.bl (!true)) H) (Qd := fun H => Q (.bl true) H) hr.hd (by omega) gog (fun s₁ h' ⟨H', I', q⟩ hk => ?_) (fun s₁ gs' H' hb' I' q => ?_) n s5 gs hgo hl hb hgs goes⟩))
  · exact ⟨.bl true, H', back s₁ H' _ I' rfl (fun _ _ e => e) (bare_set I'.bare hb'), rfl, q⟩
  · exact ⟨.bl false, H', back s₁ H' _ I' rfl hk (bare_set I'.bare rfl), rfl, q⟩
end
end GX
namespace GX
open PySem PySem.Spec PyProof.Rows L2 GxR
/-! the walks of all(..), any(..) by an invariant -/
theorem wk_range {d : Bool} {lo : Int} {n : Nat} {g : TG} {tt : TT} {te : TE} {vs : List Nat} {σ : L2.St} {Qe Qd : Hp → Prop} {H0 : Hp} (Pv : Nat → Hp → Prop) (h0 : Pv 0 H0)
    (hs : ∀ i H, i < n → Pv i H → g (.int (lo + i)) (wipe σ vs) H fun σ2 H2 => wipe σ2 vs = wipe σ vs ∧ tt σ2 H2 fun b H3 =>
      if b = true then te σ2 H3 fun y H4 => ∃ c, y = .bl c ∧ if c = d then Qd H4 else Pv (i + 1) H4 else Pv (i + 1) H3) (hd : ∀ H, Pv n H → Qe H) :
    ∃ W : Nat → Nat → Hp → Prop, (∃ m, W 0 m H0) ∧ Wk d (Itr lo n) g tt te vs σ W Qe Qd := by
  refine ⟨fun i m H => m = n - i ∧ i ≤ n ∧ Pv i H, ⟨n, by simp, Nat.zero_le _, h0⟩, ?_⟩
  rintro i m H ⟨rfl, hi, p⟩
  by_cases hlt : i < n
  · refine .inr ⟨hlt, Pv (i + 1), fun H' p' => ⟨n - (i + 1), by omega, rfl, hlt, p'⟩, fun x H' y => ?_⟩
    obtain ⟨rfl, rfl⟩ := y
    exact hs i _ hlt p
  · have e : i = n := by omega
    subst e
    exact .inl ⟨Nat.le_refl _, hd H p⟩
theorem wk_list {d : Bool} {K : PySem.W.Frag} {a : Addr} {xs : List V} {g : TG} {tt : TT} {te : TE} {vs : List Nat} {σ : L2.St} {Qe Qd : Hp → Prop} {H0 : Hp} (Pv : Nat → Hp → Prop) (h0 : Pv 0 H0) (hl : ∀ i H, i ≤ xs.length → Pv i H → SqL K H a xs)
    (hs : ∀ i x H, xs[i]? = some x → Pv i H → g x (wipe σ vs) H fun σ2 H2 => wipe σ2 vs = wipe σ vs ∧ tt σ2 H2 fun b H3 =>
      if b = true then te σ2 H3 fun y H4 => ∃ c, y = .bl c ∧ if c = d then Qd H4 else Pv (i + 1) H4 else Pv (i + 1) H3) (hd : ∀ H, Pv xs.length H → Qe H) :
    ∃ W : Nat → Nat → Hp → Prop, (∃ m, W 0 m H0) ∧ Wk d (Itl K a) g tt te vs σ W Qe Qd := by
  refine ⟨fun i m H => m = xs.length - i ∧ i ≤ xs.length ∧ Pv i H, ⟨xs.length, by simp, Nat.zero_le _, h0⟩, ?_⟩
  rintro i m H ⟨rfl, hi, p⟩
  have q := hl i H hi p
  by_cases hlt : i < xs.length
  · refine .inr ⟨⟨xs, xs[i], q, by simp [hlt]⟩, Pv (i + 1), fun H' p' => ⟨xs.length - (i + 1), by omega, rfl, hlt, p'⟩, fun x H' y => ?_⟩
    obtain ⟨rfl, e⟩ := y
    exact hs i x _ (e xs q) p
  · have e : i = xs.length := by omega
    subst e
    exact .inl ⟨⟨xs, q, Nat.le_refl _⟩, hd H p⟩
end GX
/-! dicts keyed by tuples: del, truth, comprehensions; a dict comprehension whatever its keys are -/
namespace GX
open PySem PySem.Spec PyProof.Rows L2 GxR

section
variable {X : Cx}
theorem ktDrop {H : Hp} {kvs : List (List Key × V)} {xs : List (List Key × Addr × Value)} (k : List Key) (h : KT H kvs xs) : KT H (dropK kvs k) (withoutH xs k) := DX.KT_drop k h
/-- del d[y], keys tuples -/
def sDDelT (td ty : TE) : TS := fun D σ H => td σ H fun x H1 => ty σ H1 fun y H2 => ∃ (a : Addr) (kvs : List (List Key × V)) (k : List Key) (b : Addr), x = .ref a ∧ H2 a = some (.dT kvs) ∧ y = .ref b ∧ H2 b = some (.tup (k.map kV)) ∧ (valV kvs k).isSome = true ∧ D.nx σ (upd H2 a (.dT (dropK kvs k)))
theorem ps_ddelT {o i : Expr} {pos tpos : Pos} {td ty : TE} (hu : X.A.units + 1 < cLine) (ho : PE X o td) (hi : PE X i ty) : PS X (.Delete [.Subscript o i tpos] pos) (sDDelT td ty) := by
  refine ⟨fun pins s σ H D I h => ?_⟩
  refine wpAny_Delete (wpAny_deleteEach_cons (wpAny_delete_Subscript (thn (ho.run pins s σ H _ I h) fun u s1 ⟨x, H1, I1, rx, q1⟩ => thn (hi.run pins s1 σ H1 _ I1 q1) fun iv s2 ⟨y, H2, I2, ry, a, kvs, k, b, ex, e, ey, eb, l, q2⟩ => ?_)))
  subst ex ey
  obtain rfl : u = Value.ref a := rx
  obtain rfl : iv = Value.ref b := ry
  obtain ⟨z, hd, xs, rel, dd⟩ := dt_of I2.hok e
  have hz : xs.length ≤ sizeLine := by rw [← Paired.length rel]; exact z
  have r := rel.val k
  obtain ⟨v0, ev⟩ := Option.isSome_iff_exists.mp l
  obtain ⟨w', hw, _⟩ := RelO.some_of (v := v0) (o := (atKey xs k).map (·.2)) (by rw [← ev]; exact r)
  obtain ⟨p, hp, _⟩ := Option.map_eq_some_iff.mp hw
  refine wpAny_delItem_heap (hsz := hz) (tupleKind_room_in1 hu) (key_of I2.hok eb) hd dd hp fun h' dd' hs => ?_
  obtain ⟨q, es, ep, hq, h2, h3, h4, _, h5⟩ := dd'
  refine wpAny_deleteEach_nil ⟨σ, _, d_write (ob := .dT (dropK kvs k)) I2 (by rw [e]; exact True.intro) hs ⟨q, hq⟩ ⟨Nat.le_trans (dropK_le kvs k) z, hd, _, (ktDrop k rel).keeps fun c ys ec => ?_, q, es, ep, hq, h2, h3, h4, h5⟩, q2⟩
  rw [upd_ne (ne_of ec e (fun z => nomatch z))]
  exact ec
end
section
variable {prog : Program} {w : World} {κ : Type} [DecidableEq κ] {knd : HeapKind prog w κ} {A : Around} {E : Value → Shared → Prop} {s : Shared}
/-- the truth of a dict whose keys stand in the heap -/
theorem truthy_dictH {d : Addr} {xs : List (κ × Addr × Value)} {Q : Bool → Shared → Prop} (hd : (d == sysModules) = false) (hm : s.heap.DictOfH knd d xs) (hfit : (xs.length : Int) < 2 ^ 63)
    (h : Q (!xs.isEmpty) { s with toks := s.toks + 1 + 1 }) : wpAny (model prog w) A (truthy (.ref d)) Q E s := by
  have hne : ((xs.length : Int) != 0) = !xs.isEmpty := by cases xs <;> simp <;> omega
  have len : wpAny (model prog w) A (runValue (.builtin "len" ⟨[.ref d], []⟩)) (fun r s' => r = .int xs.length (s.toks + 1) ∧ Q (!xs.isEmpty) s') E s := by
    refine wpAny_runValue (codeAny_builtin entry_len ?_)
    rw [Around.under_plainId plain_len _]
    exact wpAny_mono (wpAny_len_body_dictH (Q := fun r s' => r = .int xs.length (s.toks + 1) ∧ Q (!xs.isEmpty) s') hd hm hfit ⟨rfl, h⟩) (fun fin s' ⟨r, e, q⟩ => by subst e; exact q) fun _ _ e => e
  have fin : ∀ (r : Value) (s' : Shared), (r = .int xs.length (s.toks + 1) ∧ Q (!xs.isEmpty) s') → wpAny (model prog w) A (match r with | .int n _ => pure (n != 0) | _ => pure true) Q E s' := fun r s' ⟨e, q⟩ => by
    subst e
    exact wpAny_pure (hne ▸ q)
  unfold truthy
  first
    | refine wpAny_bind (wpAny_callSpecial?_none (name := Str.ofString "__bool__") hm.typeIs noBool_dict ?_)
    | refine wpAny_bind (wpAny_pure (wpAny_bind (wpAny_callSpecial?_none (name := Str.ofString "__bool__") hm.typeIs noBool_dict ?_)))
  first
    | refine wpAny_bind (wpAny_specialOf (name := Str.ofString "__len__") hm.typeIs F.slot_dict_len.lookup ?_)
    | refine wpAny_bind (wpAny_pure (wpAny_bind (wpAny_specialOf (name := Str.ofString "__len__") hm.typeIs F.slot_dict_len.lookup ?_)))
  first
    | exact wpAny_bind (wpAny_mono len (fun r s' ⟨e, q⟩ => by subst e; exact wpAny_pure (hne ▸ q)) fun _ _ e => e)
    | exact wpAny_bind (wpAny_pure (wpAny_bind (wpAny_mono len (fun r s' ⟨e, q⟩ => by subst e; exact wpAny_pure (hne ▸ q)) fun _ _ e => e)))
end
section
variable {X : Cx}
def tTruT (ta : TE) : TT := fun σ H Q => ta σ H fun x H1 => ∃ (a : Addr) (kvs : List (List Key × V)), x = .ref a ∧ H1 a = some (.dT kvs) ∧ Q (!kvs.isEmpty) H1
theorem pt_truT {e : Expr} {ta : TE} (ha : PE X e ta) (he : ∀ whole, isTrue e X.env whole = (do let v ← whole; standAt e.pos; holding [v] (truthy v))) : PT X e (tTruT ta) := by
  refine ⟨fun pins s σ H Q I h => ?_⟩
  refine isTrue_plain (thn (ha.run pins s σ H _ I h) fun v s1 ⟨x, H1, I1, r1, a, kvs, ex, e1, q⟩ => ?_) (he _)
  subst ex
  obtain rfl : v = Value.ref a := r1
  obtain ⟨z, hd, xs, rel, dd⟩ := dt_of I1.hok e1
  have hl : kvs.length = xs.length := Paired.length rel
  have h63 := line63
  have ee : xs.isEmpty = kvs.isEmpty := by
    cases kvs with
    | nil => cases xs with
      | nil => rfl
      | cons _ _ => cases hl
    | cons _ _ => cases xs with
      | nil => cases hl
      | cons _ _ => rfl
  exact truthy_dictH hd dd (by omega) ⟨H1, I1.tok _, by rw [ee]; exact q⟩

/-! ### a dict comprehension: o0 the empty dict, put the reading of a store -/
def PutR (put : Addr → V → V → Hp → (Hp → Prop) → Prop) (X : Cx) : Prop := ∀ (pins : List (Addr × Obj)) (s : Shared) (σ : L2.St) (H : Hp) (D : Addr) (y z : V) (u r : Value) (N : Hp → Prop), Inv X pins σ H s → RelV y u → RelV z r → put D y z H N →
  wpAny (model X.prog X.w) X.A (dictSet D u r) (fun _ s' => ∃ H', Inv X pins σ H' s' ∧ N H') (fun _ _ => False) s
def tDg (o0 : Addr → HO) (put : Addr → V → V → Hp → (Hp → Prop) → Prop) (wi : TI) (g : TG) (tt : TT) (tk tv : TE) (vs : List Nat) : TE := fun σ H Q => wi σ H fun J H1 => ∀ D, H1 D = none → ∃ W : Nat → Nat → Hp → Prop, (∃ m, W 0 m (upd H1 D (o0 D))) ∧ ∀ i m H, W i m H →
  (J.stop i H ∧ Q (.ref D) H) ∨ (J.go i H ∧ ∃ Nx : Hp → Prop, (∀ H', Nx H' → ∃ m', m' < m ∧ W (i + 1) m' H') ∧ ∀ x H', J.yld i H x H' → g x (wipe σ vs) H' fun σ2 H2 => wipe σ2 vs = wipe σ vs ∧ tt σ2 H2 fun b H3 =>
    if b = true then tk σ2 H3 fun y H4 => tv σ2 H4 fun z H5 => put D y z H5 Nx else Nx H3)
theorem dg_core {o0 : Addr → HO} {put : Addr → V → V → Hp → (Hp → Prop) → Prop} {pins : List (Addr × Obj)} {s : Shared} {σ : L2.St} {H : Hp} {Q : VK} {kx vx tg iter : Expr} {ifs : List Expr} {scope : Scope} {own : List (Str × Nat)} {pos pos' : Pos} {wi : TI} {g : TG} {tt : TT} {tk tv : TE} {use : Option (Value → Sem Unit)} {Qf : Value → Shared → Prop}
    (he0 : ∀ (H : Hp) (h : Heap), sysModules < h.objs.size → ObjOk X.prog X.w H (h.push { cls := .type "dict", data := .dict #[] }) h.objs.size (o0 h.objs.size))
    (hc : X.calm = true) (hN : X.N.Nodup) (I : Inv X pins σ H s) (hi : PI X tg iter wi) (ok : BlkOk X.N X.env.scope scope own)
    (hg : ∀ (s : Shared) (H : Hp) (C : Addr) (cl : List (Str × Addr)) (fp : List Addr), PG (X.blk s H scope (compEnvC scope cl C X.env) fp) tg g) (ht : ∀ (s : Shared) (H : Hp) (C : Addr) (cl : List (Str × Addr)) (fp : List Addr), PTs (X.blk s H scope (compEnvC scope cl C X.env) fp) ifs tt)
    (hk : ∀ (s : Shared) (H : Hp) (C : Addr) (cl : List (Str × Addr)) (fp : List Addr), PE (X.blk s H scope (compEnvC scope cl C X.env) fp) kx tk)
    (he : ∀ (s : Shared) (H : Hp) (C : Addr) (cl : List (Str × Addr)) (fp : List Addr), PE (X.blk s H scope (compEnvC scope cl C X.env) fp) vx tv)
    (hp : ∀ (s : Shared) (H : Hp) (C : Addr) (cl : List (Str × Addr)) (fp : List Addr), PutR put (X.blk s H scope (compEnvC scope cl C X.env) fp)) (hs : ∀ x, foldedSetIterable iter X.env x = pure x)
    (h : tDg o0 put wi g tt tk tv (own.map (·.2)) σ H Q)
    (hRR : ∀ D C s' m H', Inv X pins σ H' s' → Q (.ref D) H' → s'.heap.Ns C m → FpOk X pins H' C → compPost (model X.prog X.w) X.A X.xe use Qf (.ref D) C (.ok .next) s') :
    wpAny (model X.prog X.w) X.A (comprehension (.DictComp kx vx [⟨tg, iter, ifs, 0⟩] scope pos) scope X.env pos' newDict false (eval iter X.env) use) Qf X.xe s := by
  have hfree : ∀ y ∈ scope.names, y.2 = .free → ∃ c, X.env.cells.lookup y.1 = some c := fun y hy e => (ok.free y hy e).elim (fun k => I.ok.has _ (.inl k)) fun k => I.ok.has _ (.inr k)
  refine wpAny_comprehension_free (use := use) rfl hs (closure_ok hfree) ok.kind (fun y hy e => by rw [ok.uniq y hy, e]) (thn (hi.run pins s σ H _ I h) fun xv s1 hx => thn hx fun itv s2 ⟨it, fp, tn, J, H2, e, I2, T, st2, f2, q⟩ => ?_)
  subst e
  refine wpAny_newObj_type (newEnv_comp ?_)
  obtain ⟨W, ⟨m0, w0⟩, turn⟩ := q s2.heap.objs.size (I2.hok.fresh (Nat.le_refl _))
  have I3 : Inv X pins σ (upd H2 s2.heap.objs.size (o0 s2.heap.objs.size)) { s2 with heap := s2.heap.push { cls := .type "dict", data := .dict #[] } } :=
    I2.laid (t' := s2.toks) (fun b o e => Heap.get?_push_of_some _ e) (Nat.le_refl _) (he0 _ _ I2.big)
  have f3 : ∀ b ∈ fp, FpOk X pins (upd H2 s2.heap.objs.size (o0 s2.heap.objs.size)) b ∧ b < (s2.heap.push { cls := .type "dict", data := .dict #[] }).objs.size := fun b hb => by
    obtain ⟨o, e, _⟩ := T.obj _ _ st2 b hb
    have hlt := Heap.lt_size e
    exact ⟨⟨by rw [upd_ne (Nat.ne_of_lt hlt)]; exact (f2 b hb).1, (f2 b hb).2⟩, by rw [Heap.size_push]; exact Nat.lt_succ_of_lt hlt⟩
  have st3 : tn 0 (s2.heap.push { cls := .type "dict", data := .dict #[] }) := T.keep _ _ _ st2 fun b _ o e => Heap.get?_push_of_some _ e
  generalize s2.heap.objs.size = D at I3 f3 w0 turn ⊢
  generalize hs3 : ({ s2 with heap := s2.heap.push { cls := .type "dict", data := .dict #[] } } : Shared) = s3 at I3 ⊢
  have h3 : s2.heap.push { cls := .type "dict", data := .dict #[] } = s3.heap := by rw [← hs3]
  rw [h3] at f3 st3
  have I4 := block_start I3 ok hN f3
  have pg := hg s3 (upd H2 D (o0 D)) s3.heap.objs.size (cellsFrom (s3.heap.objs.size + 1) scope.names (cloFrom X.env.cells scope.names [])) fp
  have pt := ht s3 (upd H2 D (o0 D)) s3.heap.objs.size (cellsFrom (s3.heap.objs.size + 1) scope.names (cloFrom X.env.cells scope.names [])) fp
  have pk := hk s3 (upd H2 D (o0 D)) s3.heap.objs.size (cellsFrom (s3.heap.objs.size + 1) scope.names (cloFrom X.env.cells scope.names [])) fp
  have pe := he s3 (upd H2 D (o0 D)) s3.heap.objs.size (cellsFrom (s3.heap.objs.size + 1) scope.names (cloFrom X.env.cells scope.names [])) fp
  have pp := hp s3 (upd H2 D (o0 D)) s3.heap.objs.size (cellsFrom (s3.heap.objs.size + 1) scope.names (cloFrom X.env.cells scope.names [])) fp
  show codeAny _ _ (.compStart (.DictComp kx vx [⟨tg, iter, ifs, 0⟩] scope pos) 0 (.ref it) (.ref D) (compEnvC scope (cellsFrom (s3.heap.objs.size + 1) scope.names (cloFrom X.env.cells scope.names [])) s3.heap.objs.size X.env)) (compPost (model X.prog X.w) X.A X.xe use Qf (.ref D) s3.heap.objs.size) { s3 with heap := pushCells (s3.heap.push { cls := .type "dict", data := .dict #[] }) scope.names }
  generalize hce : compEnvC scope (cellsFrom (s3.heap.objs.size + 1) scope.names (cloFrom X.env.cells scope.names [])) s3.heap.objs.size X.env = ce at I4 pg pt pk pe pp ⊢
  have cL : ce.locals = s3.heap.objs.size := by rw [← hce]; rfl
  have nfp : ∀ b ∈ fp, upd H2 D (o0 D) b = none := fun b hb => (f3 b hb).1.1
  generalize upd H2 D (o0 D) = H3 at I3 I4 pg pt pk pe pp w0 nfp f3
  have st4 : tn 0 (pushCells (s3.heap.push { cls := .type "dict", data := .dict #[] }) scope.names) := T.keep _ _ _ st3 fun b _ o e => pushCells_keeps _ _ _ _ (Heap.get?_push_of_some _ e)
  generalize hs4 : ({ s3 with heap := pushCells (s3.heap.push { cls := .type "dict", data := .dict #[] }) scope.names } : Shared) = s4 at I4 ⊢
  have st4 : tn 0 s4.heap := by rw [← hs4]; exact st4
  generalize hY : X.blk s3 H3 scope ce fp = Y at I4 pg pt pk pe pp
  have yx : Y.ex = fp ∧ Y.pn = [] ∧ Y.prog = X.prog ∧ Y.w = X.w ∧ Y.K = X.K ∧ Y.calm = true ∧ Y.A = X.A ∧ Y.env = ce ∧ Y.xe = (fun _ _ => False) ∧ Y.fs = frs X.stack ∧ Y.H_0 = H3 ∧ Y.s_0 = s3 := by
    rw [← hY]
    exact ⟨rfl, rfl, rfl, rfl, rfl, hc, rfl, rfl, rfl, rfl, rfl, rfl⟩
  obtain ⟨y1, y2, y3, y4, y5, y6, y7, y8, y9, y10, y11, y12⟩ := yx
  have T0 := T
  have T : Turn Y.prog Y.w Y.K tg J fp it tn := by rw [y3, y4, y5]; exact T
  have stat : ∀ {σ' : L2.St} {H' : Hp} {s' : Shared}, Inv Y [] σ' H' s' → (∀ b ∈ fp, H' b = none) → ∀ b ∈ fp, FpOk Y [] H' b := fun {σ' H' s'} I' hn b hb =>
    ⟨hn b hb, (I'.ok.exf b (y1 ▸ hb)).1, I'.ok.exfs b (y1 ▸ hb), .inl (y1 ▸ hb), fun x c e => (I'.ok.exf b (y1 ▸ hb)).2 x c e, fun p hp => by rw [y2] at hp; cases hp⟩
  have loop : codeAny (model X.prog X.w) X.A (.compLoop (.DictComp kx vx [⟨tg, iter, ifs, 0⟩] scope pos) 0 (.ref it) (.ref D) ce) (compPost (model X.prog X.w) X.A X.xe use Qf (.ref D) s3.heap.objs.size) s4 := by
    refine compLoop_anyD (fun n s' => ∃ i H', Inv Y [] (wipe σ (own.map (·.2))) H' s' ∧ tn i s'.heap ∧ (∀ b ∈ fp, H' b = none) ∧ W i n H') ?_ m0 ⟨0, H3, I4, st4, nfp, w0⟩
    rw [← y3, ← y4, ← y7, ← y8]
    rintro n s5 ⟨i, H5, I5, st5, n5, w5⟩
    rcases turn i n H5 w5 with ⟨stop, qq⟩ | ⟨go, Nx, hNx, step⟩
    · refine thnF (T.done Y rfl rfl rfl y6 i [] s5 _ H5 (fun _ _ => False) I5 (stat I5 n5) st5 stop) fun r s6 ⟨hr, I6⟩ => ?_
      subst hr
      have b6 := I6.base
      rw [y10, y1, y11, y12] at b6
      have o6 := I6.os
      rw [y12] at o6
      have k6 := I6.hok
      rw [y3, y4] at k6
      have I7 : Inv X pins σ H5 s6 := I3.call' (ch := fp) o6 b6 k6 I6.bare fun b hb => ⟨(f3 b hb).1.2.2.2.1, (f3 b hb).1.2.1, (f3 b hb).1.2.2.2.2.1, (f3 b hb).1.2.2.2.2.2⟩
      have nC : H5 s3.heap.objs.size = none := by
        have z := I6.free
        rw [y8, cL] at z
        exact z
      obtain ⟨m, hn, _⟩ := I6.loc
      rw [y8, cL] at hn
      show compPost _ _ _ _ _ _ _ _ _
      rw [y3, y4, y7]
      exact hRR D s3.heap.objs.size s6 m H5 I7 qq hn (I3.fpOk (Nat.le_refl _) nC)
    · refine thnF (T.item Y rfl rfl rfl y6 i [] s5 _ H5 (fun _ _ => False) I5 (stat I5 n5) st5 go) fun r s6 ⟨u, hr, h6⟩ => ?_
      subst hr
      refine thnF h6 fun _ s7 ⟨x, H7, I7, r7, yy, st7, n7⟩ => ?_
      have I7' := I7.pinned (stat I7 n7) (T.obj _ _ st7)
      have a1 := pg.run _ s7 _ H7 x u _ I7' r7 (step x H7 yy)
      rw [y9] at a1
      refine thnF a1 fun _ s8 ⟨σ8, H8, I8, hw8, q8⟩ => ?_
      have a2 := pt.run _ s8 σ8 H8 _ I8 q8
      rw [y9] at a2
      refine thnF a2 fun b s9 ⟨H9, I9, q9⟩ => ?_
      have fin : ∀ {s' : Shared} {H' : Hp}, Inv Y ([] ++ pinsAt fp s7.heap) σ8 H' s' → Nx H' → ∃ m, m < n ∧ ∃ i H', Inv Y [] (wipe σ (own.map (·.2))) H' s' ∧ tn i s'.heap ∧ (∀ b ∈ fp, H' b = none) ∧ W i m H' := fun {s' H'} I' nx => by
        obtain ⟨m', hm, w'⟩ := hNx H' nx
        have pin' : ∀ b ∈ fp, ∀ o, s7.heap.get? b = some o → s'.heap.get? b = some o ∧ H' b = none := fun b hb o e =>
          let z := I'.pin (b, o) (List.mem_append_right _ (List.mem_append_right _ (mem_pinsAt hb e)))
          ⟨z.1, z.2.1⟩
        refine ⟨m', hm, i + 1, H', (I'.unpinned (pins := [])).weak (by rw [← wipe_length σ8 (own.map (·.2)), hw8]) (fun j v e => ?_), T.keep _ _ _ st7 fun b hb o e => (pin' b hb o e).1, fun b hb => ?_, w'⟩
        · rw [← hw8] at e
          exact (wipe_some e).1
        · obtain ⟨o, e, _⟩ := T.obj _ _ st7 b hb
          exact (pin' b hb o e).2
      cases b with
      | false =>
        simp only [Bool.false_eq_true, if_false] at q9 ⊢
        exact fin I9 q9
      | true =>
        simp only [if_true] at q9 ⊢
        have a3 := pk.run _ s9 σ8 H9 _ I9 q9
        rw [y9] at a3
        refine thnF a3 fun z s10 ⟨yk, H10, I10, r10, q10⟩ => ?_
        have a4 := pe.run _ s10 σ8 H10 _ I10 q10
        rw [y9] at a4
        refine thnF a4 fun z2 s11 ⟨yv, H11, I11, r11, q11⟩ => ?_
        exact thnF (pp _ s11 σ8 H11 D yk yv z z2 Nx I11 r10 r11 q11) fun _ s12 ⟨H12, I12, nx⟩ => fin I12 nx
  exact codeAny_compStart_dict loop (T0.self X.A 0 _ _ _ st4 loop)
theorem pe_dg {o0 : Addr → HO} {put : Addr → V → V → Hp → (Hp → Prop) → Prop} {kx vx tg iter : Expr} {ifs : List Expr} {scope : Scope} {own : List (Str × Nat)} {pos : Pos} {wi : TI} {g : TG} {tt : TT} {tk tv : TE}
    (he0 : ∀ (H : Hp) (h : Heap), sysModules < h.objs.size → ObjOk X.prog X.w H (h.push { cls := .type "dict", data := .dict #[] }) h.objs.size (o0 h.objs.size)) (hc : X.calm = true) (hN : X.N.Nodup) (hi : PI X tg iter wi) (ok : BlkOk X.N X.env.scope scope own)
    (hg : ∀ (s : Shared) (H : Hp) (C : Addr) (cl : List (Str × Addr)) (fp : List Addr), PG (X.blk s H scope (compEnvC scope cl C X.env) fp) tg g) (ht : ∀ (s : Shared) (H : Hp) (C : Addr) (cl : List (Str × Addr)) (fp : List Addr), PTs (X.blk s H scope (compEnvC scope cl C X.env) fp) ifs tt)
    (hk : ∀ (s : Shared) (H : Hp) (C : Addr) (cl : List (Str × Addr)) (fp : List Addr), PE (X.blk s H scope (compEnvC scope cl C X.env) fp) kx tk)
    (he : ∀ (s : Shared) (H : Hp) (C : Addr) (cl : List (Str × Addr)) (fp : List Addr), PE (X.blk s H scope (compEnvC scope cl C X.env) fp) vx tv)
    (hp : ∀ (s : Shared) (H : Hp) (C : Addr) (cl : List (Str × Addr)) (fp : List Addr), PutR put (X.blk s H scope (compEnvC scope cl C X.env) fp)) (hs : ∀ x, foldedSetIterable iter X.env x = pure x := by intro _; rfl) :
    PE X (.DictComp kx vx [⟨tg, iter, ifs, 0⟩] scope pos) (tDg o0 put wi g tt tk tv (own.map (·.2))) := by
  refine ⟨fun pins s σ H Q I h => ?_⟩
  rw [arm_eval_DictComp]
  refine dg_core he0 hc hN I hi ok hg ht hk he hp hs h fun D C s' m H' I' q hn ⟨f0, f1, f2, f3, f4, f5⟩ => ⟨m, hn, fun h'' sb => ?_⟩
  exact ⟨.ref D, H', I'.turned (t' := s'.toks) (fun b o hb e => (sb.2 b hb).trans e) f0 f1 f3 f4 f5, rfl, q⟩
theorem sw_dict {kx vx : Expr} {gs : List Comprehension} {scope : Scope} {pos py : Pos} {y : Str} {l : Nat} {env : Env} (hk : env.scope.kind = .function) (hy : env.scope.names.lookup y = some .local) (hl : (py.line == pos.line) = true)
    (ha : (scope.names.any fun (n, k) => n == y && (k == .local || k == .cell)) = false) : swapsWith (.DictComp kx vx gs scope pos) (some (.Name y py)) l env = pure true := by
  have h1 : env.kindOf y = some .local := hy
  have h2 : env.blockKind = .function := by unfold Env.blockKind; rw [hk]; rfl
  unfold swapsWith
  simp only [h2, h1, ha, Expr.pos, hl]
  rfl
/-- name = {..} on one line, the name a local -/
theorem ps_setDg {o0 : Addr → HO} {put : Addr → V → V → Hp → (Hp → Prop) → Prop} {i : Nat} {y : Str} {py : Pos} {kx vx tg iter : Expr} {ifs : List Expr} {scope : Scope} {own : List (Str × Nat)} {pos spos : Pos} {wi : TI} {g : TG} {tt : TT} {tk tv : TE}
    (he0 : ∀ (H : Hp) (h : Heap), sysModules < h.objs.size → ObjOk X.prog X.w H (h.push { cls := .type "dict", data := .dict #[] }) h.objs.size (o0 h.objs.size)) (hc : X.calm = true) (hN : X.N.Nodup) (hy : X.N[i]? = some y) (hyl : X.env.scope.names.lookup y = some .local)
    (hsw : swapsWith (.DictComp kx vx [⟨tg, iter, ifs, 0⟩] scope pos) (some (.Name y py)) spos.line X.env = pure true) (hi : PI X tg iter wi) (ok : BlkOk X.N X.env.scope scope own)
    (hg : ∀ (s : Shared) (H : Hp) (C : Addr) (cl : List (Str × Addr)) (fp : List Addr), PG (X.blk s H scope (compEnvC scope cl C X.env) fp) tg g) (ht : ∀ (s : Shared) (H : Hp) (C : Addr) (cl : List (Str × Addr)) (fp : List Addr), PTs (X.blk s H scope (compEnvC scope cl C X.env) fp) ifs tt)
    (hk : ∀ (s : Shared) (H : Hp) (C : Addr) (cl : List (Str × Addr)) (fp : List Addr), PE (X.blk s H scope (compEnvC scope cl C X.env) fp) kx tk)
    (he : ∀ (s : Shared) (H : Hp) (C : Addr) (cl : List (Str × Addr)) (fp : List Addr), PE (X.blk s H scope (compEnvC scope cl C X.env) fp) vx tv)
    (hp : ∀ (s : Shared) (H : Hp) (C : Addr) (cl : List (Str × Addr)) (fp : List Addr), PutR put (X.blk s H scope (compEnvC scope cl C X.env) fp)) (hs : ∀ x, foldedSetIterable iter X.env x = pure x := by intro _; rfl) :
    PS X (.Assign [.Name y py] (.DictComp kx vx [⟨tg, iter, ifs, 0⟩] scope pos) spos) (tAsg (tDg o0 put wi g tt tk tv (own.map (·.2))) (gName i)) := by
  refine ⟨fun pins s σ H D I h => ?_⟩
  rw [exec_Assign_Name_used _ _ _ _ hsw]
  refine wpAny_bind (wpAny_standAt (wpAny_bind ?_))
  show wpAny _ X.A (do let _ ← comprehension (.DictComp kx vx [⟨tg, iter, ifs, 0⟩] scope pos) scope X.env (firstIterPos [⟨tg, iter, ifs, 0⟩] pos) newDict false (eval iter X.env) (some (assign (.Name y py) X.env))) _ _ s
  have h : tDg o0 put wi g tt tk tv (own.map (·.2)) σ H (fun x H1 => gName i x σ H1 D.nx) := h
  refine wpAny_bind (thn (dg_core (Qf := fun _ s' => SP X pins D .next s') he0 hc hN I hi ok hg ht hk he hp hs h fun L C s' m H' I' q hn ⟨f0, f1, f2, f3, f4, f5⟩ => ?_) fun _ s' hq => wpAny_pure (wpAny_pure hq))
  show wpAny _ _ (assign (.Name y py) X.env (.ref L)) _ _ _
  refine wpAny_assign_Name (store_ok2 (v := V.ref L) I' hN hy (.inl hyl) rfl (fun s2 I2 ⟨a, sb, ha⟩ => ?_) (.inr hyl))
  have haC : C ≠ a := ha.elim (fun z => by rw [z]; exact f1) fun z e => f4 y a z e.symm
  exact ⟨m, hn.sameBut sb haC, fun h3 sb3 => ⟨_, H', I2.turned (t' := s2.toks) (fun b o hb e => (sb3.2 b hb).trans e) f0 f1 f3 f4 f5, q⟩⟩
/-- keys tuples of ints and texts -/
def putT (D : Addr) (y z : V) (H : Hp) (N : Hp → Prop) : Prop := ∃ (kvs : List (List Key × V)) (k : List Key) (b : Addr), y = .ref b ∧ H b = some (.tup (k.map kV)) ∧ H D = some (.dT kvs) ∧ kvs.length < sizeLine ∧ N (upd H D (.dT (putK kvs k z)))
theorem putR_T {Y : Cx} (hu : Y.A.units < cLine) : PutR putT Y := by
  intro pins s σ H D y z u r N I ry rz ⟨kvs, k, b, ey, eb, e, l, n⟩
  subst ey
  obtain rfl : u = Value.ref b := ry
  obtain ⟨zz, hd, xs, rel, dd⟩ := dt_of I.hok e
  have hz : xs.length ≤ sizeLine := by rw [← Paired.length rel]; exact zz
  have hl : (putK kvs k z).length ≤ sizeLine := by have := length_putK kvs k z; omega
  refine wpAny_dictSet_heap (hsz := hz) hu (key_of I.hok eb) dd fun h' dd' hs => ⟨_, ?_, n⟩
  obtain ⟨q, es, ep, hq, h2, h3, h4, _, h5⟩ := dd'
  refine d_write I (by rw [e]; exact True.intro) hs ⟨q, hq⟩ ⟨hl, hd, _, (rel.put k eb rz).keeps fun c ys ec => ?_, q, es, ep, hq, h2, h3, h4, h5⟩
  rw [upd_ne (ne_of ec e (fun z => nomatch z))]
  exact ec
end
end GX
/-! repr in a law's body: a def that is called by the caller alone, and the law's end for it -/
namespace GX
open PySem PySem.Spec PyProof.Rows L2 GxR
/-- repr(x), x plain data of lists and tuples -/
def rRepr (K : PySem.W.Frag) : List V → Hp → VK → Prop := fun xs H Q => ∃ (p : Addr) (d : PyData), xs = [.ref p] ∧ Dp K H (.ref p) d ∧ d.showable = true ∧ d.hasDict = false ∧ d.depth ≤ 60 ∧ d.shown.length ≤ sizeLine ∧ Q (.str d.shown) H
theorem cr_repr {X : Cx} (hg : X.A.guards = some []) (hu : X.A.units + 64 < cLine) : CallR X (.builtin "repr") (rRepr X.K) := by
  intro pins s σ H xs us Q I r ⟨p, d, ex, hd, h1, h2, h3, h4, q⟩
  subst ex
  obtain ⟨u, rfl, rx⟩ := vals1 r
  obtain ⟨as, rd⟩ := Dp.reads I d (.ref p) u hd rx
  obtain rfl : u = Value.ref p := rx
  exact repr_of_reads' (hsz := h4) rd h1 (fun z => by rw [h2] at z; cases z) hg (by omega) (fun _ _ e => e) fun h' u tk hk => ⟨.str d.shown, H, I.kept (t' := tk) hk, ⟨u, rfl⟩, q⟩
/-- what a def does when the caller calls it -/
structure FnC (P : Program) (w : World) (K : PySem.W.Frag) (mg : Str → Option Value) (base : Heap) (f : Addr) (fd : FuncData) (ps : List Str) (sp : Sp) : Prop where
  run : ∀ (s : Shared) (H : Hp) (args : Args) (us : List Value) (vs : List V) (Q : VK) (E : XK), Env0 P w K mg base callerA [] s H → BindsTo s fd args (ps.zip us) → Vals vs us → sp vs H Q E →
    codeAny (model P w) callerA (.call (.ref f) args) (CR CX0 [] P w H s Q E) s
theorem fn_C {P : Program} {w : World} {K : PySem.W.Frag} {mg : Str → Option Value} {base : Heap} {k : Nat} {f : Addr} {name qual : Str} {params : Arguments} {body : List Stmt} {scope : Scope} {dV kV doc pm cdv ct oc : Value} {an od : Option Addr}
    {osl : Array (Option Value)} {N ps : List Str} {sp : Sp} (hk : Room (k + 1) callerA) (lk : K.lookup f = some ⟨oc, od, .func (PySem.W.fnOf name qual params body scope dV kV doc pm an cdv ct), osl⟩) (hcd : PySem.W.codeIn K cdv qual = true) (S : FnScope N ps scope)
    (len : ∀ vs H Q E, sp vs H Q E → vs.length = ps.length)
    (hbody : ∀ (A : Around) (outer : List Env) (s : Shared) (H : Hp) (vs : List V) (Q : VK) (E : XK), A.guards = some [] → Room k (A.deeper (envOfC qual scope s.heap.objs.size f cdv)) → sp vs H Q E →
      ∃ t, PSs (cxOf CX0 P w K mg base N qual scope f cdv A outer s H E).nox body t ∧ t { nx := fun _ H' => Q .non H', rt := Q } (start N vs) H) :
    FnC P w K mg base f (PySem.W.fnOf name qual params body scope dV kV doc pm an cdv ct) ps sp where
  run := fun s H args us vs Q E e0 hb r hsp => by
    have bk := fun b o e => (e0.bs b o e).1
    have KX : K.In s.heap := e0.mod.kin.keeps bk
    obtain ⟨t, ht, hq⟩ := hbody callerA [] s H vs Q E rfl (hk.deeper _) hsp
    refine codeAny_call_function hk.depth (KX _ _ lk) rfl S.co S.gen rfl (PySem.W.codeRec_of KX hcd) (hb _ _ _ _ (wpAny_newFunctionEnv_cells S.kind (fun ⟨n, v⟩ hy => ?_) fun env he s1 x => ?_))
    · exact (S.par n (List.of_mem_zip hy).1).imp id fun q => ⟨q, PySem.W.cellsFrom_some _ _ _ (.inl q)⟩
    · subst he
      refine ⟨(e0.mod.nolimit.keeps bk).keeps x.toInCall.keep, codeAny_func (wpAny_mono (ht.nox.run [] s1 (start N vs) H _ (inv_start S hk.hd e0 (len _ _ _ _ hsp) r x) hq) (fun fl s' hs => ?_) fun e s' hs => hs)⟩
      cases fl with
      | ret u => exact let ⟨v, σ', H', J, rv, q⟩ := hs; ⟨v, H', J.os, J.bare, J.base, J.hok, rv, q⟩
      | next => exact let ⟨σ', H', J, q⟩ := hs; ⟨.non, H', J.os, J.bare, J.base, J.hok, rfl, q⟩
      | brk => exact let ⟨_, _, _, q⟩ := hs; q.elim
      | cont => exact let ⟨_, _, _, q⟩ := hs; q.elim
end GX
/-! dicts keyed by nested tuples of ints and texts: the object (dNO), its lookups, `in`, d[k], d[k] = v -/
namespace GX
open PySem PySem.Spec PyProof.Rows L2 GxR
mutual
/-- data of ints, texts and tuples of such -/
def kd : PyData → Bool
  | .int _ => true
  | .str _ => true
  | .tuple xs => kdAll xs
  | _ => false
def kdAll : List PyData → Bool
  | [] => true
  | x :: xs => kd x && kdAll xs
end
mutual
def keyN : PyData → NestedKey
  | .int i => .num i
  | .str x => .text x
  | .tuple xs => .tup (keyNs xs)
  | _ => .none
def keyNs : List PyData → List NestedKey
  | [] => []
  | x :: xs => keyN x :: keyNs xs
end
mutual
theorem keyN_inj : ∀ (d e : PyData), kd d = true → kd e = true → keyN d = keyN e → d = e
  | .int i, e, _, he, h => by
    cases e with
    | int j =>
      simp only [keyN, NestedKey.num.injEq] at h
      rw [h]
    | str y => simp [keyN] at h
    | tuple ys => simp [keyN] at h
    | _ => simp [kd] at he
  | .str x, e, _, he, h => by
    cases e with
    | int j => simp [keyN] at h
    | str y =>
      simp only [keyN, NestedKey.text.injEq] at h
      rw [h]
    | tuple ys => simp [keyN] at h
    | _ => simp [kd] at he
  | .tuple xs, e, hd, he, h => by
    cases e with
    | int j => simp [keyN] at h
    | str y => simp [keyN] at h
    | tuple ys =>
      simp only [keyN, NestedKey.tup.injEq] at h
      rw [kd] at hd he
      rw [keyNs_inj xs ys hd he h]
    | _ => simp [kd] at he
  | .none, _, hd, _, _ => by simp [kd] at hd
  | .bool _, _, hd, _, _ => by simp [kd] at hd
  | .list _, _, hd, _, _ => by simp [kd] at hd
  | .dict _, _, hd, _, _ => by simp [kd] at hd
theorem keyNs_inj : ∀ (xs ys : List PyData), kdAll xs = true → kdAll ys = true → keyNs xs = keyNs ys → xs = ys
  | [], [], _, _, _ => rfl
  | [], y :: ys, _, _, h => by simp [keyNs] at h
  | x :: xs, [], _, _, h => by simp [keyNs] at h
  | x :: xs, y :: ys, hx, hy, h => by
    rw [kdAll, Bool.and_eq_true] at hx hy
    rw [keyNs, keyNs] at h
    rw [keyN_inj x y hx.1 hy.1 (List.cons.inj h).1, keyNs_inj xs ys hx.2 hy.2 (List.cons.inj h).2]
end
mutual
theorem keyN_depth : ∀ d : PyData, kd d = true → (keyN d).depth = d.depth
  | .int _, _ => by rw [keyN, NestedKey.depth, PyData.depth]
  | .str _, _ => by rw [keyN, NestedKey.depth, PyData.depth]
  | .tuple xs, h => by
    rw [kd] at h
    rw [keyN, NestedKey.depth, PyData.depth, keyNs_depth xs h]
  | .none, h => by simp [kd] at h
  | .bool _, h => by simp [kd] at h
  | .list _, h => by simp [kd] at h
  | .dict _, h => by simp [kd] at h
theorem keyNs_depth : ∀ xs : List PyData, kdAll xs = true → NestedKey.depthAll (keyNs xs) = PyData.depthAll xs
  | [], _ => by rw [keyNs, NestedKey.depthAll, PyData.depthAll]
  | x :: xs, h => by
    rw [kdAll, Bool.and_eq_true] at h
    rw [keyNs, NestedKey.depthAll, PyData.depthAll, keyN_depth x h.1, keyNs_depth xs h.2]
end
section
variable {X : Cx} {pins : List (Addr × Obj)} {σ : L2.St} {H : Hp} {s : Shared}
mutual
theorem dp_nested (I : Inv X pins σ H s) : ∀ (d : PyData) (v : V) (u : Value), Dp X.K H v d → kd d = true → RelV v u → NestedIs s.heap (keyN d) u
  | .int i, _, _, h, _, r => by
    cases h
    obtain ⟨t, rfl⟩ := r
    rw [keyN]
    exact .int i t
  | .str x, _, _, h, _, r => by
    cases h
    obtain ⟨t, rfl⟩ := r
    rw [keyN]
    exact .text x t
  | .tuple ds, _, _, h, k, r => by
    cases h with
    | tup hs ha =>
      cases r
      obtain ⟨its, rv, ⟨o, ho, hc, n, hd⟩, _⟩ := I.tuple hs
      rw [kd] at k
      rw [keyN]
      exact .tup ho hc hd (dp_nestedAll I ds _ its ha k rv)
  | .none, _, _, _, k, _ => by simp [kd] at k
  | .bool _, _, _, _, k, _ => by simp [kd] at k
  | .list _, _, _, _, k, _ => by simp [kd] at k
  | .dict _, _, _, _, k, _ => by simp [kd] at k
theorem dp_nestedAll (I : Inv X pins σ H s) : ∀ (ds : List PyData) (vs : List V) (us : List Value), DpAll X.K H vs ds → kdAll ds = true → Vals vs us → NestedAll s.heap (keyNs ds) us
  | [], _, _, h, _, r => by
    cases h
    cases r
    rw [keyNs]
    exact .nil
  | d :: ds, _, _, h, k, r => by
    cases h with
    | cons h1 h2 =>
      cases r with
      | cons r1 r2 =>
        rw [kdAll, Bool.and_eq_true] at k
        rw [keyNs]
        exact .cons (dp_nested I d _ _ h1 k.1 r1) (dp_nestedAll I ds _ _ h2 k.2 r2)
end
end
/-- a kind of keys: how they are data -/
structure KT (κ : Type) where
  enc : κ → PyData
  kd : ∀ k, kd (enc k) = true
  inj : ∀ {a b}, enc a = enc b → a = b
  dp : ∀ k, (enc k).depth ≤ 8
section
variable {κ : Type} [DecidableEq κ] (T : KT κ)
theorem KT.eqN {T : KT κ} {a b : κ} : keyN (T.enc a) = keyN (T.enc b) ↔ a = b := ⟨fun h => T.inj (keyN_inj _ _ (T.kd a) (T.kd b) h), fun h => by rw [h]⟩
/-- the entries with the values that stand there -/
def rowsN (es : List (κ × Addr × V)) (us : List Value) : List (NestedKey × Addr × Value) := (es.zip us).map fun p => (keyN (T.enc p.1.1), p.1.2.1, p.2)
def DN0 (P : Program) (w : World) (h : Heap) (a : Addr) (es : List (κ × Addr × V)) : Prop :=
  (a == sysModules) = false ∧ es.length ≤ sizeLine ∧ (es.map (·.1)).Nodup ∧ ∃ o ds ep us, h.get? a = some o ∧ o.ExactDict ∧ o.data = .dict ds ep ∧ Vals (es.map (·.2.2)) us ∧ ds.toList = (rowsN T es us).map (entryOfKey (nestedKind P w))
def dNO (P : Program) (w : World) (a : Addr) (es : List (κ × Addr × V)) : HO := .ext fun h => DN0 T P w h a es
theorem dNO_ok {P : Program} {w : World} {H : Hp} {h : Heap} {a : Addr} {es : List (κ × Addr × V)} (R : DN0 T P w h a es) : ObjOk P w H h a (dNO T P w a es) := by
  have ⟨_, _, _, o, ds, ep, us, ho, _⟩ := R
  refine ⟨R, ⟨o, ho⟩, fun h1 h2 p k => ?_⟩
  obtain ⟨z, l, n, o', ds', ep', us', ho', r'⟩ := p
  exact ⟨z, l, n, o', ds', ep', us', k o' ho', r'⟩
variable {T}
theorem rows_find {k : κ} : ∀ {es : List (κ × Addr × V)} {us : List Value}, Vals (es.map (·.2.2)) us → (atKey (rowsN T es us) (keyN (T.enc k)) = none ∧ (es.find? fun e => decide (e.1 = k)) = none) ∨ ∃ e u, (es.find? fun e => decide (e.1 = k)) = some e ∧ atKey (rowsN T es us) (keyN (T.enc k)) = some (e.2.1, u) ∧ RelV e.2.2 u
  | [], _, .nil => .inl ⟨rfl, rfl⟩
  | e :: es, _, .cons r t => by
    by_cases h : e.1 = k
    · refine .inr ⟨e, _, ?_, ?_, r⟩
      · simp [List.find?_cons, h]
      · unfold atKey rowsN
        rw [List.zip_cons_cons, List.map_cons]
        simp [List.find?_cons, h]
    · have hn : ¬ keyN (T.enc e.1) = keyN (T.enc k) := fun z => h (KT.eqN.mp z)
      have e1 : ((e :: es).find? fun e => decide (e.1 = k)) = es.find? fun e => decide (e.1 = k) := by simp [List.find?_cons, h]
      have e2 : ∀ u us, atKey (rowsN T (e :: es) (u :: us)) (keyN (T.enc k)) = atKey (rowsN T es us) (keyN (T.enc k)) := fun u us => by
        unfold atKey rowsN
        rw [List.zip_cons_cons, List.map_cons]
        simp [List.find?_cons, hn]
      rw [e1, e2]
      exact rows_find t
theorem rows_nodup {es : List (κ × Addr × V)} {us : List Value} (h : Vals (es.map (·.2.2)) us) (n : (es.map (·.1)).Nodup) : ((rowsN T es us).map (·.1)).Nodup := by
  have l : us.length = es.length := by rw [← h.length, List.length_map]
  have e : (rowsN T es us).map (·.1) = (es.map (·.1)).map fun k => keyN (T.enc k) := by
    unfold rowsN
    rw [List.map_map, List.map_map]
    have : es = (es.zip us).map Prod.fst := (List.map_fst_zip (by omega)).symm
    conv => rhs; rw [this]
    rw [List.map_map]
    rfl
  rw [e]
  exact List.Pairwise.map _ (fun a b ne z => ne (KT.eqN.mp z)) n
end
section
variable {κ : Type} [DecidableEq κ] {T : KT κ} {X : Cx} {pins : List (Addr × Obj)} {σ : L2.St} {H : Hp} {s : Shared}
/-- the keys of the entries stand in the heap -/
def KeysAt (T : KT κ) (K : PySem.W.Frag) (H : Hp) (es : List (κ × Addr × V)) : Prop := ∀ e ∈ es, Dp K H (.ref e.2.1) (T.enc e.1)
theorem dn0_of {a : Addr} {es : List (κ × Addr × V)} (I : Inv X pins σ H s) (ha : Rd H a (dNO T X.prog X.w a es)) : DN0 T X.prog X.w s.heap a es := by
  rcases ha with ha | ⟨o, ha⟩
  · exact (I.hok a _ ha).1
  · exact (I.hok a _ ha).2.1
theorem dict_of {a : Addr} {es : List (κ × Addr × V)} (I : Inv X pins σ H s) (ha : Rd H a (dNO T X.prog X.w a es)) (hk : KeysAt T X.K H es) :
    (a == sysModules) = false ∧ es.length ≤ sizeLine ∧ ∃ us, Vals (es.map (·.2.2)) us ∧ s.heap.DictOfH (nestedKind X.prog X.w) a (rowsN T es us) := by
  obtain ⟨z, l, n, o, ds, ep, us, ho, hx, hd, hv, hr⟩ := dn0_of I ha
  refine ⟨z, l, us, hv, o, ds, ep, ho, hx, hd, hr, fun x hxm => ?_, rows_nodup hv n⟩
  obtain ⟨p, hp, rfl⟩ := List.mem_map.mp hxm
  have he : p.1 ∈ es := (List.of_mem_zip hp).1
  exact ⟨dp_nested I _ _ _ (hk _ he) (T.kd _) rfl, by rw [keyN_depth _ (T.kd _)]; exact T.dp _⟩
theorem key_of {v : V} {k : κ} {u : Value} (I : Inv X pins σ H s) (h : Dp X.K H v (T.enc k)) (r : RelV v u) (b : Addr) (e : u = .ref b) : (nestedKind X.prog X.w).is s.heap (keyN (T.enc k)) b := by
  subst e
  exact ⟨dp_nested I _ _ _ h (T.kd _) r, by rw [keyN_depth _ (T.kd _)]; exact T.dp _⟩
/-- k in d -/
def rInN (T : KT κ) (P : Program) (w : World) (K : PySem.W.Frag) : R2 := fun x y H Q => ∃ (a b : Addr) (es : List (κ × Addr × V)) (k : κ), y = .ref a ∧ x = .ref b ∧ Rd H a (dNO T P w a es) ∧ KeysAt T K H es ∧ Dp K H (.ref b) (T.enc k) ∧ Q (.bl (es.find? fun e => decide (e.1 = k)).isSome) H
theorem op_inN (hu : X.A.units + 64 < cLine) : OpR X (compareOp .In) (rInN T X.prog X.w X.K) := fun pins s σ H x y v u Q I rx ry h => by
  obtain ⟨a, b, es, k, rfl, rfl, ha, hk, hb, q⟩ := h
  cases rx
  cases ry
  obtain ⟨z, l, us, hv, hm⟩ := dict_of I ha hk
  refine wpAny_in_heap (knd := nestedKind X.prog X.w) (by show X.A.units + 1 + 8 < cLine; omega) (key_of I hb rfl b rfl) z hm ?_
  refine ⟨.bl (es.find? fun e => decide (e.1 = k)).isSome, H, I.tok _, ?_, q⟩
  rcases rows_find (T := T) (k := k) hv with ⟨e1, e2⟩ | ⟨e, u, e1, e2, _⟩
  · rw [e1, e2]
    rfl
  · rw [e1, e2]
    rfl
/-- k not in d -/
def rNotInN (T : KT κ) (P : Program) (w : World) (K : PySem.W.Frag) : R2 := fun x y H Q => ∃ (a b : Addr) (es : List (κ × Addr × V)) (k : κ), y = .ref a ∧ x = .ref b ∧ Rd H a (dNO T P w a es) ∧ KeysAt T K H es ∧ Dp K H (.ref b) (T.enc k) ∧ Q (.bl (!(es.find? fun e => decide (e.1 = k)).isSome)) H
theorem op_notInN (hu : X.A.units + 64 < cLine) : OpR X (compareOp .NotIn) (rNotInN T X.prog X.w X.K) := fun pins s σ H x y v u Q I rx ry h => by
  obtain ⟨a, b, es, k, rfl, rfl, ha, hk, hb, q⟩ := h
  cases rx
  cases ry
  obtain ⟨z, l, us, hv, hm⟩ := dict_of I ha hk
  refine wpAny_notIn_heap (knd := nestedKind X.prog X.w) (by show X.A.units + 1 + 8 < cLine; omega) (key_of I hb rfl b rfl) z hm ?_
  refine ⟨.bl (!(es.find? fun e => decide (e.1 = k)).isSome), H, I.tok _, ?_, q⟩
  rcases rows_find (T := T) (k := k) hv with ⟨e1, e2⟩ | ⟨e, u, e1, e2, _⟩
  · rw [e1, e2]
    rfl
  · rw [e1, e2]
    rfl
/-- d[k], k there -/
def rIxN (T : KT κ) (P : Program) (w : World) (K : PySem.W.Frag) : R2 := fun x y H Q => ∃ (a b : Addr) (es : List (κ × Addr × V)) (k : κ) (e : κ × Addr × V), x = .ref a ∧ y = .ref b ∧ Rd H a (dNO T P w a es) ∧ KeysAt T K H es ∧ Dp K H (.ref b) (T.enc k) ∧ (es.find? fun e => decide (e.1 = k)) = some e ∧ Q e.2.2 H
theorem ix_N (hu : X.A.units + 64 < cLine) : IxR X (rIxN T X.prog X.w X.K) := by
  intro value slice pins s σ H x y v u Q I rx ry h hs
  obtain ⟨a, b, es, k, e, rfl, rfl, ha, hk, hb, he, q⟩ := h
  cases rx
  cases ry
  obtain ⟨z, l, us, hv, hm⟩ := dict_of I ha hk
  rcases rows_find (T := T) (k := k) hv with ⟨_, e2⟩ | ⟨e', u, e1, e2, r⟩
  · rw [he] at e2
    cases e2
  · rw [he] at e1
    cases e1
    exact subscriptTail_builtinR (x := u) hm.typeIs slot_dict_getitem.lookup (wpAny_getItem_heap (Q := fun r s' => r = u ∧ EP X pins σ Q r s') (knd := nestedKind X.prog X.w) (by show X.A.units + 1 + 8 < cLine; omega) (key_of I hb rfl b rfl) hm e2 ⟨rfl, e.2.2, H, I.tok _, r, q⟩) hs
/-- d[k] = v -/
def dSt (es : List (κ × Addr × V)) (k : κ) (b : Addr) (v : V) : List (κ × Addr × V) := if (es.find? fun e => decide (e.1 = k)).isSome = true then es.map fun e => if e.1 = k then (e.1, e.2.1, v) else e else es ++ [(k, b, v)]
theorem rows_app {es fs : List (κ × Addr × V)} {us vs : List Value} (l : es.length = us.length) : rowsN T (es ++ fs) (us ++ vs) = rowsN T es us ++ rowsN T fs vs := by
  unfold rowsN
  rw [List.zip_append l, List.map_append]
theorem rows_put {k : κ} {v : V} {u : Value} (r : RelV v u) : ∀ {es : List (κ × Addr × V)} {us : List Value}, Vals (es.map (·.2.2)) us → ∃ us', Vals ((es.map fun e => if e.1 = k then (e.1, e.2.1, v) else e).map (·.2.2)) us' ∧ (rowsN T es us).map (putAt (keyN (T.enc k)) u) = rowsN T (es.map fun e => if e.1 = k then (e.1, e.2.1, v) else e) us'
  | [], _, .nil => ⟨[], .nil, rfl⟩
  | e :: es, u0 :: us, .cons r0 t => by
    obtain ⟨us', h1, h2⟩ := rows_put r t
    have step : ∀ (e' : κ × Addr × V) (u' : Value), rowsN T (e' :: es.map fun e => if e.1 = k then (e.1, e.2.1, v) else e) (u' :: us') = (keyN (T.enc e'.1), e'.2.1, u') :: (rowsN T es us).map (putAt (keyN (T.enc k)) u) := fun e' u' => by
      rw [h2]
      rfl
    have lhs : (rowsN T (e :: es) (u0 :: us)).map (putAt (keyN (T.enc k)) u) = putAt (keyN (T.enc k)) u (keyN (T.enc e.1), e.2.1, u0) :: (rowsN T es us).map (putAt (keyN (T.enc k)) u) := rfl
    by_cases h : e.1 = k
    · refine ⟨u :: us', ?_, ?_⟩
      · rw [List.map_cons, if_pos h, List.map_cons]
        exact .cons r h1
      · rw [List.map_cons, if_pos h, step, lhs]
        unfold putAt
        rw [if_pos (by rw [h])]
    · refine ⟨u0 :: us', ?_, ?_⟩
      · rw [List.map_cons, if_neg h, List.map_cons]
        exact .cons r0 h1
      · rw [List.map_cons, if_neg h, step, lhs]
        unfold putAt
        rw [if_neg fun z => h (KT.eqN.mp z)]
theorem rows_st {es : List (κ × Addr × V)} {us : List Value} {k : κ} {b : Addr} {v : V} {u : Value} (h : Vals (es.map (·.2.2)) us) (r : RelV v u) : ∃ us', Vals ((dSt es k b v).map (·.2.2)) us' ∧ storedH (rowsN T es us) (keyN (T.enc k)) b u = rowsN T (dSt es k b v) us' := by
  rcases rows_find (T := T) (k := k) h with ⟨e1, e2⟩ | ⟨e, u', e1, e2, _⟩
  · refine ⟨us ++ [u], ?_, ?_⟩
    · unfold dSt
      rw [e2, if_neg (by simp), List.map_append]
      exact h.append (.cons r .nil)
    · rw [storedH_new e1]
      unfold dSt
      rw [e2, if_neg (by simp), rows_app (by rw [← h.length, List.length_map])]
      rfl
  · obtain ⟨us', h1, h2⟩ := rows_put (T := T) (k := k) (v := v) (u := u) r h
    refine ⟨us', ?_, ?_⟩
    · unfold dSt
      rw [e1, if_pos (show (some e).isSome = true from rfl)]
      exact h1
    · rw [storedH_old e2]
      unfold dSt
      rw [e1, if_pos (show (some e).isSome = true from rfl)]
      exact h2
theorem st_nodup {es : List (κ × Addr × V)} {k : κ} {b : Addr} {v : V} (n : (es.map (·.1)).Nodup) : ((dSt es k b v).map (·.1)).Nodup := by
  unfold dSt
  by_cases h : (es.find? fun e => decide (e.1 = k)).isSome = true
  · rw [if_pos h, List.map_map]
    have e : ((fun x : κ × Addr × V => x.1) ∘ fun e : κ × Addr × V => if e.1 = k then (e.1, e.2.1, v) else e) = fun e => e.1 := by
      funext e
      show (if e.1 = k then (e.1, e.2.1, v) else e).1 = e.1
      split <;> rfl
    rw [e]
    exact n
  · rw [if_neg h, List.map_append, List.nodup_append]
    refine ⟨n, (by simp : [k].Nodup), fun x hx y hy z => h ?_⟩
    rw [List.mem_singleton.mp hy] at z
    obtain ⟨e, he, rfl⟩ := List.mem_map.mp hx
    rw [List.find?_isSome]
    exact ⟨e, he, decide_eq_true z⟩
theorem st_len {es : List (κ × Addr × V)} {k : κ} {b : Addr} {v : V} : (dSt es k b v).length ≤ es.length + 1 := by
  unfold dSt
  split
  · rw [List.length_map]
    exact Nat.le_succ _
  · rw [List.length_append]
    exact Nat.le_refl _
theorem st_keys {K : PySem.W.Frag} {es : List (κ × Addr × V)} {k : κ} {b : Addr} {v : V} (h : KeysAt T K H es) (hb : Dp K H (.ref b) (T.enc k)) : KeysAt T K H (dSt es k b v) := fun e he => by
  unfold dSt at he
  split at he
  · obtain ⟨e', he', rfl⟩ := List.mem_map.mp he
    have := h e' he'
    split
    · exact this
    · exact this
  · rcases List.mem_append.mp he with z | z
    · exact h e z
    · rw [List.mem_singleton.mp z]
      exact hb
def rSetN (T : KT κ) (P : Program) (w : World) (K : PySem.W.Frag) : V → V → V → Hp → (Hp → Prop) → Prop := fun o i v H Q => ∃ (a b : Addr) (es : List (κ × Addr × V)) (k : κ), o = .ref a ∧ i = .ref b ∧ H a = some (dNO T P w a es) ∧ KeysAt T K H es ∧ Dp K H (.ref b) (T.enc k) ∧ es.length < sizeLine ∧ Q (upd H a (dNO T P w a (dSt es k b v)))
theorem set_N (hu : X.A.units + 64 < cLine) : PSet X (rSetN T X.prog X.w X.K) := by
  intro pins s σ H o i v ov iv u Q I ro ri rv h
  obtain ⟨a, b, es, k, rfl, rfl, ha, hk, hb, hl, q⟩ := h
  cases ro
  cases ri
  obtain ⟨z, l, us, hv, hm⟩ := dict_of I (.inl ha) hk
  obtain ⟨_, _, nd, _⟩ := (I.hok a _ ha).1
  have ls : (rowsN T es us).length = es.length := by
    unfold rowsN
    rw [List.length_map, List.length_zip, ← hv.length, List.length_map, Nat.min_self]
  obtain ⟨us', h1, h2⟩ := rows_st (T := T) (k := k) (b := b) (v := v) (u := u) hv rv
  refine wpAny_setItem_heap (hsz := by rw [ls]; exact l) (knd := nestedKind X.prog X.w) (by show X.A.units + 1 + 8 < cLine; omega) (key_of I hb rfl b rfl) hm fun h' hm' sb => ?_
  rw [h2] at hm'
  obtain ⟨o', ds, ep, ho, hx, hd, hr, _, _⟩ := hm'
  have R : DN0 T X.prog X.w h' a (dSt es k b v) := ⟨z, Nat.le_trans st_len hl, st_nodup nd, o', ds, ep, us', ho, hx, hd, h1, hr⟩
  exact ⟨_, I.write (by rw [ha]; trivial) (.inl rfl) (fun c w hc e => (sb.2 c hc).trans e) ⟨_, ho⟩ (dNO_ok T R), q⟩
/-- {} -/
theorem dn0_empty {P : Program} {w : World} (h : Heap) (z : (h.objs.size == sysModules) = false) : DN0 T P w (h.push { cls := .type "dict", data := .dict #[] }) h.objs.size ([] : List (κ × Addr × V)) :=
  ⟨z, Nat.zero_le _, .nil, _, _, _, [], Heap.get?_push_size _ rfl, ⟨rfl, rfl, rfl⟩, rfl, .nil, rfl⟩
def tDNewN (T : KT κ) (P : Program) (w : World) : TE := fun _ H Q => ∀ p, H p = none → Q (.ref p) (upd H p (dNO T P w p []))
theorem pe_dnewN {pos : Pos} : PE X (.Dict [] [] pos) (tDNewN T X.prog X.w) := ⟨fun pins s σ H Q I h => by
  have z : (s.heap.objs.size == sysModules) = false := beq_eq_false_iff_ne.mpr (Nat.ne_of_gt I.big)
  exact wpAny_Dict_empty ⟨.ref s.heap.objs.size, _, I.laid (t' := s.toks) (fun _ _ q => Heap.get?_push_of_some _ q) (Nat.le_refl _) (dNO_ok T (dn0_empty s.heap z)), rfl, h _ (I.hok.fresh (Nat.le_refl _))⟩⟩
/-- d.get(k, v) -/
def rGetN (T : KT κ) (P : Program) (w : World) (K : PySem.W.Frag) : V → List V → Hp → VK → Prop := fun x xs H Q => ∃ (a b : Addr) (es : List (κ × Addr × V)) (k : κ) (v : V), x = .ref a ∧ xs = [.ref b, v] ∧ Rd H a (dNO T P w a es) ∧ KeysAt T K H es ∧ Dp K H (.ref b) (T.enc k) ∧ Q (((es.find? fun e => decide (e.1 = k)).map (·.2.2)).getD v) H
theorem mt_getN (hu : X.A.units + 64 < cLine) : MtR X "dict.get" (rGetN T X.prog X.w X.K) := by
  intro pins s σ H x xs v us Q I rx r h
  obtain ⟨a, b, es, k, y, rfl, rfl, ha, hk, hb, q⟩ := h
  cases rx
  obtain ⟨u1, u2, rfl, r1, r2⟩ := r.two
  cases r1
  obtain ⟨z, l, us, hv, hm⟩ := dict_of I ha hk
  refine call_meetsIn PySem.F.slot_dict_get hm.typeIs PySem.F.entry_dict_get (PySem.F.args_dict_get_3 _ _ _) (meetsH_dict_get_default (nestedKind X.prog X.w) a b z u2) ⟨by show X.A.units + 1 + 8 < cLine; omega, _, _, key_of I hb rfl b rfl, hm, ?_⟩
  rcases rows_find (T := T) (k := k) hv with ⟨e1, e2⟩ | ⟨e, u, e1, e2, r⟩
  · rw [e1]
    rw [e2] at q
    exact ⟨y, H, I.tok _, r2, q⟩
  · rw [e2]
    rw [e1] at q
    exact ⟨e.2.2, H, I.tok _, r, q⟩
/-- d.setdefault(k, v) -/
def rSetdefN (T : KT κ) (P : Program) (w : World) (K : PySem.W.Frag) : V → List V → Hp → VK → Prop := fun x xs H Q => ∃ (a b : Addr) (es : List (κ × Addr × V)) (k : κ) (v : V), x = .ref a ∧ xs = [.ref b, v] ∧ H a = some (dNO T P w a es) ∧ KeysAt T K H es ∧ Dp K H (.ref b) (T.enc k) ∧ es.length < sizeLine ∧
  (∀ e, (es.find? fun e => decide (e.1 = k)) = some e → Q e.2.2 H) ∧ ((es.find? fun e => decide (e.1 = k)) = none → Q v (upd H a (dNO T P w a (es ++ [(k, b, v)]))))
theorem mt_setdefN (hu : X.A.units + 64 < cLine) : MtR X "dict.setdefault" (rSetdefN T X.prog X.w X.K) := by
  intro pins s σ H x xs v us Q I rx r h
  obtain ⟨a, b, es, k, y, rfl, rfl, ha, hk, hb, hl, q1, q2⟩ := h
  cases rx
  obtain ⟨u1, u2, rfl, r1, r2⟩ := r.two
  cases r1
  obtain ⟨z, l, us, hv, hm⟩ := dict_of I (.inl ha) hk
  obtain ⟨_, _, nd, _⟩ := (I.hok a _ ha).1
  have ls : (rowsN T es us).length = es.length := by
    unfold rowsN
    rw [List.length_map, List.length_zip, ← hv.length, List.length_map, Nat.min_self]
  rcases rows_find (T := T) (k := k) hv with ⟨e1, e2⟩ | ⟨e, u, e1, e2, r⟩
  · refine call_setdefault_heap (hsz := by rw [ls]; exact l) (knd := nestedKind X.prog X.w) (by show X.A.units + 1 + 8 < cLine; omega) (key_of I hb rfl b rfl) z hm (fun p hp => by rw [e1] at hp; cases hp) fun _ h' hm' sb => ?_
    obtain ⟨us', h1, h2⟩ := rows_st (T := T) (k := k) (b := b) (v := y) (u := u2) hv r2
    have ed : dSt es k b y = es ++ [(k, b, y)] := by
      unfold dSt
      rw [e2, if_neg (by simp)]
    rw [h2] at hm'
    obtain ⟨o', ds, ep, ho, hx, hd, hr, _, _⟩ := hm'
    have R : DN0 T X.prog X.w h' a (dSt es k b y) := ⟨z, Nat.le_trans st_len hl, st_nodup nd, o', ds, ep, us', ho, hx, hd, h1, hr⟩
    have J := I.write (t' := s.toks + (nestedKind X.prog X.w).draws (keyN (T.enc k))) (by rw [ha]; trivial) (.inl rfl) (fun c w hc e => (sb.2 c hc).trans e) ⟨_, ho⟩ (dNO_ok T R)
    rw [ed] at J
    exact ⟨y, _, J, r2, q2 e2⟩
  · refine call_setdefault_heap (hsz := by rw [ls]; exact l) (knd := nestedKind X.prog X.w) (by show X.A.units + 1 + 8 < cLine; omega) (key_of I hb rfl b rfl) z hm (fun p hp => ?_) fun hn => by rw [e2] at hn; cases hn
    rw [e2] at hp
    cases hp
    exact ⟨e.2.2, H, I.tok _, r, q1 e e1⟩
theorem dn_frz {d : Addr} {o : Obj} {es : List (κ × Addr × V)} (I : Inv X pins σ H s) (h : H d = some (.frz o (dNO T X.prog X.w d es))) :
    (d == sysModules) = false ∧ s.heap.get? d = some o ∧ o.ExactDict ∧ ∃ (ds : Array DictEntry) (ep : Nat), o.data = .dict ds ep ∧ ds.size = es.length ∧ ∀ (i : Nat) (e : κ × Addr × V), es[i]? = some e → ∃ en : DictEntry, ds[i]? = some en ∧ en.key = .ref e.2.1 := by
  obtain ⟨hg, ⟨z, l, n, o', ds, ep, us, ho, hx, hd, hv, hr⟩, _⟩ := I.hok d _ h
  rw [hg] at ho
  cases ho
  have lu : us.length = es.length := by rw [← hv.length, List.length_map]
  have ld : ds.size = es.length := by
    rw [← Array.length_toList, hr, List.length_map]
    unfold rowsN
    rw [List.length_map, List.length_zip, lu, Nat.min_self]
  refine ⟨z, hg, hx, ds, ep, hd, ld, fun i e he => ?_⟩
  have hi : i < us.length := by rw [lu]; exact (List.getElem?_eq_some_iff.mp he).1
  have hz : (es.zip us)[i]? = some (e, us[i]) := by rw [List.getElem?_zip_eq_some]; exact ⟨he, List.getElem?_eq_getElem hi⟩
  refine ⟨entryOfKey (nestedKind X.prog X.w) (keyN (T.enc e.1), e.2.1, us[i]), ?_, rfl⟩
  rw [← Array.getElem?_toList, hr]
  unfold rowsN
  rw [List.getElem?_map, List.getElem?_map, hz]
  rfl
/-- the keys of the locked dict at d -/
def Itn (T : KT κ) (P : Program) (w : World) (d : Addr) (o : Obj) (es : List (κ × Addr × V)) : It :=
  ⟨fun i H => H d = some (.frz o (dNO T P w d es)) ∧ i < es.length, fun i H x H' => H' = H ∧ ∃ e, es[i]? = some e ∧ x = .ref e.2.1, fun i H => H d = some (.frz o (dNO T P w d es)) ∧ es.length ≤ i⟩
theorem turn_N {P : Program} {w : World} {K : PySem.W.Frag} {tg : Expr} {d : Addr} {o : Obj} {ds : Array DictEntry} {ep : Nat} {es : List (κ × Addr × V)} (it : Addr) (hod : o.data = .dict ds ep) :
    Turn P w K tg (Itn T P w d o es) [it] it (fun i h => h.IsKeyIter it d i es.length ep) where
  mem := List.mem_singleton.mpr rfl
  obj := fun i h st b hb => by
    rw [List.mem_singleton.mp hb]
    obtain ⟨oi, e, _, dd⟩ := st
    exact ⟨oi, e, fun v z => by rw [dd] at z; cases z⟩
  keep := fun i h h' st k => st.at fun oi e => k it (List.mem_singleton.mpr rfl) oi e
  item := by
    rintro X rfl rfl rfl hc i pins s σ H E I hf st ⟨hd, hi⟩
    have fp := hf it (List.mem_singleton.mpr rfl)
    obtain ⟨hs, hgd, hx, ds', ep', hdt, hsz, ent⟩ := dn_frz I hd
    obtain ⟨rfl, rfl⟩ := dict_ep hod hdt
    have he : es[i]? = some es[i] := List.getElem?_eq_getElem hi
    obtain ⟨en, hen, hkey⟩ := ent i _ he
    refine next_key_item st hgd hdt hsz hen fun h' st' sb => ?_
    obtain ⟨oi, e, c, dd⟩ := id st'
    exact ⟨en.key, rfl, go_of (s := { s with heap := h' }) e c dd (by decide) ⟨.ref es[i].2.1, H, I.turned (t' := s.toks) (fun b ob hb e => (sb.2 b hb).trans e) fp.1 fp.2.1 fp.2.2.2.1 fp.2.2.2.2.1 fp.2.2.2.2.2, hkey, ⟨rfl, _, he, rfl⟩, st', fun b hb => (hf b hb).1⟩⟩
  done := by
    rintro X rfl rfl rfl hc i pins s σ H E I hf st ⟨hd, hi⟩
    have fp := hf it (List.mem_singleton.mpr rfl)
    obtain ⟨hs, hgd, hx, ds', ep', hdt, hsz, ent⟩ := dn_frz I hd
    obtain ⟨rfl, rfl⟩ := dict_ep hod hdt
    exact next_key_end (I.ok.hd hc) st hgd hdt hsz hi fun h' eb => ⟨rfl, I.turned (t' := s.toks) (fun b ob hb e => eb b ob hb e) fp.1 fp.2.1 fp.2.2.2.1 fp.2.2.2.2.1 fp.2.2.2.2.2⟩
  self := fun A i s Q E st h => by
    refine wpAny_pyIter_slot st.typeIs PySem.F.slot_dict_keyiterator_iter (wpAny_call_entry PySem.F.slot_dict_keyiterator_iter st.typeIs PySem.F.entry_dict_keyiterator_iter ?_ (PySem.F.args_dict_keyiterator_iter_1 _))
    exact wpAny_pure ⟨_, rfl, "dict_keyiterator", _, st.typeIs, PySem.F.slot_dict_keyiterator_next.lookup, h⟩
/-- for k in d, d locked -/
def iKeysN (T : KT κ) (P : Program) (w : World) (td : TE) : TI := fun σ H R => td σ H fun x H1 => ∃ d o es, x = .ref d ∧ H1 d = some (.frz o (dNO T P w d es)) ∧ R (Itn T P w d o es) H1
theorem pi_keysN {tg e : Expr} {td : TE} (he : PE X e td) : PI X tg e (iKeysN T X.prog X.w td) := by
  refine ⟨fun pins s σ H R I h => thn (he.run pins s σ H _ I h) fun u s1 ⟨x, H1, I1, rx, d, o, es, ex, hd, q⟩ => ?_⟩
  subst ex
  cases rx
  obtain ⟨hs, hgd, hx, ds, ep, hdt, hsz, ent⟩ := dn_frz I1 hd
  refine iter_keys hs hgd hx hdt (pi_one (tk := s1.toks) I1 _ (turn_N _ hdt) ⟨_, Heap.get?_push_size _ rfl, rfl, ?_⟩ q)
  rw [hsz] <;> rfl
theorem walk_N {P : Program} {w : World} {d : Addr} {o : Obj} {es : List (κ × Addr × V)} : Walk (Itn T P w d o es) es.length (fun H => H d = some (.frz o (dNO T P w d es))) (fun i H x H' => H' = H ∧ ∃ e, es[i]? = some e ∧ x = .ref e.2.1) :=
  ⟨fun _ _ hi q => ⟨q, hi⟩, fun _ q => ⟨q, Nat.le_refl _⟩, fun _ _ _ _ _ _ y => y⟩
/-- len(d) -/
theorem cr_lenN : CallR X (.builtin "len") (fun xs H Q => ∃ (a : Addr) (es : List (κ × Addr × V)), xs = [.ref a] ∧ Rd H a (dNO T X.prog X.w a es) ∧ KeysAt T X.K H es ∧ Q (.int (es.length : Int)) H) := by
  intro pins s σ H xs us Q I r h
  obtain ⟨a, es, rfl, ha, hk, q⟩ := h
  obtain ⟨u, rfl, ru⟩ := vals1 r
  cases ru
  obtain ⟨z, l, us, hv, hm⟩ := dict_of I ha hk
  have ls : (rowsN T es us).length = es.length := by
    unfold rowsN
    rw [List.length_map, List.length_zip, ← hv.length, List.length_map, Nat.min_self]
  have h63 := line63
  refine call_len_dictH z hm (by rw [ls]; omega) ⟨.int (es.length : Int), H, ?_, ⟨_, by rw [ls]⟩, q⟩
  exact (I.tok (s.toks + 1 + 1))
/-- a store in a comprehension's dict -/
def putN (T : KT κ) (P : Program) (w : World) (K : PySem.W.Frag) (D : Addr) (y z : V) (H : Hp) (N : Hp → Prop) : Prop := ∃ (es : List (κ × Addr × V)) (k : κ) (b : Addr), y = .ref b ∧ H D = some (dNO T P w D es) ∧ KeysAt T K H es ∧ Dp K H (.ref b) (T.enc k) ∧ es.length < sizeLine ∧ N (upd H D (dNO T P w D (dSt es k b z)))
theorem putR_N {Y : Cx} (hu : Y.A.units + 64 < cLine) : PutR (putN T Y.prog Y.w Y.K) Y := by
  intro pins s σ H D y z u r N I ry rz ⟨es, k, b, ey, ha, hk, hb, hl, n⟩
  subst ey
  cases ry
  obtain ⟨zz, l, us, hv, hm⟩ := dict_of I (.inl ha) hk
  obtain ⟨_, _, nd, _⟩ := (I.hok D _ ha).1
  have ls : (rowsN T es us).length = es.length := by
    unfold rowsN
    rw [List.length_map, List.length_zip, ← hv.length, List.length_map, Nat.min_self]
  obtain ⟨us', h1, h2⟩ := rows_st (T := T) (k := k) (b := b) (v := z) (u := r) hv rz
  refine wpAny_dictSet_heap (hsz := by rw [ls]; exact l) (knd := nestedKind Y.prog Y.w) (by show Y.A.units + 8 < cLine; omega) (key_of I hb rfl b rfl) hm fun h' hm' sb => ?_
  rw [h2] at hm'
  obtain ⟨o', ds, ep, ho, hx, hd, hr, _, _⟩ := hm'
  have R : DN0 T Y.prog Y.w h' D (dSt es k b z) := ⟨zz, Nat.le_trans st_len hl, st_nodup nd, o', ds, ep, us', ho, hx, hd, h1, hr⟩
  exact ⟨_, I.write (by rw [ha]; trivial) (.inl rfl) (fun c w hc e => (sb.2 c hc).trans e) ⟨_, ho⟩ (dNO_ok T R), n⟩
theorem dg_empty (H : Hp) (h : Heap) (hb : sysModules < h.objs.size) : ObjOk X.prog X.w H (h.push { cls := .type "dict", data := .dict #[] }) h.objs.size ((fun D => dNO T X.prog X.w D []) h.objs.size) :=
  dNO_ok T (dn0_empty h (beq_eq_false_iff_ne.mpr (Nat.ne_of_gt hb)))
end
end GX
/-! the truth of a dict keyed by nested tuples; its deletion -/
namespace GX
open PySem PySem.Spec PyProof.Rows L2 GxR
section
variable {κ : Type} [DecidableEq κ] {T : KT κ} {X : Cx}
def tTruN (T : KT κ) (P : Program) (w : World) (K : PySem.W.Frag) (ta : TE) : TT := fun σ H Q => ta σ H fun x H1 => ∃ (a : Addr) (es : List (κ × Addr × V)), x = .ref a ∧ Rd H1 a (dNO T P w a es) ∧ KeysAt T K H1 es ∧ Q (!es.isEmpty) H1
theorem pt_truN {e : Expr} {ta : TE} (ha : PE X e ta) (he : ∀ whole, isTrue e X.env whole = (do let v ← whole; standAt e.pos; holding [v] (truthy v))) : PT X e (tTruN T X.prog X.w X.K ta) := by
  refine ⟨fun pins s σ H Q I h => ?_⟩
  refine isTrue_plain (thn (ha.run pins s σ H _ I h) fun v s1 ⟨x, H1, I1, r1, a, es, ex, e1, hk, q⟩ => ?_) (he _)
  subst ex
  obtain rfl : v = Value.ref a := r1
  obtain ⟨z, l, us, hv, hm⟩ := dict_of I1 e1 hk
  have ls : (rowsN T es us).length = es.length := by
    unfold rowsN
    rw [List.length_map, List.length_zip, ← hv.length, List.length_map, Nat.min_self]
  have h63 := line63
  have ee : (rowsN T es us).isEmpty = es.isEmpty := by
    rw [Bool.eq_iff_iff, List.isEmpty_iff_length_eq_zero, List.isEmpty_iff_length_eq_zero, ls]
  exact truthy_dictH z hm (by rw [ls]; omega) ⟨H1, I1.tok _, by rw [ee]; exact q⟩
end
end GX
/-! list(d) of a dict keyed by nested tuples -/
namespace GX
open PySem PySem.Spec PyProof.Rows L2 GxR
section
variable {κ : Type} [DecidableEq κ] {T : KT κ} {X : Cx} {pins : List (Addr × Obj)} {σ : L2.St} {H : Hp} {s : Shared}
theorem dn_raw {a : Addr} {es : List (κ × Addr × V)} (I : Inv X pins σ H s) (ha : Rd H a (dNO T X.prog X.w a es)) :
    (a == sysModules) = false ∧ es.length ≤ sizeLine ∧ ∃ (ds : Array DictEntry) (ep : Nat), s.heap.DictRaw a ds ep ∧ ds.size = es.length ∧ ∀ (i : Nat) (e : κ × Addr × V), es[i]? = some e → ∃ en : DictEntry, ds[i]? = some en ∧ en.key = .ref e.2.1 := by
  obtain ⟨z, l, n, o, ds, ep, us, ho, hx, hd, hv, hr⟩ := dn0_of I ha
  have lu : us.length = es.length := by rw [← hv.length, List.length_map]
  have ld : ds.size = es.length := by
    rw [← Array.length_toList, hr, List.length_map]
    unfold rowsN
    rw [List.length_map, List.length_zip, lu, Nat.min_self]
  refine ⟨z, l, ds, ep, ⟨o, ho, hx, hd⟩, ld, fun i e he => ?_⟩
  have hi : i < us.length := by rw [lu]; exact (List.getElem?_eq_some_iff.mp he).1
  have hz : (es.zip us)[i]? = some (e, us[i]) := by rw [List.getElem?_zip_eq_some]; exact ⟨he, List.getElem?_eq_getElem hi⟩
  refine ⟨entryOfKey (nestedKind X.prog X.w) (keyN (T.enc e.1), e.2.1, us[i]), ?_, rfl⟩
  rw [← Array.getElem?_toList, hr]
  unfold rowsN
  rw [List.getElem?_map, List.getElem?_map, hz]
  rfl
theorem refs_keys : ∀ es : List (κ × Addr × V), Vals (es.map fun e => V.ref e.2.1) (es.map fun e => Value.ref e.2.1)
  | [] => .nil
  | e :: es => .cons rfl (refs_keys es)
theorem raw_keys {es : List (κ × Addr × V)} {ds : Array DictEntry} {acc : Array Value} (ld : ds.size = es.length) (hk : ∀ (i : Nat) (e : κ × Addr × V), es[i]? = some e → ∃ en : DictEntry, ds[i]? = some en ∧ en.key = .ref e.2.1)
    (h1 : acc.size = ds.size) (h2 : ∀ (j : Nat) (v : Value), acc[j]? = some v → ∃ hi : j < ds.size, v = ds[j].key) : acc.toList = es.map fun e => Value.ref e.2.1 := by
  refine List.ext_getElem? fun j => ?_
  rw [Array.getElem?_toList, List.getElem?_map]
  cases e1 : es[j]? with
  | none =>
    have : es.length ≤ j := List.getElem?_eq_none_iff.mp e1
    rw [Array.getElem?_eq_none (by omega)]
    rfl
  | some e =>
    have hj : j < es.length := (List.getElem?_eq_some_iff.mp e1).1
    have hja : j < acc.size := by omega
    obtain ⟨hi, hv⟩ := h2 j acc[j] (Array.getElem?_eq_getElem hja)
    obtain ⟨en, g1, g2⟩ := hk j e e1
    rw [Array.getElem?_eq_getElem hi] at g1
    cases g1
    rw [Array.getElem?_eq_getElem hja, hv, g2]
    rfl
/-- list(d): its keys -/
theorem cr_listN (hcalm : X.calm = true) : CallR X (.type "list") (fun xs H Q => ∃ (a : Addr) (es : List (κ × Addr × V)), xs = [.ref a] ∧ Rd H a (dNO T X.prog X.w a es) ∧ ∀ p, H p = none → Q (.ref p) (upd H p (.lst (es.map fun e => V.ref e.2.1)))) := by
  intro pins s σ H xs us Q I r q
  obtain ⟨a, es, ex, hd, q⟩ := q
  subst ex
  obtain ⟨u, eu, rx⟩ := vals1 r
  subst eu
  cases rx
  obtain ⟨z, l, ds, ep, raw, ld, hk⟩ := dn_raw I hd
  refine PySem.W.kdl_call (KdlSrc.rawDict (es := ds) (ep := ep) z) (I.ok.hd hcalm) raw (by rw [ld]; exact l) fun h' tk acc c' hk' hD hacc => ?_
  have ea := raw_keys ld hk hacc.1 hacc.2
  refine ⟨.ref s.heap.objs.size, upd H s.heap.objs.size (.lst (es.map fun e => V.ref e.2.1)), I.laid (t' := tk) hk' (Nat.le_refl _)
    (show ObjOk X.prog X.w _ _ _ (.lst (es.map fun e => V.ref e.2.1)) from ⟨by rw [List.length_map]; exact l, acc.toList, c', by rw [ea]; exact refs_keys es, by rw [Array.toArray_toList]; exact hD⟩), rfl, q _ (I.hok.fresh (Nat.le_refl _))⟩
end
end GX
/-! sorted(d) of a dict keyed by nested tuples -/
namespace GX
open PySem PySem.Spec PyProof.Rows L2 GxR
section
variable {κ : Type} [DecidableEq κ] {T : KT κ} {X : Cx}
theorem each_keys : ∀ es : List (κ × Addr × V), PySem.W.EachIs (fun (u : Value) (e : κ × Addr × V) => u = Value.ref e.2.1) (es.map fun e => Value.ref e.2.1) es
  | [] => .nil
  | _ :: es => .cons rfl (each_keys es)
theorem keys_each : ∀ {us : List Value} {es : List (κ × Addr × V)}, PySem.W.EachIs (fun (u : Value) (e : κ × Addr × V) => u = Value.ref e.2.1) us es → us = es.map fun e => Value.ref e.2.1
  | _, _, .nil => rfl
  | _, _, .cons h t => by rw [h, keys_each t]; rfl
/-- the entries in the order of their keys -/
def sortN (T : KT κ) (es : List (κ × Addr × V)) : List (κ × Addr × V) := es.mergeSort (PySem.W.dataLe false fun e => T.enc e.1)
theorem cr_sortedN (hcalm : X.calm = true) (hu : X.A.units + 64 < cLine) : CallR X (.builtin "sorted") (fun xs H Q => ∃ (a : Addr) (es : List (κ × Addr × V)), xs = [.ref a] ∧ Rd H a (dNO T X.prog X.w a es) ∧ KeysAt T X.K H es ∧ PySem.W.AllAlike (es.map fun e => T.enc e.1) ∧ PySem.W.Sortable (es.map fun e => T.enc e.1) ∧
    ∀ p, H p = none → Q (.ref p) (upd H p (.lst ((sortN T es).map fun e => V.ref e.2.1)))) := by
  intro pins s σ H xs us Q I r q
  obtain ⟨a, es, ex, hd, hk, al, so, q⟩ := q
  subst ex
  obtain ⟨u, eu, rx⟩ := vals1 r
  subst eu
  cases rx
  obtain ⟨z, l, ds, ep, raw, ld, hkk⟩ := dn_raw I hd
  refine Calls.call_function_entry PyProof.Rows.kind_sorted PyProof.Rows.plain_sorted PyProof.Rows.entry_sorted (PyProof.Rows.args_sorted1 _) ?_
  unfold Builtin.«sorted»
  refine wpAny_bind (m := checkCount "sorted" 1 1 _) (wpAny_pure ?_)
  refine wpAny_bind (PySem.W.kdu_collect (A := X.A.in1) (KdlSrc.rawDict (es := ds) (ep := ep) z) (I.ok.hd hcalm) raw (by rw [ld]; exact l) fun h' tk acc hk' hacc => ?_)
  have ea := raw_keys ld hkk hacc.1 hacc.2
  have I1 : Inv X pins σ H { s with heap := h', toks := tk } := I.kept hk'
  have hla : acc.toList.length = es.length := by rw [ea, List.length_map]
  refine wpAny_bind (wpAny_newList ?_ (by rw [hla]; exact l))
  have hoL : (h'.push (seqObj "list" acc.toList.toArray 0)).get? h'.objs.size = some (seqObj "list" acc.toList.toArray 0) := Heap.get?_push_size _ rfl
  have hE : PySem.W.EachIs (fun (u : Value) (e : κ × Addr × V) => u = Value.ref e.2.1) acc.toList es := by rw [ea]; exact each_keys es
  have er : PySem.W.EachIs (fun (v : Value) (b : κ × Addr × V) => ∃ as, Reads (h'.push (seqObj "list" acc.toList.toArray 0)) v (T.enc b.1) as ∧ h'.objs.size ∉ as) acc.toList es := (PySem.W.each_mem hE).mono fun v b ⟨e, hb⟩ => by
    subst e
    obtain ⟨as, rr⟩ := Dp.reads I1 _ (V.ref b.2.1) _ (hk b hb) rfl
    exact ⟨as, PyProof.Rows.Reads.keeps (fun b o e => Heap.get?_push_of_some _ e) rr, fun hm => by
      obtain ⟨o, ho⟩ := PyProof.On.reads_mem_get rr _ hm
      exact Nat.lt_irrefl _ (Heap.lt_size ho)⟩
  show wpAny _ _ _ _ _ { s with heap := h'.push (seqObj "list" acc.toList.toArray 0), toks := tk }
  refine wpAny_bind (wpAny_holding (PySem.W.list_sort_data (s := { s with heap := h'.push (seqObj "list" acc.toList.toArray 0), toks := tk }) hoL hE er al so l (fun b hb => by
    have := T.dp b.1
    show X.A.units + 1 + 1 + _ < cLine
    omega) fun out lo eo => ?_))
  have eo' : out = (sortN T es).map fun e => Value.ref e.2.1 := keys_each eo
  obtain ⟨e', he'⟩ := PyProof.Rows.sortedHeap_at (vs := acc.toList) (out := List.toArray out) hoL
  have hlen : ((sortN T es).map fun e => V.ref e.2.1).length ≤ sizeLine := by
    rw [List.length_map, sortN, List.length_mergeSort]
    exact l
  refine wpAny_pure ⟨_, rfl, .ref h'.objs.size, upd H h'.objs.size (.lst ((sortN T es).map fun e => V.ref e.2.1)), I1.laid (t' := tk) (fun b u e => ?_) (Nat.le_refl _)
    (show ObjOk X.prog X.w _ _ _ (.lst ((sortN T es).map fun e => V.ref e.2.1)) from ⟨hlen, out, e', by rw [eo']; exact refs_keys _, he'⟩), rfl, q _ (I1.hok.fresh (Nat.le_refl _))⟩
  have hb : b < h'.objs.size := Heap.lt_size e
  rw [PyProof.Rows.sortedHeap_old (Nat.ne_of_lt hb) (by rw [size_push']; exact Nat.lt_succ_of_lt hb)]
  exact Heap.get?_push_of_some _ e
end
end GX
/-! keys (x, y, i), i a small number, have hashes of their own in every world -/
namespace GX
open PySem PySem.Spec PyProof.Rows L2 GxR
/-- one lane of a tuple's hash -/
def laneH (A i : Nat) : Nat := ((((A + i * 14029467366897019727) % 2 ^ 64 * 2 ^ 31) % 2 ^ 64 + (A + i * 14029467366897019727) % 2 ^ 64 / 2 ^ 33) * 11400714785074694791) % 2 ^ 64
def lastH (f : Nat) : Nat := (f + 2870177450013471925) % 2 ^ 64
def toldH (f : Nat) : Int := if f == 2 ^ 64 - 1 then 1546275796 else if f < 2 ^ 63 then f else (f : Int) - (2 ^ 64 : Nat)
theorem rot_back {a b : Nat} (ha : a < 2 ^ 64) (hb : b = (a * 2 ^ 31) % 2 ^ 64 + a / 2 ^ 33) : b < 2 ^ 64 ∧ b / 2 ^ 31 + b % 2 ^ 31 * 2 ^ 33 = a := by
  have e1 : a * 2 ^ 31 % 2 ^ 64 = a % 2 ^ 33 * 2 ^ 31 := by omega
  rw [e1] at hb
  omega
theorem gmul {m P Q K b : Nat} (e : P * Q = m * K + 1) (hb : b < m) : (b * P) % m * Q % m = b := by
  rw [Nat.mod_mul_mod, Nat.mul_assoc, e, Nat.mul_add, Nat.mul_one, Nat.mul_left_comm, Nat.mul_add_mod]
  exact Nat.mod_eq_of_lt hb
theorem gadd {m P Q K : Nat} (e : P * Q = m * K + 1) (A i : Nat) : (A + i * P) % m * Q % m = (A * Q + i) % m := by
  rw [Nat.mod_mul_mod, Nat.add_mul, Nat.mul_assoc, e, Nat.mul_add, Nat.mul_one, Nat.mul_left_comm, Nat.add_left_comm, Nat.mul_add_mod]
theorem mul_back {b : Nat} (hb : b < 2 ^ 64) : (b * 11400714785074694791) % 2 ^ 64 * 614540362697595703 % 2 ^ 64 = b := gmul (K := 379806830464837242) (by decide +kernel) hb
/-- the lane's sum, out of the hash -/
def backH (f : Nat) : Nat := ((f + (2 ^ 64 - 2870177450013471925)) % 2 ^ 64 * 614540362697595703 % 2 ^ 64) / 2 ^ 31 + ((f + (2 ^ 64 - 2870177450013471925)) % 2 ^ 64 * 614540362697595703 % 2 ^ 64) % 2 ^ 31 * 2 ^ 33
theorem addC {c : Nat} (h : c < 2 ^ 64) : ((c + 2870177450013471925) % 2 ^ 64 + (2 ^ 64 - 2870177450013471925)) % 2 ^ 64 = c := by omega
theorem lane_core {a b : Nat} (h : b < 2 ^ 64 ∧ b / 2 ^ 31 + b % 2 ^ 31 * 2 ^ 33 = a) : backH (lastH (b * 11400714785074694791 % 2 ^ 64)) = a := by
  unfold backH lastH
  rw [addC (Nat.mod_lt _ (by decide)), mul_back h.1]
  exact h.2
theorem lane_back (A i : Nat) : backH (lastH (laneH A i)) = (A + i * 14029467366897019727) % 2 ^ 64 := by
  unfold laneH
  exact lane_core (rot_back (Nat.mod_lt _ (by decide)) rfl)
theorem add_back (A i : Nat) : (A + i * 14029467366897019727) % 2 ^ 64 * 839798700976720815 % 2 ^ 64 = (A * 839798700976720815 + i) % 2 ^ 64 := gadd (K := 638699622168397319) (by decide +kernel) A i
theorem told_inj {f g : Nat} (hf : f < 2 ^ 64) (hg : g < 2 ^ 64) (h : toldH f = toldH g) : f = g ∨ (f = 2 ^ 64 - 1 ∧ g = 1546275796) ∨ (g = 2 ^ 64 - 1 ∧ f = 1546275796) := by
  unfold toldH at h
  by_cases a : f = 2 ^ 64 - 1
  · by_cases b : g = 2 ^ 64 - 1
    · exact .inl (a.trans b.symm)
    · rw [if_pos (beq_iff_eq.mpr a), if_neg (fun z => b (beq_iff_eq.mp z))] at h
      split at h
      · omega
      · omega
  · rw [if_neg (fun z => a (beq_iff_eq.mp z))] at h
    by_cases b : g = 2 ^ 64 - 1
    · rw [if_pos (beq_iff_eq.mpr b)] at h
      split at h
      · omega
      · omega
    · rw [if_neg (fun z => b (beq_iff_eq.mp z))] at h
      split at h
      · split at h
        · omega
        · omega
      · split at h
        · omega
        · omega
theorem fin0 {a i j : Nat} (hi : i < 4096) (hj : j < 4096) (h : (a + i) % 2 ^ 64 = (a + j) % 2 ^ 64) : i = j := by omega
theorem fin1 {a i j : Nat} (hi : i < 4096) (hj : j < 4096) (h1 : 16680575644954319924 = (a + i) % 2 ^ 64) (h2 : 7868393759306762799 = (a + j) % 2 ^ 64) : i = j := by omega
theorem lanes_apart {A i j : Nat} (hi : i < 4096) (hj : j < 4096) (h : toldH (lastH (laneH A i)) = toldH (lastH (laneH A j))) : i = j := by
  have b1 : backH (2 ^ 64 - 1) * 839798700976720815 % 2 ^ 64 = 16680575644954319924 := by decide +kernel
  have b2 : backH 1546275796 * 839798700976720815 % 2 ^ 64 = 7868393759306762799 := by decide +kernel
  have ei : backH (lastH (laneH A i)) * 839798700976720815 % 2 ^ 64 = (A * 839798700976720815 + i) % 2 ^ 64 := by rw [lane_back]; exact add_back A i
  have ej : backH (lastH (laneH A j)) * 839798700976720815 % 2 ^ 64 = (A * 839798700976720815 + j) % 2 ^ 64 := by rw [lane_back]; exact add_back A j
  rcases told_inj (Nat.mod_lt _ (by decide)) (Nat.mod_lt _ (by decide)) h with e | ⟨e1, e2⟩ | ⟨e1, e2⟩
  · rw [show lastH (laneH A i) = lastH (laneH A j) from e, ej] at ei
    exact (fin0 hj hi ei).symm
  · rw [show lastH (laneH A i) = 2 ^ 64 - 1 from e1, b1] at ei
    rw [show lastH (laneH A j) = 1546275796 from e2, b2] at ej
    exact fin1 hi hj ei ej
  · rw [show lastH (laneH A i) = 1546275796 from e2, b2] at ei
    rw [show lastH (laneH A j) = 2 ^ 64 - 1 from e1, b1] at ej
    exact (fin1 hj hi ej ei).symm
end GX
/-! keys (x, y, i), i below 4096: their hashes differ in every world -/
namespace GX
open PySem PySem.Spec PyProof.Rows L2 GxR
def accG (m p1 p2 : Nat) (a : Nat) (h : Int) : Nat := (((a + (h % (m : Int)).toNat * p2) % m * 2 ^ 31) % m + (a + (h % (m : Int)).toNat * p2) % m / 2 ^ 33) * p1 % m
def finG (m a x : Nat) : Int := if (a + x) % m == m - 1 then 1546275796 else if (a + x) % m < 2 ^ 63 then ((a + x) % m : Nat) else (((a + x) % m : Nat) : Int) - m
def tupG (m p1 p2 p5 x : Nat) (hs : List Int) : Int := finG m (hs.foldl (accG m p1 p2) p5) (hs.length ^^^ (p5 ^^^ x))
theorem tup_eq (hs : List Int) : Builtin.Tuple.tupleHashOf hs = tupG (2 ^ 64) 11400714785074694791 14029467366897019727 2870177450012600261 3527539 hs := by
  unfold Builtin.Tuple.tupleHashOf tupG finG accG
  dsimp only
theorem tup3 (m p1 p2 p5 x : Nat) (a b c : Int) : tupG m p1 p2 p5 x [a, b, c] = finG m (accG m p1 p2 (accG m p1 p2 (accG m p1 p2 p5 a) b) c) (3 ^^^ (p5 ^^^ x)) := by
  unfold tupG
  rw [List.foldl_cons, List.foldl_cons, List.foldl_cons, List.foldl_nil, List.length_cons, List.length_cons, List.length_cons, List.length_nil]
theorem xor3 : (3 ^^^ (2870177450012600261 ^^^ 3527539) : Nat) = 2870177450013471925 := by decide +kernel
theorem acc_lane {A i : Nat} (hi : i < 4096) : accG (2 ^ 64) 11400714785074694791 14029467366897019727 A (i : Int) = laneH A i := by
  unfold accG laneH
  have e : (((i : Int)) % ((2 ^ 64 : Nat) : Int)).toNat = i := by omega
  rw [e]
theorem fin_told (a : Nat) : finG (2 ^ 64) a 2870177450013471925 = toldH (lastH a) := rfl
theorem hash_small {i : Nat} (h : i < 4096) : hashInt (i : Int) = (i : Int) := by
  have k : ∀ i < 4096, hashInt ((i : Nat) : Int) = ((i : Nat) : Int) := by decide +kernel
  exact k i h
theorem told_range (f : Nat) (h : f < 2 ^ 64) : -(2 ^ 63 : Int) ≤ toldH f ∧ toldH f < 2 ^ 63 ∧ toldH f ≠ -1 := by
  unfold toldH
  by_cases a : f = 2 ^ 64 - 1
  · rw [if_pos (beq_iff_eq.mpr a)]
    decide
  · rw [if_neg (fun z => a (beq_iff_eq.mp z))]
    split
    · omega
    · omega
theorem reduce_told (f : Nat) (h : f < 2 ^ 64) : reduceHash (toldH f) = toldH f := by
  obtain ⟨h1, h2, h3⟩ := told_range f h
  unfold reduceHash
  rw [if_pos (by rw [Bool.and_eq_true, decide_eq_true_eq, decide_eq_true_eq]; exact ⟨h1, h2⟩), if_neg (fun z => h3 (beq_iff_eq.mp z))]
/-- the keys (x, y, i) and (x, y, j) hash apart -/
theorem hash_apart {w : World} {x y : NestedKey} {i j : Nat} (hi : i < 4096) (hj : j < 4096) (h : NestedKey.hash w (.tup [x, y, .num (i : Int)]) = NestedKey.hash w (.tup [x, y, .num (j : Int)])) : i = j := by
  have key : ∀ i < 4096, NestedKey.hash w (.tup [x, y, .num ((i : Nat) : Int)]) = toldH (lastH (laneH (accG (2 ^ 64) 11400714785074694791 14029467366897019727 (accG (2 ^ 64) 11400714785074694791 14029467366897019727 2870177450012600261 (x.hash w)) (y.hash w)) i)) := fun i hi => by
    have e : NestedKey.hashes w [x, y, .num (i : Int)] = [x.hash w, y.hash w, (i : Int)] := by
      rw [NestedKey.hashes, NestedKey.hashes, NestedKey.hashes, NestedKey.hashes, NestedKey.hash, hash_small hi]
    rw [NestedKey.hash, e, tup_eq, tup3, xor3, acc_lane hi, fin_told]
    exact reduce_told _ (Nat.mod_lt _ (by decide))
  rw [key i hi, key j hj] at h
  exact lanes_apart hi hj h
end GX
/-! rules of my own over the hand layer: text * int, enumerate(text) -/
namespace TR
open PySem PySem.Spec PyProof.Rows L2
abbrev Sg (l : List Nat) : Str := ⟨l.toArray⟩
abbrev tl (s : Str) : List Nat := s.cps.toList
theorem sg_tl (s : Str) : Sg (tl s) = s := rfl
theorem ext_tl {a b : Str} (h : tl a = tl b) : a = b := by
  cases a
  cases b
  exact congrArg Str.mk (Array.toList_inj.mp h)
theorem len_tl (s : Str) : s.length = (tl s).length := rfl
/-! ### text * int -/
def repL (l : List Nat) (k : Int) : List Nat := (List.replicate k.toNat l).flatten
def rRepS : R2 := fun x y H Q => ∃ (s : Str) (k : Int), x = .str s ∧ y = .int k ∧ k ≤ 1000 ∧ -1000 ≤ k ∧ s.length ≤ 1000 ∧ Q (.str (Sg (repL (tl s) k))) H
theorem fold_cps (x : Array Nat) : ∀ (m : Nat) (b : Array Nat), ((List.replicate m x).foldl (· ++ ·) b).toList = b.toList ++ (List.replicate m x.toList).flatten
  | 0, b => by simp
  | m + 1, b => by
    rw [List.replicate_succ, List.foldl_cons, fold_cps x m, List.replicate_succ, List.flatten_cons, Array.toList_append, List.append_assoc]
theorem op_repS {X : Cx} : OpR X (binaryOp .Mult) rRepS := by
  intro pins s σ H x y v u Q I rx ry h
  obtain ⟨i, k, rfl, rfl, h1, h2, hz, q⟩ := h
  obtain ⟨t, rfl⟩ := rx
  obtain ⟨t', rfl⟩ := ry
  have hm : (i.length : Int) * k ≤ 1000000 := by
    by_cases kz : 0 ≤ k
    · have a1 : (i.length : Int) * k ≤ 1000 * k := Int.mul_le_mul_of_nonneg_right (by omega) kz
      omega
    · have a1 := Int.mul_nonneg (show (0 : Int) ≤ i.length by omega) (show (0 : Int) ≤ -k by omega)
      rw [Int.mul_neg] at a1
      omega
  refine P.mul_str (by
    rw [decide_eq_false (by omega : ¬ k < -(2 ^ 63 : Int)), decide_eq_false (by omega : ¬ k ≥ 2 ^ 63)]
    rfl) (fun hk _ => ?_) (fun hk _ => ?_) ?_
  · have := (Int.le_ediv_iff_mul_le (show 0 < k by omega)).mpr (show (i.length : Int) * k ≤ 2 ^ 63 - 1 by omega)
    omega
  · have e : i.length * k.toNat ≤ 1000000 := by
      have : ((i.length * k.toNat : Nat) : Int) = (i.length : Int) * k := by
        rw [Int.natCast_mul, Int.toNat_of_nonneg (by omega)]
      omega
    show decide (i.length * k.toNat > sizeLine) = false
    refine decide_eq_false ?_
    rw [sizeLine_eq]
    omega
  · have end_ : ∀ (z : Str), tl z = repL (tl i) k → V.str z = V.str (Sg (repL (tl i) k)) := fun z e => by rw [← e]
    by_cases h1 : k < 1
    · rw [if_pos h1]
      refine ⟨Nat.zero_le _, .str (Sg (repL (tl i) k)), H, I.tok _, ⟨s.toks, ?_⟩, q⟩
      have e : repL (tl i) k = [] := by
        unfold repL
        rw [show k.toNat = 0 by omega]
        rfl
      rw [e]
      rfl
    · rw [if_neg h1]
      cases hc : (k == 1 || i.length == 0)
      · rw [if_neg Bool.false_ne_true]
        have e := fold_cps i.cps k.toNat #[]
        rw [Array.toList_empty, List.nil_append] at e
        have e2 : (⟨(List.replicate k.toNat i.cps).foldl (· ++ ·) #[]⟩ : Str) = Sg (repL (tl i) k) := ext_tl e
        have lz : (repL (tl i) k).length ≤ sizeLine := by
          unfold repL
          rw [PyProof.Rows.lm_len_rep_flat, sizeLine_eq]
          have : ((k.toNat * (tl i).length : Nat) : Int) = (i.length : Int) * k := by
            rw [Int.natCast_mul, Int.toNat_of_nonneg (by omega), Int.mul_comm]
            rfl
          omega
        show (Made.str ⟨(List.replicate k.toNat i.cps).foldl (· ++ ·) #[]⟩).post _ _
        rw [e2]
        exact ⟨lz, .str (Sg (repL (tl i) k)), H, I.tok _, ⟨s.toks, rfl⟩, q⟩
      · rw [if_pos rfl]
        refine ⟨.str (Sg (repL (tl i) k)), H, I, ⟨t, ?_⟩, q⟩
        refine congrArg (Value.str · t) (ext_tl ?_)
        show tl i = repL (tl i) k
        unfold repL
        rcases Bool.or_eq_true_iff.mp hc with z | z
        · rw [beq_iff_eq.mp z]
          show tl i = [tl i].flatten
          simp
        · have z : (tl i) = [] := List.eq_nil_of_length_eq_zero (beq_iff_eq.mp z)
          rw [z]
          simp
/-! ### enumerate(text) -/
def Ites (x : Str) : It := ⟨fun i _ => i < x.cps.size, fun i H v H' => ∃ T c, v = .ref T ∧ H T = none ∧ H' = upd H T (.tup [.int (i : Nat), .str ⟨#[c]⟩]) ∧ x.cps[i]? = some c, fun i _ => i = x.cps.size⟩
theorem turn_enumS {P : Program} {w : World} {K : PySem.W.Frag} {elts : List Expr} {kk : Nat} {tpos : Pos} (x : Str) (t : Tok) (ty : String) (hty : ty = "str_ascii_iterator" ∨ ty = "str_iterator") (e it : Addr) :
    Turn P w K (.Tuple elts kk tpos) (Ites x) [e, it] e (fun i h => (∃ old, IsEnum h e it ((i : Nat) : Int) old) ∧ h.IsStrIter it ty x t i ∧ e ≠ it) where
  mem := by simp
  obj := fun i h st b hb => by
    obtain ⟨⟨old, he⟩, ⟨o, ho, hc, hd⟩, _⟩ := st
    have e' : b = e ∨ b = it := by simpa using hb
    rcases e' with z | z
    · rw [z]; exact ⟨_, he, fun v q => nomatch q⟩
    · rw [z]; exact ⟨o, ho, fun v q => by rw [hd] at q; cases q⟩
  keep := fun i h h' st k => let ⟨⟨old, he⟩, ⟨o, ho, r⟩, hne⟩ := st; ⟨⟨old, k e (by simp) _ he⟩, ⟨o, k it (by simp) o ho, r⟩, hne⟩
  item := by
    intro X hP hw hK hc i pins s σ H E I hf st hg
    subst hP hw hK
    obtain ⟨⟨old, he⟩, hit, hne⟩ := st
    have hel : e < s.heap.objs.size := Heap.lt_size he
    have hil : it < s.heap.objs.size := by obtain ⟨_, q, _⟩ := hit; exact Heap.lt_size q
    have D : Draws X.prog X.w X.A.in1 it [it] x.cps.size (fun i v => ∃ c u, x.cps[i]? = some c ∧ v = .str ⟨#[c]⟩ u) (fun i h => h.IsStrIter it ty x t i) := by
      rcases hty with z | z
      · rw [z]; exact Draws.strAscii (A := X.A.in1) (I.ok.hd hc) it x t
      · rw [z]; exact Draws.strWide (A := X.A.in1) (I.ok.hd hc) it x t
    refine wpAny_pyNext_enum_itemC D he hit hg hne (by simpa using hne) fun y h' tk hy ho hit' hT hsz hk => ?_
    obtain ⟨c, u, hcx, rfl⟩ := hy
    refine ⟨_, rfl, wpAny_letOwnedTupleGo_enum (s := { s with heap := h', toks := tk + 1 }) ho fun h'' he' sb => ?_⟩
    have hT2 : h''.get? s.heap.objs.size = some { cls := .type "tuple", data := .seq #[.int i tk, .str ⟨#[c]⟩ u] } := (sb.2 _ (Nat.ne_of_gt hel)).trans hT
    have new : ObjOk X.prog X.w (upd H s.heap.objs.size (.tup [.int (i : Nat), .str ⟨#[c]⟩])) h'' s.heap.objs.size (.tup [.int (i : Nat), .str ⟨#[c]⟩]) :=
      ⟨by show 2 ≤ sizeLine; decide, [.int i tk, .str ⟨#[c]⟩ u], .cons ⟨_, rfl⟩ (.cons ⟨_, rfl⟩ .nil), ⟨_, hT2, rfl, _, rfl⟩⟩
    have I1 : Inv X pins σ (upd H s.heap.objs.size (.tup [.int (i : Nat), .str ⟨#[c]⟩])) { s with heap := h'', toks := tk + 1 } :=
      I.turnedNew (ch := [e, it]) (fun b ob hb q => (sb.2 b (fun z => hb (by simp [z]))).trans (hk b ob (fun z => hb (by simp [z])) (fun z => hb (by simp [z])) q)) hf (Nat.le_refl _) new
    refine ⟨.ref s.heap.objs.size, _, I1, rfl, ⟨_, c, rfl, I.hok.fresh (Nat.le_refl _), rfl, hcx⟩, ⟨⟨.str ⟨#[c]⟩ u, ?_⟩, ?_, hne⟩, fun b hb => ?_⟩
    · have e1 : ((i + 1 : Nat) : Int) = (i : Int) + 1 := by omega
      rw [e1]; exact he'
    · obtain ⟨o, ho2, r⟩ := hit'
      exact ⟨o, (sb.2 it (Ne.symm hne)).trans ho2, r⟩
    · have hb' : b < s.heap.objs.size := by
        have e' : b = e ∨ b = it := by simpa using hb
        rcases e' with z | z
        · rw [z]; exact hel
        · rw [z]; exact hil
      rw [upd_ne (Nat.ne_of_lt hb')]
      exact (hf b hb).1
  done := by
    intro X hP hw hK hc i pins s σ H E I hf st hg
    subst hP hw hK
    obtain ⟨⟨old, he⟩, hit, hne⟩ := st
    obtain ⟨f0, f1, f2, f3, f4, f5⟩ := hf it (by simp)
    have D : Draws X.prog X.w X.A.in1 it [it] x.cps.size (fun i v => ∃ c u, x.cps[i]? = some c ∧ v = .str ⟨#[c]⟩ u) (fun i h => h.IsStrIter it ty x t i) := by
      rcases hty with z | z
      · rw [z]; exact Draws.strAscii (A := X.A.in1) (I.ok.hd hc) it x t
      · rw [z]; exact Draws.strWide (A := X.A.in1) (I.ok.hd hc) it x t
    have hg' : i = x.cps.size := hg
    subst hg'
    exact wpAny_pyNext_enum_endD D he hit fun h' eb => ⟨rfl, I.turned (t' := s.toks) (fun b o hb q => eb b o hb q) f0 f1 f3 f4 f5⟩
  self := fun A i s Q E st h => let ⟨⟨_, he⟩, _⟩ := st; wpAny_pyIter_enum he h
def iEnumS (ta : TA) : TI := fun σ H R => ta σ H fun vs H1 => ∃ x, vs = [.str x] ∧ R (Ites x) H1
theorem pi_enumS {X : Cx} {e : Expr} {ta : TA} {p pos tpos : Pos} {elts : List Expr} {kk : Nat} (hg : Gl X "enumerate") (hm : X.mg "enumerate" = none) (ha : PA X [e] ta) (hs : starEach [e] X.env = [(false, eval e X.env)] := by rfl) :
    PI X (.Tuple elts kk tpos) (.Call (.Name "enumerate" p) [e] [] pos) (iEnumS ta) := by
  refine ⟨fun pins s σ H R I h => ?_⟩
  refine Call_ (ld_blt I hg hm boot_enumerate (PyProof.Rows.callWith_type1 (thn (ha.run pos pins s σ H _ I h) fun us s1 ⟨vs, H1, I1, r1, q1⟩ => ?_) hs rfl))
  obtain ⟨x, ex, q⟩ := q1
  subst ex
  cases r1 with
  | cons r rr =>
    cases rr
    obtain ⟨t, rfl⟩ := r
    refine call_enumerate_str fun h' he hit hsz hk => wpAny_pyIter_enum he ?_
    have I2 : Inv X pins σ H1 { s1 with heap := h' } := I1.kept (t' := s1.toks) hk
    refine ⟨s1.heap.objs.size + 1, [s1.heap.objs.size + 1, s1.heap.objs.size], _, _, H1, rfl, I2, turn_enumS x t (strIterType x) (by unfold strIterType; split <;> simp) (s1.heap.objs.size + 1) s1.heap.objs.size, ⟨⟨.none, he⟩, hit, Nat.succ_ne_self _⟩, fun b hb => ?_, q⟩
    have e' : b = s1.heap.objs.size + 1 ∨ b = s1.heap.objs.size := by simpa using hb
    have hle : s1.heap.objs.size ≤ b := by
      rcases e' with z | z
      · rw [z]; exact Nat.le_add_right _ _
      · rw [z]; exact Nat.le_refl _
    exact I1.fpOk hle (I1.hok.fresh hle)
theorem walk_enumS (x : Str) : Walk (Ites x) x.cps.size (fun _ => True) (fun i H v H' => ∃ T c, v = .ref T ∧ H T = none ∧ H' = upd H T (.tup [.int (i : Nat), .str ⟨#[c]⟩]) ∧ x.cps[i]? = some c) where
  goes := fun i H h _ => h
  stops := fun H _ => rfl
  yields := fun i H v H' h _ y => y
theorem for_enumS {x : Str} {g : TG} {tb : TS} {D : Ends} {σ : L2.St} {H : Hp} (Pv : Nat → L2.St → Hp → Prop) (h0 : Pv 0 σ H)
    (hs : ∀ i c T σ H, (tl x)[i]? = some c → Pv i σ H → H T = none → g (.ref T) σ (upd H T (.tup [.int (i : Nat), .str ⟨#[c]⟩])) fun σ2 H2 => tb { D with nx := Pv (i + 1), ct := Pv (i + 1), bk := D.nx } σ2 H2) (hd : ∀ σ H, Pv (tl x).length σ H → D.nx σ H) :
    ∃ W : Nat → Nat → L2.St → Hp → Prop, (∃ m, W 0 m σ H) ∧ ∀ i m σ H, W i m σ H →
      ((Ites x).stop i H ∧ D.nx σ H) ∨ ((Ites x).go i H ∧ ∃ N : L2.St → Hp → Prop, (∀ σ' H', N σ' H' → ∃ m', m' < m ∧ W (i + 1) m' σ' H') ∧ ∀ v H', (Ites x).yld i H v H' → g v σ H' fun σ2 H2 => tb { D with nx := N, ct := N, bk := D.nx } σ2 H2) :=
  for_it (walk_enumS x) Pv h0 (fun _ _ _ _ _ => trivial) (fun i v σ H H' hi hp ⟨T, c, e1, e2, e3, e4⟩ => by
    subst e1
    subst e3
    exact hs i c T σ H (by rw [Array.getElem?_toList]; exact e4) hp e2) (fun σ H hp => hd σ H hp)
end TR
namespace QR
open PySem PySem.Spec PyProof.Rows L2
section
variable {X : Cx}
def rEqP (K : PySem.W.Frag) : R2 := fun x y H Q => ∃ d e, Dp K H x d ∧ Dp K H y e ∧ d.plain = true ∧ e.plain = true ∧ d.depth ≤ 60 ∧ Q (.bl (PyData.eqv d e)) H
def rNeP (K : PySem.W.Frag) : R2 := fun x y H Q => ∃ d e, Dp K H x d ∧ Dp K H y e ∧ d.plain = true ∧ e.plain = true ∧ d.depth ≤ 60 ∧ Q (.bl (!PyData.eqv d e)) H
theorem op_eqP (hu : X.A.units + 64 < cLine) : OpR X (compareOp .Eq) (rEqP X.K) := fun pins s σ H x y v u Q I rx ry ⟨d, e, hd, he, pd, pe, dd, q⟩ => by
  obtain ⟨as, r1⟩ := Dp.reads I d x v hd rx
  obtain ⟨bs, r2⟩ := Dp.reads I e y u he ry
  exact PySem.SeqAt.eq_plain r1 r2 pd pe (by omega) ⟨.bl _, H, I, rfl, q⟩
theorem op_neP (hu : X.A.units + 64 < cLine) : OpR X (compareOp .NotEq) (rNeP X.K) := fun pins s σ H x y v u Q I rx ry ⟨d, e, hd, he, pd, pe, dd, q⟩ => by
  obtain ⟨as, r1⟩ := Dp.reads I d x v hd rx
  obtain ⟨bs, r2⟩ := Dp.reads I e y u he ry
  exact PySem.SeqAt.ne_plain r1 r2 pd pe (by omega) ⟨.bl _, H, I, rfl, q⟩
end
/-! ### == and != of values with a Lean type -/
section
variable {α : Type} [DecidableEq α] [PySem.W.Datum α] {K : PySem.W.Frag} {H : Hp} {x y : V} {a b : α} {Q : VK}
theorem eq_dat (hx : Dp K H x (PySem.W.Datum.toD a)) (hy : Dp K H y (PySem.W.Datum.toD b)) (hd : PySem.W.Datum.depth α ≤ 60) (q : Q (.bl (decide (a = b))) H) : rEqP K x y H Q :=
  ⟨_, _, hx, hy, PySem.W.Datum.plain a, PySem.W.Datum.plain b, Nat.le_trans (PySem.W.Datum.depth_le a) hd, by rw [PySem.W.Datum.eqv]; exact q⟩
theorem ne_dat (hx : Dp K H x (PySem.W.Datum.toD a)) (hy : Dp K H y (PySem.W.Datum.toD b)) (hd : PySem.W.Datum.depth α ≤ 60) (q : Q (.bl (!decide (a = b))) H) : rNeP K x y H Q :=
  ⟨_, _, hx, hy, PySem.W.Datum.plain a, PySem.W.Datum.plain b, Nat.le_trans (PySem.W.Datum.depth_le a) hd, by rw [PySem.W.Datum.eqv]; exact q⟩
end
end QR
/-! dict(d), d == e of dicts keyed by nested tuples; what can be read stays -/
namespace GX
open PySem PySem.Spec PyProof.Rows L2 GxR
/-- what can be read can be read later too (objects of own classes aside) -/
def RS (H H' : Hp) : Prop := ∀ a u, (∀ o v, u ≠ .frz o v) → (∀ C dx fs, u ≠ .ins C dx fs) → Rd H a u → Rd H' a u
theorem RS.refl {H : Hp} : RS H H := fun _ _ _ _ h => h
theorem RS.trans {H H1 H2 : Hp} (a : RS H H1) (b : RS H1 H2) : RS H H2 := fun x u n m h => b x u n m (a x u n m h)
theorem rs_same {H H' : Hp} (s : Same H H') : RS H H' := fun a u _ _ h => by
  rcases h with h | ⟨o, h⟩
  · exact .inl (s a _ h)
  · exact .inr ⟨o, s a _ h⟩
theorem rs_lock {H : Hp} {d : Addr} {u : HO} {o : Obj} (h : H d = some u) (n : ∀ o v, u ≠ .frz o v) : RS H (upd H d (.frz o u)) := fun a v _ _ r => by
  by_cases e : a = d
  · subst e
    rcases r with r | ⟨o', r⟩
    · rw [h] at r
      cases r
      exact .inr ⟨o, upd_same⟩
    · rw [h] at r
      cases r
      exact absurd rfl (n o' v)
  · rcases r with r | ⟨o', r⟩
    · exact .inl ((upd_ne e).trans r)
    · exact .inr ⟨o', (upd_ne e).trans r⟩
theorem rs_unlock {H : Hp} {d : Addr} {u : HO} {o : Obj} (h : H d = some (.frz o u)) : RS H (upd H d u) := fun a v n _ r => by
  by_cases e : a = d
  · subst e
    rcases r with r | ⟨o', r⟩
    · rw [h] at r
      cases r
      exact absurd rfl (n o u)
    · rw [h] at r
      cases r
      exact .inl upd_same
  · rcases r with r | ⟨o', r⟩
    · exact .inl ((upd_ne e).trans r)
    · exact .inr ⟨o', (upd_ne e).trans r⟩
theorem rs_ins {H : Hp} {x C dx : Addr} {fs : List (Str × V)} {o : HO} (h : H x = some (.ins C dx fs)) : RS H (upd H x o) := fun a v _ m r => by
  by_cases e : a = x
  · subst e
    rcases r with r | ⟨o', r⟩
    · rw [h] at r
      cases r
      exact absurd rfl (m C dx fs)
    · rw [h] at r
      cases r
  · rcases r with r | ⟨o', r⟩
    · exact .inl ((upd_ne e).trans r)
    · exact .inr ⟨o', (upd_ne e).trans r⟩
theorem RS.dn {κ : Type} [DecidableEq κ] {T : KT κ} {P : Program} {w : World} {H H' : Hp} {a : Addr} {es : List (κ × Addr × V)} (s : RS H H') (h : Rd H a (dNO T P w a es)) : Rd H' a (dNO T P w a es) := s _ _ (fun _ _ h => nomatch h) (fun _ _ _ h => nomatch h) h
section
variable {K : PySem.W.Frag} {H H' : Hp}
theorem RS.sqt (s : RS H H') {a : Addr} {xs : List V} (h : SqT K H a xs) : SqT K H' a xs := h.imp (s _ _ (fun _ _ h => nomatch h) (fun _ _ _ h => nomatch h)) id
theorem RS.sql (s : RS H H') {a : Addr} {xs : List V} (h : SqL K H a xs) : SqL K H' a xs := h.imp (s _ _ (fun _ _ h => nomatch h) (fun _ _ _ h => nomatch h)) id
mutual
theorem Dp.rs (s : RS H H') : ∀ (d : PyData) (v : V), Dp K H v d → Dp K H' v d
  | .none, _, h => by cases h; exact .non
  | .bool b, _, h => by cases h; exact .bl b
  | .int i, _, h => by cases h; exact .int i
  | .str x, _, h => by cases h; exact .str x
  | .list ds, _, h => by
    cases h with
    | lst hs ha => exact .lst (s.sql hs) (Dp.rsAll s ds _ ha)
  | .tuple ds, _, h => by
    cases h with
    | tup hs ha => exact .tup (s.sqt hs) (Dp.rsAll s ds _ ha)
  | .dict _, _, h => nomatch h
theorem Dp.rsAll (s : RS H H') : ∀ (ds : List PyData) (vs : List V), DpAll K H vs ds → DpAll K H' vs ds
  | [], _, h => by cases h; exact .nil
  | d :: ds, _, h => by
    cases h with
    | cons h1 h2 => exact .cons (Dp.rs s d _ h1) (Dp.rsAll s ds _ h2)
end
end
/-- tuples stay: enough for data of ints, texts and tuples -/
def TSt (K : PySem.W.Frag) (H H' : Hp) : Prop := ∀ x ys, SqT K H x ys → SqT K H' x ys
section
variable {K : PySem.W.Frag} {H H' : Hp}
theorem RS.tst (s : RS H H') : TSt K H H' := fun _ _ h => s.sqt h
theorem TSt.refl : TSt K H H := fun _ _ h => h
theorem TSt.trans {H2 : Hp} (a : TSt K H H') (b : TSt K H' H2) : TSt K H H2 := fun x ys h => b x ys (a x ys h)
/-- something that is no tuple is written -/
theorem tst_upd {E : Addr} {o o' : HO} (e : H E = some o) (n : ∀ xs, o ≠ .tup xs) (n' : ∀ p xs, o ≠ .frz p (.tup xs)) : TSt K H (upd H E o') := fun x zs h => by
  rcases h with r | r
  · by_cases q : x = E
    · subst q
      rcases r with r | ⟨p, r⟩
      · rw [e] at r
        cases r
        exact absurd rfl (n zs)
      · rw [e] at r
        cases r
        exact absurd rfl (n' p zs)
    · rcases r with r | ⟨p, r⟩
      · exact .inl (.inl ((upd_ne q).trans r))
      · exact .inl (.inr ⟨p, (upd_ne q).trans r⟩)
  · exact .inr r
mutual
theorem Dp.tst (s : TSt K H H') : ∀ (d : PyData) (v : V), kd d = true → Dp K H v d → Dp K H' v d
  | .int i, _, _, h => by cases h; exact .int i
  | .str x, _, _, h => by cases h; exact .str x
  | .tuple ds, _, k, h => by
    cases h with
    | tup hs ha => exact .tup (s _ _ hs) (Dp.tstAll s ds _ (by rw [kd] at k; exact k) ha)
  | .none, _, k, _ => by simp [kd] at k
  | .bool _, _, k, _ => by simp [kd] at k
  | .list _, _, k, _ => by simp [kd] at k
  | .dict _, _, k, _ => by simp [kd] at k
theorem Dp.tstAll (s : TSt K H H') : ∀ (ds : List PyData) (vs : List V), kdAll ds = true → DpAll K H vs ds → DpAll K H' vs ds
  | [], _, _, h => by cases h; exact .nil
  | d :: ds, _, k, h => by
    rw [kdAll, Bool.and_eq_true] at k
    cases h with
    | cons h1 h2 => exact .cons (Dp.tst s d _ k.1 h1) (Dp.tstAll s ds _ k.2 h2)
end
end
section
variable {κ : Type} [DecidableEq κ] {T : KT κ} {K : PySem.W.Frag} {H H' : Hp}
theorem KT.ts {v : V} {k : κ} (s : TSt K H H') (h : Dp K H v (T.enc k)) : Dp K H' v (T.enc k) := Dp.tst s _ _ (T.kd k) h
theorem KeysAt.ts {es : List (κ × Addr × V)} (s : TSt K H H') (h : KeysAt T K H es) : KeysAt T K H' es := fun e he => KT.ts s (h e he)
end
section
variable {κ : Type} [DecidableEq κ] {T : KT κ} {X : Cx} {pins : List (Addr × Obj)} {σ : L2.St} {H : Hp} {s : Shared}
theorem call_dict_H {prog : Program} {w : World} {κ' : Type} [DecidableEq κ'] {knd : HeapKind prog w κ'} {A : Around} {E : Value → Shared → Prop} {s : Shared} {o : Addr} {more : List (κ' × Addr × Value)} {Q : Value → Shared → Prop} (hu : knd.room A.in1.in1) (hoS : (o == sysModules) = false) (ho : s.heap.DictOfH knd o more) (ho' : (s.heap.push { cls := .type "dict", data := .dict #[] }).DictOfH knd o more)
    (hap : (∀ x ∈ more, Shared.TypeIs { s with heap := s.heap.push { cls := .type "dict", data := .dict #[] } } (.ref x.2.1) "tuple") ∧ (more.map fun x => knd.hash x.1).Nodup) (hsz : more.length ≤ sizeLine)
    (h : ∀ h', h'.DictOfH knd s.heap.objs.size more → Heap.SameBut s.heap.objs.size (s.heap.push { cls := .type "dict", data := .dict #[] }) h' → Q (.ref s.heap.objs.size) { s with heap := h' }) :
    wpAny (model prog w) A (call (.type "dict") [.ref o]) Q E s := by
  refine callType_codes (Q₁ := fun obj s₁ => obj = .ref s.heap.objs.size ∧ s₁ = { s with heap := s.heap.push { cls := .type "dict", data := .dict #[] } }) F.kt_called_dict (F.kt_typeCall_dict_1 _) F.entry_dict_init (kt_code_dict_new _ ⟨rfl, rfl⟩) ?_
  rintro obj s₁ ⟨rfl, rfl⟩
  have hnew : (s.heap.push { cls := .type "dict", data := .dict #[] }).DictOfH knd s.heap.objs.size [] := Heap.DictOfH.new s.heap
  have hdo : s.heap.objs.size ≠ o := by
    obtain ⟨_, _, _, hg, _⟩ := ho
    exact fun e => absurd (Heap.lt_size hg) (by rw [e]; exact Nat.lt_irrefl _)
  have hn := ho.nodup
  have hT : Shared.TypeIs { s with heap := s.heap.push { cls := .type "dict", data := .dict #[] } } (.ref s.heap.objs.size) "dict" := ⟨_, Heap.get?_push_size _ rfl, rfl⟩
  refine ⟨hT, F.args_dict_init_2 _ _, ?_⟩
  unfold Builtin.«dict.__init__»
  refine wpAny_bind ?_
  unfold Builtin.Dict.selfAndRest
  refine wpAny_bind (wpAny_notOrdered_dict hT ?_)
  show wpAny _ _ (pure (s.heap.objs.size, [Value.ref o])) _ _ _
  refine wpAny_pure ?_
  show wpAny _ _ (Builtin.Dict.updateFrom "dict.__init__" s.heap.objs.size (.ref o) [] .none) _ _ _
  refine updateFrom_dictH (A := A.in1) .none hu hdo hoS hnew ho' (.inr hap) (by simpa using hsz) fun h' hd' _ hs' => ?_
  rw [storedAllH_nil_of_nodup more hn] at hd'
  exact ⟨rfl, h h' hd' hs'⟩
/-- dict(d) -/
theorem cr_dictN (hu : X.A.units + 64 < cLine) : CallR X (.type "dict") (fun xs H Q => ∃ (a : Addr) (es : List (κ × Addr × V)), xs = [.ref a] ∧ Rd H a (dNO T X.prog X.w a es) ∧ KeysAt T X.K H es ∧ (es.map fun e => NestedKey.hash X.w (keyN (T.enc e.1))).Nodup ∧ ∀ p, H p = none → Q (.ref p) (upd H p (dNO T X.prog X.w p es))) := by
  intro pins s σ H xs us Q I r q
  obtain ⟨a, es, ex, hd, hk, hh, q⟩ := q
  subst ex
  obtain ⟨u, eu, rx⟩ := vals1 r
  subst eu
  cases rx
  obtain ⟨z, l, us, hv, hm⟩ := dict_of I hd hk
  have ls : (rowsN T es us).length = es.length := by
    unfold rowsN
    rw [List.length_map, List.length_zip, ← hv.length, List.length_map, Nat.min_self]
  obtain ⟨_, _, nd, _⟩ := dn0_of I hd
  have lu : us.length = es.length := by rw [← hv.length, List.length_map]
  have eh : ((rowsN T es us).map fun x => (nestedKind X.prog X.w).hash x.1) = es.map fun e => NestedKey.hash X.w (keyN (T.enc e.1)) := by
    unfold rowsN
    rw [List.map_map]
    conv => rhs; rw [show es = (es.zip us).map Prod.fst from (List.map_fst_zip (by omega)).symm, List.map_map]
    rfl
  have h63 := line63
  have hm' : (s.heap.push { cls := .type "dict", data := .dict #[] }).DictOfH (nestedKind X.prog X.w) a (rowsN T es us) := by
    obtain ⟨o, ds, ep, g1, g2, g3, g4, g5, g6⟩ := id hm
    exact ⟨o, ds, ep, Heap.get?_push_of_some _ g1, g2, g3, g4, fun x hx => nestedKind_stays.stays (fun b o _ _ e _ => Heap.get?_push_of_some _ e) (g5 x hx), g6⟩
  refine call_dict_H (knd := nestedKind X.prog X.w) (by show X.A.units + 1 + 1 + 8 < cLine; omega) z hm hm' ⟨fun x hx => ?_, by rw [eh]; exact hh⟩ (by rw [ls]; omega) fun h' hd' hs' => ?_
  · obtain ⟨_, _, _, _, _, _, _, g5, _⟩ := hm'
    exact nestedKind_stays.tuple (g5 x hx)
  · have z' : (s.heap.objs.size == sysModules) = false := beq_eq_false_iff_ne.mpr (Nat.ne_of_gt I.big)
    obtain ⟨o', ds, ep, ho, hx, hdd, hr, _, _⟩ := hd'
    have R : DN0 T X.prog X.w h' s.heap.objs.size es := ⟨z', l, nd, o', ds, ep, us, ho, hx, hdd, hv, hr⟩
    exact ⟨.ref s.heap.objs.size, _, I.laid (t' := s.toks) (fun b u e => (hs'.2 b (Nat.ne_of_lt (Heap.lt_size e))).trans (Heap.get?_push_of_some _ e)) (Nat.le_refl _) (dNO_ok T R), rfl, q _ (I.hok.fresh (Nat.le_refl _))⟩
end
end GX
/-! d == e of dicts keyed by nested tuples -/
namespace GX
open PySem PySem.Spec PyProof.Rows PyProof.V L2 GxR
section
variable {prog : Program} {w : World} {K : Type} [DecidableEq K] {knd : HeapKind prog w K} {A : Around} {E : Value → Shared → Prop} {s : Shared}
inductive HitsH {K : Type} [DecidableEq K] (prog : Program) (w : World) (A : Around) (s : Shared) (kb : List (K × Addr × Value)) : List (K × Addr × Value) → Bool → Prop
  | nil : HitsH prog w A s kb [] true
  | miss {k : K} {a : Addr} {v : Value} {r : List (K × Addr × Value)} : atKey kb k = none → HitsH prog w A s kb ((k, a, v) :: r) false
  | hit {k : K} {a b : Addr} {v y : Value} {r : List (K × Addr × Value)} {e c : Bool} : atKey kb k = some (b, y) → SeqAt.EqP prog w A s v y e → HitsH prog w A s kb r c → HitsH prog w A s kb ((k, a, v) :: r) (e && c)
theorem HitsH.inv {kb : List (K × Addr × Value)} {k : K} {a : Addr} {v : Value} {r : List (K × Addr × Value)} {b : Bool} (h : HitsH prog w A s kb ((k, a, v) :: r) b) :
    (atKey kb k = none ∧ b = false) ∨ ∃ c y e b', atKey kb k = some (c, y) ∧ SeqAt.EqP prog w A s v y e ∧ HitsH prog w A s kb r b' ∧ b = (e && b') := by
  cases h with
  | miss hn => exact .inl ⟨hn, rfl⟩
  | hit hy he hr => exact .inr ⟨_, _, _, _, hy, he, hr, rfl⟩
theorem at_of_get {ys : List (K × Addr × Value)} {k : K} {j : Nat} {p : Addr × Value} (n : (ys.map (·.1)).Nodup) (h : ys[j]? = some (k, p)) : atKey ys k = some p := by
  induction ys generalizing j with
  | nil => cases h
  | cons y ys ih =>
    rw [List.map_cons, List.nodup_cons] at n
    cases j with
    | zero =>
      simp only [List.getElem?_cons_zero, Option.some.injEq] at h
      subst h
      unfold atKey
      simp
    | succ j =>
      rw [List.getElem?_cons_succ] at h
      have := ih n.2 h
      have hm : k ∈ ys.map (·.1) := List.mem_map.mpr ⟨(k, p), List.mem_of_getElem? h, rfl⟩
      have hk : y.1 ≠ k := fun e => n.1 (by rw [e]; exact hm)
      unfold atKey at this ⊢
      simp only [List.find?_cons]
      rw [show decide (y.1 = k) = false from decide_eq_false hk]
      exact this
theorem at_none {ys : List (K × Addr × Value)} {k : K} (h : ∀ (j : Nat) (p : Addr × Value), ys[j]? ≠ some (k, p)) : atKey ys k = none := by
  unfold atKey
  cases e : ys.find? fun x => decide (x.1 = k) with
  | none => rfl
  | some x =>
    obtain ⟨j, hj⟩ := List.getElem?_of_mem (List.mem_of_find?_eq_some e)
    have hk : x.1 = k := of_decide_eq_true (List.find?_some (p := fun x : K × Addr × Value => decide (x.1 = k)) e)
    exact absurd (by rw [hj, ← hk]) (h j x.2)
theorem samePairsH {nm : String} {a b : Addr} {ka kb : List (K × Addr × Value)} {r : Bool} {Q : Bool → Shared → Prop} (hu : knd.room A) (ha : (a == sysModules) = false) (hb : (b == sysModules) = false)
    (da : s.heap.DictOfH knd a ka) (db : s.heap.DictOfH knd b kb) (hits : ka.length = kb.length → HitsH prog w A s kb ka r) (h : Q (ka.length == kb.length && r) s) :
    wpAny (model prog w) A (Builtin.Dict.samePairs nm a b) Q E s := by
  obtain ⟨oa, es, ep, hoa, _, hda, hea, hia, hna⟩ := da
  obtain ⟨ob, es', ep', hob, _, hdb, heb, hib, hnb⟩ := db
  have hla : ka.length = es.size := (size_of_entries hea).symm
  have hlb : kb.length = es'.size := (size_of_entries heb).symm
  rw [hla, hlb] at h
  unfold Builtin.Dict.samePairs Builtin.Dict.showsAll
  rw [if_neg (show ¬ (a == sysModules) = true by rw [ha]; exact Bool.false_ne_true), if_neg (show ¬ (b == sysModules) = true by rw [hb]; exact Bool.false_ne_true)]
  refine wpAny_bind (wpAny_pure (wpAny_bind (wpAny_pure ?_)))
  refine wpAny_bind (wpAny_dictEntries hoa hda ?_)
  dsimp only
  refine wpAny_bind (wpAny_dictEntries hob hdb ?_)
  by_cases hsz : es.size = es'.size
  case neg =>
    rw [if_pos (by simpa using hsz)]
    have hbf : (es.size == es'.size) = false := by simpa using hsz
    rw [hbf, Bool.false_and] at h
    exact wpAny_bind (wpAny_rule (wpAny_pure h))
  case pos =>
    have h' : Q r s := by simpa [hsz] using h
    have hits' := hits (by rw [hla, hlb]; exact hsz)
    rw [if_neg (by rw [hsz]; simp)]
    refine wpAny_bind (wpAny_dictEpoch hoa hda ?_)
    refine wpAny_bind ?_
    rw [Std.Legacy.Range.forIn_eq_forIn_range']
    simp only [Std.Legacy.Range.size, Nat.sub_zero, Nat.add_sub_cancel, Nat.div_one]
    refine wpAny_forIn_list _
      (fun rest q s' => s' = s ∧ q = (none, ()) ∧ ∃ i, rest = List.range' i (es.size - i) ∧ i ≤ es.size ∧ HitsH prog w A s kb (ka.drop i) r)
      _ ?_ ?_ _ _ ⟨rfl, rfl, 0, by simp, Nat.zero_le _, hits'⟩
    · rintro x rest q s' ⟨rfl, rfl, i, hr, hi, hpre⟩
      have hlt : i < es.size := by
        rcases Nat.lt_or_ge i es.size with h | h
        · exact h
        · rw [Nat.sub_eq_zero_of_le h] at hr; simp at hr
      obtain ⟨rfl, hrest⟩ : x = i ∧ rest = List.range' (i + 1) (es.size - (i + 1)) := by
        have e : es.size - i = (es.size - (i + 1)) + 1 := by omega
        rw [e, List.range'_succ] at hr
        injection hr with h1 h2
        exact ⟨h1, h2⟩
      refine wpAny_bind (wpAny_dictEntries hoa hda ?_)
      have hlt' : x < ka.length := by rw [hla]; exact hlt
      obtain ⟨k, ad, v, hkv⟩ : ∃ k ad v, ka[x] = (k, ad, v) := ⟨_, _, _, rfl⟩
      have hdrop : ka.drop x = (k, ad, v) :: ka.drop (x + 1) := by rw [← hkv]; exact List.drop_eq_getElem_cons hlt'
      have hex : es[x]? = some (entryOfKey knd (k, ad, v)) := by rw [entry_at hea x, List.getElem?_eq_getElem hlt', hkv]; rfl
      rw [hex]
      have hkey := hia (k, ad, v) (hkv ▸ List.getElem_mem hlt')
      rw [hdrop] at hpre
      refine wpAny_bind (wpAny_holding (wpAny_bind (wpAny_dictFind_heap hu hkey hob hdb heb hib hnb (fun hno => ?_) fun j p hj => ?_)))
      · have hn : atKey kb k = none := at_none hno
        rcases hpre.inv with ⟨_, er⟩ | ⟨_, y, _, _, hy, _⟩
        · rw [er] at h'
          refine wpAny_pure ?_
          show wpAny _ _ (if (!false) = true then _ else _) _ _ _
          rw [if_pos (by decide)]
          exact wpAny_pure (wpAny_pure h')
        · rw [hn] at hy; exact nomatch hy
      · have hv' : atKey kb k = some p := at_of_get hnb hj
        have hej : es'[j]? = some (entryOfKey knd (k, p)) := by rw [entry_at heb j, hj]; rfl
        refine wpAny_bind (wpAny_dictEntries hob hdb ?_)
        rw [hej]
        rcases hpre.inv with ⟨hn, _⟩ | ⟨c, y, e, b', hy, he, hrr, er⟩
        · rw [hv'] at hn; exact nomatch hn
        · have ey : p = (c, y) := Option.some.inj (hv'.symm.trans hy)
          subst ey
          refine wpAny_holding (he _ _ ?_)
          cases e with
          | false =>
            rw [er, Bool.false_and] at h'
            show wpAny _ _ (if (!false) = true then _ else _) _ _ _
            rw [if_pos (by decide)]
            exact wpAny_pure (wpAny_pure h')
          | true =>
            rw [Bool.true_and] at er
            rw [← er] at hrr
            show wpAny _ _ (if (!true) = true then _ else _) _ _ _
            rw [if_neg (by decide)]
            refine wpAny_bind (wpAny_dictEpoch hoa hda ?_)
            rw [if_neg (by simp)]
            exact wpAny_pure ⟨rfl, rfl, x + 1, hrest, hlt, hrr⟩
    · rintro q s' ⟨rfl, rfl, i, hr, hi, hpre⟩
      have hin : i = es.size := by
        rcases Nat.lt_or_ge i es.size with h | h
        · have e : es.size - i = (es.size - (i + 1)) + 1 := by omega
          rw [e, List.range'_succ] at hr; exact nomatch hr
        · exact Nat.le_antisymm hi h
      refine wpAny_pure ?_
      rw [hin, ← hla, List.drop_length] at hpre
      cases hpre
      exact h'
theorem rcH_dicts {a b : Addr} {ka kb : List (K × Addr × Value)} {r : Bool} (hk : knd.room A.in1) (ha : (a == sysModules) = false) (hb : (b == sysModules) = false)
    (da : s.heap.DictOfH knd a ka) (db : s.heap.DictOfH knd b kb) (hu : A.units < cLine) (hits : ka.length = kb.length → HitsH prog w A.in1 s kb ka r) (E Q : Value → Shared → Prop) (h : Q (.bool (ka.length == kb.length && r)) s) : wpAny (model prog w) A (richCompare .Eq (.ref a) (.ref b)) Q E s := by
  refine wpAny_richCompare_same_room (op := .Eq) da.typeIs db.typeIs PySem.F.slot_dict_eq (wpAny_call_entry PySem.F.slot_dict_eq da.typeIs PySem.F.entry_dict_eq ?_ (PySem.F.args_dict_eq_2 _ _)) hu
  show wpAny _ _ (Builtin.Dict.dictSlotArgs "__eq__" ⟨[.ref a, .ref b], []⟩ >>= _) _ _ s
  refine wpAny_bind ?_
  unfold Builtin.Dict.dictSlotArgs
  refine wpAny_bind (wpAny_notOrdered_dict da.typeIs ?_)
  show wpAny _ _ (pure (Value.ref a, Value.ref b)) _ _ s
  refine wpAny_pure ?_
  refine wpAny_bind (wpAny_isInstance (T := "dict") db.typeIs PySem.F.sub_dict_dict ?_)
  simp only [Bool.not_true, Bool.false_eq_true, if_false]
  refine wpAny_bind (wpAny_pure (wpAny_bind (wpAny_pure ?_)))
  refine wpAny_bind (samePairsH hk ha hb da db hits ?_)
  refine wpAny_pure ⟨_, rfl, ?_, ?_⟩
  · exact fun x => nomatch x
  · simpa using h
end
section
variable {κ : Type} [DecidableEq κ] {T : KT κ} {X : Cx} {pins : List (Addr × Obj)} {σ : L2.St} {H : Hp} {s : Shared}
/-- the two dicts have equal values at equal keys; dv, dw: the values' data -/
def sameD (dv dw : κ → PyData) (es fs : List (κ × Addr × V)) : Bool := es.all fun e => (fs.any fun f => decide (f.1 = e.1)) && PyData.eqv (dv e.1) (dw e.1)
/-- the values are plain data -/
def ValsD (K : PySem.W.Frag) (H : Hp) (dv : κ → PyData) (es : List (κ × Addr × V)) : Prop := ∀ e ∈ es, Dp K H e.2.2 (dv e.1) ∧ (dv e.1).plain = true ∧ (dv e.1).depth ≤ 40
theorem hits_of {A : Around} (hu : A.units + 41 < cLine) (I : Inv X pins σ H s) {dv dw : κ → PyData} {fs : List (κ × Addr × V)} {vs : List Value} (hv : Vals (fs.map (·.2.2)) vs) (hf : ValsD X.K H dw fs) :
    ∀ {es : List (κ × Addr × V)} {us : List Value}, Vals (es.map (·.2.2)) us → ValsD X.K H dv es → HitsH X.prog X.w A s (rowsN T fs vs) (rowsN T es us) (sameD dv dw es fs)
  | [], _, .nil, _ => .nil
  | e :: es, u :: us, .cons r t, hd => by
    show HitsH _ _ _ _ _ ((keyN (T.enc e.1), e.2.1, u) :: rowsN T es us) _
    unfold sameD
    rw [List.all_cons]
    rcases rows_find (T := T) (k := e.1) hv with ⟨e1, e2⟩ | ⟨f, y, e1, e2, ry⟩
    · have : (fs.any fun f => decide (f.1 = e.1)) = false := by
        rw [← Bool.not_eq_true, List.any_eq_true]
        rintro ⟨f, hf1, hf2⟩
        exact absurd hf2 (by rw [List.find?_eq_none] at e2; exact e2 f hf1)
      rw [this, Bool.false_and, Bool.false_and]
      exact .miss e1
    · have hm := List.mem_of_find?_eq_some e1
      have hk : f.1 = e.1 := of_decide_eq_true (List.find?_some (p := fun f : κ × Addr × V => decide (f.1 = e.1)) e1)
      have : (fs.any fun f => decide (f.1 = e.1)) = true := List.any_eq_true.mpr ⟨f, hm, decide_eq_true hk⟩
      rw [this, Bool.true_and]
      obtain ⟨p1, p2, p3⟩ := hd e List.mem_cons_self
      obtain ⟨q1, q2, q3⟩ := hf f hm
      obtain ⟨as, ra⟩ := Dp.reads I _ _ u p1 r
      obtain ⟨bs, rb⟩ := Dp.reads I _ _ y q1 ry
      rw [hk] at q2 q3 rb
      exact .hit e2 (SeqAt.EqAt.eqP (SeqAt.eqAt_plain _ _ A s u y as bs ra rb p2 q2 (by omega))) (hits_of hu I hv hf t fun x hx => hd x (List.mem_cons_of_mem _ hx))
/-- d == e -/
def rEqN (T : KT κ) (P : Program) (w : World) (K : PySem.W.Frag) : R2 := fun x y H Q => ∃ (a b : Addr) (es fs : List (κ × Addr × V)) (dv dw : κ → PyData), x = .ref a ∧ y = .ref b ∧ Rd H a (dNO T P w a es) ∧ Rd H b (dNO T P w b fs) ∧ KeysAt T K H es ∧ KeysAt T K H fs ∧ ValsD K H dv es ∧ ValsD K H dw fs ∧ Q (.bl (es.length == fs.length && sameD dv dw es fs)) H
theorem op_eqN (hu : X.A.units + 64 < cLine) : OpR X (compareOp .Eq) (rEqN T X.prog X.w X.K) := fun pins s σ H x y v u Q I rx ry h => by
  obtain ⟨a, b, es, fs, dv, dw, rfl, rfl, ha, hb, ka, kb, va, vb, q⟩ := h
  cases rx
  cases ry
  obtain ⟨z1, l1, us, hv1, hm1⟩ := dict_of I ha ka
  obtain ⟨z2, l2, vs, hv2, hm2⟩ := dict_of I hb kb
  have ls1 : (rowsN T es us).length = es.length := by
    unfold rowsN
    rw [List.length_map, List.length_zip, ← hv1.length, List.length_map, Nat.min_self]
  have ls2 : (rowsN T fs vs).length = fs.length := by
    unfold rowsN
    rw [List.length_map, List.length_zip, ← hv2.length, List.length_map, Nat.min_self]
  refine rcH_dicts (knd := nestedKind X.prog X.w) (r := sameD dv dw es fs) (by show X.A.units + 1 + 8 < cLine; omega) z1 z2 hm1 hm2 (by omega) (fun _ => hits_of (by show X.A.units + 1 + 41 < cLine; omega) I hv2 vb hv1 va) _ _ ?_
  rw [ls1, ls2]
  exact ⟨.bl _, H, I, rfl, q⟩
end
end GX
/-! a method of a dict keyed by nested tuples; entries of a list as pairs -/
namespace GX
open PySem PySem.Spec PyProof.Rows L2 GxR
section
variable {κ : Type} [DecidableEq κ] {T : KT κ} {X : Cx}
def tBMN (T : KT κ) (P : Program) (w : World) (r : V → List V → Hp → VK → Prop) (to : TE) (t : TA) : TE := fun σ H Q => to σ H fun x H1 => (∃ a es, x = .ref a ∧ Rd H1 a (dNO T P w a es)) ∧ t σ H1 fun xs H2 => r x xs H2 Q
theorem pe_bmN {o e : Expr} {es : List Expr} {to : TE} {t : TA} {name : Str} {apos cpos : Pos} {id : String} {r : V → List V → Hp → VK → Prop} (pa : PlainAttrs "dict") (slot : Slot "dict" name id) (hty : typeOf (.builtin id) = pure (.type "method_descriptor")) (hm : MtR X id r) (ho : PE X o to) (ha : PA X (e :: es) t)
    (hbase : attributeBase o name X.env (eval o X.env) = eval o X.env := by rfl)
    (hfew : ((backTo cpos (starEach (e :: es) X.env)).all (fun x => !x.1) && (backToKw cpos (keywordEach [] X.env)).all (fun x => x.1.isSome)
      && decide ((e :: es).length + ([] : List Keyword).length + (if ([] : List Keyword).isEmpty then 0 else 1) < 30)) = true := by rfl)
    (hline : (apos.endLine == cpos.line) = true := by rfl) (hs : starEach (e :: es) X.env = (false, eval e X.env) :: starEach es X.env := by rfl) (hplain : (backTo cpos (starEach es X.env)).any (·.1) = false := by rfl) :
    PE X (.Call (.Attribute o name apos) (e :: es) [] cpos) (tBMN T X.prog X.w r to t) := by
  refine ⟨fun pins s σ H Q I h => ?_⟩
  refine wpAny_Call_method_late hbase hfew hline rfl (thn (ho.run pins s σ H _ I h) fun v s1 ⟨x, H1, I1, r1, ⟨a, es', ex, ty⟩, q1⟩ => ?_)
  have h12 : s1.TypeIs v "dict" ∧ ∀ a, v = .ref a → ∃ ob, s1.heap.get? a = some ob ∧ ob.dict = none := by
    subst ex
    obtain rfl : v = Value.ref a := r1
    obtain ⟨z, l, n, o, ds, ep, us, ho, hx, _⟩ := dn0_of I1 ty
    exact ⟨⟨o, ho, hx.1⟩, fun b e => by cases e; exact ⟨o, ho, hx.2.1⟩⟩
  refine ⟨"dict", id, pa, slot, hty, h12.1, h12.2, ?_⟩
  have hA := ha.run cpos pins s1 σ H1 _ I1 q1
  rw [hs] at hA ⊢
  refine Calls.callWith_builtin (by show (false || (backTo cpos (starEach es X.env)).any (·.1)) = false; rw [hplain] <;> rfl) (Calls.evalArgs_plain ?_)
  exact thn hA fun us s2 ⟨vs, H2, I2, r2, q2⟩ => hm pins s2 σ H2 x vs v us Q I2 r1 r2 q2
end
/-- a dict comprehension over a walk -/
theorem dg_it {J : It} {n : Nat} {G : Hp → Prop} {Y : Nat → Hp → V → Hp → Prop} (w : Walk J n G Y) {o0 : Addr → HO} {put : Addr → V → V → Hp → (Hp → Prop) → Prop} {g : TG} {tt : TT} {tk tv : TE} {vs : List Nat} {σ : L2.St} {H1 : Hp} {D : Addr} {Qd : Hp → Prop} (Pv : Nat → Hp → Prop) (h0 : Pv 0 (upd H1 D (o0 D))) (hG : ∀ i H, i ≤ n → Pv i H → G H)
    (hs : ∀ i x H H', i < n → Pv i H → Y i H x H' → g x (wipe σ vs) H' fun σ2 H2 => wipe σ2 vs = wipe σ vs ∧ tt σ2 H2 fun b H3 =>
      if b = true then tk σ2 H3 fun y H4 => tv σ2 H4 fun z H5 => put D y z H5 (Pv (i + 1)) else Pv (i + 1) H3) (hd : ∀ H, Pv n H → Qd H) :
    ∃ W : Nat → Nat → Hp → Prop, (∃ m, W 0 m (upd H1 D (o0 D))) ∧ ∀ i m H, W i m H →
      (J.stop i H ∧ Qd H) ∨ (J.go i H ∧ ∃ Nx : Hp → Prop, (∀ H', Nx H' → ∃ m', m' < m ∧ W (i + 1) m' H') ∧ ∀ x H', J.yld i H x H' → g x (wipe σ vs) H' fun σ2 H2 => wipe σ2 vs = wipe σ vs ∧ tt σ2 H2 fun b H3 =>
        if b = true then tk σ2 H3 fun y H4 => tv σ2 H4 fun z H5 => put D y z H5 Nx else Nx H3) := by
  refine ⟨fun i m H => m = n - i ∧ i ≤ n ∧ Pv i H, ⟨n, by simp, Nat.zero_le _, h0⟩, ?_⟩
  rintro i m H ⟨rfl, hi, p⟩
  have q := hG i H hi p
  by_cases hlt : i < n
  · exact .inr ⟨w.goes i H hlt q, Pv (i + 1), fun H' p' => ⟨n - (i + 1), by omega, rfl, hlt, p'⟩, fun x H' y => hs i x H H' hlt p (w.yields i H x H' hlt q y)⟩
  · have e : i = n := by omega
    subst e
    exact .inl ⟨w.stops H q, hd H p⟩
end GX
/-! rules of my own: < of data, not in, sorted of data, d.get of a written dict, s.startswith -/
namespace GX
open PySem PySem.Spec PyProof.Rows L2 GxR
section
variable {X : Cx}
def rLtP (K : PySem.W.Frag) : R2 := fun x y H Q => ∃ d e, Dp K H x d ∧ Dp K H y e ∧ PySem.W.alike d e = true ∧ d ≠ .none ∧ d.depth ≤ 60 ∧ Q (.bl (PySem.W.dataLt d e)) H
theorem op_ltP (hu : X.A.units + 64 < cLine) : OpR X (compareOp .Lt) (rLtP X.K) := fun pins s σ H x y v u Q I rx ry ⟨d, e, hd, he, al, nn, dd, q⟩ => by
  obtain ⟨as, r1⟩ := Dp.reads I d x v hd rx
  obtain ⟨bs, r2⟩ := Dp.reads I e y u he ry
  exact PySem.W.lt_data r1 r2 al nn (by omega) ⟨.bl _, H, I, rfl, q⟩
/-- x not in xs, xs a list of plain data -/
def rNotInP (K : PySem.W.Frag) : R2 := fun x y H Q => ∃ (xs : List PyData) (d : PyData), Dp K H y (.list xs) ∧ Dp K H x d ∧ PyData.plainAll xs = true ∧ d.plain = true ∧ d.depth ≤ 60 ∧ Q (.bl (!xs.any fun y => PyData.eqv y d)) H
theorem op_notInP (hu : X.A.units + 64 < cLine) : OpR X (compareOp .NotIn) (rNotInP X.K) := fun pins s σ H x y v u Q I rx ry ⟨xs, d, hy, hx, px, pd, dd, q⟩ => by
  obtain ⟨as, r1⟩ := Dp.reads I _ y u hy ry
  obtain ⟨bs, r2⟩ := Dp.reads I d x v hx rx
  exact PySem.SeqAt.notIn_list_data r1 r2 px pd (by omega) ⟨.bl _, H, I, rfl, q⟩
theorem each_pull {β : Type} {R : V → β → Prop} : ∀ {us : List Value} {bs : List β}, PySem.W.EachIs (fun u b => ∃ v, RelV v u ∧ R v b) us bs → ∃ vs, Vals vs us ∧ PySem.W.EachIs R vs bs
  | _, _, .nil => ⟨[], .nil, .nil⟩
  | _, _, .cons ⟨v, r, h⟩ t => let ⟨vs, a, b⟩ := each_pull t; ⟨v :: vs, .cons r a, .cons h b⟩
theorem each_push {β : Type} {R : V → β → Prop} : ∀ {us : List Value} {vs : List V} {bs : List β}, Vals vs us → PySem.W.EachIs R vs bs → PySem.W.EachIs (fun u b => ∃ v, RelV v u ∧ R v b) us bs
  | _, _, _, .nil, .nil => .nil
  | _, _, _, .cons r a, .cons h b => .cons ⟨_, r, h⟩ (each_push a b)
/-- sorted(xs), xs a list of data that can be compared -/
def rSortedD (K : PySem.W.Frag) : List V → Hp → VK → Prop := fun vs H Q => ∃ (a : Addr) (xs : List V) (β : Type) (bs : List β) (enc : β → PyData) (R : V → β → Prop), vs = [V.ref a] ∧ SqL K H a xs ∧ PySem.W.EachIs R xs bs ∧ (∀ v b, R v b → Dp K H v (enc b)) ∧
  PySem.W.AllAlike (bs.map enc) ∧ PySem.W.Sortable (bs.map enc) ∧ (∀ b ∈ bs, (enc b).depth ≤ 60) ∧ ∀ ys p, PySem.W.EachIs R ys (bs.mergeSort (PySem.W.dataLe false enc)) → H p = none → Q (.ref p) (upd H p (.lst ys))
theorem cr_sortedD (hu : X.A.units + 64 < cLine) : CallR X (.builtin "sorted") (rSortedD X.K) := by
  intro pins s σ H vs us Q I r h
  obtain ⟨a, xs, β, bs, enc, R, rfl, hs, he, hR, al, so, dp, q⟩ := h
  obtain ⟨its, rv, hl, hz⟩ := I.list hs
  obtain ⟨u, rfl, ru⟩ := vals1 r
  obtain rfl : u = Value.ref a := ru
  have hz' : bs.length ≤ sizeLine := by rw [← he.length]; exact hz
  have e := each_push rv he
  refine PySem.W.sorted_data (R := fun u b => ∃ v, RelV v u ∧ R v b) hl.isList e (e.mono fun u b ⟨v, r1, r2⟩ => Dp.reads I _ v u (hR v b r2) r1) al so hz' (fun b hb => by have := dp b hb; omega) fun out lo eo => ?_
  obtain ⟨ys, vy, ey⟩ := each_pull eo
  obtain ⟨n, hn⟩ := sortedAll_at s.heap its (List.toArray out)
  have I2 := I.laid (t' := s.toks) (o := .lst ys) (h' := sortedAll s.heap its (List.toArray out)) (fun b o e => sortedAll_old e) (Nat.le_succ _) ⟨by rw [ey.length, List.length_mergeSort]; exact hz', out, n, vy, hn⟩
  exact ⟨.ref (s.heap.objs.size + 1), _, I2, rfl, q ys _ ey (I.hok.fresh (Nat.le_succ _))⟩
end
end GX
/-! mathematics of k12: lines, closures, masks -/
namespace K12
open PySem PySem.Spec PyProof.Rows L2 TR QR
open GX (KT kd kdAll)
open PySem.W (dataLt dataLe alike alikeAll AllAlike Sortable)
def nmD : PyData := .tuple [.tuple [.str (Str.ofString "label"), .int 0, .tuple []], .str (Str.ofString "ann"), .int 1]
def encL (k : Nat) : PyData := .tuple [nmD, .int 1, .int (k : Int)]
def ktL : KT Nat where
  enc := encL
  kd := fun k => by simp [encL, nmD, kd, kdAll]
  inj := fun {a b} h => by
    unfold encL at h
    simp only [PyData.tuple.injEq, List.cons.injEq, PyData.int.injEq, true_and, and_true] at h
    omega
  dp := fun k => by
    unfold encL nmD
    simp [PyData.depth, PyData.depthAll]
theorem plain_L (k : Nat) : (encL k).plain = true := by
  unfold encL nmD
  simp [PyData.plain, PyData.plainAll]
theorem alike_nm : alike nmD nmD = true := by
  unfold nmD
  simp [alike, alikeAll]
theorem alike_L (a b : Nat) : alike (encL a) (encL b) = true := by
  unfold encL
  simp [alike, alikeAll, alike_nm]
theorem lt_nm : dataLt nmD nmD = false := by
  decide +kernel
theorem eqv_nm : PyData.eqv nmD nmD = true := by decide +kernel
theorem eqv_L (a b : Nat) : PyData.eqv (encL a) (encL b) = decide (a = b) := by
  rw [Bool.eq_iff_iff]
  constructor
  · intro h
    unfold encL at h
    simp [PyData.eqv, PyData.eqvAll] at h
    exact decide_eq_true (by omega)
  · intro h
    rw [of_decide_eq_true h]
    exact PySem.SeqAt.eqv_refl_plain _ (plain_L b)
end K12
namespace K12
open PySem PySem.Spec PyProof.Rows L2 TR QR
open GX (KT kd kdAll)
open PySem.W (dataLt dataLe alike alikeAll AllAlike Sortable)
theorem lt_L (a b : Nat) : dataLt (encL a) (encL b) = decide (a < b) := by
  unfold encL
  rw [PySem.W.dataLt_tuple, PySem.W.dataLt_cons alike_nm, if_pos eqv_nm, PySem.W.dataLt_cons (by simp [alike]), if_pos (by simp [PyData.eqv]), PySem.W.dataLt_cons (by simp [alike])]
  have e : ∀ l, PyProof.Rows.lexLt PyProof.Rows.itemOrd l l = false := fun l => PyProof.Rows.lex_irrefl l
  rw [e, PySem.W.dataLt_int]
  by_cases h : a = b
  · subst h
    simp [PyData.eqv]
  · have : ¬ ((a : Int) = (b : Int)) := by omega
    simp [PyData.eqv, this]
theorem le_L {β : Type} (f : β → Nat) : (dataLe false fun b => encL (f b)) = fun p q => decide (f p ≤ f q) := by
  funext p q
  rw [PySem.W.dataLe_eq]
  show (!dataLt (encL (f q)) (encL (f p))) = _
  rw [lt_L]
  by_cases h : f q < f p
  · have : ¬ f p ≤ f q := by omega
    simp [h, this]
  · have : f p ≤ f q := by omega
    simp [h, this]
theorem able_L {κ : Type} (f : κ → Nat) (es : List κ) : AllAlike (es.map fun e => encL (f e)) ∧ Sortable (es.map fun e => encL (f e)) :=
  ⟨AllAlike.of fun b b' => alike_L _ _, Sortable.tuples fun b => ⟨_, _, rfl⟩⟩
/-- entries whose keys rise are sorted -/
theorem sorted_asc {β : Type} (f : β → Nat) {l : List β} (h : l.Pairwise fun a b => f a ≤ f b) : l.mergeSort (dataLe false fun b => encL (f b)) = l := by
  rw [le_L]
  exact List.mergeSort_of_pairwise (h.imp fun h => decide_eq_true h)
theorem sort_range {n : Nat} {l : List Nat} (h : l.Perm (List.range n)) : l.mergeSort (dataLe false encL) = List.range n := by
  have e := le_L (β := Nat) id
  have e' : dataLe false encL = fun p q : Nat => decide (p ≤ q) := e
  rw [e']
  have p1 : (l.mergeSort fun p q : Nat => decide (p ≤ q)).Perm (List.range n) := (List.mergeSort_perm _ _).trans h
  refine List.Perm.eq_of_pairwise (le := fun a b : Nat => a ≤ b) (fun a b _ _ h1 h2 => Nat.le_antisymm h1 h2) ?_ ?_ p1
  · have := List.pairwise_mergeSort (le := fun p q : Nat => decide (p ≤ q)) (fun a b c h1 h2 => decide_eq_true (Nat.le_trans (of_decide_eq_true h1) (of_decide_eq_true h2))) (fun a b => by
      rcases Nat.le_total a b with h | h <;> simp [h]) l
    exact this.imp fun h => of_decide_eq_true h
  · exact List.pairwise_lt_range.imp fun h => Nat.le_of_lt h
/-! ### closures -/
inductive TG (E : Nat → Nat → Prop) : Nat → Nat → Prop
  | base {a b : Nat} : E a b → TG E a b
  | step {a b c : Nat} : E a b → TG E b c → TG E a c
theorem TG.trans {E : Nat → Nat → Prop} {a b c : Nat} (h : TG E a b) (h' : TG E b c) : TG E a c := by
  induction h with
  | base e => exact .step e h'
  | step e _ ih => exact .step e (ih h')
theorem TG.mono {E F : Nat → Nat → Prop} (h : ∀ a b, E a b → F a b) {a b : Nat} (t : TG E a b) : TG F a b := by
  induction t with
  | base e => exact .base (h _ _ e)
  | step e _ ih => exact .step (h _ _ e) ih
theorem TG.tgt {E : Nat → Nat → Prop} {a b : Nat} (t : TG E a b) : ∃ c, E c b := by
  induction t with
  | base e => exact ⟨_, e⟩
  | step _ _ ih => exact ih
theorem TG.src {E : Nat → Nat → Prop} {a b : Nat} (t : TG E a b) : ∃ c, E a c := by
  cases t with
  | base e => exact ⟨_, e⟩
  | step e _ => exact ⟨_, e⟩
/-- a path of m steps -/
def Pth (E : Nat → Nat → Prop) (m : Nat) (i j : Nat) : Prop := ∃ f : Nat → Nat, f 0 = i ∧ f m = j ∧ ∀ t < m, E (f t) (f (t + 1))
theorem Pth.first {E : Nat → Nat → Prop} {m i j : Nat} (h : Pth E (m + 1) i j) : ∃ k, E i k ∧ Pth E m k j := by
  obtain ⟨f, h0, h1, h2⟩ := h
  exact ⟨f 1, by have := h2 0 (by omega); rw [h0] at this; exact this, fun t => f (t + 1), rfl, h1, fun t ht => h2 (t + 1) (by omega)⟩
theorem Pth.cons {E : Nat → Nat → Prop} {m i k j : Nat} (e : E i k) (h : Pth E m k j) : Pth E (m + 1) i j := by
  obtain ⟨f, h0, h1, h2⟩ := h
  refine ⟨fun t => if t = 0 then i else f (t - 1), by simp, by simp [h1], fun t ht => ?_⟩
  by_cases z : t = 0
  · subst z
    simp [h0, e]
  · have := h2 (t - 1) (by omega)
    rw [show t - 1 + 1 = t from by omega] at this
    simp [z, this]
theorem pth_of {E : Nat → Nat → Prop} {i j : Nat} (t : TG E i j) : ∃ m, Pth E (m + 1) i j := by
  induction t with
  | base e => exact ⟨0, Pth.cons e ⟨fun _ => _, rfl, rfl, fun t ht => by omega⟩⟩
  | step e _ ih => exact ⟨_, Pth.cons e ih.choose_spec⟩
theorem Pth.tg {E : Nat → Nat → Prop} : ∀ {m i j : Nat}, Pth E (m + 1) i j → TG E i j
  | 0, i, j, h => by
    obtain ⟨k, e, f, h0, h1, _⟩ := h.first
    rw [← h1, h0]
    exact .base e
  | m + 1, i, j, h => by
    obtain ⟨k, e, h'⟩ := h.first
    exact .step e h'.tg
theorem nat_nodup_len {l m : List Nat} (h : l.Nodup) (hs : ∀ x ∈ l, x ∈ m) : l.length ≤ m.length := by
  have key : ∀ (l m : List Nat), l.Nodup → (∀ x ∈ l, x ∈ m) → l.length ≤ m.length := fun l => by
    induction l with
    | nil => intro m _ _; exact Nat.zero_le _
    | cons x l ih =>
      intro m hn hs
      obtain ⟨h1, h2⟩ := List.nodup_cons.mp hn
      have hx := hs x List.mem_cons_self
      have := ih (m.erase x) h2 fun y hy => (List.mem_erase_of_ne (fun e : y = x => h1 (by rw [← e]; exact hy))).2 (hs y (List.mem_cons_of_mem _ hy))
      rw [List.length_erase_of_mem hx] at this
      have := List.length_pos_of_mem hx
      rw [List.length_cons]
      omega
  exact key l m h hs
theorem Pth.short {E : Nat → Nat → Prop} {L : List Nat} (hL : ∀ a b, E a b → b ∈ L) : ∀ (m i j : Nat), Pth E (m + 1) i j → ∃ m', m' + 1 ≤ L.length ∧ Pth E (m' + 1) i j := by
  intro m
  induction m using Nat.strongRecOn with
  | _ m ih =>
    intro i j h
    by_cases hm : m + 1 ≤ L.length
    · exact ⟨m, hm, h⟩
    · obtain ⟨f, h0, h1, h2⟩ := h
      have nn : ¬ ((List.range (m + 1)).map fun t => f (t + 1)).Nodup := fun nd => by
        have := nat_nodup_len nd (m := L) fun x hx => by
          obtain ⟨t, ht, rfl⟩ := List.mem_map.mp hx
          exact hL _ _ (h2 t (List.mem_range.mp ht))
        rw [List.length_map, List.length_range] at this
        omega
      obtain ⟨a, b, hab, hb, e⟩ : ∃ a b, a < b ∧ b < m + 1 ∧ f (a + 1) = f (b + 1) := by
        refine Classical.byContradiction fun no => nn ?_
        rw [List.Nodup, List.pairwise_map]
        exact List.pairwise_lt_range.imp_of_mem fun {x y} hx hy hlt he => no ⟨x, y, hlt, List.mem_range.mp hy, he⟩
      have hp : Pth E (m - (b - a) + 1) i j := by
        refine ⟨fun t => if t ≤ a + 1 then f t else f (t + (b - a)), by simp [h0], ?_, fun t ht => ?_⟩
        · by_cases z : m - (b - a) + 1 ≤ a + 1
          · have : m = b := by omega
            have ez : m - (b - a) + 1 = a + 1 := by omega
            simp only [z, if_true]
            rw [ez, e, ← this, h1]
          · simp only [z, if_false]
            rw [show m - (b - a) + 1 + (b - a) = m + 1 from by omega, h1]
        · by_cases z : t + 1 ≤ a + 1
          · have z' : t ≤ a + 1 := by omega
            simp only [z, z', if_true]
            exact h2 t (by omega)
          · by_cases z' : t ≤ a + 1
            · have et : t = a + 1 := by omega
              simp only [z, z', if_true, if_false]
              rw [et, e, show a + 1 + 1 + (b - a) = b + 1 + 1 from by omega]
              exact h2 (b + 1) (by omega)
            · simp only [z, z', if_false]
              rw [show t + 1 + (b - a) = t + (b - a) + 1 from by omega]
              exact h2 (t + (b - a)) (by omega)
      exact ih (m - (b - a)) (by omega) i j hp
/-! ### masks -/
def orAll (M : Nat → Nat) (js : List Nat) (m : Nat) : Nat := js.foldl (fun m o => m ||| M o ||| 2 ^ o) m
theorem orAll_bit (M : Nat → Nat) (j : Nat) : ∀ (js : List Nat) (m : Nat), (orAll M js m).testBit j = true ↔ m.testBit j = true ∨ ∃ o ∈ js, (M o).testBit j = true ∨ o = j
  | [], m => by simp [orAll]
  | o :: js, m => by
    have ih := orAll_bit M j js (m ||| M o ||| 2 ^ o)
    show (orAll M js (m ||| M o ||| 2 ^ o)).testBit j = true ↔ _
    rw [ih]
    simp only [Nat.testBit_or, Nat.testBit_two_pow, Bool.or_eq_true, decide_eq_true_eq, List.mem_cons]
    constructor
    · rintro ((( h | h) | h) | ⟨o', h1, h2⟩)
      · exact .inl h
      · exact .inr ⟨o, .inl rfl, .inl h⟩
      · exact .inr ⟨o, .inl rfl, .inr h⟩
      · exact .inr ⟨o', .inr h1, h2⟩
    · rintro (h | ⟨o', rfl | h1, h2⟩)
      · exact .inl (.inl (.inl h))
      · rcases h2 with h2 | h2
        · exact .inl (.inl (.inr h2))
        · exact .inl (.inr h2)
      · exact .inr ⟨o', h1, h2⟩
theorem orAll_le (M : Nat → Nat) : ∀ (js : List Nat) (m : Nat), m ≤ orAll M js m
  | [], m => Nat.le_refl _
  | o :: js, m => Nat.le_trans (Nat.le_trans Nat.left_le_or Nat.left_le_or) (orAll_le M js (m ||| M o ||| 2 ^ o))
theorem orAll_lt {n : Nat} {M : Nat → Nat} (hM : ∀ o, o < n → M o < 2 ^ n) : ∀ {js : List Nat} {m : Nat}, (∀ o ∈ js, o < n) → m < 2 ^ n → orAll M js m < 2 ^ n
  | [], m, _, h => h
  | o :: js, m, hj, h => by
    have ho := hj o List.mem_cons_self
    exact orAll_lt hM (js := js) (fun x hx => hj x (List.mem_cons_of_mem _ hx)) (Nat.or_lt_two_pow (Nat.or_lt_two_pow h (hM o ho)) (Nat.pow_lt_pow_right (by decide) ho))
/-- the masks show ways only -/
def MSound (g : Nat → List Nat) (M : Nat → Nat) : Prop := ∀ k j, (M k).testBit j = true → TG (fun a b => b ∈ g a) k j
theorem or_sound {g : Nat → List Nat} {M : Nat → Nat} (h : MSound g M) (k : Nat) : ∀ j, (orAll M (g k) (M k)).testBit j = true → TG (fun a b => b ∈ g a) k j := fun j hj => by
  rcases (orAll_bit M j (g k) (M k)).mp hj with h1 | ⟨o, ho, h1 | h1⟩
  · exact h k j h1
  · exact .step (E := fun a b => b ∈ g a) ho (h o j h1)
  · subst h1
    exact .base (E := fun a b => b ∈ g a) ho
theorem m_closed {g : Nat → List Nat} {M : Nat → Nat} {n : Nat} (hg : ∀ k, k < n → orAll M (g k) (M k) = M k) (ht : ∀ k o, o ∈ g k → o < n) (hs : MSound g M) {k j : Nat} (hk : k < n) : (M k).testBit j = true ↔ TG (fun a b => b ∈ g a) k j := by
  refine ⟨hs k j, fun t => ?_⟩
  induction t with
  | base e =>
    rw [← hg _ hk, orAll_bit]
    exact .inr ⟨_, e, .inr rfl⟩
  | step e _ ih =>
    rw [← hg _ hk, orAll_bit]
    exact .inr ⟨_, e, .inl (ih (ht _ _ e))⟩
def gap (n : Nat) (M : Nat → Nat) : Nat := ((List.range n).map fun k => 2 ^ n - M k).sum
def setM (M : Nat → Nat) (k v : Nat) : Nat → Nat := fun x => if x = k then v else M x
theorem sum_le {f g : Nat → Nat} (h : ∀ x, f x ≤ g x) : ∀ l : List Nat, (l.map f).sum ≤ (l.map g).sum
  | [] => Nat.le_refl _
  | x :: l => by
    have := h x
    have := sum_le h l
    simp only [List.map_cons, List.sum_cons]
    omega
theorem sum_lt {f g : Nat → Nat} (h : ∀ x, f x ≤ g x) {k : Nat} (hk : f k < g k) : ∀ {l : List Nat}, k ∈ l → (l.map f).sum < (l.map g).sum
  | x :: l, hm => by
    have h1 := h x
    have h2 := sum_le h l
    simp only [List.map_cons, List.sum_cons]
    rcases List.mem_cons.mp hm with rfl | hm
    · omega
    · have := sum_lt h hk hm
      omega
theorem gap_lt {n k v : Nat} {M : Nat → Nat} (hk : k < n) (h1 : M k < v) (h2 : v < 2 ^ n) : gap n (setM M k v) < gap n M := by
  refine sum_lt (k := k) (fun x => ?_) ?_ (List.mem_range.mpr hk)
  · unfold setM
    split
    · next e =>
      subst e
      omega
    · exact Nat.le_refl _
  · unfold setM
    rw [if_pos rfl]
    omega
theorem setM_self {M : Nat → Nat} {k : Nat} : setM M k (M k) = M := by
  funext x
  unfold setM
  split
  · next e => rw [e]
  · rfl
theorem and_bit {M j : Nat} : decide (¬ (M &&& 2 ^ j = 0)) = M.testBit j := by
  rw [Bool.eq_iff_iff, decide_eq_true_iff]
  constructor
  · intro h
    refine Classical.byContradiction fun hn => h ?_
    refine Nat.eq_of_testBit_eq fun i => ?_
    rw [Nat.testBit_and, Nat.testBit_two_pow, Nat.zero_testBit]
    by_cases e : j = i
    · subst e
      simp [hn]
    · simp [e]
  · intro h hz
    have := congrArg (fun x => x.testBit j) hz
    simp [Nat.testBit_and, Nat.testBit_two_pow, h] at this
end K12
/-! mathematics of texts and their lines -/
namespace TR
open PySem PySem.Spec PyProof.Rows L2
/-- the parts of l between the c's -/
def cutAt (c : Nat) : List Nat → List (List Nat)
  | [] => [[]]
  | x :: l => if x = c then [] :: cutAt c l else match cutAt c l with
    | [] => [[x]]
    | p :: r => (x :: p) :: r
def joinL (c : Nat) : List (List Nat) → List Nat
  | [] => []
  | [p] => p
  | p :: q :: r => p ++ c :: joinL c (q :: r)
theorem cut_free {c : Nat} : ∀ {p : List Nat}, c ∉ p → cutAt c p = [p]
  | [], _ => rfl
  | x :: p, h => by
    have h1 : x ≠ c := fun e => h (e ▸ List.mem_cons_self)
    have h2 : c ∉ p := fun e => h (List.mem_cons_of_mem _ e)
    unfold cutAt
    rw [if_neg h1, cut_free h2]
theorem cut_app {c : Nat} {l : List Nat} : ∀ {p : List Nat}, c ∉ p → cutAt c (p ++ c :: l) = p :: cutAt c l
  | [], _ => by
    show cutAt c (c :: l) = _
    rw [cutAt, if_pos rfl]
  | x :: p, h => by
    have h1 : x ≠ c := fun e => h (e ▸ List.mem_cons_self)
    have h2 : c ∉ p := fun e => h (List.mem_cons_of_mem _ e)
    show cutAt c (x :: (p ++ c :: l)) = _
    rw [cutAt, if_neg h1, cut_app h2]
theorem cut_join {c : Nat} : ∀ {P : List (List Nat)}, P ≠ [] → (∀ p ∈ P, c ∉ p) → cutAt c (joinL c P) = P
  | [], h, _ => absurd rfl h
  | [p], _, h => cut_free (h p List.mem_cons_self)
  | p :: q :: r, _, h => by
    rw [joinL, cut_app (h p List.mem_cons_self), cut_join (List.cons_ne_nil _ _) fun x hx => h x (List.mem_cons_of_mem _ hx)]
theorem cut_ne (c : Nat) : ∀ l, cutAt c l ≠ []
  | [] => List.cons_ne_nil _ _
  | x :: l => by
    unfold cutAt
    split
    · exact List.cons_ne_nil _ _
    · split <;> exact List.cons_ne_nil _ _
theorem tl_app (a b : Str) : tl (a ++ b) = tl a ++ tl b := by
  show (a.cps ++ b.cps).toList = _
  rw [Array.toList_append]
theorem tl_join (c : Nat) : ∀ P : List Str, tl (Str.join ⟨#[c]⟩ P) = joinL c (P.map tl)
  | [] => rfl
  | [p] => rfl
  | p :: q :: r => by
    show tl (p ++ ⟨#[c]⟩ ++ Str.join ⟨#[c]⟩ (q :: r)) = _
    rw [tl_app, tl_app, tl_join c (q :: r), List.append_assoc]
    rfl
theorem split_ne (x y : Str) : Txt.split x y ≠ [] := by
  unfold Txt.split
  split
  · exact List.cons_ne_nil _ _
  · split
    · exact List.cons_ne_nil _ _
    · unfold Builtin.Str.partsBetween
      generalize Builtin.Str.occurrences x y 0 x.length (x.length + 1) = cs
      cases cs <;> exact List.cons_ne_nil _ _
theorem split_cut (x : Str) (c : Nat) : Txt.split x ⟨#[c]⟩ = (cutAt c (tl x)).map Sg := by
  have h1 : (Txt.split x ⟨#[c]⟩).map tl = cutAt c (tl x) := by
    have e := StrLaws.join_split x ⟨#[c]⟩
    have e2 := tl_join c (Txt.split x ⟨#[c]⟩)
    rw [e] at e2
    rw [e2, cut_join (by
      intro z
      exact split_ne x ⟨#[c]⟩ (List.map_eq_nil_iff.mp z))]
    intro p hp
    obtain ⟨q, hq, rfl⟩ := List.mem_map.mp hp
    exact StrLaws.split_free x c q hq
  rw [← h1, List.map_map]
  conv => lhs; rw [← List.map_id (Txt.split x ⟨#[c]⟩)]
  rfl
theorem tl_join0 : ∀ P : List Str, tl (Str.join Str.empty P) = (P.map tl).flatten
  | [] => rfl
  | [p] => by simp [Str.join]
  | p :: q :: r => by
    show tl (p ++ Str.empty ++ Str.join Str.empty (q :: r)) = _
    rw [tl_app, tl_app, tl_join0 (q :: r), List.map_cons, List.flatten_cons]
    show tl p ++ [] ++ _ = _
    rw [List.append_nil]
    simp
theorem txt_join0 (P : List Str) : Txt.join Str.empty P = Sg ((P.map tl).flatten) := by
  show Builtin.Str.glued _ _ = _
  rw [StrLaws.glued_eq_join]
  exact ext_tl (tl_join0 P)
/-- the text of lines -/
def flatN : List (List Nat) → List Nat
  | [] => []
  | p :: r => p ++ 10 :: flatN r
theorem cut_flat {z : List Nat} (hz : 10 ∉ z) : ∀ {P : List (List Nat)}, (∀ p ∈ P, 10 ∉ p) → cutAt 10 (flatN P ++ z) = P ++ [z]
  | [], _ => cut_free hz
  | p :: r, h => by
    show cutAt 10 ((p ++ 10 :: flatN r) ++ z) = _
    rw [List.append_assoc, List.cons_append, cut_app (h p List.mem_cons_self), cut_flat hz fun x hx => h x (List.mem_cons_of_mem _ hx)]
    rfl
theorem flat_flatten : ∀ P : List (List Nat), (P.map fun p => p ++ [10]).flatten = flatN P
  | [] => rfl
  | p :: r => by
    rw [List.map_cons, List.flatten_cons, flat_flatten r, List.append_assoc]
    rfl
/-- the first place where a text fails -/
def fault : List Nat → Nat → Nat → Nat → Option Nat
  | [], at_, _, size => if size = 0 then none else some at_
  | c :: l, at_, many, size => if many = 200 then some at_ else if c = 10 then fault l (at_ + 1) (many + 1) 0 else if size = 40 then some at_ else fault l (at_ + 1) many (size + 1)
theorem fault_end : ∀ {l : List Nat} {a m s : Nat}, fault l a m s = none → (l = [] ∧ s = 0) ∨ ∃ l', l = l' ++ [10]
  | [], a, m, s, h => by
    unfold fault at h
    split at h
    · rename_i e
      exact .inl ⟨rfl, e⟩
    · cases h
  | c :: l, a, m, s, h => by
    unfold fault at h
    split at h
    · cases h
    · split at h
      · rename_i e
        rcases fault_end h with ⟨e2, _⟩ | ⟨l', e2⟩
        · exact .inr ⟨[], by rw [e2, e]; rfl⟩
        · exact .inr ⟨c :: l', by rw [e2]; rfl⟩
      · split at h
        · cases h
        · rcases fault_end h with ⟨_, e2⟩ | ⟨l', e2⟩
          · cases e2
          · exact .inr ⟨c :: l', by rw [e2]; rfl⟩
theorem fault_nil {l z : List Nat} {a m s : Nat} (h : fault (l ++ z) a m s = none) (hz : 10 ∉ z) : z = [] := by
  rcases List.eq_nil_or_concat z with e | ⟨w, x, e⟩
  · exact e
  · exfalso
    rcases fault_end h with ⟨e2, _⟩ | ⟨l', e2⟩
    · rw [e] at e2
      simp at e2
    · rw [e, List.concat_eq_append, ← List.append_assoc] at e2
      have := List.append_inj_right' e2 rfl
      have e3 : x = 10 := by simpa using this
      exact hz (by rw [e, e3]; simp)
def okT (l : List Nat) : Prop := ∀ c ∈ l, c = 10 ∨ (32 ≤ c ∧ c ≤ 126)
def okL (l : List Nat) : Prop := (∀ c ∈ l, 32 ≤ c ∧ c ≤ 126) ∧ l.length ≤ 50
theorem okL.free {l : List Nat} (h : okL l) : 10 ∉ l := fun z => by
  have := h.1 10 z
  omega
theorem okT_app {a b : List Nat} (ha : okT a) (hb : okT b) : okT (a ++ b) := fun c hc => by
  rcases List.mem_append.mp hc with h | h
  · exact ha c h
  · exact hb c h
theorem okL.t {l : List Nat} (h : okL l) : okT l := fun c hc => .inr (h.1 c hc)
theorem okT_flat : ∀ {P : List (List Nat)}, (∀ p ∈ P, okL p) → okT (flatN P)
  | [], _ => fun c hc => nomatch hc
  | p :: r, h => by
    refine okT_app (h p List.mem_cons_self).t fun c hc => ?_
    rcases List.mem_cons.mp hc with e | hc
    · exact .inl e
    · exact okT_flat (fun x hx => h x (List.mem_cons_of_mem _ hx)) c hc
theorem flat_len : ∀ {P : List (List Nat)}, (∀ p ∈ P, okL p) → (flatN P).length ≤ 51 * P.length
  | [], _ => Nat.le_refl _
  | p :: r, h => by
    have a := (h p List.mem_cons_self).2
    have b := flat_len (P := r) fun x hx => h x (List.mem_cons_of_mem _ hx)
    show (p ++ 10 :: flatN r).length ≤ 51 * (r.length + 1)
    rw [List.length_append, List.length_cons]
    omega
theorem okL_rep {l : List Nat} {k : Int} (h1 : l.length = 1) (hl : ∀ c ∈ l, 32 ≤ c ∧ c ≤ 126) (hk : k ≤ 50) : okL (repL l k) := by
  refine ⟨fun c hc => ?_, ?_⟩
  · obtain ⟨x, hx, hc⟩ := List.mem_flatten.mp hc
    rw [List.eq_of_mem_replicate hx] at hc
    exact hl c hc
  · unfold repL
    rw [PyProof.Rows.lm_len_rep_flat, h1]
    omega
end TR
namespace K12
open PySem PySem.Spec PyProof.Rows L2
def topS (i : Nat) : Stmt := PySem.Challenge.pw_quiltward_k12_ways_in_graphs.main.body.getD i (.Pass ⟨0, 0, 0, 0⟩)
abbrev sState : Stmt := topS 7
abbrev sDraw : Stmt := topS 8
abbrev sPick : Stmt := topS 9
theorem scState : FnScope ["script", "seed", "cell"] ["script"] (defScope sState) := ⟨rfl, rfl, rfl, by decide +kernel, rfl, by decide +kernel, by decide +kernel⟩
theorem scDraw : FnScope ["state", "many", "cells", "value", "mixed"] ["state", "many"] (defScope sDraw) := ⟨rfl, rfl, rfl, by decide +kernel, rfl, by decide +kernel, by decide +kernel⟩
theorem scPick : FnScope ["state", "row"] ["state", "row"] (defScope sPick) := ⟨rfl, rfl, rfl, by decide +kernel, rfl, by decide +kernel, by decide +kernel⟩
/-! ### the state of the draws: a list of a list and a number -/
structure StateAt (H : Hp) (p c : Addr) : Prop where
  ex : ∃ (seed : Int) (ms : List Int), H p = some (.lst [.ref c, .int seed]) ∧ H c = some (.lst (ms.map V.int)) ∧ ms.length ≤ 63 ∧ (∀ m ∈ ms, 0 ≤ m) ∧ 0 ≤ seed ∧ seed < 4294967296
  ne : p ≠ c
/-- only the state has changed -/
def Drawn (p c : Addr) (H H' : Hp) : Prop := ∀ b, b ≠ p → b ≠ c → H' b = H b
theorem drawn_refl {p c : Addr} {H : Hp} : Drawn p c H H := fun _ _ _ => rfl
theorem drawn_trans {p c : Addr} {H H1 H2 : Hp} (a : Drawn p c H H1) (b : Drawn p c H1 H2) : Drawn p c H H2 := fun x h1 h2 => (b x h1 h2).trans (a x h1 h2)
theorem StateAt.mono {H H' : Hp} {p c : Addr} (s : StateAt H p c) (hp : ∀ o, H p = some o → H' p = some o) (hc : ∀ o, H c = some o → H' c = some o) : StateAt H' p c := by
  obtain ⟨⟨seed, ms, h1, h2, h3⟩, ne⟩ := s
  exact ⟨⟨seed, ms, hp _ h1, hc _ h2, h3⟩, ne⟩
section
variable {P : Program} {w : World} {K : PySem.W.Frag} {mg : Str → Option Value} {base : Heap}
/-! ### _law_state -/
def spState (K : PySem.W.Frag) : Sp := fun vs H Q _ => ∃ (a : Addr) (ns : List Int), vs = [.ref a] ∧ SqL K H a (ns.map V.int) ∧ ns.length ≤ 63 ∧
  ∀ H' p c, Same H H' → H p = none → H c = none → StateAt H' p c → Q (.ref p) H'
theorem abs_nn (z : Int) : 0 ≤ (if z < 0 then -z else z) := by
  split <;> omega
theorem ok_state {f : Addr} {fd : FuncData} (F : Fun K "_law_state" "_law_state" sState f fd) (ma : mg "abs" = none) (mi : mg "int" = none) : FnOk P w K mg base CX0 1 f fd ["script"] (spState K) := by
  refine F.ok scState (fun vs H Q E h => ?_) (fun cdv A outer s H vs Q E hr h => ?_)
  · obtain ⟨a, ns, rfl, _⟩ := h
    rfl
  · obtain ⟨a, ns, rfl, hS, hl, q⟩ := h
    refine ⟨_, pss_cons (ps_set (i := 1) scState.nd rfl (.inl rfl) pe_int)
      (pss_cons (ps_for PassesOwn.never rfl (pi_list (pv 0)) (pg_name (i := 2) scState.nd rfl (.inl rfl))
        (pss_one (ps_set (i := 1) scState.nd rfl (.inl rfl) (pe_op op_mod (pe_callTy call_int1 (by rfl) mi (by decide +kernel) (pa_cons (pe_op op_add (pe_op op_mul (pv 1) pe_int) (pv 2)) pa_nil)) pe_int))))
      (pss_one (ps_ret (pe_lst (pa_cons (pe_lc (own := [("cell", 2)]) (g := gName 2) (tt := tYes) rfl scState.nd (pi_list (pv 0)) (blkOk_by (N := ["script", "seed", "cell"]) (sc := defScope sState) (by decide +kernel))
          (fun _ _ _ _ _ => pg_name (i := 2) scState.nd rfl (Or.inl rfl)) (fun _ _ _ _ _ => pts_nil) (fun _ _ _ _ _ => pe_callB call_abs (by rfl) ma (by decide +kernel) (pa_cons (pv 2) pa_nil)))
        (pa_cons (pe_op op_add (pv 1) pe_int) pa_nil)))))), ?_⟩
    refine ⟨.ref a, rfl, a, rfl, ⟨_, hS⟩, for_list (xs := ns.map V.int) (fun i σ H' => ∃ (z : Int) (y : Option V), σ = [some (.ref a), some (.int z), y] ∧ 0 ≤ z ∧ z < 1000003 ∧ H' = H) ⟨7, none, rfl, by omega, by omega, rfl⟩ ?_ ?_ ?_⟩
    · rintro i σ H' _ ⟨z, y, _, _, _, rfl⟩
      exact hS
    · rintro i x σ H' hx ⟨z, y, rfl, h0, h1, rfl⟩
      obtain ⟨n, _, rfl⟩ := List.mem_map.mp (List.mem_of_getElem? hx)
      refine ⟨_, rfl, _, _, rfl, rfl, .inl ⟨by omega, by omega⟩, _, rfl, _, _, rfl, rfl, .inl ⟨_, rfl, _, _, rfl, rfl, by show (0 : Int) < 1000003; decide, ?_⟩⟩
      exact ⟨_, _, rfl, Int.emod_nonneg _ (by decide), Int.emod_lt_of_pos _ (by decide), rfl⟩
    · rintro σ H' ⟨z, y, rfl, h0, h1, rfl⟩
      refine ⟨.ref a, rfl, a, rfl, ⟨_, hS⟩, fun D nD => ?_⟩
      refine lc_list (xs := ns.map V.int) (fun i H2 => H2 = upd H' D (.lst (((ns.take i).map fun n => if n < 0 then -n else n).map V.int))) rfl ?_ ?_ ?_
      · rintro i H2 _ rfl
        exact Same.seq (fun b o e => by rw [upd_ne (ne_of_none e nD)]; exact e) hS
      · rintro i x H2 hx rfl
        have hx2 : (ns.map V.int)[i]? = some x := hx
        rw [List.getElem?_map] at hx2
        obtain ⟨n, hn, rfl⟩ := Option.map_eq_some_iff.mp hx2
        refine ⟨rfl, ?_⟩
        refine ⟨_, rfl, n, rfl, _, upd_same, ?_, ?_⟩
        · rw [List.length_map, List.length_map, List.length_take, sizeLine_eq]
          omega
        · rw [upd_upd, List.take_add_one, hn, List.map_append, List.map_append]
          rfl
      · rintro H2 rfl
        refine ⟨_, rfl, _, _, rfl, rfl, by show 2 ≤ sizeLine; rw [sizeLine_eq]; decide, fun p np => ?_⟩
        have eD : (upd H' D (.lst (((ns.take (ns.map V.int).length).map fun n => if n < 0 then -n else n).map V.int))) D = _ := upd_same
        have nDp : D ≠ p := ne_of_none eD np
        have np0 : H' p = none := by
          rw [← np, upd_ne (Ne.symm nDp)]
        refine q _ p D (fun b o e => ?_) np0 nD ⟨⟨z + 1, (ns.take (ns.map V.int).length).map fun n => if n < 0 then -n else n, upd_same, ?_, ?_, ?_, by omega, by omega⟩, Ne.symm nDp⟩
        · rw [upd_ne (ne_of_none e np0), upd_ne (ne_of_none e nD)]
          exact e
        · rw [upd_ne nDp]
          exact upd_same
        · rw [List.length_map, List.length_take]
          omega
        · intro m hm
          obtain ⟨n, _, rfl⟩ := List.mem_map.mp hm
          exact abs_nn n
end
end K12
namespace K12
open PySem PySem.Spec PyProof.Rows L2
theorem seq0 {n : Nat} (h : 0 < n) : seqIndex? 0 n = some 0 := by
  unfold seqIndex?
  simp [h]
theorem ix0 {n : Nat} (h : 0 < n) : ixN n 0 = some 0 := by
  unfold ixN
  simp [h]
section
variable {P : Program} {w : World} {K : PySem.W.Frag} {mg : Str → Option Value} {base : Heap}
/-! ### _law_draw -/
def spDraw : Sp := fun vs H Q _ => ∃ (p c : Addr) (m : Nat), vs = [.ref p, .int (m : Int)] ∧ m < 1000000000 ∧ StateAt H p c ∧
  ∀ H' (r : Nat), (m = 0 → r = 0) → (0 < m → r < m) → StateAt H' p c → Drawn p c H H' → Q (.int (r : Int)) H'
theorem ok_draw {f : Addr} {fd : FuncData} (F : Fun K "_law_draw" "_law_draw" sDraw f fd) (ml : mg "len" = none) (mi : mg "int" = none) : FnOk P w K mg base CX0 1 f fd ["state", "many"] spDraw := by
  refine F.ok scDraw (fun vs H Q E h => ?_) (fun cdv A outer s H vs Q E hr h => ?_)
  · obtain ⟨p, c, m, rfl, _⟩ := h
    rfl
  · obtain ⟨p, c, m, rfl, hm, ⟨⟨seed, ms, hp, hc, hl, h0, s0, s1⟩, npc⟩, q⟩ := h
    refine ⟨_, (pss_cons (ps_if (pt_cmpR op_lt (pv 1) pe_int (nomark _)) (pss_one (ps_ret pe_int)) pss_nil)
      (pss_cons (ps_set (i := 2) scDraw.nd rfl (.inl rfl) (pe_ix ix_list (pv 0) pe_int (fun _ _ => rfl)))
      (pss_cons (ps_while PassesOwn.never (PW.pt (pw_and (pt_cmpR op_gt (pe_callB call_len_seq (by rfl) ml PySem.boot_len (pa_cons (pv 2) pa_nil)) pe_int (nomark _)) (pw_and1 (pt_cmpR op_eq (pe_ix ix_list (pv 2) pe_int (fun _ _ => rfl)) pe_int (nomark _)))))
        (pss_one (ps_expr (pe_bm PySem.F.plainAttrs_list PySem.F.slot_list_pop PySem.F.type_list_pop mt_popAt (pv 2) (pa_cons pe_int pa_nil)))))
      (pss_cons (ps_if (pt_cmpR op_gt (pe_callB call_len_seq (by rfl) ml PySem.boot_len (pa_cons (pv 2) pa_nil)) pe_int (nomark _))
        (pss_cons (ps_set (i := 3) scDraw.nd rfl (.inl rfl) (pe_ix ix_list (pv 2) pe_int (fun _ _ => rfl)))
      (pss_cons (ps_asg (pe_op op_fdiv (pv 3) (pv 1)) (pg_sub (pv 2) pe_int set_list))
      (pss_one (ps_ret (pe_op op_mod (pe_callTy call_int1 (by rfl) mi (by decide +kernel) (pa_cons (pv 3) pa_nil)) (pv 1)))))) pss_nil)
      (pss_cons (ps_set (i := 4) scDraw.nd rfl (.inl rfl) (pe_op op_mod (pe_callTy call_int1 (by rfl) mi (by decide +kernel) (pa_cons (pe_op op_add (pe_op op_mul (pe_ix ix_list (pv 0) pe_int (fun _ _ => rfl)) pe_int) pe_int) pa_nil)) pe_int))
      (pss_cons (ps_asg (pv 4) (pg_sub (pv 0) pe_int set_list))
      (pss_one (ps_ret (pe_op op_mod (pe_callTy call_int1 (by rfl) mi (by decide +kernel) (pa_cons (pe_op op_fdiv (pv 4) pe_int) pa_nil)) (pv 1)))))))))), ?_⟩
    refine ⟨_, rfl, _, _, rfl, rfl, _, rfl, ite2 (fun h1 => ?_) (fun h1 => ?_)⟩
    · have m0 : m = 0 := by
        have := of_decide_eq_true h1
        omega
      exact q H 0 (fun _ => rfl) (fun z => by omega) ⟨⟨seed, ms, hp, hc, hl, h0, s0, s1⟩, npc⟩ drawn_refl
    have mp : 0 < m := by
      have : ¬ ((m : Nat) : Int) < 1 := fun z => h1 (decide_eq_true z)
      omega
    refine ⟨_, rfl, p, _, 0, _, rfl, rfl, SqL.of hp, atI_nat (j := 0) rfl, ?_⟩
    -- while
    refine ⟨fun n σ H' => ∃ ks : List Int, σ = [some (.ref p), some (.int (m : Int)), some (.ref c), none, none] ∧ n = ks.length ∧ Drawn p c H H' ∧ H' p = some (.lst [.ref c, .int seed]) ∧ H' c = some (.lst (ks.map V.int)) ∧ ks.length ≤ 63 ∧ (∀ k ∈ ks, 0 ≤ k),
      ⟨ms.length, ms, rfl, rfl, drawn_refl, hp, hc, hl, h0⟩, ?_⟩
    rintro n σ H' ⟨ks, rfl, rfl, dr, hp', hc', hl', h0'⟩
    refine ⟨_, rfl, c, _, rfl, .inl (SqL.of hc'), _, _, rfl, rfl, _, rfl, ite2 (fun h2 => ?_) (fun h2 => ?_)⟩
    · obtain ⟨k, r, rfl⟩ : ∃ k r, ks = k :: r := by
        cases ks with
        | nil =>
          have := of_decide_eq_true h2
          exact absurd this (by decide)
        | cons k r => exact ⟨k, r, rfl⟩
      refine ⟨_, rfl, c, _, 0, .int k, rfl, rfl, SqL.of hc', atI_nat (j := 0) rfl, rfl, _, rfl, ite2 (fun h3 => ?_) (fun h3 => ?_)⟩
      · refine ⟨fun σ' H2 => ∃ n', n' < (k :: r).length ∧ ∃ ks : List Int, σ' = [some (.ref p), some (.int (m : Int)), some (.ref c), none, none] ∧ n' = ks.length ∧ Drawn p c H H2 ∧ H2 p = some (.lst [.ref c, .int seed]) ∧ H2 c = some (.lst (ks.map V.int)) ∧ ks.length ≤ 63 ∧ (∀ k ∈ ks, 0 ≤ k), fun _ _ z => z, ?_⟩
        refine ⟨_, rfl, .inl ⟨rfl, _, SqL.of hc'⟩, c, _, 0, 0, .int k, rfl, rfl, hc', by decide, by decide, ?_, rfl, ?_⟩
        · show seqIndex? 0 ((k :: r).map V.int).length = some 0
          show seqIndex? 0 (((k :: r).map V.int).length) = some 0
          exact seq0 (by rw [List.length_map, List.length_cons]; omega)
        · refine ⟨r.length, by show r.length < r.length + 1; omega, r, rfl, rfl, ?_, ?_, ?_, ?_, ?_⟩
          · intro b h1 h2
            rw [upd_ne h2]
            exact dr b h1 h2
          · rw [upd_ne npc]
            exact hp'
          · exact upd_same
          · have : r.length + 1 ≤ 63 := hl'
            omega
          · exact fun x hx => h0' x (List.mem_cons_of_mem _ hx)
      · have kne : k ≠ 0 := fun z => h3 (by rw [z]; rfl)
        have k1 := h0' k List.mem_cons_self
        refine ⟨_, rfl, c, _, rfl, .inl (SqL.of hc'), _, _, rfl, rfl, _, rfl, ite2 (fun _ => ?_) (fun z => absurd h2 z)⟩
        refine ⟨_, rfl, c, _, 0, .int k, rfl, rfl, SqL.of hc', atI_nat (j := 0) rfl, ?_⟩
        refine ⟨_, rfl, _, rfl, k, (m : Int), rfl, rfl, ⟨by omega, by omega⟩, _, rfl, c, _, 0, 0, rfl, rfl, hc', ix0 (by rw [List.length_map, List.length_cons]; omega), ?_⟩
        refine ⟨_, rfl, .inl ⟨_, rfl, _, rfl, _, _, rfl, rfl, by show (0 : Int) < (m : Int); omega, ?_⟩⟩
        have e1 : k % (m : Int) = (((k % (m : Int)).toNat : Nat) : Int) := (Int.toNat_of_nonneg (Int.emod_nonneg _ (by omega))).symm
        have e2 := Int.emod_lt_of_pos k (show (0 : Int) < (m : Int) by omega)
        show Q (V.int (k % (m : Int))) _
        rw [e1]
        refine q _ _ (fun z => by omega) (fun _ => by omega) ⟨⟨seed, (k / (m : Int)) :: r, ?_, ?_, hl', ?_, s0, s1⟩, npc⟩ ?_
        · rw [upd_ne npc]
          exact hp'
        · exact upd_same
        · intro x hx
          rcases List.mem_cons.mp hx with rfl | hx
          · exact Int.ediv_nonneg k1 (by omega)
          · exact h0' x (List.mem_cons_of_mem _ hx)
        · intro b z1 z2
          rw [upd_ne z2]
          exact dr b z1 z2
    · have e0 : ks = [] := by
        cases ks with
        | nil => rfl
        | cons k r => exact absurd (decide_eq_true (show (0 : Int) < (((k :: r).map V.int).length : Int) by rw [List.length_map, List.length_cons]; omega)) h2
      subst e0
      refine ⟨_, rfl, c, _, rfl, .inl (SqL.of hc'), _, _, rfl, rfl, _, rfl, ite2 (fun z => absurd z h2) (fun _ => ?_)⟩
      refine ⟨_, rfl, p, _, 1, _, rfl, rfl, SqL.of hp', atI_nat (j := 1) rfl, _, _, rfl, rfl, .inl ⟨by omega, by omega⟩, _, _, rfl, rfl, .inl ⟨_, rfl, _, _, rfl, rfl, by show (0 : Int) < 2147483647; decide, ?_⟩⟩
      have b0 := Int.emod_nonneg (seed * 48271 + 12345) (show (2147483647 : Int) ≠ 0 by decide)
      have b1 := Int.emod_lt_of_pos (seed * 48271 + 12345) (show (0 : Int) < 2147483647 by decide)
      refine ⟨_, rfl, _, rfl, p, _, 1, 1, rfl, rfl, hp', rfl, ?_⟩
      refine ⟨_, rfl, _, _, rfl, rfl, ⟨by show (0 : Int) < 64; decide, by show (64 : Int) < 1073741824; decide⟩, .inl ⟨_, rfl, _, rfl, _, _, rfl, rfl, by show (0 : Int) < (m : Int); omega, ?_⟩⟩
      have e1 : (seed * 48271 + 12345) % 2147483647 / 64 % (m : Int) = ((((seed * 48271 + 12345) % 2147483647 / 64 % (m : Int)).toNat : Nat) : Int) := (Int.toNat_of_nonneg (Int.emod_nonneg _ (by omega))).symm
      have e2 := Int.emod_lt_of_pos ((seed * 48271 + 12345) % 2147483647 / 64) (show (0 : Int) < (m : Int) by omega)
      show Q (V.int ((seed * 48271 + 12345) % 2147483647 / 64 % (m : Int))) _
      rw [e1]
      refine q _ _ (fun z => by omega) (fun _ => by omega) ⟨⟨(seed * 48271 + 12345) % 2147483647, [], upd_same, ?_, by decide, (fun x hx => nomatch hx), b0, by omega⟩, npc⟩ ?_
      · rw [upd_ne (Ne.symm npc)]
        exact hc'
      · intro b z1 z2
        rw [upd_ne z1]
        exact dr b z1 z2
/-! ### _law_pick -/
def spPick : Sp := fun vs H Q _ => ∃ (p c a : Addr) (xs : List V), vs = [.ref p, .ref a] ∧ H a = some (.lst xs) ∧ a ≠ p ∧ a ≠ c ∧ 0 < xs.length ∧ xs.length < 1000 ∧ StateAt H p c ∧
  ∀ H' v, v ∈ xs → StateAt H' p c → Drawn p c H H' → Q v H'
theorem ok_pick {f fD : Addr} {fd fdD : FuncData} (F : Fun K "_law_pick" "_law_pick" sPick f fd) (GD : FnOk P w K mg base CX0 1 fD fdD ["state", "many"] spDraw) (bD : Binds K fdD ["state", "many"] []) (gD : mg "_law_draw" = some (.ref fD)) (kD : PySem.W.keepIn K (.ref fD) = true) (ml : mg "len" = none) :
    FnOk P w K mg base CX0 2 f fd ["state", "row"] spPick := by
  refine F.ok scPick (fun vs H Q E h => ?_) (fun cdv A outer s H vs Q E hr h => ?_)
  · obtain ⟨p, c, a, xs, rfl, _⟩ := h
    rfl
  · obtain ⟨p, c, a, xs, rfl, ha, np, nc, l0, l1, st, q⟩ := h
    refine ⟨_, (pss_one (ps_ret (pe_ix ix_list (pv 1) (pe_call GD hr (by rfl) gD kD bD .nil pass0 (pa_cons (pv 0) (pa_cons (pe_callB call_len_seq (by rfl) ml PySem.boot_len (pa_cons (pv 1) pa_nil)) pa_nil))) (fun _ _ => rfl)))), ?_⟩
    refine ⟨_, rfl, _, rfl, _, rfl, a, _, rfl, .inl (SqL.of ha), p, c, xs.length, rfl, by omega, st, fun H' r _ hr2 st' dr => ?_⟩
    have lt := hr2 l0
    have ha' : H' a = some (.lst xs) := (dr a np nc).trans ha
    refine ⟨a, _, _, xs[r], rfl, rfl, SqL.of ha', atI_nat (List.getElem?_eq_getElem lt), ?_⟩
    exact q H' _ (List.getElem_mem lt) st' dr
end
end K12
namespace K12
open PySem PySem.Spec PyProof.Rows L2
theorem zl : 2000000 ≤ sizeLine := by
  rw [sizeLine_eq]
  decide
theorem same_new {a : Addr} {H : Hp} {o : HO} (e : H a = none) : Same H (upd H a o) := fun b o' e' => by
  rw [upd_ne (ne_of_none e' e)]
  exact e'
theorem same_upd {a : Addr} {H H1 : Hp} {o : HO} (e : H a = none) (s : Same H H1) : Same H (upd H1 a o) := fun b o' e' => by
  rw [upd_ne (ne_of_none e' e)]
  exact s b o' e'
theorem same_trans {H H1 H2 : Hp} (a : Same H H1) (b : Same H1 H2) : Same H H2 := fun x o e => b x o (a x o e)
theorem same_none {H H' : Hp} {a : Addr} (s : Same H H') (n : H' a = none) : H a = none := by
  cases e : H a with
  | none => rfl
  | some o =>
    rw [s a o e] at n
    cases n
theorem same_refl {H : Hp} : Same H H := fun _ _ e => e
theorem ixN_nat {n j : Nat} (h : j < n) : ixN n (j : Int) = some j := by
  unfold ixN
  rw [if_pos (by omega), if_pos (by omega), Int.toNat_natCast]
theorem atI_s {α : Type} {xs : List α} {j : Nat} {v : α} (h : xs[j + 1]? = some v) : atI xs ((j : Int) + 1) = some v := by
  have := atI_nat h
  rw [Int.natCast_add] at this
  exact this
theorem atI_end {α : Type} {xs : List α} {v : α} (h : xs[xs.length - 1]? = some v) : atI xs (-1) = some v := by
  have l := (List.getElem?_eq_some_iff.mp h).1
  have e : ixN xs.length (-1) = some (xs.length - 1) := by
    unfold ixN
    rw [if_neg (by decide), if_pos (by omega)]
    congr 1
    omega
  unfold atI
  rw [e]
  exact h
def lnV : Option Str → V
  | none => .non
  | some s => .str s
theorem scal_ln (x : Option Str) (y : Str) : scal (lnV x) (.str y) = true := by
  cases x <;> rfl
theorem dec_ln (x : Option Str) (y : Str) : decide (lnV x = V.str y) = decide (x = some y) := by
  cases x with
  | none => rfl
  | some s =>
    rw [Bool.eq_iff_iff]
    simp [lnV]
theorem get_map {α β : Type} {l : List α} {i : Nat} {x : α} (f : α → β) (h : l[i]? = some x) : (l.map f)[i]? = some (f x) := by
  rw [List.getElem?_map, h]
  rfl
theorem map_get {α β : Type} {l : List α} {i : Nat} {y : β} {f : α → β} (h : (l.map f)[i]? = some y) : ∃ x, l[i]? = some x ∧ f x = y := by
  rw [List.getElem?_map] at h
  exact Option.map_eq_some_iff.mp h
theorem flat_rep {α : Type} (n : Nat) (v : α) : (List.replicate n [v]).flatten = (List.range n).map fun _ => v := by
  induction n with
  | zero => rfl
  | succ n ih =>
    rw [List.replicate_succ', List.flatten_append, ih, List.range_succ, List.map_append]
    rfl
theorem upd_self {H : Hp} {a : Addr} {o : HO} (h : H a = some o) : upd H a o = H := by
  funext b
  by_cases e : b = a
  · rw [e, upd_same, h]
  · rw [upd_ne e]
theorem to_dec {R : Bool → Hp → Prop} {H : Hp} {x y : Bool} (e : x = y) (h : R y H) : R x H := e ▸ h
/-- a test of two parts; the parts may lay new objects -/
theorem and_dec {tA tB : TT} {σ : L2.St} {H : Hp} {Q : Bool → Hp → Prop} {p q : Prop} [Decidable p] [Decidable q] (hA : ∀ R : Bool → Hp → Prop, (∀ H1, Same H H1 → R (decide p) H1) → tA σ H R)
    (hB : p → ∀ H1, Same H H1 → ∀ R : Bool → Hp → Prop, (∀ H2, Same H1 H2 → R (decide q) H2) → tB σ H1 R) (h : ∀ H2, Same H H2 → Q (decide (p ∧ q)) H2) : tAnd tA tB σ H Q := by
  refine hA _ fun H1 s1 => ?_
  by_cases hp : p
  · show if decide p = true then tB σ H1 Q else Q false H1
    rw [decide_eq_true hp]
    refine hB hp H1 s1 Q fun H2 s2 => ?_
    have := h H2 (same_trans s1 s2)
    rw [show decide (p ∧ q) = decide q from decide_eq_decide.mpr ⟨fun z => z.2, fun z => ⟨hp, z⟩⟩] at this
    exact this
  · show if decide p = true then tB σ H1 Q else Q false H1
    rw [decide_eq_false hp]
    have := h H1 s1
    rw [decide_eq_false (fun z => hp z.1)] at this
    exact this
theorem or_dec {tA tB : TT} {σ : L2.St} {H : Hp} {Q : Bool → Hp → Prop} {p q : Prop} [Decidable p] [Decidable q] (hA : ∀ R : Bool → Hp → Prop, (∀ H1, Same H H1 → R (decide p) H1) → tA σ H R)
    (hB : ¬ p → ∀ H1, Same H H1 → ∀ R : Bool → Hp → Prop, (∀ H2, Same H1 H2 → R (decide q) H2) → tB σ H1 R) (h : ∀ H2, Same H H2 → Q (decide (p ∨ q)) H2) : tOr tA tB σ H Q := by
  refine hA _ fun H1 s1 => ?_
  by_cases hp : p
  · show if decide p = true then Q true H1 else tB σ H1 Q
    rw [decide_eq_true hp]
    have := h H1 s1
    rw [decide_eq_true (Or.inl hp)] at this
    exact this
  · show if decide p = true then Q true H1 else tB σ H1 Q
    rw [decide_eq_false hp]
    refine hB hp H1 s1 Q fun H2 s2 => ?_
    have := h H2 (same_trans s1 s2)
    rw [show decide (p ∨ q) = decide q from decide_eq_decide.mpr ⟨fun z => z.resolve_left hp, fun z => .inr z⟩] at this
    exact this
theorem dec_lt {α : Type} {i : Nat} {l : List α} {f : α → V} : decide ((i : Int) < ((l.map f).length : Int)) = decide (i < l.length) := by
  rw [List.length_map]
  exact decide_eq_decide.mpr Int.ofNat_lt
theorem dec_nat {i j : Nat} : decide ((V.int (i : Int)) = V.int (j : Int)) = decide (i = j) := by
  refine decide_eq_decide.mpr ⟨fun z => ?_, fun z => by rw [z]⟩
  have := V.int.inj z
  omega
end K12
/-! what stands in the heap: lines, lists of lines, edges -/
namespace K12
open PySem PySem.Spec PyProof.Rows L2 TR QR
open GX (KT kd kdAll RS TSt dNO KeysAt)
/-- values that are lines -/
def LAt (K : PySem.W.Frag) (H : Hp) (F : List (Nat × V)) : Prop := ∀ e ∈ F, Dp K H e.2 (encL e.1)
/-- a dict of lines with lists of lines -/
def EdgesAt (P : Program) (w : World) (K : PySem.W.Frag) (H : Hp) (r : Addr) (ks : List Nat) (g : Nat → List Nat) : Prop :=
  ∃ es : List (Nat × Addr × V), Rd H r (dNO ktL P w r es) ∧ KeysAt ktL K H es ∧ es.map (·.1) = ks ∧ ∀ e ∈ es, ∃ (l : Addr) (F : List (Nat × V)), e.2.2 = .ref l ∧ SqL K H l (F.map (·.2)) ∧ LAt K H F ∧ F.map (·.1) = g e.1
/-- a dict of lines with numbers -/
def NumsAt (P : Program) (w : World) (K : PySem.W.Frag) (H : Hp) (r : Addr) (ks : List Nat) (m : Nat → Nat) : Prop :=
  ∃ es : List (Nat × Addr × V), Rd H r (dNO ktL P w r es) ∧ KeysAt ktL K H es ∧ es.map (·.1) = ks ∧ ∀ e ∈ es, e.2.2 = .int (m e.1 : Int)
section
variable {P : Program} {w : World} {K : PySem.W.Frag} {H H' : Hp}
theorem kd_L (k : Nat) : kd (encL k) = true := ktL.kd k
theorem ln_ts {v : V} {k : Nat} (s : TSt K H H') (h : Dp K H v (encL k)) : Dp K H' v (encL k) := GX.Dp.tst s _ _ (kd_L k) h
theorem LAt.ts {F : List (Nat × V)} (s : TSt K H H') (h : LAt K H F) : LAt K H' F := fun e he => ln_ts s (h e he)
theorem EdgesAt.rs {r : Addr} {ks : List Nat} {g : Nat → List Nat} (s : RS H H') (h : EdgesAt P w K H r ks g) : EdgesAt P w K H' r ks g := by
  obtain ⟨es, h1, h2, h3, h4⟩ := h
  refine ⟨es, s.dn h1, h2.ts s.tst, h3, fun e he => ?_⟩
  obtain ⟨l, F, e1, e2, e3, e4⟩ := h4 e he
  exact ⟨l, F, e1, s.sql e2, e3.ts s.tst, e4⟩
theorem NumsAt.rs {r : Addr} {ks : List Nat} {m : Nat → Nat} (s : RS H H') (h : NumsAt P w K H r ks m) : NumsAt P w K H' r ks m := by
  obtain ⟨es, h1, h2, h3, h4⟩ := h
  exact ⟨es, s.dn h1, h2.ts s.tst, h3, h4⟩
theorem ln_ref {v : V} {k : Nat} (h : Dp K H v (encL k)) : ∃ a, v = .ref a := by
  unfold encL at h
  cases h with
  | tup h1 h2 => exact ⟨_, rfl⟩
theorem find_of {es : List (Nat × Addr × V)} {k : Nat} (h : k ∈ es.map (·.1)) : ∃ e, (es.find? fun e => decide (e.1 = k)) = some e ∧ e ∈ es ∧ e.1 = k := by
  cases e : es.find? fun e => decide (e.1 = k) with
  | none =>
    rw [List.find?_eq_none] at e
    obtain ⟨x, hx, hk⟩ := List.mem_map.mp h
    exact absurd (decide_eq_true hk) (e x hx)
  | some x => exact ⟨x, rfl, List.mem_of_find?_eq_some e, of_decide_eq_true (List.find?_some (p := fun x : Nat × Addr × V => decide (x.1 = k)) e)⟩
theorem find_no {es : List (Nat × Addr × V)} {k : Nat} (h : k ∉ es.map (·.1)) : (es.find? fun e => decide (e.1 = k)) = none := by
  rw [List.find?_eq_none]
  intro x hx hk
  exact h (List.mem_map.mpr ⟨x, hx, of_decide_eq_true hk⟩)
theorem is_some {es : List (Nat × Addr × V)} {k : Nat} : (es.find? fun e => decide (e.1 = k)).isSome = decide (k ∈ es.map (·.1)) := by
  by_cases h : k ∈ es.map (·.1)
  · obtain ⟨e, h1, _⟩ := find_of h
    rw [h1, decide_eq_true h]
    rfl
  · rw [find_no h, decide_eq_false h]
    rfl
/-- the list behind a key, or an empty one -/
theorem EdgesAt.get {r : Addr} {ks : List Nat} {g : Nat → List Nat} (h : EdgesAt P w K H r ks g) (hg : ∀ k, k ∉ ks → g k = []) (k : Nat) : ∃ es : List (Nat × Addr × V), Rd H r (dNO ktL P w r es) ∧ KeysAt ktL K H es ∧
    ∀ n : Addr, SqL K H n [] → ∃ (l : Addr) (F : List (Nat × V)), (((es.find? fun e => decide (e.1 = k)).map (·.2.2)).getD (.ref n)) = .ref l ∧ SqL K H l (F.map (·.2)) ∧ LAt K H F ∧ F.map (·.1) = g k := by
  obtain ⟨es, h1, h2, h3, h4⟩ := h
  refine ⟨es, h1, h2, fun n hn => ?_⟩
  by_cases hk : k ∈ es.map (·.1)
  · obtain ⟨e, e1, e2, e3⟩ := find_of hk
    obtain ⟨l, F, f1, f2, f3, f4⟩ := h4 e e2
    exact ⟨l, F, by rw [e1]; exact f1, f2, f3, by rw [f4, e3]⟩
  · refine ⟨n, [], by rw [find_no hk]; rfl, hn, (fun _ h => nomatch h), ?_⟩
    rw [hg k (by rw [← h3]; exact hk)]
    rfl
theorem dst_keys {es : List (Nat × Addr × V)} {k : Nat} {b : Addr} {v : V} : (GX.dSt es k b v).map (·.1) = if k ∈ es.map (·.1) then es.map (·.1) else es.map (·.1) ++ [k] := by
  unfold GX.dSt
  rw [is_some]
  by_cases h : k ∈ es.map (·.1)
  · rw [if_pos (decide_eq_true h), if_pos h, List.map_map]
    refine List.map_congr_left fun e _ => ?_
    show (if e.1 = k then (e.1, e.2.1, v) else e).1 = e.1
    split <;> rfl
  · rw [if_neg (by simpa using h), if_neg h, List.map_append]
    rfl
theorem dst_mem {es : List (Nat × Addr × V)} {k : Nat} {b : Addr} {v : V} {e : Nat × Addr × V} (h : e ∈ GX.dSt es k b v) : (e.1 = k ∧ e.2.2 = v) ∨ (e ∈ es ∧ e.1 ≠ k) := by
  unfold GX.dSt at h
  rw [is_some] at h
  by_cases hk : k ∈ es.map (·.1)
  · rw [if_pos (decide_eq_true hk)] at h
    obtain ⟨x, hx, rfl⟩ := List.mem_map.mp h
    by_cases e : x.1 = k
    · rw [if_pos e]
      exact .inl ⟨e, rfl⟩
    · rw [if_neg e]
      exact .inr ⟨hx, e⟩
  · rw [if_neg (by simpa using hk)] at h
    rcases List.mem_append.mp h with h | h
    · exact .inr ⟨h, fun e => hk (List.mem_map.mpr ⟨_, h, e⟩)⟩
    · rw [List.mem_singleton.mp h]
      exact .inl ⟨rfl, rfl⟩
theorem dn_ne_tup {r : Addr} {es : List (Nat × Addr × V)} : (∀ xs, dNO ktL P w r es ≠ .tup xs) ∧ ∀ p xs, dNO ktL P w r es ≠ .frz p (.tup xs) := ⟨(fun _ h => nomatch h), (fun _ _ h => nomatch h)⟩
theorem ts_dict {r : Addr} {es : List (Nat × Addr × V)} {o : HO} (h : H r = some (dNO ktL P w r es)) : TSt K H (upd H r o) := GX.tst_upd h dn_ne_tup.1 dn_ne_tup.2
theorem ts_lst {r : Addr} {xs : List V} {o : HO} (h : H r = some (.lst xs)) : TSt K H (upd H r o) := GX.tst_upd h (fun _ h => nomatch h) (fun _ _ h => nomatch h)
theorem ts_same (s : Same H H') : TSt K H H' := (GX.rs_same s).tst
theorem ts_new {a : Addr} {o : HO} (h : H a = none) : TSt K H (upd H a o) := ts_same (same_new h)
theorem sq_ts {x : Addr} {ys : List V} (s : TSt K H H') (h : SqT K H x ys) : SqT K H' x ys := s x ys h
end
end K12
namespace K12
open PySem PySem.Spec PyProof.Rows L2 TR QR
open GX (KT kd kdAll RS TSt dNO KeysAt)
abbrev sFI : Stmt := topS 2
abbrev nFI : List Str := ["edges", "lines", "order", "seen", "start", "stack", "line", "left", "other"]
theorem scFI : FnScope nFI ["edges", "lines"] (defScope sFI) := ⟨rfl, rfl, rfl, by decide +kernel, rfl, by decide +kernel, by decide +kernel⟩
/-- the stack: lines with a sign -/
def StkAt (K : PySem.W.Frag) (H : Hp) (S : List ((Nat × Bool) × V)) : Prop := ∀ e ∈ S, ∃ (t a : Addr), e.2 = .ref t ∧ SqT K H t [.ref a, .bl e.1.2] ∧ Dp K H (.ref a) (encL e.1.1)
theorem StkAt.ts {K : PySem.W.Frag} {H H' : Hp} {S : List ((Nat × Bool) × V)} (s : TSt K H H') (h : StkAt K H S) : StkAt K H' S := fun e he => by
  obtain ⟨t, a, h1, h2, h3⟩ := h e he
  exact ⟨t, a, h1, sq_ts s h2, ln_ts s h3⟩
def trues (S : List ((Nat × Bool) × V)) : Nat := (S.filter fun e => e.1.2).length
theorem trues_app (S T : List ((Nat × Bool) × V)) : trues (S ++ T) = trues S + trues T := by
  unfold trues
  rw [List.filter_append, List.length_append]
/-- in the middle of the walk: the lines in order, the seen ones, the stack -/
structure FJ (P : Program) (w : World) (K : PySem.W.Frag) (H0 H : Hp) (n : Nat) (ao as : Addr) (G : List (Nat × V)) (es : List (Nat × Addr × V)) (S : List ((Nat × Bool) × V)) : Prop where
  sm : Same H0 H
  o0 : H0 ao = none
  s0 : H0 as = none
  eo : H ao = some (.lst (G.map (·.2)))
  ek : H as = some (dNO ktL P w as es)
  la : LAt K H G
  ka : KeysAt ktL K H es
  nd : (es.map (·.1)).Nodup
  kn : ∀ k ∈ es.map (·.1), k < n
  gn : ∀ k ∈ G.map (·.1), k < n
  cnt : G.length + trues S = es.length
  sn : ∀ e ∈ S, e.1.1 < n
  don : ∀ k ∈ es.map (·.1), k ∈ G.map (·.1) ∨ ∃ e ∈ S, e.1 = (k, true)
theorem FJ.ne {P : Program} {w : World} {K : PySem.W.Frag} {H0 H : Hp} {n : Nat} {ao as : Addr} {G : List (Nat × V)} {es : List (Nat × Addr × V)} {S : List ((Nat × Bool) × V)} (f : FJ P w K H0 H n ao as G es S) : ao ≠ as := fun e => by
  have := f.eo
  rw [e, f.ek] at this
  cases this
theorem FJ.le {P : Program} {w : World} {K : PySem.W.Frag} {H0 H : Hp} {n : Nat} {ao as : Addr} {G : List (Nat × V)} {es : List (Nat × Addr × V)} {S : List ((Nat × Bool) × V)} (f : FJ P w K H0 H n ao as G es S) : es.length ≤ n := by
  have := nat_nodup_len f.nd (m := List.range n) fun x hx => List.mem_range.mpr (f.kn x hx)
  rwa [List.length_map, List.length_range] at this
/-- other things change -/
theorem FJ.keep {P : Program} {w : World} {K : PySem.W.Frag} {H0 H H' : Hp} {n : Nat} {ao as : Addr} {G : List (Nat × V)} {es : List (Nat × Addr × V)} {S : List ((Nat × Bool) × V)} (f : FJ P w K H0 H n ao as G es S) (s : Same H0 H') (t : TSt K H H') (h1 : H' ao = H ao) (h2 : H' as = H as) : FJ P w K H0 H' n ao as G es S :=
  ⟨s, f.o0, f.s0, h1.trans f.eo, h2.trans f.ek, f.la.ts t, f.ka.ts t, f.nd, f.kn, f.gn, f.cnt, f.sn, f.don⟩
theorem FJ.same {P : Program} {w : World} {K : PySem.W.Frag} {H0 H H' : Hp} {n : Nat} {ao as : Addr} {G : List (Nat × V)} {es : List (Nat × Addr × V)} {S : List ((Nat × Bool) × V)} (f : FJ P w K H0 H n ao as G es S) (s : Same H H') : FJ P w K H0 H' n ao as G es S :=
  f.keep (same_trans f.sm s) (ts_same s) (by rw [f.eo, s _ _ f.eo]) (by rw [f.ek, s _ _ f.ek])
section
variable {P : Program} {w : World} {K : PySem.W.Frag} {H0 H : Hp} {n : Nat} {ao as : Addr} {G : List (Nat × V)} {es : List (Nat × Addr × V)} {S : List ((Nat × Bool) × V)} {k : Nat} {v : V}
theorem FJ.popT (f : FJ P w K H0 H n ao as G es (S ++ [((k, true), v)])) {a : Addr} (ha : Dp K H (.ref a) (encL k)) : FJ P w K H0 (upd H ao (.lst ((G ++ [(k, V.ref a)]).map (·.2)))) n ao as (G ++ [(k, V.ref a)]) es S where
  sm := same_upd f.o0 f.sm
  o0 := f.o0
  s0 := f.s0
  eo := upd_same
  ek := (upd_ne (Ne.symm f.ne)).trans f.ek
  la := fun e he => by
    rcases List.mem_append.mp he with h | h
    · exact ln_ts (ts_lst f.eo) (f.la e h)
    · rw [List.mem_singleton.mp h]
      exact ln_ts (ts_lst f.eo) ha
  ka := f.ka.ts (ts_lst f.eo)
  nd := f.nd
  kn := f.kn
  gn := fun x hx => by
    rw [List.map_append] at hx
    rcases List.mem_append.mp hx with h | h
    · exact f.gn x h
    · rw [List.mem_singleton.mp h]
      exact f.sn _ (List.mem_append_right _ List.mem_cons_self)
  cnt := by
    have := f.cnt
    rw [trues_app] at this
    rw [List.length_append]
    have e : trues [((k, true), v)] = 1 := rfl
    rw [e] at this
    simp only [List.length_cons, List.length_nil]
    omega
  sn := fun e he => f.sn e (List.mem_append_left _ he)
  don := fun x hx => by
    rw [List.map_append]
    rcases f.don x hx with h | ⟨e, he, h⟩
    · exact .inl (List.mem_append_left _ h)
    · rcases List.mem_append.mp he with he | he
      · exact .inr ⟨e, he, h⟩
      · rw [List.mem_singleton.mp he] at h
        cases h
        exact .inl (List.mem_append_right _ List.mem_cons_self)
theorem FJ.popF (f : FJ P w K H0 H n ao as G es (S ++ [((k, false), v)])) : FJ P w K H0 H n ao as G es S :=
  ⟨f.sm, f.o0, f.s0, f.eo, f.ek, f.la, f.ka, f.nd, f.kn, f.gn, by
    have := f.cnt
    rw [trues_app] at this
    have e : trues [((k, false), v)] = 0 := rfl
    rw [e] at this
    omega, fun e he => f.sn e (List.mem_append_left _ he), fun x hx => by
    rcases f.don x hx with h | ⟨e, he, h⟩
    · exact .inl h
    · rcases List.mem_append.mp he with he | he
      · exact .inr ⟨e, he, h⟩
      · rw [List.mem_singleton.mp he] at h
        cases h⟩
theorem trues_f : ∀ {T : List ((Nat × Bool) × V)}, (∀ e ∈ T, e.1.2 = false) → trues T = 0
  | [], _ => rfl
  | e :: T, h => by
    have := trues_f fun x hx => h x (List.mem_cons_of_mem _ hx)
    unfold trues at this ⊢
    rw [List.filter_cons, if_neg (by rw [h e List.mem_cons_self]; decide)]
    exact this
/-- a new line is seen; behind it lines without a sign are laid -/
theorem FJ.see (f : FJ P w K H0 H n ao as G es S) (hk : k < n) (nk : k ∉ es.map (·.1)) {a : Addr} (ha : Dp K H (.ref a) (encL k)) : FJ P w K H0 (upd H as (dNO ktL P w as (GX.dSt es k a (.bl true)))) n ao as G (GX.dSt es k a (.bl true)) (S ++ [((k, true), v)]) where
  sm := same_upd f.s0 f.sm
  o0 := f.o0
  s0 := f.s0
  eo := (upd_ne f.ne).trans f.eo
  ek := upd_same
  la := f.la.ts (ts_dict f.ek)
  ka := (GX.st_keys f.ka ha).ts (ts_dict f.ek)
  nd := GX.st_nodup f.nd
  kn := fun x hx => by
    rw [dst_keys, if_neg nk] at hx
    rcases List.mem_append.mp hx with h | h
    · exact f.kn x h
    · rw [List.mem_singleton.mp h]
      exact hk
  gn := f.gn
  cnt := by
    have e1 : (GX.dSt es k a (.bl true)).length = es.length + 1 := by
      have := congrArg List.length (dst_keys (es := es) (k := k) (b := a) (v := .bl true))
      rw [if_neg nk, List.length_append, List.length_map, List.length_map] at this
      exact this
    rw [trues_app, e1, show trues [((k, true), v)] = 1 from rfl]
    have := f.cnt
    omega
  sn := fun e he => by
    rcases List.mem_append.mp he with h | h
    · exact f.sn e h
    · rw [List.mem_singleton.mp h]
      exact hk
  don := fun x hx => by
    rw [dst_keys, if_neg nk] at hx
    rcases List.mem_append.mp hx with h | h
    · rcases f.don x h with h | ⟨e, he, h⟩
      · exact .inl h
      · exact .inr ⟨e, List.mem_append_left _ he, h⟩
    · rw [List.mem_singleton.mp h]
      exact .inr ⟨((k, true), v), List.mem_append_right _ List.mem_cons_self, rfl⟩
theorem FJ.more (f : FJ P w K H0 H n ao as G es S) {T : List ((Nat × Bool) × V)} (h1 : ∀ e ∈ T, e.1.2 = false) (h2 : ∀ e ∈ T, e.1.1 < n) : FJ P w K H0 H n ao as G es (S ++ T) :=
  ⟨f.sm, f.o0, f.s0, f.eo, f.ek, f.la, f.ka, f.nd, f.kn, f.gn, by rw [trues_app, trues_f h1]; exact f.cnt, fun e he => by
    rcases List.mem_append.mp he with h | h
    · exact f.sn e h
    · exact h2 e h, fun x hx => by
    rcases f.don x hx with h | ⟨e, he, h⟩
    · exact .inl h
    · exact .inr ⟨e, List.mem_append_left _ he, h⟩⟩
end
section
variable {P : Program} {w : World} {K : PySem.W.Frag} {mg : Str → Option Value} {base : Heap}
def spFI (P : Program) (w : World) (K : PySem.W.Frag) : Sp := fun vs H Q _ => ∃ (ed ls : Addr) (ks : List Nat) (g : Nat → List Nat) (F : List (Nat × V)) (n : Nat), vs = [.ref ed, .ref ls] ∧ EdgesAt P w K H ed ks g ∧ (∀ k, k ∉ ks → g k = []) ∧ SqL K H ls (F.map (·.2)) ∧ LAt K H F ∧ F.map (·.1) = List.range n ∧ n ≤ 16 ∧ (∀ k j, j ∈ g k → j < n) ∧ (∀ k, (g k).length ≤ 64) ∧
  ∀ H' p (G : List (Nat × V)), Same H H' → H p = none → H' p = some (.lst (G.map (·.2))) → LAt K H' G → (∀ k, k < n → k ∈ G.map (·.1)) → (∀ k ∈ G.map (·.1), k < n) → G.length ≤ n → Q (.ref p) H'
theorem ok_FI {f : Addr} {fd : FuncData} (F : Fun K "finished" "finished" sFI f fd) : FnOk P w K mg base CX0 1 f fd ["edges", "lines"] (spFI P w K) := by
  refine F.ok scFI (fun vs H Q E h => ?_) (fun cdv A outer s H vs Q E hr h => ?_)
  · obtain ⟨ed, ls, ks, g, F, n, rfl, _⟩ := h
    rfl
  · obtain ⟨ed, ls, ks, g, F, n, rfl, hE, hg, hL, hF, hr', hn, ht, hd, q⟩ := h
    have hu := hr.units
    have hu1 := hu_of hr
    have zl := zl
    refine ⟨_, (pss_cons (ps_asg (pe_tup (pa_cons (pe_lst (pa_nil)) (pa_cons ((GX.pe_dnewN (T := ktL))) pa_nil))) (pg_tup (by rfl) (pgs_cons (pg_name (i := 2) scFI.nd rfl (.inl rfl)) (pgs_cons (pg_name (i := 3) scFI.nd rfl (.inr rfl)) pgs_nil))))
      (pss_cons (ps_for PassesOwn.never rfl (pi_list (pv 1)) (pg_name (i := 4) scFI.nd rfl (.inl rfl))
      (pss_cons (ps_set (i := 5) scFI.nd rfl (.inl rfl) (pe_lst (pa_cons (pe_tup (pa_cons (pv 4) (pa_cons (pe_bl) pa_nil))) pa_nil)))
      (pss_one (ps_while PassesOwn.never (pt_truth (pv 5) (by intro _; rfl))
      (pss_cons (ps_asg (pe_bm0 PySem.F.plainAttrs_list PySem.F.slot_list_pop PySem.F.type_list_pop mt_pop (pv 5)) (pg_tup (by rfl) (pgs_cons (pg_name (i := 6) scFI.nd rfl (.inl rfl)) (pgs_cons (pg_name (i := 7) scFI.nd rfl (.inl rfl)) pgs_nil))))
      (pss_one (ps_if (pt_val (pv 7))
      (pss_one (ps_expr (pe_bm PySem.F.plainAttrs_list PySem.F.slot_list_append PySem.F.type_list_append mt_append (pv 2) (pa_cons (pv 6) pa_nil)))) (pss_one (ps_if (pt_cmpR (GX.op_notInN (T := ktL) hu) (pv 6) (pv 3) (by rfl))
      (pss_cons (ps_asg (pe_bl) (pg_sub (pv 3) (pv 6) (GX.set_N (T := ktL) hu)))
      (pss_cons (ps_expr (pe_bm PySem.F.plainAttrs_list PySem.F.slot_list_append PySem.F.type_list_append mt_append (pv 5) (pa_cons (pe_tup (pa_cons (pv 6) (pa_cons (pe_bl) pa_nil))) pa_nil)))
      (pss_one (ps_expr (pe_bm PySem.F.plainAttrs_list PySem.F.slot_list_extend PySem.F.type_list_extend mt_extend (pv 5) (pa_cons (pe_lc (own := [("other", 8)]) (g := gName 8) (tt := tTest (tOp (GX.rNotInN ktL P w K) (tVar 8) (tVar 3))) (te := tTup (tCons (tVar 8) (tCons (tC (.bl false)) tNil))) rfl scFI.nd (pi_list (GX.pe_bmN (T := ktL) PySem.F.plainAttrs_dict PySem.F.slot_dict_get PySem.F.type_dict_get (GX.mt_getN (T := ktL) hu) (pv 0) (pa_cons (pv 6) (pa_cons (pe_lst (pa_nil)) pa_nil)))) (blkOk_by (N := nFI) (sc := defScope sFI) (by decide +kernel)) (fun _ _ _ _ _ => by exact pg_name (i := 8) scFI.nd rfl (.inl rfl)) (fun _ _ _ _ _ => by exact pts_one (pt_cmpR (GX.op_notInN (T := ktL) hu) (pv 8) (pv 3) (by rfl))) (fun _ _ _ _ _ => by exact pe_tup (pa_cons (pv 8) (pa_cons (pe_bl) pa_nil)))) pa_nil)))))) pss_nil)))))))))
      (pss_one (ps_ret (pv 2))))), ?_⟩
    refine ⟨Nat.zero_le _, fun ao no as ns => ⟨by show 2 ≤ sizeLine; omega, fun t0 nt0 => ⟨_, _, rfl, SqT.of upd_same, rfl, _, _, rfl, _, _, rfl, rfl, ?_⟩⟩⟩
    have nas : as ≠ ao := fun e => by rw [e, upd_same] at ns; cases ns
    have s0 : Same H (upd (upd (upd H ao (.lst [])) as (dNO ktL P w as [])) t0 (.tup [.ref ao, .ref as])) := same_trans (same_trans (same_new no) (same_new ns)) (same_new nt0)
    have f0 : FJ P w K H (upd (upd (upd H ao (.lst [])) as (dNO ktL P w as [])) t0 (.tup [.ref ao, .ref as])) n ao as [] [] [] := by
      have e1 : upd (upd H ao (.lst [])) as (dNO ktL P w as []) ao = some (.lst []) := (upd_ne (Ne.symm nas)).trans upd_same
      exact ⟨s0, no, same_none (same_new no) ns, same_new nt0 _ _ e1, same_new nt0 _ _ upd_same, (fun _ h => nomatch h), (fun _ h => nomatch h), List.nodup_nil, (fun _ h => nomatch h), (fun _ h => nomatch h), rfl, (fun _ h => nomatch h), (fun _ h => nomatch h)⟩
    refine ⟨_, rfl, ls, rfl, ⟨_, (GX.rs_same s0).sql hL⟩, for_list (xs := F.map (·.2)) (fun i σ H' => ∃ (y4 y5 y6 y7 : Option V) (G : List (Nat × V)) (es : List (Nat × Addr × V)), σ = [some (.ref ed), some (.ref ls), some (.ref ao), some (.ref as), y4, y5, y6, y7, none] ∧ FJ P w K H H' n ao as G es [] ∧ ∀ k, k < i → k ∈ es.map (·.1))
      ⟨none, none, none, none, [], [], rfl, f0, fun k hk => by omega⟩ ?_ ?_ ?_⟩
    · rintro i σ H' _ ⟨y4, y5, y6, y7, G, es, rfl, f, _⟩
      exact (GX.rs_same f.sm).sql hL
    · rintro i x σ H2 hx ⟨y4, y5, y6, y7, G, es, rfl, f, hi⟩
      obtain ⟨⟨k0, v0⟩, gx, rfl⟩ := map_get hx
      have ek0 : k0 = i := by
        have := congrArg (fun l => l[i]?) hr'
        simp only [List.getElem?_map, gx] at this
        have hi' : i < n := by
          have := (List.getElem?_eq_some_iff.mp gx).1
          have e := congrArg List.length hr'
          rw [List.length_map, List.length_range] at e
          omega
        rw [List.getElem?_range hi'] at this
        exact Option.some.inj this
      subst ek0
      have hin : k0 < n := by
        have := (List.getElem?_eq_some_iff.mp gx).1
        have e := congrArg List.length hr'
        rw [List.length_map, List.length_range] at e
        omega
      have hv0 := hF _ (List.mem_of_getElem? gx)
      obtain ⟨a0, ea0⟩ := ln_ref hv0
      simp only at ea0
      subst ea0
      refine ⟨_, rfl, by show 2 ≤ sizeLine; omega, fun t nt => ⟨by show 1 ≤ sizeLine; omega, fun at' nat => ?_⟩⟩
      have n1 : H2 at' = none := same_none (same_new nt) nat
      have natH : H at' = none := same_none f.sm n1
      have nao : at' ≠ ao := fun e => by rw [e, f.eo] at n1; cases n1
      have naas : at' ≠ as := fun e => by rw [e, f.ek] at n1; cases n1
      have sA : Same H2 (upd (upd H2 t (.tup [.ref a0, .bl false])) at' (.lst [.ref t])) := same_trans (same_new nt) (same_new nat)
      have fA := (f.same sA).more (T := [((k0, false), V.ref t)]) (fun e he => by rw [List.mem_singleton.mp he]) (fun e he => by rw [List.mem_singleton.mp he]; exact hin)
      have kA : StkAt K (upd (upd H2 t (.tup [.ref a0, .bl false])) at' (.lst [.ref t])) [((k0, false), V.ref t)] := fun e he => by
        rw [List.mem_singleton.mp he]
        exact ⟨t, a0, rfl, SqT.of (same_new nat _ _ upd_same), ln_ts (ts_same (same_trans f.sm sA)) hv0⟩
      refine ⟨fun m σ H' => ∃ (y6 y7 : Option V) (G : List (Nat × V)) (es : List (Nat × Addr × V)) (S : List ((Nat × Bool) × V)), σ = [some (.ref ed), some (.ref ls), some (.ref ao), some (.ref as), some (.ref a0), some (.ref at'), y6, y7, none] ∧ m = S.length + 80 * (n - es.length) ∧ FJ P w K H H' n ao as G es S ∧ StkAt K H' S ∧ H' at' = some (.lst (S.map (·.2))) ∧ m ≤ 2000 ∧
          (∀ k, k < k0 → k ∈ es.map (·.1)) ∧ (k0 ∈ es.map (·.1) ∨ ∃ e ∈ S, e.1 = (k0, false)),
        ⟨_, y6, y7, G, es, [((k0, false), V.ref t)], rfl, rfl, fA, kA, upd_same, ?_, hi, .inr ⟨_, List.mem_cons_self, rfl⟩⟩, ?_⟩
      · simp only [List.length_cons, List.length_nil]
        omega
      clear fA kA sA f hi n1 nat
      rintro m σ H3 ⟨y6, y7, G, es, S, rfl, rfl, f, ks3, hat, hm, hi, h0⟩
      refine ⟨_, rfl, _, .inl ⟨_, SqL.of hat, rfl⟩, ite2 (fun c1 => ?_) (fun c1 => ?_)⟩
      · obtain ⟨S', e, rfl⟩ : ∃ S' e, S = S' ++ [e] := by
          rcases List.eq_nil_or_concat S with h | ⟨S', e, h⟩
          · rw [h] at c1
            exact absurd c1 (by decide)
          · exact ⟨S', e, by rw [h]; simp⟩
        obtain ⟨⟨k, b⟩, v⟩ := e
        obtain ⟨t3, a3, ev, ht3, ha3⟩ := ks3 _ (List.mem_append_right _ List.mem_cons_self)
        simp only at ev ht3 ha3
        subst ev
        have hlen : es.length ≤ n := f.le
        have hk : k < n := f.sn _ (List.mem_append_right _ List.mem_cons_self)
        refine ⟨fun σ' H' => ∃ m', m' < (S' ++ [((k, b), V.ref t3)]).length + 80 * (n - es.length) ∧ ∃ (y6 y7 : Option V) (G : List (Nat × V)) (es : List (Nat × Addr × V)) (S : List ((Nat × Bool) × V)), σ' = [some (.ref ed), some (.ref ls), some (.ref ao), some (.ref as), some (.ref a0), some (.ref at'), y6, y7, none] ∧ m' = S.length + 80 * (n - es.length) ∧ FJ P w K H H' n ao as G es S ∧ StkAt K H' S ∧ H' at' = some (.lst (S.map (·.2))) ∧ m' ≤ 2000 ∧
          (∀ k, k < k0 → k ∈ es.map (·.1)) ∧ (k0 ∈ es.map (·.1) ∨ ∃ e ∈ S, e.1 = (k0, false)), fun _ _ z => z, ?_⟩
        have elast : ((S' ++ [((k, b), V.ref t3)]).map (·.2))[((S' ++ [((k, b), V.ref t3)]).map (·.2)).length - 1]? = some (V.ref t3) := by
          rw [List.map_append, List.length_append]
          simp
        have edrop : ((S' ++ [((k, b), V.ref t3)]).map (·.2)).dropLast = S'.map (·.2) := by
          rw [List.map_append]
          simp
        have tsA : TSt K H3 (upd H3 at' (.lst (S'.map (·.2)))) := ts_lst hat
        have fB : FJ P w K H (upd H3 at' (.lst (S'.map (·.2)))) n ao as G es (S' ++ [((k, b), V.ref t3)]) := f.keep (same_upd natH f.sm) tsA (upd_ne (Ne.symm nao)) (upd_ne (Ne.symm naas))
        have kB : StkAt K (upd H3 at' (.lst (S'.map (·.2)))) S' := fun e he => (ks3.ts tsA) e (List.mem_append_left _ he)
        have ha4 := ln_ts tsA ha3
        have ht4 := sq_ts tsA ht3
        have hat4 : upd H3 at' (.lst (S'.map (·.2))) at' = some (.lst (S'.map (·.2))) := upd_same
        refine ⟨_, rfl, .inl ⟨rfl, _, SqL.of hat⟩, at', _, _, rfl, rfl, hat, elast, ?_⟩
        rw [edrop]
        generalize upd H3 at' (.lst (S'.map (·.2))) = H4 at fB kB ha4 ht4 hat4
        clear tsA f ks3 ht3 ha3 hat
        refine ⟨t3, _, rfl, ht4, rfl, _, _, rfl, _, _, rfl, rfl, ?_⟩
        refine ⟨_, rfl, b, rfl, ite2 (fun c2 => ?_) (fun c2 => ?_)⟩
        · subst c2
          refine ⟨_, rfl, .inl ⟨rfl, _, SqL.of fB.eo⟩, _, rfl, ao, _, _, rfl, rfl, fB.eo, ?_, ?_⟩
          · have := fB.cnt
            rw [List.length_map]
            omega
          · have fC := fB.popT ha4
            have tC := ts_lst (K := K) (o := .lst ((G ++ [(k, V.ref a3)]).map (·.2))) fB.eo
            rw [List.map_append] at fC tC
            refine ⟨_, ?_, _, _, G ++ [(k, V.ref a3)], es, S', rfl, rfl, fC, kB.ts tC, (upd_ne nao).trans hat4, ?_, hi, ?_⟩
            · rw [List.length_append]
              simp only [List.length_cons, List.length_nil]
              omega
            · rw [List.length_append] at hm
              omega
            · rcases h0 with h0 | ⟨e, he, h0⟩
              · exact .inl h0
              · rcases List.mem_append.mp he with he | he
                · exact .inr ⟨e, he, h0⟩
                · rw [List.mem_singleton.mp he] at h0
                  cases h0
        · have eb : b = false := by simpa using c2
          subst eb
          refine ⟨_, rfl, _, rfl, as, a3, es, k, rfl, rfl, .inl fB.ek, fB.ka, ha4, _, rfl, ?_⟩
          rw [is_some]
          refine ite2 (fun c3 => ?_) (fun c3 => ?_)
          · have nk : k ∉ es.map (·.1) := by simpa using c3
            have fC := fB.popF
            refine ⟨_, rfl, _, rfl, as, a3, es, k, rfl, rfl, fC.ek, fC.ka, ha4, by omega, ?_⟩
            have fD := fC.see (v := V.ref t3) hk nk ha4
            have ts5 := ts_dict (K := K) (o := dNO ktL P w as (GX.dSt es k a3 (.bl true))) fC.ek
            have el : (GX.dSt es k a3 (.bl true)).length = es.length + 1 := by
              have := congrArg List.length (dst_keys (es := es) (k := k) (b := a3) (v := .bl true))
              rw [if_neg nk, List.length_append, List.length_map, List.length_map] at this
              exact this
            have ek5 : k ∈ (GX.dSt es k a3 (.bl true)).map (·.1) := by
              rw [dst_keys, if_neg nk]
              exact List.mem_append_right _ List.mem_cons_self
            have up5 : ∀ x ∈ es.map (·.1), x ∈ (GX.dSt es k a3 (.bl true)).map (·.1) := fun x hx => by
              rw [dst_keys, if_neg nk]
              exact List.mem_append_left _ hx
            have kC := kB.ts ts5
            have ha5 := ln_ts ts5 ha4
            have hat5 : upd H4 as (dNO ktL P w as (GX.dSt es k a3 (.bl true))) at' = some (.lst (S'.map (·.2))) := (upd_ne naas).trans hat4
            show tSeq _ _ _ _ (upd H4 as (dNO ktL P w as (GX.dSt es k a3 (.bl true))))
            generalize upd H4 as (dNO ktL P w as (GX.dSt es k a3 (.bl true))) = H5 at fD kC ha5 hat5
            generalize GX.dSt es k a3 (.bl true) = es2 at fD el ek5 up5
            refine ⟨_, rfl, .inl ⟨rfl, _, SqL.of hat5⟩, _, rfl, by show 2 ≤ sizeLine; omega, fun t5 nt5 => ?_⟩
            have hat6 := same_new (o := .tup [.ref a3, .bl true]) nt5 _ _ hat5
            refine ⟨at', _, _, rfl, rfl, hat6, by rw [List.length_map]; rw [List.length_append] at hm; omega, ?_⟩
            have sT := same_new (o := .tup [.ref a3, .bl true]) nt5
            have fE : FJ P w K H (upd (upd H5 t5 (.tup [.ref a3, .bl true])) at' (.lst (S'.map (·.2) ++ [V.ref t5]))) n ao as G es2 (S' ++ [((k, true), V.ref t3)]) :=
              (fD.same sT).keep (same_upd natH (fD.same sT).sm) (ts_lst hat6) (upd_ne (Ne.symm nao)) (upd_ne (Ne.symm naas))
            have tsE : TSt K H5 (upd (upd H5 t5 (.tup [.ref a3, .bl true])) at' (.lst (S'.map (·.2) ++ [V.ref t5]))) := (ts_same sT).trans (ts_lst hat6)
            have kE := kC.ts tsE
            have ha6 := ln_ts tsE ha5
            have ht6 : SqT K (upd (upd H5 t5 (.tup [.ref a3, .bl true])) at' (.lst (S'.map (·.2) ++ [V.ref t5]))) t5 [.ref a3, .bl true] := sq_ts (ts_lst hat6) (SqT.of upd_same)
            have hat7 : upd (upd H5 t5 (.tup [.ref a3, .bl true])) at' (.lst (S'.map (·.2) ++ [V.ref t5])) at' = some (.lst (S'.map (·.2) ++ [V.ref t5])) := upd_same
            generalize upd (upd H5 t5 (.tup [.ref a3, .bl true])) at' (.lst (S'.map (·.2) ++ [V.ref t5])) = H7 at fE kE ha6 ht6 hat7
            obtain ⟨esE, hR, hK, hget⟩ := (hE.rs (GX.rs_same fE.sm)).get hg k
            refine ⟨_, rfl, .inl ⟨rfl, _, SqL.of hat7⟩, _, rfl, ⟨ed, esE, rfl, hR⟩, _, rfl, Nat.zero_le _, fun nn hnn => ?_⟩
            have sN := same_new (o := .lst []) hnn
            have hE7 : EdgesAt P w K (upd H7 nn (.lst [])) ed ks g := hE.rs (GX.rs_same (same_trans fE.sm sN))
            have hK' : KeysAt ktL K (upd H7 nn (.lst [])) esE := hK.ts (ts_same sN)
            obtain ⟨es8, hR8, hK8, hget8⟩ := hE7.get hg k
            obtain ⟨l, F2, el2, hl2, hF2, eg2⟩ := hget8 nn (SqL.of upd_same)
            refine ⟨ed, a3, es8, k, .ref nn, rfl, rfl, hR8, hK8, ln_ts (ts_same sN) ha6, l, el2, ⟨_, hl2⟩, fun D nD => ?_⟩
            have fG := fE.same sN
            have nDH : H D = none := same_none fG.sm nD
            have nDat : D ≠ at' := fun e => by
              rw [e, sN _ _ hat7] at nD
              cases nD
            have lF2 : F2.length ≤ 64 := by
              have := hd k
              rw [← eg2, List.length_map] at this
              exact this
            refine lc_list (xs := F2.map (·.2)) (fun j H9 => ∃ T : List ((Nat × Bool) × V), Same (upd H7 nn (.lst [])) H9 ∧ H9 D = some (.lst (T.map (·.2))) ∧ StkAt K H9 T ∧ (∀ e ∈ T, e.1.2 = false) ∧ (∀ e ∈ T, e.1.1 < n) ∧ T.length ≤ j) ⟨[], same_new nD, upd_same, (fun _ h => nomatch h), (fun _ h => nomatch h), (fun _ h => nomatch h), Nat.zero_le _⟩ ?_ ?_ ?_
            · rintro j H9 _ ⟨T, s9, _⟩
              exact (GX.rs_same s9).sql hl2
            · rintro j x H9 hx ⟨T, s9, eD, kT, b1, b2, lT⟩
              obtain ⟨⟨k8, v8⟩, g8, rfl⟩ := map_get hx
              have m8 := List.mem_of_getElem? g8
              have hj8 : j < F2.length := (List.getElem?_eq_some_iff.mp g8).1
              have h8 := ln_ts (ts_same s9) (hF2 _ m8)
              obtain ⟨a8, e8⟩ := ln_ref h8
              simp only at e8
              subst e8
              have n8 : k8 < n := ht k k8 (by rw [← eg2]; exact List.mem_map.mpr ⟨_, m8, rfl⟩)
              have f9 := fG.same s9
              refine ⟨rfl, _, rfl, _, rfl, as, a8, es2, k8, rfl, rfl, .inl f9.ek, f9.ka, h8, _, rfl, ite2 (fun _ => ?_) (fun _ => ?_)⟩
              · refine ⟨_, rfl, by show 2 ≤ sizeLine; omega, fun t9 nt9 => ⟨_, same_new nt9 _ _ eD, by rw [List.length_map]; omega, T ++ [((k8, false), V.ref t9)], ?_, ?_, ?_, ?_, ?_, ?_⟩⟩
                · exact same_upd nD (same_trans s9 (same_new nt9))
                · rw [upd_same, List.map_append]
                  rfl
                · have tt := (ts_new (K := K) (o := .tup [.ref a8, .bl false]) nt9).trans (ts_lst (K := K) (o := .lst (T.map (·.2) ++ [V.ref t9])) (same_new (o := .tup [.ref a8, .bl false]) nt9 _ _ eD))
                  intro e he
                  rcases List.mem_append.mp he with he | he
                  · exact (kT.ts tt) e he
                  · rw [List.mem_singleton.mp he]
                    exact ⟨t9, a8, rfl, sq_ts (ts_lst (same_new nt9 _ _ eD)) (SqT.of upd_same), ln_ts tt h8⟩
                · intro e he
                  rcases List.mem_append.mp he with he | he
                  · exact b1 e he
                  · rw [List.mem_singleton.mp he]
                · intro e he
                  rcases List.mem_append.mp he with he | he
                  · exact b2 e he
                  · rw [List.mem_singleton.mp he]
                    exact n8
                · rw [List.length_append]
                  exact Nat.succ_le_succ lT
              · exact ⟨T, s9, eD, kT, b1, b2, by omega⟩
            · rintro H9 ⟨T, s9, eD, kT, b1, b2, lT⟩
              rw [List.length_map] at lT
              have hat9 := s9 _ _ (sN _ _ hat7)
              have f9 := fG.same s9
              refine ⟨at', D, _, _, rfl, rfl, hat9, eD, ?_, ?_⟩
              · rw [List.length_append, List.length_map, List.length_map]
                rw [List.length_append] at hm
                simp only [List.length_cons, List.length_nil] at hm ⊢
                omega
              · have tZ := ts_lst (K := K) (o := .lst (S'.map (·.2) ++ [V.ref t5] ++ T.map (·.2))) hat9
                have fH := (f9.keep (H' := upd H9 at' (.lst (S'.map (·.2) ++ [V.ref t5] ++ T.map (·.2)))) (same_upd natH f9.sm) tZ (upd_ne (Ne.symm nao)) (upd_ne (Ne.symm naas))).more b1 b2
                have fH' : FJ P w K H (upd H9 at' (.lst (S'.map (·.2) ++ [V.ref t5] ++ T.map (·.2)))) n ao as G es2 (S' ++ [((k, true), V.ref t5)] ++ T) :=
                  ⟨fH.sm, fH.o0, fH.s0, fH.eo, fH.ek, fH.la, fH.ka, fH.nd, fH.kn, fH.gn, by
                    have := fH.cnt
                    rw [trues_app, trues_app] at this ⊢
                    exact this, fun e he => by
                    rcases List.mem_append.mp he with he | he
                    · rcases List.mem_append.mp he with he | he
                      · exact fH.sn e (List.mem_append_left _ (List.mem_append_left _ he))
                      · rw [List.mem_singleton.mp he]
                        exact hk
                    · exact b2 e he, fun x hx => by
                    rcases fH.don x hx with h | ⟨e, he, h⟩
                    · exact .inl h
                    · rcases List.mem_append.mp he with he | he
                      · rcases List.mem_append.mp he with he | he
                        · exact .inr ⟨e, List.mem_append_left _ (List.mem_append_left _ he), h⟩
                        · rw [List.mem_singleton.mp he] at h
                          exact .inr ⟨((k, true), V.ref t5), List.mem_append_left _ (List.mem_append_right _ List.mem_cons_self), h⟩
                      · exact .inr ⟨e, List.mem_append_right _ he, h⟩⟩
                have le2 : es2.length ≤ n := fH.le
                refine ⟨_, ?_, _, _, G, es2, S' ++ [((k, true), V.ref t5)] ++ T, rfl, rfl, fH', ?_, ?_, ?_, fun x hx => up5 x (hi x hx), ?_⟩
                · simp only [List.length_append, List.length_cons, List.length_nil]
                  omega
                · intro e he
                  rcases List.mem_append.mp he with he | he
                  · rcases List.mem_append.mp he with he | he
                    · exact ((kE.ts (ts_same (same_trans sN s9))).ts tZ) e he
                    · rw [List.mem_singleton.mp he]
                      exact ⟨t5, a3, rfl, sq_ts tZ (sq_ts (ts_same (same_trans sN s9)) ht6), ln_ts tZ (ln_ts (ts_same (same_trans sN s9)) ha6)⟩
                  · exact (kT.ts tZ) e he
                · rw [upd_same, List.map_append, List.map_append]
                  rfl
                · simp only [List.length_append, List.length_cons, List.length_nil] at hm ⊢
                  omega
                · rcases h0 with h0 | ⟨e, he, h0⟩
                  · exact .inl (up5 _ h0)
                  · rcases List.mem_append.mp he with he | he
                    · exact .inr ⟨e, List.mem_append_left _ (List.mem_append_left _ he), h0⟩
                    · rw [List.mem_singleton.mp he] at h0
                      cases h0
                      exact .inl ek5
          · have yk : k ∈ es.map (·.1) := by simpa using c3
            refine ⟨_, ?_, _, _, G, es, S', rfl, rfl, fB.popF, kB, hat4, ?_, hi, ?_⟩
            · rw [List.length_append]
              simp only [List.length_cons, List.length_nil]
              omega
            · rw [List.length_append] at hm
              omega
            · rcases h0 with h0 | ⟨e, he, h0⟩
              · exact .inl h0
              · rcases List.mem_append.mp he with he | he
                · exact .inr ⟨e, he, h0⟩
                · rw [List.mem_singleton.mp he] at h0
                  cases h0
                  exact .inl yk
      · have eS : S = [] := by
          cases S with
          | nil => rfl
          | cons e S => exact absurd rfl c1
        subst eS
        refine ⟨_, _, _, _, G, es, rfl, f, fun k hk => ?_⟩
        rcases Nat.lt_succ_iff_lt_or_eq.mp hk with h | h
        · exact hi k h
        · subst h
          rcases h0 with h0 | ⟨e, he, _⟩
          · exact h0
          · cases he
    · rintro σ H2 ⟨y4, y5, y6, y7, G, es, rfl, f, hi⟩
      rw [List.length_map, show F.length = n from by have e := congrArg List.length hr'; rwa [List.length_map, List.length_range] at e] at hi
      refine ⟨_, rfl, q H2 ao G f.sm f.o0 f.eo f.la (fun k hk => ?_) f.gn ?_⟩
      · rcases f.don k (hi k hk) with h | ⟨e, he, _⟩
        · exact h
        · cases he
      · have := f.cnt
        have := f.le
        omega
end
end K12
namespace K12
open PySem PySem.Spec PyProof.Rows L2 TR QR
open GX (KT kd kdAll RS TSt dNO KeysAt)
abbrev sMA : Stmt := topS 3
abbrev nMA : List Str := ["edges", "bits", "order", "line", "masks", "changed", "mask", "other"]
theorem scMA : FnScope nMA ["edges", "bits"] (defScope sMA) := ⟨rfl, rfl, rfl, by decide +kernel, rfl, by decide +kernel, by decide +kernel⟩
theorem or_nat (a b : Nat) : Builtin.bitOr (a : Int) (b : Int) = ((a ||| b : Nat) : Int) := by
  rw [Bits.bitOr_pp (by omega) (by omega)]
  simp
theorem orAll_app (M : Nat → Nat) (l : List Nat) (o m : Nat) : orAll M (l ++ [o]) m = orAll M l m ||| M o ||| 2 ^ o := by
  unfold orAll
  rw [List.foldl_append]
  rfl
structure MJ (P : Program) (w : World) (K : PySem.W.Frag) (H0 H : Hp) (n : Nat) (g : Nat → List Nat) (D : Addr) (js : List Nat) (M : Nat → Nat) (es : List (Nat × Addr × V)) : Prop where
  sm : Same H0 H
  d0 : H0 D = none
  ek : H D = some (dNO ktL P w D es)
  ka : KeysAt ktL K H es
  ks : es.map (·.1) = js
  vl : ∀ e ∈ es, e.2.2 = .int (M e.1 : Int)
  so : MSound g M
  lt : ∀ k, M k < 2 ^ n
  nd : js.Nodup
section
variable {P : Program} {w : World} {K : PySem.W.Frag} {H0 H H' : Hp} {n : Nat} {g : Nat → List Nat} {D : Addr} {js : List Nat} {M : Nat → Nat} {es : List (Nat × Addr × V)} {k : Nat}
theorem nums_at (e1 : ∀ e ∈ es, e.2.2 = .int (M e.1 : Int)) (hk : k ∈ es.map (·.1)) : ∃ b, (es.find? fun e => decide (e.1 = k)) = some (k, b, .int (M k : Int)) := by
  obtain ⟨⟨k', b, v⟩, h1, h2, h3⟩ := find_of hk
  have h4 := e1 _ h2
  simp only at h3 h4
  subst h3
  subst h4
  exact ⟨b, h1⟩
theorem MJ.same (f : MJ P w K H0 H n g D js M es) (s : Same H H') : MJ P w K H0 H' n g D js M es :=
  ⟨same_trans f.sm s, f.d0, s _ _ f.ek, f.ka.ts (ts_same s), f.ks, f.vl, f.so, f.lt, f.nd⟩
theorem MJ.put (f : MJ P w K H0 H n g D js M es) (hk : k ∈ js) {a : Addr} (ha : Dp K H (.ref a) (encL k)) {v : Nat} (hv : v < 2 ^ n) (hs : ∀ j, v.testBit j = true → TG (fun a b => b ∈ g a) k j) : MJ P w K H0 (upd H D (dNO ktL P w D (GX.dSt es k a (.int (v : Int))))) n g D js (setM M k v) (GX.dSt es k a (.int (v : Int))) where
  sm := same_upd f.d0 f.sm
  d0 := f.d0
  ek := upd_same
  ka := (GX.st_keys f.ka ha).ts (ts_dict f.ek)
  ks := by
    rw [dst_keys, if_pos (by rw [f.ks]; exact hk)]
    exact f.ks
  vl := fun e he => by
    rcases dst_mem he with ⟨h1, h2⟩ | ⟨h1, h2⟩
    · rw [h2, h1]
      unfold setM
      rw [if_pos rfl]
    · rw [f.vl e h1]
      unfold setM
      rw [if_neg h2]
  so := fun x j h => by
    unfold setM at h
    split at h
    · next e =>
      rw [e]
      exact hs j h
    · exact f.so x j h
  lt := fun x => by
    unfold setM
    split
    · exact hv
    · exact f.lt x
  nd := f.nd
end
section
variable {P : Program} {w : World} {K : PySem.W.Frag} {mg : Str → Option Value} {base : Heap}
def spMA (P : Program) (w : World) (K : PySem.W.Frag) : Sp := fun vs H Q _ => ∃ (ed bt : Addr) (ks : List Nat) (g : Nat → List Nat) (n : Nat), vs = [.ref ed, .ref bt] ∧ EdgesAt P w K H ed ks g ∧ (∀ k, k ∉ ks → g k = []) ∧ NumsAt P w K H bt (List.range n) (fun k => 2 ^ k) ∧ n ≤ 16 ∧ (∀ k j, j ∈ g k → j < n) ∧ (∀ k, (g k).length ≤ 64) ∧
  ∀ H' p js M, Same H H' → H p = none → NumsAt P w K H' p js M → (∀ k, k ∈ js ↔ k < n) → (∀ k, M k < 2 ^ n) → (∀ k j, k < n → ((M k).testBit j = true ↔ TG (fun a b => b ∈ g a) k j)) → Q (.ref p) H'
theorem ok_MA {f fFI : Addr} {fd fdFI : FuncData} (F : Fun K "masks_along" "masks_along" sMA f fd)
    (GFI : FnOk P w K mg base CX0 1 fFI fdFI ["edges", "lines"] (spFI P w K)) (bFI : Binds K fdFI ["edges", "lines"] []) (gFI : mg "finished" = some (.ref fFI)) (kFI : PySem.W.keepIn K (.ref fFI) = true)
    (m_sorted : mg "sorted" = none) : FnOk P w K mg base CX0 2 f fd ["edges", "bits"] (spMA P w K) := by
  refine F.ok scMA (fun vs H Q E h => ?_) (fun cdv A outer s H vs Q E hr h => ?_)
  · obtain ⟨ed, bt, ks, g, n, rfl, _⟩ := h
    rfl
  · obtain ⟨ed, bt, ks, g, n, rfl, hE, hg, ⟨esB, hB, kB, eB, vB⟩, hn, ht, hd, q⟩ := h
    have hu := hr.units
    have hu1 := hu_of hr
    have hr1 : Room 1 _ := hr.mono (by decide)
    have zl := zl
    refine ⟨_, (pss_cons (ps_set (i := 2) scMA.nd rfl (.inl rfl) (pe_call GFI hr1 (by rfl) gFI kFI bFI .nil pass0 (pa_cons (pv 0) (pa_cons (pe_callB (GX.cr_sortedN (T := ktL) rfl hu) (by rfl) m_sorted (by decide +kernel) (pa_cons (pv 1) pa_nil)) pa_nil))))
      (pss_cons (GX.ps_setDg (i := 4) (o0 := fun D => GX.dNO ktL P w D []) (put := GX.putN ktL P w K) (own := [("line", 3)]) (g := gName 3) (tt := tYes) (tk := tVar 3) (tv := tC (.int 0)) (fun H h hb => GX.dg_empty H h hb) rfl scMA.nd rfl rfl (GX.sw_dict rfl rfl rfl (by decide +kernel)) (pi_list (pv 2)) (blkOk_by (N := nMA) (sc := defScope sMA) (by decide +kernel)) (fun _ _ _ _ _ => by exact pg_name (i := 3) scMA.nd rfl (.inl rfl)) (fun _ _ _ _ _ => pts_nil) (fun _ _ _ _ _ => by exact pv 3) (fun _ _ _ _ _ => by exact pe_int) (fun _ _ _ _ _ => GX.putR_N hu))
      (pss_cons (ps_set (i := 5) scMA.nd rfl (.inl rfl) (pe_bl))
      (pss_cons (ps_while PassesOwn.never (pt_val (pv 5))
      (pss_cons (ps_set (i := 5) scMA.nd rfl (.inl rfl) (pe_bl))
      (pss_one (ps_for PassesOwn.never rfl (pi_list (pv 2)) (pg_name (i := 3) scMA.nd rfl (.inl rfl))
      (pss_cons (ps_set (i := 6) scMA.nd rfl (.inl rfl) (pe_ix (GX.ix_N (T := ktL) hu) (pv 4) (pv 3) (fun _ _ => rfl)))
      (pss_cons (ps_for PassesOwn.never rfl (pi_list (GX.pe_bmN (T := ktL) PySem.F.plainAttrs_dict PySem.F.slot_dict_get PySem.F.type_dict_get (GX.mt_getN (T := ktL) hu) (pv 0) (pa_cons (pv 3) (pa_cons (pe_lst (pa_nil)) pa_nil)))) (pg_name (i := 7) scMA.nd rfl (.inl rfl))
      (pss_one (ps_set (i := 6) scMA.nd rfl (.inl rfl) (pe_op op_or (pe_op op_or (pv 6) (pe_ix (GX.ix_N (T := ktL) hu) (pv 4) (pv 7) (fun _ _ => rfl))) (pe_ix (GX.ix_N (T := ktL) hu) (pv 1) (pv 7) (fun _ _ => rfl))))))
      (pss_one (ps_if (pt_cmpR op_ne (pv 6) (pe_ix (GX.ix_N (T := ktL) hu) (pv 4) (pv 3) (fun _ _ => rfl)) (nomark _))
      (pss_cons (ps_asg (pv 6) (pg_sub (pv 4) (pv 3) (GX.set_N (T := ktL) hu)))
      (pss_one (ps_set (i := 5) scMA.nd rfl (.inl rfl) (pe_bl)))) pss_nil))))))))
      (pss_one (ps_ret (pv 4))))))), ?_⟩
    have lB : esB.length = n := by
      have := congrArg List.length eB
      rwa [List.length_map, List.length_range] at this
    have sB : GX.sortN ktL esB = esB := sorted_asc (fun e : Nat × Addr × V => e.1) (by
      have : (esB.map (·.1)).Pairwise (· ≤ ·) := by
        rw [eB]
        exact List.pairwise_lt_range.imp fun h => Nat.le_of_lt h
      rwa [List.pairwise_map] at this)
    obtain ⟨al, so⟩ := able_L (fun e : Nat × Addr × V => e.1) esB
    refine ⟨_, rfl, _, rfl, bt, esB, rfl, hB, kB, al, so, fun p np => ?_⟩
    rw [sB]
    have s1 := same_new (o := .lst (esB.map fun e => V.ref e.2.1)) np
    refine ⟨ed, p, ks, g, esB.map fun e => (e.1, V.ref e.2.1), n, rfl, hE.rs (GX.rs_same s1), hg, ?_, ?_, ?_, hn, ht, hd, fun H2 po G s2 npo hpo hG g1 g2 lG => ?_⟩
    · rw [List.map_map]
      exact SqL.of upd_same
    · intro e he
      obtain ⟨x, hx, rfl⟩ := List.mem_map.mp he
      exact ln_ts (ts_same s1) (kB x hx)
    · rw [List.map_map]
      exact eB
    have s02 : Same H H2 := same_trans s1 s2
    refine ⟨_, rfl, po, rfl, ⟨_, SqL.of hpo⟩, fun D nD => ?_⟩
    refine GX.dg_it (o0 := fun D => dNO ktL P w D []) (put := GX.putN ktL P w K) (walk_list (K := K) (a := po) (xs := G.map (·.2))) (fun j H' => Same H2 H' ∧ ∃ es : List (Nat × Addr × V), H' D = some (dNO ktL P w D es) ∧ KeysAt ktL K H' es ∧ (∀ x, x ∈ es.map (·.1) ↔ x ∈ (G.take j).map (·.1)) ∧ (∀ e ∈ es, e.2.2 = .int 0) ∧ es.length ≤ j ∧ (es.map (·.1)).Nodup) ⟨same_new nD, [], upd_same, (fun _ h => nomatch h), (fun x => by simp), (fun _ h => nomatch h), Nat.le_refl _, List.nodup_nil⟩ ?_ ?_ ?_
    · rintro j H' _ ⟨s, _⟩
      exact SqL.of (s _ _ hpo)
    · rintro j x H3 _ hj ⟨s, es, ek, ka, kk, vv, le, nd⟩ ⟨rfl, hx⟩
      obtain ⟨⟨k, v⟩, gx, rfl⟩ := map_get hx
      have hk := ln_ts (ts_same s) (hG _ (List.mem_of_getElem? gx))
      obtain ⟨a, ea⟩ := ln_ref hk
      simp only at ea
      subst ea
      rw [List.length_map] at hj
      refine ⟨rfl, _, rfl, es, k, a, rfl, ek, ka, hk, by omega, same_upd nD s, GX.dSt es k a (.int 0), upd_same, (GX.st_keys ka hk).ts (ts_dict ek), fun x => ?_, fun e he => ?_, ?_, GX.st_nodup nd⟩
      · rw [dst_keys, List.take_add_one, gx, List.map_append, List.mem_append, ← kk x]
        show _ ↔ _ ∨ x ∈ [k]
        by_cases hm : k ∈ es.map (·.1)
        · rw [if_pos hm]
          constructor
          · exact .inl
          · rintro (h | h)
            · exact h
            · rw [List.mem_singleton.mp h]
              exact hm
        · rw [if_neg hm, List.mem_append]
      · rcases dst_mem he with ⟨_, h⟩ | ⟨h, _⟩
        · exact h
        · exact vv e h
      · have := GX.st_len (es := es) (k := k) (b := a) (v := .int 0)
        omega
    · rintro H3 ⟨s, es0, ek, ka, kk, vv, le, nd⟩
      rw [List.length_map, List.take_length] at kk
      have nDH : H D = none := same_none s02 nD
      have f0 : MJ P w K H H3 n g D (es0.map (·.1)) (fun _ => 0) es0 := ⟨same_trans s02 s, nDH, ek, ka, rfl, vv, fun k j h => by simp at h, fun k => Nat.two_pow_pos n, nd⟩
      have hjs : ∀ k, k ∈ es0.map (·.1) ↔ k < n := fun k => (kk k).trans ⟨g2 k, g1 k⟩
      generalize es0.map (·.1) = js at f0 hjs
      have hE3 : ∀ {H'}, Same H H' → EdgesAt P w K H' ed ks g := fun s => hE.rs (GX.rs_same s)
      have hpo3 : ∀ {H'}, Same H3 H' → H' po = some (.lst (G.map (·.2))) := fun s' => s' _ _ (s _ _ hpo)
      have npoD : po ≠ D := fun e => by
        rw [e] at hpo
        rw [hpo] at nD
        cases nD
      refine ⟨fun m σ H' => ∃ (y3 y6 y7 : Option V) (M : Nat → Nat) (b : Bool) (es : List (Nat × Addr × V)), σ = [some (.ref ed), some (.ref bt), some (.ref po), y3, some (.ref D), some (.bl b), y6, y7] ∧ m = 2 * gap n M + (if b = true then 1 else 0) ∧ MJ P w K H H' n g D js M es ∧ SqL K H' po (G.map (·.2)) ∧ LAt K H' G ∧ (b = false → ∀ k, k < n → orAll M (g k) (M k) = M k),
        ⟨_, _, _, _, fun _ => 0, true, es0, rfl, rfl, f0, SqL.of (s _ _ hpo), hG.ts (ts_same s), fun h => nomatch h⟩, ?_⟩
      rintro m σ H4 ⟨y3, y6, y7, M, b, es, rfl, rfl, f, hL, hG4, hfix⟩
      refine ⟨_, rfl, b, rfl, ite2 (fun c1 => ?_) (fun c1 => ?_)⟩
      · subst c1
        refine ⟨fun σ' H' => ∃ m', m' < 2 * gap n M + (if true = true then 1 else 0) ∧ ∃ (y3 y6 y7 : Option V) (M : Nat → Nat) (b : Bool) (es : List (Nat × Addr × V)), σ' = [some (.ref ed), some (.ref bt), some (.ref po), y3, some (.ref D), some (.bl b), y6, y7] ∧ m' = 2 * gap n M + (if b = true then 1 else 0) ∧ MJ P w K H H' n g D js M es ∧ SqL K H' po (G.map (·.2)) ∧ LAt K H' G ∧ (b = false → ∀ k, k < n → orAll M (g k) (M k) = M k), fun _ _ z => z, ?_⟩
        refine ⟨_, rfl, po, rfl, ⟨_, hL⟩, for_list (xs := G.map (·.2)) (fun i σ H' => ∃ (y3 y6 y7 : Option V) (M' : Nat → Nat) (b : Bool) (es : List (Nat × Addr × V)), σ = [some (.ref ed), some (.ref bt), some (.ref po), y3, some (.ref D), some (.bl b), y6, y7] ∧ gap n M' + (if b = true then 1 else 0) ≤ gap n M ∧ MJ P w K H H' n g D js M' es ∧ SqL K H' po (G.map (·.2)) ∧ LAt K H' G ∧ (b = false → M' = M ∧ ∀ e ∈ G.take i, orAll M (g e.1) (M e.1) = M e.1))
          ⟨y3, y6, y7, M, false, es, rfl, by simp, f, hL, hG4, fun _ => ⟨rfl, fun _ h => nomatch h⟩⟩ ?_ ?_ ?_⟩
        · rintro i σ H' _ ⟨_, _, _, _, _, _, rfl, _, _, h, _⟩
          exact h
        · rintro i x σ H5 hx ⟨y3, y6, y7, M', b, es, rfl, hgap, f5, hL5, hG5, hb⟩
          obtain ⟨⟨k, v⟩, gx, rfl⟩ := map_get hx
          have hmem := List.mem_of_getElem? gx
          have hk := hG5 _ hmem
          obtain ⟨a, ea⟩ := ln_ref hk
          simp only at ea hk
          subst ea
          have kn : k < n := g2 k (List.mem_map.mpr ⟨_, hmem, rfl⟩)
          have kj : k ∈ js := (hjs k).mpr kn
          obtain ⟨bk, hfk⟩ := nums_at f5.vl (k := k) (by rw [f5.ks]; exact kj)
          refine ⟨_, rfl, _, rfl, D, a, es, k, _, rfl, rfl, .inl f5.ek, f5.ka, hk, hfk, ?_⟩
          obtain ⟨esE, hR, hK, _⟩ := (hE3 f5.sm).get hg k
          refine ⟨_, rfl, ⟨ed, esE, rfl, hR⟩, _, rfl, Nat.zero_le _, fun nn hnn => ?_⟩
          have sN := same_new (o := .lst []) hnn
          have f6 := f5.same sN
          obtain ⟨es8, hR8, hK8, hget8⟩ := (hE3 f6.sm).get hg k
          obtain ⟨l, F2, el2, hl2, hF2, eg2⟩ := hget8 nn (SqL.of upd_same)
          have hk6 := ln_ts (ts_same sN) hk
          have hL6 := (GX.rs_same sN).sql hL5
          have hG6 := hG5.ts (ts_same sN)
          refine ⟨ed, a, es8, k, .ref nn, rfl, rfl, hR8, hK8, hk6, l, el2, ⟨_, hl2⟩, ?_⟩
          have hfk6 := hfk
          generalize upd H5 nn (.lst []) = H6 at f6 hl2 hF2 hk6 hL6 hG6
          refine for_list (xs := F2.map (·.2)) (fun j σ H' => H' = H6 ∧ ∃ y7 : Option V, σ = [some (.ref ed), some (.ref bt), some (.ref po), some (.ref a), some (.ref D), some (.bl b), some (.int (orAll M' ((g k).take j) (M' k) : Nat)), y7]) ⟨rfl, y7, rfl⟩ ?_ ?_ ?_
          · rintro j σ H' _ ⟨rfl, _⟩
            exact hl2
          · rintro j x σ H' hx2 ⟨rfl, y7, rfl⟩
            obtain ⟨⟨o, v⟩, go, rfl⟩ := map_get hx2
            have hmo := List.mem_of_getElem? go
            have ho := hF2 _ hmo
            obtain ⟨ao, eo⟩ := ln_ref ho
            simp only at eo ho
            subst eo
            have og : o ∈ g k := by rw [← eg2]; exact List.mem_map.mpr ⟨_, hmo, rfl⟩
            have on : o < n := ht k o og
            obtain ⟨bo, hfo⟩ := nums_at f6.vl (k := o) (by rw [f6.ks]; exact (hjs o).mpr on)
            obtain ⟨bo2, hfo2⟩ := nums_at (M := fun k => 2 ^ k) vB (k := o) (by rw [eB]; exact List.mem_range.mpr on)
            have gk : (g k)[j]? = some o := by rw [← eg2]; exact get_map (·.1) go
            have etk : (g k).take (j + 1) = (g k).take j ++ [o] := by rw [List.take_add_one, gk]; rfl
            refine ⟨_, rfl, _, rfl, _, rfl, D, ao, es, o, _, rfl, rfl, .inl f6.ek, f6.ka, ho, hfo, _, _, rfl, rfl, _, rfl, _, rfl, bt, ao, esB, o, _, rfl, rfl, (GX.rs_same f6.sm).dn hB, kB.ts (ts_same f6.sm), ho, hfo2, _, _, rfl, rfl, rfl, some (.ref ao), ?_⟩
            rw [etk, orAll_app, or_nat]
            dsimp only
            rw [or_nat]
            rfl
          · rintro σ H' ⟨rfl, y7, rfl⟩
            rw [List.length_map, show (g k).take F2.length = g k from List.take_of_length_le (by rw [← eg2, List.length_map]; exact Nat.le_refl _)]
            have vlt : orAll M' (g k) (M' k) < 2 ^ n := orAll_lt (fun o _ => f6.lt o) (fun o ho => ht k o ho) (f6.lt k)
            refine ⟨_, rfl, _, rfl, _, rfl, D, a, es, k, _, rfl, rfl, .inl f6.ek, f6.ka, hk6, hfk6, rfl, _, rfl, ite2 (fun c2 => ?_) (fun c2 => ?_)⟩
            · have ne : orAll M' (g k) (M' k) ≠ M' k := fun e => by
                rw [e] at c2
                simp at c2
              have gt : M' k < orAll M' (g k) (M' k) := Nat.lt_of_le_of_ne (orAll_le M' (g k) (M' k)) (Ne.symm ne)
              have f7 := f6.put kj hk6 vlt (or_sound f6.so k)
              have t7 := ts_dict (K := K) (o := dNO ktL P w D (GX.dSt es k a (.int (orAll M' (g k) (M' k) : Nat)))) f6.ek
              have hL7 : SqL K (upd H' D (dNO ktL P w D (GX.dSt es k a (.int (orAll M' (g k) (M' k) : Nat))))) po (G.map (·.2)) := by
                rcases hL6 with h | h
                · rcases h with h | ⟨o, h⟩
                  · exact .inl (.inl ((upd_ne npoD).trans h))
                  · exact .inl (.inr ⟨o, (upd_ne npoD).trans h⟩)
                · exact .inr h
              have les : es.length ≤ 16 := by
                have h1 : es.length = js.length := by rw [← f6.ks, List.length_map]
                have h2 := nat_nodup_len (l := js) (m := List.range n) f6.nd fun x hx => List.mem_range.mpr ((hjs x).mp hx)
                rw [List.length_range] at h2
                omega
              refine ⟨_, rfl, _, rfl, _, rfl, D, a, es, k, rfl, rfl, f6.ek, f6.ka, hk6, by omega, _, _, _, setM M' k (orAll M' (g k) (M' k)), true, _, rfl, ?_, f7, hL7, hG6.ts t7, fun h => nomatch h⟩
              have := gap_lt (M := M') kn gt vlt
              rw [if_pos rfl]
              have : gap n M' ≤ gap n M := by
                split at hgap <;> omega
              omega
            · have e : orAll M' (g k) (M' k) = M' k := by
                have c3 : ((orAll M' (g k) (M' k) : Nat) : Int) = ((M' k : Nat) : Int) := by simpa using c2
                omega
              refine ⟨_, _, _, M', b, es, rfl, hgap, f6, hL6, hG6, fun hb0 => ?_⟩
              obtain ⟨e1, e2⟩ := hb hb0
              refine ⟨e1, fun x hx => ?_⟩
              rw [List.take_add_one, gx] at hx
              rcases List.mem_append.mp hx with hx | hx
              · exact e2 x hx
              · rw [show x = (k, V.ref a) from List.mem_singleton.mp hx, ← e1]
                exact e
        · rintro σ H5 ⟨y3, y6, y7, M', b, es, rfl, hgap, f5, hL5, hG5, hb⟩
          refine ⟨2 * gap n M' + (if b = true then 1 else 0), ?_, _, _, _, M', b, es, rfl, rfl, f5, hL5, hG5, fun hb0 k hk => ?_⟩
          · cases b with
            | true =>
              rw [if_pos rfl] at hgap
              simp only [if_true]
              omega
            | false =>
              rw [if_neg Bool.false_ne_true] at hgap
              simp only [if_true, Bool.false_eq_true, if_false]
              omega
          · obtain ⟨e1, e2⟩ := hb hb0
            obtain ⟨e, he, rfl⟩ := List.mem_map.mp (g1 k hk)
            rw [e1]
            exact e2 e (by rw [List.length_map, List.take_length]; exact he)
      · have eb : b = false := by simpa using c1
        subst eb
        exact ⟨_, rfl, q H4 D js M f.sm f.d0 ⟨es, .inl f.ek, f.ka, f.ks, f.vl⟩ hjs f.lt fun k j hk => m_closed (hfix rfl) (fun k o h => ht k o h) f.so hk⟩
end
end K12
namespace K12
open PySem PySem.Spec PyProof.Rows L2 TR QR
open GX (KT kd kdAll RS TSt dNO KeysAt)
abbrev sBA : Stmt := topS 4
abbrev nBA : List Str := ["edges", "rows", "line", "other"]
theorem scBA : FnScope nBA ["edges"] (defScope sBA) := ⟨rfl, rfl, rfl, by decide +kernel, rfl, by decide +kernel, by decide +kernel⟩
theorem find_nodup {es : List (Nat × Addr × V)} (nd : (es.map (·.1)).Nodup) {e : Nat × Addr × V} (h : e ∈ es) : (es.find? fun x => decide (x.1 = e.1)) = some e := by
  induction es with
  | nil => cases h
  | cons x es ih =>
    rw [List.map_cons, List.nodup_cons] at nd
    rcases List.mem_cons.mp h with rfl | h
    · simp
    · have : x.1 ≠ e.1 := fun q => nd.1 (q ▸ List.mem_map.mpr ⟨e, h, rfl⟩)
      rw [List.find?_cons]
      simp only [this, decide_false]
      exact ih nd.2 h
/-- rows of lines that are being made: at most c lines in each -/
structure BJ (P : Program) (w : World) (K : PySem.W.Frag) (H0 H : Hp) (n c : Nat) (D : Addr) (es : List (Nat × Addr × V)) : Prop where
  sm : Same H0 H
  d0 : H0 D = none
  ek : H D = some (dNO ktL P w D es)
  ka : KeysAt ktL K H es
  nd : (es.map (·.1)).Nodup
  kn : ∀ k ∈ es.map (·.1), k < n
  vl : ∀ e ∈ es, ∃ (l : Addr) (F : List (Nat × V)), e.2.2 = .ref l ∧ H0 l = none ∧ H l = some (.lst (F.map (·.2))) ∧ LAt K H F ∧ (∀ x ∈ F.map (·.1), x < n) ∧ F.length ≤ c
section
variable {P : Program} {w : World} {K : PySem.W.Frag} {H0 H H' : Hp} {n c : Nat} {D : Addr} {es : List (Nat × Addr × V)} {k j : Nat}
theorem BJ.le (f : BJ P w K H0 H n c D es) : es.length ≤ n := by
  have := nat_nodup_len f.nd (m := List.range n) fun x hx => List.mem_range.mpr (f.kn x hx)
  rwa [List.length_map, List.length_range] at this
theorem BJ.mono {c' : Nat} (f : BJ P w K H0 H n c D es) (h : c ≤ c') : BJ P w K H0 H n c' D es :=
  ⟨f.sm, f.d0, f.ek, f.ka, f.nd, f.kn, fun e he => by
    obtain ⟨l, F, a1, a2, a3, a4, a5, a6⟩ := f.vl e he
    exact ⟨l, F, a1, a2, a3, a4, a5, Nat.le_trans a6 h⟩⟩
theorem BJ.same (f : BJ P w K H0 H n c D es) (s : Same H H') : BJ P w K H0 H' n c D es :=
  ⟨same_trans f.sm s, f.d0, s _ _ f.ek, f.ka.ts (ts_same s), f.nd, f.kn, fun e he => by
    obtain ⟨l, F, a1, a2, a3, a4, a5, a6⟩ := f.vl e he
    exact ⟨l, F, a1, a2, s _ _ a3, a4.ts (ts_same s), a5, a6⟩⟩
/-- a line more in one of the lists -/
theorem BJ.app (f : BJ P w K H0 H n c D es) {l : Addr} {F : List (Nat × V)} (h0 : H0 l = none) (hl : H l = some (.lst (F.map (·.2)))) (hF : LAt K H F) (bF : ∀ x ∈ F.map (·.1), x < n) (lF : F.length ≤ c) {a : Addr} (ha : Dp K H (.ref a) (encL k)) (hk : k < n) : BJ P w K H0 (upd H l (.lst (F.map (·.2) ++ [V.ref a]))) n (c + 1) D es := by
  have t := ts_lst (K := K) (o := .lst (F.map (·.2) ++ [V.ref a])) hl
  have nD : D ≠ l := fun e => by
    have := f.ek
    rw [e, hl] at this
    cases this
  refine ⟨same_upd h0 f.sm, f.d0, (upd_ne nD).trans f.ek, f.ka.ts t, f.nd, f.kn, fun e he => ?_⟩
  obtain ⟨l2, F2, a1, a2, a3, a4, a5, a6⟩ := f.vl e he
  by_cases q : l2 = l
  · subst q
    refine ⟨l2, F ++ [(k, V.ref a)], a1, a2, by rw [upd_same, List.map_append]; rfl, fun x hx => ?_, fun x hx => ?_, by rw [List.length_append]; exact Nat.succ_le_succ lF⟩
    · rcases List.mem_append.mp hx with hx | hx
      · exact ln_ts t (hF x hx)
      · rw [List.mem_singleton.mp hx]
        exact ln_ts t ha
    · rw [List.map_append] at hx
      rcases List.mem_append.mp hx with hx | hx
      · exact bF x hx
      · rw [List.mem_singleton.mp hx]
        exact hk
  · exact ⟨l2, F2, a1, a2, (upd_ne q).trans a3, a4.ts t, a5, by omega⟩
theorem BJ.new (f : BJ P w K H0 H n c D es) {l : Addr} (h0 : H0 l = none) (hl : H l = some (.lst [])) {b : Addr} (hb : Dp K H (.ref b) (encL j)) (hj : j < n) (nj : j ∉ es.map (·.1)) : BJ P w K H0 (upd H D (dNO ktL P w D (es ++ [(j, b, V.ref l)]))) n c D (es ++ [(j, b, V.ref l)]) := by
  have t := ts_dict (K := K) (o := dNO ktL P w D (es ++ [(j, b, V.ref l)])) f.ek
  have nD : ∀ {l : Addr} {xs : List V}, H l = some (.lst xs) → l ≠ D := fun h e => by
    rw [e, f.ek] at h
    cases h
  refine ⟨same_upd f.d0 f.sm, f.d0, upd_same, fun e he => ?_, ?_, fun x hx => ?_, fun e he => ?_⟩
  · rcases List.mem_append.mp he with he | he
    · exact ln_ts t (f.ka e he)
    · rw [List.mem_singleton.mp he]
      exact ln_ts t hb
  · rw [List.map_append, List.nodup_append]
    exact ⟨f.nd, (by simp : [j].Nodup), fun x hx y hy z => nj ((show x = j from z.trans (List.mem_singleton.mp hy)) ▸ hx)⟩
  · rw [List.map_append] at hx
    rcases List.mem_append.mp hx with hx | hx
    · exact f.kn x hx
    · rw [List.mem_singleton.mp hx]
      exact hj
  · rcases List.mem_append.mp he with he | he
    · obtain ⟨l2, F2, a1, a2, a3, a4, a5, a6⟩ := f.vl e he
      exact ⟨l2, F2, a1, a2, (upd_ne (nD a3)).trans a3, a4.ts t, a5, a6⟩
    · rw [List.mem_singleton.mp he]
      exact ⟨l, [], rfl, h0, (upd_ne (nD hl)).trans hl, (fun _ h => nomatch h), (fun _ h => nomatch h), Nat.zero_le _⟩
/-- the rows as edges -/
theorem BJ.edges (f : BJ P w K H0 H n c D es) : ∃ g : Nat → List Nat, EdgesAt P w K H D (es.map (·.1)) g ∧ (∀ k, k ∉ es.map (·.1) → g k = []) ∧ (∀ k j, j ∈ g k → j < n) ∧ ∀ k, (g k).length ≤ c := by
  have key : ∀ e : Nat × Addr × V, ∃ F : List (Nat × V), (e ∈ es → ∃ l, e.2.2 = .ref l ∧ SqL K H l (F.map (·.2)) ∧ LAt K H F) ∧ (∀ x ∈ F.map (·.1), x < n) ∧ F.length ≤ c := fun e => by
    by_cases he : e ∈ es
    · obtain ⟨l, F, a1, a2, a3, a4, a5, a6⟩ := f.vl e he
      exact ⟨F, fun _ => ⟨l, a1, SqL.of a3, a4⟩, a5, a6⟩
    · exact ⟨[], fun h => absurd h he, (fun _ h => nomatch h), Nat.zero_le _⟩
  let F := fun e => (key e).choose
  have hF : ∀ e, (e ∈ es → ∃ l, e.2.2 = .ref l ∧ SqL K H l ((F e).map (·.2)) ∧ LAt K H (F e)) ∧ (∀ x ∈ (F e).map (·.1), x < n) ∧ (F e).length ≤ c := fun e => (key e).choose_spec
  refine ⟨fun k => match es.find? fun x => decide (x.1 = k) with | some e => (F e).map (·.1) | none => [], ⟨es, .inl f.ek, f.ka, rfl, fun e he => ?_⟩, fun k hk => ?_, fun k j hj => ?_, fun k => ?_⟩
  · obtain ⟨l, h1, h2, h3⟩ := (hF e).1 he
    refine ⟨l, F e, h1, h2, h3, ?_⟩
    dsimp only
    rw [find_nodup f.nd he]
  · dsimp only
    rw [find_no hk]
  · dsimp only at hj
    cases e : es.find? fun x => decide (x.1 = k) with
    | none =>
      rw [e] at hj
      cases hj
    | some x =>
      rw [e] at hj
      exact (hF x).2.1 j hj
  · dsimp only
    cases e : es.find? fun x => decide (x.1 = k) with
    | none => exact Nat.zero_le _
    | some x =>
      dsimp only
      rw [List.length_map]
      exact (hF x).2.2
end
def degs (g : Nat → List Nat) (ks : List Nat) : Nat := (ks.map fun k => (g k).length).sum
section
variable {P : Program} {w : World} {K : PySem.W.Frag} {mg : Str → Option Value} {base : Heap}
def spBA (P : Program) (w : World) (K : PySem.W.Frag) : Sp := fun vs H Q _ => ∃ (ed : Addr) (es : List (Nat × Addr × V)) (ks : List Nat) (g : Nat → List Nat) (n : Nat), vs = [.ref ed] ∧ H ed = some (dNO ktL P w ed es) ∧ KeysAt ktL K H es ∧ es.map (·.1) = ks ∧ (∀ e ∈ es, ∃ (l : Addr) (F : List (Nat × V)), e.2.2 = .ref l ∧ SqL K H l (F.map (·.2)) ∧ LAt K H F ∧ F.map (·.1) = g e.1) ∧
  ks.Nodup ∧ (∀ k ∈ ks, k < n) ∧ n ≤ 16 ∧ (∀ k j, j ∈ g k → j < n) ∧ degs g ks ≤ 64 ∧
  ∀ H' p ks' g', Same H H' → H p = none → EdgesAt P w K H' p ks' g' → (∀ k, k ∉ ks' → g' k = []) → (∀ k j, j ∈ g' k → j < n) → (∀ k, (g' k).length ≤ 64) → Q (.ref p) H'
theorem ok_BA {f : Addr} {fd : FuncData} (F : Fun K "backwards" "backwards" sBA f fd) : FnOk P w K mg base CX0 1 f fd ["edges"] (spBA P w K) := by
  refine F.ok scBA (fun vs H Q E h => ?_) (fun cdv A outer s H vs Q E hr h => ?_)
  · obtain ⟨ed, es, ks, g, n, rfl, _⟩ := h
    rfl
  · obtain ⟨ed, es, ks, g, n, rfl, hd, hk, ek, hv, nd, kn, hn, ht, hs, q⟩ := h
    have hu := hr.units
    have hu1 := hu_of hr
    have zl := zl
    refine ⟨_, (pss_cons (ps_set (i := 1) scBA.nd rfl (.inl rfl) ((GX.pe_dnewN (T := ktL))))
      (pss_cons (ps_lock (ps_for PassesOwn.never rfl (GX.pi_keysN (T := ktL) (pv 0)) (pg_name (i := 2) scBA.nd rfl (.inl rfl))
      (pss_one (ps_for PassesOwn.never rfl (pi_list (pe_ix (GX.ix_N (T := ktL) hu) (pv 0) (pv 2) (fun _ _ => rfl))) (pg_name (i := 3) scBA.nd rfl (.inl rfl))
      (pss_one (ps_expr (pe_bm PySem.F.plainAttrs_list PySem.F.slot_list_append PySem.F.type_list_append mt_append (GX.pe_bmN (T := ktL) PySem.F.plainAttrs_dict PySem.F.slot_dict_setdefault PySem.F.type_dict_setdefault (GX.mt_setdefN (T := ktL) hu) (pv 1) (pa_cons (pv 3) (pa_cons (pe_lst (pa_nil)) pa_nil))) (pa_cons (pv 2) pa_nil))))))))
      (pss_one (ps_ret (pv 1))))), ?_⟩
    refine fun D nD => ?_
    have nDe : D ≠ ed := fun e => by rw [e, hd] at nD; cases nD
    refine ⟨ed, _, (upd_ne (Ne.symm nDe)).trans hd, trivial, fun od => ?_⟩
    have rL : RS H (upd H ed (.frz od (dNO ktL P w ed es))) := GX.rs_lock hd (fun _ _ h => nomatch h)
    have hL0 : upd H ed (.frz od (dNO ktL P w ed es)) ed = some (.frz od (dNO ktL P w ed es)) := upd_same
    have nD0 : upd H ed (.frz od (dNO ktL P w ed es)) D = none := (upd_ne nDe).trans nD
    have eH : upd (upd H D (dNO ktL P w D [])) ed (.frz od (dNO ktL P w ed es)) = upd (upd H ed (.frz od (dNO ktL P w ed es))) D (dNO ktL P w D []) := by
      funext b
      by_cases e1 : b = ed
      · subst e1
        rw [upd_same, upd_ne (Ne.symm nDe), upd_same]
      · rw [upd_ne e1]
        by_cases e2 : b = D
        · subst e2
          rw [upd_same, upd_same]
        · rw [upd_ne e2, upd_ne e2, upd_ne e1]
    have eback : ∀ H', Same (upd H ed (.frz od (dNO ktL P w ed es))) H' → Same H (upd H' ed (dNO ktL P w ed es)) := fun H' s b o hb => by
      by_cases e : b = ed
      · subst e
        rw [hd] at hb
        cases hb
        exact upd_same
      · rw [upd_ne e]
        exact s b o ((upd_ne e).trans hb)
    have hv' : ∀ e ∈ es, ∃ (l : Addr) (F : List (Nat × V)), e.2.2 = .ref l ∧ SqL K (upd H ed (.frz od (dNO ktL P w ed es))) l (F.map (·.2)) ∧ LAt K (upd H ed (.frz od (dNO ktL P w ed es))) F ∧ F.map (·.1) = g e.1 := fun e he => by
      obtain ⟨l, F, b1, b2, b3, b4⟩ := hv e he
      exact ⟨l, F, b1, rL.sql b2, b3.ts rL.tst, b4⟩
    have hk' := hk.ts (rL.tst (K := K))
    show tFor _ _ _ _ _ (upd (upd H D (dNO ktL P w D [])) ed (.frz od (dNO ktL P w ed es)))
    rw [eH]
    generalize upd H ed (.frz od (dNO ktL P w ed es)) = HL at rL hL0 nD0 eback hv' hk'
    have lks : ks.length ≤ n := by
      have := nat_nodup_len nd (m := List.range n) fun x hx => List.mem_range.mpr (kn x hx)
      rwa [List.length_range] at this
    have b0 : BJ P w K HL (upd HL D (dNO ktL P w D [])) n 0 D [] := ⟨same_new nD0, nD0, upd_same, (fun _ h => nomatch h), List.nodup_nil, (fun _ h => nomatch h), (fun _ h => nomatch h)⟩
    refine ⟨_, rfl, ed, od, es, rfl, same_new nD0 _ _ hL0, ?_⟩
    refine for_it (GX.walk_N (T := ktL) (P := P) (w := w)) (fun i σ H' => ∃ (y2 y3 : Option V) (rs : List (Nat × Addr × V)), σ = [some (.ref ed), some (.ref D), y2, y3] ∧ BJ P w K HL H' n (degs g (ks.take i)) D rs) ⟨none, none, [], rfl, b0⟩ ?_ ?_ ?_
    · rintro i σ H' _ ⟨_, _, _, _, f⟩
      exact f.sm _ _ hL0
    · rintro i x σ H2 H2' hi ⟨y2, y3, rs, rfl, f⟩ ⟨rfl, e, he, rfl⟩
      have hem := List.mem_of_getElem? he
      obtain ⟨l, F, e1, e2, e3, e4⟩ := hv' e hem
      have hke := hk' e hem
      obtain ⟨k, a, v⟩ := e
      simp only at e1 e4 hke
      subst e1
      have hkk : k < n := kn k (by rw [← ek]; exact List.mem_map.mpr ⟨_, hem, rfl⟩)
      have hfind := find_nodup (by rw [ek]; exact nd) hem
      have ksi : ks[i]? = some k := by rw [← ek]; exact get_map (·.1) he
      have edeg : degs g (ks.take (i + 1)) = degs g (ks.take i) + (g k).length := by
        unfold degs
        rw [List.take_add_one, ksi, List.map_append, List.sum_append]
        simp
      have ldeg : degs g (ks.take (i + 1)) ≤ degs g ks := by
        unfold degs
        conv => rhs; rw [← List.take_append_drop (i + 1) ks, List.map_append, List.sum_append]
        omega
      refine ⟨_, rfl, _, rfl, ed, a, es, k, _, rfl, rfl, .inr ⟨od, f.sm _ _ hL0⟩, hk'.ts (ts_same f.sm), ln_ts (ts_same f.sm) hke, hfind, l, rfl, ⟨_, (GX.rs_same f.sm).sql e2⟩, ?_⟩
      refine for_list (xs := F.map (·.2)) (fun j σ H' => ∃ (y3 : Option V) (rs : List (Nat × Addr × V)), σ = [some (.ref ed), some (.ref D), some (.ref a), y3] ∧ BJ P w K HL H' n (degs g (ks.take i) + j) D rs) ⟨y3, rs, rfl, f⟩ ?_ ?_ ?_
      · rintro j σ H' _ ⟨_, _, _, f⟩
        exact (GX.rs_same f.sm).sql e2
      · rintro j x σ H3 hx ⟨y3, rs, rfl, f3⟩
        obtain ⟨⟨o, v⟩, go, rfl⟩ := map_get hx
        have hmo := List.mem_of_getElem? go
        have hj : j < F.length := (List.getElem?_eq_some_iff.mp go).1
        have lF : F.length = (g k).length := by rw [← e4, List.length_map]
        have on : o < n := ht k o (by rw [← e4]; exact List.mem_map.mpr ⟨_, hmo, rfl⟩)
        have ho := ln_ts (ts_same f3.sm) (e3 _ hmo)
        obtain ⟨ao, eo⟩ := ln_ref ho
        simp only at eo ho
        subst eo
        refine ⟨_, rfl, ⟨D, rs, rfl, .inl f3.ek⟩, _, rfl, Nat.zero_le _, fun nn hnn => ?_⟩
        have sN := same_new (o := .lst []) hnn
        have f4 := f3.same sN
        have hnl : (upd H3 nn (.lst [])) nn = some (.lst []) := upd_same
        have nn0 : HL nn = none := same_none f3.sm hnn
        have ho4 := ln_ts (ts_same sN) ho
        have hke4 := ln_ts (K := K) (ts_same f4.sm) hke
        have lr := f4.le
        generalize upd H3 nn (.lst []) = H4 at f4 hnl ho4 hke4
        refine ⟨D, ao, rs, o, .ref nn, rfl, rfl, f4.ek, f4.ka, ho4, by omega, fun e he => ?_, fun hno => ?_⟩
        · obtain ⟨l2, F2, a1, a2, a3, a4, a5, a6⟩ := f4.vl e (List.mem_of_find?_eq_some he)
          obtain ⟨k2, b2, v2⟩ := e
          simp only at a1
          subst a1
          refine ⟨.inl ⟨rfl, _, SqL.of a3⟩, _, rfl, l2, _, _, rfl, rfl, a3, by rw [List.length_map]; omega, some (.ref ao), rs, rfl, ?_⟩
          exact f4.app a2 a3 a4 a5 a6 hke4 hkk
        · have nj : o ∉ rs.map (·.1) := fun h => by
            obtain ⟨e, h1, _⟩ := find_of h
            rw [hno] at h1
            cases h1
          have f5 := f4.new nn0 hnl ho4 on nj
          have nnD : nn ≠ D := fun e => by rw [e, f4.ek] at hnl; cases hnl
          have hnl5 : upd H4 D (dNO ktL P w D (rs ++ [(o, ao, V.ref nn)])) nn = some (.lst (([] : List (Nat × V)).map (·.2))) := (upd_ne nnD).trans hnl
          refine ⟨.inl ⟨rfl, _, SqL.of hnl5⟩, _, rfl, nn, _, _, rfl, rfl, hnl5, by show 0 < sizeLine; omega, some (.ref ao), rs ++ [(o, ao, V.ref nn)], rfl, ?_⟩
          exact f5.app nn0 hnl5 (fun _ h => nomatch h) (fun _ h => nomatch h) (Nat.zero_le _) (ln_ts (ts_dict f4.ek) hke4) hkk
      · rintro σ H3 ⟨y3, rs, rfl, f3⟩
        rw [List.length_map, show F.length = (g k).length from by rw [← e4, List.length_map], ← edeg] at f3
        exact ⟨_, y3, rs, rfl, f3⟩
    · rintro σ H2 ⟨y2, y3, rs, rfl, f⟩
      refine ⟨f.sm _ _ hL0, _, rfl, ?_⟩
      rw [show es.length = ks.length from by rw [← ek, List.length_map], List.take_length] at f
      have sB := eback H2 f.sm
      obtain ⟨g', p1, p2, p3, p4⟩ := (f.mono hs).edges
      refine q _ D (rs.map (·.1)) g' sB nD ?_ p2 p3 p4
      obtain ⟨es2, c1, c2, c3, c4⟩ := p1
      have rB : RS H2 (upd H2 ed (dNO ktL P w ed es)) := GX.rs_unlock (f.sm _ _ hL0)
      exact EdgesAt.rs rB ⟨es2, c1, c2, c3, c4⟩
end
end K12
namespace K12
open PySem PySem.Spec PyProof.Rows L2 TR QR
open GX (KT kd kdAll RS TSt dNO KeysAt)
/-- lists and tuples stay -/
structure LTs (K : PySem.W.Frag) (H H' : Hp) : Prop where
  t : TSt K H H'
  l : ∀ x ys, SqL K H x ys → SqL K H' x ys
theorem LTs.of {K : PySem.W.Frag} {H H' : Hp} (s : RS H H') : LTs K H H' := ⟨s.tst, fun _ _ h => s.sql h⟩
theorem LTs.trans {K : PySem.W.Frag} {H H1 H2 : Hp} (a : LTs K H H1) (b : LTs K H1 H2) : LTs K H H2 := ⟨a.t.trans b.t, fun x ys h => b.l x ys (a.l x ys h)⟩
theorem LTs.dict {K : PySem.W.Frag} {P : Program} {w : World} {H : Hp} {r : Addr} {es : List (Nat × Addr × V)} {o : HO} (h : H r = some (dNO ktL P w r es)) : LTs K H (upd H r o) := ⟨ts_dict h, fun x ys q => by
  rcases q with q | q
  · by_cases e : x = r
    · subst e
      rcases q with q | ⟨p, q⟩
      · rw [h] at q
        cases q
      · rw [h] at q
        cases q
    · rcases q with q | ⟨p, q⟩
      · exact .inl (.inl ((upd_ne e).trans q))
      · exact .inl (.inr ⟨p, (upd_ne e).trans q⟩)
  · exact .inr q⟩
section
variable {P : Program} {w : World} {K : PySem.W.Frag}
/-- {line: tv for line in d}, d locked by it -/
theorem cp_keys {i : Nat} {tv : TE} {σ : L2.St} {H : Hp} {Q : VK} {d : Addr} {es : List (Nat × Addr × V)} {j : Nat} (Good : Nat × Addr × V → V → Hp → Prop) (hG : ∀ e v H1 H2, LTs K H1 H2 → Good e v H1 → Good e v H2)
    (hd : H d = some (dNO ktL P w d es)) (hk : KeysAt ktL K H es) (nd : (es.map (·.1)).Nodup) (hl : es.length ≤ 1000) (hi : σ[i]? = some (some (.ref d))) (hj : ∀ v, wipe (((wipe σ [j]).set j (some v))) [j] = wipe σ [j]) (hjj : ∀ v : V, ((wipe σ [j]).set j (some v))[j]? = some (some v))
    (step : ∀ e ∈ es, ∀ (od : Obj) (H1 : Hp) (R : VK), Same (upd H d (.frz od (dNO ktL P w d es))) H1 → (∀ v H2, Same H1 H2 → Good e v H2 → R v H2) → tv ((wipe σ [j]).set j (some (.ref e.2.1))) H1 R)
    (q : ∀ D H' es', Same H H' → H D = none → H' D = some (dNO ktL P w D es') → KeysAt ktL K H' es' → es'.map (·.1) = es.map (·.1) → (∀ e' ∈ es', ∃ e ∈ es, e.1 = e'.1 ∧ Good e e'.2.2 H') → Q (.ref D) H') :
    tLockE (GX.tDg (fun D => dNO ktL P w D []) (GX.putN ktL P w K) (GX.iKeysN ktL P w (tVar i)) (gName j) tYes (tVar j) tv [j]) σ H Q := by
  have zl := zl
  refine ⟨d, _, hd, trivial, fun od => ?_⟩
  have rL : RS H (upd H d (.frz od (dNO ktL P w d es))) := GX.rs_lock hd (fun _ _ h => nomatch h)
  have hL0 : upd H d (.frz od (dNO ktL P w d es)) d = some (.frz od (dNO ktL P w d es)) := upd_same
  refine ⟨_, hi, d, od, es, rfl, hL0, fun D nD => ?_⟩
  have nDd : D ≠ d := fun e => by rw [e, hL0] at nD; cases nD
  refine GX.dg_it (o0 := fun D => dNO ktL P w D []) (put := GX.putN ktL P w K) (GX.walk_N (T := ktL) (P := P) (w := w)) (fun m H' => Same (upd H d (.frz od (dNO ktL P w d es))) H' ∧ ∃ es', H' D = some (dNO ktL P w D es') ∧ KeysAt ktL K H' es' ∧ es'.map (·.1) = (es.take m).map (·.1) ∧ ∀ e' ∈ es', ∃ e ∈ es, e.1 = e'.1 ∧ Good e e'.2.2 H')
    ⟨same_new nD, [], upd_same, (fun _ h => nomatch h), rfl, (fun _ h => nomatch h)⟩ ?_ ?_ ?_
  · rintro m H' _ ⟨s, _⟩
    exact s _ _ hL0
  · rintro m x H1 H1' hm ⟨s, es', eD, ka, kk, vv⟩ ⟨rfl, e, he, rfl⟩
    have hem := List.mem_of_getElem? he
    refine ⟨hj _, _, hjj _, step e hem od _ _ s fun v H2 s2 good => ?_⟩
    have hke := ln_ts (ts_same s2) (ln_ts (ts_same s) (ln_ts (rL.tst (K := K)) (hk e hem)))
    have eD2 := s2 _ _ eD
    have nk : e.1 ∉ es'.map (·.1) := fun h => by
      rw [kk] at h
      have e1 : es.map (·.1) = (es.take m).map (·.1) ++ (e.1 :: (es.drop (m + 1)).map (·.1)) := by
        have h1 : es = es.take m ++ (e :: es.drop (m + 1)) := by
          have hlt : m < es.length := hm
          rw [show e = es[m] from (by rw [List.getElem?_eq_getElem hlt] at he; exact (Option.some.inj he).symm), List.getElem_cons_drop, List.take_append_drop]
        conv => lhs; rw [h1]
        rw [List.map_append]
        rfl
      rw [e1, List.nodup_append] at nd
      exact nd.2.2 _ h _ List.mem_cons_self rfl
    have le : es'.length ≤ es.length := by
      have := congrArg List.length kk
      rw [List.length_map, List.length_map, List.length_take] at this
      omega
    have lt := LTs.dict (K := K) (o := dNO ktL P w D (GX.dSt es' e.1 e.2.1 v)) eD2
    refine ⟨es', e.1, e.2.1, rfl, eD2, ka.ts (ts_same s2), hke, by omega, same_upd nD (same_trans s s2), _, upd_same, (GX.st_keys (ka.ts (ts_same s2)) hke).ts lt.t, ?_, fun e' he' => ?_⟩
    · rw [dst_keys, if_neg nk, kk, List.take_add_one, he, List.map_append]
      rfl
    · rcases dst_mem he' with ⟨h1, h2⟩ | ⟨h1, h2⟩
      · exact ⟨e, hem, h1.symm, by rw [h2]; exact hG _ _ _ _ lt good⟩
      · obtain ⟨e0, g1, g2, g3⟩ := vv e' h1
        exact ⟨e0, g1, g2, hG _ _ _ _ lt (hG _ _ _ _ (LTs.of (GX.rs_same s2)) g3)⟩
  · rintro H' ⟨s, es', eD, ka, kk, vv⟩
    have hlock := s _ _ hL0
    have rU := GX.rs_unlock hlock
    rw [List.take_length] at kk
    refine ⟨hlock, q D _ es' (fun b o hb => ?_) ?_ ((upd_ne nDd).trans eD) (ka.ts rU.tst) kk fun e' he' => ?_⟩
    · by_cases e : b = d
      · subst e
        rw [hd] at hb
        cases hb
        exact upd_same
      · rw [upd_ne e]
        exact s b o ((upd_ne e).trans hb)
    · rw [upd_ne nDd] at nD
      exact nD
    · obtain ⟨e0, g1, g2, g3⟩ := vv e' he'
      exact ⟨e0, g1, g2, hG _ _ _ _ (LTs.of rU) g3⟩
end
end K12
namespace K12
open PySem PySem.Spec PyProof.Rows L2 TR QR
open GX (KT kd kdAll RS TSt dNO KeysAt)
abbrev sCls (i : Nat) : Stmt := inClass (topS 5) i
abbrev sIN : Stmt := sCls 0
abbrev nIN : List Str := ["self", "lines", "present", "edges", "line", "k"]
theorem scIN : FnScope nIN ["self", "lines", "present", "edges"] (defScope sIN) := ⟨rfl, rfl, rfl, by decide +kernel, rfl, by decide +kernel, by decide +kernel⟩
abbrev sMB : Stmt := sCls 1
abbrev nMB : List Str := ["self", "one", "other"]
theorem scMB : FnScope nMB ["self", "one", "other"] (defScope sMB) := ⟨rfl, rfl, rfl, by decide +kernel, rfl, by decide +kernel, by decide +kernel⟩
abbrev sMS : Stmt := sCls 2
abbrev nMS : List Str := ["self", "one", "other"]
theorem scMS : FnScope nMS ["self", "one", "other"] (defScope sMS) := ⟨rfl, rfl, rfl, by decide +kernel, rfl, by decide +kernel, by decide +kernel⟩
abbrev sMP : Stmt := sCls 3
abbrev nMP : List Str := ["self", "one", "other"]
theorem scMP : FnScope nMP ["self", "one", "other"] (defScope sMP) := ⟨rfl, rfl, rfl, by decide +kernel, rfl, by decide +kernel, by decide +kernel⟩
abbrev sML : Stmt := sCls 4
abbrev nML : List Str := ["self"]
theorem scML : FnScope nML ["self"] (defScope sML) := ⟨rfl, rfl, rfl, by decide +kernel, rfl, by decide +kernel, by decide +kernel⟩
/-! ### the object -/
def fLi : Str := "lines"
def grF (al ap ae ab at' ar : Addr) : List (Str × V) := putF "earlier" (.ref ar) (putF "later" (.ref at') (putF "bits" (.ref ab) (putF "edges" (.ref ae) (putF "present" (.ref ap) (putF "lines" (.ref al) [])))))
section
variable {al ap ae ab at' ar : Addr}
theorem gr_lines : (grF al ap ae ab at' ar).lookup ("lines" : Str) = some (.ref al) := by
  unfold grF
  rw [lookup_putF, if_neg (by decide +kernel), lookup_putF, if_neg (by decide +kernel), lookup_putF, if_neg (by decide +kernel), lookup_putF, if_neg (by decide +kernel), lookup_putF, if_neg (by decide +kernel), lookup_putF, if_pos rfl]
theorem gr_present : (grF al ap ae ab at' ar).lookup ("present" : Str) = some (.ref ap) := by
  unfold grF
  rw [lookup_putF, if_neg (by decide +kernel), lookup_putF, if_neg (by decide +kernel), lookup_putF, if_neg (by decide +kernel), lookup_putF, if_neg (by decide +kernel), lookup_putF, if_pos rfl]
theorem gr_edges : (grF al ap ae ab at' ar).lookup ("edges" : Str) = some (.ref ae) := by
  unfold grF
  rw [lookup_putF, if_neg (by decide +kernel), lookup_putF, if_neg (by decide +kernel), lookup_putF, if_neg (by decide +kernel), lookup_putF, if_pos rfl]
theorem gr_bits : (grF al ap ae ab at' ar).lookup ("bits" : Str) = some (.ref ab) := by
  unfold grF
  rw [lookup_putF, if_neg (by decide +kernel), lookup_putF, if_neg (by decide +kernel), lookup_putF, if_pos rfl]
theorem gr_later : (grF al ap ae ab at' ar).lookup ("later" : Str) = some (.ref at') := by
  unfold grF
  rw [lookup_putF, if_neg (by decide +kernel), lookup_putF, if_pos rfl]
theorem gr_no {m : Str} (h : m ≠ "earlier" ∧ m ≠ "later" ∧ m ≠ "bits" ∧ m ≠ "edges" ∧ m ≠ "present" ∧ m ≠ "lines") : (grF al ap ae ab at' ar).lookup m = none := by
  unfold grF
  rw [lookup_putF, if_neg h.1, lookup_putF, if_neg h.2.1, lookup_putF, if_neg h.2.2.1, lookup_putF, if_neg h.2.2.2.1, lookup_putF, if_neg h.2.2.2.2.1, lookup_putF, if_neg h.2.2.2.2.2]
  rfl
end
theorem no_before : ("before" : Str) ≠ "earlier" ∧ ("before" : Str) ≠ "later" ∧ ("before" : Str) ≠ "bits" ∧ ("before" : Str) ≠ "edges" ∧ ("before" : Str) ≠ "present" ∧ ("before" : Str) ≠ "lines" := by decide +kernel
theorem no_strictly : ("strictly" : Str) ≠ "earlier" ∧ ("strictly" : Str) ≠ "later" ∧ ("strictly" : Str) ≠ "bits" ∧ ("strictly" : Str) ≠ "edges" ∧ ("strictly" : Str) ≠ "present" ∧ ("strictly" : Str) ≠ "lines" := by decide +kernel
theorem no_apart : ("apart" : Str) ≠ "earlier" ∧ ("apart" : Str) ≠ "later" ∧ ("apart" : Str) ≠ "bits" ∧ ("apart" : Str) ≠ "edges" ∧ ("apart" : Str) ≠ "present" ∧ ("apart" : Str) ≠ "lines" := by decide +kernel
theorem no_pl : ("present_lines" : Str) ≠ "earlier" ∧ ("present_lines" : Str) ≠ "later" ∧ ("present_lines" : Str) ≠ "bits" ∧ ("present_lines" : Str) ≠ "edges" ∧ ("present_lines" : Str) ≠ "present" ∧ ("present_lines" : Str) ≠ "lines" := by decide +kernel
/-- a dict of lines with texts -/
def TxtsAt (P : Program) (w : World) (K : PySem.W.Frag) (H : Hp) (r : Addr) (ks : List Nat) (tx : Nat → Str) : Prop :=
  ∃ es : List (Nat × Addr × V), Rd H r (dNO ktL P w r es) ∧ KeysAt ktL K H es ∧ es.map (·.1) = ks ∧ ∀ e ∈ es, e.2.2 = .str (tx e.1)
/-- a dict of lines with True -/
def OnesAt (P : Program) (w : World) (K : PySem.W.Frag) (H : Hp) (r : Addr) (ks : List Nat) : Prop :=
  ∃ es : List (Nat × Addr × V), Rd H r (dNO ktL P w r es) ∧ KeysAt ktL K H es ∧ es.map (·.1) = ks
structure Txt (K : PySem.W.Frag) (mg : Str → Option Value) (C : Addr) : Prop where
  cl : Cls K C
  n1 : NoAttr K C "lines"
  n2 : NoAttr K C "present"
  n3 : NoAttr K C "edges"
  n4 : NoAttr K C "bits"
  n5 : NoAttr K C "later"
  n6 : NoAttr K C "earlier"
  mg : mg "FileGraph" = some (.ref C)
section
variable {P : Program} {w : World} {K : PySem.W.Frag} {H H' : Hp}
theorem TxtsAt.rs {r : Addr} {ks : List Nat} {tx : Nat → Str} (s : RS H H') (h : TxtsAt P w K H r ks tx) : TxtsAt P w K H' r ks tx := by
  obtain ⟨es, h1, h2, h3, h4⟩ := h
  exact ⟨es, s.dn h1, h2.ts s.tst, h3, h4⟩
theorem OnesAt.rs {r : Addr} {ks : List Nat} (s : RS H H') (h : OnesAt P w K H r ks) : OnesAt P w K H' r ks := by
  obtain ⟨es, h1, h2, h3⟩ := h
  exact ⟨es, s.dn h1, h2.ts s.tst, h3⟩
/-- the graph -/
structure GrAt (P : Program) (w : World) (K : PySem.W.Frag) (C : Addr) (H : Hp) (x : Addr) (n : Nat) (kp ks : List Nat) (g : Nat → List Nat) (tx : Nat → Str) : Prop where
  ex : ∃ (dx al ap ae ab at' ar : Addr) (js : List Nat) (M : Nat → Nat), H x = some (.ins C dx (grF al ap ae ab at' ar)) ∧ TxtsAt P w K H al (List.range n) tx ∧ OnesAt P w K H ap kp ∧ EdgesAt P w K H ae ks g ∧ NumsAt P w K H ab (List.range n) (fun k => 2 ^ k) ∧ NumsAt P w K H at' js M ∧ (∀ k, k ∈ js ↔ k < n) ∧ ∀ k j, k < n → ((M k).testBit j = true ↔ TG (fun a b => b ∈ g a) k j)
theorem GrAt.rs {C x : Addr} {n : Nat} {kp ks : List Nat} {g : Nat → List Nat} {tx : Nat → Str} (s : RS H H') (e : H' x = H x) (h : GrAt P w K C H x n kp ks g tx) : GrAt P w K C H' x n kp ks g tx := by
  obtain ⟨dx, al, ap, ae, ab, at', ar, js, M, h1, h2, h3, h4, h5, h6, h7, h8⟩ := h.ex
  exact ⟨dx, al, ap, ae, ab, at', ar, js, M, e.trans h1, h2.rs s, h3.rs s, h4.rs s, h5.rs s, h6.rs s, h7, h8⟩
theorem GrAt.same {C x : Addr} {n : Nat} {kp ks : List Nat} {g : Nat → List Nat} {tx : Nat → Str} (s : Same H H') (h : GrAt P w K C H x n kp ks g tx) : GrAt P w K C H' x n kp ks g tx := by
  obtain ⟨dx, al, ap, ae, ab, at', ar, js, M, h1, _⟩ := h.ex
  exact h.rs (GX.rs_same s) ((s _ _ h1).trans h1.symm)
end
theorem and_nat (a b : Nat) : Builtin.bitAnd (a : Int) (b : Int) = ((a &&& b : Nat) : Int) := by
  rw [PyProof.Rows.bitAnd_pp (by omega) (by omega)]
  simp
section
variable {P : Program} {w : World} {K : PySem.W.Frag} {mg : Str → Option Value} {base : Heap} {C : Addr}
/-- before, strictly, apart: R tells the answer -/
def spMe (P : Program) (w : World) (K : PySem.W.Frag) (C : Addr) (R : (Nat → Nat → Prop) → Nat → Nat → Prop) : Sp := fun vs H Q _ => ∃ (x a b : Addr) (n : Nat) (kp ks : List Nat) (g : Nat → List Nat) (tx : Nat → Str) (i j : Nat), vs = [.ref x, .ref a, .ref b] ∧ GrAt P w K C H x n kp ks g tx ∧ Dp K H (.ref a) (encL i) ∧ Dp K H (.ref b) (encL j) ∧ i < n ∧ j < n ∧
  ∀ z : Bool, (z = true ↔ R (fun a b => TG (fun a b => b ∈ g a) a b) i j) → Q (.bl z) H
def rBe (T : Nat → Nat → Prop) (i j : Nat) : Prop := T i j
def rSt (T : Nat → Nat → Prop) (i j : Nat) : Prop := T i j ∧ ¬ T j i
def rAp (T : Nat → Nat → Prop) (i j : Nat) : Prop := T i j ↔ T j i
theorem ok_MB {f : Addr} {fd : FuncData} (F : Fun K "before" "FileGraph.before" sMB f fd) (T : Txt K mg C) : FnOk P w K mg base CX0 1 f fd ["self", "one", "other"] (spMe P w K C rBe) := by
  refine F.ok scMB (fun vs H Q E h => ?_) (fun cdv A outer s H vs Q E hr h => ?_)
  · obtain ⟨x, a, b, n, kp, ks, g, tx, i, j, rfl, _⟩ := h
    rfl
  · obtain ⟨x, a, b, n, kp, ks, g, tx, i, j, rfl, hg, ha, hb, hi, hj, q⟩ := h
    have hu := hr.units
    have hu1 := hu_of hr
    have zl := zl
    refine ⟨_, (pss_one (ps_ret (pe_cmpR op_ne (pe_op op_and (pe_ix (GX.ix_N (T := ktL) hu) (pe_fld (pv 0) rfl) (pv 1) (fun _ _ => rfl)) (pe_ix (GX.ix_N (T := ktL) hu) (pe_fld (pv 0) rfl) (pv 2) (fun _ _ => rfl))) (pe_int) (nomark _)))), ?_⟩
    obtain ⟨dx, al, ap, ae, ab, at', ar, js, M, h1, h2, h3, h4, ⟨esB, b1, b2, b3, b4⟩, ⟨esL, l1, l2, l3, l4⟩, h7, h8⟩ := hg.ex
    obtain ⟨bo, f1⟩ := nums_at l4 (k := i) (by rw [l3]; exact (h7 i).mpr hi)
    obtain ⟨bo2, f2⟩ := nums_at (M := fun k => 2 ^ k) b4 (k := j) (by rw [b3]; exact List.mem_range.mpr hj)
    refine ⟨_, rfl, x, C, dx, _, _, rfl, h1, T.cl, T.n5, gr_later, _, rfl, at', a, esL, i, _, rfl, rfl, l1, l2, ha, f1, _, rfl, x, C, dx, _, _, rfl, h1, T.cl, T.n4, gr_bits, _, rfl, ab, b, esB, j, _, rfl, rfl, b1, b2, hb, f2, _, _, rfl, rfl, rfl, ?_⟩
    refine q _ ?_
    have e : (!decide (V.int (Builtin.bitAnd (M i : Int) ((2 ^ j : Nat) : Int)) = V.int 0)) = (M i).testBit j := by
      rw [← and_bit, Bool.eq_iff_iff, Bool.not_eq_true', decide_eq_false_iff_not, decide_eq_true_iff, and_nat]
      constructor
      · intro h z
        exact h (by rw [z]; rfl)
      · intro h z
        have := V.int.inj z
        omega
    exact (Bool.eq_iff_iff.mp e).trans (h8 i j hi)
theorem ok_MS {f fMB : Addr} {fd fdMB : FuncData} (F : Fun K "strictly" "FileGraph.strictly" sMS f fd) (T : Txt K mg C)
    (GMB : FnOk P w K mg base CX0 1 fMB fdMB ["self", "one", "other"] (spMe P w K C rBe)) (bMB : Binds K fdMB ["self", "one", "other"] []) (MMB : Meth K C "before" fMB) : FnOk P w K mg base CX0 2 f fd ["self", "one", "other"] (spMe P w K C rSt) := by
  refine F.ok scMS (fun vs H Q E h => ?_) (fun cdv A outer s H vs Q E hr h => ?_)
  · obtain ⟨x, a, b, n, kp, ks, g, tx, i, j, rfl, _⟩ := h
    rfl
  · obtain ⟨x, a, b, n, kp, ks, g, tx, i, j, rfl, hg, ha, hb, hi, hj, q⟩ := h
    have hu := hr.units
    have hu1 := hu_of hr
    have hr1 : Room 1 _ := hr.mono (by decide)
    have zl := zl
    refine ⟨_, (pss_one (ps_ret (pe_and (pe_meth (pv 0) T.cl MMB GMB hr1 bMB .nil pass0 (pa_cons (pv 1) (pa_cons (pv 2) pa_nil))) (pe_one (pe_not (pe_meth (pv 0) T.cl MMB GMB hr1 bMB .nil pass0 (pa_cons (pv 2) (pa_cons (pv 1) pa_nil)))))))), ?_⟩
    obtain ⟨dx, al, ap, ae, ab, at', ar, js, M, h1, _⟩ := hg.ex
    refine ⟨_, rfl, x, dx, _, rfl, h1, gr_no no_before, _, rfl, _, rfl, x, a, b, n, kp, ks, g, tx, i, j, rfl, hg, ha, hb, hi, hj, fun z hz => ⟨z, rfl, ite2 (fun c1 => ?_) (fun c1 => ?_)⟩⟩
    · subst c1
      refine ⟨_, rfl, x, dx, _, rfl, h1, gr_no no_before, _, rfl, _, rfl, x, b, a, n, kp, ks, g, tx, j, i, rfl, hg, hb, ha, hj, hi, fun z2 hz2 => ⟨z2, rfl, ?_⟩⟩
      cases z2 with
      | false => exact q true ⟨fun _ => ⟨hz.mp rfl, fun h => absurd (hz2.mpr h) Bool.false_ne_true⟩, fun _ => rfl⟩
      | true => exact q false ⟨(fun h => nomatch h), fun h => absurd (hz2.mp rfl) h.2⟩
    · exact q false ⟨(fun h => nomatch h), fun h => absurd (hz.mpr h.1) c1⟩
theorem ok_MP {f fMB : Addr} {fd fdMB : FuncData} (F : Fun K "apart" "FileGraph.apart" sMP f fd) (T : Txt K mg C)
    (GMB : FnOk P w K mg base CX0 1 fMB fdMB ["self", "one", "other"] (spMe P w K C rBe)) (bMB : Binds K fdMB ["self", "one", "other"] []) (MMB : Meth K C "before" fMB) : FnOk P w K mg base CX0 2 f fd ["self", "one", "other"] (spMe P w K C rAp) := by
  refine F.ok scMP (fun vs H Q E h => ?_) (fun cdv A outer s H vs Q E hr h => ?_)
  · obtain ⟨x, a, b, n, kp, ks, g, tx, i, j, rfl, _⟩ := h
    rfl
  · obtain ⟨x, a, b, n, kp, ks, g, tx, i, j, rfl, hg, ha, hb, hi, hj, q⟩ := h
    have hu := hr.units
    have hu1 := hu_of hr
    have hr1 : Room 1 _ := hr.mono (by decide)
    have zl := zl
    refine ⟨_, (pss_one (ps_ret (pe_cmpR op_eq (pe_meth (pv 0) T.cl MMB GMB hr1 bMB .nil pass0 (pa_cons (pv 1) (pa_cons (pv 2) pa_nil))) (pe_meth (pv 0) T.cl MMB GMB hr1 bMB .nil pass0 (pa_cons (pv 2) (pa_cons (pv 1) pa_nil))) (nomark _)))), ?_⟩
    obtain ⟨dx, al, ap, ae, ab, at', ar, js, M, h1, _⟩ := hg.ex
    refine ⟨_, rfl, x, dx, _, rfl, h1, gr_no no_before, _, rfl, _, rfl, x, a, b, n, kp, ks, g, tx, i, j, rfl, hg, ha, hb, hi, hj, fun z hz => ?_⟩
    refine ⟨_, rfl, x, dx, _, rfl, h1, gr_no no_before, _, rfl, _, rfl, x, b, a, n, kp, ks, g, tx, j, i, rfl, hg, hb, ha, hj, hi, fun z2 hz2 => ⟨rfl, ?_⟩⟩
    refine q _ ?_
    rw [decide_eq_true_iff]
    show V.bl z = V.bl z2 ↔ (TG (fun a b => b ∈ g a) i j ↔ TG (fun a b => b ∈ g a) j i)
    have a1 : z = true ↔ TG (fun a b => b ∈ g a) i j := hz
    have a2 : z2 = true ↔ TG (fun a b => b ∈ g a) j i := hz2
    rw [← a1, ← a2]
    cases z <;> cases z2 <;> simp
def spML (P : Program) (w : World) (K : PySem.W.Frag) (C : Addr) : Sp := fun vs H Q _ => ∃ (x : Addr) (n : Nat) (kp ks : List Nat) (g : Nat → List Nat) (tx : Nat → Str), vs = [.ref x] ∧ GrAt P w K C H x n kp ks g tx ∧ kp.Pairwise (· ≤ ·) ∧
  ∀ p H' (F : List (Nat × V)), H p = none → Same H H' → H' p = some (.lst (F.map (·.2))) → LAt K H' F → F.map (·.1) = kp → Q (.ref p) H'
theorem ok_ML {f : Addr} {fd : FuncData} (F : Fun K "present_lines" "FileGraph.present_lines" sML f fd) (T : Txt K mg C) (m_sorted : mg "sorted" = none) : FnOk P w K mg base CX0 1 f fd ["self"] (spML P w K C) := by
  refine F.ok scML (fun vs H Q E h => ?_) (fun cdv A outer s H vs Q E hr h => ?_)
  · obtain ⟨x, n, kp, ks, g, tx, rfl, _⟩ := h
    rfl
  · obtain ⟨x, n, kp, ks, g, tx, rfl, hg, hp, q⟩ := h
    have hu := hr.units
    have hu1 := hu_of hr
    have zl := zl
    refine ⟨_, (pss_one (ps_ret (pe_callB (GX.cr_sortedN (T := ktL) rfl hu) (by rfl) m_sorted (by decide +kernel) (pa_cons (pe_fld (pv 0) rfl) pa_nil)))), ?_⟩
    obtain ⟨dx, al, ap, ae, ab, at', ar, js, M, h1, h2, ⟨es, e1, e2, e3⟩, _⟩ := hg.ex
    obtain ⟨al', so⟩ := able_L (fun e : Nat × Addr × V => e.1) es
    refine ⟨_, rfl, x, C, dx, _, _, rfl, h1, T.cl, T.n2, gr_present, ap, es, rfl, e1, e2, al', so, fun p np => ?_⟩
    have sB : GX.sortN ktL es = es := sorted_asc (fun e : Nat × Addr × V => e.1) (by
      rw [← e3, List.pairwise_map] at hp
      exact hp)
    rw [sB]
    refine q p _ (es.map fun e => (e.1, V.ref e.2.1)) np (same_new np) (by rw [upd_same, List.map_map]; rfl) (fun e he => ?_) (by rw [List.map_map]; exact e3)
    obtain ⟨y, hy, rfl⟩ := List.mem_map.mp he
    exact ln_ts (ts_new np) (e2 y hy)
end
end K12
namespace K12
open PySem PySem.Spec PyProof.Rows L2 TR QR
open GX (KT kd kdAll RS TSt dNO KeysAt)
/-- all but x stays -/
def EX (x : Addr) (H H' : Hp) : Prop := ∀ b o, b ≠ x → H b = some o → H' b = some o
theorem EX.trans {x : Addr} {H H1 H2 : Hp} (a : EX x H H1) (b : EX x H1 H2) : EX x H H2 := fun y o n h => b y o n (a y o n h)
theorem EX.same {x : Addr} {H H1 : Hp} (s : Same H H1) : EX x H H1 := fun y o _ h => s y o h
theorem EX.upd {x : Addr} {H : Hp} {o : HO} : EX x H (upd H x o) := fun y o' n h => (upd_ne n).trans h
def GoodE (K : PySem.W.Frag) (g : Nat → List Nat) (e : Nat × Addr × V) (v : V) (H : Hp) : Prop := ∃ (l : Addr) (F : List (Nat × V)), v = .ref l ∧ SqL K H l (F.map (·.2)) ∧ LAt K H F ∧ F.map (·.1) = g e.1
theorem GoodE.lt {K : PySem.W.Frag} {g : Nat → List Nat} (e : Nat × Addr × V) (v : V) (H1 H2 : Hp) (t : LTs K H1 H2) : GoodE K g e v H1 → GoodE K g e v H2 := fun ⟨l, F, b1, b2, b3, b4⟩ => ⟨l, F, b1, t.l _ _ b2, b3.ts t.t, b4⟩
theorem fld_seq {K : PySem.W.Frag} {ta tv : TE} {f : Str} {t : TS} {D : Ends} {σ : L2.St} {H : Hp} (h : tv σ H fun y H1 => ta σ H1 fun x H2 => ∃ a C dx fs, x = .ref a ∧ H2 a = some (.ins C dx fs) ∧ Cls K C ∧ NoAttr K C f ∧ fs.length < 1000 ∧ t D σ (upd H2 a (.ins C dx (putF f y fs)))) : tSeq (sFld K ta tv f) t D σ H := h
section
variable {P : Program} {w : World} {K : PySem.W.Frag} {mg : Str → Option Value} {base : Heap} {C : Addr}
def spIN (P : Program) (w : World) (K : PySem.W.Frag) (C : Addr) : Sp := fun vs H Q _ => ∃ (x dx dl dp de : Addr) (esl esp ese : List (Nat × Addr × V)) (n : Nat) (kp ks : List Nat) (g : Nat → List Nat) (tx : Nat → Str), vs = [.ref x, .ref dl, .ref dp, .ref de] ∧ H x = some (.ins C dx []) ∧
  H dl = some (dNO ktL P w dl esl) ∧ KeysAt ktL K H esl ∧ esl.map (·.1) = List.range n ∧ (∀ e ∈ esl, e.2.2 = .str (tx e.1)) ∧
  H dp = some (dNO ktL P w dp esp) ∧ KeysAt ktL K H esp ∧ esp.map (·.1) = kp ∧ kp.Nodup ∧ (∀ k ∈ kp, k < n) ∧
  H de = some (dNO ktL P w de ese) ∧ KeysAt ktL K H ese ∧ ese.map (·.1) = ks ∧ ks.Nodup ∧ (∀ k ∈ ks, k < n) ∧ (∀ e ∈ ese, ∃ (l : Addr) (F : List (Nat × V)), e.2.2 = .ref l ∧ SqL K H l (F.map (·.2)) ∧ LAt K H F ∧ F.map (·.1) = g e.1) ∧
  (∀ k, k ∉ ks → g k = []) ∧ (∀ k j, j ∈ g k → j < n) ∧ degs g ks ≤ 64 ∧ (∀ k, (g k).length ≤ 64) ∧ n ≤ 16 ∧
  ∀ H', EX x H H' → GrAt P w K C H' x n kp ks g tx → Q .non H'
theorem ok_IN {f fMA fBA : Addr} {fd fdMA fdBA : FuncData} (F : Fun K "__init__" "FileGraph.__init__" sIN f fd) (T : Txt K mg C)
    (GMA : FnOk P w K mg base CX0 2 fMA fdMA ["edges", "bits"] (spMA P w K)) (bMA : Binds K fdMA ["edges", "bits"] []) (gMA : mg "masks_along" = some (.ref fMA)) (kMA : PySem.W.keepIn K (.ref fMA) = true)
    (GBA : FnOk P w K mg base CX0 1 fBA fdBA ["edges"] (spBA P w K)) (bBA : Binds K fdBA ["edges"] []) (gBA : mg "backwards" = some (.ref fBA)) (kBA : PySem.W.keepIn K (.ref fBA) = true)
    (m_list : mg "list" = none) (m_sorted : mg "sorted" = none) (m_enumerate : mg "enumerate" = none) : FnOk P w K mg base CX0 3 f fd ["self", "lines", "present", "edges"] (spIN P w K C) := by
  refine F.ok scIN (fun vs H Q E h => ?_) (fun cdv A outer s H vs Q E hr h => ?_)
  · obtain ⟨x, dx, dl, dp, de, esl, esp, ese, n, kp, ks, g, tx, rfl, _⟩ := h
    rfl
  · obtain ⟨x, dx, dl, dp, de, esl, esp, ese, n, kp, ks, g, tx, rfl, hx, l1, l2, l3, l4, p1, p2, p3, p4, p5, e1, e2, e3, e4, e5, e6, g1, g2, g3, g4, hn, q⟩ := h
    have hu := hr.units
    have hu1 := hu_of hr
    have hr1 : Room 1 _ := hr.mono (by decide)
    have hr2 : Room 2 _ := hr.mono (by decide)
    have zl := zl
    refine ⟨_, (pss_cons (ps_fld (pv 0) (pe_lock (GX.pe_dg (o0 := fun D => GX.dNO ktL P w D []) (put := GX.putN ktL P w K) (own := [("line", 4)]) (g := gName 4) (tt := tYes) (tk := tVar 4) (tv := tOp (GX.rIxN ktL P w K) (tVar 1) (tVar 4)) (fun H h hb => GX.dg_empty H h hb) rfl scIN.nd (GX.pi_keysN (T := ktL) (pv 1)) (blkOk_by (N := nIN) (sc := defScope sIN) (by decide +kernel)) (fun _ _ _ _ _ => by exact pg_name (i := 4) scIN.nd rfl (.inl rfl)) (fun _ _ _ _ _ => pts_nil) (fun _ _ _ _ _ => by exact pv 4) (fun _ _ _ _ _ => by exact pe_ix (GX.ix_N (T := ktL) hu) (pv 1) (pv 4) (fun _ _ => rfl)) (fun _ _ _ _ _ => GX.putR_N hu))) rfl)
      (pss_cons (ps_fld (pv 0) (pe_lock (GX.pe_dg (o0 := fun D => GX.dNO ktL P w D []) (put := GX.putN ktL P w K) (own := [("line", 4)]) (g := gName 4) (tt := tYes) (tk := tVar 4) (tv := tC (.bl true)) (fun H h hb => GX.dg_empty H h hb) rfl scIN.nd (GX.pi_keysN (T := ktL) (pv 2)) (blkOk_by (N := nIN) (sc := defScope sIN) (by decide +kernel)) (fun _ _ _ _ _ => by exact pg_name (i := 4) scIN.nd rfl (.inl rfl)) (fun _ _ _ _ _ => pts_nil) (fun _ _ _ _ _ => by exact pv 4) (fun _ _ _ _ _ => by exact pe_bl) (fun _ _ _ _ _ => GX.putR_N hu))) rfl)
      (pss_cons (ps_fld (pv 0) (pe_lock (GX.pe_dg (o0 := fun D => GX.dNO ktL P w D []) (put := GX.putN ktL P w K) (own := [("line", 4)]) (g := gName 4) (tt := tYes) (tk := tVar 4) (tv := tCB (fun xs H Q => ∃ p ys, xs = [.ref p] ∧ (SqL K H p ys ∨ SqT K H p ys) ∧ ∀ l, H l = none → Q (.ref l) (upd H l (.lst ys))) (tCons (tOp (GX.rIxN ktL P w K) (tVar 3) (tVar 4)) tNil)) (fun H h hb => GX.dg_empty H h hb) rfl scIN.nd (GX.pi_keysN (T := ktL) (pv 3)) (blkOk_by (N := nIN) (sc := defScope sIN) (by decide +kernel)) (fun _ _ _ _ _ => by exact pg_name (i := 4) scIN.nd rfl (.inl rfl)) (fun _ _ _ _ _ => pts_nil) (fun _ _ _ _ _ => by exact pv 4) (fun _ _ _ _ _ => by exact pe_callTy call_list_of (by rfl) m_list (by decide +kernel) (pa_cons (pe_ix (GX.ix_N (T := ktL) hu) (pv 3) (pv 4) (fun _ _ => rfl)) pa_nil)) (fun _ _ _ _ _ => GX.putR_N hu))) rfl)
      (pss_cons (ps_fld (pv 0) (GX.pe_dg (o0 := fun D => GX.dNO ktL P w D []) (put := GX.putN ktL P w K) (own := [("k", 5), ("line", 4)]) (g := gTup K 2 (gCons (gName 5) (gCons (gName 4) gNil))) (tt := tYes) (tk := tVar 4) (tv := tOp (rI CPow fun i j => .int (i * 2 ^ j.toNat)) (tC (.int 1)) (tVar 5)) (fun H h hb => GX.dg_empty H h hb) rfl scIN.nd (pi_enum (by rfl) m_enumerate (pa_cons (pe_callB (GX.cr_sortedN (T := ktL) rfl hu) (by rfl) m_sorted (by decide +kernel) (pa_cons (pv 1) pa_nil)) pa_nil)) (blkOk_by (N := nIN) (sc := defScope sIN) (by decide +kernel)) (fun _ _ _ _ _ => by exact pg_tup (by rfl) (pgs_cons (pg_name (i := 5) scIN.nd rfl (.inl rfl)) (pgs_cons (pg_name (i := 4) scIN.nd rfl (.inl rfl)) pgs_nil))) (fun _ _ _ _ _ => pts_nil) (fun _ _ _ _ _ => by exact pv 4) (fun _ _ _ _ _ => by exact pe_op op_shl (pe_int) (pv 5)) (fun _ _ _ _ _ => GX.putR_N hu)) rfl)
      (pss_cons (ps_fld (pv 0) (pe_call GMA hr2 (by rfl) gMA kMA bMA .nil pass0 (pa_cons (pe_fld (pv 0) rfl) (pa_cons (pe_fld (pv 0) rfl) pa_nil))) rfl)
      (pss_one (ps_fld (pv 0) (pe_call GMA hr2 (by rfl) gMA kMA bMA .nil pass0 (pa_cons (pe_call GBA hr1 (by rfl) gBA kBA bBA .nil pass0 (pa_cons (pe_fld (pv 0) rfl) pa_nil)) (pa_cons (pe_fld (pv 0) rfl) pa_nil))) rfl))))))), ?_⟩
    have nlx : dl ≠ x := fun e => by rw [e, hx] at l1; cases l1
    have npx : dp ≠ x := fun e => by rw [e, hx] at p1; cases p1
    have nex : de ≠ x := fun e => by rw [e, hx] at e1; cases e1
    have ll : esl.length = n := by
      have := congrArg List.length l3
      rwa [List.length_map, List.length_range] at this
    have lp : esp.length ≤ n := by
      have := nat_nodup_len p4 (m := List.range n) fun x hx => List.mem_range.mpr (p5 x hx)
      rw [← p3, List.length_map, List.length_range] at this
      exact this
    have le : ese.length ≤ n := by
      have := nat_nodup_len e4 (m := List.range n) fun x hx => List.mem_range.mpr (e5 x hx)
      rw [← e3, List.length_map, List.length_range] at this
      exact this
    have ndl : (esl.map (·.1)).Nodup := by rw [l3]; exact List.nodup_range
    -- lines
    refine fld_seq ?_
    refine cp_keys (i := 1) (j := 4) (fun e v _ => v = .str (tx e.1)) (fun _ _ _ _ _ h => h) l1 l2 ndl (by omega) rfl (by intro _; rfl) (by intro _; rfl) (fun e he od H1 R s1 hR => ?_) (fun D1 H1 es1 s1 nD1 a1 a2 a3 a4 => ?_)
    · have hd := s1 _ _ (upd_same (H := H) (a := dl) (o := .frz od (dNO ktL P w dl esl)))
      have rL : RS H (upd H dl (.frz od (dNO ktL P w dl esl))) := GX.rs_lock l1 (fun _ _ h => nomatch h)
      have ta : TSt K H H1 := (rL.trans (GX.rs_same s1)).tst
      exact ⟨_, rfl, _, rfl, dl, e.2.1, esl, e.1, e, rfl, rfl, .inr ⟨od, hd⟩, l2.ts ta, ln_ts ta (l2 e he), find_nodup ndl he, hR _ _ same_refl (l4 e he)⟩
    refine ⟨_, rfl, x, C, dx, [], rfl, s1 _ _ hx, T.cl, T.n1, by show 0 < 1000; decide, ?_⟩
    have x1 : EX x H (upd H1 x (.ins C dx (putF "lines" (.ref D1) []))) := (EX.same s1).trans EX.upd
    have r1 : RS H (upd H1 x (.ins C dx (putF "lines" (.ref D1) []))) := (GX.rs_same s1).trans (GX.rs_ins (s1 _ _ hx))
    have nD1x : D1 ≠ x := fun e => by rw [e, hx] at nD1; cases nD1
    have T1 : TxtsAt P w K (upd H1 x (.ins C dx (putF "lines" (.ref D1) []))) D1 (List.range n) tx := TxtsAt.rs (GX.rs_ins (s1 _ _ hx)) ⟨es1, .inl a1, a2, a3.trans l3, fun e' he' => by
      obtain ⟨e, _, h2, h3⟩ := a4 e' he'
      rw [h3, h2]⟩
    have hx1 : upd H1 x (.ins C dx (putF "lines" (.ref D1) [])) x = some (.ins C dx (putF "lines" (.ref D1) [])) := upd_same
    show tSeq _ _ _ _ (upd H1 x (.ins C dx (putF "lines" (.ref D1) [])))
    generalize upd H1 x (.ins C dx (putF "lines" (.ref D1) [])) = H2 at x1 r1 T1 hx1
    clear a1 a2 a3 a4 s1
    -- present
    have p1' := x1 _ _ npx p1
    refine fld_seq ?_
    refine cp_keys (i := 2) (j := 4) (fun e v _ => True) (fun _ _ _ _ _ h => h) p1' (p2.ts r1.tst) (by rw [p3]; exact p4) (by omega) rfl (by intro _; rfl) (by intro _; rfl) (fun e he od H1 R s1 hR => hR _ _ same_refl trivial) (fun D2 H3 es2 s2 nD2 a1 a2 a3 a4 => ?_)
    refine ⟨_, rfl, x, C, dx, _, rfl, s2 _ _ hx1, T.cl, T.n2, by show 1 < 1000; decide, ?_⟩
    have x2 : EX x H (upd H3 x (.ins C dx (putF "present" (.ref D2) (putF "lines" (.ref D1) [])))) := (x1.trans (EX.same s2)).trans EX.upd
    have r2' : RS H2 (upd H3 x (.ins C dx (putF "present" (.ref D2) (putF "lines" (.ref D1) [])))) := (GX.rs_same s2).trans (GX.rs_ins (s2 _ _ hx1))
    have r2 := r1.trans r2'
    have T2 := T1.rs r2'
    have O2 : OnesAt P w K (upd H3 x (.ins C dx (putF "present" (.ref D2) (putF "lines" (.ref D1) [])))) D2 kp := OnesAt.rs (GX.rs_ins (s2 _ _ hx1)) ⟨es2, .inl a1, a2, a3.trans p3⟩
    have hx2 : upd H3 x (.ins C dx (putF "present" (.ref D2) (putF "lines" (.ref D1) []))) x = some (.ins C dx (putF "present" (.ref D2) (putF "lines" (.ref D1) []))) := upd_same
    show tSeq _ _ _ _ (upd H3 x (.ins C dx (putF "present" (.ref D2) (putF "lines" (.ref D1) []))))
    generalize upd H3 x (.ins C dx (putF "present" (.ref D2) (putF "lines" (.ref D1) []))) = H4 at x2 r2' r2 T2 O2 hx2
    clear a1 a2 a3 a4 s2 T1 hx1 r2' x1 r1
    -- edges
    have e1' := x2 _ _ nex e1
    have nde : (ese.map (·.1)).Nodup := by rw [e3]; exact e4
    refine fld_seq ?_
    refine cp_keys (i := 3) (j := 4) (GoodE K g) GoodE.lt e1' (e2.ts r2.tst) nde (by omega) rfl (by intro _; rfl) (by intro _; rfl) (fun e he od H5 R s5 hR => ?_) (fun D3 H5 es3 s3 nD3 a1 a2 a3 a4 => ?_)
    · have hd := s5 _ _ (upd_same (H := H4) (a := de) (o := .frz od (dNO ktL P w de ese)))
      have rL : RS H4 (upd H4 de (.frz od (dNO ktL P w de ese))) := GX.rs_lock e1' (fun _ _ h => nomatch h)
      have ra : RS H H5 := r2.trans (rL.trans (GX.rs_same s5))
      obtain ⟨l, F, b1, b2, b3, b4⟩ := e6 e he
      have hke := ln_ts ra.tst (e2 e he)
      have hf := find_nodup nde he
      obtain ⟨k, a, v⟩ := e
      simp only at b1 b4 hke hf
      subst b1
      exact ⟨_, rfl, _, rfl, de, a, ese, k, _, rfl, rfl, .inr ⟨od, hd⟩, e2.ts ra.tst, hke, hf, l, _, rfl, .inl (ra.sql b2), fun p np => hR _ _ (same_new np) ⟨p, F, rfl, SqL.of upd_same, (b3.ts ra.tst).ts (ts_new np), b4⟩⟩
    refine ⟨_, rfl, x, C, dx, _, rfl, s3 _ _ hx2, T.cl, T.n3, by show 2 < 1000; decide, ?_⟩
    have nD3x : D3 ≠ x := fun e => by rw [e, hx2] at nD3; cases nD3
    have x3 : EX x H (upd H5 x (.ins C dx (putF "edges" (.ref D3) (putF "present" (.ref D2) (putF "lines" (.ref D1) []))))) := (x2.trans (EX.same s3)).trans EX.upd
    have r3' : RS H4 (upd H5 x (.ins C dx (putF "edges" (.ref D3) (putF "present" (.ref D2) (putF "lines" (.ref D1) []))))) := (GX.rs_same s3).trans (GX.rs_ins (s3 _ _ hx2))
    have ri : RS H5 (upd H5 x (.ins C dx (putF "edges" (.ref D3) (putF "present" (.ref D2) (putF "lines" (.ref D1) []))))) := GX.rs_ins (s3 _ _ hx2)
    have r3 := r2.trans r3'
    have T3 := T2.rs r3'
    have O3 := O2.rs r3'
    have hD3 : upd H5 x (.ins C dx (putF "edges" (.ref D3) (putF "present" (.ref D2) (putF "lines" (.ref D1) [])))) D3 = some (dNO ktL P w D3 es3) := (upd_ne nD3x).trans a1
    have k3 := a2.ts (ri.tst (K := K))
    have v3 : ∀ e ∈ es3, ∃ (l : Addr) (F : List (Nat × V)), e.2.2 = .ref l ∧ SqL K (upd H5 x (.ins C dx (putF "edges" (.ref D3) (putF "present" (.ref D2) (putF "lines" (.ref D1) []))))) l (F.map (·.2)) ∧ LAt K (upd H5 x (.ins C dx (putF "edges" (.ref D3) (putF "present" (.ref D2) (putF "lines" (.ref D1) []))))) F ∧ F.map (·.1) = g e.1 := fun e' he' => by
      obtain ⟨e, _, h2, l, F, b1, b2, b3, b4⟩ := a4 e' he'
      exact ⟨l, F, b1, ri.sql b2, b3.ts ri.tst, by rw [b4, h2]⟩
    have hx3 : upd H5 x (.ins C dx (putF "edges" (.ref D3) (putF "present" (.ref D2) (putF "lines" (.ref D1) [])))) x = some (.ins C dx (putF "edges" (.ref D3) (putF "present" (.ref D2) (putF "lines" (.ref D1) [])))) := upd_same
    have m3 := a3.trans e3
    show tSeq _ _ _ _ (upd H5 x (.ins C dx (putF "edges" (.ref D3) (putF "present" (.ref D2) (putF "lines" (.ref D1) [])))))
    generalize upd H5 x (.ins C dx (putF "edges" (.ref D3) (putF "present" (.ref D2) (putF "lines" (.ref D1) [])))) = H6 at x3 r3' r3 T3 O3 hD3 k3 v3 hx3 ri
    clear a1 a2 a3 a4 s3 T2 O2 hx2 r3' x2 r2 ri
    -- bits
    have l1' := x3 _ _ nlx l1
    have l2' := l2.ts (r3.tst (K := K))
    obtain ⟨al, so⟩ := able_L (fun e : Nat × Addr × V => e.1) esl
    have sB : GX.sortN ktL esl = esl := sorted_asc (fun e : Nat × Addr × V => e.1) (by
      have : (esl.map (·.1)).Pairwise (· ≤ ·) := by
        rw [l3]
        exact List.pairwise_lt_range.imp fun h => Nat.le_of_lt h
      rwa [List.pairwise_map] at this)
    refine ⟨_, rfl, dl, esl, rfl, .inl l1', l2', al, so, fun p np => ?_⟩
    rw [sB]
    refine ⟨p, _, rfl, SqL.of upd_same, fun D4 nD4 => ?_⟩
    have sp := same_new (o := .lst (esl.map fun e => V.ref e.2.1)) np
    have hp6 : upd H6 p (.lst (esl.map fun e => V.ref e.2.1)) p = some (.lst (esl.map fun e => V.ref e.2.1)) := upd_same
    generalize upd H6 p (.lst (esl.map fun e => V.ref e.2.1)) = H7 at nD4 sp hp6
    refine GX.dg_it (o0 := fun D => dNO ktL P w D []) (put := GX.putN ktL P w K) (walk_enum (K := K) (a := p) (xs := esl.map fun e => V.ref e.2.1)) (fun m H' => Same H7 H' ∧ ∃ es', H' D4 = some (dNO ktL P w D4 es') ∧ KeysAt ktL K H' es' ∧ es'.map (·.1) = (esl.take m).map (·.1) ∧ ∀ e ∈ es', e.2.2 = .int ((2 ^ e.1 : Nat) : Int))
      ⟨same_new nD4, [], upd_same, (fun _ h => nomatch h), rfl, (fun _ h => nomatch h)⟩ ?_ ?_ ?_
    · rintro m H' _ ⟨s, _⟩
      exact SqL.of (s _ _ hp6)
    · rintro m y H8 H8' hm ⟨s, es', eD, ka, kk, vv⟩ ⟨tt, y1, y2, rfl, nt, rfl, hy1, hy2⟩
      cases hy1
      obtain ⟨e, he, rfl⟩ := map_get hy2
      have hem := List.mem_of_getElem? he
      have em : e.1 = m := by
        have := get_map (·.1) he
        rw [l3, List.getElem?_range (by rw [List.length_map] at hm; omega)] at this
        exact (Option.some.inj this).symm
      have sT := same_new (o := .tup [.int (m : Int), V.ref e.2.1]) nt
      have hke := ln_ts (ts_same (same_trans s sT)) (ln_ts (ts_same sp) (l2' e hem))
      have nk : e.1 ∉ es'.map (·.1) := fun h => by
        rw [kk, List.map_take, l3, List.take_range] at h
        have := List.mem_range.mp h
        omega
      have le' : es'.length ≤ n := by
        have := congrArg List.length kk
        rw [List.length_map, List.length_map, List.length_take] at this
        omega
      have mn : m < n := by rw [List.length_map] at hm; omega
      refine ⟨_, _, rfl, SqT.of upd_same, rfl, _, _, rfl, _, _, rfl, rfl, rfl, _, rfl, _, rfl, _, _, rfl, rfl, ⟨by omega, by omega, by decide⟩, es', e.1, e.2.1, rfl, sT _ _ eD, ka.ts (ts_same sT), hke, by omega, same_upd nD4 (same_trans s sT), _, upd_same, (GX.st_keys (ka.ts (ts_same sT)) hke).ts (ts_dict (sT _ _ eD)), ?_, fun e' he' => ?_⟩
      · rw [dst_keys, if_neg nk, kk, List.take_add_one, he, List.map_append]
        rfl
      · rcases dst_mem he' with ⟨h1, h2⟩ | ⟨h1, h2⟩
        · rw [h2, h1, em]
          show V.int (1 * 2 ^ ((m : Int)).toNat) = _
          rw [Int.one_mul, Int.toNat_natCast]
          simp
        · exact vv e' h1
    rintro H8 ⟨s8, es4, eD4, k4, kk4, v4⟩
    rw [List.length_map, List.take_length, l3] at kk4
    have s68 := same_trans sp s8
    refine ⟨_, rfl, x, C, dx, _, rfl, s68 _ _ hx3, T.cl, T.n4, by show 3 < 1000; decide, ?_⟩
    have nD4x : D4 ≠ x := fun e => by
      have := sp _ _ hx3
      rw [← e, nD4] at this
      cases this
    have x4 : EX x H (upd H8 x (.ins C dx (putF "bits" (.ref D4) (putF "edges" (.ref D3) (putF "present" (.ref D2) (putF "lines" (.ref D1) [])))))) := (x3.trans (EX.same s68)).trans EX.upd
    have r4' : RS H6 (upd H8 x (.ins C dx (putF "bits" (.ref D4) (putF "edges" (.ref D3) (putF "present" (.ref D2) (putF "lines" (.ref D1) [])))))) := (GX.rs_same s68).trans (GX.rs_ins (s68 _ _ hx3))
    have T4 := T3.rs r4'
    have O4 := O3.rs r4'
    have hD34 : upd H8 x (.ins C dx (putF "bits" (.ref D4) (putF "edges" (.ref D3) (putF "present" (.ref D2) (putF "lines" (.ref D1) []))))) D3 = some (dNO ktL P w D3 es3) := (upd_ne nD3x).trans (s68 _ _ hD3)
    have k34 := k3.ts (r4'.tst (K := K))
    have v34 : ∀ e ∈ es3, ∃ (l : Addr) (F : List (Nat × V)), e.2.2 = .ref l ∧ SqL K (upd H8 x (.ins C dx (putF "bits" (.ref D4) (putF "edges" (.ref D3) (putF "present" (.ref D2) (putF "lines" (.ref D1) [])))))) l (F.map (·.2)) ∧ LAt K (upd H8 x (.ins C dx (putF "bits" (.ref D4) (putF "edges" (.ref D3) (putF "present" (.ref D2) (putF "lines" (.ref D1) [])))))) F ∧ F.map (·.1) = g e.1 := fun e' he' => by
      obtain ⟨l, F, b1, b2, b3, b4⟩ := v3 e' he'
      exact ⟨l, F, b1, r4'.sql b2, b3.ts r4'.tst, b4⟩
    have B4 : NumsAt P w K (upd H8 x (.ins C dx (putF "bits" (.ref D4) (putF "edges" (.ref D3) (putF "present" (.ref D2) (putF "lines" (.ref D1) [])))))) D4 (List.range n) (fun k => 2 ^ k) := NumsAt.rs (GX.rs_ins (s68 _ _ hx3)) ⟨es4, .inl eD4, k4, kk4, v4⟩
    have hx4 : upd H8 x (.ins C dx (putF "bits" (.ref D4) (putF "edges" (.ref D3) (putF "present" (.ref D2) (putF "lines" (.ref D1) []))))) x = some (.ins C dx (putF "bits" (.ref D4) (putF "edges" (.ref D3) (putF "present" (.ref D2) (putF "lines" (.ref D1) []))))) := upd_same
    show tSeq _ _ _ _ (upd H8 x (.ins C dx (putF "bits" (.ref D4) (putF "edges" (.ref D3) (putF "present" (.ref D2) (putF "lines" (.ref D1) []))))))
    generalize upd H8 x (.ins C dx (putF "bits" (.ref D4) (putF "edges" (.ref D3) (putF "present" (.ref D2) (putF "lines" (.ref D1) []))))) = H9 at x4 r4' T4 O4 hD34 k34 v34 B4 hx4
    clear s8 s68 eD4 k4 v4 k3 v3 hD3 hx3 T3 O3 sp hp6 nD4 x3 r3 r4'
    have E4 : EdgesAt P w K H9 D3 ks g := ⟨es3, .inl hD34, k34, m3, v34⟩
    -- later
    have lkE : (putF "bits" (.ref D4) (putF "edges" (.ref D3) (putF "present" (.ref D2) (putF "lines" (.ref D1) [])))).lookup ("edges" : Str) = some (.ref D3) := by
      rw [lookup_putF, if_neg (by decide +kernel), lookup_putF, if_pos rfl]
    have lkB : (putF "bits" (.ref D4) (putF "edges" (.ref D3) (putF "present" (.ref D2) (putF "lines" (.ref D1) [])))).lookup ("bits" : Str) = some (.ref D4) := by
      rw [lookup_putF, if_pos rfl]
    refine ⟨_, rfl, x, C, dx, _, _, rfl, hx4, T.cl, T.n3, lkE, _, rfl, x, C, dx, _, _, rfl, hx4, T.cl, T.n4, lkB, D3, D4, ks, g, n, rfl, E4, g1, B4, hn, g2, g4, fun H10 at' js M s10 nat hM hjs hlt hTG => ?_⟩
    refine ⟨_, rfl, x, C, dx, _, rfl, s10 _ _ hx4, T.cl, T.n5, by show 4 < 1000; decide, ?_⟩
    have r5' : RS H9 (upd H10 x (.ins C dx (putF "later" (.ref at') (putF "bits" (.ref D4) (putF "edges" (.ref D3) (putF "present" (.ref D2) (putF "lines" (.ref D1) []))))))) := (GX.rs_same s10).trans (GX.rs_ins (s10 _ _ hx4))
    have x5 : EX x H (upd H10 x (.ins C dx (putF "later" (.ref at') (putF "bits" (.ref D4) (putF "edges" (.ref D3) (putF "present" (.ref D2) (putF "lines" (.ref D1) []))))))) := (x4.trans (EX.same s10)).trans EX.upd
    have M5 := hM.rs (GX.rs_ins (s10 _ _ hx4) (o := .ins C dx (putF "later" (.ref at') (putF "bits" (.ref D4) (putF "edges" (.ref D3) (putF "present" (.ref D2) (putF "lines" (.ref D1) [])))))))
    have hD35 : upd H10 x (.ins C dx (putF "later" (.ref at') (putF "bits" (.ref D4) (putF "edges" (.ref D3) (putF "present" (.ref D2) (putF "lines" (.ref D1) [])))))) D3 = some (dNO ktL P w D3 es3) := (upd_ne nD3x).trans (s10 _ _ hD34)
    have hx5 : upd H10 x (.ins C dx (putF "later" (.ref at') (putF "bits" (.ref D4) (putF "edges" (.ref D3) (putF "present" (.ref D2) (putF "lines" (.ref D1) [])))))) x = some (.ins C dx (putF "later" (.ref at') (putF "bits" (.ref D4) (putF "edges" (.ref D3) (putF "present" (.ref D2) (putF "lines" (.ref D1) [])))))) := upd_same
    dsimp only
    generalize upd H10 x (.ins C dx (putF "later" (.ref at') (putF "bits" (.ref D4) (putF "edges" (.ref D3) (putF "present" (.ref D2) (putF "lines" (.ref D1) [])))))) = H11 at r5' x5 M5 hD35 hx5
    have k35 := k34.ts (r5'.tst (K := K))
    have v35 : ∀ e ∈ es3, ∃ (l : Addr) (F : List (Nat × V)), e.2.2 = .ref l ∧ SqL K H11 l (F.map (·.2)) ∧ LAt K H11 F ∧ F.map (·.1) = g e.1 := fun e' he' => by
      obtain ⟨l, F, b1, b2, b3, b4⟩ := v34 e' he'
      exact ⟨l, F, b1, r5'.sql b2, b3.ts r5'.tst, b4⟩
    -- earlier
    have lkE2 : (putF "later" (.ref at') (putF "bits" (.ref D4) (putF "edges" (.ref D3) (putF "present" (.ref D2) (putF "lines" (.ref D1) []))))).lookup ("edges" : Str) = some (.ref D3) := by
      rw [lookup_putF, if_neg (by decide +kernel)]
      exact lkE
    have lkB2 : (putF "later" (.ref at') (putF "bits" (.ref D4) (putF "edges" (.ref D3) (putF "present" (.ref D2) (putF "lines" (.ref D1) []))))).lookup ("bits" : Str) = some (.ref D4) := by
      rw [lookup_putF, if_neg (by decide +kernel)]
      exact lkB
    refine ⟨_, rfl, x, C, dx, _, _, rfl, hx5, T.cl, T.n3, lkE2, D3, es3, ks, g, n, rfl, hD35, k35, m3, v35, e4, e5, hn, g2, g3, fun H12 pb ks' g' s12 npb hEb b1 b2 b3 => ?_⟩
    refine ⟨_, rfl, x, C, dx, _, _, rfl, s12 _ _ hx5, T.cl, T.n4, lkB2, pb, D4, ks', g', n, rfl, hEb, b1, (B4.rs r5').rs (GX.rs_same s12), hn, b2, b3, fun H13 ar js2 M2 s13 nar hM2 _ _ _ => ?_⟩
    have s1113 := same_trans s12 s13
    refine ⟨_, rfl, x, C, dx, _, rfl, s1113 _ _ hx5, T.cl, T.n6, by show 5 < 1000; decide, ?_⟩
    have rF : RS H11 (upd H13 x (.ins C dx (putF "earlier" (.ref ar) (putF "later" (.ref at') (putF "bits" (.ref D4) (putF "edges" (.ref D3) (putF "present" (.ref D2) (putF "lines" (.ref D1) [])))))))) := (GX.rs_same s1113).trans (GX.rs_ins (s1113 _ _ hx5))
    exact q _ ((x5.trans (EX.same s1113)).trans EX.upd) ⟨dx, D1, D2, D3, D4, at', ar, js, M, upd_same, (T4.rs r5').rs rF, (O4.rs r5').rs rF, (E4.rs r5').rs rF, (B4.rs r5').rs rF, M5.rs rF, hjs, hTG⟩
end
end K12
namespace K12
open PySem PySem.Spec PyProof.Rows L2 TR QR
open GX (KT kd kdAll RS TSt dNO KeysAt)
open PySem.W (dataLt dataLe alike alikeAll AllAlike Sortable)
abbrev sED : Stmt := topS 11
abbrev nED : List Str := ["pairs", "edges", "one", "other"]
theorem scED : FnScope nED ["pairs"] (defScope sED) := ⟨rfl, rfl, rfl, by decide +kernel, rfl, by decide +kernel, by decide +kernel⟩
/-! ### pairs of lines -/
abbrev Pr := Nat × Nat
def encP (q : Pr) : PyData := .tuple [encL q.1, encL q.2]
def PAt (K : PySem.W.Frag) (H : Hp) (PS : List (Pr × V)) : Prop := ∀ e ∈ PS, ∃ t a b : Addr, e.2 = .ref t ∧ SqT K H t [.ref a, .ref b] ∧ Dp K H (.ref a) (encL e.1.1) ∧ Dp K H (.ref b) (encL e.1.2)
theorem PAt.ts {K : PySem.W.Frag} {H H' : Hp} {PS : List (Pr × V)} (s : TSt K H H') (h : PAt K H PS) : PAt K H' PS := fun e he => by
  obtain ⟨t, a, b, h1, h2, h3, h4⟩ := h e he
  exact ⟨t, a, b, h1, sq_ts s h2, ln_ts s h3, ln_ts s h4⟩
theorem PAt.dp {K : PySem.W.Frag} {H : Hp} {PS : List (Pr × V)} (h : PAt K H PS) {e : Pr × V} (he : e ∈ PS) : Dp K H e.2 (encP e.1) := by
  obtain ⟨t, a, b, h1, h2, h3, h4⟩ := h e he
  rw [h1]
  exact .tup h2 (.cons h3 (.cons h4 .nil))
theorem alike_P (a b : Pr) : alike (encP a) (encP b) = true := by
  unfold encP
  simp [alike, alikeAll, alike_L]
theorem dep_P (a : Pr) : (encP a).depth ≤ 60 := by
  unfold encP encL nmD
  simp [PyData.depth, PyData.depthAll]
theorem able_P {κ : Type} (f : κ → Pr) (es : List κ) : AllAlike (es.map fun e => encP (f e)) ∧ Sortable (es.map fun e => encP (f e)) :=
  ⟨AllAlike.of fun b b' => alike_P _ _, Sortable.tuples fun b => ⟨_, _, rfl⟩⟩
def sortP (ps : List Pr) : List Pr := ps.mergeSort (dataLe false encP)
theorem sort_fst (PS : List (Pr × V)) : (PS.mergeSort (dataLe false fun e : Pr × V => encP e.1)).map (·.1) = sortP (PS.map (·.1)) := by
  unfold sortP
  exact List.map_mergeSort fun a _ b _ => by rw [PySem.W.dataLe_eq, PySem.W.dataLe_eq]
theorem mem_sortP {ps : List Pr} {q : Pr} : q ∈ sortP ps ↔ q ∈ ps := by
  unfold sortP
  exact List.mem_mergeSort
theorem len_sortP {ps : List Pr} : (sortP ps).length = ps.length := by
  unfold sortP
  exact List.length_mergeSort _
/-! ### the edges as a function of the pairs -/
def kAdd (ks : List Nat) (k : Nat) : List Nat := if k ∈ ks then ks else ks ++ [k]
def edK' (qs : List Pr) : List Nat := qs.foldl (fun ks q => kAdd ks q.1) []
def edG' (qs : List Pr) (k : Nat) : List Nat := (qs.filter fun q => decide (q.1 = k)).map (·.2)
theorem edK_app (qs : List Pr) (q : Pr) : edK' (qs ++ [q]) = kAdd (edK' qs) q.1 := by
  unfold edK'
  rw [List.foldl_append]
  rfl
theorem edG_app (qs : List Pr) (q : Pr) (k : Nat) : edG' (qs ++ [q]) k = if q.1 = k then edG' qs k ++ [q.2] else edG' qs k := by
  unfold edG'
  rw [List.filter_append, List.map_append]
  by_cases h : q.1 = k
  · rw [if_pos h, List.filter_cons, if_pos (by simpa using h)]
    rfl
  · rw [if_neg h, List.filter_cons, if_neg (by simpa using h)]
    simp
theorem snoc_ind {α : Type} {P : List α → Prop} (h0 : P []) (hs : ∀ l a, P l → P (l ++ [a])) : ∀ l, P l := by
  intro l
  have : ∀ l : List α, P l.reverse := fun l => by
    induction l with
    | nil => exact h0
    | cons a l ih => rw [List.reverse_cons]; exact hs _ _ ih
  have h := this l.reverse
  rwa [List.reverse_reverse] at h
theorem mem_edK {k : Nat} : ∀ qs : List Pr, k ∈ edK' qs ↔ ∃ q ∈ qs, q.1 = k := by
  refine snoc_ind (by simp [edK']) fun l q ih => ?_
  rw [edK_app]
  unfold kAdd
  split
  · next h =>
    rw [ih]
    constructor
    · rintro ⟨x, h1, h2⟩
      exact ⟨x, List.mem_append_left _ h1, h2⟩
    · rintro ⟨x, h1, h2⟩
      rcases List.mem_append.mp h1 with h1 | h1
      · exact ⟨x, h1, h2⟩
      · rw [List.mem_singleton.mp h1] at h2
        rw [h2] at h
        exact ih.mp h
  · rw [List.mem_append, ih, List.mem_singleton]
    constructor
    · rintro (⟨x, h1, h2⟩ | h)
      · exact ⟨x, List.mem_append_left _ h1, h2⟩
      · exact ⟨q, List.mem_append_right _ List.mem_cons_self, h.symm⟩
    · rintro ⟨x, h1, h2⟩
      rcases List.mem_append.mp h1 with h1 | h1
      · exact .inl ⟨x, h1, h2⟩
      · rw [List.mem_singleton.mp h1] at h2
        exact .inr h2.symm
theorem nd_edK : ∀ qs : List Pr, (edK' qs).Nodup := by
  refine snoc_ind List.nodup_nil fun l q ih => ?_
  rw [edK_app]
  unfold kAdd
  split
  · exact ih
  · next h =>
    rw [List.nodup_append]
    exact ⟨ih, by simp, fun x hx y hy e => h (by rw [List.mem_singleton.mp hy] at e; rw [← e]; exact hx)⟩
theorem mem_edG {qs : List Pr} {k j : Nat} : j ∈ edG' qs k ↔ (k, j) ∈ qs := by
  unfold edG'
  constructor
  · intro h
    obtain ⟨q, h1, rfl⟩ := List.mem_map.mp h
    obtain ⟨h2, h3⟩ := List.mem_filter.mp h1
    have : q.1 = k := of_decide_eq_true h3
    subst this
    exact h2
  · intro h
    exact List.mem_map.mpr ⟨(k, j), List.mem_filter.mpr ⟨h, by simp⟩, rfl⟩
theorem edG_no {qs : List Pr} {k : Nat} (h : k ∉ edK' qs) : edG' qs k = [] := by
  refine List.eq_nil_iff_forall_not_mem.mpr fun j hj => h ?_
  exact (mem_edK qs).mpr ⟨_, mem_edG.mp hj, rfl⟩
theorem edG_len {qs : List Pr} {k : Nat} : (edG' qs k).length ≤ qs.length := by
  unfold edG'
  rw [List.length_map]
  exact List.length_filter_le _ _
theorem degs_le : ∀ (ks : List Nat), ks.Nodup → ∀ qs : List Pr, degs (edG' qs) ks ≤ qs.length
  | [], _, _ => Nat.zero_le _
  | k :: ks, nd, qs => by
    obtain ⟨h1, h2⟩ := List.nodup_cons.mp nd
    have ih := degs_le ks h2 (qs.filter fun q => !decide (q.1 = k))
    have e : degs (edG' qs) ks = degs (edG' (qs.filter fun q => !decide (q.1 = k))) ks := by
      unfold degs
      congr 1
      refine List.map_congr_left fun x hx => ?_
      unfold edG'
      rw [List.filter_filter]
      congr 2
      refine List.filter_congr fun q _ => ?_
      by_cases e : q.1 = x
      · have : x ≠ k := fun z => h1 (z ▸ hx)
        simp [e, this]
      · simp [e]
    have e2 : qs.length = (qs.filter fun q => decide (q.1 = k)).length + (qs.filter fun q => !decide (q.1 = k)).length := by
      clear ih e
      induction qs with
      | nil => rfl
      | cons q qs ihq =>
        by_cases z : q.1 = k
        · simp only [List.filter_cons, z, decide_true, if_true, Bool.not_true, Bool.false_eq_true, if_false, List.length_cons]
          omega
        · simp only [List.filter_cons, z, decide_false, Bool.false_eq_true, if_false, Bool.not_false, if_true, List.length_cons]
          omega
    show (edG' qs k).length + degs (edG' qs) ks ≤ _
    rw [e, e2]
    unfold edG' at *
    rw [List.length_map]
    omega
/-! ### _law_edges -/
structure EJ (P : Program) (w : World) (K : PySem.W.Frag) (H0 H : Hp) (D : Addr) (ks : List Nat) (g : Nat → List Nat) (es : List (Nat × Addr × V)) : Prop where
  sm : Same H0 H
  d0 : H0 D = none
  ek : H D = some (dNO ktL P w D es)
  ka : KeysAt ktL K H es
  ks : es.map (·.1) = ks
  vl : ∀ e ∈ es, ∃ (l : Addr) (F : List (Nat × V)), e.2.2 = .ref l ∧ H0 l = none ∧ H l = some (.lst (F.map (·.2))) ∧ LAt K H F ∧ F.map (·.1) = g e.1
  inj : ∀ e ∈ es, ∀ e' ∈ es, e.2.2 = e'.2.2 → e.1 = e'.1
section
variable {P : Program} {w : World} {K : PySem.W.Frag} {H0 H H' : Hp} {D : Addr} {ks : List Nat} {g : Nat → List Nat} {es : List (Nat × Addr × V)} {k j : Nat}
theorem EJ.same (f : EJ P w K H0 H D ks g es) (s : Same H H') : EJ P w K H0 H' D ks g es :=
  ⟨same_trans f.sm s, f.d0, s _ _ f.ek, f.ka.ts (ts_same s), f.ks, fun e he => by
    obtain ⟨l, F, a1, a2, a3, a4, a5⟩ := f.vl e he
    exact ⟨l, F, a1, a2, s _ _ a3, a4.ts (ts_same s), a5⟩, f.inj⟩
theorem EJ.neD (f : EJ P w K H0 H D ks g es) {l : Addr} {xs : List V} (h : H l = some (.lst xs)) : l ≠ D := fun e => by
  rw [e, f.ek] at h
  cases h
/-- a key more, with an empty list -/
theorem EJ.new (f : EJ P w K H0 H D ks g es) (nk : k ∉ ks) (gk : g k = []) {l b : Addr} (nl : H l = none) (hb : Dp K H (.ref b) (encL k)) :
    EJ P w K H0 (upd (upd H l (.lst [])) D (dNO ktL P w D (GX.dSt es k b (.ref l)))) D (ks ++ [k]) g (GX.dSt es k b (.ref l)) := by
  have fs := f.same (same_new (o := .lst []) nl)
  have hl : upd H l (.lst []) l = some (.lst []) := upd_same
  have nl0 : H0 l = none := same_none f.sm nl
  have hb' := ln_ts (K := K) (ts_new (o := .lst []) nl) hb
  have old : ∀ e ∈ es, e.2.2 ≠ .ref l := fun e he z => by
    obtain ⟨l', F, a1, a2, a3, _⟩ := f.vl e he
    rw [a1] at z
    cases z
    rw [nl] at a3
    cases a3
  generalize upd H l (.lst []) = H1 at fs hl hb'
  have t := LTs.dict (K := K) (o := dNO ktL P w D (GX.dSt es k b (.ref l))) fs.ek
  refine ⟨same_upd f.d0 fs.sm, f.d0, upd_same, (GX.st_keys fs.ka hb').ts t.t, ?_, fun e he => ?_, fun e he e' he' z => ?_⟩
  · rw [dst_keys, f.ks, if_neg nk]
  · rcases dst_mem he with ⟨h1, h2⟩ | ⟨h1, h2⟩
    · exact ⟨l, [], h2, nl0, (upd_ne (fs.neD hl)).trans hl, (fun _ h => nomatch h), by rw [h1, gk]; rfl⟩
    · obtain ⟨l', F, a1, a2, a3, a4, a5⟩ := fs.vl e h1
      exact ⟨l', F, a1, a2, (upd_ne (fs.neD a3)).trans a3, a4.ts t.t, a5⟩
  · rcases dst_mem he with ⟨h1, h2⟩ | ⟨h1, h2⟩
    · rcases dst_mem he' with ⟨g1, g2⟩ | ⟨g1, g2⟩
      · rw [h1, g1]
      · rw [h2] at z
        exact absurd z.symm (old e' g1)
    · rcases dst_mem he' with ⟨g1, g2⟩ | ⟨g1, g2⟩
      · rw [g2] at z
        exact absurd z (old e h1)
      · exact f.inj e h1 e' g1 z
/-- a line more in the list of k -/
theorem EJ.app (f : EJ P w K H0 H D ks g es) (nd : (es.map (·.1)).Nodup) {e : Nat × Addr × V} (he : e ∈ es) {l : Addr} {F : List (Nat × V)} (a1 : e.2.2 = .ref l) (a2 : H0 l = none) (a3 : H l = some (.lst (F.map (·.2)))) (a4 : LAt K H F) (a5 : F.map (·.1) = g e.1) {a : Addr} (ha : Dp K H (.ref a) (encL j)) :
    EJ P w K H0 (upd H l (.lst (F.map (·.2) ++ [V.ref a]))) D ks (fun x => if e.1 = x then g x ++ [j] else g x) es := by
  have t := ts_lst (K := K) (o := .lst (F.map (·.2) ++ [V.ref a])) a3
  refine ⟨same_upd a2 f.sm, f.d0, (upd_ne (Ne.symm (f.neD a3))).trans f.ek, f.ka.ts t, f.ks, fun x hx => ?_, f.inj⟩
  obtain ⟨l2, F2, b1, b2, b3, b4, b5⟩ := f.vl x hx
  by_cases q : l2 = l
  · subst q
    have ex : e.1 = x.1 := f.inj e he x hx (by rw [a1, b1])
    refine ⟨l2, F ++ [(j, V.ref a)], b1, b2, by rw [upd_same, List.map_append]; rfl, fun y hy => ?_, ?_⟩
    · rcases List.mem_append.mp hy with hy | hy
      · exact ln_ts t (a4 y hy)
      · rw [List.mem_singleton.mp hy]
        exact ln_ts t ha
    · show _ = (if e.1 = x.1 then g x.1 ++ [j] else g x.1)
      rw [if_pos ex, List.map_append, a5, ex]
      rfl
  · have ne : e.1 ≠ x.1 := fun z => by
      · have h1 := find_nodup nd he
        have h2 := find_nodup nd hx
        rw [z] at h1
        rw [h1] at h2
        have := Option.some.inj h2
        rw [this, b1] at a1
        cases a1
        exact q rfl
    refine ⟨l2, F2, b1, b2, (upd_ne q).trans b3, b4.ts t, ?_⟩
    show _ = (if e.1 = x.1 then g x.1 ++ [j] else g x.1)
    rw [if_neg ne]
    exact b5
end
section
variable {P : Program} {w : World} {K : PySem.W.Frag} {mg : Str → Option Value} {base : Heap}
def edK (ps : List Pr) : List Nat := edK' (sortP ps)
def edG (ps : List Pr) : Nat → List Nat := edG' (sortP ps)
def spED (P : Program) (w : World) (K : PySem.W.Frag) : Sp := fun vs H Q _ => ∃ (l : Addr) (PS : List (Pr × V)), vs = [.ref l] ∧ SqL K H l (PS.map (·.2)) ∧ PAt K H PS ∧ PS.length ≤ 64 ∧
  ∀ H' p es, Same H H' → H p = none → H' p = some (dNO ktL P w p es) → KeysAt ktL K H' es → es.map (·.1) = edK (PS.map (·.1)) → (∀ e ∈ es, ∃ (l : Addr) (F : List (Nat × V)), e.2.2 = .ref l ∧ SqL K H' l (F.map (·.2)) ∧ LAt K H' F ∧ F.map (·.1) = edG (PS.map (·.1)) e.1) → Q (.ref p) H'
theorem each_ps {α : Type} {Z : List (α × V)} : ∀ (PS : List (α × V)), (∀ e ∈ PS, e ∈ Z) → PySem.W.EachIs (fun (v : V) (e : α × V) => v = e.2 ∧ e ∈ Z) (PS.map (·.2)) PS
  | [], _ => .nil
  | e :: PS, h => .cons ⟨rfl, h e List.mem_cons_self⟩ (each_ps PS fun x hx => h x (List.mem_cons_of_mem _ hx))
theorem ps_each {α : Type} {Z : List (α × V)} : ∀ {ys : List V} {PS : List (α × V)}, PySem.W.EachIs (fun (v : V) (e : α × V) => v = e.2 ∧ e ∈ Z) ys PS → ys = PS.map (·.2)
  | _, _, .nil => rfl
  | _, _, .cons h t => by rw [h.1, ps_each t]; rfl
theorem ok_ED {f : Addr} {fd : FuncData} (F : Fun K "_law_edges" "_law_edges" sED f fd)
    (m_sorted : mg "sorted" = none) : FnOk P w K mg base CX0 1 f fd ["pairs"] (spED P w K) := by
  refine F.ok scED (fun vs H Q E h => ?_) (fun cdv A outer s H vs Q E hr h => ?_)
  · obtain ⟨l, PS, rfl, _⟩ := h
    rfl
  · obtain ⟨l, PS, rfl, hl, hP, ln, q⟩ := h
    have hu := hr.units
    have hu1 := hu_of hr
    have zl := zl
    refine ⟨_, (pss_cons (ps_set (i := 1) scED.nd rfl (.inl rfl) ((GX.pe_dnewN (T := ktL))))
      (pss_cons (ps_for PassesOwn.never rfl (pi_list (pe_callB (GX.cr_sortedD hu) (by rfl) m_sorted (by decide +kernel) (pa_cons (pv 0) pa_nil))) (pg_tup (by rfl) (pgs_cons (pg_name (i := 2) scED.nd rfl (.inl rfl)) (pgs_cons (pg_name (i := 3) scED.nd rfl (.inl rfl)) pgs_nil)))
      (pss_cons (ps_if (pt_cmpR (GX.op_notInN (T := ktL) hu) (pv 2) (pv 1) (by rfl))
      (pss_one (ps_asg (pe_lst (pa_nil)) (pg_sub (pv 1) (pv 2) (GX.set_N (T := ktL) hu)))) pss_nil)
      (pss_one (ps_expr (pe_bm PySem.F.plainAttrs_list PySem.F.slot_list_append PySem.F.type_list_append mt_append (pe_ix (GX.ix_N (T := ktL) hu) (pv 1) (pv 2) (fun _ _ => rfl)) (pa_cons (pv 3) pa_nil))))))
      (pss_one (ps_ret (pv 1))))), ?_⟩
    refine fun D nD => ?_
    have sD := same_new (o := dNO ktL P w D []) nD
    obtain ⟨al, so⟩ := able_P (fun e : Pr × V => e.1) PS
    refine ⟨_, rfl, l, PS.map (fun e : Pr × V => e.2), Pr × V, PS, fun e => encP e.1, fun v e => v = e.2 ∧ e ∈ PS, rfl, (GX.rs_same sD).sql hl, each_ps PS (fun _ h => h), fun v b hb => by rw [hb.1]; exact (hP.ts (ts_same sD)).dp hb.2, al, so, fun b _ => dep_P b.1, fun ys p hys np => ?_⟩
    have ey := ps_each hys
    subst ey
    have sp := same_new (o := .lst ((PS.mergeSort (dataLe false fun e : Pr × V => encP e.1)).map (·.2))) np
    have hpS : ∀ e ∈ PS.mergeSort (dataLe false fun e : Pr × V => encP e.1), e ∈ PS := fun e he => List.mem_mergeSort.mp he
    have eS := sort_fst PS
    have lS : (PS.mergeSort (dataLe false fun e : Pr × V => encP e.1)).length = PS.length := List.length_mergeSort _
    generalize PS.mergeSort (dataLe false fun e : Pr × V => encP e.1) = SS at sp hpS eS lS
    have np0 : H p = none := same_none sD np
    have nDp : D ≠ p := fun e => by rw [← e, upd_same] at np; cases np
    have eH : upd (upd H D (dNO ktL P w D [])) p (.lst (SS.map (·.2))) = upd (upd H p (.lst (SS.map (·.2)))) D (dNO ktL P w D []) := by
      funext b
      by_cases e1 : b = p
      · subst e1
        rw [upd_same, upd_ne (Ne.symm nDp), upd_same]
      · rw [upd_ne e1]
        by_cases e2 : b = D
        · subst e2
          rw [upd_same, upd_same]
        · rw [upd_ne e2, upd_ne e2, upd_ne e1]
    have sB : Same H (upd H p (.lst (SS.map (·.2)))) := same_new np0
    have hB : upd H p (.lst (SS.map (·.2))) p = some (.lst (SS.map (·.2))) := upd_same
    have nB : upd H p (.lst (SS.map (·.2))) D = none := (upd_ne nDp).trans nD
    have f0 : EJ P w K (upd H p (.lst (SS.map (·.2)))) (upd (upd H D (dNO ktL P w D [])) p (.lst (SS.map (·.2)))) D (edK' []) (edG' []) [] := by
      rw [eH]
      exact ⟨same_new nB, nB, upd_same, (fun _ h => nomatch h), rfl, (fun _ h => nomatch h), (fun _ h => nomatch h)⟩
    generalize upd H p (.lst (SS.map (·.2))) = HB at sB hB nB f0
    refine ⟨p, rfl, ⟨_, SqL.of upd_same⟩, ?_⟩
    have hP' := hP.ts (ts_same (K := K) sB)
    refine for_list (xs := SS.map (·.2)) (fun i σ H' => ∃ (y2 y3 : Option V) (es : List (Nat × Addr × V)), σ = [some (.ref l), some (.ref D), y2, y3] ∧ EJ P w K HB H' D (edK' ((SS.take i).map (·.1))) (edG' ((SS.take i).map (·.1))) es)
      ⟨none, none, [], rfl, f0⟩ ?_ ?_ ?_
    · rintro i σ H' _ ⟨_, _, _, _, f⟩
      exact SqL.of (f.sm _ _ hB)
    · rintro i x σ H2 hx ⟨y2, y3, es, rfl, f⟩
      obtain ⟨⟨⟨k, j⟩, v⟩, ge, rfl⟩ := map_get hx
      have hem := List.mem_of_getElem? ge
      obtain ⟨t, a, b, et, ht, ha, hb⟩ := hP' _ (hpS _ hem)
      simp only at et ht ha hb
      subst et
      have etk : (SS.take (i + 1)).map (·.1) = (SS.take i).map (·.1) ++ [(k, j)] := by rw [List.take_add_one, ge, List.map_append]; rfl
      have lq : ((SS.take i).map (·.1)).length ≤ SS.length := by
        rw [List.length_map, List.length_take]
        omega
      generalize (SS.take i).map (·.1) = qs at f etk lq
      have ht2 := sq_ts (ts_same f.sm) ht
      have ha2 := ln_ts (ts_same f.sm) ha
      -- the append, whatever came before
      have fin : ∀ (H3 : Hp) (es2 : List (Nat × Addr × V)), EJ P w K HB H3 D (kAdd (edK' qs) k) (edG' qs) es2 → ∀ (Nx : L2.St → Hp → Prop), (∀ σ' H', (∃ (y2 y3 : Option V) (es : List (Nat × Addr × V)), σ' = [some (.ref l), some (.ref D), y2, y3] ∧ EJ P w K HB H' D (edK' (qs ++ [(k, j)])) (edG' (qs ++ [(k, j)])) es) → Nx σ' H') →
          tBM K "list" rAppend (tOp (GX.rIxN ktL P w K) (tVar 1) (tVar 2)) (tCons (tVar 3) tNil) [some (.ref l), some (.ref D), some (.ref a), some (.ref b)] H3 (fun _ H' => Nx [some (.ref l), some (.ref D), some (.ref a), some (.ref b)] H') := fun H3 es2 f3 Nx hN => by
        have kin : k ∈ es2.map (·.1) := by
          rw [f3.ks]
          unfold kAdd
          split
          · assumption
          · exact List.mem_append_right _ List.mem_cons_self
        obtain ⟨e, e1, e2, e3⟩ := find_of kin
        obtain ⟨l2, F, b1, b2, b3, b4, b5⟩ := f3.vl e e2
        have ha3 := ln_ts (ts_same f3.sm) ha
        have hb3 := ln_ts (ts_same f3.sm) hb
        have nd : (es2.map (·.1)).Nodup := by
          rw [f3.ks]
          have := nd_edK (qs ++ [(k, j)])
          rw [edK_app] at this
          exact this
        have f4 := f3.app nd e2 b1 b2 b3 b4 b5 hb3
        have lF : F.length ≤ 1000 := by
          have h1 := congrArg List.length b5
          rw [List.length_map] at h1
          have h2 := edG_len (qs := qs) (k := e.1)
          omega
        obtain ⟨k', b', v'⟩ := e
        simp only at b1 e3
        subst b1
        subst e3
        refine ⟨_, rfl, _, rfl, D, a, es2, k', _, rfl, rfl, .inl f3.ek, f3.ka, ha3, e1, .inl ⟨rfl, _, SqL.of b3⟩, _, rfl, l2, _, _, rfl, rfl, b3, by rw [List.length_map]; omega, hN _ _ ⟨_, _, es2, rfl, ?_⟩⟩
        rw [edK_app, show edG' (qs ++ [(k', j)]) = fun x => if k' = x then edG' qs x ++ [j] else edG' qs x from funext fun x => edG_app qs (k', j) x]
        exact f4
      refine ⟨t, _, rfl, ht2, rfl, _, _, rfl, _, _, rfl, rfl, ?_⟩
      have les : es.length ≤ 1000 := by
        have h1 : es.length = (edK' qs).length := by rw [← f.ks, List.length_map]
        have h2 := nat_nodup_len (nd_edK qs) (m := qs.map (·.1)) fun x hx => by
          obtain ⟨q, h3, h4⟩ := (mem_edK qs).mp hx
          exact List.mem_map.mpr ⟨q, h3, h4⟩
        rw [List.length_map] at h2
        omega
      refine ⟨_, rfl, _, rfl, D, a, es, k, rfl, rfl, .inl f.ek, f.ka, ha2, _, rfl, ?_⟩
      rw [is_some, f.ks]
      refine ite2 (fun c1 => ?_) (fun c1 => ?_)
      · have nk : k ∉ edK' qs := by simpa using c1
        refine ⟨Nat.zero_le _, fun nn hnn => ?_⟩
        have sN := same_new (o := .lst []) hnn
        have fn := f.same sN
        have fz := f.new nk (edG_no nk) hnn ha2
        refine ⟨_, rfl, _, rfl, D, a, es, k, rfl, rfl, fn.ek, fn.ka, ln_ts (ts_same sN) ha2, by omega, ?_⟩
        refine fin _ (GX.dSt es k a (.ref nn)) ?_ _ fun σ' H' ⟨y2, y3, es, h1, h2⟩ => ⟨y2, y3, es, h1, by rw [etk]; exact h2⟩
        unfold kAdd
        rw [if_neg nk]
        exact fz
      · have yk : k ∈ edK' qs := by simpa using c1
        refine fin _ es ?_ _ fun σ' H' ⟨y2, y3, es, h1, h2⟩ => ⟨y2, y3, es, h1, by rw [etk]; exact h2⟩
        unfold kAdd
        rw [if_pos yk]
        exact f
    · rintro σ H2 ⟨y2, y3, es, rfl, f⟩
      rw [List.length_map, List.take_length, eS] at f
      exact ⟨_, rfl, q H2 D es (same_trans sB f.sm) nD f.ek f.ka f.ks fun e he => by
        obtain ⟨l, F, a1, a2, a3, a4, a5⟩ := f.vl e he
        exact ⟨l, F, a1, SqL.of a3, a4, a5⟩⟩
end
end K12
namespace K12
open PySem PySem.Spec PyProof.Rows L2 TR QR
open GX (KT kd kdAll RS TSt dNO KeysAt)
abbrev sRE : Stmt := topS 12
abbrev nRE : List Str := ["edges", "found", "one", "other", "turn", "more", "last"]
theorem scRE : FnScope nRE ["edges"] (defScope sRE) := ⟨rfl, rfl, rfl, by decide +kernel, rfl, by decide +kernel, by decide +kernel⟩
abbrev sLB : Stmt := topS 13
abbrev nLB : List Str := ["reach", "one", "other"]
theorem scLB : FnScope nLB ["reach", "one", "other"] (defScope sLB) := ⟨rfl, rfl, rfl, by decide +kernel, rfl, by decide +kernel, by decide +kernel⟩
abbrev sLS : Stmt := topS 14
abbrev nLS : List Str := ["reach", "one", "other"]
theorem scLS : FnScope nLS ["reach", "one", "other"] (defScope sLS) := ⟨rfl, rfl, rfl, by decide +kernel, rfl, by decide +kernel, by decide +kernel⟩
/-- a dict of dicts: who reaches whom -/
structure RI (P : Program) (w : World) (K : PySem.W.Frag) (H0 H : Hp) (D : Addr) (n : Nat) (es : List (Nat × Addr × V)) (R : Nat → Nat → Prop) : Prop where
  sm : Same H0 H
  ka : KeysAt ktL K H es
  nd : (es.map (·.1)).Nodup
  kn : ∀ k ∈ es.map (·.1), k < n
  vl : ∀ e ∈ es, ∃ (d : Addr) (fs : List (Nat × Addr × V)), e.2.2 = .ref d ∧ H0 d = none ∧ d ≠ D ∧ H d = some (dNO ktL P w d fs) ∧ KeysAt ktL K H fs ∧ (fs.map (·.1)).Nodup ∧ ∀ j, j ∈ fs.map (·.1) ↔ R e.1 j
  inj : ∀ e ∈ es, ∀ e' ∈ es, e.2.2 = e'.2.2 → e.1 = e'.1
  cl : ∀ i j, R i j → i ∈ es.map (·.1) ∧ j ∈ es.map (·.1)
def addR (R : Nat → Nat → Prop) (i j : Nat) : Nat → Nat → Prop := fun a b => R a b ∨ (a = i ∧ b = j)
section
variable {P : Program} {w : World} {K : PySem.W.Frag} {H0 H H' : Hp} {D : Addr} {n : Nat} {es : List (Nat × Addr × V)} {R R' : Nat → Nat → Prop} {k j : Nat}
theorem RI.len (f : RI P w K H0 H D n es R) : es.length ≤ n := by
  have := nat_nodup_len f.nd (m := List.range n) fun x hx => List.mem_range.mpr (f.kn x hx)
  rwa [List.length_map, List.length_range] at this
/-- the dict of a key -/
theorem RI.at (f : RI P w K H0 H D n es R) (hk : k ∈ es.map (·.1)) : ∃ (b d : Addr) (fs : List (Nat × Addr × V)), (es.find? fun e => decide (e.1 = k)) = some (k, b, .ref d) ∧ (k, b, .ref d) ∈ es ∧ H0 d = none ∧ d ≠ D ∧ H d = some (dNO ktL P w d fs) ∧ KeysAt ktL K H fs ∧ (fs.map (·.1)).Nodup ∧ (∀ j, j ∈ fs.map (·.1) ↔ R k j) ∧ fs.length ≤ n := by
  obtain ⟨⟨k', b, v⟩, h1, h2, h3⟩ := find_of hk
  obtain ⟨d, fs, a1, a2, a3, a4, a5, a6, a7⟩ := f.vl _ h2
  simp only at h3 a1 a7
  subst h3
  subst a1
  refine ⟨b, d, fs, h1, h2, a2, a3, a4, a5, a6, a7, ?_⟩
  have := nat_nodup_len a6 (m := List.range n) fun x hx => List.mem_range.mpr (f.kn x (f.cl k' x ((a7 x).mp hx)).2)
  rwa [List.length_map, List.length_range] at this
/-- something else changes -/
theorem RI.other (f : RI P w K H0 H D n es R) (s : Same H0 H') (h : ∀ b, b ≠ D → ∀ o, H b = some o → H' b = some o) (t : TSt K H H') : RI P w K H0 H' D n es R :=
  ⟨s, f.ka.ts t, f.nd, f.kn, fun e he => by
    obtain ⟨d, fs, a1, a2, a3, a4, a5, a6, a7⟩ := f.vl e he
    exact ⟨d, fs, a1, a2, a3, h d a3 _ a4, a5.ts t, a6, a7⟩, f.inj, f.cl⟩
theorem RI.same (f : RI P w K H0 H D n es R) (s : Same H H') : RI P w K H0 H' D n es R := f.other (same_trans f.sm s) (fun b _ o h => s b o h) (ts_same s)
theorem RI.iff (f : RI P w K H0 H D n es R) (h : ∀ i j, R i j ↔ R' i j) : RI P w K H0 H D n es R' := by
  have e : R = R' := funext fun i => funext fun j => propext (h i j)
  rw [← e]
  exact f
/-- i reaches j too -/
theorem RI.put (f : RI P w K H0 H D n es R) {b d b' : Addr} {fs : List (Nat × Addr × V)} (h1 : (k, b, V.ref d) ∈ es) (h0 : H0 d = none) (h2 : H d = some (dNO ktL P w d fs)) (h3 : KeysAt ktL K H fs) (h4 : (fs.map (·.1)).Nodup) (h5 : ∀ j, j ∈ fs.map (·.1) ↔ R k j) (hb : Dp K H (.ref b') (encL j)) (hj : j ∈ es.map (·.1)) {v : V} :
    RI P w K H0 (upd H d (dNO ktL P w d (GX.dSt fs j b' v))) D n es (addR R k j) := by
  have t := ts_dict (K := K) (o := dNO ktL P w d (GX.dSt fs j b' v)) h2
  refine ⟨same_upd h0 f.sm, f.ka.ts t, f.nd, f.kn, fun e he => ?_, f.inj, fun x y h => ?_⟩
  · obtain ⟨d2, fs2, a1, a2, a3, a4, a5, a6, a7⟩ := f.vl e he
    by_cases q : d2 = d
    · subst q
      have ek : e.1 = k := f.inj e he _ h1 (by rw [a1])
      refine ⟨d2, GX.dSt fs j b' v, a1, a2, a3, upd_same, (GX.st_keys h3 hb).ts t, GX.st_nodup h4, fun y => ?_⟩
      rw [dst_keys, ek]
      show _ ↔ R k y ∨ (k = k ∧ y = j)
      by_cases m : j ∈ fs.map (·.1)
      · rw [if_pos m, h5]
        constructor
        · exact .inl
        · rintro (h | ⟨_, rfl⟩)
          · exact h
          · exact (h5 _).mp m
      · rw [if_neg m, List.mem_append, h5, List.mem_singleton]
        simp
    · have ne : e.1 ≠ k := fun z => by
        have g1 := find_nodup f.nd he
        have g2 := find_nodup f.nd h1
        simp only at g2
        rw [z, g2] at g1
        have := Option.some.inj g1
        rw [← this] at a1
        cases a1
        exact q rfl
      refine ⟨d2, fs2, a1, a2, a3, (upd_ne q).trans a4, a5.ts t, a6, fun y => ?_⟩
      rw [a7]
      show _ ↔ R e.1 y ∨ (e.1 = k ∧ y = j)
      simp [ne]
  · rcases h with h | ⟨rfl, rfl⟩
    · exact f.cl x y h
    · exact ⟨List.mem_map.mpr ⟨_, h1, rfl⟩, hj⟩
end
/-- what the law's reach tells -/
def RchAt (P : Program) (w : World) (K : PySem.W.Frag) (H : Hp) (r : Addr) (R : Nat → Nat → Prop) : Prop :=
  ∃ es : List (Nat × Addr × V), Rd H r (dNO ktL P w r es) ∧ KeysAt ktL K H es ∧ (es.map (·.1)).Nodup ∧ (∀ e ∈ es, ∃ (d : Addr) (fs : List (Nat × Addr × V)), e.2.2 = .ref d ∧ Rd H d (dNO ktL P w d fs) ∧ KeysAt ktL K H fs ∧ ∀ j, j ∈ fs.map (·.1) ↔ R e.1 j) ∧ ∀ i j, R i j → i ∈ es.map (·.1)
theorem RchAt.rs {P : Program} {w : World} {K : PySem.W.Frag} {H H' : Hp} {r : Addr} {R : Nat → Nat → Prop} (s : RS H H') (h : RchAt P w K H r R) : RchAt P w K H' r R := by
  obtain ⟨es, h1, h2, h3, h4, h5⟩ := h
  refine ⟨es, s.dn h1, h2.ts s.tst, h3, fun e he => ?_, h5⟩
  obtain ⟨d, fs, a1, a2, a3, a4⟩ := h4 e he
  exact ⟨d, fs, a1, s.dn a2, a3.ts s.tst, a4⟩
section
variable {P : Program} {w : World} {K : PySem.W.Frag} {mg : Str → Option Value} {base : Heap}
def spLB (P : Program) (w : World) (K : PySem.W.Frag) : Sp := fun vs H Q _ => ∃ (r a b : Addr) (R : Nat → Nat → Prop) (i j : Nat), vs = [.ref r, .ref a, .ref b] ∧ RchAt P w K H r R ∧ Dp K H (.ref a) (encL i) ∧ Dp K H (.ref b) (encL j) ∧ ∀ z : Bool, (z = true ↔ R i j) → Q (.bl z) H
def spLS (P : Program) (w : World) (K : PySem.W.Frag) : Sp := fun vs H Q _ => ∃ (r a b : Addr) (R : Nat → Nat → Prop) (i j : Nat), vs = [.ref r, .ref a, .ref b] ∧ RchAt P w K H r R ∧ Dp K H (.ref a) (encL i) ∧ Dp K H (.ref b) (encL j) ∧ ∀ z : Bool, (z = true ↔ (R i j ∧ ¬ R j i)) → Q (.bl z) H
theorem ok_LB {f : Addr} {fd : FuncData} (F : Fun K "_law_before" "_law_before" sLB f fd) : FnOk P w K mg base CX0 1 f fd ["reach", "one", "other"] (spLB P w K) := by
  refine F.ok scLB (fun vs H Q E h => ?_) (fun cdv A outer s H vs Q E hr h => ?_)
  · obtain ⟨r, a, b, R, i, j, rfl, _⟩ := h
    rfl
  · obtain ⟨r, a, b, R, i, j, rfl, ⟨es, h1, h2, h3, h4, h5⟩, ha, hb, q⟩ := h
    have hu := hr.units
    have hu1 := hu_of hr
    have zl := zl
    refine ⟨_, (pss_one (ps_ret (pe_and (pe_cmpR (GX.op_inN (T := ktL) hu) (pv 1) (pv 0) (by rfl)) (pe_one (pe_cmpR (GX.op_inN (T := ktL) hu) (pv 2) (pe_ix (GX.ix_N (T := ktL) hu) (pv 0) (pv 1) (fun _ _ => rfl)) (by rfl)))))), ?_⟩
    refine ⟨_, rfl, _, rfl, r, a, es, i, rfl, rfl, h1, h2, ha, _, rfl, ?_⟩
    rw [is_some]
    refine ite2 (fun c1 => ?_) (fun c1 => ?_)
    · obtain ⟨⟨k, b', v⟩, f1, f2, f3⟩ := find_of (of_decide_eq_true c1)
      obtain ⟨d, fs, a1, a2, a3, a4⟩ := h4 _ f2
      simp only at f3 a1 a4
      subst f3
      subst a1
      refine ⟨_, rfl, _, rfl, _, rfl, r, a, es, k, _, rfl, rfl, h1, h2, ha, f1, d, b, fs, j, rfl, rfl, a2, a3, hb, ?_⟩
      rw [is_some]
      exact q _ (by rw [decide_eq_true_iff]; exact a4 j)
    · exact q false ⟨(fun h => nomatch h), fun h => absurd (decide_eq_true (h5 i j h)) c1⟩
theorem ok_LS {f fLB : Addr} {fd fdLB : FuncData} (F : Fun K "_law_strictly" "_law_strictly" sLS f fd)
    (GLB : FnOk P w K mg base CX0 1 fLB fdLB ["reach", "one", "other"] (spLB P w K)) (bLB : Binds K fdLB ["reach", "one", "other"] []) (gLB : mg "_law_before" = some (.ref fLB)) (kLB : PySem.W.keepIn K (.ref fLB) = true) : FnOk P w K mg base CX0 2 f fd ["reach", "one", "other"] (spLS P w K) := by
  refine F.ok scLS (fun vs H Q E h => ?_) (fun cdv A outer s H vs Q E hr h => ?_)
  · obtain ⟨r, a, b, R, i, j, rfl, _⟩ := h
    rfl
  · obtain ⟨r, a, b, R, i, j, rfl, hR, ha, hb, q⟩ := h
    have hu := hr.units
    have hu1 := hu_of hr
    have hr1 : Room 1 _ := hr.mono (by decide)
    have zl := zl
    refine ⟨_, (pss_one (ps_ret (pe_and (pe_call GLB hr1 (by rfl) gLB kLB bLB .nil pass0 (pa_cons (pv 0) (pa_cons (pv 1) (pa_cons (pv 2) pa_nil)))) (pe_one (pe_not (pe_call GLB hr1 (by rfl) gLB kLB bLB .nil pass0 (pa_cons (pv 0) (pa_cons (pv 2) (pa_cons (pv 1) pa_nil))))))))), ?_⟩
    refine ⟨_, rfl, _, rfl, _, rfl, r, a, b, R, i, j, rfl, hR, ha, hb, fun z hz => ⟨z, rfl, ite2 (fun c1 => ?_) (fun c1 => ?_)⟩⟩
    · subst c1
      refine ⟨_, rfl, _, rfl, _, rfl, r, b, a, R, j, i, rfl, hR, hb, ha, fun z2 hz2 => ⟨z2, rfl, ?_⟩⟩
      cases z2 with
      | false => exact q true ⟨fun _ => ⟨hz.mp rfl, fun h => absurd (hz2.mpr h) Bool.false_ne_true⟩, fun _ => rfl⟩
      | true => exact q false ⟨(fun h => nomatch h), fun h => absurd (hz2.mp rfl) h.2⟩
    · exact q false ⟨(fun h => nomatch h), fun h => absurd (hz.mpr h.1) c1⟩
end
end K12
namespace K12
open PySem PySem.Spec PyProof.Rows L2 TR QR
open GX (KT kd kdAll RS TSt dNO KeysAt)
section
variable {P : Program} {w : World} {K : PySem.W.Frag} {H0 H H' : Hp} {D : Addr} {n : Nat} {es : List (Nat × Addr × V)} {R R' : Nat → Nat → Prop} {k j : Nat}
theorem RI.new (f : RI P w K H0 H D n es R) (hD : H D = some (dNO ktL P w D es)) (d0 : H0 D = none) (nk : k ∉ es.map (·.1)) (hk : k < n) {nn a : Addr} (hn : H nn = none) (ha : Dp K H (.ref a) (encL k)) :
    RI P w K H0 (upd (upd H nn (dNO ktL P w nn [])) D (dNO ktL P w D (GX.dSt es k a (.ref nn)))) D n (GX.dSt es k a (.ref nn)) R := by
  have sN := same_new (o := dNO ktL P w nn []) hn
  have nnD : nn ≠ D := fun e => by rw [e, hD] at hn; cases hn
  have n0 : H0 nn = none := same_none f.sm hn
  have hD1 := sN _ _ hD
  have t := (ts_same (K := K) sN).trans (ts_dict (K := K) (o := dNO ktL P w D (GX.dSt es k a (.ref nn))) hD1)
  have ek : (GX.dSt es k a (.ref nn)).map (·.1) = es.map (·.1) ++ [k] := by rw [dst_keys, if_neg nk]
  have old : ∀ e ∈ es, e.2.2 ≠ .ref nn := fun e he z => by
    obtain ⟨d, fs, a1, a2, a3, a4, _⟩ := f.vl e he
    rw [a1] at z
    cases z
    rw [hn] at a4
    cases a4
  refine ⟨same_upd d0 (same_trans f.sm sN), (GX.st_keys f.ka ha).ts t, GX.st_nodup f.nd, fun x hx => ?_, fun e he => ?_, fun e he e' he' z => ?_, fun x y h => ?_⟩
  · rw [ek] at hx
    rcases List.mem_append.mp hx with h | h
    · exact f.kn x h
    · rw [List.mem_singleton.mp h]
      exact hk
  · rcases dst_mem he with ⟨h1, h2⟩ | ⟨h1, h2⟩
    · refine ⟨nn, [], h2, n0, nnD, (upd_ne nnD).trans upd_same, (fun _ h => nomatch h), List.nodup_nil, fun y => ?_⟩
      rw [h1]
      constructor
      · intro h
        cases h
      · intro h
        exact absurd (f.cl k y h).1 nk
    · obtain ⟨d, fs, a1, a2, a3, a4, a5, a6, a7⟩ := f.vl e h1
      exact ⟨d, fs, a1, a2, a3, (upd_ne a3).trans (sN _ _ a4), a5.ts t, a6, a7⟩
  · rcases dst_mem he with ⟨h1, h2⟩ | ⟨h1, h2⟩
    · rcases dst_mem he' with ⟨g1, g2⟩ | ⟨g1, g2⟩
      · rw [h1, g1]
      · rw [h2] at z
        exact absurd z.symm (old e' g1)
    · rcases dst_mem he' with ⟨g1, g2⟩ | ⟨g1, g2⟩
      · rw [g2] at z
        exact absurd z (old e h1)
      · exact f.inj e h1 e' g1 z
  · rw [ek]
    exact ⟨List.mem_append_left _ (f.cl x y h).1, List.mem_append_left _ (f.cl x y h).2⟩
end
theorem ens {P : Program} {w : World} {K : PySem.W.Frag} {H0 H : Hp} {D : Addr} {n : Nat} {es : List (Nat × Addr × V)} {R : Nat → Nat → Prop} {k s : Nat} {σ : L2.St} {a : Addr} {t : TS} {De : Ends} (h1 : σ[1]? = some (some (.ref D))) (hs : σ[s]? = some (some (.ref a))) (f : RI P w K H0 H D n es R) (hD : H D = some (dNO ktL P w D es)) (d0 : H0 D = none) (hk : k < n) (hn : n ≤ 16) (ha : Dp K H (.ref a) (encL k))
    (q : ∀ H' es', H' D = some (dNO ktL P w D es') → RI P w K H0 H' D n es' R → k ∈ es'.map (·.1) → (∀ x ∈ es.map (·.1), x ∈ es'.map (·.1)) → t De σ H') :
    tSeq (tIfS (tTest (tOp (GX.rNotInN ktL P w K) (tVar s) (tVar 1))) (tAsg (GX.tDNewN ktL P w) (gSub (tVar 1) (tVar s) (GX.rSetN ktL P w K))) tNext) t De σ H := by
  have zl := zl
  refine ⟨_, hs, _, h1, D, a, es, k, rfl, rfl, .inl hD, f.ka, ha, _, rfl, ?_⟩
  rw [is_some]
  have le := f.len
  refine ite2 (fun c1 => ?_) (fun c1 => ?_)
  · have nk : k ∉ es.map (·.1) := by simpa using c1
    refine fun nn hnn => ?_
    have sN := same_new (o := dNO ktL P w nn []) hnn
    refine ⟨_, h1, _, hs, D, a, es, k, rfl, rfl, sN _ _ hD, f.ka.ts (ts_same sN), ln_ts (ts_same sN) ha, by omega, ?_⟩
    refine q _ _ upd_same (f.new hD d0 nk hk hnn ha) ?_ fun x hx => ?_
    · rw [dst_keys, if_neg nk]
      exact List.mem_append_right _ List.mem_cons_self
    · rw [dst_keys, if_neg nk]
      exact List.mem_append_left _ hx
  · exact q _ es hD f (by simpa using c1) fun _ h => h
section
variable {P : Program} {w : World} {K : PySem.W.Frag} {mg : Str → Option Value} {base : Heap}
def spRE (P : Program) (w : World) (K : PySem.W.Frag) : Sp := fun vs H Q _ => ∃ (l : Addr) (PS : List (Pr × V)) (n : Nat), vs = [.ref l] ∧ SqL K H l (PS.map (·.2)) ∧ PAt K H PS ∧ PS.length ≤ 64 ∧ n ≤ 16 ∧ (∀ e ∈ PS, e.1.1 < n ∧ e.1.2 < n) ∧
  ∀ H' p, Same H H' → H p = none → RchAt P w K H' p (TG fun a b => (a, b) ∈ PS.map (·.1)) → Q (.ref p) H'
theorem ok_RE {f : Addr} {fd : FuncData} (F : Fun K "_law_reach" "_law_reach" sRE f fd)
    (m_len : mg "len" = none) (m_range : mg "range" = none) (m_list : mg "list" = none) : FnOk P w K mg base CX0 1 f fd ["edges"] (spRE P w K) := by
  refine F.ok scRE (fun vs H Q E h => ?_) (fun cdv A outer s H vs Q E hr h => ?_)
  · obtain ⟨l, PS, n, rfl, _⟩ := h
    rfl
  · obtain ⟨l, PS, n, rfl, hl, hP, ln, hn, hk, q⟩ := h
    have hu := hr.units
    have hu1 := hu_of hr
    have zl := zl
    refine ⟨_, (pss_cons (ps_set (i := 1) scRE.nd rfl (.inl rfl) ((GX.pe_dnewN (T := ktL))))
      (pss_cons (ps_for PassesOwn.never rfl (pi_list (pv 0)) (pg_tup (by rfl) (pgs_cons (pg_name (i := 2) scRE.nd rfl (.inl rfl)) (pgs_cons (pg_name (i := 3) scRE.nd rfl (.inl rfl)) pgs_nil)))
      (pss_cons (ps_if (pt_cmpR (GX.op_notInN (T := ktL) hu) (pv 2) (pv 1) (by rfl))
      (pss_one (ps_asg ((GX.pe_dnewN (T := ktL))) (pg_sub (pv 1) (pv 2) (GX.set_N (T := ktL) hu)))) pss_nil)
      (pss_cons (ps_if (pt_cmpR (GX.op_notInN (T := ktL) hu) (pv 3) (pv 1) (by rfl))
      (pss_one (ps_asg ((GX.pe_dnewN (T := ktL))) (pg_sub (pv 1) (pv 3) (GX.set_N (T := ktL) hu)))) pss_nil)
      (pss_one (ps_asg (pe_bl) (pg_sub (pe_ix (GX.ix_N (T := ktL) hu) (pv 1) (pv 2) (fun _ _ => rfl)) (pv 3) (GX.set_N (T := ktL) hu)))))))
      (pss_cons (ps_for PassesOwn.never rfl (pi_range1 (by rfl) m_range (pa_cons (pe_op op_add (pe_callB (GX.cr_lenN (T := ktL)) (by rfl) m_len PySem.boot_len (pa_cons (pv 1) pa_nil)) (pe_int)) pa_nil)) (pg_name (i := 4) scRE.nd rfl (.inl rfl))
      (pss_cons (ps_set (i := 5) scRE.nd rfl (.inl rfl) (pe_bl))
      (pss_cons (ps_lock (ps_for PassesOwn.never rfl (GX.pi_keysN (T := ktL) (pv 1)) (pg_name (i := 2) scRE.nd rfl (.inl rfl))
      (pss_one (ps_for PassesOwn.never rfl (pi_list (pe_callTy (GX.cr_listN (T := ktL) rfl) (by rfl) m_list (by decide +kernel) (pa_cons (pe_ix (GX.ix_N (T := ktL) hu) (pv 1) (pv 2) (fun _ _ => rfl)) pa_nil))) (pg_name (i := 3) scRE.nd rfl (.inl rfl))
      (pss_one (ps_lock (ps_for PassesOwn.never rfl (GX.pi_keysN (T := ktL) (pe_ix (GX.ix_N (T := ktL) hu) (pv 1) (pv 3) (fun _ _ => rfl))) (pg_name (i := 6) scRE.nd rfl (.inl rfl))
      (pss_one (ps_if (pt_cmpR (GX.op_notInN (T := ktL) hu) (pv 6) (pe_ix (GX.ix_N (T := ktL) hu) (pv 1) (pv 2) (fun _ _ => rfl)) (by rfl))
      (pss_cons (ps_asg (pe_bl) (pg_sub (pe_ix (GX.ix_N (T := ktL) hu) (pv 1) (pv 2) (fun _ _ => rfl)) (pv 6) (GX.set_N (T := ktL) hu)))
      (pss_one (ps_set (i := 5) scRE.nd rfl (.inl rfl) (pe_bl)))) pss_nil)))))))))
      (pss_one (ps_if (pt_not (pt_val (pv 5)))
      (pss_one (ps_break)) pss_nil)))))
      (pss_one (ps_ret (pv 1)))))), ?_⟩
    refine fun D nD => ?_
    have sD := same_new (o := dNO ktL P w D []) nD
    have f0 : RI P w K H (upd H D (dNO ktL P w D [])) D n [] (fun a b => (a, b) ∈ (PS.take 0).map (·.1)) := ⟨sD, (fun _ h => nomatch h), List.nodup_nil, (fun _ h => nomatch h), (fun _ h => nomatch h), (fun _ h => nomatch h), fun _ _ h => nomatch h⟩
    refine ⟨_, rfl, l, rfl, ⟨_, (GX.rs_same sD).sql hl⟩, for_list (xs := PS.map (·.2)) (fun i σ H' => ∃ (y2 y3 : Option V) (es : List (Nat × Addr × V)), σ = [some (.ref l), some (.ref D), y2, y3, none, none, none] ∧ H' D = some (dNO ktL P w D es) ∧ RI P w K H H' D n es (fun a b => (a, b) ∈ (PS.take i).map (·.1)))
      ⟨none, none, [], rfl, upd_same, f0⟩ ?_ ?_ ?_⟩
    · rintro i σ H' _ ⟨_, _, _, _, _, f⟩
      exact (GX.rs_same f.sm).sql hl
    · rintro i x σ H2 hx ⟨y2, y3, es, rfl, hD, f⟩
      obtain ⟨⟨⟨k, j⟩, v⟩, ge, rfl⟩ := map_get hx
      have hem := List.mem_of_getElem? ge
      obtain ⟨t, a, b, et, ht, ha, hb⟩ := hP _ hem
      obtain ⟨kn, jn⟩ := hk _ hem
      simp only at et ht ha hb kn jn
      subst et
      refine ⟨t, _, rfl, sq_ts (ts_same f.sm) ht, rfl, _, _, rfl, _, _, rfl, rfl, ?_⟩
      refine ens rfl rfl f hD nD kn hn (ln_ts (ts_same f.sm) ha) fun H3 es3 hD3 f3 k3 up3 => ?_
      refine ens rfl rfl f3 hD3 nD jn hn (ln_ts (ts_same f3.sm) hb) fun H4 es4 hD4 f4 k4 up4 => ?_
      obtain ⟨b', d, fs, g1, g2, g3, g4, g5, g6, g7, g8, g9⟩ := f4.at (up4 k k3)
      refine ⟨_, rfl, _, rfl, D, a, es4, k, _, rfl, rfl, .inl hD4, f4.ka, ln_ts (ts_same f4.sm) ha, g1, _, rfl, d, b, fs, j, rfl, rfl, g5, g6, ln_ts (ts_same f4.sm) hb, by omega, some (.ref a), some (.ref b), es4, rfl, (upd_ne (Ne.symm g4)).trans hD4, ?_⟩
      refine (f4.put g2 g3 g5 g6 g7 g8 (ln_ts (ts_same f4.sm) hb) k4).iff fun x y => ?_
      rw [List.take_add_one, ge, List.map_append]
      show _ ∨ _ ↔ (x, y) ∈ _ ++ [(k, j)]
      rw [List.mem_append, List.mem_singleton, Prod.mk.injEq]
    · rintro σ H2 ⟨y2, y3, es, rfl, hD2, f2⟩
      rw [List.length_map, List.take_length] at f2
      have le2 := f2.len
      have fin : ∀ (H3 : Hp) (R : Nat → Nat → Prop), H3 D = some (dNO ktL P w D es) → RI P w K H H3 D n es R → (∀ i j, R i j ↔ TG (fun a b => (a, b) ∈ PS.map (·.1)) i j) → Q (.ref D) H3 := fun H3 R hD3 f3 hR => by
        have f4 := f3.iff hR
        refine q H3 D f4.sm nD ⟨es, .inl hD3, f4.ka, f4.nd, fun e he => ?_, fun i j h => (f4.cl i j h).1⟩
        obtain ⟨d, fs, a1, a2, a3, a4, a5, a6, a7⟩ := f4.vl e he
        exact ⟨d, fs, a1, .inl a4, a5, a7⟩
      refine ⟨_, rfl, D, es, rfl, .inl hD2, f2.ka, _, _, rfl, rfl, _, rfl, by omega, by omega, ?_⟩
      refine for_range (fun t σ H' => ∃ (y2 y3 y4 y5 y6 : Option V) (R : Nat → Nat → Prop), σ = [some (.ref l), some (.ref D), y2, y3, y4, y5, y6] ∧ H' D = some (dNO ktL P w D es) ∧ RI P w K H H' D n es R ∧ (∀ i j, R i j → TG (fun a b => (a, b) ∈ PS.map (·.1)) i j) ∧ (∀ m, m ≤ t → ∀ i j, Pth (fun a b => (a, b) ∈ PS.map (·.1)) (m + 1) i j → R i j))
        ⟨y2, y3, none, none, none, _, rfl, hD2, f2, fun i j h => .base h, fun m hm i j h => ?_⟩ ?_ ?_
      · obtain rfl : m = 0 := by omega
        obtain ⟨f, h0, h1, h2⟩ := h
        have := h2 0 (by omega)
        rw [h0, h1] at this
        exact this
      · rintro t σ H3 ht ⟨y2, y3, y4, y5, y6, R, rfl, hD3, f3, hTG, hPt⟩
        refine ⟨D, _, hD3, trivial, fun od => ⟨_, rfl, D, od, es, rfl, upd_same, ?_⟩⟩
        have fL : RI P w K H (upd H3 D (.frz od (dNO ktL P w D es))) D n es R := f3.other (same_upd nD f3.sm) (fun b nb o h => (upd_ne nb).trans h) (ts_dict hD3)
        refine for_it (GX.walk_N (T := ktL) (P := P) (w := w)) (fun i σ H' => ∃ (y2 y3 y4 y6 : Option V) (b : Bool) (Rc : Nat → Nat → Prop), σ = [some (.ref l), some (.ref D), y2, y3, y4, some (.bl b), y6] ∧ H' D = some (.frz od (dNO ktL P w D es)) ∧ RI P w K H H' D n es Rc ∧ (∀ i j, R i j → Rc i j) ∧ (∀ i j, Rc i j → TG (fun a b => (a, b) ∈ PS.map (·.1)) i j) ∧ (b = false → ∀ i j, Rc i j → R i j) ∧ (∀ e ∈ es.take i, ∀ j l, R e.1 j → R j l → Rc e.1 l))
          ⟨y2, y3, _, y6, false, R, rfl, upd_same, fL, fun _ _ h => h, hTG, fun _ _ _ h => h, fun _ h => nomatch h⟩ ?_ ?_ ?_
        · rintro i σ H' _ ⟨_, _, _, _, _, _, _, h, _⟩
          exact h
        · rintro i x σ H4 H4' hi ⟨y2, y3, y4, y6, b, Rc, rfl, hD4, f4, up4, tg4, nb4, tk4⟩ ⟨rfl, e, he, rfl⟩
          have hem := List.mem_of_getElem? he
          obtain ⟨d, fs, a1, a2, a3, a4, a5, a6, a7⟩ := f4.vl e hem
          have hke := f4.ka e hem
          have hfe := find_nodup f4.nd hem
          have etk : es.take (i + 1) = es.take i ++ [e] := by rw [List.take_add_one, he]; rfl
          have kin : e.1 ∈ es.map (·.1) := List.mem_map.mpr ⟨e, hem, rfl⟩
          obtain ⟨k, a, v⟩ := e
          simp only at a1 a7 hke hfe kin
          subst a1
          refine ⟨_, rfl, _, rfl, D, a, es, k, _, rfl, rfl, .inr ⟨od, hD4⟩, f4.ka, hke, hfe, d, fs, rfl, .inl a4, fun p np => ⟨p, rfl, ⟨_, SqL.of upd_same⟩, ?_⟩⟩
          have sp := same_new (o := .lst (fs.map fun e => V.ref e.2.1)) np
          have f5 := f4.same sp
          have hp5 : upd H4' p (.lst (fs.map fun e => V.ref e.2.1)) p = some (.lst (fs.map fun e => V.ref e.2.1)) := upd_same
          have hD5 := sp _ _ hD4
          have ka5 := a5.ts (ts_same (K := K) sp)
          refine for_list (xs := fs.map fun e => V.ref e.2.1) (fun m σ H' => ∃ (y3 y6 : Option V) (b : Bool) (Rd : Nat → Nat → Prop), σ = [some (.ref l), some (.ref D), some (.ref a), y3, y4, some (.bl b), y6] ∧ H' D = some (.frz od (dNO ktL P w D es)) ∧ H' p = some (.lst (fs.map fun e => V.ref e.2.1)) ∧ KeysAt ktL K H' fs ∧ RI P w K H H' D n es Rd ∧ (∀ i j, Rc i j → Rd i j) ∧ (∀ i j, Rd i j → TG (fun a b => (a, b) ∈ PS.map (·.1)) i j) ∧ (b = false → ∀ i j, Rd i j → R i j) ∧ (∀ f ∈ fs.take m, ∀ l, R f.1 l → Rd k l))
            ⟨y3, y6, b, Rc, rfl, hD5, hp5, ka5, f5, fun _ _ h => h, tg4, nb4, fun _ h => nomatch h⟩ ?_ ?_ ?_
          · rintro m σ H' _ ⟨_, _, _, _, _, _, h, _⟩
            exact SqL.of h
          · rintro m x σ H6 hx ⟨y3, y6, b, Rd', rfl, hD6, hp6, ka6, f6, up6, tg6, nb6, tk6⟩
            obtain ⟨⟨j, aj, vj⟩, gf, rfl⟩ := map_get hx
            have hfm := List.mem_of_getElem? gf
            have hj6 := ka6 _ hfm
            simp only at hj6
            have kj : Rc k j := (a7 j).mp (List.mem_map.mpr ⟨_, hfm, rfl⟩)
            obtain ⟨bj, dj, fj, j1, j2, j3, j4, j5, j6, j7, j8, j9⟩ := f6.at (f4.cl k j kj).2
            have etm : fs.take (m + 1) = fs.take m ++ [(j, aj, vj)] := by rw [List.take_add_one, gf]; rfl
            have hD7 : ∀ od2, upd H6 dj (.frz od2 (dNO ktL P w dj fj)) D = some (.frz od (dNO ktL P w D es)) := fun od2 => (upd_ne (Ne.symm j4)).trans hD6
            have t7 : ∀ od2, TSt K H6 (upd H6 dj (.frz od2 (dNO ktL P w dj fj))) := fun od2 => ts_dict j5
            refine ⟨dj, _, j5, trivial, fun od2 => ⟨_, rfl, _, rfl, D, aj, es, j, _, rfl, rfl, .inr ⟨od, hD7 od2⟩, f6.ka.ts (t7 od2), ln_ts (t7 od2) hj6, j1, dj, od2, fj, rfl, upd_same, ?_⟩⟩
            have npd : p ≠ dj := fun e => by rw [e, j5] at hp6; cases hp6
            refine for_it (GX.walk_N (T := ktL) (P := P) (w := w)) (fun u σ H' => ∃ (y6 : Option V) (b : Bool) (Re : Nat → Nat → Prop), σ = [some (.ref l), some (.ref D), some (.ref a), some (.ref aj), y4, some (.bl b), y6] ∧ H' dj = some (.frz od2 (dNO ktL P w dj fj)) ∧ H' D = some (.frz od (dNO ktL P w D es)) ∧ H' p = some (.lst (fs.map fun e => V.ref e.2.1)) ∧ KeysAt ktL K H' fs ∧ KeysAt ktL K H' fj ∧ RI P w K H (upd H' dj (dNO ktL P w dj fj)) D n es Re ∧ (∀ i j, Rd' i j → Re i j) ∧ (∀ i j, Re i j → TG (fun a b => (a, b) ∈ PS.map (·.1)) i j) ∧ (b = false → ∀ i j, Re i j → R i j) ∧ (∀ f ∈ fj.take u, Re k f.1))
              ⟨y6, b, Rd', rfl, upd_same, hD7 od2, (upd_ne npd).trans hp6, ka6.ts (t7 od2), j6.ts (t7 od2), by rw [upd_upd, upd_self j5]; exact f6, fun _ _ h => h, tg6, nb6, fun _ h => nomatch h⟩ ?_ ?_ ?_
            · rintro u σ H' _ ⟨_, _, _, _, h, _⟩
              exact h
            · rintro u x σ H8 H8' hu8 ⟨y6, b, Re, rfl, hj8, hD8, hp8, ka8, kj8, f8, up8, tg8, nb8, tk8⟩ ⟨rfl, q8, hq8, rfl⟩
              have hqm := List.mem_of_getElem? hq8
              have hl8 := kj8 _ hqm
              have etu : fj.take (u + 1) = fj.take u ++ [q8] := by rw [List.take_add_one, hq8]; rfl
              obtain ⟨z, az, vz⟩ := q8
              simp only at hl8
              have jz : Rd' j z := (j8 z).mp (List.mem_map.mpr ⟨_, hqm, rfl⟩)
              obtain ⟨bk, dk, fk, k1, k2, k3, k4, k5, k6, k7, k8, k9⟩ := f8.at kin
              have eU : upd (upd H8' dj (dNO ktL P w dj fj)) dj (.frz od2 (dNO ktL P w dj fj)) = H8' := by rw [upd_upd, upd_self hj8]
              have tU : TSt K (upd H8' dj (dNO ktL P w dj fj)) H8' := by
                have := ts_dict (K := K) (P := P) (w := w) (es := fj) (o := .frz od2 (dNO ktL P w dj fj)) (upd_same (H := H8') (a := dj))
                rw [eU] at this
                exact this
              have tV : TSt K H8' (upd H8' dj (dNO ktL P w dj fj)) := (GX.rs_unlock hj8).tst
              have rk : L2.Rd H8' dk (dNO ktL P w dk fk) := by
                by_cases e : dk = dj
                · subst e
                  rw [upd_same] at k5
                  rw [← Option.some.inj k5]
                  exact .inr ⟨od2, hj8⟩
                · rw [upd_ne e] at k5
                  exact .inl k5
              have hk8 := ln_ts tU (f8.ka _ k2)
              have kz : Re k z → ∀ f ∈ fj.take (u + 1), Re k f.1 := fun h f hf => by
                rw [etu] at hf
                rcases List.mem_append.mp hf with hf | hf
                · exact tk8 f hf
                · rw [List.mem_singleton.mp hf]
                  exact h
              have hke8 : Dp K H8' (.ref a) (encL k) := by
                have g1 := find_nodup f8.nd k2
                simp only at g1
                rw [hfe] at g1
                cases Option.some.inj g1
                exact hk8
              have eab : bk = a ∧ dk = d := by
                rw [hfe] at k1
                cases Option.some.inj k1
                exact ⟨rfl, rfl⟩
              obtain ⟨rfl, rfl⟩ := eab
              refine ⟨_, rfl, _, rfl, _, rfl, D, bk, es, k, _, rfl, rfl, .inr ⟨od, hD8⟩, f8.ka.ts tU, hke8, k1, dk, az, fk, z, rfl, rfl, rk, k6.ts tU, hl8, _, rfl, ?_⟩
              rw [is_some]
              refine ite2 (fun c1 => ?_) (fun c1 => ?_)
              · have nz : ¬ Re k z := fun h => by
                  rw [decide_eq_true ((k8 z).mpr h)] at c1
                  exact Bool.false_ne_true c1
                have ndj : dk ≠ dj := fun e => by
                  subst e
                  have := f8.inj _ k2 _ j2 rfl
                  simp only at this
                  rw [this] at nz
                  exact nz (up8 _ _ jz)
                have hk9 : H8' dk = some (dNO ktL P w dk fk) := by rw [upd_ne ndj] at k5; exact k5
                have npk : p ≠ dk := fun e => by rw [e, hk9] at hp8; cases hp8
                have tN := ts_dict (K := K) (o := dNO ktL P w dk (GX.dSt fk z az (.bl true))) hk9
                refine ⟨_, rfl, _, rfl, D, bk, es, k, _, rfl, rfl, .inr ⟨od, hD8⟩, f8.ka.ts tU, hke8, k1, _, rfl, dk, az, fk, z, rfl, rfl, hk9, k6.ts tU, hl8, by omega, some (.ref az), true, addR Re k z, rfl, (upd_ne (Ne.symm ndj)).trans hj8, (upd_ne (Ne.symm k4)).trans hD8, (upd_ne npk).trans hp8, ka8.ts tN, kj8.ts tN, ?_, fun _ _ h => .inl (up8 _ _ h), fun x y h => ?_, (fun h => nomatch h), fun f hf => ?_⟩
                · have ec : upd (upd H8' dk (dNO ktL P w dk (GX.dSt fk z az (.bl true)))) dj (dNO ktL P w dj fj) = upd (upd H8' dj (dNO ktL P w dj fj)) dk (dNO ktL P w dk (GX.dSt fk z az (.bl true))) := by
                    funext b
                    by_cases e1 : b = dj
                    · subst e1
                      rw [upd_same, upd_ne (Ne.symm ndj), upd_same]
                    · rw [upd_ne e1]
                      by_cases e2 : b = dk
                      · subst e2
                        rw [upd_same, upd_same]
                      · rw [upd_ne e2, upd_ne e2, upd_ne e1]
                  have fz := f8.put (v := .bl true) k2 k3 k5 k6 k7 k8 (ln_ts tV hl8) (f8.cl _ _ (up8 _ _ jz)).2
                  rw [← ec] at fz
                  exact fz
                · rcases h with h | ⟨rfl, rfl⟩
                  · exact tg8 _ _ h
                  · exact (tg4 _ _ kj).trans (tg6 _ _ jz)
                · rw [etu] at hf
                  rcases List.mem_append.mp hf with hf | hf
                  · exact .inl (tk8 f hf)
                  · rw [List.mem_singleton.mp hf]
                    exact .inr ⟨rfl, rfl⟩
              · have yz : Re k z := by
                  refine Classical.byContradiction fun h => c1 ?_
                  rw [decide_eq_false fun h' => h ((k8 z).mp h')]
                  rfl
                exact ⟨some (.ref az), b, Re, rfl, hj8, hD8, hp8, ka8, kj8, f8, up8, tg8, nb8, kz yz⟩
            · rintro σ H8 ⟨y6, b, Re, rfl, hj8, hD8, hp8, ka8, kj8, f8, up8, tg8, nb8, tk8⟩
              rw [List.take_length] at tk8
              have tV : TSt K H8 (upd H8 dj (dNO ktL P w dj fj)) := (GX.rs_unlock hj8).tst
              refine ⟨hj8, some (.ref aj), y6, b, Re, rfl, (upd_ne (Ne.symm j4)).trans hD8, (upd_ne npd).trans hp8, ka8.ts tV, f8, fun _ _ h => up8 _ _ (up6 _ _ h), tg8, nb8, fun f hf z hz => ?_⟩
              rw [etm] at hf
              rcases List.mem_append.mp hf with hf | hf
              · exact up8 _ _ (tk6 f hf z hz)
              · rw [List.mem_singleton.mp hf] at hz
                obtain ⟨g, hg1, hg2⟩ := List.mem_map.mp ((j8 z).mpr (up6 _ _ (up4 _ _ hz)))
                rw [← hg2]
                exact tk8 g hg1
          · rintro σ H6 ⟨y3, y6, b, Rd', rfl, hD6, hp6, ka6, f6, up6, tg6, nb6, tk6⟩
            rw [List.length_map, List.take_length] at tk6
            refine ⟨some (.ref a), y3, y4, y6, b, Rd', rfl, hD6, f6, fun _ _ h => up6 _ _ (up4 _ _ h), tg6, nb6, fun e he j z h1 h2 => ?_⟩
            rw [etk] at he
            rcases List.mem_append.mp he with he | he
            · exact up6 _ _ (tk4 e he j z h1 h2)
            · rw [List.mem_singleton.mp he] at h1 ⊢
              obtain ⟨f, hf1, hf2⟩ := List.mem_map.mp ((a7 j).mpr (up4 _ _ h1))
              exact tk6 f hf1 z (by rw [hf2]; exact h2)
        · rintro σ H4 ⟨y2, y3, y4, y6, b, Rc, rfl, hD4, f4, up4, tg4, nb4, tk4⟩
          rw [List.take_length] at tk4
          have fU : RI P w K H (upd H4 D (dNO ktL P w D es)) D n es Rc := f4.other (same_upd nD f4.sm) (fun b nb o h => (upd_ne nb).trans h) (GX.rs_unlock hD4).tst
          have hE : ∀ i j, (i, j) ∈ PS.map (·.1) → R i j := fun i j e => hPt 0 (Nat.zero_le _) i j (Pth.cons (m := 0) e ⟨fun _ => j, rfl, rfl, fun t ht => by omega⟩)
          have comp : ∀ i j z, R i j → R j z → Rc i z := fun i j z h1 h2 => by
            obtain ⟨e, he, rfl⟩ := List.mem_map.mp (f3.cl i j h1).1
            exact tk4 e he j z h1 h2
          refine ⟨hD4, _, rfl, b, rfl, ?_⟩
          refine ite2 (fun c1 => ?_) (fun c1 => ?_)
          · have eb : b = false := by simpa using c1
            refine ⟨_, rfl, fin _ Rc upd_same fU fun i j => ⟨tg4 i j, fun h => ?_⟩⟩
            induction h with
            | base e => exact up4 _ _ (hE _ _ e)
            | step e _ ih => exact comp _ _ _ (hE _ _ e) (nb4 eb _ _ ih)
          · refine ⟨_, _, _, _, _, Rc, rfl, upd_same, fU, tg4, fun m hm i j h => ?_⟩
            rcases Nat.lt_or_ge m (t + 1) with h1 | h1
            · exact up4 _ _ (hPt m (by omega) i j h)
            · obtain rfl : m = t + 1 := by omega
              obtain ⟨z, e, h2⟩ := h.first
              exact comp i z j (hE _ _ e) (hPt t (Nat.le_refl _) _ _ h2)
      · rintro σ H3 ⟨y2, y3, y4, y5, y6, R, rfl, hD3, f3, hTG, hPt⟩
        refine ⟨_, rfl, fin H3 R hD3 f3 fun i j => ⟨hTG i j, fun h => ?_⟩⟩
        obtain ⟨m, hm⟩ := pth_of h
        obtain ⟨m', h1, h2⟩ := Pth.short (L := es.map (·.1)) (fun a b hab => (f2.cl a b hab).2) m i j hm
        rw [List.length_map] at h1
        exact hPt m' (by omega) i j h2
end
end K12
namespace K12
open PySem PySem.Spec PyProof.Rows L2 TR QR
open GX (KT kd kdAll RS TSt dNO KeysAt)
open PySem.W (dataLt dataLe alike alikeAll AllAlike Sortable)
abbrev sGR : Stmt := topS 10
abbrev nGR : List Str := ["state", "name", "many", "k", "order", "row", "lines", "present", "line", "pairs", "one", "other"]
theorem scGR : FnScope nGR ["state"] (defScope sGR) := ⟨rfl, rfl, rfl, by decide +kernel, rfl, by decide +kernel, by decide +kernel⟩
theorem tseq_intro {X t : TS} {De : Ends} {σ : L2.St} {H : Hp} (J : L2.St → Hp → Prop) (ht : ∀ σ' H', J σ' H' → t De σ' H') (hX : ∀ N : L2.St → Hp → Prop, (∀ σ' H', J σ' H' → N σ' H') → X { De with nx := N } σ H) : tSeq X t De σ H := hX _ ht
theorem StateAt.some {H : Hp} {p c : Addr} (s : StateAt H p c) : (∃ o, H p = Option.some (.lst o)) ∧ ∃ o, H c = Option.some (.lst o) := by
  obtain ⟨⟨seed, ms, h1, h2, _⟩, _⟩ := s
  exact ⟨⟨_, h1⟩, ⟨_, h2⟩⟩
theorem StateAt.same {H H' : Hp} {p c : Addr} (s : StateAt H p c) (k : Same H H') : StateAt H' p c := s.mono (fun o e => k _ _ e) (fun o e => k _ _ e)
/-- draws were made, own objects laid and written -/
structure Dr (p c : Addr) (H H' : Hp) : Prop where
  s0 : StateAt H p c
  st : StateAt H' p c
  ou : ∀ b o, b ≠ p → b ≠ c → H b = some o → H' b = some o
section
variable {K : PySem.W.Frag} {p c a : Addr} {H H1 H2 : Hp} {o : HO}
theorem Dr.np (d : Dr p c H H1) (n : H a = none) : a ≠ p ∧ a ≠ c := by
  obtain ⟨⟨_, e1⟩, ⟨_, e2⟩⟩ := d.s0.some
  exact ⟨fun e => (by rw [e, e1] at n; cases n), fun e => (by rw [e, e2] at n; cases n)⟩
theorem Dr.own (d : Dr p c H H1) (n : H a = none) : Dr p c H (upd H1 a o) := by
  obtain ⟨n1, n2⟩ := d.np n
  refine ⟨d.s0, d.st.mono (fun o e => (upd_ne (Ne.symm n1)).trans e) (fun o e => (upd_ne (Ne.symm n2)).trans e), fun b o' h1 h2 e => ?_⟩
  rw [upd_ne (fun z => by rw [z, n] at e; cases e)]
  exact d.ou b o' h1 h2 e
theorem Dr.none (d : Dr p c H H1) (n : H1 a = Option.none) : H a = Option.none := by
  cases e : H a with
  | none => rfl
  | some o =>
    obtain ⟨⟨_, e1⟩, ⟨_, e2⟩⟩ := d.st.some
    have h1 : a ≠ p := fun z => by rw [z, e1] at n; cases n
    have h2 : a ≠ c := fun z => by rw [z, e2] at n; cases n
    rw [d.ou a o h1 h2 e] at n
    cases n
theorem Dr.new (d : Dr p c H H1) (n : H1 a = Option.none) : Dr p c H (upd H1 a o) := d.own (d.none n)
theorem Dr.draw (d : Dr p c H H1) (st : StateAt H2 p c) (dr : Drawn p c H1 H2) : Dr p c H H2 := ⟨d.s0, st, fun b o h1 h2 e => (dr b h1 h2).trans (d.ou b o h1 h2 e)⟩
theorem ts_out (s : StateAt H1 p c) (h : ∀ b o, b ≠ p → b ≠ c → H1 b = some o → H2 b = some o) : TSt K H1 H2 := fun x ys q => by
  rcases q with q | q
  · have ne : x ≠ p ∧ x ≠ c := by
      obtain ⟨⟨_, e1⟩, ⟨_, e2⟩⟩ := s.some
      refine ⟨fun z => ?_, fun z => ?_⟩
      · rw [z] at q
        rcases q with q | ⟨_, q⟩
        · rw [e1] at q; cases q
        · rw [e1] at q; cases q
      · rw [z] at q
        rcases q with q | ⟨_, q⟩
        · rw [e2] at q; cases q
        · rw [e2] at q; cases q
    rcases q with q | ⟨o, q⟩
    · exact .inl (.inl (h _ _ ne.1 ne.2 q))
    · exact .inl (.inr ⟨o, h _ _ ne.1 ne.2 q⟩)
  · exact .inr q
theorem ts_drawn (s : StateAt H1 p c) (dr : Drawn p c H1 H2) : TSt K H1 H2 := ts_out s fun b o h1 h2 e => (dr b h1 h2).trans e
end
theorem seq_nat {n j : Nat} (h : j < n) : seqIndex? (j : Int) n = some j := by
  unfold seqIndex?
  simp
  omega
theorem map_erase {α β : Type} (f : α → β) : ∀ (l : List α) (r : Nat), (l.map f).eraseIdx r = (l.eraseIdx r).map f
  | [], _ => rfl
  | _ :: _, 0 => rfl
  | x :: l, r + 1 => by
    rw [List.map_cons, List.eraseIdx_cons_succ, List.eraseIdx_cons_succ, List.map_cons, map_erase f l r]
theorem cons_erase {α : Type} : ∀ (l : List α) (r : Nat) (h : r < l.length), (l[r] :: l.eraseIdx r).Perm l
  | x :: l, 0, _ => .refl _
  | x :: l, r + 1, h => by
    have ih := cons_erase l r (Nat.lt_of_succ_lt_succ h)
    rw [List.eraseIdx_cons_succ, List.getElem_cons_succ]
    exact (List.Perm.swap x _ _).trans (ih.cons x)
theorem pop_perm {α : Type} (F G : List α) (r : Nat) (h : r < F.length) : (F.eraseIdx r ++ (G ++ [F[r]])).Perm (F ++ G) := by
  rw [← List.append_assoc]
  refine (List.perm_append_comm).trans ?_
  show (F[r] :: (F.eraseIdx r ++ G)).Perm _
  rw [← List.cons_append]
  exact (cons_erase F r h).append_right G
section
variable {P : Program} {w : World} {K : PySem.W.Frag} {mg : Str → Option Value} {base : Heap}
/-- the pairs being made -/
structure PJ (K : PySem.W.Frag) (H : Hp) (n m : Nat) (pl : Addr) (PS : List (Pr × V)) : Prop where
  hp : H pl = some (.lst (PS.map (·.2)))
  pa : PAt K H PS
  ln : PS.length ≤ m
  lt : ∀ e ∈ PS, e.1.1 < n ∧ e.1.2 < n
/-- the lines being made -/
structure LJ (P : Program) (w : World) (K : PySem.W.Frag) (p c : Addr) (H0 H : Hp) (i : Nat) (rA pS D1 D2 : Addr) (G SG : List (Nat × V)) (es1 es2 : List (Nat × Addr × V)) (tx : Nat → Str) : Prop where
  dr : Dr p c H0 H
  n1 : H0 rA = none
  n2 : H0 pS = none
  n3 : H0 D1 = none
  n4 : H0 D2 = none
  ne : D1 ≠ D2
  r : H rA = some (.lst (G.map (·.2)))
  lr : LAt K H G
  s : H pS = some (.lst (SG.map (·.2)))
  ls : LAt K H SG
  a1 : H D1 = some (dNO ktL P w D1 es1)
  k1 : KeysAt ktL K H es1
  m1 : es1.map (·.1) = List.range i
  v1 : ∀ e ∈ es1, e.2.2 = .str (tx e.1)
  a2 : H D2 = some (dNO ktL P w D2 es2)
  k2 : KeysAt ktL K H es2
  m2 : (es2.map (·.1)).Pairwise (· < ·)
  l2 : ∀ k ∈ es2.map (·.1), k < i
  v2 : ∀ e ∈ es2, e.2.2 = .bl true
theorem LJ.out {p c : Addr} {H0 H H' : Hp} {i : Nat} {rA pS D1 D2 : Addr} {G SG : List (Nat × V)} {es1 es2 : List (Nat × Addr × V)} {tx : Nat → Str} (f : LJ P w K p c H0 H i rA pS D1 D2 G SG es1 es2 tx) (d : Dr p c H0 H') (h : ∀ b o, b ≠ p → b ≠ c → H b = some o → H' b = some o) (t : TSt K H H') : LJ P w K p c H0 H' i rA pS D1 D2 G SG es1 es2 tx :=
  have g : ∀ {b o}, H0 b = none → H b = some o → H' b = some o := fun n e => h _ _ (f.dr.np n).1 (f.dr.np n).2 e
  ⟨d, f.n1, f.n2, f.n3, f.n4, f.ne, g f.n1 f.r, f.lr.ts t, g f.n2 f.s, f.ls.ts t, g f.n3 f.a1, f.k1.ts t, f.m1, f.v1, g f.n4 f.a2, f.k2.ts t, f.m2, f.l2, f.v2⟩
theorem LJ.same {p c : Addr} {H0 H H' : Hp} {i : Nat} {rA pS D1 D2 : Addr} {G SG : List (Nat × V)} {es1 es2 : List (Nat × Addr × V)} {tx : Nat → Str} (f : LJ P w K p c H0 H i rA pS D1 D2 G SG es1 es2 tx) (d : Dr p c H0 H') (s : Same H H') : LJ P w K p c H0 H' i rA pS D1 D2 G SG es1 es2 tx := f.out d (fun b o _ _ e => s b o e) (ts_same s)
theorem LJ.draw {p c : Addr} {H0 H H' : Hp} {i : Nat} {rA pS D1 D2 : Addr} {G SG : List (Nat × V)} {es1 es2 : List (Nat × Addr × V)} {tx : Nat → Str} (f : LJ P w K p c H0 H i rA pS D1 D2 G SG es1 es2 tx) (st : StateAt H' p c) (dr : Drawn p c H H') : LJ P w K p c H0 H' i rA pS D1 D2 G SG es1 es2 tx :=
  f.out (f.dr.draw st dr) (fun b o h1 h2 e => (dr b h1 h2).trans e) (ts_drawn f.dr.st dr)
theorem LJ.own {p c pl : Addr} {H0 H : Hp} {i : Nat} {rA pS D1 D2 : Addr} {G SG : List (Nat × V)} {es1 es2 : List (Nat × Addr × V)} {tx : Nat → Str} {xs ys : List V} (f : LJ P w K p c H0 H i rA pS D1 D2 G SG es1 es2 tx) (hp : H pl = some (.lst xs)) (n0 : H0 pl = none) (h1 : rA ≠ pl) (h2 : pS ≠ pl) : LJ P w K p c H0 (upd H pl (.lst ys)) i rA pS D1 D2 G SG es1 es2 tx :=
  have t := ts_lst (K := K) (o := .lst ys) hp
  have n3 : D1 ≠ pl := fun e => by have := f.a1; rw [e, hp] at this; cases this
  have n4 : D2 ≠ pl := fun e => by have := f.a2; rw [e, hp] at this; cases this
  ⟨f.dr.own n0, f.n1, f.n2, f.n3, f.n4, f.ne, (upd_ne h1).trans f.r, f.lr.ts t, (upd_ne h2).trans f.s, f.ls.ts t, (upd_ne n3).trans f.a1, f.k1.ts t, f.m1, f.v1, (upd_ne n4).trans f.a2, f.k2.ts t, f.m2, f.l2, f.v2⟩
theorem LJ.put1 {p c : Addr} {H0 H : Hp} {i : Nat} {rA pS D1 D2 : Addr} {G SG : List (Nat × V)} {es1 es2 : List (Nat × Addr × V)} {tx : Nat → Str} (f : LJ P w K p c H0 H i rA pS D1 D2 G SG es1 es2 tx) {a : Addr} (ha : Dp K H (.ref a) (encL i)) (x : Str) :
    LJ P w K p c H0 (upd H D1 (dNO ktL P w D1 (GX.dSt es1 i a (.str x)))) (i + 1) rA pS D1 D2 G SG (GX.dSt es1 i a (.str x)) es2 (fun k => if k = i then x else tx k) := by
  have t := ts_dict (K := K) (o := dNO ktL P w D1 (GX.dSt es1 i a (.str x))) f.a1
  have nr : rA ≠ D1 := fun e => by have := f.r; rw [e, f.a1] at this; cases this
  have ns : pS ≠ D1 := fun e => by have := f.s; rw [e, f.a1] at this; cases this
  have nk : i ∉ es1.map (·.1) := by rw [f.m1]; exact fun h => Nat.lt_irrefl _ (List.mem_range.mp h)
  refine ⟨f.dr.own f.n3, f.n1, f.n2, f.n3, f.n4, f.ne, (upd_ne nr).trans f.r, f.lr.ts t, (upd_ne ns).trans f.s, f.ls.ts t, upd_same, (GX.st_keys f.k1 ha).ts t, ?_, fun e he => ?_, (upd_ne (Ne.symm f.ne)).trans f.a2, f.k2.ts t, f.m2, fun k hk => Nat.lt_succ_of_lt (f.l2 k hk), f.v2⟩
  · rw [dst_keys, if_neg nk, f.m1, List.range_succ]
  · rcases dst_mem he with ⟨h1, h2⟩ | ⟨h1, h2⟩
    · rw [h2, h1, if_pos rfl]
    · rw [f.v1 e h1, if_neg h2]
theorem LJ.put2 {p c : Addr} {H0 H : Hp} {i : Nat} {rA pS D1 D2 : Addr} {G SG : List (Nat × V)} {es1 es2 : List (Nat × Addr × V)} {tx : Nat → Str} (f : LJ P w K p c H0 H (i + 1) rA pS D1 D2 G SG es1 es2 tx) (hl : ∀ k ∈ es2.map (·.1), k < i) {a : Addr} (ha : Dp K H (.ref a) (encL i)) :
    LJ P w K p c H0 (upd H D2 (dNO ktL P w D2 (GX.dSt es2 i a (.bl true)))) (i + 1) rA pS D1 D2 G SG es1 (GX.dSt es2 i a (.bl true)) tx := by
  have t := ts_dict (K := K) (o := dNO ktL P w D2 (GX.dSt es2 i a (.bl true))) f.a2
  have nr : rA ≠ D2 := fun e => by have := f.r; rw [e, f.a2] at this; cases this
  have ns : pS ≠ D2 := fun e => by have := f.s; rw [e, f.a2] at this; cases this
  have nk : i ∉ es2.map (·.1) := fun h => Nat.lt_irrefl _ (hl i h)
  refine ⟨f.dr.own f.n4, f.n1, f.n2, f.n3, f.n4, f.ne, (upd_ne nr).trans f.r, f.lr.ts t, (upd_ne ns).trans f.s, f.ls.ts t, (upd_ne f.ne).trans f.a1, f.k1.ts t, f.m1, f.v1, upd_same, (GX.st_keys f.k2 ha).ts t, ?_, fun k hk => ?_, fun e he => ?_⟩
  · rw [dst_keys, if_neg nk, List.pairwise_append]
    exact ⟨f.m2, by simp, fun x hx y hy => by rw [List.mem_singleton.mp hy]; exact hl x hx⟩
  · rw [dst_keys, if_neg nk] at hk
    rcases List.mem_append.mp hk with h | h
    · exact f.l2 k h
    · rw [List.mem_singleton.mp h]
      exact Nat.lt_succ_self _
  · rcases dst_mem he with ⟨_, h⟩ | ⟨h, _⟩
    · exact h
    · exact f.v2 e h
theorem PJ.ts {H H' : Hp} {n m : Nat} {pl : Addr} {PS : List (Pr × V)} (f : PJ K H n m pl PS) (h : H' pl = H pl) (t : TSt K H H') : PJ K H' n m pl PS := ⟨h.trans f.hp, f.pa.ts t, f.ln, f.lt⟩
/-- a pair more -/
theorem PJ.app {H : Hp} {n m : Nat} {pl : Addr} {PS : List (Pr × V)} (f : PJ K H n m pl PS) {a b t : Addr} {i j : Nat} (ht : SqT K H t [.ref a, .ref b]) (ha : Dp K H (.ref a) (encL i)) (hb : Dp K H (.ref b) (encL j)) (hi : i < n) (hj : j < n) : PJ K (upd H pl (.lst (PS.map (·.2) ++ [V.ref t]))) n (m + 1) pl (PS ++ [((i, j), V.ref t)]) := by
  have tt := ts_lst (K := K) (o := .lst (PS.map (·.2) ++ [V.ref t])) f.hp
  refine ⟨by rw [upd_same, List.map_append]; rfl, fun e he => ?_, by rw [List.length_append]; exact Nat.succ_le_succ f.ln, fun e he => ?_⟩
  · rcases List.mem_append.mp he with he | he
    · exact (f.pa.ts tt) e he
    · rw [List.mem_singleton.mp he]
      exact ⟨t, a, b, rfl, sq_ts tt ht, ln_ts tt ha, ln_ts tt hb⟩
  · rcases List.mem_append.mp he with he | he
    · exact f.lt e he
    · rw [List.mem_singleton.mp he]
      exact ⟨hi, hj⟩
theorem plain_P (q : Pr) : (encP q).plain = true := by
  unfold encP
  simp [PyData.plain, PyData.plainAll, plain_L]
theorem plain_Ps : ∀ PS : List (Pr × V), PyData.plainAll (PS.map fun e => encP e.1) = true
  | [] => rfl
  | e :: PS => by
    rw [List.map_cons, PyData.plainAll, plain_P, plain_Ps PS]
    rfl
theorem dpAll_P {H : Hp} : ∀ {PS : List (Pr × V)}, PAt K H PS → DpAll K H (PS.map (·.2)) (PS.map fun e => encP e.1)
  | [], _ => .nil
  | e :: PS, h => .cons (h.dp List.mem_cons_self) (dpAll_P fun x hx => h x (List.mem_cons_of_mem _ hx))
def spGR (P : Program) (w : World) (K : PySem.W.Frag) : Sp := fun vs H Q _ => ∃ (p c : Addr), vs = [.ref p] ∧ StateAt H p c ∧
  ∀ (H' : Hp) (t dl dp pl : Addr) (esl esp : List (Nat × Addr × V)) (PS : List (Pr × V)) (n : Nat) (tx : Nat → Str), (∀ b o, b ≠ p → b ≠ c → H b = some o → H' b = some o) → SqT K H' t [.ref dl, .ref dp, .ref pl] → n ≤ 10 →
    H' dl = some (dNO ktL P w dl esl) → KeysAt ktL K H' esl → esl.map (·.1) = List.range n → (∀ e ∈ esl, e.2.2 = .str (tx e.1)) →
    H' dp = some (dNO ktL P w dp esp) → KeysAt ktL K H' esp → (esp.map (·.1)).Pairwise (· < ·) → (∀ k ∈ esp.map (·.1), k < n) → (∀ e ∈ esp, e.2.2 = .bl true) → PJ K H' n 60 pl PS → Q (.ref t) H'
theorem ok_GR {f fD fP : Addr} {fd fdD fdP : FuncData} (F : Fun K "_law_graph" "_law_graph" sGR f fd)
    (GD : FnOk P w K mg base CX0 1 fD fdD ["state", "many"] spDraw) (bD : Binds K fdD ["state", "many"] []) (gD : mg "_law_draw" = some (.ref fD)) (kD : PySem.W.keepIn K (.ref fD) = true)
    (GP : FnOk P w K mg base CX0 2 fP fdP ["state", "row"] spPick) (bP : Binds K fdP ["state", "row"] []) (gP : mg "_law_pick" = some (.ref fP)) (kP : PySem.W.keepIn K (.ref fP) = true)
    (m_len : mg "len" = none) (m_range : mg "range" = none) (m_sorted : mg "sorted" = none) : FnOk P w K mg base CX0 3 f fd ["state"] (spGR P w K) := by
  refine F.ok scGR (fun vs H Q E h => ?_) (fun cdv A outer s H vs Q E hr h => ?_)
  · obtain ⟨p, c, rfl, _⟩ := h
    rfl
  · obtain ⟨p, c, rfl, st, q⟩ := h
    have hu := hr.units
    have hu1 := hu_of hr
    have hr1 : Room 1 _ := hr.mono (by decide)
    have hr2 : Room 2 _ := hr.mono (by decide)
    have zl := zl
    refine ⟨_, (pss_cons (ps_set (i := 1) scGR.nd rfl (.inr rfl) (pe_tup (pa_cons (pe_tup (pa_cons (pe_str) (pa_cons (pe_int) (pa_cons (pe_tup (pa_nil)) pa_nil)))) (pa_cons (pe_str) (pa_cons (pe_int) pa_nil)))))
      (pss_cons (ps_set (i := 2) scGR.nd rfl (.inl rfl) (pe_call GD hr1 (by rfl) gD kD bD .nil pass0 (pa_cons (pv 0) (pa_cons (pe_int) pa_nil))))
      (pss_cons (ps_setLc (i := 4) (own := [("k", 3)]) (g := gName 3) (tt := tYes) (te := tTup (tCons (tVar 1) (tCons (tC (.int 1)) (tCons (tVar 3) tNil)))) rfl scGR.nd rfl rfl (sw_true rfl rfl rfl (by decide +kernel)) (pi_range1 (by rfl) m_range (pa_cons (pv 2) pa_nil)) (blkOk_by (N := nGR) (sc := defScope sGR) (by decide +kernel)) (fun _ _ _ _ _ => by exact pg_name (i := 3) scGR.nd rfl (.inl rfl)) (fun _ _ _ _ _ => pts_nil) (fun _ _ _ _ _ => by exact pe_tup (pa_cons (pv 1) (pa_cons (pe_int) (pa_cons (pv 3) pa_nil)))))
      (pss_cons (ps_set (i := 5) scGR.nd rfl (.inl rfl) (pe_lst (pa_nil)))
      (pss_cons (ps_for PassesOwn.never rfl (pi_range1 (by rfl) m_range (pa_cons (pv 2) pa_nil)) (pg_name (i := 3) scGR.nd rfl (.inl rfl))
      (pss_one (ps_expr (pe_bm PySem.F.plainAttrs_list PySem.F.slot_list_append PySem.F.type_list_append mt_append (pv 5) (pa_cons (pe_bm PySem.F.plainAttrs_list PySem.F.slot_list_pop PySem.F.type_list_pop mt_popAt (pv 4) (pa_cons (pe_call GD hr1 (by rfl) gD kD bD .nil pass0 (pa_cons (pv 0) (pa_cons (pe_callB call_len_seq (by rfl) m_len PySem.boot_len (pa_cons (pv 4) pa_nil)) pa_nil))) pa_nil)) pa_nil)))))
      (pss_cons (ps_set (i := 6) scGR.nd rfl (.inl rfl) ((GX.pe_dnewN (T := ktL))))
      (pss_cons (ps_set (i := 7) scGR.nd rfl (.inl rfl) ((GX.pe_dnewN (T := ktL))))
      (pss_cons (ps_for PassesOwn.never rfl (pi_list (pe_callB (GX.cr_sortedD hu) (by rfl) m_sorted (by decide +kernel) (pa_cons (pv 5) pa_nil))) (pg_name (i := 8) scGR.nd rfl (.inl rfl))
      (pss_cons (ps_asg (pe_call GP hr2 (by rfl) gP kP bP .nil pass0 (pa_cons (pv 0) (pa_cons (pe_lst (pa_cons (pe_str) (pa_cons (pe_str) (pa_cons (pe_str) (pa_cons (pe_str) pa_nil))))) pa_nil))) (pg_sub (pv 6) (pv 8) (GX.set_N (T := ktL) hu)))
      (pss_one (ps_if (pt_cmpR op_gt (pe_call GD hr1 (by rfl) gD kD bD .nil pass0 (pa_cons (pv 0) (pa_cons (pe_int) pa_nil))) (pe_int) (nomark _))
      (pss_one (ps_asg (pe_bl) (pg_sub (pv 7) (pv 8) (GX.set_N (T := ktL) hu)))) pss_nil))))
      (pss_cons (ps_set (i := 9) scGR.nd rfl (.inl rfl) (pe_lst (pa_nil)))
      (pss_cons (ps_for PassesOwn.never rfl (pi_range1 (by rfl) m_range (pa_cons (pe_call GD hr1 (by rfl) gD kD bD .nil pass0 (pa_cons (pv 0) (pa_cons (pe_op op_add (pe_op op_mul (pe_int) (pv 2)) (pe_int)) pa_nil))) pa_nil)) (pg_name (i := 3) scGR.nd rfl (.inl rfl))
      (pss_cons (ps_par (i := 10) (j := 11) (by rfl) scGR.nd rfl rfl (by decide) rfl rfl (pa_cons (pe_call GD hr1 (by rfl) gD kD bD .nil pass0 (pa_cons (pv 0) (pa_cons (pv 2) pa_nil))) (pa_cons (pe_call GD hr1 (by rfl) gD kD bD .nil pass0 (pa_cons (pv 0) (pa_cons (pv 2) pa_nil))) pa_nil)) (by rfl))
      (pss_cons (ps_if (PW.pt (pw_and (pt_cmpR op_gt (pv 10) (pv 11) (nomark _)) (pw_and1 (pt_cmpR op_gt (pe_call GD hr1 (by rfl) gD kD bD .nil pass0 (pa_cons (pv 0) (pa_cons (pe_int) pa_nil))) (pe_int) (nomark _)))))
      (pss_one (ps_par (i := 10) (j := 11) (by rfl) scGR.nd rfl rfl (by decide) rfl rfl (pa_cons (pv 11) (pa_cons (pv 10) pa_nil)) (by rfl))) pss_nil)
      (pss_one (ps_if (PW.pt (pw_and (pt_cmpR op_ne (pv 10) (pv 11) (nomark _)) (pw_and1 (pt_cmpR (GX.op_notInP hu) (pe_tup (pa_cons (pe_ix ix_list (pv 5) (pv 10) (fun _ _ => rfl)) (pa_cons (pe_ix ix_list (pv 5) (pv 11) (fun _ _ => rfl)) pa_nil))) (pv 9) (by rfl)))))
      (pss_one (ps_expr (pe_bm PySem.F.plainAttrs_list PySem.F.slot_list_append PySem.F.type_list_append mt_append (pv 9) (pa_cons (pe_tup (pa_cons (pe_ix ix_list (pv 5) (pv 10) (fun _ _ => rfl)) (pa_cons (pe_ix ix_list (pv 5) (pv 11) (fun _ _ => rfl)) pa_nil))) pa_nil)))) pss_nil)))))
      (pss_cons (ps_if (pt_cmpR op_eq (pe_call GD hr1 (by rfl) gD kD bD .nil pass0 (pa_cons (pv 0) (pa_cons (pe_int) pa_nil))) (pe_int) (nomark _))
      (pss_one (ps_for PassesOwn.never rfl (pi_range1 (by rfl) m_range (pa_cons (pe_op op_sub (pv 2) (pe_int)) pa_nil)) (pg_name (i := 3) scGR.nd rfl (.inl rfl))
      (pss_one (ps_if (PW.pt (pw_and (pt_cmpR (GX.op_notInP hu) (pe_tup (pa_cons (pe_ix ix_list (pv 5) (pv 3) (fun _ _ => rfl)) (pa_cons (pe_ix ix_list (pv 5) (pe_op op_add (pv 3) (pe_int)) (fun _ _ => rfl)) pa_nil))) (pv 9) (by rfl)) (pw_and1 (pt_cmpR op_gt (pe_call GD hr1 (by rfl) gD kD bD .nil pass0 (pa_cons (pv 0) (pa_cons (pe_int) pa_nil))) (pe_int) (nomark _)))))
      (pss_one (ps_expr (pe_bm PySem.F.plainAttrs_list PySem.F.slot_list_append PySem.F.type_list_append mt_append (pv 9) (pa_cons (pe_tup (pa_cons (pe_ix ix_list (pv 5) (pv 3) (fun _ _ => rfl)) (pa_cons (pe_ix ix_list (pv 5) (pe_op op_add (pv 3) (pe_int)) (fun _ _ => rfl)) pa_nil))) pa_nil)))) pss_nil)))) pss_nil)
      (pss_one (ps_ret (pe_tup (pa_cons (pv 6) (pa_cons (pv 7) (pa_cons (pv 9) pa_nil))))))))))))))))), ?_⟩
    have d0 : Dr p c H H := ⟨st, st, fun _ _ _ _ e => e⟩
    refine ⟨Nat.zero_le _, fun t1 n1 => ⟨by show 3 ≤ sizeLine; omega, fun t2 n2 => ⟨by show 3 ≤ sizeLine; omega, fun t3 n3 => ?_⟩⟩⟩
    have sN := same_trans (same_trans (same_new (o := .tup []) n1) (same_new (o := .tup [.str "label", .int 0, .ref t1]) n2)) (same_new (o := .tup [.ref t2, .str "ann", .int 1]) n3)
    have d1 := ((d0.new (o := .tup []) n1).new (o := .tup [.str "label", .int 0, .ref t1]) n2).new (o := .tup [.ref t2, .str "ann", .int 1]) n3
    have hnm : Dp K (upd (upd (upd H t1 (.tup [])) t2 (.tup [.str "label", .int 0, .ref t1])) t3 (.tup [.ref t2, .str "ann", .int 1])) (.ref t3) nmD :=
      .tup (SqT.of upd_same) (.cons (.tup (SqT.of (same_new n3 _ _ upd_same)) (.cons (.str _) (.cons (.int _) (.cons (.tup (SqT.of (same_new n3 _ _ (same_new n2 _ _ upd_same))) .nil) .nil)))) (.cons (.str _) (.cons (.int _) .nil)))
    generalize upd (upd (upd H t1 (.tup [])) t2 (.tup [.str "label", .int 0, .ref t1])) t3 (.tup [.ref t2, .str "ann", .int 1]) = H1 at d1 hnm
    refine ⟨_, rfl, p, c, 11, rfl, by decide, d1.st, fun H2 n _ hn st2 dr2 => ?_⟩
    have hn11 := hn (by decide)
    have d2 := d1.draw st2 dr2
    have hnm2 := GX.Dp.tst (ts_drawn (K := K) d1.st dr2) nmD _ (by decide +kernel) hnm
    -- order
    refine ⟨_, rfl, _, rfl, by omega, by omega, fun oA noA => ?_⟩
    refine lc_it (walk_range (lo := 0) (n := ((n : Int)).toNat)) (fun m H' => Dr p c H H' ∧ Dp K H' (.ref t3) nmD ∧ ∃ F : List (Nat × V), H' oA = some (.lst (F.map (·.2))) ∧ LAt K H' F ∧ F.map (·.1) = List.range m) ⟨d2.new noA, GX.Dp.tst (ts_new noA) nmD _ (by decide +kernel) hnm2, [], upd_same, (fun _ h => nomatch h), rfl⟩ (fun _ _ _ _ => trivial) ?_ ?_
    · rintro m x H3 H3' hm ⟨d3, hnm3, F, eo, hF, eF⟩ ⟨rfl, rfl⟩
      have lF : F.length = m := by
        have := congrArg List.length eF
        rwa [List.length_map, List.length_range] at this
      refine ⟨rfl, _, rfl, _, rfl, by show 3 ≤ sizeLine; omega, fun t nt => ⟨_, same_new nt _ _ eo, by rw [List.length_map]; omega, ?_⟩⟩
      have t3' := ts_new (K := K) (o := .tup [.ref t3, .int 1, .int (0 + (m : Int))]) nt
      have eo' := same_new (o := .tup [.ref t3, .int 1, .int (0 + (m : Int))]) nt _ _ eo
      have t4' := t3'.trans (ts_lst (o := .lst (F.map (·.2) ++ [V.ref t])) eo')
      have noH : H oA = none := d2.none noA
      refine ⟨(d3.new nt).own noH, GX.Dp.tst t4' nmD _ (by decide +kernel) hnm3, F ++ [(m, V.ref t)], by rw [upd_same, List.map_append]; rfl, fun e he => ?_, by rw [List.map_append, eF, List.range_succ]; rfl⟩
      rcases List.mem_append.mp he with he | he
      · exact ln_ts t4' (hF e he)
      · rw [List.mem_singleton.mp he]
        refine ln_ts (ts_lst eo') ?_
        unfold encL
        refine .tup (SqT.of upd_same) (.cons (GX.Dp.tst t3' nmD _ (by decide +kernel) hnm3) (.cons (.int _) (.cons ?_ .nil)))
        show Dp K _ (V.int (0 + (m : Int))) (.int (m : Int))
        rw [Int.zero_add]
        exact .int _
    rintro H3 ⟨d3, _, F, eo, hF, eF⟩
    rw [Int.toNat_natCast] at eF
    have noH : H oA = none := d2.none noA
    -- row
    refine ⟨Nat.zero_le _, fun rA nrA => ?_⟩
    have nrH : H rA = none := d3.none nrA
    have nor : oA ≠ rA := fun e => by rw [e, nrA] at eo; cases eo
    refine ⟨_, rfl, _, rfl, by omega, by omega, ?_⟩
    refine for_it (walk_range (lo := 0) (n := ((n : Int)).toNat)) (fun i σ H' => ∃ (y3 : Option V) (F G : List (Nat × V)), σ = [some (.ref p), some (.ref t3), some (.int (n : Int)), y3, some (.ref oA), some (.ref rA), none, none, none, none, none, none] ∧ Dr p c H H' ∧ H' oA = some (.lst (F.map (·.2))) ∧ H' rA = some (.lst (G.map (·.2))) ∧ LAt K H' F ∧ LAt K H' G ∧ ((F ++ G).map (·.1)).Perm (List.range n) ∧ F.length + i = n ∧ G.length = i)
      ⟨_, F, [], rfl, d3.new nrA, (upd_ne nor).trans eo, upd_same, hF.ts (ts_new nrA), (fun _ h => nomatch h), by rw [List.append_nil, eF], by have := congrArg List.length eF; rw [List.length_map, List.length_range] at this; simpa using this, rfl⟩ (fun _ _ _ _ _ => trivial) ?_ ?_
    · rintro i x σ H4 H4' hi ⟨y3, F, G, rfl, d4, eo4, er4, hF4, hG4, pm, l1, l2⟩ ⟨rfl, rfl⟩
      rw [Int.toNat_natCast] at hi
      refine ⟨_, rfl, .inl ⟨rfl, _, SqL.of er4⟩, _, rfl, .inl ⟨rfl, _, SqL.of eo4⟩, _, rfl, _, rfl, oA, _, rfl, .inl (SqL.of eo4), p, c, F.length, by rw [List.length_map]; rfl, by omega, d4.st, fun H5 r _ hr5 st5 dr5 => ?_⟩
      have hr := hr5 (by omega)
      obtain ⟨np1, np2⟩ := d4.np noH
      obtain ⟨nq1, nq2⟩ := d4.np nrH
      have d5 := d4.draw st5 dr5
      have eo5 := (dr5 oA np1 np2).trans eo4
      have er5 := (dr5 rA nq1 nq2).trans er4
      have t5 := ts_drawn (K := K) d4.st dr5
      have eA := List.getElem?_eq_getElem hr
      refine ⟨oA, _, _, r, (F[r]).2, rfl, rfl, eo5, by omega, by omega, by rw [List.length_map]; exact seq_nat hr, get_map (·.2) eA, ?_⟩
      have er6 : upd H5 oA (.lst ((F.map (·.2)).eraseIdx r)) rA = some (.lst (G.map (·.2))) := (upd_ne (Ne.symm nor)).trans er5
      have t6 := t5.trans (ts_lst (o := .lst ((F.map (·.2)).eraseIdx r)) eo5)
      have t7 := t6.trans (ts_lst (o := .lst (G.map (·.2) ++ [(F[r]).2])) er6)
      have emap : (F.map (·.2)).eraseIdx r = (F.eraseIdx r).map (·.2) := map_erase _ F r
      refine ⟨rA, _, _, rfl, rfl, er6, by rw [List.length_map]; omega, _, F.eraseIdx r, G ++ [F[r]], rfl, (d5.own noH).own nrH, ?_, by rw [upd_same, List.map_append]; rfl, fun e he => ?_, fun e he => ?_, ?_, ?_, by rw [List.length_append, l2]; rfl⟩
      · rw [upd_ne nor, upd_same, emap]
      · exact ln_ts t7 (hF4 e (List.mem_of_mem_eraseIdx he))
      · rcases List.mem_append.mp he with he | he
        · exact ln_ts t7 (hG4 e he)
        · rw [List.mem_singleton.mp he]
          exact ln_ts t7 (hF4 _ (List.getElem_mem hr))
      · exact ((pop_perm F G r hr).map _).trans pm
      · rw [List.length_eraseIdx, if_pos hr]
        omega
    · rintro σ H4 ⟨y3, F4, G, rfl, d4, eo4, er4, hF4, hG4, pm, l1, l2⟩
      rw [Int.toNat_natCast] at l1 l2
      have eF4 : F4 = [] := List.length_eq_zero_iff.mp (by omega)
      subst eF4
      rw [List.nil_append] at pm
      refine fun D1 nD1 => fun D2 nD2 => ?_
      have s4 := same_trans (same_new (o := dNO ktL P w D1 []) nD1) (same_new (o := dNO ktL P w D2 []) nD2)
      have eD1 : upd (upd H4 D1 (dNO ktL P w D1 [])) D2 (dNO ktL P w D2 []) D1 = some (dNO ktL P w D1 []) := same_new nD2 _ _ upd_same
      have eD2 : upd (upd H4 D1 (dNO ktL P w D1 [])) D2 (dNO ktL P w D2 []) D2 = some (dNO ktL P w D2 []) := upd_same
      have d5 := (d4.new (o := dNO ktL P w D1 []) nD1).new (o := dNO ktL P w D2 []) nD2
      have ne12 : D1 ≠ D2 := fun e => by rw [← e, upd_same] at nD2; cases nD2
      have nH1 := d4.none nD1
      have nH2 := (d4.new (o := dNO ktL P w D1 []) nD1).none nD2
      have er5 := s4 _ _ er4
      have hG5 := hG4.ts (ts_same (K := K) s4)
      obtain ⟨al, so⟩ := able_L (fun e : Nat × V => e.1) G
      have dpk : ∀ k, (encL k).depth ≤ 60 := fun k => Nat.le_trans (ktL.dp k) (by decide)
      refine ⟨_, rfl, rA, G.map (fun e : Nat × V => e.2), Nat × V, G, fun e => encL e.1, fun v e => v = e.2 ∧ e ∈ G, rfl, SqL.of er5, each_ps G (fun _ h => h), fun v b hb => by rw [hb.1]; exact hG5 _ hb.2, al, so, fun b _ => dpk b.1, fun ys pS hys npS => ?_⟩
      have ey := ps_each hys
      subst ey
      have eS : (G.mergeSort (dataLe false fun e : Nat × V => encL e.1)).map (·.1) = List.range n := by
        rw [← sort_range pm]
        exact List.map_mergeSort fun a _ b _ => by rw [PySem.W.dataLe_eq, PySem.W.dataLe_eq]
      have hSG : ∀ e ∈ G.mergeSort (dataLe false fun e : Nat × V => encL e.1), e ∈ G := fun e he => List.mem_mergeSort.mp he
      have sS := same_new (o := .lst ((G.mergeSort (dataLe false fun e : Nat × V => encL e.1)).map (·.2))) npS
      have d6 := d5.new (o := .lst ((G.mergeSort (dataLe false fun e : Nat × V => encL e.1)).map (·.2))) npS
      have nHS := d5.none npS
      generalize G.mergeSort (dataLe false fun e : Nat × V => encL e.1) = SG at eS hSG sS d6
      have f0 : LJ P w K p c H (upd (upd (upd H4 D1 (dNO ktL P w D1 [])) D2 (dNO ktL P w D2 [])) pS (.lst (SG.map (·.2)))) 0 rA pS D1 D2 G SG [] [] (fun _ => "") :=
        ⟨d6, nrH, nHS, nH1, nH2, ne12, sS _ _ er5, hG5.ts (ts_same sS), upd_same, fun e he => ln_ts (ts_same sS) (hG5 e (hSG e he)), sS _ _ eD1, (fun _ h => nomatch h), rfl, (fun _ h => nomatch h), sS _ _ eD2, (fun _ h => nomatch h), List.Pairwise.nil, (fun _ h => nomatch h), (fun _ h => nomatch h)⟩
      have lSG : SG.length = n := by
        have := congrArg List.length eS
        rwa [List.length_map, List.length_range] at this
      refine ⟨pS, rfl, ⟨_, SqL.of upd_same⟩, ?_⟩
      refine for_list (xs := SG.map (·.2)) (fun i σ H' => ∃ (y3 y8 : Option V) (es1 es2 : List (Nat × Addr × V)) (tx : Nat → Str), σ = [some (.ref p), some (.ref t3), some (.int (n : Int)), y3, some (.ref oA), some (.ref rA), some (.ref D1), some (.ref D2), y8, none, none, none] ∧ LJ P w K p c H H' i rA pS D1 D2 G SG es1 es2 tx)
        ⟨_, none, [], [], _, rfl, f0⟩ ?_ ?_ ?_
      · rintro i σ H' _ ⟨_, _, _, _, _, _, f⟩
        exact SqL.of f.s
      · rintro i x σ H7 hx ⟨y3, y8, es1, es2, tx, rfl, f⟩
        obtain ⟨⟨k, v⟩, gx, rfl⟩ := map_get hx
        have hi : i < n := by rw [← lSG]; exact (List.getElem?_eq_some_iff.mp gx).1
        have ki : k = i := by
          have := get_map (·.1) gx
          rw [eS, List.getElem?_range hi] at this
          exact (Option.some.inj this).symm
        subst ki
        have hk := f.ls _ (List.mem_of_getElem? gx)
        obtain ⟨a, ea⟩ := ln_ref hk
        simp only at ea hk
        subst ea
        have le1 : es1.length = k := by
          have := congrArg List.length f.m1
          rwa [List.length_map, List.length_range] at this
        have le2 : es2.length ≤ k := by
          have nd : (es2.map (·.1)).Nodup := f.m2.imp fun h => Nat.ne_of_lt h
          have := nat_nodup_len nd (m := List.range k) fun x hx => List.mem_range.mpr (f.l2 x hx)
          rwa [List.length_map, List.length_range] at this
        refine ⟨_, rfl, by show 4 ≤ sizeLine; omega, fun L nL => ?_⟩
        have fL := f.same (f.dr.new (o := .lst [.str "a", .str "b", .str "c", .str "d"]) nL) (same_new nL)
        obtain ⟨nL1, nL2⟩ := f.dr.np (f.dr.none nL)
        refine ⟨p, c, L, [.str "a", .str "b", .str "c", .str "d"], rfl, upd_same, nL1, nL2, by decide, by decide, fL.dr.st, fun H8 v hv st8 dr8 => ?_⟩
        obtain ⟨x, rfl⟩ : ∃ x : Str, v = .str x := by
          rcases List.mem_cons.mp hv with h | hv
          · exact ⟨_, h⟩
          · rcases List.mem_cons.mp hv with h | hv
            · exact ⟨_, h⟩
            · rcases List.mem_cons.mp hv with h | hv
              · exact ⟨_, h⟩
              · exact ⟨_, List.mem_singleton.mp hv⟩
        have f8 := fL.draw st8 dr8
        have hk8 := f8.ls _ (List.mem_of_getElem? gx)
        simp only at hk8
        refine ⟨_, rfl, _, rfl, D1, a, es1, k, rfl, rfl, f8.a1, f8.k1, hk8, by omega, ?_⟩
        have f9 := f8.put1 hk8 x
        refine ⟨_, rfl, p, c, 5, rfl, by decide, f9.dr.st, fun H9 r _ _ st9 dr9 => ?_⟩
        have fA := f9.draw st9 dr9
        refine ⟨_, _, rfl, rfl, _, rfl, ite2 (fun c1 => ?_) (fun c1 => ?_)⟩
        · have hkA := fA.ls _ (List.mem_of_getElem? gx)
          simp only at hkA
          exact ⟨_, rfl, _, rfl, D2, a, es2, k, rfl, rfl, fA.a2, fA.k2, hkA, by omega, _, _, _, _, _, rfl, fA.put2 f.l2 hkA⟩
        · exact ⟨_, _, _, _, _, rfl, fA⟩
      · rintro σ H7 ⟨y3, y8, es1, es2, tx, rfl, f⟩
        rw [List.length_map, lSG] at f
        have lG : G.length = n := l2
        have gk : ∀ i, i < n → ∃ (a : Addr) (k : Nat), G[i]? = some (k, .ref a) ∧ k < n := fun i hi => by
          have h1 : G[i]? = some G[i] := List.getElem?_eq_getElem (by omega)
          have hm := List.mem_of_getElem? h1
          obtain ⟨a, ea⟩ := ln_ref (f.lr _ hm)
          refine ⟨a, (G[i]).1, by rw [h1]; rw [← ea], ?_⟩
          exact List.mem_range.mp (pm.mem_iff.mp (List.mem_map.mpr ⟨_, hm, rfl⟩))
        refine ⟨Nat.zero_le _, fun pl npl => ?_⟩
        have nHp := f.dr.none npl
        obtain ⟨npl1, npl2⟩ := f.dr.np nHp
        have nrp : rA ≠ pl := fun e => by have := f.r; rw [e, npl] at this; cases this
        have nsp : pS ≠ pl := fun e => by have := f.s; rw [e, npl] at this; cases this
        have f1 := f.same (f.dr.new (o := .lst []) npl) (same_new npl)
        have p1 : PJ K (upd H7 pl (.lst [])) n 0 pl [] := ⟨upd_same, (fun _ h => nomatch h), Nat.le_refl _, (fun _ h => nomatch h)⟩
        refine ⟨_, rfl, _, rfl, _, _, rfl, rfl, .inl (by decide), _, _, rfl, rfl, p, c, 2 * n + 1, by rw [show ((2 * n + 1 : Nat) : Int) = 2 * (n : Int) + 1 from by omega]; rfl, by omega, f1.dr.st, fun H8 r _ hr st8 dr8 => ?_⟩
        have hr8 := hr (by omega)
        have f8 := f1.draw st8 dr8
        have p8 := p1.ts (dr8 pl npl1 npl2) (ts_drawn (K := K) f1.dr.st dr8)
        refine ⟨_, rfl, by omega, by omega, ?_⟩
        refine for_it (walk_range (lo := 0) (n := ((r : Int)).toNat)) (fun i σ H' => ∃ (y3 y10 y11 : Option V) (PS : List (Pr × V)), σ = [some (.ref p), some (.ref t3), some (.int (n : Int)), y3, some (.ref oA), some (.ref rA), some (.ref D1), some (.ref D2), y8, some (.ref pl), y10, y11] ∧ LJ P w K p c H H' n rA pS D1 D2 G SG es1 es2 tx ∧ PJ K H' n i pl PS)
          ⟨_, none, none, [], rfl, f8, p8⟩ (fun _ _ _ _ _ => trivial) ?_ ?_
        · rintro i x σ H9 H9' hi ⟨y3, y10, y11, PS, rfl, f9, p9⟩ ⟨rfl, rfl⟩
          rw [Int.toNat_natCast] at hi
          have n0 : 0 < n := by omega
          refine ⟨_, rfl, _, rfl, p, c, n, rfl, by omega, f9.dr.st, fun HA a _ ha stA drA => ⟨_, rfl, _, rfl, p, c, n, rfl, by omega, stA, fun HB b _ hb stB drB => ⟨_, _, rfl, ?_⟩⟩⟩
          have fA := f9.draw stA drA
          have pA := p9.ts (drA pl npl1 npl2) (ts_drawn (K := K) f9.dr.st drA)
          have fB := fA.draw stB drB
          have pB := pA.ts (drB pl npl1 npl2) (ts_drawn (K := K) fA.dr.st drB)
          dsimp only
          refine tseq_intro (fun σ' H' => ∃ a b : Nat, σ' = [some (.ref p), some (.ref t3), some (.int (n : Int)), some (.int (0 + (i : Int))), some (.ref oA), some (.ref rA), some (.ref D1), some (.ref D2), y8, some (.ref pl), some (.int (a : Int)), some (.int (b : Int))] ∧ a < n ∧ b < n ∧ LJ P w K p c H H' n rA pS D1 D2 G SG es1 es2 tx ∧ PJ K H' n i pl PS) ?_ ?_
          · rintro σ' HC ⟨a, b, rfl, ha, hb, fC, pC⟩
            obtain ⟨aa, ka, ga, hka⟩ := gk a ha
            obtain ⟨ab, kb, gb, hkb⟩ := gk b hb
            have da := fC.lr _ (List.mem_of_getElem? ga)
            have db := fC.lr _ (List.mem_of_getElem? gb)
            simp only at da db
            refine ⟨_, rfl, _, rfl, rfl, _, rfl, ite2 (fun c1 => ?_) (fun c1 => ?_)⟩
            · refine ⟨_, rfl, _, rfl, rA, _, _, _, rfl, rfl, SqL.of fC.r, atI_nat (get_map (·.2) ga), _, rfl, _, rfl, rA, _, _, _, rfl, rfl, SqL.of fC.r, atI_nat (get_map (·.2) gb), by show 2 ≤ sizeLine; omega, fun t nt => ?_⟩
              have sT := same_new (o := .tup [.ref aa, .ref ab]) nt
              have fD := fC.same (fC.dr.new nt) sT
              have pD := pC.ts (sT _ _ pC.hp |>.trans pC.hp.symm) (ts_same (K := K) sT)
              refine ⟨_, rfl, PS.map (fun e : Pr × V => encP e.1), encP (ka, kb), .lst (SqL.of pD.hp) (dpAll_P pD.pa), .tup (SqT.of upd_same) (.cons (ln_ts (ts_same sT) da) (.cons (ln_ts (ts_same sT) db) .nil)), plain_Ps PS, plain_P _, dep_P _, _, rfl, ite2 (fun c2 => ?_) (fun c2 => ?_)⟩
              · refine ⟨_, rfl, .inl ⟨rfl, _, SqL.of pD.hp⟩, _, rfl, _, rfl, rA, _, _, _, rfl, rfl, SqL.of fD.r, atI_nat (get_map (·.2) ga), _, rfl, _, rfl, rA, _, _, _, rfl, rfl, SqL.of fD.r, atI_nat (get_map (·.2) gb), by show 2 ≤ sizeLine; omega, fun t2 nt2 => ?_⟩
                have sU := same_new (o := .tup [.ref aa, .ref ab]) nt2
                have fE := fD.same (fD.dr.new nt2) sU
                have pE := pD.ts (sU _ _ pD.hp |>.trans pD.hp.symm) (ts_same (K := K) sU)
                refine ⟨pl, _, _, rfl, rfl, pE.hp, by rw [List.length_map]; have := pE.ln; omega, _, _, _, PS ++ [((ka, kb), V.ref t2)], rfl, ?_, ?_⟩
                · exact fE.own pE.hp nHp nrp nsp
                · exact pE.app (SqT.of upd_same) (ln_ts (ts_same (same_trans sT sU)) da) (ln_ts (ts_same (same_trans sT sU)) db) hka hkb
              · exact ⟨_, _, _, PS, rfl, fD, ⟨pD.hp, pD.pa, Nat.le_succ_of_le pD.ln, pD.lt⟩⟩
            · exact ⟨_, _, _, PS, rfl, fC, ⟨pC.hp, pC.pa, Nat.le_succ_of_le pC.ln, pC.lt⟩⟩
          · intro N hN
            refine ⟨_, rfl, _, rfl, _, _, rfl, rfl, _, rfl, ite2 (fun c1 => ?_) (fun c1 => ?_)⟩
            · refine ⟨_, rfl, p, c, 6, rfl, by decide, fB.dr.st, fun HC r2 _ _ stC drC => ?_⟩
              have fC := fB.draw stC drC
              have pC := pB.ts (drC pl npl1 npl2) (ts_drawn (K := K) fB.dr.st drC)
              refine ⟨_, _, rfl, rfl, _, rfl, ite2 (fun c2 => ?_) (fun c2 => ?_)⟩
              · exact ⟨_, rfl, _, rfl, _, _, rfl, hN _ _ ⟨b, a, rfl, hb n0, ha n0, fC, pC⟩⟩
              · exact hN _ _ ⟨a, b, rfl, ha n0, hb n0, fC, pC⟩
            · exact hN _ _ ⟨a, b, rfl, ha n0, hb n0, fB, pB⟩
        · rintro σ H9 ⟨y3, y10, y11, PS, rfl, f9, p9⟩
          rw [Int.toNat_natCast] at p9
          dsimp only
          refine tseq_intro (fun σ' H' => ∃ (y3 y10 y11 : Option V) (PS : List (Pr × V)), σ' = [some (.ref p), some (.ref t3), some (.int (n : Int)), y3, some (.ref oA), some (.ref rA), some (.ref D1), some (.ref D2), y8, some (.ref pl), y10, y11] ∧ LJ P w K p c H H' n rA pS D1 D2 G SG es1 es2 tx ∧ PJ K H' n 60 pl PS) ?_ ?_
          · rintro σ' HA ⟨y3, y10, y11, PS, rfl, fA, pA⟩
            refine ⟨_, rfl, _, rfl, _, rfl, by show 3 ≤ sizeLine; omega, fun t nt => ?_⟩
            have sT := same_new (o := .tup [.ref D1, .ref D2, .ref pl]) nt
            have fB := fA.same (fA.dr.new nt) sT
            exact q _ t D1 D2 pl es1 es2 PS n tx fB.dr.ou (SqT.of upd_same) (by omega) fB.a1 fB.k1 fB.m1 fB.v1 fB.a2 fB.k2 fB.m2 fB.l2 fB.v2 (pA.ts ((sT _ _ pA.hp).trans pA.hp.symm) (ts_same sT))
          · intro N hN
            refine ⟨_, rfl, p, c, 3, rfl, by decide, f9.dr.st, fun HA r2 _ _ stA drA => ?_⟩
            have fA := f9.draw stA drA
            have pA := p9.ts (drA pl npl1 npl2) (ts_drawn (K := K) f9.dr.st drA)
            refine ⟨rfl, _, rfl, ite2 (fun c1 => ?_) (fun c1 => ?_)⟩
            · refine ⟨_, rfl, _, _, rfl, rfl, _, rfl, by omega, by omega, ?_⟩
              refine for_it (walk_range (lo := 0) (n := ((n : Int) - 1).toNat)) (fun i σ H' => ∃ (y3 : Option V) (PS : List (Pr × V)), σ = [some (.ref p), some (.ref t3), some (.int (n : Int)), y3, some (.ref oA), some (.ref rA), some (.ref D1), some (.ref D2), y8, some (.ref pl), y10, y11] ∧ LJ P w K p c H H' n rA pS D1 D2 G SG es1 es2 tx ∧ PJ K H' n (20 + i) pl PS)
                ⟨_, PS, rfl, fA, ⟨pA.hp, pA.pa, by have := pA.ln; omega, pA.lt⟩⟩ (fun _ _ _ _ _ => trivial) ?_ ?_
              · rintro i x σ HC HC' hi ⟨y3, PS, rfl, fC, pC⟩ ⟨rfl, rfl⟩
                have hi1 : i + 1 < n := by omega
                obtain ⟨aa, ka, ga, hka⟩ := gk i (by omega)
                obtain ⟨ab, kb, gb, hkb⟩ := gk (i + 1) hi1
                have da := fC.lr _ (List.mem_of_getElem? ga)
                have db := fC.lr _ (List.mem_of_getElem? gb)
                simp only at da db
                have ia : atI (G.map (·.2)) (0 + (i : Int)) = some (V.ref aa) := by
                  rw [Int.zero_add]
                  exact atI_nat (get_map (·.2) ga)
                have ib : atI (G.map (·.2)) (0 + (i : Int) + 1) = some (V.ref ab) := by
                  rw [Int.zero_add]
                  exact atI_s (get_map (·.2) gb)
                refine ⟨_, rfl, _, rfl, rA, _, _, _, rfl, rfl, SqL.of fC.r, ia, _, rfl, _, rfl, _, _, rfl, rfl, rA, _, _, _, rfl, rfl, SqL.of fC.r, ib, by show 2 ≤ sizeLine; omega, fun t nt => ?_⟩
                have sT := same_new (o := .tup [.ref aa, .ref ab]) nt
                have fD := fC.same (fC.dr.new nt) sT
                have pD := pC.ts (sT _ _ pC.hp |>.trans pC.hp.symm) (ts_same (K := K) sT)
                refine ⟨_, rfl, PS.map (fun e : Pr × V => encP e.1), encP (ka, kb), .lst (SqL.of pD.hp) (dpAll_P pD.pa), .tup (SqT.of upd_same) (.cons (ln_ts (ts_same sT) da) (.cons (ln_ts (ts_same sT) db) .nil)), plain_Ps PS, plain_P _, dep_P _, _, rfl, ite2 (fun c2 => ?_) (fun c2 => ?_)⟩
                · refine ⟨_, rfl, p, c, 4, rfl, by decide, fD.dr.st, fun HE r3 _ _ stE drE => ?_⟩
                  have fE := fD.draw stE drE
                  have pE := pD.ts (drE pl npl1 npl2) (ts_drawn (K := K) fD.dr.st drE)
                  have da2 := fE.lr _ (List.mem_of_getElem? ga)
                  have db2 := fE.lr _ (List.mem_of_getElem? gb)
                  simp only at da2 db2
                  refine ⟨_, _, rfl, rfl, _, rfl, ite2 (fun c3 => ?_) (fun c3 => ?_)⟩
                  · refine ⟨_, rfl, .inl ⟨rfl, _, SqL.of pE.hp⟩, _, rfl, _, rfl, rA, _, _, _, rfl, rfl, SqL.of fE.r, ia, _, rfl, _, rfl, _, _, rfl, rfl, rA, _, _, _, rfl, rfl, SqL.of fE.r, ib, by show 2 ≤ sizeLine; omega, fun t2 nt2 => ?_⟩
                    have sU := same_new (o := .tup [.ref aa, .ref ab]) nt2
                    have fF := fE.same (fE.dr.new nt2) sU
                    have pF := pE.ts (sU _ _ pE.hp |>.trans pE.hp.symm) (ts_same (K := K) sU)
                    refine ⟨pl, _, _, rfl, rfl, pF.hp, by rw [List.length_map]; have := pF.ln; omega, _, PS ++ [((ka, kb), V.ref t2)], rfl, ?_, ?_⟩
                    · exact fF.own pF.hp nHp nrp nsp
                    · exact pF.app (SqT.of upd_same) (ln_ts (ts_same sU) da2) (ln_ts (ts_same sU) db2) hka hkb
                  · exact ⟨_, PS, rfl, fE, ⟨pE.hp, pE.pa, by have := pE.ln; omega, pE.lt⟩⟩
                · exact ⟨_, PS, rfl, fD, ⟨pD.hp, pD.pa, by have := pD.ln; omega, pD.lt⟩⟩
              · rintro σ HC ⟨y3, PS, rfl, fC, pC⟩
                exact hN _ _ ⟨_, _, _, PS, rfl, fC, ⟨pC.hp, pC.pa, by have := pC.ln; omega, pC.lt⟩⟩
            · exact hN _ _ ⟨_, _, _, PS, rfl, fA, ⟨pA.hp, pA.pa, by have := pA.ln; omega, pA.lt⟩⟩
end
end K12
namespace K12
open PySem PySem.Spec PyProof.Rows L2 TR QR
open GX (KT kd kdAll RS TSt dNO KeysAt)
open PySem.W (dataLt dataLe alike alikeAll AllAlike Sortable)
abbrev sLAW : Stmt := topS 15
abbrev nLAW : List Str := ["script", "state", "lines", "present", "pairs", "graph", "reach", "turn", "one", "other", "told", "last"]
theorem scLAW : FnScope nLAW ["script"] (defScope sLAW) := ⟨rfl, rfl, rfl, by decide +kernel, rfl, by decide +kernel, by decide +kernel⟩
theorem hash_nd {w : World} : ∀ {es : List (Nat × Addr × V)}, (es.map (·.1)).Nodup → (∀ k ∈ es.map (·.1), k < 16) → (es.map fun e => NestedKey.hash w (GX.keyN (ktL.enc e.1))).Nodup
  | [], _, _ => List.nodup_nil
  | e :: es, nd, h => by
    rw [List.map_cons] at nd h ⊢
    obtain ⟨h1, h2⟩ := List.nodup_cons.mp nd
    refine List.nodup_cons.mpr ⟨fun hm => ?_, hash_nd h2 fun k hk => h k (List.mem_cons_of_mem _ hk)⟩
    obtain ⟨x, hx, ex⟩ := List.mem_map.mp hm
    have hx1 : x.1 ∈ es.map (·.1) := List.mem_map.mpr ⟨x, hx, rfl⟩
    have a1 := h x.1 (List.mem_cons_of_mem _ hx1)
    have a2 := h e.1 List.mem_cons_self
    have e1 : ∀ k, GX.keyN (ktL.enc k) = .tup [GX.keyN nmD, .num 1, .num (k : Int)] := fun k => by
      show GX.keyN (encL k) = _
      unfold encL
      rw [GX.keyN, GX.keyNs, GX.keyNs, GX.keyNs, GX.keyNs, GX.keyN, GX.keyN]
    rw [e1, e1] at ex
    have := GX.hash_apart (by omega) (by omega) ex
    exact h1 (this ▸ hx1)
theorem tg_iff (ps : List Pr) (i j : Nat) : TG (fun a b => b ∈ edG ps a) i j ↔ TG (fun a b => (a, b) ∈ ps) i j :=
  ⟨TG.mono fun a b h => mem_sortP.mp (mem_edG.mp h), TG.mono fun a b h => mem_edG.mpr (mem_sortP.mpr h)⟩
theorem same_true {dv : Nat → PyData} {es fs : List (Nat × Addr × V)} (h : es.map (·.1) = fs.map (·.1)) (hp : ∀ k, (dv k).plain = true) : (es.length == fs.length && GX.sameD dv dv es fs) = true := by
  have hl := congrArg List.length h
  rw [List.length_map, List.length_map] at hl
  rw [Bool.and_eq_true]
  refine ⟨by simpa using hl, ?_⟩
  unfold GX.sameD
  rw [List.all_eq_true]
  intro e he
  rw [Bool.and_eq_true]
  refine ⟨?_, PySem.SeqAt.eqv_refl_plain _ (hp _)⟩
  have : e.1 ∈ fs.map (·.1) := h ▸ List.mem_map.mpr ⟨e, he, rfl⟩
  obtain ⟨f, hf, e2⟩ := List.mem_map.mp this
  exact List.any_eq_true.mpr ⟨f, hf, decide_eq_true e2⟩
theorem plain_Ls : ∀ ks : List Nat, PyData.plainAll (ks.map encL) = true
  | [] => rfl
  | k :: ks => by
    rw [List.map_cons, PyData.plainAll, plain_L, plain_Ls ks]
    rfl
theorem dep_Ls : ∀ ks : List Nat, PyData.depthAll (ks.map encL) ≤ 8
  | [] => Nat.zero_le _
  | k :: ks => by
    have a := ktL.dp k
    have b := dep_Ls ks
    rw [List.map_cons, PyData.depthAll]
    have a' : (encL k).depth ≤ 8 := a
    omega
theorem dpAll_L {K : PySem.W.Frag} {H : Hp} : ∀ {F : List (Nat × V)}, LAt K H F → DpAll K H (F.map (·.2)) ((F.map (·.1)).map encL)
  | [], _ => .nil
  | e :: F, h => .cons (h e List.mem_cons_self) (dpAll_L fun x hx => h x (List.mem_cons_of_mem _ hx))
def lsD (ks : List Nat) : PyData := .list (ks.map encL)
theorem lsD_plain (ks : List Nat) : (lsD ks).plain = true := by
  unfold lsD
  rw [PyData.plain, plain_Ls]
theorem lsD_dep (ks : List Nat) : (lsD ks).depth ≤ 40 := by
  unfold lsD
  rw [PyData.depth]
  have := dep_Ls ks
  omega
theorem dp_ls {K : PySem.W.Frag} {H : Hp} {l : Addr} {F : List (Nat × V)} (h : SqL K H l (F.map (·.2))) (hF : LAt K H F) : Dp K H (.ref l) (lsD (F.map (·.1))) := .lst h (dpAll_L hF)
def spLaw (K : PySem.W.Frag) : Sp := fun vs H Q _ => ∃ (a : Addr) (ns : List Int), vs = [.ref a] ∧ SqL K H a (ns.map V.int) ∧ ns.length ≤ 63 ∧ ∀ H', Q (.bl true) H'
theorem bool_eq {x y : Bool} {p q : Prop} (h1 : x = true ↔ p) (h2 : y = true ↔ q) (h : p ↔ q) : x = y := by
  rw [Bool.eq_iff_iff, h1, h2, h]
section
variable {P : Program} {w : World} {K : PySem.W.Frag} {mg : Str → Option Value} {base : Heap} {C : Addr}
theorem ok_LAW {f fST fGR fRE fED fLB fLS fIN fMB fMS fMP fML : Addr} {fd fdST fdGR fdRE fdED fdLB fdLS fdIN fdMB fdMS fdMP fdML : FuncData} (F : Fun K "law" "law" sLAW f fd)
    (GST : FnOk P w K mg base CX0 1 fST fdST ["script"] (spState K)) (bST : Binds K fdST ["script"] []) (gST : mg "_law_state" = some (.ref fST)) (kST : PySem.W.keepIn K (.ref fST) = true)
    (GGR : FnOk P w K mg base CX0 3 fGR fdGR ["state"] (spGR P w K)) (bGR : Binds K fdGR ["state"] []) (gGR : mg "_law_graph" = some (.ref fGR)) (kGR : PySem.W.keepIn K (.ref fGR) = true)
    (GRE : FnOk P w K mg base CX0 1 fRE fdRE ["edges"] (spRE P w K)) (bRE : Binds K fdRE ["edges"] []) (gRE : mg "_law_reach" = some (.ref fRE)) (kRE : PySem.W.keepIn K (.ref fRE) = true)
    (GED : FnOk P w K mg base CX0 1 fED fdED ["pairs"] (spED P w K)) (bED : Binds K fdED ["pairs"] []) (gED : mg "_law_edges" = some (.ref fED)) (kED : PySem.W.keepIn K (.ref fED) = true)
    (GLB : FnOk P w K mg base CX0 1 fLB fdLB ["reach", "one", "other"] (spLB P w K)) (bLB : Binds K fdLB ["reach", "one", "other"] []) (gLB : mg "_law_before" = some (.ref fLB)) (kLB : PySem.W.keepIn K (.ref fLB) = true)
    (GLS : FnOk P w K mg base CX0 2 fLS fdLS ["reach", "one", "other"] (spLS P w K)) (bLS : Binds K fdLS ["reach", "one", "other"] []) (gLS : mg "_law_strictly" = some (.ref fLS)) (kLS : PySem.W.keepIn K (.ref fLS) = true)
    (T : Txt K mg C) (MkG : Mk K C fIN) (GIN : FnOk P w K mg base CX0 3 fIN fdIN ["self", "lines", "present", "edges"] (spIN P w K C)) (bIN : Binds K fdIN ["self", "lines", "present", "edges"] [])
    (MMB : Meth K C "before" fMB) (GMB : FnOk P w K mg base CX0 1 fMB fdMB ["self", "one", "other"] (spMe P w K C rBe)) (bMB : Binds K fdMB ["self", "one", "other"] [])
    (MMS : Meth K C "strictly" fMS) (GMS : FnOk P w K mg base CX0 2 fMS fdMS ["self", "one", "other"] (spMe P w K C rSt)) (bMS : Binds K fdMS ["self", "one", "other"] [])
    (MMP : Meth K C "apart" fMP) (GMP : FnOk P w K mg base CX0 2 fMP fdMP ["self", "one", "other"] (spMe P w K C rAp)) (bMP : Binds K fdMP ["self", "one", "other"] [])
    (MML : Meth K C "present_lines" fML) (GML : FnOk P w K mg base CX0 1 fML fdML ["self"] (spML P w K C)) (bML : Binds K fdML ["self"] [])
    (m_range : mg "range" = none) (m_sorted : mg "sorted" = none) (m_dict : mg "dict" = none) : FnOk P w K mg base CX0 5 f fd ["script"] (spLaw K) := by
  refine F.ok scLAW (fun vs H Q E h => ?_) (fun cdv A outer s H vs Q E hr h => ?_)
  · obtain ⟨a, ns, rfl, _⟩ := h
    rfl
  · obtain ⟨sa, ns, rfl, hS, hl, q⟩ := h
    have hu := hr.units
    have hu1 := hu_of hr
    have hr1 : Room 1 _ := hr.mono (by decide)
    have hr2 : Room 2 _ := hr.mono (by decide)
    have hr3 : Room 3 _ := hr.mono (by decide)
    have hr4 : Room 4 _ := hr.mono (by decide)
    have zl := zl
    refine ⟨_, (pss_cons (ps_set (i := 1) scLAW.nd rfl (.inl rfl) (pe_call GST hr1 (by rfl) gST kST bST .nil pass0 (pa_cons (pv 0) pa_nil)))
      (pss_cons (ps_asg (pe_call GGR hr3 (by rfl) gGR kGR bGR .nil pass0 (pa_cons (pv 1) pa_nil)) (pg_tup (by rfl) (pgs_cons (pg_name (i := 2) scLAW.nd rfl (.inl rfl)) (pgs_cons (pg_name (i := 3) scLAW.nd rfl (.inl rfl)) (pgs_cons (pg_name (i := 4) scLAW.nd rfl (.inl rfl)) pgs_nil)))))
      (pss_cons (ps_set (i := 5) scLAW.nd rfl (.inl rfl) (pe_make MkG GIN hr rfl T.mg bIN .nil pass0 (pa_cons (pe_callTy (GX.cr_dictN (T := ktL) hu) (by rfl) m_dict (by decide +kernel) (pa_cons (pv 2) pa_nil)) (pa_cons (pe_callTy (GX.cr_dictN (T := ktL) hu) (by rfl) m_dict (by decide +kernel) (pa_cons (pv 3) pa_nil)) (pa_cons (pe_call GED hr1 (by rfl) gED kED bED .nil pass0 (pa_cons (pv 4) pa_nil)) pa_nil)))))
      (pss_cons (ps_set (i := 6) scLAW.nd rfl (.inl rfl) (pe_call GRE hr1 (by rfl) gRE kRE bRE .nil pass0 (pa_cons (pv 4) pa_nil)))
      (pss_cons (ps_for PassesOwn.never rfl (pi_range1 (by rfl) m_range (pa_cons (pe_int) pa_nil)) (pg_name (i := 7) scLAW.nd rfl (.inl rfl))
      (pss_one (ps_lock (ps_for PassesOwn.never rfl (GX.pi_keysN (T := ktL) (pv 2)) (pg_name (i := 8) scLAW.nd rfl (.inl rfl))
      (pss_one (ps_for PassesOwn.never rfl (GX.pi_keysN (T := ktL) (pv 2)) (pg_name (i := 9) scLAW.nd rfl (.inl rfl))
      (pss_cons (ps_set (i := 10) scLAW.nd rfl (.inl rfl) (pe_lst (pa_cons (pe_meth (pv 5) T.cl MMB GMB hr1 bMB .nil pass0 (pa_cons (pv 8) (pa_cons (pv 9) pa_nil))) (pa_cons (pe_meth (pv 5) T.cl MMS GMS hr2 bMS .nil pass0 (pa_cons (pv 8) (pa_cons (pv 9) pa_nil))) pa_nil))))
      (pss_cons (ps_if (pt_cmpR (op_neP hu) (pv 10) (pe_lst (pa_cons (pe_call GLB hr1 (by rfl) gLB kLB bLB .nil pass0 (pa_cons (pv 6) (pa_cons (pv 8) (pa_cons (pv 9) pa_nil)))) (pa_cons (pe_call GLS hr2 (by rfl) gLS kLS bLS .nil pass0 (pa_cons (pv 6) (pa_cons (pv 8) (pa_cons (pv 9) pa_nil)))) pa_nil))) (nomark _))
      (pss_one (ps_ret (pe_bl))) pss_nil)
      (pss_cons (ps_if (PW.pt (pw_and (pt_cmpR (op_neP hu) (pv 8) (pv 9) (nomark _)) (pw_and1 (pt_cmpR op_ne (pe_meth (pv 5) T.cl MMP GMP hr2 bMP .nil pass0 (pa_cons (pv 8) (pa_cons (pv 9) pa_nil))) (pe_cmpR op_eq (pe_call GLB hr1 (by rfl) gLB kLB bLB .nil pass0 (pa_cons (pv 6) (pa_cons (pv 8) (pa_cons (pv 9) pa_nil)))) (pe_call GLB hr1 (by rfl) gLB kLB bLB .nil pass0 (pa_cons (pv 6) (pa_cons (pv 9) (pa_cons (pv 8) pa_nil)))) (nomark _)) (nomark _)))))
      (pss_one (ps_ret (pe_bl))) pss_nil)
      (pss_one (ps_for PassesOwn.never rfl (GX.pi_keysN (T := ktL) (pv 2)) (pg_name (i := 11) scLAW.nd rfl (.inl rfl))
      (pss_one (ps_if (PW.pt (pw_and (pt_val (pe_ix ix_list (pv 10) (pe_int) (fun _ _ => rfl))) (pw_and (pt_val (pe_meth (pv 5) T.cl MMS GMS hr2 bMS .nil pass0 (pa_cons (pv 9) (pa_cons (pv 11) pa_nil)))) (pw_and1 (pt_not (pt_val (pe_meth (pv 5) T.cl MMS GMS hr2 bMS .nil pass0 (pa_cons (pv 8) (pa_cons (pv 11) pa_nil)))))))))
      (pss_one (ps_ret (pe_bl))) pss_nil)))))))))))))
      (pss_one (ps_ret (pe_and (pe_cmpR (op_eqP hu) (pe_meth0 (pv 5) T.cl MML GML hr1 bML .nil pass0) (pe_callB (GX.cr_sortedN (T := ktL) rfl hu) (by rfl) m_sorted (by decide +kernel) (pa_cons (pv 3) pa_nil)) (nomark _)) (pe_and (pe_cmpR (GX.op_eqN (T := ktL) hu) (pe_fld (pv 5) rfl) (pv 2) (nomark _)) (pe_one (pe_cmpR (GX.op_eqN (T := ktL) hu) (pe_fld (pv 5) rfl) (pe_call GED hr1 (by rfl) gED kED bED .nil pass0 (pa_cons (pv 4) pa_nil)) (nomark _)))))))))))), ?_⟩
    refine ⟨_, rfl, sa, ns, rfl, hS, hl, fun H1 p c s1 np nc st => ?_⟩
    refine ⟨_, rfl, p, c, rfl, st, fun H2 t dl dp pl esl esp PS n tx ou ht hn a1 a2 a3 a4 b1 b2 b3 b4 b5 pj => ⟨t, _, rfl, ht, rfl, _, _, rfl, _, _, rfl, _, _, rfl, rfl, ?_⟩⟩
    have n16 : n ≤ 16 := by omega
    have ndl : (esl.map (·.1)).Nodup := by rw [a3]; exact List.nodup_range
    have ndp : (esp.map (·.1)).Nodup := b3.imp fun h => Nat.ne_of_lt h
    refine ⟨_, rfl, dl, esl, rfl, .inl a1, a2, hash_nd ndl (fun k hk => by rw [a3] at hk; have := List.mem_range.mp hk; omega), fun d1 nd1 => ?_⟩
    have sA := same_new (o := dNO ktL P w d1 esl) nd1
    refine ⟨_, rfl, dp, esp, rfl, .inl (sA _ _ b1), b2.ts (ts_same sA), hash_nd ndp (fun k hk => by have := b4 k hk; omega), fun d2 nd2 => ?_⟩
    have sB := same_new (o := dNO ktL P w d2 esp) nd2
    have sAB := same_trans sA sB
    have h1 : upd (upd H2 d1 (dNO ktL P w d1 esl)) d2 (dNO ktL P w d2 esp) d1 = some (dNO ktL P w d1 esl) := sB _ _ upd_same
    have h2 : upd (upd H2 d1 (dNO ktL P w d1 esl)) d2 (dNO ktL P w d2 esp) d2 = some (dNO ktL P w d2 esp) := upd_same
    have pA := pj.ts ((sAB _ _ pj.hp).trans pj.hp.symm) (ts_same (K := K) sAB)
    refine ⟨_, rfl, pl, PS, rfl, SqL.of pA.hp, pA.pa, by have := pA.ln; omega, fun H5 de ese s5 nde e1 e2 e3 e4 => fun x dx nx ndx nxx => ?_⟩
    have s6 : Same H5 (upd (upd H5 dx (.own x)) x (.ins C dx [])) := same_trans (same_new ndx) (same_new ((upd_ne (Ne.symm nxx)).trans nx))
    have hx6 : upd (upd H5 dx (.own x)) x (.ins C dx []) x = some (.ins C dx []) := upd_same
    have s26 := same_trans sAB (same_trans s5 s6)
    have hlt : ∀ k ∈ edK (PS.map (·.1)), k < n := fun k hk => by
      obtain ⟨q, hq, rfl⟩ := (mem_edK _).mp hk
      obtain ⟨e, he, e2⟩ := List.mem_map.mp (mem_sortP.mp hq)
      rw [← e2]
      exact (pj.lt e he).1
    have hlt2 : ∀ k j, j ∈ edG (PS.map (·.1)) k → j < n := fun k j hj => by
      obtain ⟨e, he, e2⟩ := List.mem_map.mp (mem_sortP.mp (mem_edG.mp hj))
      have := (pj.lt e he).2
      rw [e2] at this
      exact this
    have lps : (sortP (PS.map (·.1))).length ≤ 64 := by
      rw [len_sortP, List.length_map]
      have := pj.ln
      omega
    have hg1 : ∀ k, k ∉ edK (PS.map (·.1)) → edG (PS.map (·.1)) k = [] := fun k hk => edG_no hk
    refine ⟨x, dx, d1, d2, de, esl, esp, ese, n, esp.map (fun e : Nat × Addr × V => e.1), edK (PS.map (fun e : Pr × V => e.1)), edG (PS.map (fun e : Pr × V => e.1)), tx, rfl, hx6, s6 _ _ (s5 _ _ h1), a2.ts (ts_same s26), a3, a4, s6 _ _ (s5 _ _ h2), b2.ts (ts_same s26), rfl, ndp, b4, s6 _ _ e1, e2.ts (ts_same s6), e3, nd_edK _, hlt, fun e he => ?_, hg1, hlt2, Nat.le_trans (degs_le _ (nd_edK _) _) lps, fun k => Nat.le_trans edG_len lps, n16, fun H7 ex7 gr7 => ⟨rfl, ?_⟩⟩
    · obtain ⟨l, F, c1, c2, c3, c4⟩ := e4 e he
      exact ⟨l, F, c1, (GX.rs_same s6).sql c2, c3.ts (ts_same s6), c4⟩
    have s57 : Same H5 H7 := fun b o h => ex7 b o (fun e => by rw [e, nx] at h; cases h) (s6 b o h)
    have s27 := same_trans (same_trans sAB s5) s57
    have pB := pj.ts ((s27 _ _ pj.hp).trans pj.hp.symm) (ts_same (K := K) s27)
    refine ⟨_, rfl, pl, PS, n, rfl, SqL.of pB.hp, pB.pa, by have := pB.ln; omega, n16, pB.lt, fun H8 r s8 nr hR => ?_⟩
    have s28 := same_trans s27 s8
    have gr8 := gr7.same s8
    have ka8 := a2.ts (ts_same (K := K) s28)
    have hl8 := s28 _ _ a1
    obtain ⟨_, _, _, _, _, _, _, _, _, hxI, _⟩ := gr8.ex
    have nxl : x ≠ dl := fun e => by rw [e, hl8] at hxI; cases hxI
    clear hxI
    refine ⟨_, rfl, by decide, by decide, for_range (lo := 0) (n := 2) (fun i σ H' => ∃ (y7 y8 y9 y10 y11 : Option V), σ = [some (.ref sa), some (.ref p), some (.ref dl), some (.ref dp), some (.ref pl), some (.ref x), some (.ref r), y7, y8, y9, y10, y11] ∧ Same H8 H')
      ⟨none, none, none, none, none, rfl, same_refl⟩ ?_ ?_⟩
    · rintro i σ H9 _ ⟨y7, y8, y9, y10, y11, rfl, s9⟩
      have hl9 := s9 _ _ hl8
      refine ⟨dl, _, hl9, trivial, fun od => ⟨_, rfl, dl, od, esl, rfl, upd_same, ?_⟩⟩
      have rL : RS H9 (upd H9 dl (.frz od (dNO ktL P w dl esl))) := GX.rs_lock hl9 (fun _ _ h => nomatch h)
      have grL := (gr8.same s9).rs rL (upd_ne nxl)
      have hRL := (hR.rs (GX.rs_same s9)).rs rL
      have kaL := (ka8.ts (ts_same s9)).ts (rL.tst (K := K))
      have hlL : upd H9 dl (.frz od (dNO ktL P w dl esl)) dl = some (.frz od (dNO ktL P w dl esl)) := upd_same
      have eback : ∀ H', Same (upd H9 dl (.frz od (dNO ktL P w dl esl))) H' → Same H8 (upd H' dl (dNO ktL P w dl esl)) := fun H' s b o hb => by
        have hb9 := s9 b o hb
        by_cases e : b = dl
        · subst e
          rw [hl9] at hb9
          cases hb9
          exact upd_same
        · rw [upd_ne e]
          exact s b o ((upd_ne e).trans hb9)
      generalize upd H9 dl (.frz od (dNO ktL P w dl esl)) = HL at grL hRL kaL hlL eback
      have key : ∀ {i : Nat} {e : Nat × Addr × V}, esl[i]? = some e → e.1 < n := fun {i e} h => by
        have : e.1 ∈ esl.map (·.1) := List.mem_map.mpr ⟨e, List.mem_of_getElem? h, rfl⟩
        rw [a3] at this
        exact List.mem_range.mp this
      refine for_it (GX.walk_N (T := ktL) (P := P) (w := w)) (fun i σ H' => ∃ (y7 y8 y9 y10 y11 : Option V), σ = [some (.ref sa), some (.ref p), some (.ref dl), some (.ref dp), some (.ref pl), some (.ref x), some (.ref r), y7, y8, y9, y10, y11] ∧ Same HL H')
        ⟨_, y8, y9, y10, y11, rfl, same_refl⟩ ?_ ?_ ?_
      · rintro i σ H' _ ⟨_, _, _, _, _, _, s⟩
        exact s _ _ hlL
      · rintro i1 v σ HA HA' hi1 ⟨y7, y8, y9, y10, y11, rfl, sA⟩ ⟨rfl, o1, ho1, rfl⟩
        have k1 := key ho1
        have dA1 := kaL o1 (List.mem_of_getElem? ho1)
        refine ⟨_, rfl, dl, od, esl, rfl, sA _ _ hlL, ?_⟩
        refine for_it (GX.walk_N (T := ktL) (P := P) (w := w)) (fun i σ H' => ∃ (y9 y10 y11 : Option V), σ = [some (.ref sa), some (.ref p), some (.ref dl), some (.ref dp), some (.ref pl), some (.ref x), some (.ref r), y7, some (.ref o1.2.1), y9, y10, y11] ∧ Same HL H')
          ⟨y9, y10, y11, rfl, sA⟩ ?_ ?_ ?_
        · rintro i σ H' _ ⟨_, _, _, _, s⟩
          exact s _ _ hlL
        · rintro i2 v σ HB HB' hi2 ⟨y9, y10, y11, rfl, sB⟩ ⟨rfl, o2, ho2, rfl⟩
          have k2 := key ho2
          have dA2 := kaL o2 (List.mem_of_getElem? ho2)
          have grB := grL.same sB
          have hRB := hRL.rs (GX.rs_same sB)
          have d1 := ln_ts (ts_same sB) dA1
          have d2 := ln_ts (ts_same sB) dA2
          obtain ⟨dx', al, ap, ae, ab, at', ar, js, M, hxB, _⟩ := grB.ex
          refine ⟨_, rfl, x, dx', _, rfl, hxB, gr_no no_before, _, rfl, _, rfl, x, _, _, n, _, _, _, tx, o1.1, o2.1, rfl, grB, d1, d2, k1, k2, fun z1 hz1 => ?_⟩
          refine ⟨_, rfl, x, dx', _, rfl, hxB, gr_no no_strictly, _, rfl, _, rfl, x, _, _, n, _, _, _, tx, o1.1, o2.1, rfl, grB, d1, d2, k1, k2, fun z2 hz2 => ⟨by show 2 ≤ sizeLine; omega, fun tl ntl => ?_⟩⟩
          have sC := same_trans sB (same_new (o := .lst [.bl z1, .bl z2]) ntl)
          have htl : upd HB' tl (.lst [.bl z1, .bl z2]) tl = some (.lst [.bl z1, .bl z2]) := upd_same
          have hz1' : z1 = true ↔ TG (fun a b => (a, b) ∈ PS.map (·.1)) o1.1 o2.1 := hz1.trans (tg_iff _ _ _)
          have hz2' : z2 = true ↔ (TG (fun a b => (a, b) ∈ PS.map (·.1)) o1.1 o2.1 ∧ ¬ TG (fun a b => (a, b) ∈ PS.map (·.1)) o2.1 o1.1) := hz2.trans (and_congr (tg_iff _ _ _) (not_congr (tg_iff _ _ _)))
          generalize upd HB' tl (.lst [.bl z1, .bl z2]) = HC at sC htl
          have hRC := hRL.rs (GX.rs_same sC)
          have e1 := ln_ts (ts_same sC) dA1
          have e2 := ln_ts (ts_same sC) dA2
          refine ⟨_, rfl, _, rfl, _, rfl, _, rfl, r, _, _, _, o1.1, o2.1, rfl, hRC, e1, e2, fun w1 hw1 => ⟨_, rfl, _, rfl, _, rfl, r, _, _, _, o1.1, o2.1, rfl, hRC, e1, e2, fun w2 hw2 => ⟨by show 2 ≤ sizeLine; omega, fun tm ntm => ?_⟩⟩⟩
          obtain rfl : z1 = w1 := bool_eq hz1' hw1 Iff.rfl
          obtain rfl : z2 = w2 := bool_eq hz2' hw2 Iff.rfl
          have sM := same_new (o := .lst [.bl z1, .bl z2]) ntm
          have sD := same_trans sC sM
          have htl2 := sM _ _ htl
          have htm : upd HC tm (.lst [.bl z1, .bl z2]) tm = some (.lst [.bl z1, .bl z2]) := upd_same
          refine ⟨.list [.bool z1, .bool z2], .list [.bool z1, .bool z2], .lst (SqL.of htl2) (.cons (.bl _) (.cons (.bl _) .nil)), .lst (SqL.of htm) (.cons (.bl _) (.cons (.bl _) .nil)), by simp [PyData.plain, PyData.plainAll], by simp [PyData.plain, PyData.plainAll], by simp [PyData.depth, PyData.depthAll], _, rfl, ?_⟩
          rw [PySem.SeqAt.eqv_refl_plain _ (by simp [PyData.plain, PyData.plainAll])]
          refine ite2 (fun c1 => absurd c1 (by decide)) (fun _ => ?_)
          generalize upd HC tm (.lst [.bl z1, .bl z2]) = HD at sD htl2
          clear htm sM
          have hRD := hRL.rs (GX.rs_same sD)
          have grD := grL.same sD
          have e1 := ln_ts (ts_same sD) dA1
          have e2 := ln_ts (ts_same sD) dA2
          -- the walk over the last lines
          have rest : ∀ (De : Ends), De.nx = (fun σ' H' => ∃ (y9 y10 y11 : Option V), σ' = [some (.ref sa), some (.ref p), some (.ref dl), some (.ref dp), some (.ref pl), some (.ref x), some (.ref r), y7, some (.ref o1.2.1), y9, y10, y11] ∧ Same HL H') →
              tFor (GX.iKeysN ktL P w (tVar 2)) (gName 11) (tIfS (tAnd (tB (tOp (rIxL K) (tVar 10) (tC (.int 1)))) (tAnd (tB (tMeth C "strictly" (spMe P w K C rSt) [] E0 (tVar 5) (tCons (tVar 9) (tCons (tVar 11) tNil)))) (tNot (tB (tMeth C "strictly" (spMe P w K C rSt) [] E0 (tVar 5) (tCons (tVar 8) (tCons (tVar 11) tNil))))))) (tRet (tC (.bl false))) tNext) De [some (.ref sa), some (.ref p), some (.ref dl), some (.ref dp), some (.ref pl), some (.ref x), some (.ref r), y7, some (.ref o1.2.1), some (.ref o2.2.1), some (.ref tl), y11] HD := fun De hDe => by
            refine ⟨_, rfl, dl, od, esl, rfl, sD _ _ hlL, ?_⟩
            refine for_it (GX.walk_N (T := ktL) (P := P) (w := w)) (fun i σ H' => ∃ (y11 : Option V), σ = [some (.ref sa), some (.ref p), some (.ref dl), some (.ref dp), some (.ref pl), some (.ref x), some (.ref r), y7, some (.ref o1.2.1), some (.ref o2.2.1), some (.ref tl), y11] ∧ Same HL H' ∧ H' tl = some (.lst [.bl z1, .bl z2]))
              ⟨y11, rfl, sD, htl2⟩ ?_ ?_ ?_
            · rintro i σ H' _ ⟨_, _, s, _⟩
              exact s _ _ hlL
            · rintro i3 v σ HE HE' hi3 ⟨y11, rfl, sE, htE⟩ ⟨rfl, o3, ho3, rfl⟩
              have k3 := key ho3
              have grE := grL.same sE
              have g1 := ln_ts (ts_same sE) dA1
              have g2 := ln_ts (ts_same sE) dA2
              have g3 := ln_ts (ts_same sE) (kaL o3 (List.mem_of_getElem? ho3))
              obtain ⟨dx', al, ap, ae, ab, at', ar, js, M, hxE, _⟩ := grE.ex
              refine ⟨_, rfl, tl, _, 1, .bl z2, rfl, rfl, SqL.of htE, atI_nat (j := 1) rfl, z2, rfl, ite2 (fun c1 => ?_) (fun c1 => ?_)⟩
              · refine ⟨_, rfl, x, dx', _, rfl, hxE, gr_no no_strictly, _, rfl, _, rfl, x, _, _, n, _, _, _, tx, o2.1, o3.1, rfl, grE, g2, g3, k2, k3, fun z5 hz5 => ⟨z5, rfl, ite2 (fun c2 => ?_) (fun c2 => ?_)⟩⟩
                · refine ⟨_, rfl, x, dx', _, rfl, hxE, gr_no no_strictly, _, rfl, _, rfl, x, _, _, n, _, _, _, tx, o1.1, o3.1, rfl, grE, g1, g3, k1, k3, fun z6 hz6 => ⟨z6, rfl, ?_⟩⟩
                  have t1 := hz2.mp c1
                  have t2 := hz5.mp c2
                  have e6 : z6 = true := hz6.mpr ⟨t1.1.trans t2.1, fun h => t2.2 (h.trans t1.1)⟩
                  subst e6
                  exact ⟨_, rfl, sE, htE⟩
                · exact ⟨_, rfl, sE, htE⟩
              · exact ⟨_, rfl, sE, htE⟩
            · rintro σ HE ⟨y11, rfl, sE, htE⟩
              rw [hDe]
              exact ⟨_, _, _, rfl, sE⟩
          refine ⟨_, rfl, _, rfl, encL o1.1, encL o2.1, e1, e2, plain_L _, plain_L _, Nat.le_trans (ktL.dp _) (by decide), _, rfl, ite2 (fun c1 => ?_) (fun c1 => ?_)⟩
          · obtain ⟨dx', al, ap, ae, ab, at', ar, js, M, hxD, _⟩ := grD.ex
            refine ⟨_, rfl, x, dx', _, rfl, hxD, gr_no no_apart, _, rfl, _, rfl, x, _, _, n, _, _, _, tx, o1.1, o2.1, rfl, grD, e1, e2, k1, k2, fun z3 hz3 => ?_⟩
            refine ⟨_, rfl, _, rfl, _, rfl, r, _, _, _, o1.1, o2.1, rfl, hRD, e1, e2, fun w3 hw3 => ⟨_, rfl, _, rfl, _, rfl, r, _, _, _, o2.1, o1.1, rfl, hRD, e2, e1, fun w4 hw4 => ⟨rfl, rfl, _, rfl, ?_⟩⟩⟩
            have ez : z3 = decide (V.bl w3 = V.bl w4) := by
              refine bool_eq hz3 (q := w3 = w4) (by rw [decide_eq_true_iff]; exact ⟨fun h => V.bl.inj h, fun h => by rw [h]⟩) ?_
              show (TG _ _ _ ↔ TG _ _ _) ↔ _
              have a3 : w3 = true ↔ TG (fun a b => (a, b) ∈ PS.map (·.1)) o1.1 o2.1 := hw3
              have a4 : w4 = true ↔ TG (fun a b => (a, b) ∈ PS.map (·.1)) o2.1 o1.1 := hw4
              rw [tg_iff, tg_iff, ← a3, ← a4]
              cases w3 <;> cases w4 <;> simp
            rw [ez]
            refine ite2 (fun c2 => absurd c2 (by simp)) (fun _ => ?_)
            refine rest _ ?_
            rfl
          · refine rest _ ?_
            rfl
        · rintro σ HB ⟨y9, y10, y11, rfl, sB⟩
          exact ⟨_, _, _, _, _, rfl, sB⟩
      · rintro σ HA ⟨y7, y8, y9, y10, y11, rfl, sA⟩
        exact ⟨sA _ _ hlL, _, _, _, _, _, rfl, eback _ sA⟩
    · rintro σ H9 ⟨y7, y8, y9, y10, y11, rfl, s9⟩
      have gr9 := gr8.same s9
      have s29 := same_trans s28 s9
      obtain ⟨dx', al, ap, ae, ab, at', ar, js, M, hx9, hT9, hO9, hE9, _⟩ := gr9.ex
      have pw : (esp.map (·.1)).Pairwise (· ≤ ·) := b3.imp fun h => Nat.le_of_lt h
      refine ⟨_, rfl, x, dx', _, rfl, hx9, gr_no no_pl, x, n, _, _, _, tx, rfl, gr9, pw, fun p1 HA F np1 sA hp1 hF eF => ?_⟩
      have s2A := same_trans s29 sA
      obtain ⟨al', so⟩ := able_L (fun e : Nat × Addr × V => e.1) esp
      have sS : GX.sortN ktL esp = esp := sorted_asc (fun e : Nat × Addr × V => e.1) (by
        rw [List.pairwise_map] at pw
        exact pw)
      refine ⟨_, rfl, dp, esp, rfl, .inl (s2A _ _ b1), b2.ts (ts_same s2A), al', so, fun p2 np2 => ?_⟩
      rw [sS]
      have sP := same_new (o := .lst (esp.map fun e => V.ref e.2.1)) np2
      have dF : Dp K (upd HA p2 (.lst (esp.map fun e => V.ref e.2.1))) (.ref p1) (lsD (esp.map (·.1))) := by
        rw [← eF]
        exact dp_ls (SqL.of (sP _ _ hp1)) (hF.ts (ts_same sP))
      have dS : Dp K (upd HA p2 (.lst (esp.map fun e => V.ref e.2.1))) (.ref p2) (lsD (esp.map (·.1))) := by
        have h := dp_ls (K := K) (H := upd HA p2 (.lst (esp.map fun e => V.ref e.2.1))) (l := p2) (F := esp.map fun e => (e.1, V.ref e.2.1)) (by rw [List.map_map]; exact SqL.of upd_same) (fun e he => by
          obtain ⟨y, hy, rfl⟩ := List.mem_map.mp he
          exact ln_ts (ts_same (same_trans s2A sP)) (b2 y hy))
        rw [List.map_map] at h
        exact h
      have sB := same_trans sA sP
      generalize upd HA p2 (.lst (esp.map fun e => V.ref e.2.1)) = HB at sB dF dS
      refine ⟨_, _, dF, dS, lsD_plain _, lsD_plain _, Nat.le_trans (lsD_dep _) (by decide), _, rfl, ?_⟩
      rw [PySem.SeqAt.eqv_refl_plain _ (lsD_plain _)]
      refine ite2 (fun _ => ?_) (fun c => absurd rfl c)
      obtain ⟨esT, t1, t2, t3, t4⟩ := hT9.rs (GX.rs_same sB)
      have s2B := same_trans s29 sB
      refine ⟨_, rfl, x, C, dx', _, _, rfl, sB _ _ hx9, T.cl, T.n1, gr_lines, _, rfl, al, dl, esT, esl, fun k => .str (tx k), fun k => .str (tx k), rfl, rfl, t1, .inl (s2B _ _ a1), t2, a2.ts (ts_same s2B), fun e he => ⟨by rw [t4 e he]; exact .str _, rfl, by show 0 ≤ 40; omega⟩, fun e he => ⟨by rw [a4 e he]; exact .str _, rfl, by show 0 ≤ 40; omega⟩, _, rfl, ?_⟩
      rw [same_true (t3.trans a3.symm) (fun k => rfl)]
      refine ite2 (fun _ => ?_) (fun c => absurd rfl c)
      have pB := pj.ts ((s2B _ _ pj.hp).trans pj.hp.symm) (ts_same (K := K) s2B)
      refine ⟨_, rfl, x, C, dx', _, _, rfl, sB _ _ hx9, T.cl, T.n3, gr_edges, _, rfl, pl, PS, rfl, SqL.of pB.hp, pB.pa, by have := pB.ln; omega, fun HC de2 ese2 sC nde2 f1 f2 f3 f4 => ?_⟩
      obtain ⟨esE, u1, u2, u3, u4⟩ := hE9.rs (GX.rs_same (same_trans sB sC))
      refine ⟨ae, de2, esE, ese2, fun k => lsD (edG (PS.map (·.1)) k), fun k => lsD (edG (PS.map (·.1)) k), rfl, rfl, u1, .inl f1, u2, f2, fun e he => ⟨?_, lsD_plain _, lsD_dep _⟩, fun e he => ⟨?_, lsD_plain _, lsD_dep _⟩, ?_⟩
      · obtain ⟨l, F, g1, g2, g3, g4⟩ := u4 e he
        rw [g1]
        have := dp_ls g2 g3
        rw [g4] at this
        exact this
      · obtain ⟨l, F, g1, g2, g3, g4⟩ := f4 e he
        rw [g1]
        have := dp_ls g2 g3
        rw [g4] at this
        exact this
      · rw [same_true (u3.trans f3.symm) (fun k => lsD_plain _)]
        exact q _
end
end K12
namespace K12
open PySem PySem.Spec PyProof.Rows L2 TR QR
theorem all_mk {l : PySem.W.OpenLaw} {w : World} {K : PySem.W.Frag} {h : Heap} {mg : Str → Option Value} {fa : Addr} (X : K.In h) (G : h.Ns mainGlobals mg) (hfa : mg "law" = some (.ref fa))
    {fFI fMA fBA fST fD fP fGR fRE fED fLB fLS fLAW : Addr} {odFI anFI odMA anMA odBA anBA odST anST odD anD odP anP odGR anGR odRE anRE odED anED odLB anLB odLS anLS odLAW anLAW : Option Addr} {slFI slMA slBA slST slD slP slGR slRE slED slLB slLS slLAW : Array (Option Value)}
    {ocFI kVFI dcFI pmFI ctFI cdFI ocMA kVMA dcMA pmMA ctMA cdMA ocBA kVBA dcBA pmBA ctBA cdBA ocST kVST dcST pmST ctST cdST ocD kVD dcD pmD ctD cdD ocP kVP dcP pmP ctP cdP ocGR kVGR dcGR pmGR ctGR cdGR ocRE kVRE dcRE pmRE ctRE cdRE ocED kVED dcED pmED ctED cdED ocLB kVLB dcLB pmLB ctLB cdLB ocLS kVLS dcLS pmLS ctLS cdLS ocLAW kVLAW dcLAW pmLAW ctLAW cdLAW : Value}
    {CG fIN fMB fMS fMP fML : Addr} {odIN anIN odMB anMB odMS anMS odMP anMP odML anML : Option Addr} {slIN slMB slMS slMP slML : Array (Option Value)} {ocIN kVIN dcIN pmIN ctIN cdIN ocMB kVMB dcMB pmMB ctMB cdMB ocMS kVMS dcMS pmMS ctMS cdMS ocMP kVMP dcMP pmMP ctMP cdMP ocML kVML dcML pmML ctML cdML : Value}
    (nCG : PySem.W.nsIn K mainGlobals "FileGraph" = some (some (.ref CG))) (pgCG : PySem.W.plainGet K CG Str.empty = true) (hdCG : PySem.W.hasDictIn K CG = true) (poCG : PySem.W.plainOver K CG = true) (saCG : PySem.W.findIn K (.ref CG) "__setattr__" = some (some (.builtin "object.__setattr__"))) (mkCG : PySem.W.makesIn K CG = true) (kpCG : PySem.W.keepIn K (.ref CG) = true)
    (no_lines : PySem.W.findIn K (.ref CG) "lines" = some none)
    (no_present : PySem.W.findIn K (.ref CG) "present" = some none)
    (no_edges : PySem.W.findIn K (.ref CG) "edges" = some none)
    (no_bits : PySem.W.findIn K (.ref CG) "bits" = some none)
    (no_later : PySem.W.findIn K (.ref CG) "later" = some none)
    (no_earlier : PySem.W.findIn K (.ref CG) "earlier" = some none)
    (aIN : PySem.W.findIn K (.ref CG) "__init__" = some (some (.ref fIN))) (iIN : PySem.W.isFn K (.ref fIN) = true)
    (lIN : K.lookup fIN = some ⟨ocIN, odIN, .func (PySem.W.fnOf "__init__" "FileGraph.__init__" (defArgs (sCls 0)) (defBody (sCls 0)) (defScope (sCls 0)) .none kVIN dcIN pmIN anIN cdIN ctIN), slIN⟩)
    (cIN1 : PySem.W.codeIn K cdIN "FileGraph.__init__" = true) (kIN1 : PySem.W.keepIn K (.ref fIN) = true)
    (aMB : PySem.W.findIn K (.ref CG) "before" = some (some (.ref fMB))) (iMB : PySem.W.isFn K (.ref fMB) = true)
    (lMB : K.lookup fMB = some ⟨ocMB, odMB, .func (PySem.W.fnOf "before" "FileGraph.before" (defArgs (sCls 1)) (defBody (sCls 1)) (defScope (sCls 1)) .none kVMB dcMB pmMB anMB cdMB ctMB), slMB⟩)
    (cMB1 : PySem.W.codeIn K cdMB "FileGraph.before" = true) (kMB1 : PySem.W.keepIn K (.ref fMB) = true)
    (aMS : PySem.W.findIn K (.ref CG) "strictly" = some (some (.ref fMS))) (iMS : PySem.W.isFn K (.ref fMS) = true)
    (lMS : K.lookup fMS = some ⟨ocMS, odMS, .func (PySem.W.fnOf "strictly" "FileGraph.strictly" (defArgs (sCls 2)) (defBody (sCls 2)) (defScope (sCls 2)) .none kVMS dcMS pmMS anMS cdMS ctMS), slMS⟩)
    (cMS1 : PySem.W.codeIn K cdMS "FileGraph.strictly" = true) (kMS1 : PySem.W.keepIn K (.ref fMS) = true)
    (aMP : PySem.W.findIn K (.ref CG) "apart" = some (some (.ref fMP))) (iMP : PySem.W.isFn K (.ref fMP) = true)
    (lMP : K.lookup fMP = some ⟨ocMP, odMP, .func (PySem.W.fnOf "apart" "FileGraph.apart" (defArgs (sCls 3)) (defBody (sCls 3)) (defScope (sCls 3)) .none kVMP dcMP pmMP anMP cdMP ctMP), slMP⟩)
    (cMP1 : PySem.W.codeIn K cdMP "FileGraph.apart" = true) (kMP1 : PySem.W.keepIn K (.ref fMP) = true)
    (aML : PySem.W.findIn K (.ref CG) "present_lines" = some (some (.ref fML))) (iML : PySem.W.isFn K (.ref fML) = true)
    (lML : K.lookup fML = some ⟨ocML, odML, .func (PySem.W.fnOf "present_lines" "FileGraph.present_lines" (defArgs (sCls 4)) (defBody (sCls 4)) (defScope (sCls 4)) .none kVML dcML pmML anML cdML ctML), slML⟩)
    (cML1 : PySem.W.codeIn K cdML "FileGraph.present_lines" = true) (kML1 : PySem.W.keepIn K (.ref fML) = true)
    (aFI : PySem.W.nsIn K mainGlobals "finished" = some (some (.ref fFI)))
    (lFI : K.lookup fFI = some ⟨ocFI, odFI, .func (PySem.W.fnOf "finished" "finished" (defArgs sFI) (defBody sFI) (defScope sFI) .none kVFI dcFI pmFI anFI cdFI ctFI), slFI⟩)
    (cFI1 : PySem.W.codeIn K cdFI "finished" = true) (kFI1 : PySem.W.keepIn K (.ref fFI) = true)
    (aMA : PySem.W.nsIn K mainGlobals "masks_along" = some (some (.ref fMA)))
    (lMA : K.lookup fMA = some ⟨ocMA, odMA, .func (PySem.W.fnOf "masks_along" "masks_along" (defArgs sMA) (defBody sMA) (defScope sMA) .none kVMA dcMA pmMA anMA cdMA ctMA), slMA⟩)
    (cMA1 : PySem.W.codeIn K cdMA "masks_along" = true) (kMA1 : PySem.W.keepIn K (.ref fMA) = true)
    (aBA : PySem.W.nsIn K mainGlobals "backwards" = some (some (.ref fBA)))
    (lBA : K.lookup fBA = some ⟨ocBA, odBA, .func (PySem.W.fnOf "backwards" "backwards" (defArgs sBA) (defBody sBA) (defScope sBA) .none kVBA dcBA pmBA anBA cdBA ctBA), slBA⟩)
    (cBA1 : PySem.W.codeIn K cdBA "backwards" = true) (kBA1 : PySem.W.keepIn K (.ref fBA) = true)
    (aST : PySem.W.nsIn K mainGlobals "_law_state" = some (some (.ref fST)))
    (lST : K.lookup fST = some ⟨ocST, odST, .func (PySem.W.fnOf "_law_state" "_law_state" (defArgs sState) (defBody sState) (defScope sState) .none kVST dcST pmST anST cdST ctST), slST⟩)
    (cST1 : PySem.W.codeIn K cdST "_law_state" = true) (kST1 : PySem.W.keepIn K (.ref fST) = true)
    (aD : PySem.W.nsIn K mainGlobals "_law_draw" = some (some (.ref fD)))
    (lD : K.lookup fD = some ⟨ocD, odD, .func (PySem.W.fnOf "_law_draw" "_law_draw" (defArgs sDraw) (defBody sDraw) (defScope sDraw) .none kVD dcD pmD anD cdD ctD), slD⟩)
    (cD1 : PySem.W.codeIn K cdD "_law_draw" = true) (kD1 : PySem.W.keepIn K (.ref fD) = true)
    (aP : PySem.W.nsIn K mainGlobals "_law_pick" = some (some (.ref fP)))
    (lP : K.lookup fP = some ⟨ocP, odP, .func (PySem.W.fnOf "_law_pick" "_law_pick" (defArgs sPick) (defBody sPick) (defScope sPick) .none kVP dcP pmP anP cdP ctP), slP⟩)
    (cP1 : PySem.W.codeIn K cdP "_law_pick" = true) (kP1 : PySem.W.keepIn K (.ref fP) = true)
    (aGR : PySem.W.nsIn K mainGlobals "_law_graph" = some (some (.ref fGR)))
    (lGR : K.lookup fGR = some ⟨ocGR, odGR, .func (PySem.W.fnOf "_law_graph" "_law_graph" (defArgs sGR) (defBody sGR) (defScope sGR) .none kVGR dcGR pmGR anGR cdGR ctGR), slGR⟩)
    (cGR1 : PySem.W.codeIn K cdGR "_law_graph" = true) (kGR1 : PySem.W.keepIn K (.ref fGR) = true)
    (aRE : PySem.W.nsIn K mainGlobals "_law_reach" = some (some (.ref fRE)))
    (lRE : K.lookup fRE = some ⟨ocRE, odRE, .func (PySem.W.fnOf "_law_reach" "_law_reach" (defArgs sRE) (defBody sRE) (defScope sRE) .none kVRE dcRE pmRE anRE cdRE ctRE), slRE⟩)
    (cRE1 : PySem.W.codeIn K cdRE "_law_reach" = true) (kRE1 : PySem.W.keepIn K (.ref fRE) = true)
    (aED : PySem.W.nsIn K mainGlobals "_law_edges" = some (some (.ref fED)))
    (lED : K.lookup fED = some ⟨ocED, odED, .func (PySem.W.fnOf "_law_edges" "_law_edges" (defArgs sED) (defBody sED) (defScope sED) .none kVED dcED pmED anED cdED ctED), slED⟩)
    (cED1 : PySem.W.codeIn K cdED "_law_edges" = true) (kED1 : PySem.W.keepIn K (.ref fED) = true)
    (aLB : PySem.W.nsIn K mainGlobals "_law_before" = some (some (.ref fLB)))
    (lLB : K.lookup fLB = some ⟨ocLB, odLB, .func (PySem.W.fnOf "_law_before" "_law_before" (defArgs sLB) (defBody sLB) (defScope sLB) .none kVLB dcLB pmLB anLB cdLB ctLB), slLB⟩)
    (cLB1 : PySem.W.codeIn K cdLB "_law_before" = true) (kLB1 : PySem.W.keepIn K (.ref fLB) = true)
    (aLS : PySem.W.nsIn K mainGlobals "_law_strictly" = some (some (.ref fLS)))
    (lLS : K.lookup fLS = some ⟨ocLS, odLS, .func (PySem.W.fnOf "_law_strictly" "_law_strictly" (defArgs sLS) (defBody sLS) (defScope sLS) .none kVLS dcLS pmLS anLS cdLS ctLS), slLS⟩)
    (cLS1 : PySem.W.codeIn K cdLS "_law_strictly" = true) (kLS1 : PySem.W.keepIn K (.ref fLS) = true)
    (aLAW : PySem.W.nsIn K mainGlobals "law" = some (some (.ref fLAW)))
    (lLAW : K.lookup fLAW = some ⟨ocLAW, odLAW, .func (PySem.W.fnOf "law" "law" (defArgs sLAW) (defBody sLAW) (defScope sLAW) .none kVLAW dcLAW pmLAW anLAW cdLAW ctLAW), slLAW⟩)
    (cLAW1 : PySem.W.codeIn K cdLAW "law" = true) (kLAW1 : PySem.W.keepIn K (.ref fLAW) = true)
    (z_len : PySem.W.nsIn K mainGlobals "len" = some none)
    (z_range : PySem.W.nsIn K mainGlobals "range" = some none)
    (z_int : PySem.W.nsIn K mainGlobals "int" = some none)
    (z_abs : PySem.W.nsIn K mainGlobals "abs" = some none)
    (z_list : PySem.W.nsIn K mainGlobals "list" = some none)
    (z_sorted : PySem.W.nsIn K mainGlobals "sorted" = some none)
    (z_dict : PySem.W.nsIn K mainGlobals "dict" = some none)
    (z_enumerate : PySem.W.nsIn K mainGlobals "enumerate" = some none)
    : ∃ fd : FuncData, (∀ (s : Shared) (v : Value), BindsTo s fd ⟨[v], []⟩ [("script", v)]) ∧ ∀ base : Heap, K.In base → base.Ns mainGlobals mg → FnOk l.prog w K mg base CX0 5 fa fd ["script"] (spLaw K) := by
  have e := hfa.symm.trans (PySem.W.mg_of X G aLAW)
  cases e
  have FFI := fun_mk (st := sFI) lFI cFI1 kFI1
  have bFI := FFI.binds (ps := ["edges", "lines"]) fun _ _ _ _ _ _ us hl => match us, hl with | [_, _], _ => rfl
  have gFI := PySem.W.mg_of X G aFI
  have FMA := fun_mk (st := sMA) lMA cMA1 kMA1
  have bMA := FMA.binds (ps := ["edges", "bits"]) fun _ _ _ _ _ _ us hl => match us, hl with | [_, _], _ => rfl
  have gMA := PySem.W.mg_of X G aMA
  have FBA := fun_mk (st := sBA) lBA cBA1 kBA1
  have bBA := FBA.binds (ps := ["edges"]) fun _ _ _ _ _ _ us hl => match us, hl with | [_], _ => rfl
  have gBA := PySem.W.mg_of X G aBA
  have FST := fun_mk (st := sState) lST cST1 kST1
  have bST := FST.binds (ps := ["script"]) fun _ _ _ _ _ _ us hl => match us, hl with | [_], _ => rfl
  have gST := PySem.W.mg_of X G aST
  have FD := fun_mk (st := sDraw) lD cD1 kD1
  have bD := FD.binds (ps := ["state", "many"]) fun _ _ _ _ _ _ us hl => match us, hl with | [_, _], _ => rfl
  have gD := PySem.W.mg_of X G aD
  have FP := fun_mk (st := sPick) lP cP1 kP1
  have bP := FP.binds (ps := ["state", "row"]) fun _ _ _ _ _ _ us hl => match us, hl with | [_, _], _ => rfl
  have gP := PySem.W.mg_of X G aP
  have FGR := fun_mk (st := sGR) lGR cGR1 kGR1
  have bGR := FGR.binds (ps := ["state"]) fun _ _ _ _ _ _ us hl => match us, hl with | [_], _ => rfl
  have gGR := PySem.W.mg_of X G aGR
  have FRE := fun_mk (st := sRE) lRE cRE1 kRE1
  have bRE := FRE.binds (ps := ["edges"]) fun _ _ _ _ _ _ us hl => match us, hl with | [_], _ => rfl
  have gRE := PySem.W.mg_of X G aRE
  have FED := fun_mk (st := sED) lED cED1 kED1
  have bED := FED.binds (ps := ["pairs"]) fun _ _ _ _ _ _ us hl => match us, hl with | [_], _ => rfl
  have gED := PySem.W.mg_of X G aED
  have FLB := fun_mk (st := sLB) lLB cLB1 kLB1
  have bLB := FLB.binds (ps := ["reach", "one", "other"]) fun _ _ _ _ _ _ us hl => match us, hl with | [_, _, _], _ => rfl
  have gLB := PySem.W.mg_of X G aLB
  have FLS := fun_mk (st := sLS) lLS cLS1 kLS1
  have bLS := FLS.binds (ps := ["reach", "one", "other"]) fun _ _ _ _ _ _ us hl => match us, hl with | [_, _, _], _ => rfl
  have gLS := PySem.W.mg_of X G aLS
  have FLAW := fun_mk (st := sLAW) lLAW cLAW1 kLAW1
  have gLAW := PySem.W.mg_of X G aLAW
  have m_len := PySem.W.mg_none_of X G z_len
  have m_range := PySem.W.mg_none_of X G z_range
  have m_int := PySem.W.mg_none_of X G z_int
  have m_abs := PySem.W.mg_none_of X G z_abs
  have m_list := PySem.W.mg_none_of X G z_list
  have m_sorted := PySem.W.mg_none_of X G z_sorted
  have m_dict := PySem.W.mg_none_of X G z_dict
  have m_enumerate := PySem.W.mg_none_of X G z_enumerate
  have FIN := fun_mk (st := (sCls 0)) lIN cIN1 kIN1
  have bIN := FIN.binds (ps := ["self", "lines", "present", "edges"]) fun _ _ _ _ _ _ us hl => match us, hl with | [_, _, _, _], _ => rfl
  have MIN : Meth K CG "__init__" fIN := ⟨aIN, iIN, kIN1⟩
  have FMB := fun_mk (st := (sCls 1)) lMB cMB1 kMB1
  have bMB := FMB.binds (ps := ["self", "one", "other"]) fun _ _ _ _ _ _ us hl => match us, hl with | [_, _, _], _ => rfl
  have MMB : Meth K CG "before" fMB := ⟨aMB, iMB, kMB1⟩
  have FMS := fun_mk (st := (sCls 2)) lMS cMS1 kMS1
  have bMS := FMS.binds (ps := ["self", "one", "other"]) fun _ _ _ _ _ _ us hl => match us, hl with | [_, _, _], _ => rfl
  have MMS : Meth K CG "strictly" fMS := ⟨aMS, iMS, kMS1⟩
  have FMP := fun_mk (st := (sCls 3)) lMP cMP1 kMP1
  have bMP := FMP.binds (ps := ["self", "one", "other"]) fun _ _ _ _ _ _ us hl => match us, hl with | [_, _, _], _ => rfl
  have MMP : Meth K CG "apart" fMP := ⟨aMP, iMP, kMP1⟩
  have FML := fun_mk (st := (sCls 4)) lML cML1 kML1
  have bML := FML.binds (ps := ["self"]) fun _ _ _ _ _ _ us hl => match us, hl with | [_], _ => rfl
  have MML : Meth K CG "present_lines" fML := ⟨aML, iML, kML1⟩
  have TC : Txt K mg CG := ⟨⟨pgCG, hdCG, poCG, saCG⟩, no_lines, no_present, no_edges, no_bits, no_later, no_earlier, PySem.W.mg_of X G nCG⟩
  have MkG : Mk K CG fIN := ⟨mkCG, aIN, iIN, kpCG⟩
  refine ⟨PySem.W.fnOf "law" "law" (defArgs sLAW) (defBody sLAW) (defScope sLAW) .none kVLAW dcLAW pmLAW anLAW cdLAW ctLAW, fun s v => .of_eq rfl, fun base _ _ => ?_⟩
  have GFI := ok_FI (P := l.prog) (w := w) (mg := mg) (base := base) FFI
  have GMA := ok_MA (P := l.prog) (w := w) (mg := mg) (base := base) FMA GFI bFI gFI kFI1 m_sorted
  have GBA := ok_BA (P := l.prog) (w := w) (mg := mg) (base := base) FBA
  have GST := ok_state (P := l.prog) (w := w) (mg := mg) (base := base) FST m_abs m_int
  have GD := ok_draw (P := l.prog) (w := w) (mg := mg) (base := base) FD m_len m_int
  have GP := ok_pick (P := l.prog) (w := w) (mg := mg) (base := base) FP GD bD gD kD1 m_len
  have GGR := ok_GR (P := l.prog) (w := w) (mg := mg) (base := base) FGR GD bD gD kD1 GP bP gP kP1 m_len m_range m_sorted
  have GRE := ok_RE (P := l.prog) (w := w) (mg := mg) (base := base) FRE m_len m_range m_list
  have GED := ok_ED (P := l.prog) (w := w) (mg := mg) (base := base) FED m_sorted
  have GLB := ok_LB (P := l.prog) (w := w) (mg := mg) (base := base) FLB
  have GLS := ok_LS (P := l.prog) (w := w) (mg := mg) (base := base) FLS GLB bLB gLB kLB1
  have GIN := ok_IN (P := l.prog) (w := w) (base := base) FIN TC GMA bMA gMA kMA1 GBA bBA gBA kBA1 m_list m_sorted m_enumerate
  have GMB := ok_MB (P := l.prog) (w := w) (base := base) FMB TC
  have GMS := ok_MS (P := l.prog) (w := w) (base := base) FMS TC GMB bMB MMB
  have GMP := ok_MP (P := l.prog) (w := w) (base := base) FMP TC GMB bMB MMB
  have GML := ok_ML (P := l.prog) (w := w) (base := base) FML TC m_sorted
  exact ok_LAW FLAW GST bST gST kST1 GGR bGR gGR kGR1 GRE bRE gRE kRE1 GED bED gED kED1 GLB bLB gLB kLB1 GLS bLS gLS kLS1 TC MkG GIN bIN MMB GMB bMB MMS GMS bMS MMP GMP bMP MML GML bML m_range m_sorted m_dict
end K12
open PySem PySem.W PyProof.Rows
set_option maxRecDepth 100000 in
set_option maxHeartbeats 0 in
theorem PySem.Challenge.cw_quiltward_k12_ways_in_graphs_holds : PySem.Challenge.rw_quiltward_k12_ways_in_graphs.Holds := by
  w_on; o_law; k_head; (case hw => w_witness2)
  k_fill
  refine L2.walk_of (l := PySem.Challenge.rw_quiltward_k12_ways_in_graphs) (n := 63) (k := 5) (x := "script") (CX := fun _ => L2.CX0) (sp := fun w => K12.spLaw _) rfl (by decide) rfl ⟨rfl, by decide, by decide⟩ (fun w h Y => PySem.W.kIn_of Y) ?F (fun _ _ a ns hl _ hS => ⟨a, ns, rfl, hS, hl, fun _ => rfl⟩) (fun _ _ _ _ _ h => h)
  case F =>
    intro w mg fa h KX G hmg
    refine' K12.all_mk KX G hmg ?nCG ?pgCG ?hdCG ?poCG ?saCG ?mkCG ?kpCG ?no_lines ?no_present ?no_edges ?no_bits ?no_later ?no_earlier ?aIN ?iIN ?lIN ?cIN1 ?kIN1 ?aMB ?iMB ?lMB ?cMB1 ?kMB1 ?aMS ?iMS ?lMS ?cMS1 ?kMS1 ?aMP ?iMP ?lMP ?cMP1 ?kMP1 ?aML ?iML ?lML ?cML1 ?kML1 ?aFI ?lFI ?cFI1 ?kFI1 ?aMA ?lMA ?cMA1 ?kMA1 ?aBA ?lBA ?cBA1 ?kBA1 ?aST ?lST ?cST1 ?kST1 ?aD ?lD ?cD1 ?kD1 ?aP ?lP ?cP1 ?kP1 ?aGR ?lGR ?cGR1 ?kGR1 ?aRE ?lRE ?cRE1 ?kRE1 ?aED ?lED ?cED1 ?kED1 ?aLB ?lLB ?cLB1 ?kLB1 ?aLS ?lLS ?cLS1 ?kLS1 ?aLAW ?lLAW ?cLAW1 ?kLAW1 ?z_len ?z_range ?z_int ?z_abs ?z_list ?z_sorted ?z_dict ?z_enumerate
    (case nCG => k_is)
    (case pgCG => k_is)
    (case hdCG => k_is)
    (case poCG => k_is)
    (case saCG => k_is)
    (case mkCG => k_is)
    (case kpCG => k_is)
    (case no_lines => k_is)
    (case no_present => k_is)
    (case no_edges => k_is)
    (case no_bits => k_is)
    (case no_later => k_is)
    (case no_earlier => k_is)
    (case aIN => k_is)
    (case iIN => k_is)
    (case lIN => k_is)
    (case cIN1 => k_is)
    (case kIN1 => k_is)
    (case aMB => k_is)
    (case iMB => k_is)
    (case lMB => k_is)
    (case cMB1 => k_is)
    (case kMB1 => k_is)
    (case aMS => k_is)
    (case iMS => k_is)
    (case lMS => k_is)
    (case cMS1 => k_is)
    (case kMS1 => k_is)
    (case aMP => k_is)
    (case iMP => k_is)
    (case lMP => k_is)
    (case cMP1 => k_is)
    (case kMP1 => k_is)
    (case aML => k_is)
    (case iML => k_is)
    (case lML => k_is)
    (case cML1 => k_is)
    (case kML1 => k_is)
    (case aFI => k_is)
    (case lFI => k_is)
    (case cFI1 => k_is)
    (case kFI1 => k_is)
    (case aMA => k_is)
    (case lMA => k_is)
    (case cMA1 => k_is)
    (case kMA1 => k_is)
    (case aBA => k_is)
    (case lBA => k_is)
    (case cBA1 => k_is)
    (case kBA1 => k_is)
    (case aST => k_is)
    (case lST => k_is)
    (case cST1 => k_is)
    (case kST1 => k_is)
    (case aD => k_is)
    (case lD => k_is)
    (case cD1 => k_is)
    (case kD1 => k_is)
    (case aP => k_is)
    (case lP => k_is)
    (case cP1 => k_is)
    (case kP1 => k_is)
    (case aGR => k_is)
    (case lGR => k_is)
    (case cGR1 => k_is)
    (case kGR1 => k_is)
    (case aRE => k_is)
    (case lRE => k_is)
    (case cRE1 => k_is)
    (case kRE1 => k_is)
    (case aED => k_is)
    (case lED => k_is)
    (case cED1 => k_is)
    (case kED1 => k_is)
    (case aLB => k_is)
    (case lLB => k_is)
    (case cLB1 => k_is)
    (case kLB1 => k_is)
    (case aLS => k_is)
    (case lLS => k_is)
    (case cLS1 => k_is)
    (case kLS1 => k_is)
    (case aLAW => k_is)
    (case lLAW => k_is)
    (case cLAW1 => k_is)
    (case kLAW1 => k_is)
    (case z_len => k_is)
    (case z_range => k_is)
    (case z_int => k_is)
    (case z_abs => k_is)
    (case z_list => k_is)
    (case z_sorted => k_is)
    (case z_dict => k_is)
    (case z_enumerate => k_is)
