import PyProof.Rows.All
import Wide.All
import OpenK.AllK
import Wide.FinOn
import PySem.Challenge.RW_quiltward_k18_wanted_changes
import HandS.ForSpec
import HandS.Comp
import HandS.AnyAll
import PyProof.GenQ
import PyProof.ToksMono
import HandS.Dict
import HandS.DictTup
import HandS.DictComp
import HandS.TupLen
import PyProof.DictMoreH
import PyProof.DictTruth
import HandS.EndTab
import HandS.Style
import PyProof.ReprRoads
import HandS.EndOwn
import KE.KDictKeyed
import KE.KeyNested
import HandS.Iter
import HandS.Walk
import KE.KDictCopyH
import HandS.More
import KE.SortData
import PyProof.Transfer
import HandS.ForMost
import HandS.RevRange
import HandS.TupLe
import HandS.StrMore
import HandS.IsInst
import HandS.Wide
import HandS.TupMul
import KE.DataEq
import KE.Datum
import KE.GoesEnum
import PyProof.Draws
import PyProof.EnumMake
import PyProof.StrOps2
import PyProof.StrLawsChain
import PyProof.StrLawsTight
import KE.KDictPairs
import KE.KDictOf
import HandS.DictEq
import HandS.ListEq
import KE.DataCmp
import HandS.SortRule
import PyProof.Rows.StrIntSpec
import PyProof.FString3
import HandS.FStr
import HandS.Text
import KE.DataFind
import PyProof.MinMaxWalk
import PyProof.WalkInts
import KE.GoesEnumKw
import KE.GoesMore
import HandS.SortKw
import HandS.Words
import KE.KRevSl
import HandS.Deep
set_option Elab.async false
set_option linter.all false
set_option maxRecDepth 100000
set_option maxHeartbeats 16000000
/-! the array of generators never shrinks -/
namespace GX
open PySem PySem.Spec PyProof.Rows L2 GxR

theorem runs_gens_le {M : Model} {Γ : PySem.Ctx} {p : Pos} {t : Sem Fin} {fs : List Frame} {s s' : Shared} {e : End} (h : Runs M Γ p t fs s e s') : s.gens.size ≤ s'.gens.size := by
  induction h <;> (try simp only [Shared.setGen, Array.size_push, Array.size_setIfInBounds] at *) <;> omega

theorem wakes_gens_le {M : Model} {Γ : PySem.Ctx} {p : Pos} {g : Nat} {r : Resume} {s s' : Shared} {res : GenResult} (h : Wakes M Γ p g r s res s') : s.gens.size ≤ s'.gens.size := by
  have sz : ∀ (z : Shared) x, (z.setGen g x).gens.size = z.gens.size := fun z x => by simp [Shared.setGen]
  unfold Wakes at h
  split at h
  · exact h.elim
  · split at h
    · obtain ⟨e₁, s₁, hr, _, _, rfl⟩ := h
      rw [sz]; exact (sz s .running) ▸ runs_gens_le hr
    · obtain ⟨_, rfl⟩ := h; first | exact Nat.le_refl _ | (rw [sz]; exact Nat.le_refl _)
    · obtain ⟨_, rfl⟩ := h; first | exact Nat.le_refl _ | (rw [sz]; exact Nat.le_refl _)
  · obtain ⟨e₁, s₁, hr, _, _, rfl⟩ := h
    rw [sz]; exact (sz s .running) ▸ runs_gens_le hr
  · obtain ⟨_, rfl⟩ := h; exact Nat.le_refl _
  · obtain ⟨_, rfl⟩ := h; exact Nat.le_refl _

theorem wp_gens {α : Type} (M : Model) (Γ : PySem.Ctx) (n : Nat) (t : Sem α) : ∀ (Q : α → Pos → Shared → Prop) (E : Value → Pos → Shared → Prop) (p : Pos) (s : Shared), n ≤ s.gens.size → Sem.wp M Γ t Q E p s →
    Sem.wp M Γ t (fun a p' s' => n ≤ s'.gens.size ∧ Q a p' s') (fun e p' s' => n ≤ s'.gens.size ∧ E e p' s') p s := by
  induction t with
  | pure a => intro Q E p s hn h; exact ⟨hn, h⟩
  | raise e => intro Q E p s hn h; exact ⟨hn, h⟩
  | unsupported _ => intro Q E p s _ h; exact h
  | finish _ => intro Q E p s _ h; exact h
  | rule _ k ih => intro Q E p s hn h; exact ih () Q E p s hn h
  | «at» p' k ih => intro Q E p s hn h; exact ih () Q E p' s hn h
  | load a _ k ih => intro Q E p s hn h; obtain ⟨o, ho, h⟩ := h; exact ⟨o, ho, ih o Q E p s hn h⟩
  | update a _ f k ih => intro Q E p s hn h; exact ⟨h.1, ih () Q E p _ hn h.2⟩
  | loadIfAlive a k ih => intro Q E p s hn h; exact ih _ Q E p s hn h
  | point _ k ih => intro Q E p s hn h; exact ih () Q E p s hn h
  | register _ _ => intro Q E p s _ h; exact h
  | alloc o k ih => intro Q E p s hn h; exact ih _ Q E p _ hn h
  | fresh k ih => intro Q E p s hn h; exact ih _ Q E p _ hn h
  | ask k ih => intro Q E p s hn h; exact ih _ Q E p s hn h
  | choose src m k ih => intro Q E p s hn h; exact ⟨h.1, ih _ Q E p _ hn h.2⟩
  | os q _ k ih => intro Q E p s hn h; exact ih _ Q E p _ hn h
  | call c hd _ _ k ih => intro Q E p s hn h; obtain ⟨r, s', hr, h⟩ := h; exact ⟨r, s', hr, ih r Q E p s' (Nat.le_trans hn (runs_gens_le hr)) h⟩
  | handled own k ih => intro Q E p s hn h; exact ih _ Q E p s hn h
  | genState g k ih => intro Q E p s hn h; obtain ⟨st, hs, h⟩ := h; exact ⟨st, hs, ih _ Q E p s hn h⟩
  | newGen c k ih => intro Q E p s hn h; exact ih _ Q E p _ (by show n ≤ (s.gens.push _).size; rw [Array.size_push]; exact Nat.le_succ_of_le hn) h
  | resume g r _ k ih => intro Q E p s hn h; obtain ⟨res, s', hw, h⟩ := h; exact ⟨res, s', hw, ih res Q E p s' (Nat.le_trans hn (wakes_gens_le hw)) h⟩
  | yield _ _ _ _ => intro Q E p s _ h; exact h
  | stack k ih => intro Q E p s hn h; exact ih _ Q E p s hn h
  | fork _ _ => intro Q E p s _ h; exact h
  | thread k ih => intro Q E p s hn h; exact ih _ Q E p s hn h
  | await _ _ _ _ _ => intro Q E p s _ h; exact h

theorem wpAny_with_gens {α : Type} {M : Model} {A : Around} {s : Shared} {t : Sem α} {Q : α → Shared → Prop} {E : Value → Shared → Prop} {n : Nat} (hn : n ≤ s.gens.size)
    (h : wpAny M A t (fun a s' => n ≤ s'.gens.size → Q a s') (fun e s' => n ≤ s'.gens.size → E e s') s) : wpAny M A t Q E s :=
  wpAny_mono (Q := fun a s' => n ≤ s'.gens.size ∧ (n ≤ s'.gens.size → Q a s')) (E := fun e s' => n ≤ s'.gens.size ∧ (n ≤ s'.gens.size → E e s')) (fun Γ p hΓ => wp_gens M Γ n t _ _ p s hn (h Γ p hΓ)) (fun _ _ x => x.2 x.1) (fun _ _ x => x.2 x.1)

/-- the invariant speaks of the heap; the generators' array is bare -/
theorem inv_heap {X : Cx} {pins : List (Addr × Obj)} {σ : L2.St} {H : Hp} {s s' : Shared} (I : Inv X pins σ H s) (h : s'.heap = s.heap) (ho : s'.os = s.os) (hb : AllBare s'.gens) : Inv X pins σ H s' := by
  obtain ⟨h1, g1, d1, t1, o1⟩ := s
  obtain ⟨h2, g2, d2, t2, o2⟩ := s'
  obtain rfl : h2 = h1 := h
  obtain rfl : o2 = o1 := ho
  exact ⟨I.ok, I.os, hb, I.base, I.loc, I.cell, I.free, I.freeC, I.pin, I.hok, I.len⟩
theorem bare_set {s : Shared} {g : Nat} {x : GenState} (h : AllBare s.gens) (hx : x.bare = true) : AllBare (s.setGen g x).gens := by
  intro y hy
  have hy : y ∈ s.gens.setIfInBounds g x := hy
  obtain ⟨i, hi, e⟩ := Array.mem_iff_getElem.mp hy
  have hi2 : i < s.gens.size := by simpa using hi
  rw [Array.getElem_setIfInBounds hi2] at e
  split at e
  · rw [← e]; exact hx
  · rw [← e]; exact h _ (Array.getElem_mem _)
end GX
namespace GX
open PySem PySem.Spec PyProof.Rows L2 GxR

/-- the context of a generator's body -/
abbrev gCx (X : Cx) (s : Shared) (H : Hp) (ce : Env) (fp : List Addr) (A' : Around) : Cx := { X with s_0 := s, H_0 := H, env := ce, outer := X.stack, stack := ce :: X.stack, ex := fp, fn := fun _ => false, pn := [], xe := fun _ _ => False, A := A' }

section
variable {X : Cx} {pins : List (Addr × Obj)} {σ : L2.St} {H : Hp} {s : Shared}
theorem gen_start {scope : Scope} {own : List (Str × Nat)} {fp : List Addr} {code : Value} {ce : Env} {a : Addr} {go : Obj} {A' : Around} {s' : Shared} {m : Str → Option Value} (I : Inv X pins σ H s) (ok : BlkOk X.N X.env.scope scope own) (nc : ∀ y ∈ scope.names, y.2 ≠ .cell)
    (hN : X.N.Nodup) (hfp : ∀ b ∈ fp, FpOk X pins H b ∧ b < s.heap.objs.size) (hd : X.calm = true → A'.handled = none) (hfr : A'.frames = some (ce :: X.stack))
    (hce : ce = genEnv scope (cloFrom X.env.cells scope.names []) s.heap.objs.size code builtinsNs X.env) (kp : ∀ b o, s.heap.get? b = some o → s'.heap.get? b = some o) (hns : s'.heap.Ns s.heap.objs.size m)
    (hgo : s'.heap.get? a = some go) (hga : s.heap.objs.size < a) (hgd : ∀ v, go.data ≠ .cell v) (hos : s'.os = s.os) (hb : AllBare s'.gens) :
    Inv (gCx X s H ce fp A') [(a, go)] (wipe σ (own.map (·.2))) H s' := by
  have hfree : ∀ y ∈ scope.names, y.2 = .free → ∃ c, X.env.cells.lookup y.1 = some c := fun y hy e => by
    rcases ok.free y hy e with k | k
    · exact I.ok.has _ (.inl k)
    · exact I.ok.has _ (.inr k)
  have hL : ce.locals = s.heap.objs.size := by rw [hce]; rfl
  have hcl : ce.cells = cloFrom X.env.cells scope.names [] := by rw [hce]; rfl
  have hsc : ce.scope = scope := by rw [hce]; rfl
  have hfm : ce.frame = some ce.locals := by rw [hce]; rfl
  have cm : ∀ {y c}, ce.cells.lookup y = some c → X.env.cells.lookup y = some c ∧ c < s.heap.objs.size := fun {y c} e => by
    rw [hcl] at e
    rcases cloFrom_mem (PySem.mem_of_lookup e) with hm | ⟨h1, rfl⟩
    · cases hm
    · obtain ⟨c, hc⟩ := hfree _ h1 rfl
      rw [hc]
      obtain ⟨w, z⟩ := I.cell _ _ hc
      exact ⟨rfl, z.lt⟩
  have look : ∀ {y}, scope.names.lookup y = some .free → ∃ c, ce.cells.lookup y = some c ∧ X.env.cells.lookup y = some c := fun {y} hl => by
    have hy : (y, NameKind.free) ∈ scope.names := PySem.mem_of_lookup hl
    obtain ⟨c', e'⟩ := mem_lookup (cloFrom_has (cells := X.env.cells) (acc := []) hy)
    rw [← hcl] at e'
    exact ⟨c', e', (cm e').1⟩
  have stk : ∀ b ∈ frs X.stack, b < s.heap.objs.size := fun b hb => by
    obtain ⟨_, o, ho, _⟩ := I.stack.mem hb
    exact Heap.lt_size ho
  have okB : (gCx X s H ce fp A').Ok := by
    refine ⟨I.ok.mod, by show ce.scope.kind = _; rw [hsc]; exact ok.kind, by show ce.globals = _; rw [hce]; exact I.ok.glob, by show ce.builtins = _; rw [hce]; rfl, by show s.heap.objs.size ≤ ce.locals; rw [hL]; exact Nat.le_refl _,
      fun y z c e1 e2 => I.ok.inj y z c (cm e1).1 (cm e2).1, fun y hy => ?_, fun y c z e => (by cases z), hd, hfr, .inr ⟨rfl, hfm⟩, fun b hb => ⟨?_, fun y c e z => (hfp b hb).1.2.2.2.2.1 y c (cm e).1 z⟩, I.bs, Nat.le_trans I.ok.bsz I.sz, fun b o e hb => ?_, fun b hb z => ?_, I.stack, I.stkFree⟩
    · show ∃ c, ce.cells.lookup y = some c
      have hy : ce.scope.names.lookup y = some .cell ∨ ce.scope.names.lookup y = some .free := hy
      rw [hsc] at hy
      rcases hy with hy | hy
      · exact absurd rfl (nc _ (PySem.mem_of_lookup hy))
      · obtain ⟨c, h1, _⟩ := look hy
        exact ⟨c, h1⟩
    · show b ≠ ce.locals
      rw [hL]; exact Nat.ne_of_lt (hfp b hb).2
    · rcases (hfp b hb).1.2.2.2.1 with z | z
      · exact I.ok.noex b o e z
      · exact absurd (Nat.lt_of_lt_of_le (Heap.lt_size e) (Nat.le_trans I.ok.bsz z)) (Nat.lt_irrefl _)
    · rcases List.mem_cons.mp (I.stkSub b z) with z | z
      · exact (hfp b hb).1.2.1 z
      · exact (hfp b hb).1.2.2.1 z
  refine ⟨okB, hos, hb, Un.kept kp, ⟨m, ?_, fun i y av e1 e2 e3 => ?_⟩, fun y c e => ?_, ?_, fun y c e => I.freeC y c (cm e).1, fun p hp => ?_, I.hok.kept kp, by rw [wipe_length]; exact I.len⟩
  · show Heap.Ns _ ce.locals _
    rw [hL]
    exact hns
  · obtain ⟨e2, hne⟩ := wipe_some e2
    have e3 : Vis ce.scope y := e3
    rw [hsc] at e3
    have no : ∀ k, scope.names.lookup y = some k → ¬ (k = .local ∨ k = .cell) := fun k e hh => by
      rcases ok.own _ (PySem.mem_of_lookup e) hh with e' | e'
      · obtain ⟨p, hp, hpy⟩ := List.mem_map.mp e'
        have e3 := ok.ix p hp
        have : p.1 = y := hpy
        rw [this] at e3
        exact hne (List.mem_map.mpr ⟨p, hp, nodup_ix hN e3 e1⟩)
      · exact e' (List.mem_of_getElem? e1)
    have hfr : scope.names.lookup y = some .free := by
      rcases e3 with e3 | e3 | e3
      · exact absurd (.inl rfl) (no _ e3)
      · exact absurd (.inr rfl) (no _ e3)
      · exact e3
    obtain ⟨m, hn, hl⟩ := I.loc
    have hvis : Vis X.env.scope y := (ok.free _ (PySem.mem_of_lookup hfr) rfl).elim (fun k => .inr (.inl k)) (fun k => .inr (.inr k))
    obtain ⟨w, r, q⟩ := hl i y av e1 e2 hvis
    obtain ⟨c, h1, h2⟩ := look hfr
    refine ⟨w, r, .inr ⟨.inr (show ce.scope.names.lookup y = _ by rw [hsc]; exact hfr), c, h1, ?_⟩⟩
    rcases q with ⟨k, _⟩ | ⟨_, c', e', z⟩
    · have k : X.env.scope.names.lookup y = some .local := k
      rcases ok.free _ (PySem.mem_of_lookup hfr) rfl with k' | k' <;> rw [show X.env.scope.names.lookup y = _ from k'] at k <;> cases k
    · rw [h2] at e'; cases e'
      exact z.keeps kp
  · obtain ⟨w, z⟩ := I.cell y c (cm e).1
    exact ⟨w, z.keeps kp⟩
  · show H ce.locals = none
    rw [hL]; exact I.hok.fresh (Nat.le_refl _)
  · have hp : p ∈ [] ++ [(a, go)] := hp
    have e : p = (a, go) := by simpa using hp
    subst e
    refine ⟨hgo, I.hok.fresh (Nat.le_of_lt hga), ?_, fun z => ?_, hgd⟩
    · show a ≠ ce.locals
      rw [hL]; exact Nat.ne_of_gt hga
    · exact absurd (Nat.lt_trans (stk a z) hga) (Nat.lt_irrefl _)
end

/-- what is wanted of a walk: W by the turn and a measure; d: the item that ends it -/
def Wk (d : Bool) (J : It) (g : TG) (tt : TT) (te : TE) (vs : List Nat) (σ : L2.St) (W : Nat → Nat → Hp → Prop) (Qe Qd : Hp → Prop) : Prop := ∀ i m H, W i m H →
  (J.stop i H ∧ Qe H) ∨ (J.go i H ∧ ∃ Nx : Hp → Prop, (∀ H', Nx H' → ∃ m', m' < m ∧ W (i + 1) m' H') ∧ ∀ x H', J.yld i H x H' → g x (wipe σ vs) H' fun σ2 H2 => wipe σ2 vs = wipe σ vs ∧ tt σ2 H2 fun b H3 =>
    if b = true then te σ2 H3 fun y H4 => ∃ c, y = .bl c ∧ if c = d then Qd H4 else Nx H4 else Nx H3)

section
variable {Y : Cx} {A : Around} {σ : L2.St} {vs : List Nat} {a : Addr} {go : Obj}
def YE (Y : Cx) (a : Addr) (go : Obj) (ws : L2.St) (Qe : Hp → Prop) (s : Shared) : Prop := ∃ H, Inv Y [(a, go)] ws H s ∧ Qe H
def YP (d : Bool) (Y : Cx) (a : Addr) (go : Obj) (ws : L2.St) (Qd : Hp → Prop) : Protocol := fun _ _ v s kap =>
  ∃ c H, v = .bool c ∧ Inv Y [(a, go)] ws H s ∧ if c = d then Qd H else ∀ s'' : Shared, s''.heap = s.heap → s''.os = s.os → AllBare s''.gens → kap (.send .none) s''
abbrev YR (Y : Cx) (a : Addr) (go : Obj) (ws : L2.St) (Qe : Hp → Prop) : GenEnd := fun n s₀ r s₁ => r = .ok .next ∧ (fun (_ : Nat) (_ s₁ : Shared) => YE Y a go ws Qe s₁) n s₀ s₁

theorem seg_gl {d : Bool} {tg elt iter : Expr} {ifs : List Expr} {scope : Scope} {pos : Pos} {it : Addr} {fp : List Addr} {tn : Nat → Heap → Prop} {J : It} {g : TG} {tt : TT} {te : TE} {W : Nat → Nat → Hp → Prop} {Qe Qd : Hp → Prop}
    (hA : Y.A = A.over (.compLoop (.GeneratorExp elt [⟨tg, iter, ifs, 0⟩] scope pos) 0 (.ref it) .none Y.env) []) (hc : Y.calm = true) (hco : Y.env.scope.isCoroutine = false) (T : Turn Y.prog Y.w Y.K tg J fp it tn)
    (hx : Y.ex = fp) (hpn : Y.pn = []) (hafp : a ∉ fp) (pg : PG Y tg g) (pt : PTs Y ifs tt) (pe : PE Y elt te) (hW : Wk d J g tt te vs σ W Qe Qd) (hxe : Y.xe = fun _ _ => False) :
    ∀ (m n : Nat), m < n → ∀ (i : Nat) (H : Hp) (s₀ s : Shared), Inv Y [(a, go)] (wipe σ vs) H s → tn i s.heap → (∀ b ∈ fp, H b = none) → W i m H →
      Seg (model Y.prog Y.w) A (YR Y a go (wipe σ vs) Qe) (YP d Y a go (wipe σ vs) Qd) n s₀
        (.compLoop (.GeneratorExp elt [⟨tg, iter, ifs, 0⟩] scope pos) 0 (.ref it) .none Y.env)
        ((model Y.prog Y.w).den (.compLoop (.GeneratorExp elt [⟨tg, iter, ifs, 0⟩] scope pos) 0 (.ref it) .none Y.env)) [] s := by
  intro m
  induction m using Nat.strongRecOn with
  | _ m ih =>
  intro n hmn i H s₀ s I st nf w
  have stat : ∀ {ps : List (Addr × Obj)} {σ' : L2.St} {H' : Hp} {s' : Shared}, Inv Y [(a, go)] σ' H' s' → (∀ b ∈ fp, H' b = none) → ∀ b ∈ fp, FpOk Y [(a, go)] H' b := fun {ps σ' H' s'} I' hn b hb =>
    ⟨hn b hb, (I'.ok.exf b (hx ▸ hb)).1, I'.ok.exfs b (hx ▸ hb), .inl (hx ▸ hb), fun x c e => (I'.ok.exf b (hx ▸ hb)).2 x c e, fun p hp => by
      rw [hpn] at hp
      have e : p = (a, go) := by simpa using hp
      rw [e]
      exact fun z => hafp (by rw [show a = b from z]; exact hb)⟩
  show Seg _ A _ _ _ s₀ _ ((compTurn (.GeneratorExp elt [⟨tg, iter, ifs, 0⟩] scope pos) 0 (.ref it) .none Y.env).onRaise (leaving Y.env)) [] s
  rw [compTurn_gen, Sem.onRaise_eq_wrap]
  refine seg_bind_wrap (wpAny_standAt ?_)
  rcases hW i m H w with ⟨stop, qe⟩ | ⟨go1, Nx, hNx, step⟩
  · refine seg_bind_wrap ?_
    rw [← hA]
    refine thnF (T.done Y rfl rfl rfl hc i _ s _ H (fun _ _ => False) I (stat (ps := []) I nf) st stop) fun r s1 ⟨hr, I1⟩ => ?_
    subst hr
    exact seg_end (.ok .next) ⟨rfl, H, I1, qe⟩
  · refine seg_bind_wrap ?_
    rw [← hA]
    refine thnF (T.item Y rfl rfl rfl hc i _ s _ H (fun _ _ => False) I (stat (ps := []) I nf) st go1) fun r s1 ⟨u, hr, h1⟩ => ?_
    subst hr
    refine seg_bind_wrap ?_
    rw [← hA]
    refine thnF h1 fun _ s2 ⟨x, H2, I2, r2, y2, st2, n2⟩ => ?_
    have I2' := I2.pinned (stat (ps := []) I2 n2) (T.obj _ _ st2)
    have pg1 := pg.run _ s2 _ H2 x u _ I2' r2 (step x H2 y2)
    rw [hxe] at pg1
    refine seg_bind_wrap ?_
    rw [← hA]
    refine thnF pg1 fun _ s3 ⟨σ3, H3, I3, hw3, q3⟩ => ?_
    have pt1 := pt.run _ s3 σ3 H3 _ I3 q3
    rw [hxe] at pt1
    refine seg_bind_wrap ?_
    rw [← hA]
    refine thnF pt1 fun b s4 ⟨H4, I4, q4⟩ => ?_
    -- the turn's end
    have fin : ∀ {s' : Shared} {H' : Hp}, Inv Y ([(a, go)] ++ pinsAt fp s2.heap) σ3 H' s' → Inv Y [(a, go)] (wipe σ vs) H' s' ∧ tn (i + 1) s'.heap ∧ (∀ b ∈ fp, H' b = none) := fun {s' H'} I' => by
      have pin' : ∀ b ∈ fp, ∀ o, s2.heap.get? b = some o → s'.heap.get? b = some o ∧ H' b = none := fun b hb o e =>
        let z := I'.pin (b, o) (List.mem_append_right _ (List.mem_append_right _ (mem_pinsAt hb e)))
        ⟨z.1, z.2.1⟩
      have hl : (wipe σ vs).length = σ3.length := by rw [← hw3, wipe_length]
      refine ⟨(I'.unpinned (pins := [(a, go)])).weak hl (fun j v e => ?_), T.keep _ _ _ st2 fun b hb o e => (pin' b hb o e).1, fun b hb => ?_⟩
      · rw [← hw3] at e
        exact (wipe_some e).1
      · obtain ⟨o, e, _⟩ := T.obj _ _ st2 b hb
        exact (pin' b hb o e).2
    cases b with
    | false =>
      simp only [Bool.false_eq_true, if_false] at q4 ⊢
      obtain ⟨m', hm, w'⟩ := hNx H4 q4
      obtain ⟨J1, J2, J3⟩ := fin I4
      exact seg_again rfl (ih m' hm n (by omega) (i + 1) H4 s₀ s4 J1 J2 J3 w')
    | true =>
      simp only [if_true] at q4 ⊢
      have hy : ∀ v, yieldOut Y.env v = yieldValue v := fun v => by simp only [yieldOut, hco, Bool.false_eq_true, if_false]
      simp only [hy]
      have pe1 := pe.run _ s4 σ3 H4 _ I4 q4
      rw [hxe] at pe1
      rw [Sem.bind_eq_wrap', Sem.bind_eq_wrap', Sem.wrap_wrap, Sem.wrap_wrap]
      refine seg_wrap ?_
      rw [← hA]
      refine thnF pe1 fun z s5 ⟨y, H5, I5, r5, c, ec, q5⟩ => ?_
      subst ec
      cases r5
      obtain ⟨J1, J2, J3⟩ := fin I5
      by_cases hcd : c = d
      · rw [if_pos hcd] at q5
        obtain ⟨n, rfl⟩ : ∃ k, n = k + 1 := ⟨n - 1, by omega⟩
        exact seg_at (seg_yield rfl rfl rfl ⟨c, H5, rfl, J1, by rw [if_pos hcd]; exact q5⟩)
      · rw [if_neg hcd] at q5
        obtain ⟨m', hm, w'⟩ := hNx H5 q5
        obtain ⟨n, rfl⟩ : ∃ k, n = k + 1 := ⟨n - 1, by omega⟩
        refine seg_at (seg_yield rfl rfl rfl ⟨c, H5, rfl, J1, ?_⟩)
        rw [if_neg hcd]
        intro s'' h1 h2 h3
        exact seg_again rfl (ih m' hm n (by omega) (i + 1) H5 s'' s'' (inv_heap J1 h1 h2 h3) (by rw [h1]; exact J2) J3 w')
end
end GX
namespace GX
open PySem PySem.Spec PyProof.Rows L2 GxR

section
variable {Y : Cx} {A : Around} {σ : L2.St} {vs : List Nat} {a : Addr} {go : Obj}
theorem seg_gs {d : Bool} {tg elt iter : Expr} {ifs : List Expr} {scope : Scope} {pos : Pos} {it : Addr} {fp : List Addr} {tn : Nat → Heap → Prop} {J : It} {g : TG} {tt : TT} {te : TE} {W : Nat → Nat → Hp → Prop} {Qe Qd : Hp → Prop}
    (hA : Y.A = A.over (.compLoop (.GeneratorExp elt [⟨tg, iter, ifs, 0⟩] scope pos) 0 (.ref it) .none Y.env) []) (hc : Y.calm = true) (hco : Y.env.scope.isCoroutine = false) (T : Turn Y.prog Y.w Y.K tg J fp it tn)
    (hx : Y.ex = fp) (hpn : Y.pn = []) (hafp : a ∉ fp) (pg : PG Y tg g) (pt : PTs Y ifs tt) (pe : PE Y elt te) (hW : Wk d J g tt te vs σ W Qe Qd) (hxe : Y.xe = fun _ _ => False)
    (m : Nat) (H : Hp) (s₀ s : Shared) (I : Inv Y [(a, go)] (wipe σ vs) H s) (st : tn 0 s.heap) (nf : ∀ b ∈ fp, H b = none) (w : W 0 m H) :
      Seg (model Y.prog Y.w) A (YR Y a go (wipe σ vs) Qe) (YP d Y a go (wipe σ vs) Qd) (m + 1) s₀
        (.compStart (.GeneratorExp elt [⟨tg, iter, ifs, 0⟩] scope pos) 0 (.ref it) .none Y.env)
        ((model Y.prog Y.w).den (.compStart (.GeneratorExp elt [⟨tg, iter, ifs, 0⟩] scope pos) 0 (.ref it) .none Y.env)) [] s := by
  have loop := seg_gl (iter := iter) (scope := scope) (pos := pos) hA hc hco T hx hpn hafp pg pt pe hW hxe m (m + 1) (Nat.lt_succ_self m) 0 H s₀ s I st nf w
  show Seg _ A _ _ _ s₀ _ ((compStart (.GeneratorExp elt [⟨tg, iter, ifs, 0⟩] scope pos) 0 (.ref it) .none Y.env).onRaise (leaving Y.env)) [] s
  unfold compStart
  rw [Sem.onRaise_eq_wrap]
  show Seg _ A _ _ _ s₀ _ ((ask >>= _).wrap _ _ _ _) [] s
  refine seg_bind_wrap (wpAny_askSetting ?_)
  split
  · exact seg_again rfl loop
  · first
      | exact seg_bind_wrap (wpAny_rule (seg_bind_wrap (wpAny_standAt (seg_bind_wrap (T.self _ 0 s _ _ st (seg_again rfl loop))))))
      | (refine seg_bind_wrap (wpAny_rule ?_); show Seg _ A _ _ _ s₀ _ ((standAt iter.pos >>= _).wrap _ _ _ _) [] s; exact seg_bind_wrap (wpAny_standAt (seg_bind_wrap (T.self _ 0 s _ _ st (seg_again rfl loop)))))

/-- the loop of all(..) -/
theorem loop_all {prog : Program} {w : World} {gn : Nat} {ws : L2.St} {Qe Qd : Hp → Prop} {Rr : Result → Shared → Prop} (hh : A.handled = none) (hroom : A.depth < recursionLimit) (hgo : ∀ h : Heap, h.get? a = some go → h.IsGen a gn)
    (hT : ∀ s₁ h', YE Y a go ws Qe s₁ → (∀ b o, s₁.heap.get? b = some o → h'.get? b = some o) → Rr (.ok (.ret (.bool true))) { s₁.setGen gn .finished with heap := h' })
    (hF : ∀ s₁ gs' H, gs'.bare = true → Inv Y [(a, go)] ws H s₁ → Qd H → Rr (.ok (.ret (.bool false))) (s₁.setGen gn gs')) :
    ∀ (n : Nat) (s : Shared) (gs : GenState), s.heap.get? a = some go → s.heap.NoLimit → AllBare s.gens → s.gens[gn]? = some gs →
      (∀ s'' : Shared, s''.heap = s.heap → s''.os = s.os → AllBare s''.gens → gs.Goes (model prog w) A.in1.in1 (YR Y a go ws Qe) (YP false Y a go ws Qd) n (.send .none) s'') →
      codeAny (model prog w) A (.builtin "all.loop" ⟨[.ref a], []⟩) Rr s := by
  intro n
  induction n with
  | zero =>
    intro s gs hg hl hb hgs hgoes
    refine codeAny_builtin F.entry_all_loop ?_
    rw [Around.under_plainId F.plain_all_loop _]
    show wpAny _ A.in1 (pyNext (.ref a) >>= _) _ _ s
    refine wpAny_bind (wpAny_pyNext_genexpQ (P := fun _ _ s₁ => YE Y a go ws Qe s₁) hh hl hroom (hgo _ hg) hgs (hgoes _ rfl rfl (bare_set hb rfl)) (fun v s₁ gs' hb' hv => ?_) (fun s₁ hp h' hk => ?_))
    · obtain ⟨c, H, rfl, I, q⟩ := hv
      cases c with
      | false =>
        rw [if_pos rfl] at q
        refine wpAny_bind (wpAny_holding (wpAny_truthy_bool (wpAny_bind (wpAny_letGo ?_))))
        refine wpAny_bind (wpAny_rule (wpAny_pure ?_))
        exact hF s₁ gs' H hb' I q
      | true =>
        rw [if_neg (by decide)] at q
        exact (q s₁ rfl rfl I.bare).elim
    · refine wpAny_bind (wpAny_rule (wpAny_pure ?_))
      exact hT s₁ h' hp hk
  | succ n ih =>
    intro s gs hg hl hb hgs hgoes
    have hlt : gn < s.gens.size := by
      rcases Nat.lt_or_ge gn s.gens.size with h' | h'
      · exact h'
      · rw [Array.getElem?_eq_none h'] at hgs; cases hgs
    refine codeAny_builtin F.entry_all_loop ?_
    rw [Around.under_plainId F.plain_all_loop _]
    show wpAny _ A.in1 (pyNext (.ref a) >>= _) _ _ s
    refine wpAny_bind (wpAny_with_gens (Nat.le_refl s.gens.size) (wpAny_pyNext_genexpQ (P := fun _ _ s₁ => YE Y a go ws Qe s₁) hh hl hroom (hgo _ hg) hgs (hgoes _ rfl rfl (bare_set hb rfl)) (fun v s₁ gs' hb' hv => ?_) (fun s₁ hp h' hk => ?_)))
    · intro hsz
      have hsz : s.gens.size ≤ s₁.gens.size := by
        have z : s.gens.size ≤ (s₁.setGen gn gs').gens.size := hsz
        simpa [Shared.setGen] using z
      obtain ⟨c, H, rfl, I, q⟩ := hv
      cases c with
      | false =>
        rw [if_pos rfl] at q
        refine wpAny_bind (wpAny_holding (wpAny_truthy_bool (wpAny_bind (wpAny_letGo ?_))))
        refine wpAny_bind (wpAny_rule (wpAny_pure ?_))
        exact hF s₁ gs' H hb' I q
      | true =>
        rw [if_neg (by decide)] at q
        refine wpAny_bind (wpAny_holding (wpAny_truthy_bool (wpAny_bind (wpAny_letGo ?_))))
        refine wpAny_pure ⟨plainId_quiet F.plain_all_loop _, ih (s₁.setGen gn gs') gs' ?_ ?_ (bare_set I.bare hb') ?_ fun s'' h1 h2 h3 => q s'' h1 h2 h3⟩
        · exact (I.pin (a, go) (List.mem_append_right _ (List.mem_singleton.mpr rfl))).1
        · exact I.nolimit
        · show (s₁.gens.setIfInBounds gn gs')[gn]? = some gs'
          rw [Array.getElem?_setIfInBounds_self_of_lt (Nat.lt_of_lt_of_le hlt hsz)]
    · intro _
      refine wpAny_bind (wpAny_rule (wpAny_pure ?_))
      exact hT s₁ h' hp hk

/-- the loop of any(..) -/
theorem loop_any {prog : Program} {w : World} {gn : Nat} {ws : L2.St} {Qe Qd : Hp → Prop} {Rr : Result → Shared → Prop} (hh : A.handled = none) (hroom : A.depth < recursionLimit) (hgo : ∀ h : Heap, h.get? a = some go → h.IsGen a gn)
    (hT : ∀ s₁ h', YE Y a go ws Qe s₁ → (∀ b o, s₁.heap.get? b = some o → h'.get? b = some o) → Rr (.ok (.ret (.bool false))) { s₁.setGen gn .finished with heap := h' })
    (hF : ∀ s₁ gs' H, gs'.bare = true → Inv Y [(a, go)] ws H s₁ → Qd H → Rr (.ok (.ret (.bool true))) (s₁.setGen gn gs')) :
    ∀ (n : Nat) (s : Shared) (gs : GenState), s.heap.get? a = some go → s.heap.NoLimit → AllBare s.gens → s.gens[gn]? = some gs →
      (∀ s'' : Shared, s''.heap = s.heap → s''.os = s.os → AllBare s''.gens → gs.Goes (model prog w) A.in1.in1 (YR Y a go ws Qe) (YP true Y a go ws Qd) n (.send .none) s'') →
      codeAny (model prog w) A (.builtin "any.loop" ⟨[.ref a], []⟩) Rr s := by
  intro n
  induction n with
  | zero =>
    intro s gs hg hl hb hgs hgoes
    refine codeAny_builtin F.entry_any_loop ?_
    rw [Around.under_plainId F.plain_any_loop _]
    show wpAny _ A.in1 (pyNext (.ref a) >>= _) _ _ s
    refine wpAny_bind (wpAny_pyNext_genexpQ (P := fun _ _ s₁ => YE Y a go ws Qe s₁) hh hl hroom (hgo _ hg) hgs (hgoes _ rfl rfl (bare_set hb rfl)) (fun v s₁ gs' hb' hv => ?_) (fun s₁ hp h' hk => ?_))
    · obtain ⟨c, H, rfl, I, q⟩ := hv
      cases c with
      | true =>
        rw [if_pos rfl] at q
        refine wpAny_bind (wpAny_holding (wpAny_truthy_bool (wpAny_bind (wpAny_letGo ?_))))
        refine wpAny_bind (wpAny_rule (wpAny_pure ?_))
        exact hF s₁ gs' H hb' I q
      | false =>
        rw [if_neg (by decide)] at q
        exact (q s₁ rfl rfl I.bare).elim
    · refine wpAny_bind (wpAny_rule (wpAny_pure ?_))
      exact hT s₁ h' hp hk
  | succ n ih =>
    intro s gs hg hl hb hgs hgoes
    have hlt : gn < s.gens.size := by
      rcases Nat.lt_or_ge gn s.gens.size with h' | h'
      · exact h'
      · rw [Array.getElem?_eq_none h'] at hgs; cases hgs
    refine codeAny_builtin F.entry_any_loop ?_
    rw [Around.under_plainId F.plain_any_loop _]
    show wpAny _ A.in1 (pyNext (.ref a) >>= _) _ _ s
    refine wpAny_bind (wpAny_with_gens (Nat.le_refl s.gens.size) (wpAny_pyNext_genexpQ (P := fun _ _ s₁ => YE Y a go ws Qe s₁) hh hl hroom (hgo _ hg) hgs (hgoes _ rfl rfl (bare_set hb rfl)) (fun v s₁ gs' hb' hv => ?_) (fun s₁ hp h' hk => ?_)))
    · intro hsz
      have hsz : s.gens.size ≤ s₁.gens.size := by
        have z : s.gens.size ≤ (s₁.setGen gn gs').gens.size := hsz
        simpa [Shared.setGen] using z
      obtain ⟨c, H, rfl, I, q⟩ := hv
      cases c with
      | true =>
        rw [if_pos rfl] at q
        refine wpAny_bind (wpAny_holding (wpAny_truthy_bool (wpAny_bind (wpAny_letGo ?_))))
        refine wpAny_bind (wpAny_rule (wpAny_pure ?_))
        exact hF s₁ gs' H hb' I q
      | false =>
        rw [if_neg (by decide)] at q
        refine wpAny_bind (wpAny_holding (wpAny_truthy_bool (wpAny_bind (wpAny_letGo ?_))))
        refine wpAny_pure ⟨plainId_quiet F.plain_any_loop _, ih (s₁.setGen gn gs') gs' ?_ ?_ (bare_set I.bare hb') ?_ fun s'' h1 h2 h3 => q s'' h1 h2 h3⟩
        · exact (I.pin (a, go) (List.mem_append_right _ (List.mem_singleton.mpr rfl))).1
        · exact I.nolimit
        · show (s₁.gens.setIfInBounds gn gs')[gn]? = some gs'
          rw [Array.getElem?_setIfInBounds_self_of_lt (Nat.lt_of_lt_of_le hlt hsz)]
    · intro _
      refine wpAny_bind (wpAny_rule (wpAny_pure ?_))
      exact hT s₁ h' hp hk
end

theorem room_over {k : Nat} {A : Around} {elt : Expr} {gs : List Comprehension} {scope : Scope} {pos : Pos} {it acc : Value} {ce : Env} (hr : Room (k + 1) A) : Room k (A.in1.in1.over (.compLoop (.GeneratorExp elt gs scope pos) 0 it acc ce) []) := by
  have h1 := hr.hd
  have h2 := hr.dp
  have h3 := hr.un
  have w : (Code.compLoop (.GeneratorExp elt gs scope pos) 0 it acc ce).weight = 1 := rfl
  have u : (Code.compLoop (.GeneratorExp elt gs scope pos) 0 it acc ce).cUnits = 3 := rfl
  refine ⟨h1, ?_, ?_⟩
  · show A.depth + 0 + _ + 3 * k + 5 < _
    rw [w]; omega
  · show A.units + 1 + 1 + 0 + _ + 16 * k + 200 < _
    rw [u]; omega
theorem frames_over {A : Around} {elt : Expr} {gs : List Comprehension} {scope : Scope} {pos : Pos} {it acc : Value} {ce : Env} {l : List Env} (hf : A.frames = some l) : (A.in1.in1.over (.compLoop (.GeneratorExp elt gs scope pos) 0 it acc ce) []).frames = some (ce :: l) := by
  show pushEnvs [ce] (pushEnvs [] A.frames) = _
  rw [hf]; rfl
end GX
namespace GX
open PySem PySem.Spec PyProof.Rows L2 GxR

/-- a generator expression's names, code, table -/
structure GenX (X : Cx) (scope : Scope) (own : List (Str × Nat)) (c P : Addr) : Prop where
  ok : BlkOk X.N X.env.scope scope own
  nc : ∀ y ∈ scope.names, y.2 ≠ .cell
  co : scope.isCoroutine = false
  dot : scope.names.lookup (".0" : Str) = some NameKind.local
  tb : TabB X.base X.mg c P
  code : X.env.code = .ref c

abbrev gEnv (X : Cx) (scope : Scope) (C : Addr) (code : Value) : Env := genEnv scope (cloFrom X.env.cells scope.names []) C code builtinsNs X.env

section
variable {X : Cx} {pins : List (Addr × Obj)} {σ : L2.St} {H : Hp} {s : Shared}
/-- the generator is made -/
def GReady (d : Bool) (X : Cx) (pins : List (Addr × Obj)) (σ : L2.St) (Qe Qd : Hp → Prop) (u : Value) (s5 : Shared) : Prop :=
  ∃ (a : Addr) (gn : Nat) (go : Obj) (Y : Cx) (ws : L2.St) (n : Nat) (gs : GenState), u = .ref a ∧ (∀ h : Heap, h.get? a = some go → h.IsGen a gn) ∧ s5.heap.get? a = some go ∧ s5.heap.NoLimit ∧ AllBare s5.gens ∧ s5.gens[gn]? = some gs ∧
    (∀ s'' : Shared, s''.heap = s5.heap → s''.os = s5.os → AllBare s''.gens → gs.Goes (model X.prog X.w) X.A.in1.in1 (YR Y a go ws Qe) (YP d Y a go ws Qd) n (.send .none) s'') ∧
    (∀ s₁ H s', Inv Y [(a, go)] ws H s₁ → s'.os = s₁.os → (∀ b o, s₁.heap.get? b = some o → s'.heap.get? b = some o) → AllBare s'.gens → Inv X pins σ H s')

theorem gen_makeG {d : Bool} {tg elt iter : Expr} {ifs : List Expr} {scope : Scope} {own : List (Str × Nat)} {gpos : Pos} {c P : Addr} {wi : TI} {g : TG} {tt : TT} {te : TE} {k : Nat} {Qe Qd : Hp → Prop}
    (hr : Room (k + 1) X.A) (hc : X.calm = true) (hN : X.N.Nodup) (G : GenX X scope own c P) (hs : ∀ v, genFold iter X.env v = pure v) (hi : PI X tg iter wi)
    (hg : ∀ (s : Shared) (H : Hp) (C : Addr) (code : Value) (fp : List Addr) (A' : Around), Room k A' → PG (gCx X s H (gEnv X scope C code) fp A') tg g)
    (ht : ∀ (s : Shared) (H : Hp) (C : Addr) (code : Value) (fp : List Addr) (A' : Around), Room k A' → PTs (gCx X s H (gEnv X scope C code) fp A') ifs tt)
    (he : ∀ (s : Shared) (H : Hp) (C : Addr) (code : Value) (fp : List Addr) (A' : Around), Room k A' → PE (gCx X s H (gEnv X scope C code) fp A') elt te)
    (I : Inv X pins σ H s)
    (h : wi σ H fun J H1 => TabG H1 P ∧ ∀ H2, Tabbed P H1 H2 → ∃ W : Nat → Nat → Hp → Prop, (∃ m, W 0 m H2) ∧ Wk d J g tt te (own.map (·.2)) σ W Qe Qd) :
    wpAny (model X.prog X.w) X.A (eval (.GeneratorExp elt [⟨tg, iter, ifs, 0⟩] scope gpos) X.env) (GReady d X pins σ Qe Qd) X.xe s := by
  have ok := G.ok
  have hfree : ∀ y ∈ scope.names, y.2 = .free → ∃ c, X.env.cells.lookup y.1 = some c := fun y hy e => by
    rcases ok.free y hy e with k | k
    · exact I.ok.has _ (.inl k)
    · exact I.ok.has _ (.inr k)
  have dp := hr.dp
  refine wpAny_GeneratorExp_make G.co (closure_ok hfree) G.nc G.dot ok.kind (by omega) (thn (hi.run pins s σ H _ I h) fun xv s1 hx => thn hx fun itv s2 h2 => ?_) hs
  obtain ⟨it, fp, tn, J, H1, e, I1, T, st1, f1, ⟨ps, hP, hps⟩, q⟩ := h2
  subst e
  refine ⟨I1.nolimit, ?_⟩
  have tb0 : s2.heap.get? P = some { cls := .none, data := .fields ps } := I1.hok P _ hP
  have code1 : PySem.W.CodeHd s2.heap c P := G.tb.code.keeps fun b o e => I1.bk b o e
  have rest : ∀ (code : Value) (h3 : Heap) (tk : Nat) (ps3 : Array Value), Heap.ExtBut P s2.heap h3 → s2.heap.objs.size ≤ h3.objs.size → h3.get? P = some { cls := .none, data := .fields ps3 } →
      (∃ q, ps3 = ps ++ q) → TriplesOk ps3.toList →
      wpAny (model X.prog X.w) X.A (builtinsFor X.env.globals X.env.builtins) (fun bi s4 => ∀ h', h'.Ns s4.heap.objs.size (fun y => if y = ".0" then some (Value.ref it) else none) → Heap.SameBut s4.heap.objs.size (s4.heap.push { cls := .type "frame", data := .dict #[] }) h' →
          GReady d X pins σ Qe Qd (.ref h'.objs.size) { s4 with
            gens := s4.gens.push (.fresh (.compStart (.GeneratorExp elt [⟨tg, iter, ifs, 0⟩] scope gpos) 0 (.ref it) .none (genEnv scope (cloFrom X.env.cells scope.names []) s4.heap.objs.size code bi X.env))),
            toks := s4.toks + 1 + 1 + 1,
            heap := h'.push { cls := .type "generator", data := .fields #[.int s4.gens.size 0, .str "<genexpr>" (s4.toks + 1), .str (X.env.qual ++ "<genexpr>") (s4.toks + 1 + 1)] } }) X.xe { s2 with heap := h3, toks := tk } := by
    intro code h3 tk ps3 ext le3 tb3 ⟨qq, hq⟩ ok3
    obtain ⟨bm, om, m1, m2, m3, m4, m5, m6, m7, m8⟩ := G.tb.bm
    have k3 : ∀ b o, b ≠ P → s2.heap.get? b = some o → h3.get? b = some o := fun b o ne e => ext b o ne e
    refine wpAny_builtinsFor (m := X.mg) ?_ m1 m2 (k3 _ _ m4 (I1.bk _ _ m5)) m6 m7 m8 ?_
    · rw [I1.ok.glob]
      exact (I1.mod.glob.keeps I1.bk).extBut ext G.tb.gP
    rw [hq] at tb3
    have I4 : Inv X pins σ (upd H1 P (.tbl (ps ++ qq))) { s2 with heap := h3, toks := tk } := inv_tab (g' := s2.gens) (d' := s2.drawn) (t' := tk) I1 hP k3 tb3 I1.bare
    generalize hH4 : upd H1 P (.tbl (ps ++ qq)) = H4 at I4
    have TbG : Tabbed P H1 H4 := by
      subst hH4
      exact ⟨⟨ps ++ qq, upd_same, by rw [← hq]; exact ok3⟩, fun b ne => upd_ne ne⟩
    have nP : ∀ b ∈ fp, b ≠ P := fun b hb z => by
      have := (f1 b hb).1
      rw [z, hP] at this
      cases this
    have sz : ∀ b ∈ fp, b < s2.heap.objs.size := fun b hb => by
      obtain ⟨o, e, _⟩ := T.obj _ _ st1 b hb
      exact Heap.lt_size e
    have f4 : ∀ b ∈ fp, FpOk X pins H4 b ∧ b < h3.objs.size := fun b hb =>
      ⟨⟨by rw [TbG.2 b (nP b hb)]; exact (f1 b hb).1, (f1 b hb).2⟩, Nat.lt_of_lt_of_le (sz b hb) le3⟩
    have st3 : tn 0 h3 := T.keep _ _ _ st1 fun b hb o e => k3 b o (nP b hb) e
    obtain ⟨W, ⟨m0, w0⟩, hW⟩ := q H4 TbG
    generalize hs4 : ({ s2 with heap := h3, toks := tk } : Shared) = s4 at I4 ⊢
    have hh4 : s4.heap = h3 := by rw [← hs4]
    have f4 : ∀ b ∈ fp, FpOk X pins H4 b ∧ b < s4.heap.objs.size := by rw [hh4]; exact f4
    have st4 : tn 0 s4.heap := by rw [hh4]; exact st3
    intro h' hn' hs'
    have hsz : h'.objs.size = s4.heap.objs.size + 1 := by rw [hs'.1, Heap.size_push]
    have keep' : ∀ b o, s4.heap.get? b = some o → h'.get? b = some o := fun b o e => hs'.extBut b o (Nat.ne_of_lt (Heap.lt_size e)) (Heap.get?_push_of_some _ e)
    generalize hgo : ({ cls := .type "generator", data := .fields #[.int s4.gens.size 0, .str "<genexpr>" (s4.toks + 1), .str (X.env.qual ++ "<genexpr>") (s4.toks + 1 + 1)] } : Obj) = go
    have gog : ∀ h : Heap, h.get? h'.objs.size = some go → h.IsGen h'.objs.size s4.gens.size := fun h e => by
      rw [← hgo] at e
      exact ⟨_, _, _, e, rfl, rfl, rfl⟩
    have keep5 : ∀ b o, s4.heap.get? b = some o → (h'.push go).get? b = some o := fun b o e => Heap.get?_push_of_some _ (keep' b o e)
    have gfree : go.isFreed = false := by rw [← hgo]; rfl
    have hgoAt : (h'.push go).get? h'.objs.size = some go := Heap.get?_push_size _ gfree
    generalize hce : genEnv scope (cloFrom X.env.cells scope.names []) s4.heap.objs.size code builtinsNs X.env = ce
    generalize hA' : X.A.in1.in1.over (.compLoop (.GeneratorExp elt [⟨tg, iter, ifs, 0⟩] scope gpos) 0 (.ref it) .none ce) [] = A'
    have rm : Room k A' := by rw [← hA']; exact room_over hr
    have fr : A'.frames = some (ce :: X.stack) := by rw [← hA']; exact frames_over I1.ok.frames
    have bare5 : ∀ (x : GenState), x.bare = true → AllBare (s4.gens.push x) := fun x hx => I4.bare.push hx
    have I5 : ∀ (gs : Array GenState) (tk5 : Nat), AllBare gs → Inv (gCx X s4 H4 ce fp A') [(h'.objs.size, go)] (wipe σ (own.map (·.2))) H4 { s4 with gens := gs, toks := tk5, heap := h'.push go } := fun gs tk5 hb =>
      gen_start (X := X) (s := s4) (H := H4) (scope := scope) (own := own) (code := code) (m := fun y => if y = ".0" then some (Value.ref it) else none) I4 ok G.nc hN f4 (fun _ => rm.hd) fr hce.symm keep5 (hn'.push _) hgoAt (by rw [hsz]; exact Nat.lt_succ_self _) (fun v z => by rw [← hgo] at z; cases z) rfl hb
    have pg := hg s4 H4 s4.heap.objs.size code fp A' rm
    have pt := ht s4 H4 s4.heap.objs.size code fp A' rm
    have pe := he s4 H4 s4.heap.objs.size code fp A' rm
    have hce' : gEnv X scope s4.heap.objs.size code = ce := hce
    rw [hce'] at pg pt pe
    have cco : ce.scope.isCoroutine = false := by rw [← hce]; exact G.co
    refine ⟨h'.objs.size, s4.gens.size, go, gCx X s4 H4 ce fp A', wipe σ (own.map (·.2)), m0 + 1, _, rfl, gog, hgoAt, I4.nolimit.keeps keep5, bare5 _ rfl, Array.getElem?_push_size .., fun s'' h1 h2 h3' => ⟨rfl, ?_⟩, fun s₁ H' s' I6 ho kk hb => ?_⟩
    · refine seg_gs (Y := gCx X s4 H4 ce fp A') (fp := fp) (tn := tn) (J := J) (W := W) hA'.symm hc cco T rfl rfl (fun z => ?_) pg pt pe hW rfl m0 H4 s'' s'' (inv_heap (I5 (s4.gens.push .finished) 0 (bare5 _ rfl)) h1 h2 h3') ?_ (fun b hb => (f4 b hb).1.1) w0
      · have z2 : h'.objs.size < s4.heap.objs.size := (f4 _ z).2
        rw [hsz] at z2
        exact absurd z2 (by omega)
      · rw [h1]
        exact T.keep _ _ _ st4 fun b _ o e => keep5 b o e
    · exact I4.call' (ch := fp) (ho.trans I6.os) (Un.trans I6.base (Un.kept kk)) (I6.hok.kept kk) hb fun b hb => ⟨(f4 b hb).1.2.2.2.1, (f4 b hb).1.2.1, (f4 b hb).1.2.2.2.2.1, (f4 b hb).1.2.2.2.2.2⟩
  cases hcd : codeAmong gpos ps.toList with
  | some cv =>
    exact wpAny_genexprCode_hit G.code (code1.code tb0 hps) hcd (rest cv _ s2.toks ps (Heap.ExtBut.refl _ _) (Nat.le_refl _) tb0 ⟨#[], (Array.append_empty).symm⟩ hps)
  | none =>
    refine wpAny_genexprCodeX G.code (code1.code tb0 hps) (code1.tab tb0) hcd ?_
    intro c' h' tk ext ge lt isC _ tab' _
    obtain ⟨o1, v1, f1, f2, f3, f4, f5, f6, f7, f8, _, _, _, _, _, _, _, _, _, okT, _⟩ := isC
    exact rest _ h' tk _ ext (Nat.le_trans ge (Nat.le_of_lt lt)) tab'.2 ⟨_, rfl⟩ okT

/-- all(elt for tg in iter if ..), any(..): W by the turn and a measure -/
def tWalk (d : Bool) (P : Addr) (wi : TI) (g : TG) (tt : TT) (te : TE) (vs : List Nat) : TE := fun σ H Q => wi σ H fun J H1 => TabG H1 P ∧ ∀ H2, Tabbed P H1 H2 → ∃ W : Nat → Nat → Hp → Prop, (∃ m, W 0 m H2) ∧
  Wk d J g tt te vs σ W (fun H => Q (.bl (!d)) H) (fun H => Q (.bl d) H)

theorem pe_allG {tg elt iter : Expr} {ifs : List Expr} {scope : Scope} {own : List (Str × Nat)} {gpos p pos : Pos} {c P : Addr} {wi : TI} {g : TG} {tt : TT} {te : TE} {k : Nat}
    (hr : Room (k + 1) X.A) (hc : X.calm = true) (hN : X.N.Nodup) (hgl : Gl X "all") (hm : X.mg "all" = none) (G : GenX X scope own c P) (hi : PI X tg iter wi)
    (hg : ∀ (s : Shared) (H : Hp) (C : Addr) (code : Value) (fp : List Addr) (A' : Around), Room k A' → PG (gCx X s H (gEnv X scope C code) fp A') tg g)
    (ht : ∀ (s : Shared) (H : Hp) (C : Addr) (code : Value) (fp : List Addr) (A' : Around), Room k A' → PTs (gCx X s H (gEnv X scope C code) fp A') ifs tt)
    (he : ∀ (s : Shared) (H : Hp) (C : Addr) (code : Value) (fp : List Addr) (A' : Around), Room k A' → PE (gCx X s H (gEnv X scope C code) fp A') elt te)
    (hs : ∀ v, genFold iter X.env v = pure v)
    (hst : starEach [.GeneratorExp elt [⟨tg, iter, ifs, 0⟩] scope gpos] X.env = (false, eval (.GeneratorExp elt [⟨tg, iter, ifs, 0⟩] scope gpos) X.env) :: starEach [] X.env := by rfl) :
    PE X (.Call (.Name "all" p) [.GeneratorExp elt [⟨tg, iter, ifs, 0⟩] scope gpos] [] pos) (tWalk false P wi g tt te (own.map (·.2))) := by
  refine ⟨fun pins s σ H Q I h => ?_⟩
  refine wpAny_Call_Name_kw (ld_blt I hgl hm (show bootBuiltins "all" = some (.builtin "all") by decide +kernel) ?_)
  refine PyProof.Rows.callWith_builtin1 ?_ hst (by rfl)
  rw [hst]
  have dp := hr.dp
  refine Calls.spliced_cons (thn (gen_makeG (d := false) hr hc hN G hs hi hg ht he I h) fun u s5 R => ?_)
  obtain ⟨a, gn, go, Y, ws, n, gs, rfl, gog, hgo, hl, hb, hgs, goes, back⟩ := R
  refine Calls.spliced_nil (call_function_tree F.kind_all F.plain_all F.entry_all (F.args_all1 _) ?_)
  unfold Builtin.«all»
  refine wpAny_bind (m := oneArg "all" _) (wpAny_pure ?_)
  refine wpAny_bind (wpAny_pyIter_gen (gog _ hgo) (wpAny_pure ⟨plainId_quiet F.plain_all_loop _, loop_all (Y := Y) (go := go) (ws := ws) (Qe := fun H => Q (.bl (!false)) H) (Qd := fun H => Q (.bl false) H) hr.hd (by omega) gog (fun s₁ h' ⟨H', I', q⟩ hk => ?_) (fun s₁ gs' H' hb' I' q => ?_) n s5 gs hgo hl hb hgs goes⟩))
  · exact ⟨.bl false, H', back s₁ H' _ I' rfl (fun _ _ e => e) (bare_set I'.bare hb'), rfl, q⟩
  · exact ⟨.bl true, H', back s₁ H' _ I' rfl hk (bare_set I'.bare rfl), rfl, q⟩

theorem pe_anyG {tg elt iter : Expr} {ifs : List Expr} {scope : Scope} {own : List (Str × Nat)} {gpos p pos : Pos} {c P : Addr} {wi : TI} {g : TG} {tt : TT} {te : TE} {k : Nat}
    (hr : Room (k + 1) X.A) (hc : X.calm = true) (hN : X.N.Nodup) (hgl : Gl X "any") (hm : X.mg "any" = none) (G : GenX X scope own c P) (hi : PI X tg iter wi)
    (hg : ∀ (s : Shared) (H : Hp) (C : Addr) (code : Value) (fp : List Addr) (A' : Around), Room k A' → PG (gCx X s H (gEnv X scope C code) fp A') tg g)
    (ht : ∀ (s : Shared) (H : Hp) (C : Addr) (code : Value) (fp : List Addr) (A' : Around), Room k A' → PTs (gCx X s H (gEnv X scope C code) fp A') ifs tt)
    (he : ∀ (s : Shared) (H : Hp) (C : Addr) (code : Value) (fp : List Addr) (A' : Around), Room k A' → PE (gCx X s H (gEnv X scope C code) fp A') elt te)
    (hs : ∀ v, genFold iter X.env v = pure v)
    (hst : starEach [.GeneratorExp elt [⟨tg, iter, ifs, 0⟩] scope gpos] X.env = (false, eval (.GeneratorExp elt [⟨tg, iter, ifs, 0⟩] scope gpos) X.env) :: starEach [] X.env := by rfl) :
    PE X (.Call (.Name "any" p) [.GeneratorExp elt [⟨tg, iter, ifs, 0⟩] scope gpos] [] pos) (tWalk true P wi g tt te (own.map (·.2))) := by
  refine ⟨fun pins s σ H Q I h => ?_⟩
  refine wpAny_Call_Name_kw (ld_blt I hgl hm (show bootBuiltins "any" = some (.builtin "any") by decide +kernel) ?_)
  refine PyProof.Rows.callWith_builtin1 ?_ hst (by rfl)
  rw [hst]
  have dp := hr.dp
  refine Calls.spliced_cons (thn (gen_makeG (d := true) hr hc hN G hs hi hg ht he I h) fun u s5 R => ?_)
  obtain ⟨a, gn, go, Y, ws, n, gs, rfl, gog, hgo, hl, hb, hgs, goes, back⟩ := R
  refine Calls.spliced_nil (call_function_tree F.kind_any F.plain_any F.entry_any (F.args_any1 _) ?_)
  unfold Builtin.«any»
  refine wpAny_bind (m := oneArg "any" _) (wpAny_pure ?_)
  refine wpAny_bind (wpAny_pyIter_gen (gog _ hgo) (wpAny_pure ⟨plainId_quiet F.plain_any_loop _, loop_any (Y := Y) (go := go) (ws := ws) (Qe := fun H => Q (.bl (!true)) H) (Qd := fun H => Q (.bl true) H) hr.hd (by omega) gog (fun s₁ h' ⟨H', I', q⟩ hk => ?_) (fun s₁ gs' H' hb' I' q => ?_) n s5 gs hgo hl hb hgs goes⟩))
  · exact ⟨.bl true, H', back s₁ H' _ I' rfl (fun _ _ e => e) (bare_set I'.bare hb'), rfl, q⟩
  · exact ⟨.bl false, H', back s₁ H' _ I' rfl hk (bare_set I'.bare rfl), rfl, q⟩
end
end GX
namespace GX
open PySem PySem.Spec PyProof.Rows L2 GxR
/-! the walks of all(..), any(..) by an invariant -/
theorem wk_range {d : Bool} {lo : Int} {n : Nat} {g : TG} {tt : TT} {te : TE} {vs : List Nat} {σ : L2.St} {Qe Qd : Hp → Prop} {H0 : Hp} (Pv : Nat → Hp → Prop) (h0 : Pv 0 H0)
    (hs : ∀ i H, i < n → Pv i H → g (.int (lo + i)) (wipe σ vs) H fun σ2 H2 => wipe σ2 vs = wipe σ vs ∧ tt σ2 H2 fun b H3 =>
      if b = true then te σ2 H3 fun y H4 => ∃ c, y = .bl c ∧ if c = d then Qd H4 else Pv (i + 1) H4 else Pv (i + 1) H3) (hd : ∀ H, Pv n H → Qe H) :
    ∃ W : Nat → Nat → Hp → Prop, (∃ m, W 0 m H0) ∧ Wk d (Itr lo n) g tt te vs σ W Qe Qd := by
  refine ⟨fun i m H => m = n - i ∧ i ≤ n ∧ Pv i H, ⟨n, by simp, Nat.zero_le _, h0⟩, ?_⟩
  rintro i m H ⟨rfl, hi, p⟩
  by_cases hlt : i < n
  · refine .inr ⟨hlt, Pv (i + 1), fun H' p' => ⟨n - (i + 1), by omega, rfl, hlt, p'⟩, fun x H' y => ?_⟩
    obtain ⟨rfl, rfl⟩ := y
    exact hs i _ hlt p
  · have e : i = n := by omega
    subst e
    exact .inl ⟨Nat.le_refl _, hd H p⟩
theorem wk_list {d : Bool} {K : PySem.W.Frag} {a : Addr} {xs : List V} {g : TG} {tt : TT} {te : TE} {vs : List Nat} {σ : L2.St} {Qe Qd : Hp → Prop} {H0 : Hp} (Pv : Nat → Hp → Prop) (h0 : Pv 0 H0) (hl : ∀ i H, i ≤ xs.length → Pv i H → SqL K H a xs)
    (hs : ∀ i x H, xs[i]? = some x → Pv i H → g x (wipe σ vs) H fun σ2 H2 => wipe σ2 vs = wipe σ vs ∧ tt σ2 H2 fun b H3 =>
      if b = true then te σ2 H3 fun y H4 => ∃ c, y = .bl c ∧ if c = d then Qd H4 else Pv (i + 1) H4 else Pv (i + 1) H3) (hd : ∀ H, Pv xs.length H → Qe H) :
    ∃ W : Nat → Nat → Hp → Prop, (∃ m, W 0 m H0) ∧ Wk d (Itl K a) g tt te vs σ W Qe Qd := by
  refine ⟨fun i m H => m = xs.length - i ∧ i ≤ xs.length ∧ Pv i H, ⟨xs.length, by simp, Nat.zero_le _, h0⟩, ?_⟩
  rintro i m H ⟨rfl, hi, p⟩
  have q := hl i H hi p
  by_cases hlt : i < xs.length
  · refine .inr ⟨⟨xs, xs[i], q, by simp [hlt]⟩, Pv (i + 1), fun H' p' => ⟨xs.length - (i + 1), by omega, rfl, hlt, p'⟩, fun x H' y => ?_⟩
    obtain ⟨rfl, e⟩ := y
    exact hs i x _ (e xs q) p
  · have e : i = xs.length := by omega
    subst e
    exact .inl ⟨⟨xs, q, Nat.le_refl _⟩, hd H p⟩
end GX
/-! dicts keyed by tuples: del, truth, comprehensions; a dict comprehension whatever its keys are -/
namespace GX
open PySem PySem.Spec PyProof.Rows L2 GxR

section
variable {X : Cx}
theorem ktDrop {H : Hp} {kvs : List (List Key × V)} {xs : List (List Key × Addr × Value)} (k : List Key) (h : KT H kvs xs) : KT H (dropK kvs k) (withoutH xs k) := DX.KT_drop k h
/-- del d[y], keys tuples -/
def sDDelT (td ty : TE) : TS := fun D σ H => td σ H fun x H1 => ty σ H1 fun y H2 => ∃ (a : Addr) (kvs : List (List Key × V)) (k : List Key) (b : Addr), x = .ref a ∧ H2 a = some (.dT kvs) ∧ y = .ref b ∧ H2 b = some (.tup (k.map kV)) ∧ (valV kvs k).isSome = true ∧ D.nx σ (upd H2 a (.dT (dropK kvs k)))
theorem ps_ddelT {o i : Expr} {pos tpos : Pos} {td ty : TE} (hu : X.A.units + 1 < cLine) (ho : PE X o td) (hi : PE X i ty) : PS X (.Delete [.Subscript o i tpos] pos) (sDDelT td ty) := by
  refine ⟨fun pins s σ H D I h => ?_⟩
  refine wpAny_Delete (wpAny_deleteEach_cons (wpAny_delete_Subscript (thn (ho.run pins s σ H _ I h) fun u s1 ⟨x, H1, I1, rx, q1⟩ => thn (hi.run pins s1 σ H1 _ I1 q1) fun iv s2 ⟨y, H2, I2, ry, a, kvs, k, b, ex, e, ey, eb, l, q2⟩ => ?_)))
  subst ex ey
  obtain rfl : u = Value.ref a := rx
  obtain rfl : iv = Value.ref b := ry
  obtain ⟨z, hd, xs, rel, dd⟩ := dt_of I2.hok e
  have hz : xs.length ≤ sizeLine := by rw [← Paired.length rel]; exact z
  have r := rel.val k
  obtain ⟨v0, ev⟩ := Option.isSome_iff_exists.mp l
  obtain ⟨w', hw, _⟩ := RelO.some_of (v := v0) (o := (atKey xs k).map (·.2)) (by rw [← ev]; exact r)
  obtain ⟨p, hp, _⟩ := Option.map_eq_some_iff.mp hw
  refine wpAny_delItem_heap (hsz := hz) (tupleKind_room_in1 hu) (key_of I2.hok eb) hd dd hp fun h' dd' hs => ?_
  obtain ⟨q, es, ep, hq, h2, h3, h4, _, h5⟩ := dd'
  refine wpAny_deleteEach_nil ⟨σ, _, d_write (ob := .dT (dropK kvs k)) I2 (by rw [e]; exact True.intro) hs ⟨q, hq⟩ ⟨Nat.le_trans (dropK_le kvs k) z, hd, _, (ktDrop k rel).keeps fun c ys ec => ?_, q, es, ep, hq, h2, h3, h4, h5⟩, q2⟩
  rw [upd_ne (ne_of ec e (fun z => nomatch z))]
  exact ec
end
section
variable {prog : Program} {w : World} {κ : Type} [DecidableEq κ] {knd : HeapKind prog w κ} {A : Around} {E : Value → Shared → Prop} {s : Shared}
/-- the truth of a dict whose keys stand in the heap -/
theorem truthy_dictH {d : Addr} {xs : List (κ × Addr × Value)} {Q : Bool → Shared → Prop} (hd : (d == sysModules) = false) (hm : s.heap.DictOfH knd d xs) (hfit : (xs.length : Int) < 2 ^ 63)
    (h : Q (!xs.isEmpty) { s with toks := s.toks + 1 + 1 }) : wpAny (model prog w) A (truthy (.ref d)) Q E s := by
  have hne : ((xs.length : Int) != 0) = !xs.isEmpty := by cases xs <;> simp <;> omega
  have len : wpAny (model prog w) A (runValue (.builtin "len" ⟨[.ref d], []⟩)) (fun r s' => r = .int xs.length (s.toks + 1) ∧ Q (!xs.isEmpty) s') E s := by
    refine wpAny_runValue (codeAny_builtin entry_len ?_)
    rw [Around.under_plainId plain_len _]
    exact wpAny_mono (wpAny_len_body_dictH (Q := fun r s' => r = .int xs.length (s.toks + 1) ∧ Q (!xs.isEmpty) s') hd hm hfit ⟨rfl, h⟩) (fun fin s' ⟨r, e, q⟩ => by subst e; exact q) fun _ _ e => e
  have fin : ∀ (r : Value) (s' : Shared), (r = .int xs.length (s.toks + 1) ∧ Q (!xs.isEmpty) s') → wpAny (model prog w) A (match r with | .int n _ => pure (n != 0) | _ => pure true) Q E s' := fun r s' ⟨e, q⟩ => by
    subst e
    exact wpAny_pure (hne ▸ q)
  unfold truthy
  first
    | refine wpAny_bind (wpAny_callSpecial?_none (name := Str.ofString "__bool__") hm.typeIs noBool_dict ?_)
    | refine wpAny_bind (wpAny_pure (wpAny_bind (wpAny_callSpecial?_none (name := Str.ofString "__bool__") hm.typeIs noBool_dict ?_)))
  first
    | refine wpAny_bind (wpAny_specialOf (name := Str.ofString "__len__") hm.typeIs F.slot_dict_len.lookup ?_)
    | refine wpAny_bind (wpAny_pure (wpAny_bind (wpAny_specialOf (name := Str.ofString "__len__") hm.typeIs F.slot_dict_len.lookup ?_)))
  first
    | exact wpAny_bind (wpAny_mono len (fun r s' ⟨e, q⟩ => by subst e; exact wpAny_pure (hne ▸ q)) fun _ _ e => e)
    | exact wpAny_bind (wpAny_pure (wpAny_bind (wpAny_mono len (fun r s' ⟨e, q⟩ => by subst e; exact wpAny_pure (hne ▸ q)) fun _ _ e => e)))
end
section
variable {X : Cx}
def tTruT (ta : TE) : TT := fun σ H Q => ta σ H fun x H1 => ∃ (a : Addr) (kvs : List (List Key × V)), x = .ref a ∧ H1 a = some (.dT kvs) ∧ Q (!kvs.isEmpty) H1
theorem pt_truT {e : Expr} {ta : TE} (ha : PE X e ta) (he : ∀ whole, isTrue e X.env whole = (do let v ← whole; standAt e.pos; holding [v] (truthy v))) : PT X e (tTruT ta) := by
  refine ⟨fun pins s σ H Q I h => ?_⟩
  refine isTrue_plain (thn (ha.run pins s σ H _ I h) fun v s1 ⟨x, H1, I1, r1, a, kvs, ex, e1, q⟩ => ?_) (he _)
  subst ex
  obtain rfl : v = Value.ref a := r1
  obtain ⟨z, hd, xs, rel, dd⟩ := dt_of I1.hok e1
  have hl : kvs.length = xs.length := Paired.length rel
  have h63 := line63
  have ee : xs.isEmpty = kvs.isEmpty := by
    cases kvs with
    | nil => cases xs with
      | nil => rfl
      | cons _ _ => cases hl
    | cons _ _ => cases xs with
      | nil => cases hl
      | cons _ _ => rfl
  exact truthy_dictH hd dd (by omega) ⟨H1, I1.tok _, by rw [ee]; exact q⟩

/-! ### a dict comprehension: o0 the empty dict, put the reading of a store -/
def PutR (put : Addr → V → V → Hp → (Hp → Prop) → Prop) (X : Cx) : Prop := ∀ (pins : List (Addr × Obj)) (s : Shared) (σ : L2.St) (H : Hp) (D : Addr) (y z : V) (u r : Value) (N : Hp → Prop), Inv X pins σ H s → RelV y u → RelV z r → put D y z H N →
  wpAny (model X.prog X.w) X.A (dictSet D u r) (fun _ s' => ∃ H', Inv X pins σ H' s' ∧ N H') (fun _ _ => False) s
def tDg (o0 : Addr → HO) (put : Addr → V → V → Hp → (Hp → Prop) → Prop) (wi : TI) (g : TG) (tt : TT) (tk tv : TE) (vs : List Nat) : TE := fun σ H Q => wi σ H fun J H1 => ∀ D, H1 D = none → ∃ W : Nat → Nat → Hp → Prop, (∃ m, W 0 m (upd H1 D (o0 D))) ∧ ∀ i m H, W i m H →
  (J.stop i H ∧ Q (.ref D) H) ∨ (J.go i H ∧ ∃ Nx : Hp → Prop, (∀ H', Nx H' → ∃ m', m' < m ∧ W (i + 1) m' H') ∧ ∀ x H', J.yld i H x H' → g x (wipe σ vs) H' fun σ2 H2 => wipe σ2 vs = wipe σ vs ∧ tt σ2 H2 fun b H3 =>
    if b = true then tk σ2 H3 fun y H4 => tv σ2 H4 fun z H5 => put D y z H5 Nx else Nx H3)
theorem dg_core {o0 : Addr → HO} {put : Addr → V → V → Hp → (Hp → Prop) → Prop} {pins : List (Addr × Obj)} {s : Shared} {σ : L2.St} {H : Hp} {Q : VK} {kx vx tg iter : Expr} {ifs : List Expr} {scope : Scope} {own : List (Str × Nat)} {pos pos' : Pos} {wi : TI} {g : TG} {tt : TT} {tk tv : TE} {use : Option (Value → Sem Unit)} {Qf : Value → Shared → Prop}
    (he0 : ∀ (H : Hp) (h : Heap), sysModules < h.objs.size → ObjOk X.prog X.w H (h.push { cls := .type "dict", data := .dict #[] }) h.objs.size (o0 h.objs.size))
    (hc : X.calm = true) (hN : X.N.Nodup) (I : Inv X pins σ H s) (hi : PI X tg iter wi) (ok : BlkOk X.N X.env.scope scope own)
    (hg : ∀ (s : Shared) (H : Hp) (C : Addr) (cl : List (Str × Addr)) (fp : List Addr), PG (X.blk s H scope (compEnvC scope cl C X.env) fp) tg g) (ht : ∀ (s : Shared) (H : Hp) (C : Addr) (cl : List (Str × Addr)) (fp : List Addr), PTs (X.blk s H scope (compEnvC scope cl C X.env) fp) ifs tt)
    (hk : ∀ (s : Shared) (H : Hp) (C : Addr) (cl : List (Str × Addr)) (fp : List Addr), PE (X.blk s H scope (compEnvC scope cl C X.env) fp) kx tk)
    (he : ∀ (s : Shared) (H : Hp) (C : Addr) (cl : List (Str × Addr)) (fp : List Addr), PE (X.blk s H scope (compEnvC scope cl C X.env) fp) vx tv)
    (hp : ∀ (s : Shared) (H : Hp) (C : Addr) (cl : List (Str × Addr)) (fp : List Addr), PutR put (X.blk s H scope (compEnvC scope cl C X.env) fp)) (hs : ∀ x, foldedSetIterable iter X.env x = pure x)
    (h : tDg o0 put wi g tt tk tv (own.map (·.2)) σ H Q)
    (hRR : ∀ D C s' m H', Inv X pins σ H' s' → Q (.ref D) H' → s'.heap.Ns C m → FpOk X pins H' C → compPost (model X.prog X.w) X.A X.xe use Qf (.ref D) C (.ok .next) s') :
    wpAny (model X.prog X.w) X.A (comprehension (.DictComp kx vx [⟨tg, iter, ifs, 0⟩] scope pos) scope X.env pos' newDict false (eval iter X.env) use) Qf X.xe s := by
  have hfree : ∀ y ∈ scope.names, y.2 = .free → ∃ c, X.env.cells.lookup y.1 = some c := fun y hy e => (ok.free y hy e).elim (fun k => I.ok.has _ (.inl k)) fun k => I.ok.has _ (.inr k)
  refine wpAny_comprehension_free (use := use) rfl hs (closure_ok hfree) ok.kind (fun y hy e => by rw [ok.uniq y hy, e]) (thn (hi.run pins s σ H _ I h) fun xv s1 hx => thn hx fun itv s2 ⟨it, fp, tn, J, H2, e, I2, T, st2, f2, q⟩ => ?_)
  subst e
  refine wpAny_newObj_type (newEnv_comp ?_)
  obtain ⟨W, ⟨m0, w0⟩, turn⟩ := q s2.heap.objs.size (I2.hok.fresh (Nat.le_refl _))
  have I3 : Inv X pins σ (upd H2 s2.heap.objs.size (o0 s2.heap.objs.size)) { s2 with heap := s2.heap.push { cls := .type "dict", data := .dict #[] } } :=
    I2.laid (t' := s2.toks) (fun b o e => Heap.get?_push_of_some _ e) (Nat.le_refl _) (he0 _ _ I2.big)
  have f3 : ∀ b ∈ fp, FpOk X pins (upd H2 s2.heap.objs.size (o0 s2.heap.objs.size)) b ∧ b < (s2.heap.push { cls := .type "dict", data := .dict #[] }).objs.size := fun b hb => by
    obtain ⟨o, e, _⟩ := T.obj _ _ st2 b hb
    have hlt := Heap.lt_size e
    exact ⟨⟨by rw [upd_ne (Nat.ne_of_lt hlt)]; exact (f2 b hb).1, (f2 b hb).2⟩, by rw [Heap.size_push]; exact Nat.lt_succ_of_lt hlt⟩
  have st3 : tn 0 (s2.heap.push { cls := .type "dict", data := .dict #[] }) := T.keep _ _ _ st2 fun b _ o e => Heap.get?_push_of_some _ e
  generalize s2.heap.objs.size = D at I3 f3 w0 turn ⊢
  generalize hs3 : ({ s2 with heap := s2.heap.push { cls := .type "dict", data := .dict #[] } } : Shared) = s3 at I3 ⊢
  have h3 : s2.heap.push { cls := .type "dict", data := .dict #[] } = s3.heap := by rw [← hs3]
  rw [h3] at f3 st3
  have I4 := block_start I3 ok hN f3
  have pg := hg s3 (upd H2 D (o0 D)) s3.heap.objs.size (cellsFrom (s3.heap.objs.size + 1) scope.names (cloFrom X.env.cells scope.names [])) fp
  have pt := ht s3 (upd H2 D (o0 D)) s3.heap.objs.size (cellsFrom (s3.heap.objs.size + 1) scope.names (cloFrom X.env.cells scope.names [])) fp
  have pk := hk s3 (upd H2 D (o0 D)) s3.heap.objs.size (cellsFrom (s3.heap.objs.size + 1) scope.names (cloFrom X.env.cells scope.names [])) fp
  have pe := he s3 (upd H2 D (o0 D)) s3.heap.objs.size (cellsFrom (s3.heap.objs.size + 1) scope.names (cloFrom X.env.cells scope.names [])) fp
  have pp := hp s3 (upd H2 D (o0 D)) s3.heap.objs.size (cellsFrom (s3.heap.objs.size + 1) scope.names (cloFrom X.env.cells scope.names [])) fp
  show codeAny _ _ (.compStart (.DictComp kx vx [⟨tg, iter, ifs, 0⟩] scope pos) 0 (.ref it) (.ref D) (compEnvC scope (cellsFrom (s3.heap.objs.size + 1) scope.names (cloFrom X.env.cells scope.names [])) s3.heap.objs.size X.env)) (compPost (model X.prog X.w) X.A X.xe use Qf (.ref D) s3.heap.objs.size) { s3 with heap := pushCells (s3.heap.push { cls := .type "dict", data := .dict #[] }) scope.names }
  generalize hce : compEnvC scope (cellsFrom (s3.heap.objs.size + 1) scope.names (cloFrom X.env.cells scope.names [])) s3.heap.objs.size X.env = ce at I4 pg pt pk pe pp ⊢
  have cL : ce.locals = s3.heap.objs.size := by rw [← hce]; rfl
  have nfp : ∀ b ∈ fp, upd H2 D (o0 D) b = none := fun b hb => (f3 b hb).1.1
  generalize upd H2 D (o0 D) = H3 at I3 I4 pg pt pk pe pp w0 nfp f3
  have st4 : tn 0 (pushCells (s3.heap.push { cls := .type "dict", data := .dict #[] }) scope.names) := T.keep _ _ _ st3 fun b _ o e => pushCells_keeps _ _ _ _ (Heap.get?_push_of_some _ e)
  generalize hs4 : ({ s3 with heap := pushCells (s3.heap.push { cls := .type "dict", data := .dict #[] }) scope.names } : Shared) = s4 at I4 ⊢
  have st4 : tn 0 s4.heap := by rw [← hs4]; exact st4
  generalize hY : X.blk s3 H3 scope ce fp = Y at I4 pg pt pk pe pp
  have yx : Y.ex = fp ∧ Y.pn = [] ∧ Y.prog = X.prog ∧ Y.w = X.w ∧ Y.K = X.K ∧ Y.calm = true ∧ Y.A = X.A ∧ Y.env = ce ∧ Y.xe = (fun _ _ => False) ∧ Y.fs = frs X.stack ∧ Y.H_0 = H3 ∧ Y.s_0 = s3 := by
    rw [← hY]
    exact ⟨rfl, rfl, rfl, rfl, rfl, hc, rfl, rfl, rfl, rfl, rfl, rfl⟩
  obtain ⟨y1, y2, y3, y4, y5, y6, y7, y8, y9, y10, y11, y12⟩ := yx
  have T0 := T
  have T : Turn Y.prog Y.w Y.K tg J fp it tn := by rw [y3, y4, y5]; exact T
  have stat : ∀ {σ' : L2.St} {H' : Hp} {s' : Shared}, Inv Y [] σ' H' s' → (∀ b ∈ fp, H' b = none) → ∀ b ∈ fp, FpOk Y [] H' b := fun {σ' H' s'} I' hn b hb =>
    ⟨hn b hb, (I'.ok.exf b (y1 ▸ hb)).1, I'.ok.exfs b (y1 ▸ hb), .inl (y1 ▸ hb), fun x c e => (I'.ok.exf b (y1 ▸ hb)).2 x c e, fun p hp => by rw [y2] at hp; cases hp⟩
  have loop : codeAny (model X.prog X.w) X.A (.compLoop (.DictComp kx vx [⟨tg, iter, ifs, 0⟩] scope pos) 0 (.ref it) (.ref D) ce) (compPost (model X.prog X.w) X.A X.xe use Qf (.ref D) s3.heap.objs.size) s4 := by
    refine compLoop_anyD (fun n s' => ∃ i H', Inv Y [] (wipe σ (own.map (·.2))) H' s' ∧ tn i s'.heap ∧ (∀ b ∈ fp, H' b = none) ∧ W i n H') ?_ m0 ⟨0, H3, I4, st4, nfp, w0⟩
    rw [← y3, ← y4, ← y7, ← y8]
    rintro n s5 ⟨i, H5, I5, st5, n5, w5⟩
    rcases turn i n H5 w5 with ⟨stop, qq⟩ | ⟨go, Nx, hNx, step⟩
    · refine thnF (T.done Y rfl rfl rfl y6 i [] s5 _ H5 (fun _ _ => False) I5 (stat I5 n5) st5 stop) fun r s6 ⟨hr, I6⟩ => ?_
      subst hr
      have b6 := I6.base
      rw [y10, y1, y11, y12] at b6
      have o6 := I6.os
      rw [y12] at o6
      have k6 := I6.hok
      rw [y3, y4] at k6
      have I7 : Inv X pins σ H5 s6 := I3.call' (ch := fp) o6 b6 k6 I6.bare fun b hb => ⟨(f3 b hb).1.2.2.2.1, (f3 b hb).1.2.1, (f3 b hb).1.2.2.2.2.1, (f3 b hb).1.2.2.2.2.2⟩
      have nC : H5 s3.heap.objs.size = none := by
        have z := I6.free
        rw [y8, cL] at z
        exact z
      obtain ⟨m, hn, _⟩ := I6.loc
      rw [y8, cL] at hn
      show compPost _ _ _ _ _ _ _ _ _
      rw [y3, y4, y7]
      exact hRR D s3.heap.objs.size s6 m H5 I7 qq hn (I3.fpOk (Nat.le_refl _) nC)
    · refine thnF (T.item Y rfl rfl rfl y6 i [] s5 _ H5 (fun _ _ => False) I5 (stat I5 n5) st5 go) fun r s6 ⟨u, hr, h6⟩ => ?_
      subst hr
      refine thnF h6 fun _ s7 ⟨x, H7, I7, r7, yy, st7, n7⟩ => ?_
      have I7' := I7.pinned (stat I7 n7) (T.obj _ _ st7)
      have a1 := pg.run _ s7 _ H7 x u _ I7' r7 (step x H7 yy)
      rw [y9] at a1
      refine thnF a1 fun _ s8 ⟨σ8, H8, I8, hw8, q8⟩ => ?_
      have a2 := pt.run _ s8 σ8 H8 _ I8 q8
      rw [y9] at a2
      refine thnF a2 fun b s9 ⟨H9, I9, q9⟩ => ?_
      have fin : ∀ {s' : Shared} {H' : Hp}, Inv Y ([] ++ pinsAt fp s7.heap) σ8 H' s' → Nx H' → ∃ m, m < n ∧ ∃ i H', Inv Y [] (wipe σ (own.map (·.2))) H' s' ∧ tn i s'.heap ∧ (∀ b ∈ fp, H' b = none) ∧ W i m H' := fun {s' H'} I' nx => by
        obtain ⟨m', hm, w'⟩ := hNx H' nx
        have pin' : ∀ b ∈ fp, ∀ o, s7.heap.get? b = some o → s'.heap.get? b = some o ∧ H' b = none := fun b hb o e =>
          let z := I'.pin (b, o) (List.mem_append_right _ (List.mem_append_right _ (mem_pinsAt hb e)))
          ⟨z.1, z.2.1⟩
        refine ⟨m', hm, i + 1, H', (I'.unpinned (pins := [])).weak (by rw [← wipe_length σ8 (own.map (·.2)), hw8]) (fun j v e => ?_), T.keep _ _ _ st7 fun b hb o e => (pin' b hb o e).1, fun b hb => ?_, w'⟩
        · rw [← hw8] at e
          exact (wipe_some e).1
        · obtain ⟨o, e, _⟩ := T.obj _ _ st7 b hb
          exact (pin' b hb o e).2
      cases b with
      | false =>
        simp only [Bool.false_eq_true, if_false] at q9 ⊢
        exact fin I9 q9
      | true =>
        simp only [if_true] at q9 ⊢
        have a3 := pk.run _ s9 σ8 H9 _ I9 q9
        rw [y9] at a3
        refine thnF a3 fun z s10 ⟨yk, H10, I10, r10, q10⟩ => ?_
        have a4 := pe.run _ s10 σ8 H10 _ I10 q10
        rw [y9] at a4
        refine thnF a4 fun z2 s11 ⟨yv, H11, I11, r11, q11⟩ => ?_
        exact thnF (pp _ s11 σ8 H11 D yk yv z z2 Nx I11 r10 r11 q11) fun _ s12 ⟨H12, I12, nx⟩ => fin I12 nx
  exact codeAny_compStart_dict loop (T0.self X.A 0 _ _ _ st4 loop)
theorem pe_dg {o0 : Addr → HO} {put : Addr → V → V → Hp → (Hp → Prop) → Prop} {kx vx tg iter : Expr} {ifs : List Expr} {scope : Scope} {own : List (Str × Nat)} {pos : Pos} {wi : TI} {g : TG} {tt : TT} {tk tv : TE}
    (he0 : ∀ (H : Hp) (h : Heap), sysModules < h.objs.size → ObjOk X.prog X.w H (h.push { cls := .type "dict", data := .dict #[] }) h.objs.size (o0 h.objs.size)) (hc : X.calm = true) (hN : X.N.Nodup) (hi : PI X tg iter wi) (ok : BlkOk X.N X.env.scope scope own)
    (hg : ∀ (s : Shared) (H : Hp) (C : Addr) (cl : List (Str × Addr)) (fp : List Addr), PG (X.blk s H scope (compEnvC scope cl C X.env) fp) tg g) (ht : ∀ (s : Shared) (H : Hp) (C : Addr) (cl : List (Str × Addr)) (fp : List Addr), PTs (X.blk s H scope (compEnvC scope cl C X.env) fp) ifs tt)
    (hk : ∀ (s : Shared) (H : Hp) (C : Addr) (cl : List (Str × Addr)) (fp : List Addr), PE (X.blk s H scope (compEnvC scope cl C X.env) fp) kx tk)
    (he : ∀ (s : Shared) (H : Hp) (C : Addr) (cl : List (Str × Addr)) (fp : List Addr), PE (X.blk s H scope (compEnvC scope cl C X.env) fp) vx tv)
    (hp : ∀ (s : Shared) (H : Hp) (C : Addr) (cl : List (Str × Addr)) (fp : List Addr), PutR put (X.blk s H scope (compEnvC scope cl C X.env) fp)) (hs : ∀ x, foldedSetIterable iter X.env x = pure x := by intro _; rfl) :
    PE X (.DictComp kx vx [⟨tg, iter, ifs, 0⟩] scope pos) (tDg o0 put wi g tt tk tv (own.map (·.2))) := by
  refine ⟨fun pins s σ H Q I h => ?_⟩
  rw [arm_eval_DictComp]
  refine dg_core he0 hc hN I hi ok hg ht hk he hp hs h fun D C s' m H' I' q hn ⟨f0, f1, f2, f3, f4, f5⟩ => ⟨m, hn, fun h'' sb => ?_⟩
  exact ⟨.ref D, H', I'.turned (t' := s'.toks) (fun b o hb e => (sb.2 b hb).trans e) f0 f1 f3 f4 f5, rfl, q⟩
theorem sw_dict {kx vx : Expr} {gs : List Comprehension} {scope : Scope} {pos py : Pos} {y : Str} {l : Nat} {env : Env} (hk : env.scope.kind = .function) (hy : env.scope.names.lookup y = some .local) (hl : (py.line == pos.line) = true)
    (ha : (scope.names.any fun (n, k) => n == y && (k == .local || k == .cell)) = false) : swapsWith (.DictComp kx vx gs scope pos) (some (.Name y py)) l env = pure true := by
  have h1 : env.kindOf y = some .local := hy
  have h2 : env.blockKind = .function := by unfold Env.blockKind; rw [hk]; rfl
  unfold swapsWith
  simp only [h2, h1, ha, Expr.pos, hl]
  rfl
/-- name = {..} on one line, the name a local -/
theorem ps_setDg {o0 : Addr → HO} {put : Addr → V → V → Hp → (Hp → Prop) → Prop} {i : Nat} {y : Str} {py : Pos} {kx vx tg iter : Expr} {ifs : List Expr} {scope : Scope} {own : List (Str × Nat)} {pos spos : Pos} {wi : TI} {g : TG} {tt : TT} {tk tv : TE}
    (he0 : ∀ (H : Hp) (h : Heap), sysModules < h.objs.size → ObjOk X.prog X.w H (h.push { cls := .type "dict", data := .dict #[] }) h.objs.size (o0 h.objs.size)) (hc : X.calm = true) (hN : X.N.Nodup) (hy : X.N[i]? = some y) (hyl : X.env.scope.names.lookup y = some .local)
    (hsw : swapsWith (.DictComp kx vx [⟨tg, iter, ifs, 0⟩] scope pos) (some (.Name y py)) spos.line X.env = pure true) (hi : PI X tg iter wi) (ok : BlkOk X.N X.env.scope scope own)
    (hg : ∀ (s : Shared) (H : Hp) (C : Addr) (cl : List (Str × Addr)) (fp : List Addr), PG (X.blk s H scope (compEnvC scope cl C X.env) fp) tg g) (ht : ∀ (s : Shared) (H : Hp) (C : Addr) (cl : List (Str × Addr)) (fp : List Addr), PTs (X.blk s H scope (compEnvC scope cl C X.env) fp) ifs tt)
    (hk : ∀ (s : Shared) (H : Hp) (C : Addr) (cl : List (Str × Addr)) (fp : List Addr), PE (X.blk s H scope (compEnvC scope cl C X.env) fp) kx tk)
    (he : ∀ (s : Shared) (H : Hp) (C : Addr) (cl : List (Str × Addr)) (fp : List Addr), PE (X.blk s H scope (compEnvC scope cl C X.env) fp) vx tv)
    (hp : ∀ (s : Shared) (H : Hp) (C : Addr) (cl : List (Str × Addr)) (fp : List Addr), PutR put (X.blk s H scope (compEnvC scope cl C X.env) fp)) (hs : ∀ x, foldedSetIterable iter X.env x = pure x := by intro _; rfl) :
    PS X (.Assign [.Name y py] (.DictComp kx vx [⟨tg, iter, ifs, 0⟩] scope pos) spos) (tAsg (tDg o0 put wi g tt tk tv (own.map (·.2))) (gName i)) := by
  refine ⟨fun pins s σ H D I h => ?_⟩
  rw [exec_Assign_Name_used _ _ _ _ hsw]
  refine wpAny_bind (wpAny_standAt (wpAny_bind ?_))
  show wpAny _ X.A (do let _ ← comprehension (.DictComp kx vx [⟨tg, iter, ifs, 0⟩] scope pos) scope X.env (firstIterPos [⟨tg, iter, ifs, 0⟩] pos) newDict false (eval iter X.env) (some (assign (.Name y py) X.env))) _ _ s
  have h : tDg o0 put wi g tt tk tv (own.map (·.2)) σ H (fun x H1 => gName i x σ H1 D.nx) := h
  refine wpAny_bind (thn (dg_core (Qf := fun _ s' => SP X pins D .next s') he0 hc hN I hi ok hg ht hk he hp hs h fun L C s' m H' I' q hn ⟨f0, f1, f2, f3, f4, f5⟩ => ?_) fun _ s' hq => wpAny_pure (wpAny_pure hq))
  show wpAny _ _ (assign (.Name y py) X.env (.ref L)) _ _ _
  refine wpAny_assign_Name (store_ok2 (v := V.ref L) I' hN hy (.inl hyl) rfl (fun s2 I2 ⟨a, sb, ha⟩ => ?_) (.inr hyl))
  have haC : C ≠ a := ha.elim (fun z => by rw [z]; exact f1) fun z e => f4 y a z e.symm
  exact ⟨m, hn.sameBut sb haC, fun h3 sb3 => ⟨_, H', I2.turned (t' := s2.toks) (fun b o hb e => (sb3.2 b hb).trans e) f0 f1 f3 f4 f5, q⟩⟩
/-- keys tuples of ints and texts -/
def putT (D : Addr) (y z : V) (H : Hp) (N : Hp → Prop) : Prop := ∃ (kvs : List (List Key × V)) (k : List Key) (b : Addr), y = .ref b ∧ H b = some (.tup (k.map kV)) ∧ H D = some (.dT kvs) ∧ kvs.length < sizeLine ∧ N (upd H D (.dT (putK kvs k z)))
theorem putR_T {Y : Cx} (hu : Y.A.units < cLine) : PutR putT Y := by
  intro pins s σ H D y z u r N I ry rz ⟨kvs, k, b, ey, eb, e, l, n⟩
  subst ey
  obtain rfl : u = Value.ref b := ry
  obtain ⟨zz, hd, xs, rel, dd⟩ := dt_of I.hok e
  have hz : xs.length ≤ sizeLine := by rw [← Paired.length rel]; exact zz
  have hl : (putK kvs k z).length ≤ sizeLine := by have := length_putK kvs k z; omega
  refine wpAny_dictSet_heap (hsz := hz) hu (key_of I.hok eb) dd fun h' dd' hs => ⟨_, ?_, n⟩
  obtain ⟨q, es, ep, hq, h2, h3, h4, _, h5⟩ := dd'
  refine d_write I (by rw [e]; exact True.intro) hs ⟨q, hq⟩ ⟨hl, hd, _, (rel.put k eb rz).keeps fun c ys ec => ?_, q, es, ep, hq, h2, h3, h4, h5⟩
  rw [upd_ne (ne_of ec e (fun z => nomatch z))]
  exact ec
end
end GX
/-! repr in a law's body: a def that is called by the caller alone, and the law's end for it -/
namespace GX
open PySem PySem.Spec PyProof.Rows L2 GxR
/-- repr(x), x plain data of lists and tuples -/
def rRepr (K : PySem.W.Frag) : List V → Hp → VK → Prop := fun xs H Q => ∃ (p : Addr) (d : PyData), xs = [.ref p] ∧ Dp K H (.ref p) d ∧ d.showable = true ∧ d.hasDict = false ∧ d.depth ≤ 60 ∧ d.shown.length ≤ sizeLine ∧ Q (.str d.shown) H
theorem cr_repr {X : Cx} (hg : X.A.guards = some []) (hu : X.A.units + 64 < cLine) : CallR X (.builtin "repr") (rRepr X.K) := by
  intro pins s σ H xs us Q I r ⟨p, d, ex, hd, h1, h2, h3, h4, q⟩
  subst ex
  obtain ⟨u, rfl, rx⟩ := vals1 r
  obtain ⟨as, rd⟩ := Dp.reads I d (.ref p) u hd rx
  obtain rfl : u = Value.ref p := rx
  exact repr_of_reads' (hsz := h4) rd h1 (fun z => by rw [h2] at z; cases z) hg (by omega) (fun _ _ e => e) fun h' u tk hk => ⟨.str d.shown, H, I.kept (t' := tk) hk, ⟨u, rfl⟩, q⟩
/-- what a def does when the caller calls it -/
structure FnC (P : Program) (w : World) (K : PySem.W.Frag) (mg : Str → Option Value) (base : Heap) (f : Addr) (fd : FuncData) (ps : List Str) (sp : Sp) : Prop where
  run : ∀ (s : Shared) (H : Hp) (args : Args) (us : List Value) (vs : List V) (Q : VK) (E : XK), Env0 P w K mg base callerA [] s H → BindsTo s fd args (ps.zip us) → Vals vs us → sp vs H Q E →
    codeAny (model P w) callerA (.call (.ref f) args) (CR CX0 [] P w H s Q E) s
theorem fn_C {P : Program} {w : World} {K : PySem.W.Frag} {mg : Str → Option Value} {base : Heap} {k : Nat} {f : Addr} {name qual : Str} {params : Arguments} {body : List Stmt} {scope : Scope} {dV kV doc pm cdv ct oc : Value} {an od : Option Addr}
    {osl : Array (Option Value)} {N ps : List Str} {sp : Sp} (hk : Room (k + 1) callerA) (lk : K.lookup f = some ⟨oc, od, .func (PySem.W.fnOf name qual params body scope dV kV doc pm an cdv ct), osl⟩) (hcd : PySem.W.codeIn K cdv qual = true) (S : FnScope N ps scope)
    (len : ∀ vs H Q E, sp vs H Q E → vs.length = ps.length)
    (hbody : ∀ (A : Around) (outer : List Env) (s : Shared) (H : Hp) (vs : List V) (Q : VK) (E : XK), A.guards = some [] → Room k (A.deeper (envOfC qual scope s.heap.objs.size f cdv)) → sp vs H Q E →
      ∃ t, PSs (cxOf CX0 P w K mg base N qual scope f cdv A outer s H E).nox body t ∧ t { nx := fun _ H' => Q .non H', rt := Q } (start N vs) H) :
    FnC P w K mg base f (PySem.W.fnOf name qual params body scope dV kV doc pm an cdv ct) ps sp where
  run := fun s H args us vs Q E e0 hb r hsp => by
    have bk := fun b o e => (e0.bs b o e).1
    have KX : K.In s.heap := e0.mod.kin.keeps bk
    obtain ⟨t, ht, hq⟩ := hbody callerA [] s H vs Q E rfl (hk.deeper _) hsp
    refine codeAny_call_function hk.depth (KX _ _ lk) rfl S.co S.gen rfl (PySem.W.codeRec_of KX hcd) (hb _ _ _ _ (wpAny_newFunctionEnv_cells S.kind (fun ⟨n, v⟩ hy => ?_) fun env he s1 x => ?_))
    · exact (S.par n (List.of_mem_zip hy).1).imp id fun q => ⟨q, PySem.W.cellsFrom_some _ _ _ (.inl q)⟩
    · subst he
      refine ⟨(e0.mod.nolimit.keeps bk).keeps x.toInCall.keep, codeAny_func (wpAny_mono (ht.nox.run [] s1 (start N vs) H _ (inv_start S hk.hd e0 (len _ _ _ _ hsp) r x) hq) (fun fl s' hs => ?_) fun e s' hs => hs)⟩
      cases fl with
      | ret u => exact let ⟨v, σ', H', J, rv, q⟩ := hs; ⟨v, H', J.os, J.bare, J.base, J.hok, rv, q⟩
      | next => exact let ⟨σ', H', J, q⟩ := hs; ⟨.non, H', J.os, J.bare, J.base, J.hok, rfl, q⟩
      | brk => exact let ⟨_, _, _, q⟩ := hs; q.elim
      | cont => exact let ⟨_, _, _, q⟩ := hs; q.elim
end GX
/-! the end of a law whose body the caller alone calls; ts: the tables of code objects that may grow -/
namespace GX
open PySem PySem.Spec PyProof.Rows L2 GxR
section
variable {P : Program} {w : World} {K : PySem.W.Frag} {mg mb : Str → Option Value} {fa a : Addr} {cs : List (Addr × Addr)} {fd : FuncData} {x : Str} {sp : Sp} {s₁ : Shared} {vs : List Value} {ns : List Int}
/-- what is known at the law's entry: the tables, the script where it is no object of the module -/
def atE (K : PySem.W.Frag) (cs : List (Addr × Addr)) (a : Addr) (vs : List Value) (ns : List Int) : Hp := fun b =>
  if b ∈ cs.map (·.2) then some (.tbl #[]) else if b = a ∧ K.lookup a = none then some (.frz { cls := .type "list", data := .seq vs.toArray } (.lst (ns.map V.int))) else none
theorem law_callC (KX : K.In s₁.heap) (hns : s₁.heap.Ns mainGlobals mg) (hb : s₁.heap.Ns builtinsNs mb) (hbb : ∀ x : Str, x ≠ "__name__" → mb x = bootBuiltins x) (hlim : s₁.heap.NoLimit) (hg : s₁.gens = #[])
    (hT : ∀ p ∈ cs, s₁.heap.get? p.2 = some { cls := .none, data := .fields #[] }) (nT : ∀ p ∈ cs, K.lookup p.2 = none) (C : ∀ p ∈ cs, PySem.W.CodeHd s₁.heap p.1 p.2)
    (hbm : ∃ (bm : Addr) (ob : Obj), mg "__builtins__" = some (.ref bm) ∧ bm ≠ builtinsNs ∧ s₁.heap.get? bm = some ob ∧ ob.cls = .type "module" ∧ ob.dict = some builtinsNs ∧ ob.data = .plain)
    (ha : s₁.heap.get? a = some { cls := .type "list", data := .seq vs.toArray }) (hi : IntsAre vs ns) (hl : ns.length ≤ sizeLine)
    (F : ∀ base : Heap, K.In base → base.Ns mainGlobals mg → (∀ p ∈ cs, TabB base mg p.1 p.2) → FnC P w K mg base fa fd [x] sp) (hbind : ∀ (s : Shared) (u : Value), BindsTo s fd ⟨[u], []⟩ [(x, u)])
    (hsp : ∀ H : Hp, (∀ p ∈ cs, H p.2 = some (.tbl #[])) → SqL K H a (ns.map V.int) → sp [.ref a] H (fun v _ => v = .bl true) fun _ _ _ => False) :
    codeAny (model P w) callerA (.call (.ref fa) ⟨[.ref a], []⟩) (fun r s' => r = .ok (.ret (.bool true)) ∧ OldK s₁.heap s'.heap ∧ s'.os = s₁.os ∧ AllBare s'.gens) s₁ := by
  have tabOf : ∀ b ∈ cs.map (·.2), s₁.heap.get? b = some { cls := .none, data := .fields #[] } := fun b hb => by
    obtain ⟨p, hp, rfl⟩ := List.mem_map.mp hb
    exact hT p hp
  have aOut : a ∉ cs.map (·.2) := fun z => by
    have := tabOf a z
    rw [ha] at this
    exact nomatch congrArg Obj.data (Option.some.inj this)
  have tabIn : ∀ p ∈ cs, p.2 ∈ cs.map (·.2) := fun p hp => List.mem_map.mpr ⟨p, hp, rfl⟩
  generalize hH : atE K cs a vs ns = H
  have H1 : ∀ p ∈ cs, H p.2 = some (.tbl #[]) := fun p hp => by
    rw [← hH]
    exact if_pos (tabIn p hp)
  have H2 : K.lookup a = none → H a = some (.frz { cls := .type "list", data := .seq vs.toArray } (.lst (ns.map V.int))) := fun z => by
    rw [← hH]
    exact (if_neg aOut).trans (if_pos ⟨rfl, z⟩)
  have H3 : ∀ b u, H b = some u → (b ∈ cs.map (·.2) ∧ u = .tbl #[]) ∨ (b = a ∧ K.lookup a = none ∧ u = .frz { cls := .type "list", data := .seq vs.toArray } (.lst (ns.map V.int))) := fun b u e => by
    rw [← hH] at e
    unfold atE at e
    split at e
    · rename_i z
      exact .inl ⟨z, (Option.some.inj e).symm⟩
    · split at e
      · rename_i z
        exact .inr ⟨z.1, z.2, (Option.some.inj e).symm⟩
      · cases e
  -- what is no list and no empty table is not tracked; nor is an object of the module
  have free : ∀ {b : Addr} {o : Obj}, s₁.heap.get? b = some o → (∀ vs n, o.data ≠ .seq vs n) → o.data ≠ .fields #[] → H b = none := fun {b o} e n1 n2 => by
    cases q : H b with
    | none => rfl
    | some u =>
      rcases H3 b u q with ⟨z, _⟩ | ⟨z, _⟩
      · rw [tabOf b z] at e
        cases e
        exact absurd rfl n2
      · rw [z, ha] at e
        cases e
        exact absurd rfl (n1 _ _)
  have freeK : ∀ b o, K.lookup b = some o → H b = none := fun b o e => by
    cases q : H b with
    | none => rfl
    | some u =>
      rcases H3 b u q with ⟨z, _⟩ | ⟨z, y, _⟩
      · obtain ⟨p, hp, rfl⟩ := List.mem_map.mp z
        rw [nT p hp] at e
        cases e
      · rw [z, y] at e
        cases e
  have inB : ∀ {b : Addr} {o : Obj}, s₁.heap.get? b = some o → H b = none → (hidT s₁.heap H).get? b = some o := fun e n => hidT_get e n
  have nsB : ∀ {b : Addr} {m : Str → Option Value}, s₁.heap.Ns b m → (hidT s₁.heap H).Ns b m := fun {b m} ⟨o, es, ep, e, d, r⟩ =>
    ⟨o, es, ep, inB e (free e (fun _ _ z => by rw [d] at z; cases z) fun z => by rw [d] at z; cases z), d, r⟩
  have kB : K.In (hidT s₁.heap H) := fun b o e => inB (KX b o e) (freeK b o e)
  have mo : L2.Mod K mg (hidT s₁.heap H) := ⟨kB, nsB hns, ⟨mb, nsB hb, hbb⟩, hlim.imp fun _ z => ⟨nsB z.1, z.2⟩⟩
  have okH : HOk P w H s₁.heap := fun b u e => by
    rcases H3 b u e with ⟨z, rfl⟩ | ⟨rfl, _, rfl⟩
    · exact tabOf b z
    · exact ⟨ha, by rw [List.length_map]; exact hl, vs, _, vals_ints hi, ha⟩
  have tB : ∀ p ∈ cs, TabB (hidT s₁.heap H) mg p.1 p.2 := fun p hp => by
    have gp := hT p hp
    obtain ⟨og, eg, epg, e1, d1, _⟩ := id hns
    refine ⟨?_, ?_, fun z => by rw [z, gp] at e1; cases e1; cases d1⟩
    · obtain ⟨o, us, file, tf, flags, tg, inF, text, tt, c1, r1, r2, r3, r⟩ := C p hp
      exact ⟨o, us, file, tf, flags, tg, inF, text, tt, inB c1 (free c1 (fun _ _ z => by rw [r2] at z; cases z) (fun z => by rw [r2] at z; cases z; simp at r3)), r1, r2, r3, r⟩
    · obtain ⟨bm, ob, b1, b2, b3, b4, b5, b6⟩ := hbm
      exact ⟨bm, ob, b1, b2, (fun z => by rw [z, e1] at b3; cases b3; rw [d1] at b6; cases b6), (fun z => by rw [z, gp] at b3; cases b3; cases b6), inB b3 (free b3 (fun _ _ z => by rw [b6] at z; cases z) (fun z => by rw [b6] at z; cases z)), b4, b5, b6⟩
  have sq : SqL K H a (ns.map V.int) := by
    cases e : K.lookup a with
    | none => exact .inl (.inr ⟨_, H2 e⟩)
    | some o =>
      have z := KX a o e
      rw [ha] at z
      cases z
      exact .inr ⟨_, vs.toArray, _, e, rfl, rfl, rfl, by rw [List.size_toArray, hi.length]; exact hl, by simpa using vals_ints hi⟩
  refine codeAny_mono ((F _ kB (nsB hns) tB).run s₁ H ⟨[.ref a], []⟩ [.ref a] [.ref a] _ _ ⟨rfl, mo, fun b o e => of_hidT e, Nat.le_of_eq (hidT_size _ _), trivial, (fun b z => nomatch z), okH, .of_eq hg⟩ (hbind s₁ (.ref a)) (.cons rfl .nil) (hsp H H1 sq)) fun r s' h => ?_
  match r, h with
  | .error e, h => exact False.elim h
  | .ok .next, h => exact False.elim h
  | .ok .brk, h => exact False.elim h
  | .ok .cont, h => exact False.elim h
  | .ok (.ret u), ⟨v, H', os, bare, un, ok', rv, q⟩ =>
    obtain rfl : v = .bl true := q
    obtain rfl : u = Value.bool true := rv
    have stay : ∀ b o, b ∉ cs.map (·.2) → s₁.heap.get? b = some o → s'.heap.get? b = some o := fun b o nb e => by
      cases q : H b with
      | none => exact un.keep b o e q (fun z => nomatch z) (fun z => nomatch z)
      | some y =>
        rcases H3 b y q with ⟨z, _⟩ | ⟨_, _, rfl⟩
        · exact absurd z nb
        · have e1 := (okH b _ q).1
          rw [e] at e1
          cases e1
          exact (ok' b _ (un.frzs b _ _ q)).1
    have grow : ∀ b ∈ cs.map (·.2), ∃ (p : Addr × Addr) (more : Array Value), p ∈ cs ∧ p.2 = b ∧ s'.heap.get? b = some { cls := .none, data := .fields (#[] ++ more) } := fun b hb => by
      obtain ⟨p, hp, rfl⟩ := List.mem_map.mp hb
      obtain ⟨more, z⟩ := un.tbls p.2 #[] (H1 p hp)
      exact ⟨p, more, hp, rfl, ok' p.2 _ z⟩
    refine ⟨rfl, ⟨fun b o e => ?_, fun b o e => ?_⟩, os, bare⟩
    · by_cases hb : b ∈ cs.map (·.2)
      · obtain ⟨p, more, hp, rfl, hm⟩ := grow b hb
        rw [hT p hp] at e
        cases e
        exact .inr (.inl ⟨((C p hp).tab (hT p hp)).isCodeTable, rfl, #[], more, rfl, hm⟩)
      · exact .inl (stay b o hb e)
    · by_cases hb : b ∈ cs.map (·.2)
      · obtain ⟨p, more, _, _, hm⟩ := grow b hb
        exact ⟨_, hm⟩
      · exact ⟨o, stay b o hb e⟩
end
/-- what is known of the law's promise at the head's heap h -/
def LawC (l : PySem.W.OpenLaw) (w : World) (K : PySem.W.Frag) (n : Nat) (x : Str) (mg : Str → Option Value) (fa : Addr) (h : Heap) : Prop :=
  ∃ (fd : FuncData) (cs : List (Addr × Addr)) (sp : Sp), (∀ p ∈ cs, h.get? p.2 = some { cls := .none, data := .fields #[] }) ∧ (∀ p ∈ cs, K.lookup p.2 = none) ∧ (∀ p ∈ cs, PySem.W.CodeHd h p.1 p.2) ∧ (∀ (s : Shared) (u : Value), BindsTo s fd ⟨[u], []⟩ [(x, u)]) ∧
    (∀ (H : Hp) (a : Addr) (ns : List Int), ns.length ≤ n → (∀ z ∈ ns, Builtin.Int.intBits z ≤ 1048576) → (∀ p ∈ cs, H p.2 = some (.tbl #[])) → SqL K H a (ns.map V.int) → sp [.ref a] H (fun v _ => v = .bl true) fun _ _ _ => False) ∧
    ∀ base : Heap, K.In base → base.Ns mainGlobals mg → (∀ p ∈ cs, TabB base mg p.1 p.2) → FnC l.prog w K mg base fa fd [x] sp
theorem walk_ofC {l : PySem.W.OpenLaw} {n : Nat} {q : Program} {loose : List Str} {XP : (Str → Option Value) → Heap → Prop} {YP : World → Heap → Prop} {d : DefRec} {K : Params → PySem.W.Frag} {x : Str}
    (hn : l.most = some n) (hn2 : n ≤ sizeLine) (hdf : d.params.defaults = []) (hY : ∀ (w : World) (h : Heap), YP w h → (K w.params).In h)
    (F : ∀ (w : World) (mg : Str → Option Value) (fa : Addr) (h : Heap), YP w h → (K w.params).In h → h.Ns mainGlobals mg → mg d.name = some (.ref fa) → LawC l w (K w.params) n x mg fa h) :
    PySem.W.WalkO q loose XP YP l.row.toRowW d [] (fun f vs => PySem.call f vs) := by
  refine Att.attach_callB hn hdf fun w s₀ s₁ mg mb fa o pm cd doc a vs ns G Y ho hd hcd hmg hobj hints hlen hbits hg => ?_
  have KX := hY w _ Y
  obtain ⟨fd, cs, sp, hT, nT, C, hb, hsp, hF⟩ := F w mg fa _ Y KX G.T.g hmg
  exact law_callC KX G.T.g G.T.b G.T.builtins G.T.nolimit hg hT nT C G.T.bmain hobj hints (Nat.le_trans hlen hn2) hF hb fun H hH hS => hsp H a ns hlen hbits hH hS
end GX
/-! the end of a law that the caller alone calls, where the program's own defs hold generator expressions -/
namespace GX
open PySem PySem.Spec PyProof.Rows L2 GxR
/-- each def of the view q has an empty table -/
def AllTabs (q : Program) (K : PySem.W.Frag) (mg : Str → Option Value) (h : Heap) : Prop :=
  ∀ (x : Str) (f : Addr), ((recsOf q).any fun e => e.name == x) = true → mg x = some (.ref f) → LamX.OwnTab K f h
theorem walk_tabsC {l : PySem.W.OpenLaw} {n : Nat} {q : Program} {loose : List Str} {XP : (Str → Option Value) → Heap → Prop} {YP : World → Heap → Prop} {d : DefRec} {K : Params → PySem.W.Frag} {x : Str}
    (hn : l.most = some n) (hn2 : n ≤ sizeLine) (hdf : d.params.defaults = []) (hY : ∀ (w : World) (h : Heap), YP w h → (K w.params).In h)
    (F : ∀ (w : World) (mg : Str → Option Value) (fa : Addr) (h : Heap), YP w h → (K w.params).In h → h.Ns mainGlobals mg → mg d.name = some (.ref fa) → AllTabs q (K w.params) mg h → LawC l w (K w.params) n x mg fa h) :
    PySem.W.WalkO q loose XP YP l.row.toRowW d [] (fun f vs => PySem.call f vs) := by
  refine Att.attach_callB hn hdf fun w s₀ s₁ mg mb fa o pm cd doc a vs ns G Y ho hd hcd hmg hobj hints hlen hbits hg => ?_
  have KX := hY w _ Y
  have tabs : AllTabs q (K w.params) mg s₁.heap := by
    intro y f hy hf c P o1 f1 e dd ws sl i1 i2 i3 i4 i5
    obtain ⟨r, hr, hr2⟩ := List.any_eq_true.mp hy
    have nm : r.name = y := beq_iff_eq.mp hr2
    obtain ⟨a2, o2, f2, c2, P2, j1, j2, j3, j4, j5, ⟨oc, vc, t1, _, t3, t4⟩, empty⟩ := G.T.tab r hr
    rw [nm, hf] at j1
    cases j1
    have at1 := KX _ _ i1
    rw [at1] at j2
    cases j2
    rw [i2] at j3
    cases j3
    rw [i3] at j4
    cases j4
    have at2 := KX _ _ i4
    rw [at2] at t1
    cases t1
    cases t3
    rw [i5] at t4
    cases t4
    exact empty
  obtain ⟨fd, cs, sp, hT, nT, C, hb, hsp, hF⟩ := F w mg fa _ Y KX G.T.g hmg tabs
  exact law_callC KX G.T.g G.T.b G.T.builtins G.T.nolimit hg hT nT C G.T.bmain hobj hints (Nat.le_trans hlen hn2) hF hb fun H hH hS => hsp H a ns hlen hbits hH hS
end GX
/-! dicts keyed by nested tuples of ints and texts: the object (dNO), its lookups, `in`, d[k], d[k] = v -/
namespace GX
open PySem PySem.Spec PyProof.Rows L2 GxR
mutual
/-- data of ints, texts and tuples of such -/
def kd : PyData → Bool
  | .int _ => true
  | .str _ => true
  | .tuple xs => kdAll xs
  | _ => false
def kdAll : List PyData → Bool
  | [] => true
  | x :: xs => kd x && kdAll xs
end
mutual
def keyN : PyData → NestedKey
  | .int i => .num i
  | .str x => .text x
  | .tuple xs => .tup (keyNs xs)
  | _ => .none
def keyNs : List PyData → List NestedKey
  | [] => []
  | x :: xs => keyN x :: keyNs xs
end
mutual
theorem keyN_inj : ∀ (d e : PyData), kd d = true → kd e = true → keyN d = keyN e → d = e
  | .int i, e, _, he, h => by
    cases e with
    | int j =>
      simp only [keyN, NestedKey.num.injEq] at h
      rw [h]
    | str y => simp [keyN] at h
    | tuple ys => simp [keyN] at h
    | _ => simp [kd] at he
  | .str x, e, _, he, h => by
    cases e with
    | int j => simp [keyN] at h
    | str y =>
      simp only [keyN, NestedKey.text.injEq] at h
      rw [h]
    | tuple ys => simp [keyN] at h
    | _ => simp [kd] at he
  | .tuple xs, e, hd, he, h => by
    cases e with
    | int j => simp [keyN] at h
    | str y => simp [keyN] at h
    | tuple ys =>
      simp only [keyN, NestedKey.tup.injEq] at h
      rw [kd] at hd he
      rw [keyNs_inj xs ys hd he h]
    | _ => simp [kd] at he
  | .none, _, hd, _, _ => by simp [kd] at hd
  | .bool _, _, hd, _, _ => by simp [kd] at hd
  | .list _, _, hd, _, _ => by simp [kd] at hd
  | .dict _, _, hd, _, _ => by simp [kd] at hd
theorem keyNs_inj : ∀ (xs ys : List PyData), kdAll xs = true → kdAll ys = true → keyNs xs = keyNs ys → xs = ys
  | [], [], _, _, _ => rfl
  | [], y :: ys, _, _, h => by simp [keyNs] at h
  | x :: xs, [], _, _, h => by simp [keyNs] at h
  | x :: xs, y :: ys, hx, hy, h => by
    rw [kdAll, Bool.and_eq_true] at hx hy
    rw [keyNs, keyNs] at h
    rw [keyN_inj x y hx.1 hy.1 (List.cons.inj h).1, keyNs_inj xs ys hx.2 hy.2 (List.cons.inj h).2]
end
mutual
theorem keyN_depth : ∀ d : PyData, kd d = true → (keyN d).depth = d.depth
  | .int _, _ => by rw [keyN, NestedKey.depth, PyData.depth]
  | .str _, _ => by rw [keyN, NestedKey.depth, PyData.depth]
  | .tuple xs, h => by
    rw [kd] at h
    rw [keyN, NestedKey.depth, PyData.depth, keyNs_depth xs h]
  | .none, h => by simp [kd] at h
  | .bool _, h => by simp [kd] at h
  | .list _, h => by simp [kd] at h
  | .dict _, h => by simp [kd] at h
theorem keyNs_depth : ∀ xs : List PyData, kdAll xs = true → NestedKey.depthAll (keyNs xs) = PyData.depthAll xs
  | [], _ => by rw [keyNs, NestedKey.depthAll, PyData.depthAll]
  | x :: xs, h => by
    rw [kdAll, Bool.and_eq_true] at h
    rw [keyNs, NestedKey.depthAll, PyData.depthAll, keyN_depth x h.1, keyNs_depth xs h.2]
end
section
variable {X : Cx} {pins : List (Addr × Obj)} {σ : L2.St} {H : Hp} {s : Shared}
mutual
theorem dp_nested (I : Inv X pins σ H s) : ∀ (d : PyData) (v : V) (u : Value), Dp X.K H v d → kd d = true → RelV v u → NestedIs s.heap (keyN d) u
  | .int i, _, _, h, _, r => by
    cases h
    obtain ⟨t, rfl⟩ := r
    rw [keyN]
    exact .int i t
  | .str x, _, _, h, _, r => by
    cases h
    obtain ⟨t, rfl⟩ := r
    rw [keyN]
    exact .text x t
  | .tuple ds, _, _, h, k, r => by
    cases h with
    | tup hs ha =>
      cases r
      obtain ⟨its, rv, ⟨o, ho, hc, n, hd⟩, _⟩ := I.tuple hs
      rw [kd] at k
      rw [keyN]
      exact .tup ho hc hd (dp_nestedAll I ds _ its ha k rv)
  | .none, _, _, _, k, _ => by simp [kd] at k
  | .bool _, _, _, _, k, _ => by simp [kd] at k
  | .list _, _, _, _, k, _ => by simp [kd] at k
  | .dict _, _, _, _, k, _ => by simp [kd] at k
theorem dp_nestedAll (I : Inv X pins σ H s) : ∀ (ds : List PyData) (vs : List V) (us : List Value), DpAll X.K H vs ds → kdAll ds = true → Vals vs us → NestedAll s.heap (keyNs ds) us
  | [], _, _, h, _, r => by
    cases h
    cases r
    rw [keyNs]
    exact .nil
  | d :: ds, _, _, h, k, r => by
    cases h with
    | cons h1 h2 =>
      cases r with
      | cons r1 r2 =>
        rw [kdAll, Bool.and_eq_true] at k
        rw [keyNs]
        exact .cons (dp_nested I d _ _ h1 k.1 r1) (dp_nestedAll I ds _ _ h2 k.2 r2)
end
end
/-- a kind of keys: how they are data -/
structure KT (κ : Type) where
  enc : κ → PyData
  kd : ∀ k, kd (enc k) = true
  inj : ∀ {a b}, enc a = enc b → a = b
  dp : ∀ k, (enc k).depth ≤ 8
section
variable {κ : Type} [DecidableEq κ] (T : KT κ)
theorem KT.eqN {T : KT κ} {a b : κ} : keyN (T.enc a) = keyN (T.enc b) ↔ a = b := ⟨fun h => T.inj (keyN_inj _ _ (T.kd a) (T.kd b) h), fun h => by rw [h]⟩
/-- the entries with the values that stand there -/
def rowsN (es : List (κ × Addr × V)) (us : List Value) : List (NestedKey × Addr × Value) := (es.zip us).map fun p => (keyN (T.enc p.1.1), p.1.2.1, p.2)
def DN0 (P : Program) (w : World) (h : Heap) (a : Addr) (es : List (κ × Addr × V)) : Prop :=
  (a == sysModules) = false ∧ es.length ≤ sizeLine ∧ (es.map (·.1)).Nodup ∧ ∃ o ds ep us, h.get? a = some o ∧ o.ExactDict ∧ o.data = .dict ds ep ∧ Vals (es.map (·.2.2)) us ∧ ds.toList = (rowsN T es us).map (entryOfKey (nestedKind P w))
def dNO (P : Program) (w : World) (a : Addr) (es : List (κ × Addr × V)) : HO := .ext fun h => DN0 T P w h a es
theorem dNO_ok {P : Program} {w : World} {H : Hp} {h : Heap} {a : Addr} {es : List (κ × Addr × V)} (R : DN0 T P w h a es) : ObjOk P w H h a (dNO T P w a es) := by
  have ⟨_, _, _, o, ds, ep, us, ho, _⟩ := R
  refine ⟨R, ⟨o, ho⟩, fun h1 h2 p k => ?_⟩
  obtain ⟨z, l, n, o', ds', ep', us', ho', r'⟩ := p
  exact ⟨z, l, n, o', ds', ep', us', k o' ho', r'⟩
variable {T}
theorem rows_find {k : κ} : ∀ {es : List (κ × Addr × V)} {us : List Value}, Vals (es.map (·.2.2)) us → (atKey (rowsN T es us) (keyN (T.enc k)) = none ∧ (es.find? fun e => decide (e.1 = k)) = none) ∨ ∃ e u, (es.find? fun e => decide (e.1 = k)) = some e ∧ atKey (rowsN T es us) (keyN (T.enc k)) = some (e.2.1, u) ∧ RelV e.2.2 u
  | [], _, .nil => .inl ⟨rfl, rfl⟩
  | e :: es, _, .cons r t => by
    by_cases h : e.1 = k
    · refine .inr ⟨e, _, ?_, ?_, r⟩
      · simp [List.find?_cons, h]
      · unfold atKey rowsN
        rw [List.zip_cons_cons, List.map_cons]
        simp [List.find?_cons, h]
    · have hn : ¬ keyN (T.enc e.1) = keyN (T.enc k) := fun z => h (KT.eqN.mp z)
      have e1 : ((e :: es).find? fun e => decide (e.1 = k)) = es.find? fun e => decide (e.1 = k) := by simp [List.find?_cons, h]
      have e2 : ∀ u us, atKey (rowsN T (e :: es) (u :: us)) (keyN (T.enc k)) = atKey (rowsN T es us) (keyN (T.enc k)) := fun u us => by
        unfold atKey rowsN
        rw [List.zip_cons_cons, List.map_cons]
        simp [List.find?_cons, hn]
      rw [e1, e2]
      exact rows_find t
theorem rows_nodup {es : List (κ × Addr × V)} {us : List Value} (h : Vals (es.map (·.2.2)) us) (n : (es.map (·.1)).Nodup) : ((rowsN T es us).map (·.1)).Nodup := by
  have l : us.length = es.length := by rw [← h.length, List.length_map]
  have e : (rowsN T es us).map (·.1) = (es.map (·.1)).map fun k => keyN (T.enc k) := by
    unfold rowsN
    rw [List.map_map, List.map_map]
    have : es = (es.zip us).map Prod.fst := (List.map_fst_zip (by omega)).symm
    conv => rhs; rw [this]
    rw [List.map_map]
    rfl
  rw [e]
  exact List.Pairwise.map _ (fun a b ne z => ne (KT.eqN.mp z)) n
end
section
variable {κ : Type} [DecidableEq κ] {T : KT κ} {X : Cx} {pins : List (Addr × Obj)} {σ : L2.St} {H : Hp} {s : Shared}
/-- the keys of the entries stand in the heap -/
def KeysAt (T : KT κ) (K : PySem.W.Frag) (H : Hp) (es : List (κ × Addr × V)) : Prop := ∀ e ∈ es, Dp K H (.ref e.2.1) (T.enc e.1)
theorem dn0_of {a : Addr} {es : List (κ × Addr × V)} (I : Inv X pins σ H s) (ha : Rd H a (dNO T X.prog X.w a es)) : DN0 T X.prog X.w s.heap a es := by
  rcases ha with ha | ⟨o, ha⟩
  · exact (I.hok a _ ha).1
  · exact (I.hok a _ ha).2.1
theorem dict_of {a : Addr} {es : List (κ × Addr × V)} (I : Inv X pins σ H s) (ha : Rd H a (dNO T X.prog X.w a es)) (hk : KeysAt T X.K H es) :
    (a == sysModules) = false ∧ es.length ≤ sizeLine ∧ ∃ us, Vals (es.map (·.2.2)) us ∧ s.heap.DictOfH (nestedKind X.prog X.w) a (rowsN T es us) := by
  obtain ⟨z, l, n, o, ds, ep, us, ho, hx, hd, hv, hr⟩ := dn0_of I ha
  refine ⟨z, l, us, hv, o, ds, ep, ho, hx, hd, hr, fun x hxm => ?_, rows_nodup hv n⟩
  obtain ⟨p, hp, rfl⟩ := List.mem_map.mp hxm
  have he : p.1 ∈ es := (List.of_mem_zip hp).1
  exact ⟨dp_nested I _ _ _ (hk _ he) (T.kd _) rfl, by rw [keyN_depth _ (T.kd _)]; exact T.dp _⟩
theorem key_of {v : V} {k : κ} {u : Value} (I : Inv X pins σ H s) (h : Dp X.K H v (T.enc k)) (r : RelV v u) (b : Addr) (e : u = .ref b) : (nestedKind X.prog X.w).is s.heap (keyN (T.enc k)) b := by
  subst e
  exact ⟨dp_nested I _ _ _ h (T.kd _) r, by rw [keyN_depth _ (T.kd _)]; exact T.dp _⟩
/-- k in d -/
def rInN (T : KT κ) (P : Program) (w : World) (K : PySem.W.Frag) : R2 := fun x y H Q => ∃ (a b : Addr) (es : List (κ × Addr × V)) (k : κ), y = .ref a ∧ x = .ref b ∧ Rd H a (dNO T P w a es) ∧ KeysAt T K H es ∧ Dp K H (.ref b) (T.enc k) ∧ Q (.bl (es.find? fun e => decide (e.1 = k)).isSome) H
theorem op_inN (hu : X.A.units + 64 < cLine) : OpR X (compareOp .In) (rInN T X.prog X.w X.K) := fun pins s σ H x y v u Q I rx ry h => by
  obtain ⟨a, b, es, k, rfl, rfl, ha, hk, hb, q⟩ := h
  cases rx
  cases ry
  obtain ⟨z, l, us, hv, hm⟩ := dict_of I ha hk
  refine wpAny_in_heap (knd := nestedKind X.prog X.w) (by show X.A.units + 1 + 8 < cLine; omega) (key_of I hb rfl b rfl) z hm ?_
  refine ⟨.bl (es.find? fun e => decide (e.1 = k)).isSome, H, I.tok _, ?_, q⟩
  rcases rows_find (T := T) (k := k) hv with ⟨e1, e2⟩ | ⟨e, u, e1, e2, _⟩
  · rw [e1, e2]
    rfl
  · rw [e1, e2]
    rfl
/-- k not in d -/
def rNotInN (T : KT κ) (P : Program) (w : World) (K : PySem.W.Frag) : R2 := fun x y H Q => ∃ (a b : Addr) (es : List (κ × Addr × V)) (k : κ), y = .ref a ∧ x = .ref b ∧ Rd H a (dNO T P w a es) ∧ KeysAt T K H es ∧ Dp K H (.ref b) (T.enc k) ∧ Q (.bl (!(es.find? fun e => decide (e.1 = k)).isSome)) H
theorem op_notInN (hu : X.A.units + 64 < cLine) : OpR X (compareOp .NotIn) (rNotInN T X.prog X.w X.K) := fun pins s σ H x y v u Q I rx ry h => by
  obtain ⟨a, b, es, k, rfl, rfl, ha, hk, hb, q⟩ := h
  cases rx
  cases ry
  obtain ⟨z, l, us, hv, hm⟩ := dict_of I ha hk
  refine wpAny_notIn_heap (knd := nestedKind X.prog X.w) (by show X.A.units + 1 + 8 < cLine; omega) (key_of I hb rfl b rfl) z hm ?_
  refine ⟨.bl (!(es.find? fun e => decide (e.1 = k)).isSome), H, I.tok _, ?_, q⟩
  rcases rows_find (T := T) (k := k) hv with ⟨e1, e2⟩ | ⟨e, u, e1, e2, _⟩
  · rw [e1, e2]
    rfl
  · rw [e1, e2]
    rfl
/-- d[k], k there -/
def rIxN (T : KT κ) (P : Program) (w : World) (K : PySem.W.Frag) : R2 := fun x y H Q => ∃ (a b : Addr) (es : List (κ × Addr × V)) (k : κ) (e : κ × Addr × V), x = .ref a ∧ y = .ref b ∧ Rd H a (dNO T P w a es) ∧ KeysAt T K H es ∧ Dp K H (.ref b) (T.enc k) ∧ (es.find? fun e => decide (e.1 = k)) = some e ∧ Q e.2.2 H
theorem ix_N (hu : X.A.units + 64 < cLine) : IxR X (rIxN T X.prog X.w X.K) := by
  intro value slice pins s σ H x y v u Q I rx ry h hs
  obtain ⟨a, b, es, k, e, rfl, rfl, ha, hk, hb, he, q⟩ := h
  cases rx
  cases ry
  obtain ⟨z, l, us, hv, hm⟩ := dict_of I ha hk
  rcases rows_find (T := T) (k := k) hv with ⟨_, e2⟩ | ⟨e', u, e1, e2, r⟩
  · rw [he] at e2
    cases e2
  · rw [he] at e1
    cases e1
    exact subscriptTail_builtinR (x := u) hm.typeIs slot_dict_getitem.lookup (wpAny_getItem_heap (Q := fun r s' => r = u ∧ EP X pins σ Q r s') (knd := nestedKind X.prog X.w) (by show X.A.units + 1 + 8 < cLine; omega) (key_of I hb rfl b rfl) hm e2 ⟨rfl, e.2.2, H, I.tok _, r, q⟩) hs
/-- d[k] = v -/
def dSt (es : List (κ × Addr × V)) (k : κ) (b : Addr) (v : V) : List (κ × Addr × V) := if (es.find? fun e => decide (e.1 = k)).isSome = true then es.map fun e => if e.1 = k then (e.1, e.2.1, v) else e else es ++ [(k, b, v)]
theorem rows_app {es fs : List (κ × Addr × V)} {us vs : List Value} (l : es.length = us.length) : rowsN T (es ++ fs) (us ++ vs) = rowsN T es us ++ rowsN T fs vs := by
  unfold rowsN
  rw [List.zip_append l, List.map_append]
theorem rows_put {k : κ} {v : V} {u : Value} (r : RelV v u) : ∀ {es : List (κ × Addr × V)} {us : List Value}, Vals (es.map (·.2.2)) us → ∃ us', Vals ((es.map fun e => if e.1 = k then (e.1, e.2.1, v) else e).map (·.2.2)) us' ∧ (rowsN T es us).map (putAt (keyN (T.enc k)) u) = rowsN T (es.map fun e => if e.1 = k then (e.1, e.2.1, v) else e) us'
  | [], _, .nil => ⟨[], .nil, rfl⟩
  | e :: es, u0 :: us, .cons r0 t => by
    obtain ⟨us', h1, h2⟩ := rows_put r t
    have step : ∀ (e' : κ × Addr × V) (u' : Value), rowsN T (e' :: es.map fun e => if e.1 = k then (e.1, e.2.1, v) else e) (u' :: us') = (keyN (T.enc e'.1), e'.2.1, u') :: (rowsN T es us).map (putAt (keyN (T.enc k)) u) := fun e' u' => by
      rw [h2]
      rfl
    have lhs : (rowsN T (e :: es) (u0 :: us)).map (putAt (keyN (T.enc k)) u) = putAt (keyN (T.enc k)) u (keyN (T.enc e.1), e.2.1, u0) :: (rowsN T es us).map (putAt (keyN (T.enc k)) u) := rfl
    by_cases h : e.1 = k
    · refine ⟨u :: us', ?_, ?_⟩
      · rw [List.map_cons, if_pos h, List.map_cons]
        exact .cons r h1
      · rw [List.map_cons, if_pos h, step, lhs]
        unfold putAt
        rw [if_pos (by rw [h])]
    · refine ⟨u0 :: us', ?_, ?_⟩
      · rw [List.map_cons, if_neg h, List.map_cons]
        exact .cons r0 h1
      · rw [List.map_cons, if_neg h, step, lhs]
        unfold putAt
        rw [if_neg fun z => h (KT.eqN.mp z)]
theorem rows_st {es : List (κ × Addr × V)} {us : List Value} {k : κ} {b : Addr} {v : V} {u : Value} (h : Vals (es.map (·.2.2)) us) (r : RelV v u) : ∃ us', Vals ((dSt es k b v).map (·.2.2)) us' ∧ storedH (rowsN T es us) (keyN (T.enc k)) b u = rowsN T (dSt es k b v) us' := by
  rcases rows_find (T := T) (k := k) h with ⟨e1, e2⟩ | ⟨e, u', e1, e2, _⟩
  · refine ⟨us ++ [u], ?_, ?_⟩
    · unfold dSt
      rw [e2, if_neg (by simp), List.map_append]
      exact h.append (.cons r .nil)
    · rw [storedH_new e1]
      unfold dSt
      rw [e2, if_neg (by simp), rows_app (by rw [← h.length, List.length_map])]
      rfl
  · obtain ⟨us', h1, h2⟩ := rows_put (T := T) (k := k) (v := v) (u := u) r h
    refine ⟨us', ?_, ?_⟩
    · unfold dSt
      rw [e1, if_pos (show (some e).isSome = true from rfl)]
      exact h1
    · rw [storedH_old e2]
      unfold dSt
      rw [e1, if_pos (show (some e).isSome = true from rfl)]
      exact h2
theorem st_nodup {es : List (κ × Addr × V)} {k : κ} {b : Addr} {v : V} (n : (es.map (·.1)).Nodup) : ((dSt es k b v).map (·.1)).Nodup := by
  unfold dSt
  by_cases h : (es.find? fun e => decide (e.1 = k)).isSome = true
  · rw [if_pos h, List.map_map]
    have e : ((fun x : κ × Addr × V => x.1) ∘ fun e : κ × Addr × V => if e.1 = k then (e.1, e.2.1, v) else e) = fun e => e.1 := by
      funext e
      show (if e.1 = k then (e.1, e.2.1, v) else e).1 = e.1
      split <;> rfl
    rw [e]
    exact n
  · rw [if_neg h, List.map_append, List.nodup_append]
    refine ⟨n, (by simp : [k].Nodup), fun x hx y hy z => h ?_⟩
    rw [List.mem_singleton.mp hy] at z
    obtain ⟨e, he, rfl⟩ := List.mem_map.mp hx
    rw [List.find?_isSome]
    exact ⟨e, he, decide_eq_true z⟩
theorem st_len {es : List (κ × Addr × V)} {k : κ} {b : Addr} {v : V} : (dSt es k b v).length ≤ es.length + 1 := by
  unfold dSt
  split
  · rw [List.length_map]
    exact Nat.le_succ _
  · rw [List.length_append]
    exact Nat.le_refl _
theorem st_keys {K : PySem.W.Frag} {es : List (κ × Addr × V)} {k : κ} {b : Addr} {v : V} (h : KeysAt T K H es) (hb : Dp K H (.ref b) (T.enc k)) : KeysAt T K H (dSt es k b v) := fun e he => by
  unfold dSt at he
  split at he
  · obtain ⟨e', he', rfl⟩ := List.mem_map.mp he
    have := h e' he'
    split
    · exact this
    · exact this
  · rcases List.mem_append.mp he with z | z
    · exact h e z
    · rw [List.mem_singleton.mp z]
      exact hb
def rSetN (T : KT κ) (P : Program) (w : World) (K : PySem.W.Frag) : V → V → V → Hp → (Hp → Prop) → Prop := fun o i v H Q => ∃ (a b : Addr) (es : List (κ × Addr × V)) (k : κ), o = .ref a ∧ i = .ref b ∧ H a = some (dNO T P w a es) ∧ KeysAt T K H es ∧ Dp K H (.ref b) (T.enc k) ∧ es.length < sizeLine ∧ Q (upd H a (dNO T P w a (dSt es k b v)))
theorem set_N (hu : X.A.units + 64 < cLine) : PSet X (rSetN T X.prog X.w X.K) := by
  intro pins s σ H o i v ov iv u Q I ro ri rv h
  obtain ⟨a, b, es, k, rfl, rfl, ha, hk, hb, hl, q⟩ := h
  cases ro
  cases ri
  obtain ⟨z, l, us, hv, hm⟩ := dict_of I (.inl ha) hk
  obtain ⟨_, _, nd, _⟩ := (I.hok a _ ha).1
  have ls : (rowsN T es us).length = es.length := by
    unfold rowsN
    rw [List.length_map, List.length_zip, ← hv.length, List.length_map, Nat.min_self]
  obtain ⟨us', h1, h2⟩ := rows_st (T := T) (k := k) (b := b) (v := v) (u := u) hv rv
  refine wpAny_setItem_heap (hsz := by rw [ls]; exact l) (knd := nestedKind X.prog X.w) (by show X.A.units + 1 + 8 < cLine; omega) (key_of I hb rfl b rfl) hm fun h' hm' sb => ?_
  rw [h2] at hm'
  obtain ⟨o', ds, ep, ho, hx, hd, hr, _, _⟩ := hm'
  have R : DN0 T X.prog X.w h' a (dSt es k b v) := ⟨z, Nat.le_trans st_len hl, st_nodup nd, o', ds, ep, us', ho, hx, hd, h1, hr⟩
  exact ⟨_, I.write (by rw [ha]; trivial) (.inl rfl) (fun c w hc e => (sb.2 c hc).trans e) ⟨_, ho⟩ (dNO_ok T R), q⟩
/-- {} -/
theorem dn0_empty {P : Program} {w : World} (h : Heap) (z : (h.objs.size == sysModules) = false) : DN0 T P w (h.push { cls := .type "dict", data := .dict #[] }) h.objs.size ([] : List (κ × Addr × V)) :=
  ⟨z, Nat.zero_le _, .nil, _, _, _, [], Heap.get?_push_size _ rfl, ⟨rfl, rfl, rfl⟩, rfl, .nil, rfl⟩
def tDNewN (T : KT κ) (P : Program) (w : World) : TE := fun _ H Q => ∀ p, H p = none → Q (.ref p) (upd H p (dNO T P w p []))
theorem pe_dnewN {pos : Pos} : PE X (.Dict [] [] pos) (tDNewN T X.prog X.w) := ⟨fun pins s σ H Q I h => by
  have z : (s.heap.objs.size == sysModules) = false := beq_eq_false_iff_ne.mpr (Nat.ne_of_gt I.big)
  exact wpAny_Dict_empty ⟨.ref s.heap.objs.size, _, I.laid (t' := s.toks) (fun _ _ q => Heap.get?_push_of_some _ q) (Nat.le_refl _) (dNO_ok T (dn0_empty s.heap z)), rfl, h _ (I.hok.fresh (Nat.le_refl _))⟩⟩
/-- d.get(k, v) -/
def rGetN (T : KT κ) (P : Program) (w : World) (K : PySem.W.Frag) : V → List V → Hp → VK → Prop := fun x xs H Q => ∃ (a b : Addr) (es : List (κ × Addr × V)) (k : κ) (v : V), x = .ref a ∧ xs = [.ref b, v] ∧ Rd H a (dNO T P w a es) ∧ KeysAt T K H es ∧ Dp K H (.ref b) (T.enc k) ∧ Q (((es.find? fun e => decide (e.1 = k)).map (·.2.2)).getD v) H
theorem mt_getN (hu : X.A.units + 64 < cLine) : MtR X "dict.get" (rGetN T X.prog X.w X.K) := by
  intro pins s σ H x xs v us Q I rx r h
  obtain ⟨a, b, es, k, y, rfl, rfl, ha, hk, hb, q⟩ := h
  cases rx
  obtain ⟨u1, u2, rfl, r1, r2⟩ := r.two
  cases r1
  obtain ⟨z, l, us, hv, hm⟩ := dict_of I ha hk
  refine call_meetsIn PySem.F.slot_dict_get hm.typeIs PySem.F.entry_dict_get (PySem.F.args_dict_get_3 _ _ _) (meetsH_dict_get_default (nestedKind X.prog X.w) a b z u2) ⟨by show X.A.units + 1 + 8 < cLine; omega, _, _, key_of I hb rfl b rfl, hm, ?_⟩
  rcases rows_find (T := T) (k := k) hv with ⟨e1, e2⟩ | ⟨e, u, e1, e2, r⟩
  · rw [e1]
    rw [e2] at q
    exact ⟨y, H, I.tok _, r2, q⟩
  · rw [e2]
    rw [e1] at q
    exact ⟨e.2.2, H, I.tok _, r, q⟩
/-- d.setdefault(k, v) -/
def rSetdefN (T : KT κ) (P : Program) (w : World) (K : PySem.W.Frag) : V → List V → Hp → VK → Prop := fun x xs H Q => ∃ (a b : Addr) (es : List (κ × Addr × V)) (k : κ) (v : V), x = .ref a ∧ xs = [.ref b, v] ∧ H a = some (dNO T P w a es) ∧ KeysAt T K H es ∧ Dp K H (.ref b) (T.enc k) ∧ es.length < sizeLine ∧
  (∀ e, (es.find? fun e => decide (e.1 = k)) = some e → Q e.2.2 H) ∧ ((es.find? fun e => decide (e.1 = k)) = none → Q v (upd H a (dNO T P w a (es ++ [(k, b, v)]))))
theorem mt_setdefN (hu : X.A.units + 64 < cLine) : MtR X "dict.setdefault" (rSetdefN T X.prog X.w X.K) := by
  intro pins s σ H x xs v us Q I rx r h
  obtain ⟨a, b, es, k, y, rfl, rfl, ha, hk, hb, hl, q1, q2⟩ := h
  cases rx
  obtain ⟨u1, u2, rfl, r1, r2⟩ := r.two
  cases r1
  obtain ⟨z, l, us, hv, hm⟩ := dict_of I (.inl ha) hk
  obtain ⟨_, _, nd, _⟩ := (I.hok a _ ha).1
  have ls : (rowsN T es us).length = es.length := by
    unfold rowsN
    rw [List.length_map, List.length_zip, ← hv.length, List.length_map, Nat.min_self]
  rcases rows_find (T := T) (k := k) hv with ⟨e1, e2⟩ | ⟨e, u, e1, e2, r⟩
  · refine call_setdefault_heap (hsz := by rw [ls]; exact l) (knd := nestedKind X.prog X.w) (by show X.A.units + 1 + 8 < cLine; omega) (key_of I hb rfl b rfl) z hm (fun p hp => by rw [e1] at hp; cases hp) fun _ h' hm' sb => ?_
    obtain ⟨us', h1, h2⟩ := rows_st (T := T) (k := k) (b := b) (v := y) (u := u2) hv r2
    have ed : dSt es k b y = es ++ [(k, b, y)] := by
      unfold dSt
      rw [e2, if_neg (by simp)]
    rw [h2] at hm'
    obtain ⟨o', ds, ep, ho, hx, hd, hr, _, _⟩ := hm'
    have R : DN0 T X.prog X.w h' a (dSt es k b y) := ⟨z, Nat.le_trans st_len hl, st_nodup nd, o', ds, ep, us', ho, hx, hd, h1, hr⟩
    have J := I.write (t' := s.toks + (nestedKind X.prog X.w).draws (keyN (T.enc k))) (by rw [ha]; trivial) (.inl rfl) (fun c w hc e => (sb.2 c hc).trans e) ⟨_, ho⟩ (dNO_ok T R)
    rw [ed] at J
    exact ⟨y, _, J, r2, q2 e2⟩
  · refine call_setdefault_heap (hsz := by rw [ls]; exact l) (knd := nestedKind X.prog X.w) (by show X.A.units + 1 + 8 < cLine; omega) (key_of I hb rfl b rfl) z hm (fun p hp => ?_) fun hn => by rw [e2] at hn; cases hn
    rw [e2] at hp
    cases hp
    exact ⟨e.2.2, H, I.tok _, r, q1 e e1⟩
theorem dn_frz {d : Addr} {o : Obj} {es : List (κ × Addr × V)} (I : Inv X pins σ H s) (h : H d = some (.frz o (dNO T X.prog X.w d es))) :
    (d == sysModules) = false ∧ s.heap.get? d = some o ∧ o.ExactDict ∧ ∃ (ds : Array DictEntry) (ep : Nat), o.data = .dict ds ep ∧ ds.size = es.length ∧ ∀ (i : Nat) (e : κ × Addr × V), es[i]? = some e → ∃ en : DictEntry, ds[i]? = some en ∧ en.key = .ref e.2.1 := by
  obtain ⟨hg, ⟨z, l, n, o', ds, ep, us, ho, hx, hd, hv, hr⟩, _⟩ := I.hok d _ h
  rw [hg] at ho
  cases ho
  have lu : us.length = es.length := by rw [← hv.length, List.length_map]
  have ld : ds.size = es.length := by
    rw [← Array.length_toList, hr, List.length_map]
    unfold rowsN
    rw [List.length_map, List.length_zip, lu, Nat.min_self]
  refine ⟨z, hg, hx, ds, ep, hd, ld, fun i e he => ?_⟩
  have hi : i < us.length := by rw [lu]; exact (List.getElem?_eq_some_iff.mp he).1
  have hz : (es.zip us)[i]? = some (e, us[i]) := by rw [List.getElem?_zip_eq_some]; exact ⟨he, List.getElem?_eq_getElem hi⟩
  refine ⟨entryOfKey (nestedKind X.prog X.w) (keyN (T.enc e.1), e.2.1, us[i]), ?_, rfl⟩
  rw [← Array.getElem?_toList, hr]
  unfold rowsN
  rw [List.getElem?_map, List.getElem?_map, hz]
  rfl
/-- the keys of the locked dict at d -/
def Itn (T : KT κ) (P : Program) (w : World) (d : Addr) (o : Obj) (es : List (κ × Addr × V)) : It :=
  ⟨fun i H => H d = some (.frz o (dNO T P w d es)) ∧ i < es.length, fun i H x H' => H' = H ∧ ∃ e, es[i]? = some e ∧ x = .ref e.2.1, fun i H => H d = some (.frz o (dNO T P w d es)) ∧ es.length ≤ i⟩
theorem turn_N {P : Program} {w : World} {K : PySem.W.Frag} {tg : Expr} {d : Addr} {o : Obj} {ds : Array DictEntry} {ep : Nat} {es : List (κ × Addr × V)} (it : Addr) (hod : o.data = .dict ds ep) :
    Turn P w K tg (Itn T P w d o es) [it] it (fun i h => h.IsKeyIter it d i es.length ep) where
  mem := List.mem_singleton.mpr rfl
  obj := fun i h st b hb => by
    rw [List.mem_singleton.mp hb]
    obtain ⟨oi, e, _, dd⟩ := st
    exact ⟨oi, e, fun v z => by rw [dd] at z; cases z⟩
  keep := fun i h h' st k => st.at fun oi e => k it (List.mem_singleton.mpr rfl) oi e
  item := by
    rintro X rfl rfl rfl hc i pins s σ H E I hf st ⟨hd, hi⟩
    have fp := hf it (List.mem_singleton.mpr rfl)
    obtain ⟨hs, hgd, hx, ds', ep', hdt, hsz, ent⟩ := dn_frz I hd
    obtain ⟨rfl, rfl⟩ := dict_ep hod hdt
    have he : es[i]? = some es[i] := List.getElem?_eq_getElem hi
    obtain ⟨en, hen, hkey⟩ := ent i _ he
    refine next_key_item st hgd hdt hsz hen fun h' st' sb => ?_
    obtain ⟨oi, e, c, dd⟩ := id st'
    exact ⟨en.key, rfl, go_of (s := { s with heap := h' }) e c dd (by decide) ⟨.ref es[i].2.1, H, I.turned (t' := s.toks) (fun b ob hb e => (sb.2 b hb).trans e) fp.1 fp.2.1 fp.2.2.2.1 fp.2.2.2.2.1 fp.2.2.2.2.2, hkey, ⟨rfl, _, he, rfl⟩, st', fun b hb => (hf b hb).1⟩⟩
  done := by
    rintro X rfl rfl rfl hc i pins s σ H E I hf st ⟨hd, hi⟩
    have fp := hf it (List.mem_singleton.mpr rfl)
    obtain ⟨hs, hgd, hx, ds', ep', hdt, hsz, ent⟩ := dn_frz I hd
    obtain ⟨rfl, rfl⟩ := dict_ep hod hdt
    exact next_key_end (I.ok.hd hc) st hgd hdt hsz hi fun h' eb => ⟨rfl, I.turned (t' := s.toks) (fun b ob hb e => eb b ob hb e) fp.1 fp.2.1 fp.2.2.2.1 fp.2.2.2.2.1 fp.2.2.2.2.2⟩
  self := fun A i s Q E st h => by
    refine wpAny_pyIter_slot st.typeIs PySem.F.slot_dict_keyiterator_iter (wpAny_call_entry PySem.F.slot_dict_keyiterator_iter st.typeIs PySem.F.entry_dict_keyiterator_iter ?_ (PySem.F.args_dict_keyiterator_iter_1 _))
    exact wpAny_pure ⟨_, rfl, "dict_keyiterator", _, st.typeIs, PySem.F.slot_dict_keyiterator_next.lookup, h⟩
/-- for k in d, d locked -/
def iKeysN (T : KT κ) (P : Program) (w : World) (td : TE) : TI := fun σ H R => td σ H fun x H1 => ∃ d o es, x = .ref d ∧ H1 d = some (.frz o (dNO T P w d es)) ∧ R (Itn T P w d o es) H1
theorem pi_keysN {tg e : Expr} {td : TE} (he : PE X e td) : PI X tg e (iKeysN T X.prog X.w td) := by
  refine ⟨fun pins s σ H R I h => thn (he.run pins s σ H _ I h) fun u s1 ⟨x, H1, I1, rx, d, o, es, ex, hd, q⟩ => ?_⟩
  subst ex
  cases rx
  obtain ⟨hs, hgd, hx, ds, ep, hdt, hsz, ent⟩ := dn_frz I1 hd
  refine iter_keys hs hgd hx hdt (pi_one (tk := s1.toks) I1 _ (turn_N _ hdt) ⟨_, Heap.get?_push_size _ rfl, rfl, ?_⟩ q)
  rw [hsz] <;> rfl
theorem walk_N {P : Program} {w : World} {d : Addr} {o : Obj} {es : List (κ × Addr × V)} : Walk (Itn T P w d o es) es.length (fun H => H d = some (.frz o (dNO T P w d es))) (fun i H x H' => H' = H ∧ ∃ e, es[i]? = some e ∧ x = .ref e.2.1) :=
  ⟨fun _ _ hi q => ⟨q, hi⟩, fun _ q => ⟨q, Nat.le_refl _⟩, fun _ _ _ _ _ _ y => y⟩
/-- len(d) -/
theorem cr_lenN : CallR X (.builtin "len") (fun xs H Q => ∃ (a : Addr) (es : List (κ × Addr × V)), xs = [.ref a] ∧ Rd H a (dNO T X.prog X.w a es) ∧ KeysAt T X.K H es ∧ Q (.int (es.length : Int)) H) := by
  intro pins s σ H xs us Q I r h
  obtain ⟨a, es, rfl, ha, hk, q⟩ := h
  obtain ⟨u, rfl, ru⟩ := vals1 r
  cases ru
  obtain ⟨z, l, us, hv, hm⟩ := dict_of I ha hk
  have ls : (rowsN T es us).length = es.length := by
    unfold rowsN
    rw [List.length_map, List.length_zip, ← hv.length, List.length_map, Nat.min_self]
  have h63 := line63
  refine call_len_dictH z hm (by rw [ls]; omega) ⟨.int (es.length : Int), H, ?_, ⟨_, by rw [ls]⟩, q⟩
  exact (I.tok (s.toks + 1 + 1))
/-- a store in a comprehension's dict -/
def putN (T : KT κ) (P : Program) (w : World) (K : PySem.W.Frag) (D : Addr) (y z : V) (H : Hp) (N : Hp → Prop) : Prop := ∃ (es : List (κ × Addr × V)) (k : κ) (b : Addr), y = .ref b ∧ H D = some (dNO T P w D es) ∧ KeysAt T K H es ∧ Dp K H (.ref b) (T.enc k) ∧ es.length < sizeLine ∧ N (upd H D (dNO T P w D (dSt es k b z)))
theorem putR_N {Y : Cx} (hu : Y.A.units + 64 < cLine) : PutR (putN T Y.prog Y.w Y.K) Y := by
  intro pins s σ H D y z u r N I ry rz ⟨es, k, b, ey, ha, hk, hb, hl, n⟩
  subst ey
  cases ry
  obtain ⟨zz, l, us, hv, hm⟩ := dict_of I (.inl ha) hk
  obtain ⟨_, _, nd, _⟩ := (I.hok D _ ha).1
  have ls : (rowsN T es us).length = es.length := by
    unfold rowsN
    rw [List.length_map, List.length_zip, ← hv.length, List.length_map, Nat.min_self]
  obtain ⟨us', h1, h2⟩ := rows_st (T := T) (k := k) (b := b) (v := z) (u := r) hv rz
  refine wpAny_dictSet_heap (hsz := by rw [ls]; exact l) (knd := nestedKind Y.prog Y.w) (by show Y.A.units + 8 < cLine; omega) (key_of I hb rfl b rfl) hm fun h' hm' sb => ?_
  rw [h2] at hm'
  obtain ⟨o', ds, ep, ho, hx, hd, hr, _, _⟩ := hm'
  have R : DN0 T Y.prog Y.w h' D (dSt es k b z) := ⟨zz, Nat.le_trans st_len hl, st_nodup nd, o', ds, ep, us', ho, hx, hd, h1, hr⟩
  exact ⟨_, I.write (by rw [ha]; trivial) (.inl rfl) (fun c w hc e => (sb.2 c hc).trans e) ⟨_, ho⟩ (dNO_ok T R), n⟩
theorem dg_empty (H : Hp) (h : Heap) (hb : sysModules < h.objs.size) : ObjOk X.prog X.w H (h.push { cls := .type "dict", data := .dict #[] }) h.objs.size ((fun D => dNO T X.prog X.w D []) h.objs.size) :=
  dNO_ok T (dn0_empty h (beq_eq_false_iff_ne.mpr (Nat.ne_of_gt hb)))
end
end GX
/-! the truth of a dict keyed by nested tuples; its deletion -/
namespace GX
open PySem PySem.Spec PyProof.Rows L2 GxR
section
variable {κ : Type} [DecidableEq κ] {T : KT κ} {X : Cx}
def tTruN (T : KT κ) (P : Program) (w : World) (K : PySem.W.Frag) (ta : TE) : TT := fun σ H Q => ta σ H fun x H1 => ∃ (a : Addr) (es : List (κ × Addr × V)), x = .ref a ∧ Rd H1 a (dNO T P w a es) ∧ KeysAt T K H1 es ∧ Q (!es.isEmpty) H1
theorem pt_truN {e : Expr} {ta : TE} (ha : PE X e ta) (he : ∀ whole, isTrue e X.env whole = (do let v ← whole; standAt e.pos; holding [v] (truthy v))) : PT X e (tTruN T X.prog X.w X.K ta) := by
  refine ⟨fun pins s σ H Q I h => ?_⟩
  refine isTrue_plain (thn (ha.run pins s σ H _ I h) fun v s1 ⟨x, H1, I1, r1, a, es, ex, e1, hk, q⟩ => ?_) (he _)
  subst ex
  obtain rfl : v = Value.ref a := r1
  obtain ⟨z, l, us, hv, hm⟩ := dict_of I1 e1 hk
  have ls : (rowsN T es us).length = es.length := by
    unfold rowsN
    rw [List.length_map, List.length_zip, ← hv.length, List.length_map, Nat.min_self]
  have h63 := line63
  have ee : (rowsN T es us).isEmpty = es.isEmpty := by
    rw [Bool.eq_iff_iff, List.isEmpty_iff_length_eq_zero, List.isEmpty_iff_length_eq_zero, ls]
  exact truthy_dictH z hm (by rw [ls]; omega) ⟨H1, I1.tok _, by rw [ee]; exact q⟩
end
end GX
/-! list(d) of a dict keyed by nested tuples -/
namespace GX
open PySem PySem.Spec PyProof.Rows L2 GxR
section
variable {κ : Type} [DecidableEq κ] {T : KT κ} {X : Cx} {pins : List (Addr × Obj)} {σ : L2.St} {H : Hp} {s : Shared}
theorem dn_raw {a : Addr} {es : List (κ × Addr × V)} (I : Inv X pins σ H s) (ha : Rd H a (dNO T X.prog X.w a es)) :
    (a == sysModules) = false ∧ es.length ≤ sizeLine ∧ ∃ (ds : Array DictEntry) (ep : Nat), s.heap.DictRaw a ds ep ∧ ds.size = es.length ∧ ∀ (i : Nat) (e : κ × Addr × V), es[i]? = some e → ∃ en : DictEntry, ds[i]? = some en ∧ en.key = .ref e.2.1 := by
  obtain ⟨z, l, n, o, ds, ep, us, ho, hx, hd, hv, hr⟩ := dn0_of I ha
  have lu : us.length = es.length := by rw [← hv.length, List.length_map]
  have ld : ds.size = es.length := by
    rw [← Array.length_toList, hr, List.length_map]
    unfold rowsN
    rw [List.length_map, List.length_zip, lu, Nat.min_self]
  refine ⟨z, l, ds, ep, ⟨o, ho, hx, hd⟩, ld, fun i e he => ?_⟩
  have hi : i < us.length := by rw [lu]; exact (List.getElem?_eq_some_iff.mp he).1
  have hz : (es.zip us)[i]? = some (e, us[i]) := by rw [List.getElem?_zip_eq_some]; exact ⟨he, List.getElem?_eq_getElem hi⟩
  refine ⟨entryOfKey (nestedKind X.prog X.w) (keyN (T.enc e.1), e.2.1, us[i]), ?_, rfl⟩
  rw [← Array.getElem?_toList, hr]
  unfold rowsN
  rw [List.getElem?_map, List.getElem?_map, hz]
  rfl
theorem refs_keys : ∀ es : List (κ × Addr × V), Vals (es.map fun e => V.ref e.2.1) (es.map fun e => Value.ref e.2.1)
  | [] => .nil
  | e :: es => .cons rfl (refs_keys es)
theorem raw_keys {es : List (κ × Addr × V)} {ds : Array DictEntry} {acc : Array Value} (ld : ds.size = es.length) (hk : ∀ (i : Nat) (e : κ × Addr × V), es[i]? = some e → ∃ en : DictEntry, ds[i]? = some en ∧ en.key = .ref e.2.1)
    (h1 : acc.size = ds.size) (h2 : ∀ (j : Nat) (v : Value), acc[j]? = some v → ∃ hi : j < ds.size, v = ds[j].key) : acc.toList = es.map fun e => Value.ref e.2.1 := by
  refine List.ext_getElem? fun j => ?_
  rw [Array.getElem?_toList, List.getElem?_map]
  cases e1 : es[j]? with
  | none =>
    have : es.length ≤ j := List.getElem?_eq_none_iff.mp e1
    rw [Array.getElem?_eq_none (by omega)]
    rfl
  | some e =>
    have hj : j < es.length := (List.getElem?_eq_some_iff.mp e1).1
    have hja : j < acc.size := by omega
    obtain ⟨hi, hv⟩ := h2 j acc[j] (Array.getElem?_eq_getElem hja)
    obtain ⟨en, g1, g2⟩ := hk j e e1
    rw [Array.getElem?_eq_getElem hi] at g1
    cases g1
    rw [Array.getElem?_eq_getElem hja, hv, g2]
    rfl
/-- list(d): its keys -/
theorem cr_listN (hcalm : X.calm = true) : CallR X (.type "list") (fun xs H Q => ∃ (a : Addr) (es : List (κ × Addr × V)), xs = [.ref a] ∧ Rd H a (dNO T X.prog X.w a es) ∧ ∀ p, H p = none → Q (.ref p) (upd H p (.lst (es.map fun e => V.ref e.2.1)))) := by
  intro pins s σ H xs us Q I r q
  obtain ⟨a, es, ex, hd, q⟩ := q
  subst ex
  obtain ⟨u, eu, rx⟩ := vals1 r
  subst eu
  cases rx
  obtain ⟨z, l, ds, ep, raw, ld, hk⟩ := dn_raw I hd
  refine PySem.W.kdl_call (KdlSrc.rawDict (es := ds) (ep := ep) z) (I.ok.hd hcalm) raw (by rw [ld]; exact l) fun h' tk acc c' hk' hD hacc => ?_
  have ea := raw_keys ld hk hacc.1 hacc.2
  refine ⟨.ref s.heap.objs.size, upd H s.heap.objs.size (.lst (es.map fun e => V.ref e.2.1)), I.laid (t' := tk) hk' (Nat.le_refl _)
    (show ObjOk X.prog X.w _ _ _ (.lst (es.map fun e => V.ref e.2.1)) from ⟨by rw [List.length_map]; exact l, acc.toList, c', by rw [ea]; exact refs_keys es, by rw [Array.toArray_toList]; exact hD⟩), rfl, q _ (I.hok.fresh (Nat.le_refl _))⟩
end
end GX
/-! sorted(d) of a dict keyed by nested tuples -/
namespace GX
open PySem PySem.Spec PyProof.Rows L2 GxR
section
variable {κ : Type} [DecidableEq κ] {T : KT κ} {X : Cx}
theorem each_keys : ∀ es : List (κ × Addr × V), PySem.W.EachIs (fun (u : Value) (e : κ × Addr × V) => u = Value.ref e.2.1) (es.map fun e => Value.ref e.2.1) es
  | [] => .nil
  | _ :: es => .cons rfl (each_keys es)
theorem keys_each : ∀ {us : List Value} {es : List (κ × Addr × V)}, PySem.W.EachIs (fun (u : Value) (e : κ × Addr × V) => u = Value.ref e.2.1) us es → us = es.map fun e => Value.ref e.2.1
  | _, _, .nil => rfl
  | _, _, .cons h t => by rw [h, keys_each t]; rfl
/-- the entries in the order of their keys -/
def sortN (T : KT κ) (es : List (κ × Addr × V)) : List (κ × Addr × V) := es.mergeSort (PySem.W.dataLe false fun e => T.enc e.1)
theorem cr_sortedN (hcalm : X.calm = true) (hu : X.A.units + 64 < cLine) : CallR X (.builtin "sorted") (fun xs H Q => ∃ (a : Addr) (es : List (κ × Addr × V)), xs = [.ref a] ∧ Rd H a (dNO T X.prog X.w a es) ∧ KeysAt T X.K H es ∧ PySem.W.AllAlike (es.map fun e => T.enc e.1) ∧ PySem.W.Sortable (es.map fun e => T.enc e.1) ∧
    ∀ p, H p = none → Q (.ref p) (upd H p (.lst ((sortN T es).map fun e => V.ref e.2.1)))) := by
  intro pins s σ H xs us Q I r q
  obtain ⟨a, es, ex, hd, hk, al, so, q⟩ := q
  subst ex
  obtain ⟨u, eu, rx⟩ := vals1 r
  subst eu
  cases rx
  obtain ⟨z, l, ds, ep, raw, ld, hkk⟩ := dn_raw I hd
  refine Calls.call_function_entry PyProof.Rows.kind_sorted PyProof.Rows.plain_sorted PyProof.Rows.entry_sorted (PyProof.Rows.args_sorted1 _) ?_
  unfold Builtin.«sorted»
  refine wpAny_bind (m := checkCount "sorted" 1 1 _) (wpAny_pure ?_)
  refine wpAny_bind (PySem.W.kdu_collect (A := X.A.in1) (KdlSrc.rawDict (es := ds) (ep := ep) z) (I.ok.hd hcalm) raw (by rw [ld]; exact l) fun h' tk acc hk' hacc => ?_)
  have ea := raw_keys ld hkk hacc.1 hacc.2
  have I1 : Inv X pins σ H { s with heap := h', toks := tk } := I.kept hk'
  have hla : acc.toList.length = es.length := by rw [ea, List.length_map]
  refine wpAny_bind (wpAny_newList ?_ (by rw [hla]; exact l))
  have hoL : (h'.push (seqObj "list" acc.toList.toArray 0)).get? h'.objs.size = some (seqObj "list" acc.toList.toArray 0) := Heap.get?_push_size _ rfl
  have hE : PySem.W.EachIs (fun (u : Value) (e : κ × Addr × V) => u = Value.ref e.2.1) acc.toList es := by rw [ea]; exact each_keys es
  have er : PySem.W.EachIs (fun (v : Value) (b : κ × Addr × V) => ∃ as, Reads (h'.push (seqObj "list" acc.toList.toArray 0)) v (T.enc b.1) as ∧ h'.objs.size ∉ as) acc.toList es := (PySem.W.each_mem hE).mono fun v b ⟨e, hb⟩ => by
    subst e
    obtain ⟨as, rr⟩ := Dp.reads I1 _ (V.ref b.2.1) _ (hk b hb) rfl
    exact ⟨as, PyProof.Rows.Reads.keeps (fun b o e => Heap.get?_push_of_some _ e) rr, fun hm => by
      obtain ⟨o, ho⟩ := PyProof.On.reads_mem_get rr _ hm
      exact Nat.lt_irrefl _ (Heap.lt_size ho)⟩
  show wpAny _ _ _ _ _ { s with heap := h'.push (seqObj "list" acc.toList.toArray 0), toks := tk }
  refine wpAny_bind (wpAny_holding (PySem.W.list_sort_data (s := { s with heap := h'.push (seqObj "list" acc.toList.toArray 0), toks := tk }) hoL hE er al so l (fun b hb => by
    have := T.dp b.1
    show X.A.units + 1 + 1 + _ < cLine
    omega) fun out lo eo => ?_))
  have eo' : out = (sortN T es).map fun e => Value.ref e.2.1 := keys_each eo
  obtain ⟨e', he'⟩ := PyProof.Rows.sortedHeap_at (vs := acc.toList) (out := List.toArray out) hoL
  have hlen : ((sortN T es).map fun e => V.ref e.2.1).length ≤ sizeLine := by
    rw [List.length_map, sortN, List.length_mergeSort]
    exact l
  refine wpAny_pure ⟨_, rfl, .ref h'.objs.size, upd H h'.objs.size (.lst ((sortN T es).map fun e => V.ref e.2.1)), I1.laid (t' := tk) (fun b u e => ?_) (Nat.le_refl _)
    (show ObjOk X.prog X.w _ _ _ (.lst ((sortN T es).map fun e => V.ref e.2.1)) from ⟨hlen, out, e', by rw [eo']; exact refs_keys _, he'⟩), rfl, q _ (I1.hok.fresh (Nat.le_refl _))⟩
  have hb : b < h'.objs.size := Heap.lt_size e
  rw [PyProof.Rows.sortedHeap_old (Nat.ne_of_lt hb) (by rw [size_push']; exact Nat.lt_succ_of_lt hb)]
  exact Heap.get?_push_of_some _ e
end
end GX
/-! keys (x, y, i), i a small number, have hashes of their own in every world -/
namespace GX
open PySem PySem.Spec PyProof.Rows L2 GxR
/-- one lane of a tuple's hash -/
def laneH (A i : Nat) : Nat := ((((A + i * 14029467366897019727) % 2 ^ 64 * 2 ^ 31) % 2 ^ 64 + (A + i * 14029467366897019727) % 2 ^ 64 / 2 ^ 33) * 11400714785074694791) % 2 ^ 64
def lastH (f : Nat) : Nat := (f + 2870177450013471925) % 2 ^ 64
def toldH (f : Nat) : Int := if f == 2 ^ 64 - 1 then 1546275796 else if f < 2 ^ 63 then f else (f : Int) - (2 ^ 64 : Nat)
theorem rot_back {a b : Nat} (ha : a < 2 ^ 64) (hb : b = (a * 2 ^ 31) % 2 ^ 64 + a / 2 ^ 33) : b < 2 ^ 64 ∧ b / 2 ^ 31 + b % 2 ^ 31 * 2 ^ 33 = a := by
  have e1 : a * 2 ^ 31 % 2 ^ 64 = a % 2 ^ 33 * 2 ^ 31 := by omega
  rw [e1] at hb
  omega
theorem gmul {m P Q K b : Nat} (e : P * Q = m * K + 1) (hb : b < m) : (b * P) % m * Q % m = b := by
  rw [Nat.mod_mul_mod, Nat.mul_assoc, e, Nat.mul_add, Nat.mul_one, Nat.mul_left_comm, Nat.mul_add_mod]
  exact Nat.mod_eq_of_lt hb
theorem gadd {m P Q K : Nat} (e : P * Q = m * K + 1) (A i : Nat) : (A + i * P) % m * Q % m = (A * Q + i) % m := by
  rw [Nat.mod_mul_mod, Nat.add_mul, Nat.mul_assoc, e, Nat.mul_add, Nat.mul_one, Nat.mul_left_comm, Nat.add_left_comm, Nat.mul_add_mod]
theorem mul_back {b : Nat} (hb : b < 2 ^ 64) : (b * 11400714785074694791) % 2 ^ 64 * 614540362697595703 % 2 ^ 64 = b := gmul (K := 379806830464837242) (by decide +kernel) hb
/-- the lane's sum, out of the hash -/
def backH (f : Nat) : Nat := ((f + (2 ^ 64 - 2870177450013471925)) % 2 ^ 64 * 614540362697595703 % 2 ^ 64) / 2 ^ 31 + ((f + (2 ^ 64 - 2870177450013471925)) % 2 ^ 64 * 614540362697595703 % 2 ^ 64) % 2 ^ 31 * 2 ^ 33
theorem addC {c : Nat} (h : c < 2 ^ 64) : ((c + 2870177450013471925) % 2 ^ 64 + (2 ^ 64 - 2870177450013471925)) % 2 ^ 64 = c := by omega
theorem lane_core {a b : Nat} (h : b < 2 ^ 64 ∧ b / 2 ^ 31 + b % 2 ^ 31 * 2 ^ 33 = a) : backH (lastH (b * 11400714785074694791 % 2 ^ 64)) = a := by
  unfold backH lastH
  rw [addC (Nat.mod_lt _ (by decide)), mul_back h.1]
  exact h.2
theorem lane_back (A i : Nat) : backH (lastH (laneH A i)) = (A + i * 14029467366897019727) % 2 ^ 64 := by
  unfold laneH
  exact lane_core (rot_back (Nat.mod_lt _ (by decide)) rfl)
theorem add_back (A i : Nat) : (A + i * 14029467366897019727) % 2 ^ 64 * 839798700976720815 % 2 ^ 64 = (A * 839798700976720815 + i) % 2 ^ 64 := gadd (K := 638699622168397319) (by decide +kernel) A i
theorem told_inj {f g : Nat} (hf : f < 2 ^ 64) (hg : g < 2 ^ 64) (h : toldH f = toldH g) : f = g ∨ (f = 2 ^ 64 - 1 ∧ g = 1546275796) ∨ (g = 2 ^ 64 - 1 ∧ f = 1546275796) := by
  unfold toldH at h
  by_cases a : f = 2 ^ 64 - 1
  · by_cases b : g = 2 ^ 64 - 1
    · exact .inl (a.trans b.symm)
    · rw [if_pos (beq_iff_eq.mpr a), if_neg (fun z => b (beq_iff_eq.mp z))] at h
      split at h
      · omega
      · omega
  · rw [if_neg (fun z => a (beq_iff_eq.mp z))] at h
    by_cases b : g = 2 ^ 64 - 1
    · rw [if_pos (beq_iff_eq.mpr b)] at h
      split at h
      · omega
      · omega
    · rw [if_neg (fun z => b (beq_iff_eq.mp z))] at h
      split at h
      · split at h
        · omega
        · omega
      · split at h
        · omega
        · omega
theorem fin0 {a i j : Nat} (hi : i < 4096) (hj : j < 4096) (h : (a + i) % 2 ^ 64 = (a + j) % 2 ^ 64) : i = j := by omega
theorem fin1 {a i j : Nat} (hi : i < 4096) (hj : j < 4096) (h1 : 16680575644954319924 = (a + i) % 2 ^ 64) (h2 : 7868393759306762799 = (a + j) % 2 ^ 64) : i = j := by omega
theorem lanes_apart {A i j : Nat} (hi : i < 4096) (hj : j < 4096) (h : toldH (lastH (laneH A i)) = toldH (lastH (laneH A j))) : i = j := by
  have b1 : backH (2 ^ 64 - 1) * 839798700976720815 % 2 ^ 64 = 16680575644954319924 := by decide +kernel
  have b2 : backH 1546275796 * 839798700976720815 % 2 ^ 64 = 7868393759306762799 := by decide +kernel
  have ei : backH (lastH (laneH A i)) * 839798700976720815 % 2 ^ 64 = (A * 839798700976720815 + i) % 2 ^ 64 := by rw [lane_back]; exact add_back A i
  have ej : backH (lastH (laneH A j)) * 839798700976720815 % 2 ^ 64 = (A * 839798700976720815 + j) % 2 ^ 64 := by rw [lane_back]; exact add_back A j
  rcases told_inj (Nat.mod_lt _ (by decide)) (Nat.mod_lt _ (by decide)) h with e | ⟨e1, e2⟩ | ⟨e1, e2⟩
  · rw [show lastH (laneH A i) = lastH (laneH A j) from e, ej] at ei
    exact (fin0 hj hi ei).symm
  · rw [show lastH (laneH A i) = 2 ^ 64 - 1 from e1, b1] at ei
    rw [show lastH (laneH A j) = 1546275796 from e2, b2] at ej
    exact fin1 hi hj ei ej
  · rw [show lastH (laneH A i) = 1546275796 from e2, b2] at ei
    rw [show lastH (laneH A j) = 2 ^ 64 - 1 from e1, b1] at ej
    exact (fin1 hj hi ej ei).symm
end GX
/-! keys (x, y, i), i below 4096: their hashes differ in every world -/
namespace GX
open PySem PySem.Spec PyProof.Rows L2 GxR
def accG (m p1 p2 : Nat) (a : Nat) (h : Int) : Nat := (((a + (h % (m : Int)).toNat * p2) % m * 2 ^ 31) % m + (a + (h % (m : Int)).toNat * p2) % m / 2 ^ 33) * p1 % m
def finG (m a x : Nat) : Int := if (a + x) % m == m - 1 then 1546275796 else if (a + x) % m < 2 ^ 63 then ((a + x) % m : Nat) else (((a + x) % m : Nat) : Int) - m
def tupG (m p1 p2 p5 x : Nat) (hs : List Int) : Int := finG m (hs.foldl (accG m p1 p2) p5) (hs.length ^^^ (p5 ^^^ x))
theorem tup_eq (hs : List Int) : Builtin.Tuple.tupleHashOf hs = tupG (2 ^ 64) 11400714785074694791 14029467366897019727 2870177450012600261 3527539 hs := by
  unfold Builtin.Tuple.tupleHashOf tupG finG accG
  dsimp only
theorem tup3 (m p1 p2 p5 x : Nat) (a b c : Int) : tupG m p1 p2 p5 x [a, b, c] = finG m (accG m p1 p2 (accG m p1 p2 (accG m p1 p2 p5 a) b) c) (3 ^^^ (p5 ^^^ x)) := by
  unfold tupG
  rw [List.foldl_cons, List.foldl_cons, List.foldl_cons, List.foldl_nil, List.length_cons, List.length_cons, List.length_cons, List.length_nil]
theorem xor3 : (3 ^^^ (2870177450012600261 ^^^ 3527539) : Nat) = 2870177450013471925 := by decide +kernel
theorem acc_lane {A i : Nat} (hi : i < 4096) : accG (2 ^ 64) 11400714785074694791 14029467366897019727 A (i : Int) = laneH A i := by
  unfold accG laneH
  have e : (((i : Int)) % ((2 ^ 64 : Nat) : Int)).toNat = i := by omega
  rw [e]
theorem fin_told (a : Nat) : finG (2 ^ 64) a 2870177450013471925 = toldH (lastH a) := rfl
theorem hash_small {i : Nat} (h : i < 4096) : hashInt (i : Int) = (i : Int) := by
  have k : ∀ i < 4096, hashInt ((i : Nat) : Int) = ((i : Nat) : Int) := by decide +kernel
  exact k i h
theorem told_range (f : Nat) (h : f < 2 ^ 64) : -(2 ^ 63 : Int) ≤ toldH f ∧ toldH f < 2 ^ 63 ∧ toldH f ≠ -1 := by
  unfold toldH
  by_cases a : f = 2 ^ 64 - 1
  · rw [if_pos (beq_iff_eq.mpr a)]
    decide
  · rw [if_neg (fun z => a (beq_iff_eq.mp z))]
    split
    · omega
    · omega
theorem reduce_told (f : Nat) (h : f < 2 ^ 64) : reduceHash (toldH f) = toldH f := by
  obtain ⟨h1, h2, h3⟩ := told_range f h
  unfold reduceHash
  rw [if_pos (by rw [Bool.and_eq_true, decide_eq_true_eq, decide_eq_true_eq]; exact ⟨h1, h2⟩), if_neg (fun z => h3 (beq_iff_eq.mp z))]
/-- the keys (x, y, i) and (x, y, j) hash apart -/
theorem hash_apart {w : World} {x y : NestedKey} {i j : Nat} (hi : i < 4096) (hj : j < 4096) (h : NestedKey.hash w (.tup [x, y, .num (i : Int)]) = NestedKey.hash w (.tup [x, y, .num (j : Int)])) : i = j := by
  have key : ∀ i < 4096, NestedKey.hash w (.tup [x, y, .num ((i : Nat) : Int)]) = toldH (lastH (laneH (accG (2 ^ 64) 11400714785074694791 14029467366897019727 (accG (2 ^ 64) 11400714785074694791 14029467366897019727 2870177450012600261 (x.hash w)) (y.hash w)) i)) := fun i hi => by
    have e : NestedKey.hashes w [x, y, .num (i : Int)] = [x.hash w, y.hash w, (i : Int)] := by
      rw [NestedKey.hashes, NestedKey.hashes, NestedKey.hashes, NestedKey.hashes, NestedKey.hash, hash_small hi]
    rw [NestedKey.hash, e, tup_eq, tup3, xor3, acc_lane hi, fin_told]
    exact reduce_told _ (Nat.mod_lt _ (by decide))
  rw [key i hi, key j hj] at h
  exact lanes_apart hi hj h
end GX
/-! rules of my own over the hand layer: text * int, enumerate(text) -/
namespace TR
open PySem PySem.Spec PyProof.Rows L2
abbrev Sg (l : List Nat) : Str := ⟨l.toArray⟩
abbrev tl (s : Str) : List Nat := s.cps.toList
theorem sg_tl (s : Str) : Sg (tl s) = s := rfl
theorem ext_tl {a b : Str} (h : tl a = tl b) : a = b := by
  cases a
  cases b
  exact congrArg Str.mk (Array.toList_inj.mp h)
theorem len_tl (s : Str) : s.length = (tl s).length := rfl
/-! ### text * int -/
def repL (l : List Nat) (k : Int) : List Nat := (List.replicate k.toNat l).flatten
def rRepS : R2 := fun x y H Q => ∃ (s : Str) (k : Int), x = .str s ∧ y = .int k ∧ k ≤ 1000 ∧ -1000 ≤ k ∧ s.length ≤ 1000 ∧ Q (.str (Sg (repL (tl s) k))) H
theorem fold_cps (x : Array Nat) : ∀ (m : Nat) (b : Array Nat), ((List.replicate m x).foldl (· ++ ·) b).toList = b.toList ++ (List.replicate m x.toList).flatten
  | 0, b => by simp
  | m + 1, b => by
    rw [List.replicate_succ, List.foldl_cons, fold_cps x m, List.replicate_succ, List.flatten_cons, Array.toList_append, List.append_assoc]
theorem op_repS {X : Cx} : OpR X (binaryOp .Mult) rRepS := by
  intro pins s σ H x y v u Q I rx ry h
  obtain ⟨i, k, rfl, rfl, h1, h2, hz, q⟩ := h
  obtain ⟨t, rfl⟩ := rx
  obtain ⟨t', rfl⟩ := ry
  have hm : (i.length : Int) * k ≤ 1000000 := by
    by_cases kz : 0 ≤ k
    · have a1 : (i.length : Int) * k ≤ 1000 * k := Int.mul_le_mul_of_nonneg_right (by omega) kz
      omega
    · have a1 := Int.mul_nonneg (show (0 : Int) ≤ i.length by omega) (show (0 : Int) ≤ -k by omega)
      rw [Int.mul_neg] at a1
      omega
  refine P.mul_str (by
    rw [decide_eq_false (by omega : ¬ k < -(2 ^ 63 : Int)), decide_eq_false (by omega : ¬ k ≥ 2 ^ 63)]
    rfl) (fun hk _ => ?_) (fun hk _ => ?_) ?_
  · have := (Int.le_ediv_iff_mul_le (show 0 < k by omega)).mpr (show (i.length : Int) * k ≤ 2 ^ 63 - 1 by omega)
    omega
  · have e : i.length * k.toNat ≤ 1000000 := by
      have : ((i.length * k.toNat : Nat) : Int) = (i.length : Int) * k := by
        rw [Int.natCast_mul, Int.toNat_of_nonneg (by omega)]
      omega
    show decide (i.length * k.toNat > sizeLine) = false
    refine decide_eq_false ?_
    rw [sizeLine_eq]
    omega
  · have end_ : ∀ (z : Str), tl z = repL (tl i) k → V.str z = V.str (Sg (repL (tl i) k)) := fun z e => by rw [← e]
    by_cases h1 : k < 1
    · rw [if_pos h1]
      refine ⟨Nat.zero_le _, .str (Sg (repL (tl i) k)), H, I.tok _, ⟨s.toks, ?_⟩, q⟩
      have e : repL (tl i) k = [] := by
        unfold repL
        rw [show k.toNat = 0 by omega]
        rfl
      rw [e]
      rfl
    · rw [if_neg h1]
      cases hc : (k == 1 || i.length == 0)
      · rw [if_neg Bool.false_ne_true]
        have e := fold_cps i.cps k.toNat #[]
        rw [Array.toList_empty, List.nil_append] at e
        have e2 : (⟨(List.replicate k.toNat i.cps).foldl (· ++ ·) #[]⟩ : Str) = Sg (repL (tl i) k) := ext_tl e
        have lz : (repL (tl i) k).length ≤ sizeLine := by
          unfold repL
          rw [PyProof.Rows.lm_len_rep_flat, sizeLine_eq]
          have : ((k.toNat * (tl i).length : Nat) : Int) = (i.length : Int) * k := by
            rw [Int.natCast_mul, Int.toNat_of_nonneg (by omega), Int.mul_comm]
            rfl
          omega
        show (Made.str ⟨(List.replicate k.toNat i.cps).foldl (· ++ ·) #[]⟩).post _ _
        rw [e2]
        exact ⟨lz, .str (Sg (repL (tl i) k)), H, I.tok _, ⟨s.toks, rfl⟩, q⟩
      · rw [if_pos rfl]
        refine ⟨.str (Sg (repL (tl i) k)), H, I, ⟨t, ?_⟩, q⟩
        refine congrArg (Value.str · t) (ext_tl ?_)
        show tl i = repL (tl i) k
        unfold repL
        rcases Bool.or_eq_true_iff.mp hc with z | z
        · rw [beq_iff_eq.mp z]
          show tl i = [tl i].flatten
          simp
        · have z : (tl i) = [] := List.eq_nil_of_length_eq_zero (beq_iff_eq.mp z)
          rw [z]
          simp
/-! ### enumerate(text) -/
def Ites (x : Str) : It := ⟨fun i _ => i < x.cps.size, fun i H v H' => ∃ T c, v = .ref T ∧ H T = none ∧ H' = upd H T (.tup [.int (i : Nat), .str ⟨#[c]⟩]) ∧ x.cps[i]? = some c, fun i _ => i = x.cps.size⟩
theorem turn_enumS {P : Program} {w : World} {K : PySem.W.Frag} {elts : List Expr} {kk : Nat} {tpos : Pos} (x : Str) (t : Tok) (ty : String) (hty : ty = "str_ascii_iterator" ∨ ty = "str_iterator") (e it : Addr) :
    Turn P w K (.Tuple elts kk tpos) (Ites x) [e, it] e (fun i h => (∃ old, IsEnum h e it ((i : Nat) : Int) old) ∧ h.IsStrIter it ty x t i ∧ e ≠ it) where
  mem := by simp
  obj := fun i h st b hb => by
    obtain ⟨⟨old, he⟩, ⟨o, ho, hc, hd⟩, _⟩ := st
    have e' : b = e ∨ b = it := by simpa using hb
    rcases e' with z | z
    · rw [z]; exact ⟨_, he, fun v q => nomatch q⟩
    · rw [z]; exact ⟨o, ho, fun v q => by rw [hd] at q; cases q⟩
  keep := fun i h h' st k => let ⟨⟨old, he⟩, ⟨o, ho, r⟩, hne⟩ := st; ⟨⟨old, k e (by simp) _ he⟩, ⟨o, k it (by simp) o ho, r⟩, hne⟩
  item := by
    intro X hP hw hK hc i pins s σ H E I hf st hg
    subst hP hw hK
    obtain ⟨⟨old, he⟩, hit, hne⟩ := st
    have hel : e < s.heap.objs.size := Heap.lt_size he
    have hil : it < s.heap.objs.size := by obtain ⟨_, q, _⟩ := hit; exact Heap.lt_size q
    have D : Draws X.prog X.w X.A.in1 it [it] x.cps.size (fun i v => ∃ c u, x.cps[i]? = some c ∧ v = .str ⟨#[c]⟩ u) (fun i h => h.IsStrIter it ty x t i) := by
      rcases hty with z | z
      · rw [z]; exact Draws.strAscii (A := X.A.in1) (I.ok.hd hc) it x t
      · rw [z]; exact Draws.strWide (A := X.A.in1) (I.ok.hd hc) it x t
    refine wpAny_pyNext_enum_itemC D he hit hg hne (by simpa using hne) fun y h' tk hy ho hit' hT hsz hk => ?_
    obtain ⟨c, u, hcx, rfl⟩ := hy
    refine ⟨_, rfl, wpAny_letOwnedTupleGo_enum (s := { s with heap := h', toks := tk + 1 }) ho fun h'' he' sb => ?_⟩
    have hT2 : h''.get? s.heap.objs.size = some { cls := .type "tuple", data := .seq #[.int i tk, .str ⟨#[c]⟩ u] } := (sb.2 _ (Nat.ne_of_gt hel)).trans hT
    have new : ObjOk X.prog X.w (upd H s.heap.objs.size (.tup [.int (i : Nat), .str ⟨#[c]⟩])) h'' s.heap.objs.size (.tup [.int (i : Nat), .str ⟨#[c]⟩]) :=
      ⟨by show 2 ≤ sizeLine; decide, [.int i tk, .str ⟨#[c]⟩ u], .cons ⟨_, rfl⟩ (.cons ⟨_, rfl⟩ .nil), ⟨_, hT2, rfl, _, rfl⟩⟩
    have I1 : Inv X pins σ (upd H s.heap.objs.size (.tup [.int (i : Nat), .str ⟨#[c]⟩])) { s with heap := h'', toks := tk + 1 } :=
      I.turnedNew (ch := [e, it]) (fun b ob hb q => (sb.2 b (fun z => hb (by simp [z]))).trans (hk b ob (fun z => hb (by simp [z])) (fun z => hb (by simp [z])) q)) hf (Nat.le_refl _) new
    refine ⟨.ref s.heap.objs.size, _, I1, rfl, ⟨_, c, rfl, I.hok.fresh (Nat.le_refl _), rfl, hcx⟩, ⟨⟨.str ⟨#[c]⟩ u, ?_⟩, ?_, hne⟩, fun b hb => ?_⟩
    · have e1 : ((i + 1 : Nat) : Int) = (i : Int) + 1 := by omega
      rw [e1]; exact he'
    · obtain ⟨o, ho2, r⟩ := hit'
      exact ⟨o, (sb.2 it (Ne.symm hne)).trans ho2, r⟩
    · have hb' : b < s.heap.objs.size := by
        have e' : b = e ∨ b = it := by simpa using hb
        rcases e' with z | z
        · rw [z]; exact hel
        · rw [z]; exact hil
      rw [upd_ne (Nat.ne_of_lt hb')]
      exact (hf b hb).1
  done := by
    intro X hP hw hK hc i pins s σ H E I hf st hg
    subst hP hw hK
    obtain ⟨⟨old, he⟩, hit, hne⟩ := st
    obtain ⟨f0, f1, f2, f3, f4, f5⟩ := hf it (by simp)
    have D : Draws X.prog X.w X.A.in1 it [it] x.cps.size (fun i v => ∃ c u, x.cps[i]? = some c ∧ v = .str ⟨#[c]⟩ u) (fun i h => h.IsStrIter it ty x t i) := by
      rcases hty with z | z
      · rw [z]; exact Draws.strAscii (A := X.A.in1) (I.ok.hd hc) it x t
      · rw [z]; exact Draws.strWide (A := X.A.in1) (I.ok.hd hc) it x t
    have hg' : i = x.cps.size := hg
    subst hg'
    exact wpAny_pyNext_enum_endD D he hit fun h' eb => ⟨rfl, I.turned (t' := s.toks) (fun b o hb q => eb b o hb q) f0 f1 f3 f4 f5⟩
  self := fun A i s Q E st h => let ⟨⟨_, he⟩, _⟩ := st; wpAny_pyIter_enum he h
def iEnumS (ta : TA) : TI := fun σ H R => ta σ H fun vs H1 => ∃ x, vs = [.str x] ∧ R (Ites x) H1
theorem pi_enumS {X : Cx} {e : Expr} {ta : TA} {p pos tpos : Pos} {elts : List Expr} {kk : Nat} (hg : Gl X "enumerate") (hm : X.mg "enumerate" = none) (ha : PA X [e] ta) (hs : starEach [e] X.env = [(false, eval e X.env)] := by rfl) :
    PI X (.Tuple elts kk tpos) (.Call (.Name "enumerate" p) [e] [] pos) (iEnumS ta) := by
  refine ⟨fun pins s σ H R I h => ?_⟩
  refine Call_ (ld_blt I hg hm boot_enumerate (PyProof.Rows.callWith_type1 (thn (ha.run pos pins s σ H _ I h) fun us s1 ⟨vs, H1, I1, r1, q1⟩ => ?_) hs rfl))
  obtain ⟨x, ex, q⟩ := q1
  subst ex
  cases r1 with
  | cons r rr =>
    cases rr
    obtain ⟨t, rfl⟩ := r
    refine call_enumerate_str fun h' he hit hsz hk => wpAny_pyIter_enum he ?_
    have I2 : Inv X pins σ H1 { s1 with heap := h' } := I1.kept (t' := s1.toks) hk
    refine ⟨s1.heap.objs.size + 1, [s1.heap.objs.size + 1, s1.heap.objs.size], _, _, H1, rfl, I2, turn_enumS x t (strIterType x) (by unfold strIterType; split <;> simp) (s1.heap.objs.size + 1) s1.heap.objs.size, ⟨⟨.none, he⟩, hit, Nat.succ_ne_self _⟩, fun b hb => ?_, q⟩
    have e' : b = s1.heap.objs.size + 1 ∨ b = s1.heap.objs.size := by simpa using hb
    have hle : s1.heap.objs.size ≤ b := by
      rcases e' with z | z
      · rw [z]; exact Nat.le_add_right _ _
      · rw [z]; exact Nat.le_refl _
    exact I1.fpOk hle (I1.hok.fresh hle)
theorem walk_enumS (x : Str) : Walk (Ites x) x.cps.size (fun _ => True) (fun i H v H' => ∃ T c, v = .ref T ∧ H T = none ∧ H' = upd H T (.tup [.int (i : Nat), .str ⟨#[c]⟩]) ∧ x.cps[i]? = some c) where
  goes := fun i H h _ => h
  stops := fun H _ => rfl
  yields := fun i H v H' h _ y => y
theorem for_enumS {x : Str} {g : TG} {tb : TS} {D : Ends} {σ : L2.St} {H : Hp} (Pv : Nat → L2.St → Hp → Prop) (h0 : Pv 0 σ H)
    (hs : ∀ i c T σ H, (tl x)[i]? = some c → Pv i σ H → H T = none → g (.ref T) σ (upd H T (.tup [.int (i : Nat), .str ⟨#[c]⟩])) fun σ2 H2 => tb { D with nx := Pv (i + 1), ct := Pv (i + 1), bk := D.nx } σ2 H2) (hd : ∀ σ H, Pv (tl x).length σ H → D.nx σ H) :
    ∃ W : Nat → Nat → L2.St → Hp → Prop, (∃ m, W 0 m σ H) ∧ ∀ i m σ H, W i m σ H →
      ((Ites x).stop i H ∧ D.nx σ H) ∨ ((Ites x).go i H ∧ ∃ N : L2.St → Hp → Prop, (∀ σ' H', N σ' H' → ∃ m', m' < m ∧ W (i + 1) m' σ' H') ∧ ∀ v H', (Ites x).yld i H v H' → g v σ H' fun σ2 H2 => tb { D with nx := N, ct := N, bk := D.nx } σ2 H2) :=
  for_it (walk_enumS x) Pv h0 (fun _ _ _ _ _ => trivial) (fun i v σ H H' hi hp ⟨T, c, e1, e2, e3, e4⟩ => by
    subst e1
    subst e3
    exact hs i c T σ H (by rw [Array.getElem?_toList]; exact e4) hp e2) (fun σ H hp => hd σ H hp)
end TR
namespace QR
open PySem PySem.Spec PyProof.Rows L2
section
variable {X : Cx}
def rEqP (K : PySem.W.Frag) : R2 := fun x y H Q => ∃ d e, Dp K H x d ∧ Dp K H y e ∧ d.plain = true ∧ e.plain = true ∧ d.depth ≤ 60 ∧ Q (.bl (PyData.eqv d e)) H
def rNeP (K : PySem.W.Frag) : R2 := fun x y H Q => ∃ d e, Dp K H x d ∧ Dp K H y e ∧ d.plain = true ∧ e.plain = true ∧ d.depth ≤ 60 ∧ Q (.bl (!PyData.eqv d e)) H
theorem op_eqP (hu : X.A.units + 64 < cLine) : OpR X (compareOp .Eq) (rEqP X.K) := fun pins s σ H x y v u Q I rx ry ⟨d, e, hd, he, pd, pe, dd, q⟩ => by
  obtain ⟨as, r1⟩ := Dp.reads I d x v hd rx
  obtain ⟨bs, r2⟩ := Dp.reads I e y u he ry
  exact PySem.SeqAt.eq_plain r1 r2 pd pe (by omega) ⟨.bl _, H, I, rfl, q⟩
theorem op_neP (hu : X.A.units + 64 < cLine) : OpR X (compareOp .NotEq) (rNeP X.K) := fun pins s σ H x y v u Q I rx ry ⟨d, e, hd, he, pd, pe, dd, q⟩ => by
  obtain ⟨as, r1⟩ := Dp.reads I d x v hd rx
  obtain ⟨bs, r2⟩ := Dp.reads I e y u he ry
  exact PySem.SeqAt.ne_plain r1 r2 pd pe (by omega) ⟨.bl _, H, I, rfl, q⟩
end
/-! ### == and != of values with a Lean type -/
section
variable {α : Type} [DecidableEq α] [PySem.W.Datum α] {K : PySem.W.Frag} {H : Hp} {x y : V} {a b : α} {Q : VK}
theorem eq_dat (hx : Dp K H x (PySem.W.Datum.toD a)) (hy : Dp K H y (PySem.W.Datum.toD b)) (hd : PySem.W.Datum.depth α ≤ 60) (q : Q (.bl (decide (a = b))) H) : rEqP K x y H Q :=
  ⟨_, _, hx, hy, PySem.W.Datum.plain a, PySem.W.Datum.plain b, Nat.le_trans (PySem.W.Datum.depth_le a) hd, by rw [PySem.W.Datum.eqv]; exact q⟩
theorem ne_dat (hx : Dp K H x (PySem.W.Datum.toD a)) (hy : Dp K H y (PySem.W.Datum.toD b)) (hd : PySem.W.Datum.depth α ≤ 60) (q : Q (.bl (!decide (a = b))) H) : rNeP K x y H Q :=
  ⟨_, _, hx, hy, PySem.W.Datum.plain a, PySem.W.Datum.plain b, Nat.le_trans (PySem.W.Datum.depth_le a) hd, by rw [PySem.W.Datum.eqv]; exact q⟩
end
end QR
/-! dict(d), d == e of dicts keyed by nested tuples; what can be read stays -/
namespace GX
open PySem PySem.Spec PyProof.Rows L2 GxR
/-- what can be read can be read later too (objects of own classes aside) -/
def RS (H H' : Hp) : Prop := ∀ a u, (∀ o v, u ≠ .frz o v) → (∀ C dx fs, u ≠ .ins C dx fs) → (∀ ps, u ≠ .tbl ps) → Rd H a u → Rd H' a u
theorem RS.refl {H : Hp} : RS H H := fun _ _ _ _ _ h => h
theorem RS.trans {H H1 H2 : Hp} (a : RS H H1) (b : RS H1 H2) : RS H H2 := fun x u n m t h => b x u n m t (a x u n m t h)
theorem rs_same {H H' : Hp} (s : Same H H') : RS H H' := fun a u _ _ _ h => by
  rcases h with h | ⟨o, h⟩
  · exact .inl (s a _ h)
  · exact .inr ⟨o, s a _ h⟩
theorem rs_lock {H : Hp} {d : Addr} {u : HO} {o : Obj} (h : H d = some u) (n : ∀ o v, u ≠ .frz o v) : RS H (upd H d (.frz o u)) := fun a v _ _ _ r => by
  by_cases e : a = d
  · subst e
    rcases r with r | ⟨o', r⟩
    · rw [h] at r
      cases r
      exact .inr ⟨o, upd_same⟩
    · rw [h] at r
      cases r
      exact absurd rfl (n o' v)
  · rcases r with r | ⟨o', r⟩
    · exact .inl ((upd_ne e).trans r)
    · exact .inr ⟨o', (upd_ne e).trans r⟩
theorem rs_unlock {H : Hp} {d : Addr} {u : HO} {o : Obj} (h : H d = some (.frz o u)) : RS H (upd H d u) := fun a v n _ _ r => by
  by_cases e : a = d
  · subst e
    rcases r with r | ⟨o', r⟩
    · rw [h] at r
      cases r
      exact absurd rfl (n o u)
    · rw [h] at r
      cases r
      exact .inl upd_same
  · rcases r with r | ⟨o', r⟩
    · exact .inl ((upd_ne e).trans r)
    · exact .inr ⟨o', (upd_ne e).trans r⟩
theorem rs_ins {H : Hp} {x C dx : Addr} {fs : List (Str × V)} {o : HO} (h : H x = some (.ins C dx fs)) : RS H (upd H x o) := fun a v _ m _ r => by
  by_cases e : a = x
  · subst e
    rcases r with r | ⟨o', r⟩
    · rw [h] at r
      cases r
      exact absurd rfl (m C dx fs)
    · rw [h] at r
      cases r
  · rcases r with r | ⟨o', r⟩
    · exact .inl ((upd_ne e).trans r)
    · exact .inr ⟨o', (upd_ne e).trans r⟩
/-- a table of generators changes, nothing else that stood -/
theorem rs_tb {H H' : Hp} {T : Addr} (hT : ∃ ps, H T = some (.tbl ps)) (h : ∀ b o, b ≠ T → H b = some o → H' b = some o) : RS H H' := fun a v _ _ t r => by
  obtain ⟨ps, hT⟩ := hT
  by_cases e : a = T
  · subst e
    rcases r with r | ⟨o', r⟩
    · rw [hT] at r
      cases r
      exact absurd rfl (t ps)
    · rw [hT] at r
      cases r
  · rcases r with r | ⟨o', r⟩
    · exact .inl (h _ _ e r)
    · exact .inr ⟨o', h _ _ e r⟩
theorem RS.dn {κ : Type} [DecidableEq κ] {T : KT κ} {P : Program} {w : World} {H H' : Hp} {a : Addr} {es : List (κ × Addr × V)} (s : RS H H') (h : Rd H a (dNO T P w a es)) : Rd H' a (dNO T P w a es) := s _ _ (fun _ _ h => nomatch h) (fun _ _ _ h => nomatch h) (fun _ h => nomatch h) h
section
variable {K : PySem.W.Frag} {H H' : Hp}
theorem RS.sqt (s : RS H H') {a : Addr} {xs : List V} (h : SqT K H a xs) : SqT K H' a xs := h.imp (s _ _ (fun _ _ h => nomatch h) (fun _ _ _ h => nomatch h) (fun _ h => nomatch h)) id
theorem RS.sql (s : RS H H') {a : Addr} {xs : List V} (h : SqL K H a xs) : SqL K H' a xs := h.imp (s _ _ (fun _ _ h => nomatch h) (fun _ _ _ h => nomatch h) (fun _ h => nomatch h)) id
mutual
theorem Dp.rs (s : RS H H') : ∀ (d : PyData) (v : V), Dp K H v d → Dp K H' v d
  | .none, _, h => by cases h; exact .non
  | .bool b, _, h => by cases h; exact .bl b
  | .int i, _, h => by cases h; exact .int i
  | .str x, _, h => by cases h; exact .str x
  | .list ds, _, h => by
    cases h with
    | lst hs ha => exact .lst (s.sql hs) (Dp.rsAll s ds _ ha)
  | .tuple ds, _, h => by
    cases h with
    | tup hs ha => exact .tup (s.sqt hs) (Dp.rsAll s ds _ ha)
  | .dict _, _, h => nomatch h
theorem Dp.rsAll (s : RS H H') : ∀ (ds : List PyData) (vs : List V), DpAll K H vs ds → DpAll K H' vs ds
  | [], _, h => by cases h; exact .nil
  | d :: ds, _, h => by
    cases h with
    | cons h1 h2 => exact .cons (Dp.rs s d _ h1) (Dp.rsAll s ds _ h2)
end
end
/-- tuples stay: enough for data of ints, texts and tuples -/
def TSt (K : PySem.W.Frag) (H H' : Hp) : Prop := ∀ x ys, SqT K H x ys → SqT K H' x ys
section
variable {K : PySem.W.Frag} {H H' : Hp}
theorem RS.tst (s : RS H H') : TSt K H H' := fun _ _ h => s.sqt h
theorem TSt.refl : TSt K H H := fun _ _ h => h
theorem TSt.trans {H2 : Hp} (a : TSt K H H') (b : TSt K H' H2) : TSt K H H2 := fun x ys h => b x ys (a x ys h)
/-- something that is no tuple is written -/
theorem tst_upd {E : Addr} {o o' : HO} (e : H E = some o) (n : ∀ xs, o ≠ .tup xs) (n' : ∀ p xs, o ≠ .frz p (.tup xs)) : TSt K H (upd H E o') := fun x zs h => by
  rcases h with r | r
  · by_cases q : x = E
    · subst q
      rcases r with r | ⟨p, r⟩
      · rw [e] at r
        cases r
        exact absurd rfl (n zs)
      · rw [e] at r
        cases r
        exact absurd rfl (n' p zs)
    · rcases r with r | ⟨p, r⟩
      · exact .inl (.inl ((upd_ne q).trans r))
      · exact .inl (.inr ⟨p, (upd_ne q).trans r⟩)
  · exact .inr r
mutual
theorem Dp.tst (s : TSt K H H') : ∀ (d : PyData) (v : V), kd d = true → Dp K H v d → Dp K H' v d
  | .int i, _, _, h => by cases h; exact .int i
  | .str x, _, _, h => by cases h; exact .str x
  | .tuple ds, _, k, h => by
    cases h with
    | tup hs ha => exact .tup (s _ _ hs) (Dp.tstAll s ds _ (by rw [kd] at k; exact k) ha)
  | .none, _, k, _ => by simp [kd] at k
  | .bool _, _, k, _ => by simp [kd] at k
  | .list _, _, k, _ => by simp [kd] at k
  | .dict _, _, k, _ => by simp [kd] at k
theorem Dp.tstAll (s : TSt K H H') : ∀ (ds : List PyData) (vs : List V), kdAll ds = true → DpAll K H vs ds → DpAll K H' vs ds
  | [], _, _, h => by cases h; exact .nil
  | d :: ds, _, k, h => by
    rw [kdAll, Bool.and_eq_true] at k
    cases h with
    | cons h1 h2 => exact .cons (Dp.tst s d _ k.1 h1) (Dp.tstAll s ds _ k.2 h2)
end
end
section
variable {κ : Type} [DecidableEq κ] {T : KT κ} {K : PySem.W.Frag} {H H' : Hp}
theorem KT.ts {v : V} {k : κ} (s : TSt K H H') (h : Dp K H v (T.enc k)) : Dp K H' v (T.enc k) := Dp.tst s _ _ (T.kd k) h
theorem KeysAt.ts {es : List (κ × Addr × V)} (s : TSt K H H') (h : KeysAt T K H es) : KeysAt T K H' es := fun e he => KT.ts s (h e he)
end
section
variable {κ : Type} [DecidableEq κ] {T : KT κ} {X : Cx} {pins : List (Addr × Obj)} {σ : L2.St} {H : Hp} {s : Shared}
theorem call_dict_H {prog : Program} {w : World} {κ' : Type} [DecidableEq κ'] {knd : HeapKind prog w κ'} {A : Around} {E : Value → Shared → Prop} {s : Shared} {o : Addr} {more : List (κ' × Addr × Value)} {Q : Value → Shared → Prop} (hu : knd.room A.in1.in1) (hoS : (o == sysModules) = false) (ho : s.heap.DictOfH knd o more) (ho' : (s.heap.push { cls := .type "dict", data := .dict #[] }).DictOfH knd o more)
    (hap : (∀ x ∈ more, Shared.TypeIs { s with heap := s.heap.push { cls := .type "dict", data := .dict #[] } } (.ref x.2.1) "tuple") ∧ (more.map fun x => knd.hash x.1).Nodup) (hsz : more.length ≤ sizeLine)
    (h : ∀ h', h'.DictOfH knd s.heap.objs.size more → Heap.SameBut s.heap.objs.size (s.heap.push { cls := .type "dict", data := .dict #[] }) h' → Q (.ref s.heap.objs.size) { s with heap := h' }) :
    wpAny (model prog w) A (call (.type "dict") [.ref o]) Q E s := by
  refine callType_codes (Q₁ := fun obj s₁ => obj = .ref s.heap.objs.size ∧ s₁ = { s with heap := s.heap.push { cls := .type "dict", data := .dict #[] } }) F.kt_called_dict (F.kt_typeCall_dict_1 _) F.entry_dict_init (kt_code_dict_new _ ⟨rfl, rfl⟩) ?_
  rintro obj s₁ ⟨rfl, rfl⟩
  have hnew : (s.heap.push { cls := .type "dict", data := .dict #[] }).DictOfH knd s.heap.objs.size [] := Heap.DictOfH.new s.heap
  have hdo : s.heap.objs.size ≠ o := by
    obtain ⟨_, _, _, hg, _⟩ := ho
    exact fun e => absurd (Heap.lt_size hg) (by rw [e]; exact Nat.lt_irrefl _)
  have hn := ho.nodup
  have hT : Shared.TypeIs { s with heap := s.heap.push { cls := .type "dict", data := .dict #[] } } (.ref s.heap.objs.size) "dict" := ⟨_, Heap.get?_push_size _ rfl, rfl⟩
  refine ⟨hT, F.args_dict_init_2 _ _, ?_⟩
  unfold Builtin.«dict.__init__»
  refine wpAny_bind ?_
  unfold Builtin.Dict.selfAndRest
  refine wpAny_bind (wpAny_notOrdered_dict hT ?_)
  show wpAny _ _ (pure (s.heap.objs.size, [Value.ref o])) _ _ _
  refine wpAny_pure ?_
  show wpAny _ _ (Builtin.Dict.updateFrom "dict.__init__" s.heap.objs.size (.ref o) [] .none) _ _ _
  refine updateFrom_dictH (A := A.in1) .none hu hdo hoS hnew ho' (.inr hap) (by simpa using hsz) fun h' hd' _ hs' => ?_
  rw [storedAllH_nil_of_nodup more hn] at hd'
  exact ⟨rfl, h h' hd' hs'⟩
/-- dict(d) -/
theorem cr_dictN (hu : X.A.units + 64 < cLine) : CallR X (.type "dict") (fun xs H Q => ∃ (a : Addr) (es : List (κ × Addr × V)), xs = [.ref a] ∧ Rd H a (dNO T X.prog X.w a es) ∧ KeysAt T X.K H es ∧ (es.map fun e => NestedKey.hash X.w (keyN (T.enc e.1))).Nodup ∧ ∀ p, H p = none → Q (.ref p) (upd H p (dNO T X.prog X.w p es))) := by
  intro pins s σ H xs us Q I r q
  obtain ⟨a, es, ex, hd, hk, hh, q⟩ := q
  subst ex
  obtain ⟨u, eu, rx⟩ := vals1 r
  subst eu
  cases rx
  obtain ⟨z, l, us, hv, hm⟩ := dict_of I hd hk
  have ls : (rowsN T es us).length = es.length := by
    unfold rowsN
    rw [List.length_map, List.length_zip, ← hv.length, List.length_map, Nat.min_self]
  obtain ⟨_, _, nd, _⟩ := dn0_of I hd
  have lu : us.length = es.length := by rw [← hv.length, List.length_map]
  have eh : ((rowsN T es us).map fun x => (nestedKind X.prog X.w).hash x.1) = es.map fun e => NestedKey.hash X.w (keyN (T.enc e.1)) := by
    unfold rowsN
    rw [List.map_map]
    conv => rhs; rw [show es = (es.zip us).map Prod.fst from (List.map_fst_zip (by omega)).symm, List.map_map]
    rfl
  have h63 := line63
  have hm' : (s.heap.push { cls := .type "dict", data := .dict #[] }).DictOfH (nestedKind X.prog X.w) a (rowsN T es us) := by
    obtain ⟨o, ds, ep, g1, g2, g3, g4, g5, g6⟩ := id hm
    exact ⟨o, ds, ep, Heap.get?_push_of_some _ g1, g2, g3, g4, fun x hx => nestedKind_stays.stays (fun b o _ _ e _ => Heap.get?_push_of_some _ e) (g5 x hx), g6⟩
  refine call_dict_H (knd := nestedKind X.prog X.w) (by show X.A.units + 1 + 1 + 8 < cLine; omega) z hm hm' ⟨fun x hx => ?_, by rw [eh]; exact hh⟩ (by rw [ls]; omega) fun h' hd' hs' => ?_
  · obtain ⟨_, _, _, _, _, _, _, g5, _⟩ := hm'
    exact nestedKind_stays.tuple (g5 x hx)
  · have z' : (s.heap.objs.size == sysModules) = false := beq_eq_false_iff_ne.mpr (Nat.ne_of_gt I.big)
    obtain ⟨o', ds, ep, ho, hx, hdd, hr, _, _⟩ := hd'
    have R : DN0 T X.prog X.w h' s.heap.objs.size es := ⟨z', l, nd, o', ds, ep, us, ho, hx, hdd, hv, hr⟩
    exact ⟨.ref s.heap.objs.size, _, I.laid (t' := s.toks) (fun b u e => (hs'.2 b (Nat.ne_of_lt (Heap.lt_size e))).trans (Heap.get?_push_of_some _ e)) (Nat.le_refl _) (dNO_ok T R), rfl, q _ (I.hok.fresh (Nat.le_refl _))⟩
end
end GX
/-! d == e of dicts keyed by nested tuples -/
namespace GX
open PySem PySem.Spec PyProof.Rows PyProof.V L2 GxR
section
variable {prog : Program} {w : World} {K : Type} [DecidableEq K] {knd : HeapKind prog w K} {A : Around} {E : Value → Shared → Prop} {s : Shared}
inductive HitsH {K : Type} [DecidableEq K] (prog : Program) (w : World) (A : Around) (s : Shared) (kb : List (K × Addr × Value)) : List (K × Addr × Value) → Bool → Prop
  | nil : HitsH prog w A s kb [] true
  | miss {k : K} {a : Addr} {v : Value} {r : List (K × Addr × Value)} : atKey kb k = none → HitsH prog w A s kb ((k, a, v) :: r) false
  | hit {k : K} {a b : Addr} {v y : Value} {r : List (K × Addr × Value)} {e c : Bool} : atKey kb k = some (b, y) → SeqAt.EqP prog w A s v y e → HitsH prog w A s kb r c → HitsH prog w A s kb ((k, a, v) :: r) (e && c)
theorem HitsH.inv {kb : List (K × Addr × Value)} {k : K} {a : Addr} {v : Value} {r : List (K × Addr × Value)} {b : Bool} (h : HitsH prog w A s kb ((k, a, v) :: r) b) :
    (atKey kb k = none ∧ b = false) ∨ ∃ c y e b', atKey kb k = some (c, y) ∧ SeqAt.EqP prog w A s v y e ∧ HitsH prog w A s kb r b' ∧ b = (e && b') := by
  cases h with
  | miss hn => exact .inl ⟨hn, rfl⟩
  | hit hy he hr => exact .inr ⟨_, _, _, _, hy, he, hr, rfl⟩
theorem at_of_get {ys : List (K × Addr × Value)} {k : K} {j : Nat} {p : Addr × Value} (n : (ys.map (·.1)).Nodup) (h : ys[j]? = some (k, p)) : atKey ys k = some p := by
  induction ys generalizing j with
  | nil => cases h
  | cons y ys ih =>
    rw [List.map_cons, List.nodup_cons] at n
    cases j with
    | zero =>
      simp only [List.getElem?_cons_zero, Option.some.injEq] at h
      subst h
      unfold atKey
      simp
    | succ j =>
      rw [List.getElem?_cons_succ] at h
      have := ih n.2 h
      have hm : k ∈ ys.map (·.1) := List.mem_map.mpr ⟨(k, p), List.mem_of_getElem? h, rfl⟩
      have hk : y.1 ≠ k := fun e => n.1 (by rw [e]; exact hm)
      unfold atKey at this ⊢
      simp only [List.find?_cons]
      rw [show decide (y.1 = k) = false from decide_eq_false hk]
      exact this
theorem at_none {ys : List (K × Addr × Value)} {k : K} (h : ∀ (j : Nat) (p : Addr × Value), ys[j]? ≠ some (k, p)) : atKey ys k = none := by
  unfold atKey
  cases e : ys.find? fun x => decide (x.1 = k) with
  | none => rfl
  | some x =>
    obtain ⟨j, hj⟩ := List.getElem?_of_mem (List.mem_of_find?_eq_some e)
    have hk : x.1 = k := of_decide_eq_true (List.find?_some (p := fun x : K × Addr × Value => decide (x.1 = k)) e)
    exact absurd (by rw [hj, ← hk]) (h j x.2)
theorem samePairsH {nm : String} {a b : Addr} {ka kb : List (K × Addr × Value)} {r : Bool} {Q : Bool → Shared → Prop} (hu : knd.room A) (ha : (a == sysModules) = false) (hb : (b == sysModules) = false)
    (da : s.heap.DictOfH knd a ka) (db : s.heap.DictOfH knd b kb) (hits : ka.length = kb.length → HitsH prog w A s kb ka r) (h : Q (ka.length == kb.length && r) s) :
    wpAny (model prog w) A (Builtin.Dict.samePairs nm a b) Q E s := by
  obtain ⟨oa, es, ep, hoa, _, hda, hea, hia, hna⟩ := da
  obtain ⟨ob, es', ep', hob, _, hdb, heb, hib, hnb⟩ := db
  have hla : ka.length = es.size := (size_of_entries hea).symm
  have hlb : kb.length = es'.size := (size_of_entries heb).symm
  rw [hla, hlb] at h
  unfold Builtin.Dict.samePairs Builtin.Dict.showsAll
  rw [if_neg (show ¬ (a == sysModules) = true by rw [ha]; exact Bool.false_ne_true), if_neg (show ¬ (b == sysModules) = true by rw [hb]; exact Bool.false_ne_true)]
  refine wpAny_bind (wpAny_pure (wpAny_bind (wpAny_pure ?_)))
  refine wpAny_bind (wpAny_dictEntries hoa hda ?_)
  dsimp only
  refine wpAny_bind (wpAny_dictEntries hob hdb ?_)
  by_cases hsz : es.size = es'.size
  case neg =>
    rw [if_pos (by simpa using hsz)]
    have hbf : (es.size == es'.size) = false := by simpa using hsz
    rw [hbf, Bool.false_and] at h
    exact wpAny_bind (wpAny_rule (wpAny_pure h))
  case pos =>
    have h' : Q r s := by simpa [hsz] using h
    have hits' := hits (by rw [hla, hlb]; exact hsz)
    rw [if_neg (by rw [hsz]; simp)]
    refine wpAny_bind (wpAny_dictEpoch hoa hda ?_)
    refine wpAny_bind ?_
    rw [Std.Legacy.Range.forIn_eq_forIn_range']
    simp only [Std.Legacy.Range.size, Nat.sub_zero, Nat.add_sub_cancel, Nat.div_one]
    refine wpAny_forIn_list _
      (fun rest q s' => s' = s ∧ q = (none, ()) ∧ ∃ i, rest = List.range' i (es.size - i) ∧ i ≤ es.size ∧ HitsH prog w A s kb (ka.drop i) r)
      _ ?_ ?_ _ _ ⟨rfl, rfl, 0, by simp, Nat.zero_le _, hits'⟩
    · rintro x rest q s' ⟨rfl, rfl, i, hr, hi, hpre⟩
      have hlt : i < es.size := by
        rcases Nat.lt_or_ge i es.size with h | h
        · exact h
        · rw [Nat.sub_eq_zero_of_le h] at hr; simp at hr
      obtain ⟨rfl, hrest⟩ : x = i ∧ rest = List.range' (i + 1) (es.size - (i + 1)) := by
        have e : es.size - i = (es.size - (i + 1)) + 1 := by omega
        rw [e, List.range'_succ] at hr
        injection hr with h1 h2
        exact ⟨h1, h2⟩
      refine wpAny_bind (wpAny_dictEntries hoa hda ?_)
      have hlt' : x < ka.length := by rw [hla]; exact hlt
      obtain ⟨k, ad, v, hkv⟩ : ∃ k ad v, ka[x] = (k, ad, v) := ⟨_, _, _, rfl⟩
      have hdrop : ka.drop x = (k, ad, v) :: ka.drop (x + 1) := by rw [← hkv]; exact List.drop_eq_getElem_cons hlt'
      have hex : es[x]? = some (entryOfKey knd (k, ad, v)) := by rw [entry_at hea x, List.getElem?_eq_getElem hlt', hkv]; rfl
      rw [hex]
      have hkey := hia (k, ad, v) (hkv ▸ List.getElem_mem hlt')
      rw [hdrop] at hpre
      refine wpAny_bind (wpAny_holding (wpAny_bind (wpAny_dictFind_heap hu hkey hob hdb heb hib hnb (fun hno => ?_) fun j p hj => ?_)))
      · have hn : atKey kb k = none := at_none hno
        rcases hpre.inv with ⟨_, er⟩ | ⟨_, y, _, _, hy, _⟩
        · rw [er] at h'
          refine wpAny_pure ?_
          show wpAny _ _ (if (!false) = true then _ else _) _ _ _
          rw [if_pos (by decide)]
          exact wpAny_pure (wpAny_pure h')
        · rw [hn] at hy; exact nomatch hy
      · have hv' : atKey kb k = some p := at_of_get hnb hj
        have hej : es'[j]? = some (entryOfKey knd (k, p)) := by rw [entry_at heb j, hj]; rfl
        refine wpAny_bind (wpAny_dictEntries hob hdb ?_)
        rw [hej]
        rcases hpre.inv with ⟨hn, _⟩ | ⟨c, y, e, b', hy, he, hrr, er⟩
        · rw [hv'] at hn; exact nomatch hn
        · have ey : p = (c, y) := Option.some.inj (hv'.symm.trans hy)
          subst ey
          refine wpAny_holding (he _ _ ?_)
          cases e with
          | false =>
            rw [er, Bool.false_and] at h'
            show wpAny _ _ (if (!false) = true then _ else _) _ _ _
            rw [if_pos (by decide)]
            exact wpAny_pure (wpAny_pure h')
          | true =>
            rw [Bool.true_and] at er
            rw [← er] at hrr
            show wpAny _ _ (if (!true) = true then _ else _) _ _ _
            rw [if_neg (by decide)]
            refine wpAny_bind (wpAny_dictEpoch hoa hda ?_)
            rw [if_neg (by simp)]
            exact wpAny_pure ⟨rfl, rfl, x + 1, hrest, hlt, hrr⟩
    · rintro q s' ⟨rfl, rfl, i, hr, hi, hpre⟩
      have hin : i = es.size := by
        rcases Nat.lt_or_ge i es.size with h | h
        · have e : es.size - i = (es.size - (i + 1)) + 1 := by omega
          rw [e, List.range'_succ] at hr; exact nomatch hr
        · exact Nat.le_antisymm hi h
      refine wpAny_pure ?_
      rw [hin, ← hla, List.drop_length] at hpre
      cases hpre
      exact h'
theorem rcH_dicts {a b : Addr} {ka kb : List (K × Addr × Value)} {r : Bool} (hk : knd.room A.in1) (ha : (a == sysModules) = false) (hb : (b == sysModules) = false)
    (da : s.heap.DictOfH knd a ka) (db : s.heap.DictOfH knd b kb) (hu : A.units < cLine) (hits : ka.length = kb.length → HitsH prog w A.in1 s kb ka r) (E Q : Value → Shared → Prop) (h : Q (.bool (ka.length == kb.length && r)) s) : wpAny (model prog w) A (richCompare .Eq (.ref a) (.ref b)) Q E s := by
  refine wpAny_richCompare_same_room (op := .Eq) da.typeIs db.typeIs PySem.F.slot_dict_eq (wpAny_call_entry PySem.F.slot_dict_eq da.typeIs PySem.F.entry_dict_eq ?_ (PySem.F.args_dict_eq_2 _ _)) hu
  show wpAny _ _ (Builtin.Dict.dictSlotArgs "__eq__" ⟨[.ref a, .ref b], []⟩ >>= _) _ _ s
  refine wpAny_bind ?_
  unfold Builtin.Dict.dictSlotArgs
  refine wpAny_bind (wpAny_notOrdered_dict da.typeIs ?_)
  show wpAny _ _ (pure (Value.ref a, Value.ref b)) _ _ s
  refine wpAny_pure ?_
  refine wpAny_bind (wpAny_isInstance (T := "dict") db.typeIs PySem.F.sub_dict_dict ?_)
  simp only [Bool.not_true, Bool.false_eq_true, if_false]
  refine wpAny_bind (wpAny_pure (wpAny_bind (wpAny_pure ?_)))
  refine wpAny_bind (samePairsH hk ha hb da db hits ?_)
  refine wpAny_pure ⟨_, rfl, ?_, ?_⟩
  · exact fun x => nomatch x
  · simpa using h
end
section
variable {κ : Type} [DecidableEq κ] {T : KT κ} {X : Cx} {pins : List (Addr × Obj)} {σ : L2.St} {H : Hp} {s : Shared}
/-- the two dicts have equal values at equal keys; dv, dw: the values' data -/
def sameD (dv dw : κ → PyData) (es fs : List (κ × Addr × V)) : Bool := es.all fun e => (fs.any fun f => decide (f.1 = e.1)) && PyData.eqv (dv e.1) (dw e.1)
/-- the values are plain data -/
def ValsD (K : PySem.W.Frag) (H : Hp) (dv : κ → PyData) (es : List (κ × Addr × V)) : Prop := ∀ e ∈ es, Dp K H e.2.2 (dv e.1) ∧ (dv e.1).plain = true ∧ (dv e.1).depth ≤ 40
theorem hits_of {A : Around} (hu : A.units + 41 < cLine) (I : Inv X pins σ H s) {dv dw : κ → PyData} {fs : List (κ × Addr × V)} {vs : List Value} (hv : Vals (fs.map (·.2.2)) vs) (hf : ValsD X.K H dw fs) :
    ∀ {es : List (κ × Addr × V)} {us : List Value}, Vals (es.map (·.2.2)) us → ValsD X.K H dv es → HitsH X.prog X.w A s (rowsN T fs vs) (rowsN T es us) (sameD dv dw es fs)
  | [], _, .nil, _ => .nil
  | e :: es, u :: us, .cons r t, hd => by
    show HitsH _ _ _ _ _ ((keyN (T.enc e.1), e.2.1, u) :: rowsN T es us) _
    unfold sameD
    rw [List.all_cons]
    rcases rows_find (T := T) (k := e.1) hv with ⟨e1, e2⟩ | ⟨f, y, e1, e2, ry⟩
    · have : (fs.any fun f => decide (f.1 = e.1)) = false := by
        rw [← Bool.not_eq_true, List.any_eq_true]
        rintro ⟨f, hf1, hf2⟩
        exact absurd hf2 (by rw [List.find?_eq_none] at e2; exact e2 f hf1)
      rw [this, Bool.false_and, Bool.false_and]
      exact .miss e1
    · have hm := List.mem_of_find?_eq_some e1
      have hk : f.1 = e.1 := of_decide_eq_true (List.find?_some (p := fun f : κ × Addr × V => decide (f.1 = e.1)) e1)
      have : (fs.any fun f => decide (f.1 = e.1)) = true := List.any_eq_true.mpr ⟨f, hm, decide_eq_true hk⟩
      rw [this, Bool.true_and]
      obtain ⟨p1, p2, p3⟩ := hd e List.mem_cons_self
      obtain ⟨q1, q2, q3⟩ := hf f hm
      obtain ⟨as, ra⟩ := Dp.reads I _ _ u p1 r
      obtain ⟨bs, rb⟩ := Dp.reads I _ _ y q1 ry
      rw [hk] at q2 q3 rb
      exact .hit e2 (SeqAt.EqAt.eqP (SeqAt.eqAt_plain _ _ A s u y as bs ra rb p2 q2 (by omega))) (hits_of hu I hv hf t fun x hx => hd x (List.mem_cons_of_mem _ hx))
/-- d == e -/
def rEqN (T : KT κ) (P : Program) (w : World) (K : PySem.W.Frag) : R2 := fun x y H Q => ∃ (a b : Addr) (es fs : List (κ × Addr × V)) (dv dw : κ → PyData), x = .ref a ∧ y = .ref b ∧ Rd H a (dNO T P w a es) ∧ Rd H b (dNO T P w b fs) ∧ KeysAt T K H es ∧ KeysAt T K H fs ∧ ValsD K H dv es ∧ ValsD K H dw fs ∧ Q (.bl (es.length == fs.length && sameD dv dw es fs)) H
theorem op_eqN (hu : X.A.units + 64 < cLine) : OpR X (compareOp .Eq) (rEqN T X.prog X.w X.K) := fun pins s σ H x y v u Q I rx ry h => by
  obtain ⟨a, b, es, fs, dv, dw, rfl, rfl, ha, hb, ka, kb, va, vb, q⟩ := h
  cases rx
  cases ry
  obtain ⟨z1, l1, us, hv1, hm1⟩ := dict_of I ha ka
  obtain ⟨z2, l2, vs, hv2, hm2⟩ := dict_of I hb kb
  have ls1 : (rowsN T es us).length = es.length := by
    unfold rowsN
    rw [List.length_map, List.length_zip, ← hv1.length, List.length_map, Nat.min_self]
  have ls2 : (rowsN T fs vs).length = fs.length := by
    unfold rowsN
    rw [List.length_map, List.length_zip, ← hv2.length, List.length_map, Nat.min_self]
  refine rcH_dicts (knd := nestedKind X.prog X.w) (r := sameD dv dw es fs) (by show X.A.units + 1 + 8 < cLine; omega) z1 z2 hm1 hm2 (by omega) (fun _ => hits_of (by show X.A.units + 1 + 41 < cLine; omega) I hv2 vb hv1 va) _ _ ?_
  rw [ls1, ls2]
  exact ⟨.bl _, H, I, rfl, q⟩
end
end GX
/-! a method of a dict keyed by nested tuples; entries of a list as pairs -/
namespace GX
open PySem PySem.Spec PyProof.Rows L2 GxR
section
variable {κ : Type} [DecidableEq κ] {T : KT κ} {X : Cx}
def tBMN (T : KT κ) (P : Program) (w : World) (r : V → List V → Hp → VK → Prop) (to : TE) (t : TA) : TE := fun σ H Q => to σ H fun x H1 => (∃ a es, x = .ref a ∧ Rd H1 a (dNO T P w a es)) ∧ t σ H1 fun xs H2 => r x xs H2 Q
theorem pe_bmN {o e : Expr} {es : List Expr} {to : TE} {t : TA} {name : Str} {apos cpos : Pos} {id : String} {r : V → List V → Hp → VK → Prop} (pa : PlainAttrs "dict") (slot : Slot "dict" name id) (hty : typeOf (.builtin id) = pure (.type "method_descriptor")) (hm : MtR X id r) (ho : PE X o to) (ha : PA X (e :: es) t)
    (hbase : attributeBase o name X.env (eval o X.env) = eval o X.env := by rfl)
    (hfew : ((backTo cpos (starEach (e :: es) X.env)).all (fun x => !x.1) && (backToKw cpos (keywordEach [] X.env)).all (fun x => x.1.isSome)
      && decide ((e :: es).length + ([] : List Keyword).length + (if ([] : List Keyword).isEmpty then 0 else 1) < 30)) = true := by rfl)
    (hline : (apos.endLine == cpos.line) = true := by rfl) (hs : starEach (e :: es) X.env = (false, eval e X.env) :: starEach es X.env := by rfl) (hplain : (backTo cpos (starEach es X.env)).any (·.1) = false := by rfl) :
    PE X (.Call (.Attribute o name apos) (e :: es) [] cpos) (tBMN T X.prog X.w r to t) := by
  refine ⟨fun pins s σ H Q I h => ?_⟩
  refine wpAny_Call_method_late hbase hfew hline rfl (thn (ho.run pins s σ H _ I h) fun v s1 ⟨x, H1, I1, r1, ⟨a, es', ex, ty⟩, q1⟩ => ?_)
  have h12 : s1.TypeIs v "dict" ∧ ∀ a, v = .ref a → ∃ ob, s1.heap.get? a = some ob ∧ ob.dict = none := by
    subst ex
    obtain rfl : v = Value.ref a := r1
    obtain ⟨z, l, n, o, ds, ep, us, ho, hx, _⟩ := dn0_of I1 ty
    exact ⟨⟨o, ho, hx.1⟩, fun b e => by cases e; exact ⟨o, ho, hx.2.1⟩⟩
  refine ⟨"dict", id, pa, slot, hty, h12.1, h12.2, ?_⟩
  have hA := ha.run cpos pins s1 σ H1 _ I1 q1
  rw [hs] at hA ⊢
  refine Calls.callWith_builtin (by show (false || (backTo cpos (starEach es X.env)).any (·.1)) = false; rw [hplain] <;> rfl) (Calls.evalArgs_plain ?_)
  exact thn hA fun us s2 ⟨vs, H2, I2, r2, q2⟩ => hm pins s2 σ H2 x vs v us Q I2 r1 r2 q2
end
/-- a dict comprehension over a walk -/
theorem dg_it {J : It} {n : Nat} {G : Hp → Prop} {Y : Nat → Hp → V → Hp → Prop} (w : Walk J n G Y) {o0 : Addr → HO} {put : Addr → V → V → Hp → (Hp → Prop) → Prop} {g : TG} {tt : TT} {tk tv : TE} {vs : List Nat} {σ : L2.St} {H1 : Hp} {D : Addr} {Qd : Hp → Prop} (Pv : Nat → Hp → Prop) (h0 : Pv 0 (upd H1 D (o0 D))) (hG : ∀ i H, i ≤ n → Pv i H → G H)
    (hs : ∀ i x H H', i < n → Pv i H → Y i H x H' → g x (wipe σ vs) H' fun σ2 H2 => wipe σ2 vs = wipe σ vs ∧ tt σ2 H2 fun b H3 =>
      if b = true then tk σ2 H3 fun y H4 => tv σ2 H4 fun z H5 => put D y z H5 (Pv (i + 1)) else Pv (i + 1) H3) (hd : ∀ H, Pv n H → Qd H) :
    ∃ W : Nat → Nat → Hp → Prop, (∃ m, W 0 m (upd H1 D (o0 D))) ∧ ∀ i m H, W i m H →
      (J.stop i H ∧ Qd H) ∨ (J.go i H ∧ ∃ Nx : Hp → Prop, (∀ H', Nx H' → ∃ m', m' < m ∧ W (i + 1) m' H') ∧ ∀ x H', J.yld i H x H' → g x (wipe σ vs) H' fun σ2 H2 => wipe σ2 vs = wipe σ vs ∧ tt σ2 H2 fun b H3 =>
        if b = true then tk σ2 H3 fun y H4 => tv σ2 H4 fun z H5 => put D y z H5 Nx else Nx H3) := by
  refine ⟨fun i m H => m = n - i ∧ i ≤ n ∧ Pv i H, ⟨n, by simp, Nat.zero_le _, h0⟩, ?_⟩
  rintro i m H ⟨rfl, hi, p⟩
  have q := hG i H hi p
  by_cases hlt : i < n
  · exact .inr ⟨w.goes i H hlt q, Pv (i + 1), fun H' p' => ⟨n - (i + 1), by omega, rfl, hlt, p'⟩, fun x H' y => hs i x H H' hlt p (w.yields i H x H' hlt q y)⟩
  · have e : i = n := by omega
    subst e
    exact .inl ⟨w.stops H q, hd H p⟩
end GX
/-! rules of my own: < of data, not in, sorted of data, d.get of a written dict, s.startswith -/
namespace GX
open PySem PySem.Spec PyProof.Rows L2 GxR
section
variable {X : Cx}
def rLtP (K : PySem.W.Frag) : R2 := fun x y H Q => ∃ d e, Dp K H x d ∧ Dp K H y e ∧ PySem.W.alike d e = true ∧ d ≠ .none ∧ d.depth ≤ 60 ∧ Q (.bl (PySem.W.dataLt d e)) H
theorem op_ltP (hu : X.A.units + 64 < cLine) : OpR X (compareOp .Lt) (rLtP X.K) := fun pins s σ H x y v u Q I rx ry ⟨d, e, hd, he, al, nn, dd, q⟩ => by
  obtain ⟨as, r1⟩ := Dp.reads I d x v hd rx
  obtain ⟨bs, r2⟩ := Dp.reads I e y u he ry
  exact PySem.W.lt_data r1 r2 al nn (by omega) ⟨.bl _, H, I, rfl, q⟩
/-- x not in xs, xs a list of plain data -/
def rNotInP (K : PySem.W.Frag) : R2 := fun x y H Q => ∃ (xs : List PyData) (d : PyData), Dp K H y (.list xs) ∧ Dp K H x d ∧ PyData.plainAll xs = true ∧ d.plain = true ∧ d.depth ≤ 60 ∧ Q (.bl (!xs.any fun y => PyData.eqv y d)) H
theorem op_notInP (hu : X.A.units + 64 < cLine) : OpR X (compareOp .NotIn) (rNotInP X.K) := fun pins s σ H x y v u Q I rx ry ⟨xs, d, hy, hx, px, pd, dd, q⟩ => by
  obtain ⟨as, r1⟩ := Dp.reads I _ y u hy ry
  obtain ⟨bs, r2⟩ := Dp.reads I d x v hx rx
  exact PySem.SeqAt.notIn_list_data r1 r2 px pd (by omega) ⟨.bl _, H, I, rfl, q⟩
theorem each_pull {β : Type} {R : V → β → Prop} : ∀ {us : List Value} {bs : List β}, PySem.W.EachIs (fun u b => ∃ v, RelV v u ∧ R v b) us bs → ∃ vs, Vals vs us ∧ PySem.W.EachIs R vs bs
  | _, _, .nil => ⟨[], .nil, .nil⟩
  | _, _, .cons ⟨v, r, h⟩ t => let ⟨vs, a, b⟩ := each_pull t; ⟨v :: vs, .cons r a, .cons h b⟩
theorem each_push {β : Type} {R : V → β → Prop} : ∀ {us : List Value} {vs : List V} {bs : List β}, Vals vs us → PySem.W.EachIs R vs bs → PySem.W.EachIs (fun u b => ∃ v, RelV v u ∧ R v b) us bs
  | _, _, _, .nil, .nil => .nil
  | _, _, _, .cons r a, .cons h b => .cons ⟨_, r, h⟩ (each_push a b)
/-- sorted(xs), xs a list of data that can be compared -/
def rSortedD (K : PySem.W.Frag) : List V → Hp → VK → Prop := fun vs H Q => ∃ (a : Addr) (xs : List V) (β : Type) (bs : List β) (enc : β → PyData) (R : V → β → Prop), vs = [V.ref a] ∧ SqL K H a xs ∧ PySem.W.EachIs R xs bs ∧ (∀ v b, R v b → Dp K H v (enc b)) ∧
  PySem.W.AllAlike (bs.map enc) ∧ PySem.W.Sortable (bs.map enc) ∧ (∀ b ∈ bs, (enc b).depth ≤ 60) ∧ ∀ ys p, PySem.W.EachIs R ys (bs.mergeSort (PySem.W.dataLe false enc)) → H p = none → Q (.ref p) (upd H p (.lst ys))
theorem cr_sortedD (hu : X.A.units + 64 < cLine) : CallR X (.builtin "sorted") (rSortedD X.K) := by
  intro pins s σ H vs us Q I r h
  obtain ⟨a, xs, β, bs, enc, R, rfl, hs, he, hR, al, so, dp, q⟩ := h
  obtain ⟨its, rv, hl, hz⟩ := I.list hs
  obtain ⟨u, rfl, ru⟩ := vals1 r
  obtain rfl : u = Value.ref a := ru
  have hz' : bs.length ≤ sizeLine := by rw [← he.length]; exact hz
  have e := each_push rv he
  refine PySem.W.sorted_data (R := fun u b => ∃ v, RelV v u ∧ R v b) hl.isList e (e.mono fun u b ⟨v, r1, r2⟩ => Dp.reads I _ v u (hR v b r2) r1) al so hz' (fun b hb => by have := dp b hb; omega) fun out lo eo => ?_
  obtain ⟨ys, vy, ey⟩ := each_pull eo
  obtain ⟨n, hn⟩ := sortedAll_at s.heap its (List.toArray out)
  have I2 := I.laid (t' := s.toks) (o := .lst ys) (h' := sortedAll s.heap its (List.toArray out)) (fun b o e => sortedAll_old e) (Nat.le_succ _) ⟨by rw [ey.length, List.length_mergeSort]; exact hz', out, n, vy, hn⟩
  exact ⟨.ref (s.heap.objs.size + 1), _, I2, rfl, q ys _ ey (I.hok.fresh (Nat.le_succ _))⟩
end
end GX
/-! f'{mask:b}' -/
namespace GX
open PySem PySem.Spec PyProof.Rows L2 Builtin Float
/-- the binary digits of n as a text -/
def binS (n : Nat) : Str := ⟨((Nat.toDigits 2 n).map Char.toNat).toArray⟩
def fB : FormatSpec := { align := 62, type := some 98 }
theorem parse_b : parseFormatSpec (Str.ofString "b").cps.toList "int" 62 = .ok fB := by
  rfl
theorem plain_field (ds : List Nat) (hd : ds.isEmpty = false) : intField' fB false [] ds [] 4 = ⟨ds.toArray⟩ := by
  unfold intField' fB
  have hp : ∀ k : Nat, (-1 - ((0 : Int) + 0 + 0) - (k : Int)).toNat = 0 := fun k => by omega
  have h0 : ∀ k : Nat, (0 : Int).toNat - k = 0 := fun k => by simp
  simp only [hd, Bool.false_eq_true, if_false, if_true, show ((32 : Nat) == 48) = false by decide, show ((62 : Nat) == 61) = false by decide, show ((62 : Nat) == 60) = false by decide, show ((62 : Nat) == 94) = false by decide,
    Bool.and_self, Bool.false_and, List.length_nil, List.append_nil, List.nil_append, h0, List.replicate_zero]
  have hq : (-1 - (((0 : Nat) : Int) + ((0 : Nat) : Int) + ((0 : Nat) : Int)) - (ds.length : Int)).toNat = 0 := by omega
  rw [hq]
  rfl
theorem field_b (n : Nat) : intField' fB (decide ((n : Int) < 0)) [] ((Nat.toDigits 2 (n : Int).natAbs).map fun c => (if ((98 : Nat) == 88) = true then c.toUpper else c).toNat) [] 4 = binS n := by
  have h : decide ((n : Int) < 0) = false := decide_eq_false (by omega)
  have hl : 1 ≤ (Nat.toDigits 2 n).length := tDigits_len_ge 2 n
  have he : ((Nat.toDigits 2 n).map fun c => (if ((98 : Nat) == 88) = true then c.toUpper else c).toNat) = (Nat.toDigits 2 n).map Char.toNat := rfl
  rw [h, Int.natAbs_natCast, he, plain_field _ (by
    rw [← Bool.not_eq_true, List.isEmpty_iff_length_eq_zero, List.length_map]
    omega)]
  rfl
section
variable {prog : Program} {w : World} {A : Around} {E : Value → Shared → Prop} {s : Shared}
theorem formatField_b {n : Nat} {t : Tok} {Q : Value → Shared → Prop} (hlen : (binS n).length ≤ sizeLine) (h : Q (.str (binS n) (s.toks + 1)) { s with toks := s.toks + 1 + 1 }) :
    wpAny (model prog w) A (formatField (.int (n : Int) t) (Str.ofString "b")) Q E s := by
  show wpAny _ _ (holding [.int (n : Int) t] (pyFormat (.int (n : Int) t) (Str.ofString "b"))) Q E s
  refine wpAny_holding ?_
  unfold pyFormat
  refine wpAny_bind (wpAny_mkStr ?_ (by decide))
  refine wpAny_bind (m := callSpecial? (.int (n : Int) t) (Str.ofString "__format__") [.str (Str.ofString "b") s.toks]) (wpAny_callSpecial?_slot (name := Str.ofString "__format__") (typeIs_int _ _ t) slot_int_format ?_)
  refine wpAny_call (codeAny_call_builtin slot_int_format.plain entry_int_format (slot_int_format.check _ _ _ _ _ _ _ _ (typeIs_int _ _ t) (args_int_format _ _) ?_))
  unfold Builtin.«int.__format__»
  have hne : ((Str.ofString "b").length == 0) = false := by decide
  have hasc : (((Str.ofString "b").cps.toList.drop 1).any (· ≥ 128) || ((Str.ofString "b").cps.getD 0 0 ≥ 128 && !([60, 62, 61, 94] : List Nat).contains ((Str.ofString "b").cps.getD 1 0))) = false := by decide
  simp only [selfAndOne, noKeywords, Int.intOfSelf, asInt?, asStr?, List.isEmpty_nil, if_true, pure_bind, bind_pure, bind_assoc, hne, hasc, Bool.false_eq_true, if_false,
    show (Value.str (Str.ofString "b") s.toks == Value.none) = false from rfl]
  refine wpAny_bind (wpAny_typeNameOf (T := "str") (typeIs_str _ _ _) (by decide) fun _ => ?_)
  first | refine wpAny_bind (wpAny_typeNameOfCut_int ?_) | refine wpAny_bind (wpAny_typeNameOf_int ?_)
  have ht : fB.type.getD (if ((Str.ofString "b").cps.back? == some 0) = true then 0 else 100) = 98 := rfl
  simp only [parse_b, ht]
  refine wpAny_ite_split (fun _ => ?_) (fun h => absurd (by decide) h)
  have key : ∀ {Q : PySem.Fin → Shared → Prop} {E : Value → Shared → Prop} {s : Shared} {A : Around}, wpAny (model prog w) A (retStr (binS n)) Q E s → wpAny (model prog w) A (retStr (intField' fB (decide ((n : Int) < 0)) [] ((Nat.toDigits 2 (n : Int).natAbs).map fun c => (if ((98 : Nat) == 88) = true then c.toUpper else c).toNat) [] 4)) Q E s := fun h => by rw [field_b]; exact h
  refine key ?_
  unfold retStr
  refine wpAny_bind (wpAny_mkStr (wpAny_pure ?_) hlen)
  dsimp only
  exact wpAny_bind (wpAny_isInstance (typeIs_str _ _ _) isSubtype_str_str (wpAny_pure h))
end
def tFmtB (te ts : TE) : TE := fun σ H Q => te σ H fun x H1 => ts σ H1 fun y H2 => y = .str "b" ∧ ∃ n : Nat, x = .int (n : Int) ∧ (binS n).length ≤ sizeLine ∧ Q (.str (binS n)) H2
/-- {e:b} -/
theorem pe_fmtB {X : Cx} {e sp : Expr} {te ts : TE} {pos : Pos} (he : PE X e te) (hs : PE X sp ts) : PE X (.FormattedValue e (-1) (some sp) pos) (tFmtB te ts) := by
  refine ⟨fun pins s σ H Q I h => ?_⟩
  refine wpAny_FormattedValue_spec (thn (he.run pins s σ H _ I h) fun v s1 ⟨x, H1, I1, r1, q1⟩ => thn (hs.run pins s1 σ H1 _ I1 q1) fun r s2 ⟨y, H2, I2, r2, ey, n, ex, hl, q2⟩ => ?_)
  subst ey
  subst ex
  obtain ⟨t, rfl⟩ := r2
  obtain ⟨u, rfl⟩ := r1
  exact ⟨Str.ofString "b", t, rfl, formatField_b hl ⟨.str (binS n), H2, I2.tok _, ⟨_, rfl⟩, q2⟩⟩
/-- the number of the bits that are set -/
def popc (n : Nat) : Nat := ((List.range 11).filter fun i => n.testBit i).length
theorem bin_small : ∀ n < 2048, (binS n).length ≤ 11 := by decide +kernel
end GX
namespace GX
open PySem PySem.Spec PyProof.Rows L2
theorem count_bin : ∀ n < 1024, Txt.count (binS n) (Str.ofString "1") = ((popc n : Nat) : Int) := by decide +kernel
end GX
/-! mathematics of blocks (laws k13, k14, k18, k45): a strict order's rows, by weights -/
namespace MB
/-! ### sums of counts -/
def cnt (p : Nat → Bool) (l : List Nat) : Nat := l.countP p
def sumN (f : Nat → Nat) (l : List Nat) : Nat := (l.map f).sum
theorem sumN_cons (f : Nat → Nat) (x : Nat) (l : List Nat) : sumN f (x :: l) = f x + sumN f l := by
  simp [sumN]
theorem sumN_add (f g : Nat → Nat) : ∀ l : List Nat, sumN (fun x => f x + g x) l = sumN f l + sumN g l
  | [] => rfl
  | x :: l => by
    rw [sumN_cons, sumN_cons, sumN_cons, sumN_add f g l]
    omega
theorem sumN_zero : ∀ l : List Nat, sumN (fun _ => 0) l = 0
  | [] => rfl
  | x :: l => by rw [sumN_cons, sumN_zero l]
/-- counting pairs by either side -/
theorem dbl (r : Nat → Nat → Bool) : ∀ X Y : List Nat, sumN (fun x => cnt (r x) Y) X = sumN (fun y => cnt (fun x => r x y) X) Y
  | [], Y => by
    show 0 = sumN (fun y => cnt (fun x => r x y) []) Y
    rw [show (fun y => cnt (fun x => r x y) []) = fun _ => 0 from rfl, sumN_zero]
  | x :: X, Y => by
    rw [sumN_cons, dbl r X Y]
    have e : (fun y => cnt (fun x => r x y) (x :: X)) = fun y => (if r x y then 1 else 0) + cnt (fun x => r x y) X := by
      funext y
      unfold cnt
      rw [List.countP_cons]
      omega
    rw [e, sumN_add]
    congr 1
    clear e
    induction Y with
    | nil => rfl
    | cons y Y ih =>
      rw [sumN_cons, ← ih]
      unfold cnt
      rw [List.countP_cons]
      omega
theorem cnt_app (p : Nat → Bool) (X Y : List Nat) : cnt p (X ++ Y) = cnt p X + cnt p Y := List.countP_append
theorem cnt_le (p : Nat → Bool) (l : List Nat) : cnt p l ≤ l.length := List.countP_le_length
theorem sum_bound (r : Nat → Nat → Bool) (Y : List Nat) : ∀ X : List Nat, sumN (fun x => cnt (r x) Y) X ≤ X.length * Y.length
  | [] => by simp [sumN]
  | x :: X => by
    rw [sumN_cons, List.length_cons, Nat.succ_mul]
    have := sum_bound r Y X
    have := cnt_le (r x) Y
    omega
theorem sum_full (r : Nat → Nat → Bool) (Y : List Nat) : ∀ X : List Nat, (X.length * Y.length ≤ sumN (fun x => cnt (r x) Y) X ↔ ∀ x ∈ X, ∀ y ∈ Y, r x y = true)
  | [] => by simp [sumN]
  | x :: X => by
    rw [sumN_cons, List.length_cons, Nat.succ_mul]
    have b := sum_bound r Y X
    have c := cnt_le (r x) Y
    have ih := sum_full r Y X
    have hc : Y.length ≤ cnt (r x) Y ↔ ∀ y ∈ Y, r x y = true := by
      unfold cnt
      rw [← List.countP_eq_length]
      have := List.countP_le_length (p := r x) (l := Y)
      omega
    constructor
    · intro h z hz
      rcases List.mem_cons.mp hz with rfl | hz
      · exact hc.mp (by omega)
      · exact ih.mp (by omega) z hz
    · intro h
      have h1 := ih.mpr fun z hz => h z (List.mem_cons_of_mem _ hz)
      have h2 := hc.mpr (h x List.mem_cons_self)
      omega
/-! ### weights -/
/-- a strict order -/
structure SO (r : Nat → Nat → Bool) : Prop where
  asym : ∀ a b, r a b = true → r b a = false
  trans : ∀ a b c, r a b = true → r b c = true → r a c = true
def wgt (r : Nat → Nat → Bool) (P : List Nat) (x : Nat) : Int := (cnt (r x) P : Int) - (cnt (fun y => r y x) P : Int)
def sumI (f : Nat → Int) (l : List Nat) : Int := (l.map f).sum
theorem sumI_cons (f : Nat → Int) (x : Nat) (l : List Nat) : sumI f (x :: l) = f x + sumI f l := by
  simp [sumI]
theorem sumI_sub (f g : Nat → Nat) : ∀ l : List Nat, sumI (fun x => (f x : Int) - (g x : Int)) l = (sumN f l : Int) - (sumN g l : Int)
  | [] => rfl
  | x :: l => by
    rw [sumI_cons, sumN_cons, sumN_cons, sumI_sub f g l]
    omega
/-- what the weights of a front part sum up to -/
theorem wgt_sum (r : Nat → Nat → Bool) (X Y : List Nat) : sumI (wgt r (X ++ Y)) X = (sumN (fun x => cnt (r x) Y) X : Int) - (sumN (fun x => cnt (fun y => r y x) Y) X : Int) := by
  have e : wgt r (X ++ Y) = fun x => ((cnt (r x) X + cnt (r x) Y : Nat) : Int) - ((cnt (fun y => r y x) X + cnt (fun y => r y x) Y : Nat) : Int) := by
    funext x
    unfold wgt
    rw [cnt_app, cnt_app]
  rw [e, sumI_sub, sumN_add, sumN_add, dbl r X X]
  omega
/-- the front part is before the rest, exactly if its weights sum up to the number of all pairs -/
theorem cut_iff {r : Nat → Nat → Bool} (so : SO r) (X Y : List Nat) : sumI (wgt r (X ++ Y)) X = (X.length * Y.length : Nat) ↔ ∀ x ∈ X, ∀ y ∈ Y, r x y = true := by
  rw [wgt_sum]
  have b := sum_bound r Y X
  rw [← sum_full r Y X]
  constructor
  · intro h
    omega
  · intro h
    have h' := (sum_full r Y X).mp h
    have z : sumN (fun x => cnt (fun y => r y x) Y) X = 0 := by
      clear b h
      induction X with
      | nil => rfl
      | cons x X ih =>
        rw [sumN_cons, ih fun a ha => h' a (List.mem_cons_of_mem _ ha)]
        have : cnt (fun y => r y x) Y = 0 := by
          unfold cnt
          rw [List.countP_eq_zero]
          intro y hy hr
          have := so.asym y x hr
          rw [h' x List.mem_cons_self y hy] at this
          cases this
        omega
    omega
/-- what is before has the greater weight -/
theorem wgt_lt {r : Nat → Nat → Bool} (so : SO r) {P : List Nat} {a b : Nat} (hb : b ∈ P) (h : r a b = true) : wgt r P b < wgt r P a := by
  unfold wgt cnt
  have irr : ∀ a, r a a = false := fun a => by
    cases e : r a a with
    | false => rfl
    | true => rw [so.asym a a e] at e; cases e
  have h1 : P.countP (r b) < P.countP (r a) := by
    have key : ∀ l : List Nat, l.countP (r b) ≤ l.countP (r a) ∧ (b ∈ l → l.countP (r b) < l.countP (r a)) := fun l => by
      induction l with
      | nil => exact ⟨Nat.le_refl _, fun h => nomatch h⟩
      | cons y l ih =>
        rw [List.countP_cons, List.countP_cons]
        have hy : (if r b y = true then 1 else 0) ≤ (if r a y = true then 1 else 0) := by
          by_cases e : r b y = true
          · rw [if_pos e, if_pos (so.trans a b y h e)]
            exact Nat.le_refl 1
          · rw [if_neg e]
            exact Nat.zero_le _
        refine ⟨by omega, fun hm => ?_⟩
        rcases List.mem_cons.mp hm with e | hm
        · have e1 : r b y = false := by rw [← e]; exact irr b
          have e2 : r a y = true := by rw [← e]; exact h
          rw [e1, e2]
          simp only [Bool.false_eq_true, if_false, if_true]
          omega
        · have := ih.2 hm
          omega
    exact (key P).2 hb
  have h2 : P.countP (fun y => r y a) ≤ P.countP (fun y => r y b) := by
    refine List.countP_mono_left fun y _ hy => ?_
    exact so.trans y a b hy h
  omega
/-! ### rows that are right -/
/-- rows of L: each before the next, none to be split -/
structure Rows (r : Nat → Nat → Bool) (L : List Nat) (rows : List (List Nat)) : Prop where
  perm : rows.flatten.Perm L
  ne : ∀ A ∈ rows, A ≠ []
  ord : rows.Pairwise fun A B => ∀ a ∈ A, ∀ b ∈ B, r a b = true
  one : ∀ A ∈ rows, ∀ T : Nat → Bool, (∃ a ∈ A, T a = true) → (∃ a ∈ A, T a = false) → ∃ a ∈ A, ∃ b ∈ A, T a = true ∧ T b = false ∧ r a b = false
theorem first_eq {r : Nat → Nat → Bool} (so : SO r) {L : List Nat} {A A' : List Nat} {R R' : List (List Nat)} (h : Rows r L (A :: R)) (h' : Rows r L (A' :: R')) : ∀ x ∈ A, x ∈ A' := by
  intro x hx
  refine Classical.byContradiction fun hn => ?_
  have mem : ∀ {B : List Nat} {S : List (List Nat)} (g : Rows r L (B :: S)) (y : Nat), y ∈ L → y ∉ B → ∃ C ∈ S, y ∈ C := fun {B S} g y hy hb => by
    have : y ∈ (B :: S).flatten := g.perm.mem_iff.mpr hy
    rw [List.flatten_cons] at this
    rcases List.mem_append.mp this with q | q
    · exact absurd q hb
    · obtain ⟨C, hC, hy⟩ := List.mem_flatten.mp q
      exact ⟨C, hC, hy⟩
  have inL : ∀ {B : List Nat} {S : List (List Nat)} (g : Rows r L (B :: S)) (y : Nat), y ∈ B → y ∈ L := fun {B S} g y hy => g.perm.mem_iff.mp (by rw [List.flatten_cons]; exact List.mem_append_left _ hy)
  have before : ∀ {B : List Nat} {S : List (List Nat)} (g : Rows r L (B :: S)) (y z : Nat), y ∈ B → z ∈ L → z ∉ B → r y z = true := fun {B S} g y z hy hz hb => by
    obtain ⟨C, hC, hzC⟩ := mem g z hz hb
    exact (List.pairwise_cons.mp g.ord).1 C hC y hy z hzC
  -- A' lies within A
  have sub : ∀ y ∈ A', y ∈ A := fun y hy => by
    refine Classical.byContradiction fun hny => ?_
    have h1 := before h x y hx (inL h' y hy) hny
    have h2 := before h' y x hy (inL h x hx) hn
    rw [so.asym x y h1] at h2
    cases h2
  obtain ⟨y, hy⟩ : ∃ y, y ∈ A' := List.exists_mem_of_ne_nil A' (h'.ne A' List.mem_cons_self)
  obtain ⟨a, ha, b, hb, ta, tb, hab⟩ := h.one A List.mem_cons_self (fun z => decide (z ∈ A')) ⟨y, sub y hy, decide_eq_true hy⟩ ⟨x, hx, decide_eq_false hn⟩
  have := before h' a b (of_decide_eq_true ta) (inL h b hb) (of_decide_eq_false tb)
  rw [hab] at this
  cases this
end MB
namespace MB
/-- the same rows but for the order within them -/
inductive Same2 : List (List Nat) → List (List Nat) → Prop
  | nil : Same2 [] []
  | cons {A A' : List Nat} {R R' : List (List Nat)} : (∀ x, x ∈ A ↔ x ∈ A') → Same2 R R' → Same2 (A :: R) (A' :: R')
theorem rows_tail {r : Nat → Nat → Bool} {L A : List Nat} {R : List (List Nat)} (h : Rows r L (A :: R)) : Rows r R.flatten R :=
  ⟨.refl _, fun B hB => h.ne B (List.mem_cons_of_mem _ hB), (List.pairwise_cons.mp h.ord).2, fun B hB => h.one B (List.mem_cons_of_mem _ hB)⟩
theorem rows_perm {r : Nat → Nat → Bool} {L L' : List Nat} {R : List (List Nat)} (h : Rows r L R) (p : L.Perm L') : Rows r L' R := ⟨h.perm.trans p, h.ne, h.ord, h.one⟩
/-- there is only one way to lay the rows -/
theorem rows_same {r : Nat → Nat → Bool} (so : SO r) : ∀ {R R' : List (List Nat)} {L : List Nat}, L.Nodup → Rows r L R → Rows r L R' → Same2 R R'
  | [], [], _, _, _, _ => .nil
  | [], A' :: R', L, _, h, h' => by
    have h1 : L = [] := List.Perm.nil_eq h.perm |>.symm
    obtain ⟨y, hy⟩ := List.exists_mem_of_ne_nil A' (h'.ne A' List.mem_cons_self)
    have : y ∈ L := h'.perm.mem_iff.mp (by rw [List.flatten_cons]; exact List.mem_append_left _ hy)
    rw [h1] at this
    cases this
  | A :: R, [], L, _, h, h' => by
    have h1 : L = [] := List.Perm.nil_eq h'.perm |>.symm
    obtain ⟨y, hy⟩ := List.exists_mem_of_ne_nil A (h.ne A List.mem_cons_self)
    have : y ∈ L := h.perm.mem_iff.mp (by rw [List.flatten_cons]; exact List.mem_append_left _ hy)
    rw [h1] at this
    cases this
  | A :: R, A' :: R', L, nd, h, h' => by
    have e : ∀ x, x ∈ A ↔ x ∈ A' := fun x => ⟨first_eq so h h' x, first_eq so h' h x⟩
    have n1 : (A :: R).flatten.Nodup := h.perm.nodup_iff.mpr nd
    have n2 : (A' :: R').flatten.Nodup := h'.perm.nodup_iff.mpr nd
    rw [List.flatten_cons, List.nodup_append] at n1 n2
    have pR : R'.flatten.Perm R.flatten := by
      refine (List.perm_ext_iff_of_nodup n2.2.1 n1.2.1).mpr fun x => ?_
      have m1 : x ∈ (A :: R).flatten ↔ x ∈ (A' :: R').flatten := (h.perm.trans h'.perm.symm).mem_iff
      rw [List.flatten_cons, List.flatten_cons, List.mem_append, List.mem_append, e x] at m1
      constructor
      · intro hx
        rcases m1.mpr (.inr hx) with q | q
        · exact absurd rfl (n2.2.2 x q x hx)
        · exact q
      · intro hx
        rcases m1.mp (.inr hx) with q | q
        · exact absurd rfl (n1.2.2 x ((e x).mpr q) x hx)
        · exact q
    exact .cons e (rows_same so n1.2.1 (rows_tail h) (rows_perm (rows_tail h') pR))
/-! ### the order within a row -/
/-- each time the least one that none of the rest is before -/
inductive Picked (r : Nat → Nat → Bool) : List Nat → Prop
  | nil : Picked r []
  | cons {a : Nat} {A : List Nat} : (∀ y ∈ a :: A, r y a = false) → (∀ x ∈ A, (∀ y ∈ a :: A, r y x = false) → a ≤ x) → Picked r A → Picked r (a :: A)
theorem picked_eq {r : Nat → Nat → Bool} : ∀ {A B : List Nat}, A.Nodup → B.Nodup → (∀ x, x ∈ A ↔ x ∈ B) → Picked r A → Picked r B → A = B
  | [], [], _, _, _, _, _ => rfl
  | [], b :: B, _, _, e, _, _ => nomatch (e b).mpr List.mem_cons_self
  | a :: A, [], _, _, e, _, _ => nomatch (e a).mp List.mem_cons_self
  | a :: A, b :: B, n1, n2, e, .cons f1 l1 p1, .cons f2 l2 p2 => by
    have eab : a = b := by
      have fa : ∀ y ∈ b :: B, r y a = false := fun y hy => f1 y ((e y).mpr hy)
      have fb : ∀ y ∈ a :: A, r y b = false := fun y hy => f2 y ((e y).mp hy)
      have h1 : a ≤ b := by
        rcases List.mem_cons.mp ((e b).mpr List.mem_cons_self) with q | q
        · exact Nat.le_of_eq q.symm
        · exact l1 b q fb
      have h2 : b ≤ a := by
        rcases List.mem_cons.mp ((e a).mp List.mem_cons_self) with q | q
        · exact Nat.le_of_eq q.symm
        · exact l2 a q fa
      exact Nat.le_antisymm h1 h2
    subst eab
    obtain ⟨m1, n1⟩ := List.nodup_cons.mp n1
    obtain ⟨m2, n2⟩ := List.nodup_cons.mp n2
    rw [picked_eq n1 n2 (fun x => by
      have := e x
      constructor
      · intro hx
        rcases List.mem_cons.mp (this.mp (List.mem_cons_of_mem _ hx)) with q | q
        · exact absurd (q ▸ hx) m1
        · exact q
      · intro hx
        rcases List.mem_cons.mp (this.mpr (List.mem_cons_of_mem _ hx)) with q | q
        · exact absurd (q ▸ hx) m2
        · exact q) p1 p2]
/-- rows that are right and in order are the same rows -/
theorem rows_eq {r : Nat → Nat → Bool} (so : SO r) {R R' : List (List Nat)} {L : List Nat} (nd : L.Nodup) (h : Rows r L R) (h' : Rows r L R') (p : ∀ A ∈ R, Picked r A) (p' : ∀ A ∈ R', Picked r A) : R = R' := by
  have key : ∀ {R R' : List (List Nat)}, Same2 R R' → R.flatten.Nodup → R'.flatten.Nodup → (∀ A ∈ R, Picked r A) → (∀ A ∈ R', Picked r A) → R = R' := fun {R R'} s => by
    induction s with
    | nil => intros; rfl
    | cons e s ih =>
      intro n1 n2 p p'
      rw [List.flatten_cons, List.nodup_append] at n1 n2
      rw [picked_eq n1.1 n2.1 e (p _ List.mem_cons_self) (p' _ List.mem_cons_self), ih n1.2.1 n2.2.1 (fun A hA => p A (List.mem_cons_of_mem _ hA)) fun A hA => p' A (List.mem_cons_of_mem _ hA)]
  exact key (rows_same so nd h h') (h.perm.nodup_iff.mpr nd) (h'.perm.nodup_iff.mpr nd) p p'
/-! ### rows by weights -/
/-- a row ends where the weights so far are the number of all pairs -/
def cutRows (f : Nat → Int) (n : Nat) : Nat → Int → List Nat → List Nat → List (List Nat)
  | _, _, _, [] => []
  | m, t, B, x :: Q => if t + f x = ((m + 1 : Nat) : Int) * ((n : Int) - ((m + 1 : Nat) : Int)) then (B ++ [x]) :: cutRows f n (m + 1) (t + f x) [] Q else cutRows f n (m + 1) (t + f x) (B ++ [x]) Q
/-- all of X is before all of Y -/
def Bef (r : Nat → Nat → Bool) (X Y : List Nat) : Prop := ∀ x ∈ X, ∀ y ∈ Y, r x y = true
theorem sumI_app (f : Nat → Int) (X Y : List Nat) : sumI f (X ++ Y) = sumI f X + sumI f Y := by
  unfold sumI
  rw [List.map_append, List.sum_append]
theorem sorted_split {f : Nat → Int} {T : Nat → Bool} : ∀ {B : List Nat}, B.Pairwise (fun a b => f b ≤ f a) → (∀ a ∈ B, ∀ b ∈ B, T a = true → T b = false → f b < f a) → B = B.filter T ++ B.filter (fun z => !T z)
  | [], _, _ => rfl
  | x :: B, hs, h => by
    obtain ⟨h1, h2⟩ := List.pairwise_cons.mp hs
    have ih := sorted_split (T := T) h2 fun a ha b hb => h a (List.mem_cons_of_mem _ ha) b (List.mem_cons_of_mem _ hb)
    by_cases e : T x = true
    · rw [List.filter_cons, if_pos e, List.filter_cons, if_neg (by simp [e]), List.cons_append, ← ih]
    · have ef : T x = false := by simpa using e
      have none : B.filter T = [] := by
        refine List.filter_eq_nil_iff.mpr fun a ha ta => ?_
        have := h a (List.mem_cons_of_mem _ ha) x List.mem_cons_self ta ef
        have := h1 a ha
        omega
      rw [List.filter_cons, if_neg e, List.filter_cons, if_pos (by simp [ef]), none, List.nil_append]
      rw [none, List.nil_append] at ih
      rw [← ih]
theorem cut_rows {r : Nat → Nat → Bool} (so : SO r) (P : List Nat) (nd : P.Nodup) (hs : P.Pairwise fun a b => wgt r P b ≤ wgt r P a) : ∀ (Q X B : List Nat), P = X ++ B ++ Q → Bef r X (B ++ Q) → (∀ B1 B2, B = B1 ++ B2 → B1 ≠ [] → ¬ Bef r (X ++ B1) (B2 ++ Q)) →
    Rows r (B ++ Q) (cutRows (wgt r P) P.length (X ++ B).length (sumI (wgt r P) (X ++ B)) B Q) := by
  intro Q
  induction Q with
  | nil =>
    intro X B hP hX hB
    have eB : B = [] := by
      cases B with
      | nil => rfl
      | cons b B => exact absurd (fun x hx y hy => nomatch hy) (hB (b :: B) [] (by simp) (by simp))
    subst eB
    exact ⟨.refl _, (fun _ h => nomatch h), .nil, (fun _ h => nomatch h)⟩
  | cons x Q ih =>
    intro X B hP hX hB
    unfold cutRows
    have hP' : P = (X ++ (B ++ [x])) ++ Q := by rw [hP]; simp
    have ht : sumI (wgt r P) (X ++ B) + wgt r P x = sumI (wgt r P) (X ++ (B ++ [x])) := by
      rw [← List.append_assoc, sumI_app _ (X ++ B) [x]]
      simp [sumI]
    have hm : (X ++ B).length + 1 = (X ++ (B ++ [x])).length := by simp only [List.length_append, List.length_cons, List.length_nil]; omega
    have hn : (P.length : Int) - ((X ++ (B ++ [x])).length : Nat) = (Q.length : Int) := by
      have := congrArg List.length hP'
      rw [List.length_append] at this
      omega
    rw [ht, hm, hn]
    have ci := cut_iff so (X ++ (B ++ [x])) Q
    rw [← hP'] at ci
    have cast : (((X ++ (B ++ [x])).length : Nat) : Int) * (Q.length : Int) = (((X ++ (B ++ [x])).length * Q.length : Nat) : Int) := by simp
    rw [cast]
    by_cases hc : sumI (wgt r P) (X ++ (B ++ [x])) = (((X ++ (B ++ [x])).length * Q.length : Nat) : Int)
    · rw [if_pos hc]
      have cut : Bef r (X ++ (B ++ [x])) Q := ci.mp hc
      have cutB : Bef r (B ++ [x]) Q := fun a ha => cut a (List.mem_append_right _ ha)
      have rc := ih (X ++ (B ++ [x])) [] (by rw [List.append_nil]; exact hP') (by rw [List.nil_append]; exact cut) (fun B1 B2 e hne => by
        cases B1 with
        | nil => exact absurd rfl hne
        | cons b B1 => cases e)
      rw [List.append_nil, List.nil_append] at rc
      refine ⟨?_, fun A hA => ?_, List.pairwise_cons.mpr ⟨fun C hC a ha b hb => cutB a ha b (rc.perm.mem_iff.mp (List.mem_flatten.mpr ⟨C, hC, hb⟩)), rc.ord⟩, fun A hA T tT tF => ?_⟩
      · rw [List.flatten_cons, show B ++ x :: Q = (B ++ [x]) ++ Q from by simp]
        exact rc.perm.append_left _
      · rcases List.mem_cons.mp hA with rfl | hA
        · simp
        · exact rc.ne A hA
      · rcases List.mem_cons.mp hA with rfl | hA
        · refine Classical.byContradiction fun no => ?_
          have all : ∀ a ∈ B ++ [x], ∀ b ∈ B ++ [x], T a = true → T b = false → r a b = true := fun a ha b hb ta tb => by
            cases e : r a b with
            | true => rfl
            | false => exact absurd ⟨a, ha, b, hb, ta, tb, e⟩ no
          have inP : ∀ b ∈ B ++ [x], b ∈ P := fun b hb => by rw [hP']; exact List.mem_append_left _ (List.mem_append_right _ hb)
          have hs' : (B ++ [x]).Pairwise fun a b => wgt r P b ≤ wgt r P a := by
            rw [hP', List.pairwise_append] at hs
            have := (List.pairwise_append.mp hs.1).2.1
            rw [hP']
            exact this
          have sp := sorted_split (T := T) hs' fun a ha b hb ta tb => wgt_lt so (inP b hb) (all a ha b hb ta tb)
          obtain ⟨a0, ha0, ta0⟩ := tT
          obtain ⟨b0, hb0, tb0⟩ := tF
          have m1 : a0 ∈ (B ++ [x]).filter T := List.mem_filter.mpr ⟨ha0, ta0⟩
          have m2 : b0 ∈ (B ++ [x]).filter fun z => !T z := List.mem_filter.mpr ⟨hb0, by simp [tb0]⟩
          have prop : ∀ z ∈ (B ++ [x]).filter T, z ∈ B ++ [x] ∧ T z = true := fun z hz => List.mem_filter.mp hz
          have prop2 : ∀ z ∈ (B ++ [x]).filter (fun z => !T z), z ∈ B ++ [x] ∧ T z = false := fun z hz => by
            obtain ⟨h1, h2⟩ := List.mem_filter.mp hz
            exact ⟨h1, by simpa using h2⟩
          generalize (B ++ [x]).filter T = B1 at sp m1 prop
          generalize (B ++ [x]).filter (fun z => !T z) = B2 at sp m2 prop2
          -- B1 is a front part of B
          obtain ⟨B3, e3⟩ : ∃ B3, B2 = B3 ++ [x] ∧ B = B1 ++ B3 := by
            rcases List.eq_nil_or_concat B2 with e | ⟨B3, y, e⟩
            · rw [e] at m2
              cases m2
            · have e' : B2 = B3 ++ [y] := by rw [e]; simp
              rw [e', ← List.append_assoc] at sp
              obtain ⟨h1, h2⟩ := List.append_inj' sp rfl
              cases h2
              exact ⟨B3, e', h1⟩
          obtain ⟨e3, e4⟩ := e3
          refine hB B1 B3 e4 (List.ne_nil_of_mem m1) fun a ha b hb => ?_
          rcases List.mem_append.mp ha with ha | ha
          · exact hX a ha b (by
              rw [e4]
              rcases List.mem_append.mp hb with q | q
              · exact List.mem_append_left _ (List.mem_append_right _ q)
              · exact List.mem_append_right _ q)
          · rcases List.mem_append.mp hb with hb | hb
            · exact all a (prop a ha).1 b (prop2 b (by rw [e3]; exact List.mem_append_left _ hb)).1 (prop a ha).2 (prop2 b (by rw [e3]; exact List.mem_append_left _ hb)).2
            · rcases List.mem_cons.mp hb with rfl | hb
              · exact all a (prop a ha).1 b (prop2 b (by rw [e3]; exact List.mem_append_right _ List.mem_cons_self)).1 (prop a ha).2 (prop2 b (by rw [e3]; exact List.mem_append_right _ List.mem_cons_self)).2
              · exact cutB a (prop a ha).1 b hb
        · exact rc.one A hA T tT tF
    · rw [if_neg hc]
      have rc := ih X (B ++ [x]) (by rw [hP']) (fun a ha b hb => hX a ha b (by simpa using hb)) (fun B1 B2 e hne hbef => by
        rcases List.eq_nil_or_concat B2 with e2 | ⟨B3, y, e2⟩
        · rw [e2, List.append_nil] at e
          rw [e2, List.nil_append, ← e] at hbef
          exact hc (ci.mpr hbef)
        · have e' : B2 = B3 ++ [y] := by rw [e2]; simp
          rw [e', ← List.append_assoc] at e
          obtain ⟨h1, h2⟩ := List.append_inj' e rfl
          cases h2
          refine hB B1 B3 h1 hne fun a ha b hb => hbef a ha b ?_
          rw [e']
          simpa using hb)
      rw [show (B ++ [x]) ++ Q = B ++ x :: Q from by simp] at rc
      exact rc
/-- the rows by weights are right -/
theorem rows_by_weights {r : Nat → Nat → Bool} (so : SO r) (P : List Nat) (nd : P.Nodup) (hs : P.Pairwise fun a b => wgt r P b ≤ wgt r P a) : Rows r P (cutRows (wgt r P) P.length 0 0 [] P) := by
  have := cut_rows so P nd hs P [] [] rfl (fun _ h => nomatch h) (fun B1 B2 e hne => by
    cases B1 with
    | nil => exact absurd rfl hne
    | cons b B1 => cases e)
  exact this
end MB
namespace MB
/-- not in two parts that are all in order -/
def Conn (r : Nat → Nat → Bool) (G : List Nat) : Prop := ∀ T : Nat → Bool, (∃ a ∈ G, T a = true) → (∃ a ∈ G, T a = false) → ∃ a ∈ G, ∃ b ∈ G, T a = true ∧ T b = false ∧ r a b = false ∧ r b a = false
theorem conn_one {r : Nat → Nat → Bool} (x : Nat) : Conn r [x] := fun T ⟨a, ha, ta⟩ ⟨b, hb, tb⟩ => by
  rw [List.mem_singleton.mp ha] at ta
  rw [List.mem_singleton.mp hb, ta] at tb
  cases tb
/-- lines near the group join it -/
theorem conn_add {r : Nat → Nat → Bool} {G N : List Nat} (hc : Conn r G) (hN : ∀ x ∈ N, ∃ g ∈ G, r x g = false ∧ r g x = false) : Conn r (G ++ N) := fun T ⟨a, ha, ta⟩ ⟨b, hb, tb⟩ => by
  by_cases h1 : ∃ g ∈ G, T g = true
  · by_cases h2 : ∃ g ∈ G, T g = false
    · obtain ⟨x, hx, y, hy, p⟩ := hc T h1 h2
      exact ⟨x, List.mem_append_left _ hx, y, List.mem_append_left _ hy, p⟩
    · have all : ∀ g ∈ G, T g = true := fun g hg => by
        cases e : T g with
        | true => rfl
        | false => exact absurd ⟨g, hg, e⟩ h2
      rcases List.mem_append.mp hb with q | q
      · rw [all b q] at tb
        cases tb
      · obtain ⟨g, hg, n1, n2⟩ := hN b q
        exact ⟨g, List.mem_append_left _ hg, b, hb, all g hg, tb, n2, n1⟩
  · have all : ∀ g ∈ G, T g = false := fun g hg => by
      cases e : T g with
      | false => rfl
      | true => exact absurd ⟨g, hg, e⟩ h1
    rcases List.mem_append.mp ha with q | q
    · rw [all a q] at ta
      cases ta
    · obtain ⟨g, hg, n1, n2⟩ := hN a q
      exact ⟨a, ha, g, List.mem_append_left _ hg, ta, all g hg, n1, n2⟩
/-- a line in order with all of a group is before it or behind it -/
theorem side {r : Nat → Nat → Bool} (so : SO r) {G : List Nat} (hc : Conn r G) {y : Nat} (h : ∀ g ∈ G, r y g = true ∨ r g y = true) : (∀ g ∈ G, r y g = true) ∨ ∀ g ∈ G, r g y = true := by
  by_cases h1 : ∃ g ∈ G, r y g = true
  · by_cases h2 : ∃ g ∈ G, r y g = false
    · obtain ⟨a, ha, b, hb, ta, tb, n1, n2⟩ := hc (fun g => r y g) h1 h2
      have hb' : r b y = true := (h b hb).resolve_left (by simp [show r y b = false from tb])
      have := so.trans b y a hb' ta
      rw [n2] at this
      cases this
    · refine .inl fun g hg => ?_
      cases e : r y g with
      | true => rfl
      | false => exact absurd ⟨g, hg, e⟩ h2
  · refine .inr fun g hg => (h g hg).resolve_left fun e => h1 ⟨g, hg, e⟩
/-- two groups in order with one another are one before the other -/
theorem sides {r : Nat → Nat → Bool} (so : SO r) {G G' : List Nat} (hc : Conn r G) (hc' : Conn r G') (ne : G ≠ []) (h : ∀ g ∈ G, ∀ g' ∈ G', r g g' = true ∨ r g' g = true) : Bef r G G' ∨ Bef r G' G := by
  obtain ⟨g0, hg0⟩ := List.exists_mem_of_ne_nil G ne
  have s0 := side so hc' (y := g0) fun g' hg' => h g0 hg0 g' hg'
  have flip : ∀ g' ∈ G', (∀ g ∈ G, r g' g = true) ∨ ∀ g ∈ G, r g g' = true := fun g' hg' => side so hc (y := g') fun g hg => (h g hg g' hg').symm
  rcases s0 with s0 | s0
  · refine .inl fun g hg g' hg' => ?_
    rcases flip g' hg' with q | q
    · have := so.asym _ _ (s0 g' hg')
      rw [q g0 hg0] at this
      cases this
    · exact q g hg
  · refine .inr fun g' hg' g hg => ?_
    rcases flip g' hg' with q | q
    · exact q g hg
    · have := so.asym _ _ (s0 g' hg')
      rw [q g0 hg0] at this
      cases this
/-- groups, one before the next, are right rows -/
theorem rows_of {r : Nat → Nat → Bool} {L : List Nat} {R : List (List Nat)} (hp : R.flatten.Perm L) (ne : ∀ A ∈ R, A ≠ []) (hc : ∀ A ∈ R, Conn r A) (ho : R.Pairwise fun A B => Bef r A B) : Rows r L R :=
  ⟨hp, ne, ho, fun A hA T h1 h2 => by
    obtain ⟨a, ha, b, hb, ta, tb, n1, _⟩ := hc A hA T h1 h2
    exact ⟨a, ha, b, hb, ta, tb, n1⟩⟩
theorem conn_perm {r : Nat → Nat → Bool} {G G' : List Nat} (h : ∀ x, x ∈ G ↔ x ∈ G') (hc : Conn r G) : Conn r G' := fun T ⟨a, ha, ta⟩ ⟨b, hb, tb⟩ => by
  obtain ⟨x, hx, y, hy, p⟩ := hc T ⟨a, (h a).mpr ha, ta⟩ ⟨b, (h b).mpr hb, tb⟩
  exact ⟨x, (h x).mp hx, y, (h y).mp hy, p⟩
end MB
/-! xs.remove(x), data -/
namespace GX
open PySem PySem.Spec PyProof.Rows L2 GxR
theorem vals_erase : ∀ {xs : List V} {us : List Value} (r : Vals xs us) (j : Nat), Vals (xs.eraseIdx j) (us.eraseIdx j)
  | _, _, .nil, _ => .nil
  | _, _, .cons _ t, 0 => t
  | _, _, .cons h t, j + 1 => .cons h (vals_erase t j)
def rRemD (K : PySem.W.Frag) : V → List V → Hp → VK → Prop := fun x xs H Q => ∃ (l : Addr) (ys : List V) (v : V) (ds : List PyData) (d : PyData) (j : Nat), x = .ref l ∧ xs = [v] ∧ H l = some (.lst ys) ∧ DpAll K H ys ds ∧ Dp K H v d ∧ PyData.plainAll ds = true ∧ d.plain = true ∧ d.depth ≤ 50 ∧ SeqAt.dataPlace ds d = some j ∧ Q .non (upd H l (.lst (ys.eraseIdx j)))
theorem mt_removeD {X : Cx} (hu : X.A.units + 64 < cLine) : MtM X "list.remove" (rRemD X.K) := by
  intro pins s σ H x xs v us Q I rx rxs h
  obtain ⟨l, ys, w, ds, d, j, rfl, rfl, hH, hA, hD, pa, pd, dd, hj, q⟩ := h
  cases rx
  obtain ⟨u, rfl, ru⟩ := rxs.one
  obtain ⟨z, its, n, r, hl, e⟩ := I.lstM hH
  obtain ⟨as, r1⟩ := Dp.readsAll I ds ys its hA r
  obtain ⟨bs, r2⟩ := Dp.reads I d w u hD ru
  have hll := r.length
  refine SeqAt.remove_list_data (vs := its.toArray) (j := j) ⟨_, e, rfl, n, rfl⟩ (by simpa using r1) r2 pa pd (by omega) hj (by rw [List.size_toArray]; omega) ?_
  refine ⟨.non, _, I.lset (its' := its.eraseIdx j) (t' := s.toks) hH e ?_ (vals_erase r j) ?_, rfl, q⟩
  · show its.toArray.eraseIdxIfInBounds j = (its.eraseIdx j).toArray
    rw [List.eraseIdxIfInBounds_toArray]
  · rw [List.length_eraseIdx]
    split <;> omega
end GX
/-! min(xs), xs a list of data: the comparisons may speak of the heap -/
namespace GX
open PySem PySem.Spec PyProof.Rows L2 GxR
section
variable {prog : Program} {w : World} {A : Around} {R : Result → Shared → Prop} {I S : Addr} {fp wr : List Addr} {n : Nat} {P : Nat → Value → Prop} {St : Nat → Heap → Prop} {h0 : Heap}
/-- what stood in h0 stands -/
def Stands (h0 : Heap) (wr : List Addr) (h : Heap) : Prop := ∀ b o, b ∉ wr → h0.get? b = some o → h.get? b = some o
def CmpIn (prog : Program) (w : World) (A : Around) (Z : Heap → Prop) (op : CmpOp) (P : Nat → Value → Prop) (bt : Nat → Nat → Bool) : Prop :=
  ∀ i j vi vj (s : Shared) (Q : Value → Shared → Prop) (E : Value → Shared → Prop), Z s.heap → P i vi → P j vj → Q (.bool (bt i j)) s → wpAny (model prog w) A (richCompare op vi vj) Q E s
theorem min_loopZ (W : Walks prog w A.in1 I fp wr n P St) (bt : Nat → Nat → Bool) (hcmp : CmpIn prog w A.in1 (Stands h0 wr) .Lt P bt) (hSf : S ∉ fp) (hS0 : h0.get? S = none) :
    ∀ (k j : Nat) (s : Shared) (vb : Value) (c : Nat), Stands h0 wr s.heap → n - (j + 1) = k → j + 1 ≤ n → St (j + 1) s.heap → P (argBest bt j) vb →
    s.heap.get? S = some { cls := .type "list", dict := none, data := .seq #[vb, vb] c, slots := #[] } →
    (∀ v h' tk, P (argBest bt (n - 1)) v → (∀ b o, b ∉ wr → b ≠ S → s.heap.get? b = some o → h'.get? b = some o) → R (.ok (.ret v)) { s with heap := h', toks := tk }) →
    codeAny (model prog w) A (.builtin "min.loop" ⟨[.ref I, .none, .ref S], []⟩) R s := by
  have hSw : S ∉ wr := fun h => hSf (W.sub _ h)
  have hname : (toString "min" ++ toString ".loop" : String) = "min.loop" := by decide
  intro k
  induction k with
  | zero =>
    intro j s vb c hz hk hj hst hPb hS hR
    have hin : j + 1 = n := by omega
    refine codeAny_builtin PySem.F.entry_min_loop ?_
    rw [Around.under_plainId PySem.F.plain_min_loop _]
    show wpAny _ A.in1 (seqItems? (.ref S) >>= _) _ _ s
    refine wpAny_bind (wpAny_seqItems hS rfl ?_)
    show wpAny _ A.in1 (tryCatch (pyNext (.ref I)) _ >>= _) _ _ s
    refine wpAny_bind (wpAny_tryCatch (W.done s _ _ (hin ▸ hst) fun h' tk hk' => ?_))
    have hS' := hk' S _ hSw hS
    show wpAny _ A.in1 (updateSeq S (fun _ => #[]) >>= _) _ _ _
    refine wpAny_bind ?_
    refine wpAny_updateSeq hS' rfl (wpAny_bind (wpAny_letGo (wpAny_pure ?_)))
    refine hR vb _ tk (by rw [← hin]; exact hPb) fun b o hbw hbS e => (Heap.get?_update_other _ _ (Ne.symm hbS)).trans (hk' b o hbw e)
  | succ k ih =>
    intro j s vb c hz hk hj hst hPb hS hR
    have hlt : j + 1 < n := by omega
    refine codeAny_builtin PySem.F.entry_min_loop ?_
    rw [Around.under_plainId PySem.F.plain_min_loop _]
    show wpAny _ A.in1 (seqItems? (.ref S) >>= _) _ _ s
    refine wpAny_bind (wpAny_seqItems hS rfl ?_)
    show wpAny _ A.in1 (tryCatch (pyNext (.ref I)) _ >>= _) _ _ s
    refine wpAny_bind (wpAny_tryCatch (W.item (j + 1) s _ _ hlt hst fun v h' tk hP hst' hk' => ?_))
    have hS' := hk' S _ hSw hS
    have hz' : Stands h0 wr h' := fun b o hb e => hk' b o hb (hz b o hb e)
    show wpAny _ A.in1 (tryCatch (holding [v, v] (richCompare .Lt v vb >>= _)) _ >>= _) _ _ _
    refine wpAny_bind (wpAny_tryCatch (wpAny_holding (wpAny_bind (hcmp (j + 1) (argBest bt j) v vb _ _ _ hz' hP hPb ?_))))
    refine wpAny_bind (wpAny_holding (wpAny_truthy_bool ?_))
    refine wpAny_bind (wpAny_letGo (wpAny_pure ?_))
    cases hb : bt (j + 1) (argBest bt j) with
    | true =>
      simp only [if_true]
      refine wpAny_bind ?_
      refine wpAny_updateSeq hS' rfl (wpAny_bind (wpAny_letGo ?_))
      rw [hname]
      refine wpAny_pure ⟨plainId_quiet PySem.F.plain_min_loop _, ih (j + 1) _ v _ (fun b o hbw e => (Heap.get?_update_other _ _ (fun z : S = b => by rw [← z, hS0] at e; cases e)).trans (hz' b o hbw e)) (by omega) hlt (W.frame _ _ _ hst' fun b hbf o e => ?_) (by simp only [argBest, hb, if_true]; exact hP) (Heap.get?_update_self _ hS' rfl)
        fun v' h'' tk'' hP' hk'' => ?_⟩
      · exact (Heap.get?_update_other _ _ (fun h : S = b => hSf (by rw [h]; exact hbf))).trans e
      · exact hR v' h'' tk'' hP' fun b o hbw hbS e => hk'' b o hbw hbS ((Heap.get?_update_other _ _ (Ne.symm hbS)).trans (hk' b o hbw e))
    | false =>
      simp only [Bool.false_eq_true, if_false]
      refine wpAny_bind (wpAny_letGo ?_)
      rw [hname]
      refine wpAny_pure ⟨plainId_quiet PySem.F.plain_min_loop _, ih (j + 1) _ vb c hz' (by omega) hlt hst' (by simp only [argBest, hb, Bool.false_eq_true, if_false]; exact hPb) hS' fun v' h'' tk'' hP' hk'' => ?_⟩
      exact hR v' h'' tk'' hP' fun b o hbw hbS e => hk'' b o hbw hbS (hk' b o hbw e)
theorem min_firstZ (W : Walks prog w A.in1 I fp wr n P St) (bt : Nat → Nat → Bool) (hcmp : CmpIn prog w A.in1 (Stands h0 wr) .Lt P bt) (hSf : S ∉ fp) (hS0 : h0.get? S = none) (hn : 0 < n) {s : Shared} {c : Nat} (hz : Stands h0 wr s.heap) (hst : St 0 s.heap)
    (hS : s.heap.get? S = some { cls := .type "list", dict := none, data := .seq #[] c, slots := #[] })
    (hR : ∀ v h' tk, P (argBest bt (n - 1)) v → (∀ b o, b ∉ wr → b ≠ S → s.heap.get? b = some o → h'.get? b = some o) → R (.ok (.ret v)) { s with heap := h', toks := tk }) :
    codeAny (model prog w) A (.builtin "min.loop" ⟨[.ref I, .none, .ref S], []⟩) R s := by
  have hSw : S ∉ wr := fun h => hSf (W.sub _ h)
  have hname : (toString "min" ++ toString ".loop" : String) = "min.loop" := by decide
  refine codeAny_builtin PySem.F.entry_min_loop ?_
  rw [Around.under_plainId PySem.F.plain_min_loop _]
  show wpAny _ A.in1 (seqItems? (.ref S) >>= _) _ _ s
  refine wpAny_bind (wpAny_seqItems hS rfl ?_)
  show wpAny _ A.in1 (tryCatch (pyNext (.ref I)) _ >>= _) _ _ s
  refine wpAny_bind (wpAny_tryCatch (W.item 0 s _ _ hn hst fun v h' tk hP hst' hk' => ?_))
  have hS' := hk' S _ hSw hS
  show wpAny _ A.in1 (updateSeq S (fun _ => #[v, v]) >>= _) _ _ _
  refine wpAny_bind ?_
  refine wpAny_updateSeq hS' rfl ?_
  rw [hname]
  refine wpAny_pure ⟨plainId_quiet PySem.F.plain_min_loop _, min_loopZ W bt hcmp hSf hS0 _ 0 _ v _ (fun b o hbw e => (Heap.get?_update_other _ _ (fun z : S = b => by rw [← z, hS0] at e; cases e)).trans (hk' b o hbw (hz b o hbw e))) rfl hn (W.frame _ _ _ hst' fun b hbf o e => ?_) hP (Heap.get?_update_self _ hS' rfl) fun v' h'' tk'' hP' hk'' => ?_⟩
  · exact (Heap.get?_update_other _ _ (fun h : S = b => hSf (by rw [h]; exact hbf))).trans e
  · exact hR v' h'' tk'' hP' fun b o hbw hbS e => hk'' b o hbw hbS ((Heap.get?_update_other _ _ (Ne.symm hbS)).trans (hk' b o hbw e))
end
end GX
/-! min(xs), xs a list of data -/
namespace GX
open PySem PySem.Spec PyProof.Rows L2 GxR
section
variable {prog : Program} {w : World} {A : Around} {E : Value → Shared → Prop} {s : Shared}
theorem iter_listZ {l : Addr} {its : Array Value} {Q : Value → Shared → Prop} (hl : s.heap.IsList l its)
    (h : ∀ s₂ : Shared, s₂ = { s with heap := s.heap.push { cls := .type "list_iterator", data := .fields #[.ref l, .int 0 0] } } →
      (s₂.heap.IsListIter s.heap.objs.size l 0 ∧ s₂.heap.IsList l its) → (∀ b ∈ [s.heap.objs.size, l], b < s₂.heap.objs.size) → l ≠ s.heap.objs.size → Q (.ref s.heap.objs.size) s₂) :
    wpAny (model prog w) A (pyIter (.ref l)) Q E s := by
  have hlt : l < s.heap.objs.size := by obtain ⟨_, e, _⟩ := hl; exact Heap.lt_size e
  refine wpAny_pyIter_list hl (h _ rfl ⟨⟨_, Heap.get?_push_size _ rfl, rfl, rfl⟩, hl.push _⟩ (fun b hb => ?_) (Nat.ne_of_lt hlt))
  show b < (s.heap.push _).objs.size
  rw [Heap.size_push]
  rcases List.mem_cons.mp hb with rfl | hb
  · exact Nat.lt_succ_self _
  · rcases List.mem_cons.mp hb with rfl | hb
    · exact Nat.lt_succ_of_lt hlt
    · cases hb
theorem call_min_list {l : Addr} {its : Array Value} {bt : Nat → Nat → Bool} {Q : Value → Shared → Prop} (hh : A.handled = none) (hl : s.heap.IsList l its) (hn : 0 < its.size)
    (hcmp : ∀ (wr : List Addr), (∀ b ∈ wr, s.heap.get? b = none) → CmpIn prog w A.in1 (Stands s.heap wr) .Lt (fun i v => its[i]? = some v) bt)
    (h : ∀ v h' tk, its[argBest bt (its.size - 1)]? = some v → (∀ b o, s.heap.get? b = some o → h'.get? b = some o) → Q v { s with heap := h', toks := tk }) :
    wpAny (model prog w) A (call (.builtin "min") [.ref l]) Q E s := by
  have hname : (toString "min" ++ toString ".loop" : String) = "min.loop" := by decide
  refine call_function_tree PySem.F.kind_min PySem.F.plain_min PySem.F.entry_min (PySem.F.args_min1 _) ?_
  show wpAny _ A.in1 (Builtin.Builtins.bindParams "min" ["key", "default"] 0 ⟨[], []⟩ >>= _) _ _ s
  refine wpAny_bind (wpAny_of_eq (show Builtin.Builtins.bindParams "min" ["key", "default"] 0 ⟨[], []⟩ = pure [none, none] from rfl) ?_)
  refine wpAny_bind (wpAny_pure ?_)
  refine wpAny_bind (iter_listZ hl fun s₂ e st hfp hlI => ?_)
  subst e
  refine wpAny_bind (wpAny_newObj_type ?_)
  have hSf : (s.heap.push { cls := .type "list_iterator", data := .fields #[.ref l, .int 0 0] }).objs.size ∉ [s.heap.objs.size, l] := fun hm => Nat.lt_irrefl _ (hfp _ hm)
  have W := Walks.list (prog := prog) (w := w) (A := A.in1) hh s.heap.objs.size l hlI its
  have old : ∀ b o, s.heap.get? b = some o → ((s.heap.push { cls := .type "list_iterator", data := .fields #[.ref l, .int 0 0] }).push { cls := .type "list", data := .seq #[] 0 }).get? b = some o := fun b o e => Heap.get?_push_of_some _ (Heap.get?_push_of_some _ e)
  have none0 : s.heap.get? s.heap.objs.size = none := by
    cases e : s.heap.get? s.heap.objs.size with
    | none => rfl
    | some o => exact absurd (Heap.lt_size e) (Nat.lt_irrefl _)
  have noneS : s.heap.get? (s.heap.push { cls := .type "list_iterator", data := .fields #[.ref l, .int 0 0] }).objs.size = none := by
    cases e : s.heap.get? (s.heap.push { cls := .type "list_iterator", data := .fields #[.ref l, .int 0 0] }).objs.size with
    | none => rfl
    | some o =>
      have := Heap.lt_size e
      rw [Heap.size_push] at this
      exact absurd this (Nat.not_lt.mpr (Nat.le_succ _))
  rw [hname]
  refine wpAny_pure ⟨plainId_quiet PySem.F.plain_min_loop _, min_firstZ (h0 := s.heap) W bt (hcmp [s.heap.objs.size] fun b hb => by rw [List.mem_singleton.mp hb]; exact none0) hSf noneS hn (fun b o _ e => old b o e) (W.frame _ _ _ st fun b _ o e => Heap.get?_push_of_some _ e) (Heap.get?_push_size _ rfl) fun v h' tk hP hk => ?_⟩
  refine h v h' tk hP fun b o e => hk b o (fun hm => ?_) (fun z => ?_) (old b o e)
  · rw [List.mem_singleton.mp hm, none0] at e
    cases e
  · rw [z, noneS] at e
    cases e
end
theorem vals_at : ∀ {xs : List V} {us : List Value} (r : Vals xs us) {i : Nat} {u : Value}, us[i]? = some u → ∃ x, xs[i]? = some x ∧ RelV x u
  | _, _, .nil, i, u, e => nomatch e
  | _, _, .cons r _, 0, u, e => by
    cases e
    exact ⟨_, rfl, r⟩
  | _, _, .cons _ t, i + 1, u, e => vals_at t e
theorem readsAll_at {h : Heap} : ∀ {ds : List PyData} {us : List Value} {as : List Addr}, ReadsAll h us ds as → ∀ {i : Nat} {u : Value}, us[i]? = some u → ∃ d bs, ds[i]? = some d ∧ Reads h u d bs
  | _, _, _, .nil, i, u, e => nomatch e
  | _, _, _, .cons r rs, 0, u, e => by
    cases e
    exact ⟨_, _, rfl, r⟩
  | _, _, _, .cons r rs, i + 1, u, e => readsAll_at rs e
/-- min(xs): the first least one -/
def rMinD (K : PySem.W.Frag) : List V → Hp → VK → Prop := fun vs H Q => ∃ (a : Addr) (xs : List V) (ds : List PyData), vs = [.ref a] ∧ SqL K H a xs ∧ DpAll K H xs ds ∧ 0 < xs.length ∧ (∀ d ∈ ds, ∀ e ∈ ds, PySem.W.alike d e = true) ∧ (∀ d ∈ ds, d ≠ .none ∧ d.depth ≤ 50) ∧
  ∀ x, xs[argBest (fun i j => PySem.W.dataLt (ds.getD i .none) (ds.getD j .none)) (xs.length - 1)]? = some x → Q x H
theorem cr_minD {X : Cx} (hc : X.calm = true) (hu : X.A.units + 64 < cLine) : CallR X (.builtin "min") (rMinD X.K) := by
  intro pins s σ H vs us Q I r h
  obtain ⟨a, xs, ds, rfl, hs, hA, hn, al, nn, q⟩ := h
  obtain ⟨its, rv, hl, hz⟩ := I.list hs
  rw [Vals.ref1 r]
  obtain ⟨as, ra⟩ := Dp.readsAll I ds xs its hA rv
  have ll := rv.length
  refine call_min_list (bt := fun i j => PySem.W.dataLt (ds.getD i .none) (ds.getD j .none)) (I.ok.hd hc) hl.isList (by rw [List.size_toArray]; omega) (fun wr hw i j vi vj s' Q' E' hZ hi hj q' => ?_) fun v h' tk hv hk => ?_
  · obtain ⟨d, bs, g1, g2⟩ := readsAll_at ra (by simpa using hi)
    obtain ⟨e, cs, g3, g4⟩ := readsAll_at ra (by simpa using hj)
    have k : ∀ b o, s.heap.get? b = some o → s'.heap.get? b = some o := fun b o e => hZ b o (fun hm => by rw [hw b hm] at e; cases e) e
    have m1 := List.mem_of_getElem? g1
    have m2 := List.mem_of_getElem? g3
    dsimp only at q'
    rw [List.getD_eq_getElem?_getD, g1, List.getD_eq_getElem?_getD, g3] at q'
    exact PySem.W.lt_data (PyProof.Rows.Reads.keeps k g2) (PyProof.Rows.Reads.keeps k g4) (al d m1 e m2) (nn d m1).1 (by have := (nn d m1).2; show X.A.units + 1 + _ < cLine; omega) q'
  · rw [List.size_toArray, ← ll] at hv
    have hv' : its[argBest (fun i j => PySem.W.dataLt (ds.getD i .none) (ds.getD j .none)) (xs.length - 1)]? = some v := by simpa using hv
    obtain ⟨x, hx, rx⟩ := vals_at rv hv'
    exact ⟨x, H, I.kept hk, rx, q x hx⟩
end GX
/-! for i, x in enumerate(xs, start=k) -/
namespace GX
open PySem PySem.Spec PyProof.Rows L2 GxR
def Itek (K : PySem.W.Frag) (a : Addr) (k : Int) : It :=
  ⟨fun i H => ∃ (xs : List V) (x : V), SqL K H a xs ∧ xs[i]? = some x, fun i H v H' => ∃ T x, v = .ref T ∧ H T = none ∧ H' = upd H T (.tup [.int (k + (i : Nat)), x]) ∧ ∀ xs, SqL K H a xs → xs[i]? = some x, fun i H => ∃ xs : List V, SqL K H a xs ∧ xs.length = i⟩
theorem ne_iter {h : Heap} {a it : Addr} {its : Array Value} {i : Nat} (hl : h.IsList a its) (hi : h.IsListIter it a i) : a ≠ it := fun e => by
  subst e
  obtain ⟨o, ho, hc, _⟩ := hl
  obtain ⟨o', ho', hc', _⟩ := hi
  rw [ho] at ho'
  cases ho'
  rw [hc] at hc'
  exact absurd hc' (by decide)
theorem turn_enumK {P : Program} {w : World} {K : PySem.W.Frag} {elts : List Expr} {kk : Nat} {tpos : Pos} (a e it : Addr) (k : Int) :
    Turn P w K (.Tuple elts kk tpos) (Itek K a k) [e, it] e (fun i h => (∃ old, IsEnum h e it (k + (i : Nat)) old) ∧ h.IsListIter it a i ∧ e ≠ it) where
  mem := by simp
  obj := fun i h st b hb => by
    obtain ⟨⟨old, he⟩, ⟨o, ho, hc, hd⟩, _⟩ := st
    have e' : b = e ∨ b = it := by simpa using hb
    rcases e' with z | z
    · rw [z]; exact ⟨_, he, fun v q => nomatch q⟩
    · rw [z]; exact ⟨o, ho, fun v q => by rw [hd] at q; cases q⟩
  keep := fun i h h' st k => let ⟨⟨old, he⟩, hi, hne⟩ := st; ⟨⟨old, k e (by simp) _ he⟩, hi.at fun o q => k it (by simp) o q, hne⟩
  item := by
    intro X hP hw hK hc i pins s σ H E I hf st hg
    subst hP hw hK
    obtain ⟨⟨old, he⟩, hit, hne⟩ := st
    obtain ⟨xs, x, hq, hx⟩ := hg
    obtain ⟨its, rv, p, hz⟩ := I.list hq
    obtain ⟨u, hu, ru⟩ := rv.get hx
    have hel : e < s.heap.objs.size := Heap.lt_size he
    have hil : it < s.heap.objs.size := by obtain ⟨_, q, _⟩ := hit; exact Heap.lt_size q
    have hai := ne_iter p.isList hit
    have D := Draws.list (prog := X.prog) (w := X.w) (A := X.A.in1) (I.ok.hd hc) it a hai its.toArray
    have hlt : i < its.toArray.size := by
      have := (List.getElem?_eq_some_iff.mp hu).1
      simpa using this
    have hea : e ≠ a := fun z => by
      obtain ⟨o, ho, hc', _⟩ := p.isList
      rw [← z] at ho
      rw [show s.heap.get? e = _ from he] at ho
      cases ho
      exact absurd (show Value.type "enumerate" = Value.type "list" from hc') (by decide)
    refine wpAny_pyNext_enum_itemC D he ⟨hit, p.isList⟩ hlt hne (by simp [hne, hea]) fun y h' tk hy ho hst' hT hsz hk => ?_
    obtain ⟨hit', hl'⟩ := hst'
    obtain rfl : y = u := by
      have : its[i]? = some y := by simpa using hy
      rw [hu] at this
      exact (Option.some.inj this).symm
    refine ⟨_, rfl, wpAny_letOwnedTupleGo_enum (s := { s with heap := h', toks := tk + 1 }) ho fun h'' he' sb => ?_⟩
    have hT2 : h''.get? s.heap.objs.size = some { cls := .type "tuple", data := .seq #[.int (k + (i : Nat)) tk, y] } := (sb.2 _ (Nat.ne_of_gt hel)).trans hT
    have new : ObjOk X.prog X.w (upd H s.heap.objs.size (.tup [.int (k + (i : Nat)), x])) h'' s.heap.objs.size (.tup [.int (k + (i : Nat)), x]) :=
      ⟨by show 2 ≤ sizeLine; decide, [.int (k + (i : Nat)) tk, y], .cons ⟨_, rfl⟩ (.cons ru .nil), ⟨_, hT2, rfl, _, rfl⟩⟩
    have I1 : Inv X pins σ (upd H s.heap.objs.size (.tup [.int (k + (i : Nat)), x])) { s with heap := h'', toks := tk + 1 } :=
      I.turnedNew (ch := [e, it]) (fun b ob hb q => (sb.2 b (fun z => hb (by simp [z]))).trans (hk b ob (fun z => hb (by simp [z])) (fun z => hb (by simp [z])) q)) hf (Nat.le_refl _) new
    refine ⟨.ref s.heap.objs.size, _, I1, rfl, ⟨_, x, rfl, I.hok.fresh (Nat.le_refl _), rfl, fun ys hy => by rw [I.list_inj hy hq]; exact hx⟩, ⟨⟨y, ?_⟩, hit'.at fun o q => (sb.2 it (Ne.symm hne)).trans q, hne⟩, fun b hb => ?_⟩
    · have e1 : k + ((i + 1 : Nat) : Int) = k + (i : Int) + 1 := by omega
      rw [e1]; exact he'
    · have hb' : b < s.heap.objs.size := by
        have e' : b = e ∨ b = it := by simpa using hb
        rcases e' with z | z
        · rw [z]; exact hel
        · rw [z]; exact hil
      rw [upd_ne (Nat.ne_of_lt hb')]
      exact (hf b hb).1
  done := by
    intro X hP hw hK hc i pins s σ H E I hf st hg
    subst hP hw hK
    obtain ⟨⟨old, he⟩, hit, hne⟩ := st
    obtain ⟨xs, hq, hx⟩ := hg
    obtain ⟨its, rv, p, hz⟩ := I.list hq
    obtain ⟨f0, f1, f2, f3, f4, f5⟩ := hf it (by simp)
    have hai := ne_iter p.isList hit
    have D := Draws.list (prog := X.prog) (w := X.w) (A := X.A.in1) (I.ok.hd hc) it a hai its.toArray
    have hl := rv.length
    have hi : its.toArray.size = i := by rw [List.size_toArray]; omega
    rw [← hi] at hit
    exact wpAny_pyNext_enum_endD D he ⟨hit, p.isList⟩ fun h' eb => ⟨rfl, I.turned (t' := s.toks) (fun b o hb q => eb b o hb q) f0 f1 f3 f4 f5⟩
  self := fun A i s Q E st h => let ⟨⟨_, he⟩, _⟩ := st; wpAny_pyIter_enum he h
theorem walk_enumK {K : PySem.W.Frag} {a : Addr} {xs : List V} (k : Int) : Walk (Itek K a k) xs.length (fun H => SqL K H a xs) (fun i H v H' => ∃ T x, v = .ref T ∧ H T = none ∧ H' = upd H T (.tup [.int (k + (i : Nat)), x]) ∧ xs[i]? = some x) :=
  ⟨fun i H hi q => ⟨xs, xs[i], q, List.getElem?_eq_getElem hi⟩, fun H q => ⟨xs, q, rfl⟩, fun i H v H' _ q ⟨T, x, e1, e2, e3, e4⟩ => ⟨T, x, e1, e2, e3, e4 xs q⟩⟩
end GX
namespace GX
open PySem PySem.Spec PyProof.Rows L2 GxR
section
variable {prog : Program} {w : World} {A : Around} {E : Value → Shared → Prop} {s : Shared} {env : Env}
theorem callWith_typeKw {pos : Pos} {T : String} {e : Expr} {rest : List Expr} {kws : List Keyword} {Q : Value → Shared → Prop}
    (h : wpAny (model prog w) A (spliced (backTo pos (starEach (e :: rest) env))) (fun vs s₁ => wpAny (model prog w) A (evalAll ((backToKw pos (keywordEach kws env)).map (·.2)))
      (fun kvs s₂ => wpAny (model prog w) A (call (.type T) vs (((backToKw pos (keywordEach kws env)).filterMap (·.1)).zip kvs)) Q E s₂) E s₁) E s)
    (he : backTo pos (starEach (e :: rest) env) = (false, eval e env) :: backTo pos (starEach rest env))
    (hplain : (backTo pos (starEach (e :: rest) env)).any (·.1) = false)
    (hall : (backToKw pos (keywordEach kws env)).all (·.1.isSome) = true)
    (hkw : (backToKw pos (keywordEach kws env)).any (·.1.isNone) = false) :
    wpAny (model prog w) A (callWith pos (.type T) [] (backTo pos (starEach (e :: rest) env)) (backToKw pos (keywordEach kws env))) Q E s := by
  have key : wpAny (model prog w) A (evalArgs (.type T) true (backTo pos (starEach (e :: rest) env)) (backToKw pos (keywordEach kws env))) (fun a s₁ => wpAny (model prog w) A (call (.type T) ([] ++ a.pos) a.kw) Q E s₁) E s := by
    rw [he] at h ⊢
    exact evalArgs_kwB hall h
  unfold callWith
  refine wpAny_bind (wpAny_holding (wpAny_mono key (fun a s₁ h₁ => wpAny_bind (wpAny_standAt ?_)) fun _ _ x => x))
  simp only [hplain, hkw, Bool.or_false]
  refine wpAny_bind (wpAny_pure ?_)
  exact wpAny_bind (wpAny_mono h₁ (fun r s₂ hr => wpAny_bind (wpAny_holding (wpAny_point (wpAny_pure hr)))) fun _ _ x => x)
end
def iEnumK (K : PySem.W.Frag) (ta tk : TA) : TI := fun σ H R => ta σ H fun vs H1 => tk σ H1 fun zs H2 => ∃ a xs k, vs = [.ref a] ∧ zs = [.int k] ∧ -(2 ^ 63) ≤ k ∧ k < 2 ^ 63 ∧ SqL K H2 a xs ∧ R (Itek K a k) H2
theorem pi_enumK {X : Cx} {e : Expr} {es : List Expr} {ta tk : TA} {p pos tpos : Pos} {elts : List Expr} {kk : Nat} {kws : List Keyword} (hg : Gl X "enumerate") (hm : X.mg "enumerate" = none) (ha : PA X (e :: es) ta) (hk : PK X kws tk)
    (he : backTo pos (starEach (e :: es) X.env) = (false, eval e X.env) :: backTo pos (starEach es X.env) := by rfl) (hpl : (backTo pos (starEach (e :: es) X.env)).any (·.1) = false := by rfl)
    (hall : (backToKw pos (keywordEach kws X.env)).all (·.1.isSome) = true := by rfl) (hnone : (backToKw pos (keywordEach kws X.env)).any (·.1.isNone) = false := by rfl) (hks : (backToKw pos (keywordEach kws X.env)).filterMap (·.1) = [Str.ofString "start"] := by rfl) :
    PI X (.Tuple elts kk tpos) (.Call (.Name "enumerate" p) (e :: es) kws pos) (iEnumK X.K ta tk) := by
  refine ⟨fun pins s σ H R I h => ?_⟩
  have hn : (Str.ofString "enumerate") ≠ "__name__" := by decide
  have hd : ((Str.ofString "enumerate") == ("__debug__" : Str)) = false := by decide
  refine wpAny_Call_Name_kw (ld_blt I hg hm boot_enumerate ?_ hn hd)
  refine callWith_typeKw (thn (ha.run pos pins s σ H _ I h) fun us s1 ⟨vs, H1, I1, r1, q1⟩ => thn (hk.run pos pins s1 σ H1 _ I1 q1) fun ws s2 ⟨zs, H2, I2, r2, q2⟩ => ?_) he hpl hall hnone
  rw [hks]
  obtain ⟨a, xs, k, ex, ez, hk0, hk1, hq, q⟩ := q2
  subst ex
  subst ez
  obtain ⟨u, rfl, ru⟩ := vals1 r1
  obtain ⟨u2, rfl, ru2⟩ := vals1 r2
  obtain rfl : u = Value.ref a := ru
  obtain ⟨t, rfl⟩ := ru2
  obtain ⟨its, rv, p', hz⟩ := I2.list hq
  refine enum_begins_start (begins_list a its.toArray) p'.isList hk0 hk1 fun h' hen hit hsz hkp => wpAny_pyIter_enum hen ?_
  have I3 : Inv X pins σ H2 { s2 with heap := h' } := I2.kept (t' := s2.toks) hkp
  refine ⟨s2.heap.objs.size + 1, [s2.heap.objs.size + 1, s2.heap.objs.size], _, _, H2, rfl, I3, turn_enumK a (s2.heap.objs.size + 1) s2.heap.objs.size k, ⟨⟨.none, ?_⟩, ⟨_, hit, rfl, rfl⟩, Nat.succ_ne_self _⟩, fun b hb => ?_, q⟩
  · have e0 : k + ((0 : Nat) : Int) = k := by omega
    rw [e0]
    exact hen
  · have e' : b = s2.heap.objs.size + 1 ∨ b = s2.heap.objs.size := by simpa using hb
    have hle : s2.heap.objs.size ≤ b := by
      rcases e' with z | z
      · rw [z]; exact Nat.le_add_right _ _
      · rw [z]; exact Nat.le_refl _
    exact I2.fpOk hle (I2.hok.fresh hle)
end GX
/-! mathematics of k12: lines, closures, masks -/
namespace K12
open PySem PySem.Spec PyProof.Rows L2 TR QR
open GX (KT kd kdAll)
open PySem.W (dataLt dataLe alike alikeAll AllAlike Sortable)
def nmD : PyData := .tuple [.tuple [.str (Str.ofString "label"), .int 0, .tuple []], .str (Str.ofString "ann"), .int 1]
theorem alike_nm : alike nmD nmD = true := by
  unfold nmD
  simp [alike, alikeAll]
theorem lt_nm : dataLt nmD nmD = false := by
  decide +kernel
theorem eqv_nm : PyData.eqv nmD nmD = true := by decide +kernel
/-- how lines are numbered: rising -/
class Sg where
  f : Nat → Nat
  mono : ∀ {a b : Nat}, a < b → f a < f b
theorem Sg.lt_iff (i : Sg) {a b : Nat} : i.f a < i.f b ↔ a < b := ⟨fun h => Classical.byContradiction fun n => by
  rcases Nat.lt_or_eq_of_le (Nat.le_of_not_lt n) with h2 | h2
  · exact absurd (i.mono h2) (by omega)
  · rw [h2] at h
    omega, i.mono⟩
theorem Sg.inj (i : Sg) {a b : Nat} (h : i.f a = i.f b) : a = b := Classical.byContradiction fun n => by
  rcases Nat.lt_or_gt_of_ne n with h2 | h2
  · have := i.mono h2
    omega
  · have := i.mono h2
    omega
section
variable [i : Sg]
def encL (k : Nat) : PyData := .tuple [nmD, .int 1, .int (i.f k : Int)]
def ktL : KT Nat where
  enc := encL
  kd := fun k => by simp [encL, nmD, kd, kdAll]
  inj := fun {a b} h => by
    unfold encL at h
    simp only [PyData.tuple.injEq, List.cons.injEq, PyData.int.injEq, true_and, and_true] at h
    exact i.inj (by omega)
  dp := fun k => by
    unfold encL nmD
    simp [PyData.depth, PyData.depthAll]
theorem plain_L (k : Nat) : (encL k).plain = true := by
  unfold encL nmD
  simp [PyData.plain, PyData.plainAll]
theorem alike_L (a b : Nat) : alike (encL a) (encL b) = true := by
  unfold encL
  simp [alike, alikeAll, alike_nm]
theorem eqv_L (a b : Nat) : PyData.eqv (encL a) (encL b) = decide (a = b) := by
  rw [Bool.eq_iff_iff]
  constructor
  · intro h
    unfold encL at h
    simp [PyData.eqv, PyData.eqvAll] at h
    exact decide_eq_true (i.inj (by omega))
  · intro h
    rw [of_decide_eq_true h]
    exact PySem.SeqAt.eqv_refl_plain _ (plain_L b)
end
end K12
namespace K12
open PySem PySem.Spec PyProof.Rows L2 TR QR
open GX (KT kd kdAll)
open PySem.W (dataLt dataLe alike alikeAll AllAlike Sortable)
section
variable [i : Sg]
theorem lt_L (a b : Nat) : dataLt (encL a) (encL b) = decide (a < b) := by
  unfold encL
  rw [PySem.W.dataLt_tuple, PySem.W.dataLt_cons alike_nm, if_pos eqv_nm, PySem.W.dataLt_cons (by simp [alike]), if_pos (by simp [PyData.eqv]), PySem.W.dataLt_cons (by simp [alike])]
  have e : ∀ l, PyProof.Rows.lexLt PyProof.Rows.itemOrd l l = false := fun l => PyProof.Rows.lex_irrefl l
  rw [e, PySem.W.dataLt_int]
  by_cases h : a = b
  · subst h
    simp [PyData.eqv]
  · have : ¬ ((i.f a : Int) = (i.f b : Int)) := fun e => h (i.inj (by omega))
    simp [PyData.eqv, this, i.lt_iff]
theorem le_L {β : Type} (f : β → Nat) : (dataLe false fun b => encL (f b)) = fun p q => decide (f p ≤ f q) := by
  funext p q
  rw [PySem.W.dataLe_eq]
  show (!dataLt (encL (f q)) (encL (f p))) = _
  rw [lt_L]
  by_cases h : f q < f p
  · have : ¬ f p ≤ f q := by omega
    simp [h, this]
  · have : f p ≤ f q := by omega
    simp [h, this]
theorem able_L {κ : Type} (f : κ → Nat) (es : List κ) : AllAlike (es.map fun e => encL (f e)) ∧ Sortable (es.map fun e => encL (f e)) :=
  ⟨AllAlike.of fun b b' => alike_L _ _, Sortable.tuples fun b => ⟨_, _, rfl⟩⟩
/-- entries whose keys rise are sorted -/
theorem sorted_asc {β : Type} (f : β → Nat) {l : List β} (h : l.Pairwise fun a b => f a ≤ f b) : l.mergeSort (dataLe false fun b => encL (f b)) = l := by
  rw [le_L]
  exact List.mergeSort_of_pairwise (h.imp fun h => decide_eq_true h)
theorem sort_range {n : Nat} {l : List Nat} (h : l.Perm (List.range n)) : l.mergeSort (dataLe false encL) = List.range n := by
  have e := le_L (β := Nat) id
  have e' : dataLe false encL = fun p q : Nat => decide (p ≤ q) := e
  rw [e']
  have p1 : (l.mergeSort fun p q : Nat => decide (p ≤ q)).Perm (List.range n) := (List.mergeSort_perm _ _).trans h
  refine List.Perm.eq_of_pairwise (le := fun a b : Nat => a ≤ b) (fun a b _ _ h1 h2 => Nat.le_antisymm h1 h2) ?_ ?_ p1
  · have := List.pairwise_mergeSort (le := fun p q : Nat => decide (p ≤ q)) (fun a b c h1 h2 => decide_eq_true (Nat.le_trans (of_decide_eq_true h1) (of_decide_eq_true h2))) (fun a b => by
      rcases Nat.le_total a b with h | h <;> simp [h]) l
    exact this.imp fun h => of_decide_eq_true h
  · exact List.pairwise_lt_range.imp fun h => Nat.le_of_lt h
end
/-! ### closures -/
inductive TG (E : Nat → Nat → Prop) : Nat → Nat → Prop
  | base {a b : Nat} : E a b → TG E a b
  | step {a b c : Nat} : E a b → TG E b c → TG E a c
theorem TG.trans {E : Nat → Nat → Prop} {a b c : Nat} (h : TG E a b) (h' : TG E b c) : TG E a c := by
  induction h with
  | base e => exact .step e h'
  | step e _ ih => exact .step e (ih h')
theorem TG.mono {E F : Nat → Nat → Prop} (h : ∀ a b, E a b → F a b) {a b : Nat} (t : TG E a b) : TG F a b := by
  induction t with
  | base e => exact .base (h _ _ e)
  | step e _ ih => exact .step (h _ _ e) ih
theorem TG.tgt {E : Nat → Nat → Prop} {a b : Nat} (t : TG E a b) : ∃ c, E c b := by
  induction t with
  | base e => exact ⟨_, e⟩
  | step _ _ ih => exact ih
theorem TG.src {E : Nat → Nat → Prop} {a b : Nat} (t : TG E a b) : ∃ c, E a c := by
  cases t with
  | base e => exact ⟨_, e⟩
  | step e _ => exact ⟨_, e⟩
/-- a path of m steps -/
def Pth (E : Nat → Nat → Prop) (m : Nat) (i j : Nat) : Prop := ∃ f : Nat → Nat, f 0 = i ∧ f m = j ∧ ∀ t < m, E (f t) (f (t + 1))
theorem Pth.first {E : Nat → Nat → Prop} {m i j : Nat} (h : Pth E (m + 1) i j) : ∃ k, E i k ∧ Pth E m k j := by
  obtain ⟨f, h0, h1, h2⟩ := h
  exact ⟨f 1, by have := h2 0 (by omega); rw [h0] at this; exact this, fun t => f (t + 1), rfl, h1, fun t ht => h2 (t + 1) (by omega)⟩
theorem Pth.cons {E : Nat → Nat → Prop} {m i k j : Nat} (e : E i k) (h : Pth E m k j) : Pth E (m + 1) i j := by
  obtain ⟨f, h0, h1, h2⟩ := h
  refine ⟨fun t => if t = 0 then i else f (t - 1), by simp, by simp [h1], fun t ht => ?_⟩
  by_cases z : t = 0
  · subst z
    simp [h0, e]
  · have := h2 (t - 1) (by omega)
    rw [show t - 1 + 1 = t from by omega] at this
    simp [z, this]
theorem pth_of {E : Nat → Nat → Prop} {i j : Nat} (t : TG E i j) : ∃ m, Pth E (m + 1) i j := by
  induction t with
  | base e => exact ⟨0, Pth.cons e ⟨fun _ => _, rfl, rfl, fun t ht => by omega⟩⟩
  | step e _ ih => exact ⟨_, Pth.cons e ih.choose_spec⟩
theorem Pth.tg {E : Nat → Nat → Prop} : ∀ {m i j : Nat}, Pth E (m + 1) i j → TG E i j
  | 0, i, j, h => by
    obtain ⟨k, e, f, h0, h1, _⟩ := h.first
    rw [← h1, h0]
    exact .base e
  | m + 1, i, j, h => by
    obtain ⟨k, e, h'⟩ := h.first
    exact .step e h'.tg
theorem nat_nodup_len {l m : List Nat} (h : l.Nodup) (hs : ∀ x ∈ l, x ∈ m) : l.length ≤ m.length := by
  have key : ∀ (l m : List Nat), l.Nodup → (∀ x ∈ l, x ∈ m) → l.length ≤ m.length := fun l => by
    induction l with
    | nil => intro m _ _; exact Nat.zero_le _
    | cons x l ih =>
      intro m hn hs
      obtain ⟨h1, h2⟩ := List.nodup_cons.mp hn
      have hx := hs x List.mem_cons_self
      have := ih (m.erase x) h2 fun y hy => (List.mem_erase_of_ne (fun e : y = x => h1 (by rw [← e]; exact hy))).2 (hs y (List.mem_cons_of_mem _ hy))
      rw [List.length_erase_of_mem hx] at this
      have := List.length_pos_of_mem hx
      rw [List.length_cons]
      omega
  exact key l m h hs
theorem Pth.short {E : Nat → Nat → Prop} {L : List Nat} (hL : ∀ a b, E a b → b ∈ L) : ∀ (m i j : Nat), Pth E (m + 1) i j → ∃ m', m' + 1 ≤ L.length ∧ Pth E (m' + 1) i j := by
  intro m
  induction m using Nat.strongRecOn with
  | _ m ih =>
    intro i j h
    by_cases hm : m + 1 ≤ L.length
    · exact ⟨m, hm, h⟩
    · obtain ⟨f, h0, h1, h2⟩ := h
      have nn : ¬ ((List.range (m + 1)).map fun t => f (t + 1)).Nodup := fun nd => by
        have := nat_nodup_len nd (m := L) fun x hx => by
          obtain ⟨t, ht, rfl⟩ := List.mem_map.mp hx
          exact hL _ _ (h2 t (List.mem_range.mp ht))
        rw [List.length_map, List.length_range] at this
        omega
      obtain ⟨a, b, hab, hb, e⟩ : ∃ a b, a < b ∧ b < m + 1 ∧ f (a + 1) = f (b + 1) := by
        refine Classical.byContradiction fun no => nn ?_
        rw [List.Nodup, List.pairwise_map]
        exact List.pairwise_lt_range.imp_of_mem fun {x y} hx hy hlt he => no ⟨x, y, hlt, List.mem_range.mp hy, he⟩
      have hp : Pth E (m - (b - a) + 1) i j := by
        refine ⟨fun t => if t ≤ a + 1 then f t else f (t + (b - a)), by simp [h0], ?_, fun t ht => ?_⟩
        · by_cases z : m - (b - a) + 1 ≤ a + 1
          · have : m = b := by omega
            have ez : m - (b - a) + 1 = a + 1 := by omega
            simp only [z, if_true]
            rw [ez, e, ← this, h1]
          · simp only [z, if_false]
            rw [show m - (b - a) + 1 + (b - a) = m + 1 from by omega, h1]
        · by_cases z : t + 1 ≤ a + 1
          · have z' : t ≤ a + 1 := by omega
            simp only [z, z', if_true]
            exact h2 t (by omega)
          · by_cases z' : t ≤ a + 1
            · have et : t = a + 1 := by omega
              simp only [z, z', if_true, if_false]
              rw [et, e, show a + 1 + 1 + (b - a) = b + 1 + 1 from by omega]
              exact h2 (b + 1) (by omega)
            · simp only [z, z', if_false]
              rw [show t + 1 + (b - a) = t + (b - a) + 1 from by omega]
              exact h2 (t + (b - a)) (by omega)
      exact ih (m - (b - a)) (by omega) i j hp
/-! ### masks -/
def orAll (M : Nat → Nat) (js : List Nat) (m : Nat) : Nat := js.foldl (fun m o => m ||| M o ||| 2 ^ o) m
theorem orAll_bit (M : Nat → Nat) (j : Nat) : ∀ (js : List Nat) (m : Nat), (orAll M js m).testBit j = true ↔ m.testBit j = true ∨ ∃ o ∈ js, (M o).testBit j = true ∨ o = j
  | [], m => by simp [orAll]
  | o :: js, m => by
    have ih := orAll_bit M j js (m ||| M o ||| 2 ^ o)
    show (orAll M js (m ||| M o ||| 2 ^ o)).testBit j = true ↔ _
    rw [ih]
    simp only [Nat.testBit_or, Nat.testBit_two_pow, Bool.or_eq_true, decide_eq_true_eq, List.mem_cons]
    constructor
    · rintro ((( h | h) | h) | ⟨o', h1, h2⟩)
      · exact .inl h
      · exact .inr ⟨o, .inl rfl, .inl h⟩
      · exact .inr ⟨o, .inl rfl, .inr h⟩
      · exact .inr ⟨o', .inr h1, h2⟩
    · rintro (h | ⟨o', rfl | h1, h2⟩)
      · exact .inl (.inl (.inl h))
      · rcases h2 with h2 | h2
        · exact .inl (.inl (.inr h2))
        · exact .inl (.inr h2)
      · exact .inr ⟨o', h1, h2⟩
theorem orAll_le (M : Nat → Nat) : ∀ (js : List Nat) (m : Nat), m ≤ orAll M js m
  | [], m => Nat.le_refl _
  | o :: js, m => Nat.le_trans (Nat.le_trans Nat.left_le_or Nat.left_le_or) (orAll_le M js (m ||| M o ||| 2 ^ o))
theorem orAll_lt {n : Nat} {M : Nat → Nat} (hM : ∀ o, o < n → M o < 2 ^ n) : ∀ {js : List Nat} {m : Nat}, (∀ o ∈ js, o < n) → m < 2 ^ n → orAll M js m < 2 ^ n
  | [], m, _, h => h
  | o :: js, m, hj, h => by
    have ho := hj o List.mem_cons_self
    exact orAll_lt hM (js := js) (fun x hx => hj x (List.mem_cons_of_mem _ hx)) (Nat.or_lt_two_pow (Nat.or_lt_two_pow h (hM o ho)) (Nat.pow_lt_pow_right (by decide) ho))
/-- the masks show ways only -/
def MSound (g : Nat → List Nat) (M : Nat → Nat) : Prop := ∀ k j, (M k).testBit j = true → TG (fun a b => b ∈ g a) k j
theorem or_sound {g : Nat → List Nat} {M : Nat → Nat} (h : MSound g M) (k : Nat) : ∀ j, (orAll M (g k) (M k)).testBit j = true → TG (fun a b => b ∈ g a) k j := fun j hj => by
  rcases (orAll_bit M j (g k) (M k)).mp hj with h1 | ⟨o, ho, h1 | h1⟩
  · exact h k j h1
  · exact .step (E := fun a b => b ∈ g a) ho (h o j h1)
  · subst h1
    exact .base (E := fun a b => b ∈ g a) ho
theorem m_closed {g : Nat → List Nat} {M : Nat → Nat} {n : Nat} (hg : ∀ k, k < n → orAll M (g k) (M k) = M k) (ht : ∀ k o, o ∈ g k → o < n) (hs : MSound g M) {k j : Nat} (hk : k < n) : (M k).testBit j = true ↔ TG (fun a b => b ∈ g a) k j := by
  refine ⟨hs k j, fun t => ?_⟩
  induction t with
  | base e =>
    rw [← hg _ hk, orAll_bit]
    exact .inr ⟨_, e, .inr rfl⟩
  | step e _ ih =>
    rw [← hg _ hk, orAll_bit]
    exact .inr ⟨_, e, .inl (ih (ht _ _ e))⟩
def gap (n : Nat) (M : Nat → Nat) : Nat := ((List.range n).map fun k => 2 ^ n - M k).sum
def setM (M : Nat → Nat) (k v : Nat) : Nat → Nat := fun x => if x = k then v else M x
theorem sum_le {f g : Nat → Nat} (h : ∀ x, f x ≤ g x) : ∀ l : List Nat, (l.map f).sum ≤ (l.map g).sum
  | [] => Nat.le_refl _
  | x :: l => by
    have := h x
    have := sum_le h l
    simp only [List.map_cons, List.sum_cons]
    omega
theorem sum_lt {f g : Nat → Nat} (h : ∀ x, f x ≤ g x) {k : Nat} (hk : f k < g k) : ∀ {l : List Nat}, k ∈ l → (l.map f).sum < (l.map g).sum
  | x :: l, hm => by
    have h1 := h x
    have h2 := sum_le h l
    simp only [List.map_cons, List.sum_cons]
    rcases List.mem_cons.mp hm with rfl | hm
    · omega
    · have := sum_lt h hk hm
      omega
theorem gap_lt {n k v : Nat} {M : Nat → Nat} (hk : k < n) (h1 : M k < v) (h2 : v < 2 ^ n) : gap n (setM M k v) < gap n M := by
  refine sum_lt (k := k) (fun x => ?_) ?_ (List.mem_range.mpr hk)
  · unfold setM
    split
    · next e =>
      subst e
      omega
    · exact Nat.le_refl _
  · unfold setM
    rw [if_pos rfl]
    omega
theorem setM_self {M : Nat → Nat} {k : Nat} : setM M k (M k) = M := by
  funext x
  unfold setM
  split
  · next e => rw [e]
  · rfl
theorem and_bit {M j : Nat} : decide (¬ (M &&& 2 ^ j = 0)) = M.testBit j := by
  rw [Bool.eq_iff_iff, decide_eq_true_iff]
  constructor
  · intro h
    refine Classical.byContradiction fun hn => h ?_
    refine Nat.eq_of_testBit_eq fun i => ?_
    rw [Nat.testBit_and, Nat.testBit_two_pow, Nat.zero_testBit]
    by_cases e : j = i
    · subst e
      simp [hn]
    · simp [e]
  · intro h hz
    have := congrArg (fun x => x.testBit j) hz
    simp [Nat.testBit_and, Nat.testBit_two_pow, h] at this
end K12
/-! mathematics of texts and their lines -/
namespace TR
open PySem PySem.Spec PyProof.Rows L2
/-- the parts of l between the c's -/
def cutAt (c : Nat) : List Nat → List (List Nat)
  | [] => [[]]
  | x :: l => if x = c then [] :: cutAt c l else match cutAt c l with
    | [] => [[x]]
    | p :: r => (x :: p) :: r
def joinL (c : Nat) : List (List Nat) → List Nat
  | [] => []
  | [p] => p
  | p :: q :: r => p ++ c :: joinL c (q :: r)
theorem cut_free {c : Nat} : ∀ {p : List Nat}, c ∉ p → cutAt c p = [p]
  | [], _ => rfl
  | x :: p, h => by
    have h1 : x ≠ c := fun e => h (e ▸ List.mem_cons_self)
    have h2 : c ∉ p := fun e => h (List.mem_cons_of_mem _ e)
    unfold cutAt
    rw [if_neg h1, cut_free h2]
theorem cut_app {c : Nat} {l : List Nat} : ∀ {p : List Nat}, c ∉ p → cutAt c (p ++ c :: l) = p :: cutAt c l
  | [], _ => by
    show cutAt c (c :: l) = _
    rw [cutAt, if_pos rfl]
  | x :: p, h => by
    have h1 : x ≠ c := fun e => h (e ▸ List.mem_cons_self)
    have h2 : c ∉ p := fun e => h (List.mem_cons_of_mem _ e)
    show cutAt c (x :: (p ++ c :: l)) = _
    rw [cutAt, if_neg h1, cut_app h2]
theorem cut_join {c : Nat} : ∀ {P : List (List Nat)}, P ≠ [] → (∀ p ∈ P, c ∉ p) → cutAt c (joinL c P) = P
  | [], h, _ => absurd rfl h
  | [p], _, h => cut_free (h p List.mem_cons_self)
  | p :: q :: r, _, h => by
    rw [joinL, cut_app (h p List.mem_cons_self), cut_join (List.cons_ne_nil _ _) fun x hx => h x (List.mem_cons_of_mem _ hx)]
theorem cut_ne (c : Nat) : ∀ l, cutAt c l ≠ []
  | [] => List.cons_ne_nil _ _
  | x :: l => by
    unfold cutAt
    split
    · exact List.cons_ne_nil _ _
    · split <;> exact List.cons_ne_nil _ _
theorem tl_app (a b : Str) : tl (a ++ b) = tl a ++ tl b := by
  show (a.cps ++ b.cps).toList = _
  rw [Array.toList_append]
theorem tl_join (c : Nat) : ∀ P : List Str, tl (Str.join ⟨#[c]⟩ P) = joinL c (P.map tl)
  | [] => rfl
  | [p] => rfl
  | p :: q :: r => by
    show tl (p ++ ⟨#[c]⟩ ++ Str.join ⟨#[c]⟩ (q :: r)) = _
    rw [tl_app, tl_app, tl_join c (q :: r), List.append_assoc]
    rfl
theorem split_ne (x y : Str) : Txt.split x y ≠ [] := by
  unfold Txt.split
  split
  · exact List.cons_ne_nil _ _
  · split
    · exact List.cons_ne_nil _ _
    · unfold Builtin.Str.partsBetween
      generalize Builtin.Str.occurrences x y 0 x.length (x.length + 1) = cs
      cases cs <;> exact List.cons_ne_nil _ _
theorem split_cut (x : Str) (c : Nat) : Txt.split x ⟨#[c]⟩ = (cutAt c (tl x)).map Sg := by
  have h1 : (Txt.split x ⟨#[c]⟩).map tl = cutAt c (tl x) := by
    have e := StrLaws.join_split x ⟨#[c]⟩
    have e2 := tl_join c (Txt.split x ⟨#[c]⟩)
    rw [e] at e2
    rw [e2, cut_join (by
      intro z
      exact split_ne x ⟨#[c]⟩ (List.map_eq_nil_iff.mp z))]
    intro p hp
    obtain ⟨q, hq, rfl⟩ := List.mem_map.mp hp
    exact StrLaws.split_free x c q hq
  rw [← h1, List.map_map]
  conv => lhs; rw [← List.map_id (Txt.split x ⟨#[c]⟩)]
  rfl
theorem tl_join0 : ∀ P : List Str, tl (Str.join Str.empty P) = (P.map tl).flatten
  | [] => rfl
  | [p] => by simp [Str.join]
  | p :: q :: r => by
    show tl (p ++ Str.empty ++ Str.join Str.empty (q :: r)) = _
    rw [tl_app, tl_app, tl_join0 (q :: r), List.map_cons, List.flatten_cons]
    show tl p ++ [] ++ _ = _
    rw [List.append_nil]
    simp
theorem txt_join0 (P : List Str) : Txt.join Str.empty P = Sg ((P.map tl).flatten) := by
  show Builtin.Str.glued _ _ = _
  rw [StrLaws.glued_eq_join]
  exact ext_tl (tl_join0 P)
/-- the text of lines -/
def flatN : List (List Nat) → List Nat
  | [] => []
  | p :: r => p ++ 10 :: flatN r
theorem cut_flat {z : List Nat} (hz : 10 ∉ z) : ∀ {P : List (List Nat)}, (∀ p ∈ P, 10 ∉ p) → cutAt 10 (flatN P ++ z) = P ++ [z]
  | [], _ => cut_free hz
  | p :: r, h => by
    show cutAt 10 ((p ++ 10 :: flatN r) ++ z) = _
    rw [List.append_assoc, List.cons_append, cut_app (h p List.mem_cons_self), cut_flat hz fun x hx => h x (List.mem_cons_of_mem _ hx)]
    rfl
theorem flat_flatten : ∀ P : List (List Nat), (P.map fun p => p ++ [10]).flatten = flatN P
  | [] => rfl
  | p :: r => by
    rw [List.map_cons, List.flatten_cons, flat_flatten r, List.append_assoc]
    rfl
/-- the first place where a text fails -/
def fault : List Nat → Nat → Nat → Nat → Option Nat
  | [], at_, _, size => if size = 0 then none else some at_
  | c :: l, at_, many, size => if many = 200 then some at_ else if c = 10 then fault l (at_ + 1) (many + 1) 0 else if size = 40 then some at_ else fault l (at_ + 1) many (size + 1)
theorem fault_end : ∀ {l : List Nat} {a m s : Nat}, fault l a m s = none → (l = [] ∧ s = 0) ∨ ∃ l', l = l' ++ [10]
  | [], a, m, s, h => by
    unfold fault at h
    split at h
    · rename_i e
      exact .inl ⟨rfl, e⟩
    · cases h
  | c :: l, a, m, s, h => by
    unfold fault at h
    split at h
    · cases h
    · split at h
      · rename_i e
        rcases fault_end h with ⟨e2, _⟩ | ⟨l', e2⟩
        · exact .inr ⟨[], by rw [e2, e]; rfl⟩
        · exact .inr ⟨c :: l', by rw [e2]; rfl⟩
      · split at h
        · cases h
        · rcases fault_end h with ⟨_, e2⟩ | ⟨l', e2⟩
          · cases e2
          · exact .inr ⟨c :: l', by rw [e2]; rfl⟩
theorem fault_nil {l z : List Nat} {a m s : Nat} (h : fault (l ++ z) a m s = none) (hz : 10 ∉ z) : z = [] := by
  rcases List.eq_nil_or_concat z with e | ⟨w, x, e⟩
  · exact e
  · exfalso
    rcases fault_end h with ⟨e2, _⟩ | ⟨l', e2⟩
    · rw [e] at e2
      simp at e2
    · rw [e, List.concat_eq_append, ← List.append_assoc] at e2
      have := List.append_inj_right' e2 rfl
      have e3 : x = 10 := by simpa using this
      exact hz (by rw [e, e3]; simp)
def okT (l : List Nat) : Prop := ∀ c ∈ l, c = 10 ∨ (32 ≤ c ∧ c ≤ 126)
def okL (l : List Nat) : Prop := (∀ c ∈ l, 32 ≤ c ∧ c ≤ 126) ∧ l.length ≤ 50
theorem okL.free {l : List Nat} (h : okL l) : 10 ∉ l := fun z => by
  have := h.1 10 z
  omega
theorem okT_app {a b : List Nat} (ha : okT a) (hb : okT b) : okT (a ++ b) := fun c hc => by
  rcases List.mem_append.mp hc with h | h
  · exact ha c h
  · exact hb c h
theorem okL.t {l : List Nat} (h : okL l) : okT l := fun c hc => .inr (h.1 c hc)
theorem okT_flat : ∀ {P : List (List Nat)}, (∀ p ∈ P, okL p) → okT (flatN P)
  | [], _ => fun c hc => nomatch hc
  | p :: r, h => by
    refine okT_app (h p List.mem_cons_self).t fun c hc => ?_
    rcases List.mem_cons.mp hc with e | hc
    · exact .inl e
    · exact okT_flat (fun x hx => h x (List.mem_cons_of_mem _ hx)) c hc
theorem flat_len : ∀ {P : List (List Nat)}, (∀ p ∈ P, okL p) → (flatN P).length ≤ 51 * P.length
  | [], _ => Nat.le_refl _
  | p :: r, h => by
    have a := (h p List.mem_cons_self).2
    have b := flat_len (P := r) fun x hx => h x (List.mem_cons_of_mem _ hx)
    show (p ++ 10 :: flatN r).length ≤ 51 * (r.length + 1)
    rw [List.length_append, List.length_cons]
    omega
theorem okL_rep {l : List Nat} {k : Int} (h1 : l.length = 1) (hl : ∀ c ∈ l, 32 ≤ c ∧ c ≤ 126) (hk : k ≤ 50) : okL (repL l k) := by
  refine ⟨fun c hc => ?_, ?_⟩
  · obtain ⟨x, hx, hc⟩ := List.mem_flatten.mp hc
    rw [List.eq_of_mem_replicate hx] at hc
    exact hl c hc
  · unfold repL
    rw [PyProof.Rows.lm_len_rep_flat, h1]
    omega
end TR
namespace K12
open PySem PySem.Spec PyProof.Rows L2
def topS (i : Nat) : Stmt := PySem.Challenge.pw_quiltward_k18_wanted_changes.main.body.getD i (.Pass ⟨0, 0, 0, 0⟩)
abbrev sState : Stmt := topS 25
abbrev sDraw : Stmt := topS 26
abbrev sPick : Stmt := topS 27
theorem scState : FnScope ["script", "seed", "cell"] ["script"] (defScope sState) := ⟨rfl, rfl, rfl, by decide +kernel, rfl, by decide +kernel, by decide +kernel⟩
theorem scDraw : FnScope ["state", "many", "cells", "value", "mixed"] ["state", "many"] (defScope sDraw) := ⟨rfl, rfl, rfl, by decide +kernel, rfl, by decide +kernel, by decide +kernel⟩
theorem scPick : FnScope ["state", "row"] ["state", "row"] (defScope sPick) := ⟨rfl, rfl, rfl, by decide +kernel, rfl, by decide +kernel, by decide +kernel⟩
/-! ### the state of the draws: a list of a list and a number -/
structure StateAt (H : Hp) (p c : Addr) : Prop where
  ex : ∃ (seed : Int) (ms : List Int), H p = some (.lst [.ref c, .int seed]) ∧ H c = some (.lst (ms.map V.int)) ∧ ms.length ≤ 63 ∧ (∀ m ∈ ms, 0 ≤ m) ∧ 0 ≤ seed ∧ seed < 4294967296
  ne : p ≠ c
/-- only the state has changed -/
def Drawn (p c : Addr) (H H' : Hp) : Prop := ∀ b, b ≠ p → b ≠ c → H' b = H b
theorem drawn_refl {p c : Addr} {H : Hp} : Drawn p c H H := fun _ _ _ => rfl
theorem drawn_trans {p c : Addr} {H H1 H2 : Hp} (a : Drawn p c H H1) (b : Drawn p c H1 H2) : Drawn p c H H2 := fun x h1 h2 => (b x h1 h2).trans (a x h1 h2)
theorem StateAt.mono {H H' : Hp} {p c : Addr} (s : StateAt H p c) (hp : ∀ o, H p = some o → H' p = some o) (hc : ∀ o, H c = some o → H' c = some o) : StateAt H' p c := by
  obtain ⟨⟨seed, ms, h1, h2, h3⟩, ne⟩ := s
  exact ⟨⟨seed, ms, hp _ h1, hc _ h2, h3⟩, ne⟩
section
variable {P : Program} {w : World} {K : PySem.W.Frag} {mg : Str → Option Value} {base : Heap}
/-! ### _law_state -/
def spState (K : PySem.W.Frag) : Sp := fun vs H Q _ => ∃ (a : Addr) (ns : List Int), vs = [.ref a] ∧ SqL K H a (ns.map V.int) ∧ ns.length ≤ 63 ∧
  ∀ H' p c, Same H H' → H p = none → H c = none → StateAt H' p c → Q (.ref p) H'
theorem abs_nn (z : Int) : 0 ≤ (if z < 0 then -z else z) := by
  split <;> omega
theorem ok_state {f : Addr} {fd : FuncData} (F : Fun K "_law_state" "_law_state" sState f fd) (ma : mg "abs" = none) (mi : mg "int" = none) : FnOk P w K mg base CX0 1 f fd ["script"] (spState K) := by
  refine F.ok scState (fun vs H Q E h => ?_) (fun cdv A outer s H vs Q E hr h => ?_)
  · obtain ⟨a, ns, rfl, _⟩ := h
    rfl
  · obtain ⟨a, ns, rfl, hS, hl, q⟩ := h
    refine ⟨_, pss_cons (ps_set (i := 1) scState.nd rfl (.inl rfl) pe_int)
      (pss_cons (ps_for PassesOwn.never rfl (pi_list (pv 0)) (pg_name (i := 2) scState.nd rfl (.inl rfl))
        (pss_one (ps_set (i := 1) scState.nd rfl (.inl rfl) (pe_op op_mod (pe_callTy call_int1 (by rfl) mi (by decide +kernel) (pa_cons (pe_op op_add (pe_op op_mul (pv 1) pe_int) (pv 2)) pa_nil)) pe_int))))
      (pss_one (ps_ret (pe_lst (pa_cons (pe_lc (own := [("cell", 2)]) (g := gName 2) (tt := tYes) rfl scState.nd (pi_list (pv 0)) (blkOk_by (N := ["script", "seed", "cell"]) (sc := defScope sState) (by decide +kernel))
          (fun _ _ _ _ _ => pg_name (i := 2) scState.nd rfl (Or.inl rfl)) (fun _ _ _ _ _ => pts_nil) (fun _ _ _ _ _ => pe_callB call_abs (by rfl) ma (by decide +kernel) (pa_cons (pv 2) pa_nil)))
        (pa_cons (pe_op op_add (pv 1) pe_int) pa_nil)))))), ?_⟩
    refine ⟨.ref a, rfl, a, rfl, ⟨_, hS⟩, for_list (xs := ns.map V.int) (fun i σ H' => ∃ (z : Int) (y : Option V), σ = [some (.ref a), some (.int z), y] ∧ 0 ≤ z ∧ z < 1000003 ∧ H' = H) ⟨7, none, rfl, by omega, by omega, rfl⟩ ?_ ?_ ?_⟩
    · rintro i σ H' _ ⟨z, y, _, _, _, rfl⟩
      exact hS
    · rintro i x σ H' hx ⟨z, y, rfl, h0, h1, rfl⟩
      obtain ⟨n, _, rfl⟩ := List.mem_map.mp (List.mem_of_getElem? hx)
      refine ⟨_, rfl, _, _, rfl, rfl, .inl ⟨by omega, by omega⟩, _, rfl, _, _, rfl, rfl, .inl ⟨_, rfl, _, _, rfl, rfl, by show (0 : Int) < 1000003; decide, ?_⟩⟩
      exact ⟨_, _, rfl, Int.emod_nonneg _ (by decide), Int.emod_lt_of_pos _ (by decide), rfl⟩
    · rintro σ H' ⟨z, y, rfl, h0, h1, rfl⟩
      refine ⟨.ref a, rfl, a, rfl, ⟨_, hS⟩, fun D nD => ?_⟩
      refine lc_list (xs := ns.map V.int) (fun i H2 => H2 = upd H' D (.lst (((ns.take i).map fun n => if n < 0 then -n else n).map V.int))) rfl ?_ ?_ ?_
      · rintro i H2 _ rfl
        exact Same.seq (fun b o e => by rw [upd_ne (ne_of_none e nD)]; exact e) hS
      · rintro i x H2 hx rfl
        have hx2 : (ns.map V.int)[i]? = some x := hx
        rw [List.getElem?_map] at hx2
        obtain ⟨n, hn, rfl⟩ := Option.map_eq_some_iff.mp hx2
        refine ⟨rfl, ?_⟩
        refine ⟨_, rfl, n, rfl, _, upd_same, ?_, ?_⟩
        · rw [List.length_map, List.length_map, List.length_take, sizeLine_eq]
          omega
        · rw [upd_upd, List.take_add_one, hn, List.map_append, List.map_append]
          rfl
      · rintro H2 rfl
        refine ⟨_, rfl, _, _, rfl, rfl, by show 2 ≤ sizeLine; rw [sizeLine_eq]; decide, fun p np => ?_⟩
        have eD : (upd H' D (.lst (((ns.take (ns.map V.int).length).map fun n => if n < 0 then -n else n).map V.int))) D = _ := upd_same
        have nDp : D ≠ p := ne_of_none eD np
        have np0 : H' p = none := by
          rw [← np, upd_ne (Ne.symm nDp)]
        refine q _ p D (fun b o e => ?_) np0 nD ⟨⟨z + 1, (ns.take (ns.map V.int).length).map fun n => if n < 0 then -n else n, upd_same, ?_, ?_, ?_, by omega, by omega⟩, Ne.symm nDp⟩
        · rw [upd_ne (ne_of_none e np0), upd_ne (ne_of_none e nD)]
          exact e
        · rw [upd_ne nDp]
          exact upd_same
        · rw [List.length_map, List.length_take]
          omega
        · intro m hm
          obtain ⟨n, _, rfl⟩ := List.mem_map.mp hm
          exact abs_nn n
end
end K12
namespace K12
open PySem PySem.Spec PyProof.Rows L2
theorem seq0 {n : Nat} (h : 0 < n) : seqIndex? 0 n = some 0 := by
  unfold seqIndex?
  simp [h]
theorem ix0 {n : Nat} (h : 0 < n) : ixN n 0 = some 0 := by
  unfold ixN
  simp [h]
section
variable {P : Program} {w : World} {K : PySem.W.Frag} {mg : Str → Option Value} {base : Heap}
/-! ### _law_draw -/
def spDraw : Sp := fun vs H Q _ => ∃ (p c : Addr) (m : Nat), vs = [.ref p, .int (m : Int)] ∧ m < 1000000000 ∧ StateAt H p c ∧
  ∀ H' (r : Nat), (m = 0 → r = 0) → (0 < m → r < m) → StateAt H' p c → Drawn p c H H' → Q (.int (r : Int)) H'
theorem ok_draw {f : Addr} {fd : FuncData} (F : Fun K "_law_draw" "_law_draw" sDraw f fd) (ml : mg "len" = none) (mi : mg "int" = none) : FnOk P w K mg base CX0 1 f fd ["state", "many"] spDraw := by
  refine F.ok scDraw (fun vs H Q E h => ?_) (fun cdv A outer s H vs Q E hr h => ?_)
  · obtain ⟨p, c, m, rfl, _⟩ := h
    rfl
  · obtain ⟨p, c, m, rfl, hm, ⟨⟨seed, ms, hp, hc, hl, h0, s0, s1⟩, npc⟩, q⟩ := h
    refine ⟨_, (pss_cons (ps_if (pt_cmpR op_lt (pv 1) pe_int (nomark _)) (pss_one (ps_ret pe_int)) pss_nil)
      (pss_cons (ps_set (i := 2) scDraw.nd rfl (.inl rfl) (pe_ix ix_list (pv 0) pe_int (fun _ _ => rfl)))
      (pss_cons (ps_while PassesOwn.never (PW.pt (pw_and (pt_cmpR op_gt (pe_callB call_len_seq (by rfl) ml PySem.boot_len (pa_cons (pv 2) pa_nil)) pe_int (nomark _)) (pw_and1 (pt_cmpR op_eq (pe_ix ix_list (pv 2) pe_int (fun _ _ => rfl)) pe_int (nomark _)))))
        (pss_one (ps_expr (pe_bm PySem.F.plainAttrs_list PySem.F.slot_list_pop PySem.F.type_list_pop mt_popAt (pv 2) (pa_cons pe_int pa_nil)))))
      (pss_cons (ps_if (pt_cmpR op_gt (pe_callB call_len_seq (by rfl) ml PySem.boot_len (pa_cons (pv 2) pa_nil)) pe_int (nomark _))
        (pss_cons (ps_set (i := 3) scDraw.nd rfl (.inl rfl) (pe_ix ix_list (pv 2) pe_int (fun _ _ => rfl)))
      (pss_cons (ps_asg (pe_op op_fdiv (pv 3) (pv 1)) (pg_sub (pv 2) pe_int set_list))
      (pss_one (ps_ret (pe_op op_mod (pe_callTy call_int1 (by rfl) mi (by decide +kernel) (pa_cons (pv 3) pa_nil)) (pv 1)))))) pss_nil)
      (pss_cons (ps_set (i := 4) scDraw.nd rfl (.inl rfl) (pe_op op_mod (pe_callTy call_int1 (by rfl) mi (by decide +kernel) (pa_cons (pe_op op_add (pe_op op_mul (pe_ix ix_list (pv 0) pe_int (fun _ _ => rfl)) pe_int) pe_int) pa_nil)) pe_int))
      (pss_cons (ps_asg (pv 4) (pg_sub (pv 0) pe_int set_list))
      (pss_one (ps_ret (pe_op op_mod (pe_callTy call_int1 (by rfl) mi (by decide +kernel) (pa_cons (pe_op op_fdiv (pv 4) pe_int) pa_nil)) (pv 1)))))))))), ?_⟩
    refine ⟨_, rfl, _, _, rfl, rfl, _, rfl, ite2 (fun h1 => ?_) (fun h1 => ?_)⟩
    · have m0 : m = 0 := by
        have := of_decide_eq_true h1
        omega
      exact q H 0 (fun _ => rfl) (fun z => by omega) ⟨⟨seed, ms, hp, hc, hl, h0, s0, s1⟩, npc⟩ drawn_refl
    have mp : 0 < m := by
      have : ¬ ((m : Nat) : Int) < 1 := fun z => h1 (decide_eq_true z)
      omega
    refine ⟨_, rfl, p, _, 0, _, rfl, rfl, SqL.of hp, atI_nat (j := 0) rfl, ?_⟩
    -- while
    refine ⟨fun n σ H' => ∃ ks : List Int, σ = [some (.ref p), some (.int (m : Int)), some (.ref c), none, none] ∧ n = ks.length ∧ Drawn p c H H' ∧ H' p = some (.lst [.ref c, .int seed]) ∧ H' c = some (.lst (ks.map V.int)) ∧ ks.length ≤ 63 ∧ (∀ k ∈ ks, 0 ≤ k),
      ⟨ms.length, ms, rfl, rfl, drawn_refl, hp, hc, hl, h0⟩, ?_⟩
    rintro n σ H' ⟨ks, rfl, rfl, dr, hp', hc', hl', h0'⟩
    refine ⟨_, rfl, c, _, rfl, .inl (SqL.of hc'), _, _, rfl, rfl, _, rfl, ite2 (fun h2 => ?_) (fun h2 => ?_)⟩
    · obtain ⟨k, r, rfl⟩ : ∃ k r, ks = k :: r := by
        cases ks with
        | nil =>
          have := of_decide_eq_true h2
          exact absurd this (by decide)
        | cons k r => exact ⟨k, r, rfl⟩
      refine ⟨_, rfl, c, _, 0, .int k, rfl, rfl, SqL.of hc', atI_nat (j := 0) rfl, rfl, _, rfl, ite2 (fun h3 => ?_) (fun h3 => ?_)⟩
      · refine ⟨fun σ' H2 => ∃ n', n' < (k :: r).length ∧ ∃ ks : List Int, σ' = [some (.ref p), some (.int (m : Int)), some (.ref c), none, none] ∧ n' = ks.length ∧ Drawn p c H H2 ∧ H2 p = some (.lst [.ref c, .int seed]) ∧ H2 c = some (.lst (ks.map V.int)) ∧ ks.length ≤ 63 ∧ (∀ k ∈ ks, 0 ≤ k), fun _ _ z => z, ?_⟩
        refine ⟨_, rfl, .inl ⟨rfl, _, SqL.of hc'⟩, c, _, 0, 0, .int k, rfl, rfl, hc', by decide, by decide, ?_, rfl, ?_⟩
        · show seqIndex? 0 ((k :: r).map V.int).length = some 0
          show seqIndex? 0 (((k :: r).map V.int).length) = some 0
          exact seq0 (by rw [List.length_map, List.length_cons]; omega)
        · refine ⟨r.length, by show r.length < r.length + 1; omega, r, rfl, rfl, ?_, ?_, ?_, ?_, ?_⟩
          · intro b h1 h2
            rw [upd_ne h2]
            exact dr b h1 h2
          · rw [upd_ne npc]
            exact hp'
          · exact upd_same
          · have : r.length + 1 ≤ 63 := hl'
            omega
          · exact fun x hx => h0' x (List.mem_cons_of_mem _ hx)
      · have kne : k ≠ 0 := fun z => h3 (by rw [z]; rfl)
        have k1 := h0' k List.mem_cons_self
        refine ⟨_, rfl, c, _, rfl, .inl (SqL.of hc'), _, _, rfl, rfl, _, rfl, ite2 (fun _ => ?_) (fun z => absurd h2 z)⟩
        refine ⟨_, rfl, c, _, 0, .int k, rfl, rfl, SqL.of hc', atI_nat (j := 0) rfl, ?_⟩
        refine ⟨_, rfl, _, rfl, k, (m : Int), rfl, rfl, ⟨by omega, by omega⟩, _, rfl, c, _, 0, 0, rfl, rfl, hc', ix0 (by rw [List.length_map, List.length_cons]; omega), ?_⟩
        refine ⟨_, rfl, .inl ⟨_, rfl, _, rfl, _, _, rfl, rfl, by show (0 : Int) < (m : Int); omega, ?_⟩⟩
        have e1 : k % (m : Int) = (((k % (m : Int)).toNat : Nat) : Int) := (Int.toNat_of_nonneg (Int.emod_nonneg _ (by omega))).symm
        have e2 := Int.emod_lt_of_pos k (show (0 : Int) < (m : Int) by omega)
        show Q (V.int (k % (m : Int))) _
        rw [e1]
        refine q _ _ (fun z => by omega) (fun _ => by omega) ⟨⟨seed, (k / (m : Int)) :: r, ?_, ?_, hl', ?_, s0, s1⟩, npc⟩ ?_
        · rw [upd_ne npc]
          exact hp'
        · exact upd_same
        · intro x hx
          rcases List.mem_cons.mp hx with rfl | hx
          · exact Int.ediv_nonneg k1 (by omega)
          · exact h0' x (List.mem_cons_of_mem _ hx)
        · intro b z1 z2
          rw [upd_ne z2]
          exact dr b z1 z2
    · have e0 : ks = [] := by
        cases ks with
        | nil => rfl
        | cons k r => exact absurd (decide_eq_true (show (0 : Int) < (((k :: r).map V.int).length : Int) by rw [List.length_map, List.length_cons]; omega)) h2
      subst e0
      refine ⟨_, rfl, c, _, rfl, .inl (SqL.of hc'), _, _, rfl, rfl, _, rfl, ite2 (fun z => absurd z h2) (fun _ => ?_)⟩
      refine ⟨_, rfl, p, _, 1, _, rfl, rfl, SqL.of hp', atI_nat (j := 1) rfl, _, _, rfl, rfl, .inl ⟨by omega, by omega⟩, _, _, rfl, rfl, .inl ⟨_, rfl, _, _, rfl, rfl, by show (0 : Int) < 2147483647; decide, ?_⟩⟩
      have b0 := Int.emod_nonneg (seed * 48271 + 12345) (show (2147483647 : Int) ≠ 0 by decide)
      have b1 := Int.emod_lt_of_pos (seed * 48271 + 12345) (show (0 : Int) < 2147483647 by decide)
      refine ⟨_, rfl, _, rfl, p, _, 1, 1, rfl, rfl, hp', rfl, ?_⟩
      refine ⟨_, rfl, _, _, rfl, rfl, ⟨by show (0 : Int) < 64; decide, by show (64 : Int) < 1073741824; decide⟩, .inl ⟨_, rfl, _, rfl, _, _, rfl, rfl, by show (0 : Int) < (m : Int); omega, ?_⟩⟩
      have e1 : (seed * 48271 + 12345) % 2147483647 / 64 % (m : Int) = ((((seed * 48271 + 12345) % 2147483647 / 64 % (m : Int)).toNat : Nat) : Int) := (Int.toNat_of_nonneg (Int.emod_nonneg _ (by omega))).symm
      have e2 := Int.emod_lt_of_pos ((seed * 48271 + 12345) % 2147483647 / 64) (show (0 : Int) < (m : Int) by omega)
      show Q (V.int ((seed * 48271 + 12345) % 2147483647 / 64 % (m : Int))) _
      rw [e1]
      refine q _ _ (fun z => by omega) (fun _ => by omega) ⟨⟨(seed * 48271 + 12345) % 2147483647, [], upd_same, ?_, by decide, (fun x hx => nomatch hx), b0, by omega⟩, npc⟩ ?_
      · rw [upd_ne (Ne.symm npc)]
        exact hc'
      · intro b z1 z2
        rw [upd_ne z1]
        exact dr b z1 z2
/-! ### _law_pick -/
def spPick : Sp := fun vs H Q _ => ∃ (p c a : Addr) (xs : List V), vs = [.ref p, .ref a] ∧ H a = some (.lst xs) ∧ a ≠ p ∧ a ≠ c ∧ 0 < xs.length ∧ xs.length < 1000 ∧ StateAt H p c ∧
  ∀ H' v, v ∈ xs → StateAt H' p c → Drawn p c H H' → Q v H'
theorem ok_pick {f fD : Addr} {fd fdD : FuncData} (F : Fun K "_law_pick" "_law_pick" sPick f fd) (GD : FnOk P w K mg base CX0 1 fD fdD ["state", "many"] spDraw) (bD : Binds K fdD ["state", "many"] []) (gD : mg "_law_draw" = some (.ref fD)) (kD : PySem.W.keepIn K (.ref fD) = true) (ml : mg "len" = none) :
    FnOk P w K mg base CX0 2 f fd ["state", "row"] spPick := by
  refine F.ok scPick (fun vs H Q E h => ?_) (fun cdv A outer s H vs Q E hr h => ?_)
  · obtain ⟨p, c, a, xs, rfl, _⟩ := h
    rfl
  · obtain ⟨p, c, a, xs, rfl, ha, np, nc, l0, l1, st, q⟩ := h
    refine ⟨_, (pss_one (ps_ret (pe_ix ix_list (pv 1) (pe_call GD hr (by rfl) gD kD bD .nil pass0 (pa_cons (pv 0) (pa_cons (pe_callB call_len_seq (by rfl) ml PySem.boot_len (pa_cons (pv 1) pa_nil)) pa_nil))) (fun _ _ => rfl)))), ?_⟩
    refine ⟨_, rfl, _, rfl, _, rfl, a, _, rfl, .inl (SqL.of ha), p, c, xs.length, rfl, by omega, st, fun H' r _ hr2 st' dr => ?_⟩
    have lt := hr2 l0
    have ha' : H' a = some (.lst xs) := (dr a np nc).trans ha
    refine ⟨a, _, _, xs[r], rfl, rfl, SqL.of ha', atI_nat (List.getElem?_eq_getElem lt), ?_⟩
    exact q H' _ (List.getElem_mem lt) st' dr
end
end K12
namespace K12
open PySem PySem.Spec PyProof.Rows L2
theorem zl : 2000000 ≤ sizeLine := by
  rw [sizeLine_eq]
  decide
theorem same_new {a : Addr} {H : Hp} {o : HO} (e : H a = none) : Same H (upd H a o) := fun b o' e' => by
  rw [upd_ne (ne_of_none e' e)]
  exact e'
theorem same_upd {a : Addr} {H H1 : Hp} {o : HO} (e : H a = none) (s : Same H H1) : Same H (upd H1 a o) := fun b o' e' => by
  rw [upd_ne (ne_of_none e' e)]
  exact s b o' e'
theorem same_trans {H H1 H2 : Hp} (a : Same H H1) (b : Same H1 H2) : Same H H2 := fun x o e => b x o (a x o e)
theorem same_none {H H' : Hp} {a : Addr} (s : Same H H') (n : H' a = none) : H a = none := by
  cases e : H a with
  | none => rfl
  | some o =>
    rw [s a o e] at n
    cases n
theorem same_refl {H : Hp} : Same H H := fun _ _ e => e
theorem ixN_nat {n j : Nat} (h : j < n) : ixN n (j : Int) = some j := by
  unfold ixN
  rw [if_pos (by omega), if_pos (by omega), Int.toNat_natCast]
theorem atI_s {α : Type} {xs : List α} {j : Nat} {v : α} (h : xs[j + 1]? = some v) : atI xs ((j : Int) + 1) = some v := by
  have := atI_nat h
  rw [Int.natCast_add] at this
  exact this
theorem atI_end {α : Type} {xs : List α} {v : α} (h : xs[xs.length - 1]? = some v) : atI xs (-1) = some v := by
  have l := (List.getElem?_eq_some_iff.mp h).1
  have e : ixN xs.length (-1) = some (xs.length - 1) := by
    unfold ixN
    rw [if_neg (by decide), if_pos (by omega)]
    congr 1
    omega
  unfold atI
  rw [e]
  exact h
def lnV : Option Str → V
  | none => .non
  | some s => .str s
theorem scal_ln (x : Option Str) (y : Str) : scal (lnV x) (.str y) = true := by
  cases x <;> rfl
theorem dec_ln (x : Option Str) (y : Str) : decide (lnV x = V.str y) = decide (x = some y) := by
  cases x with
  | none => rfl
  | some s =>
    rw [Bool.eq_iff_iff]
    simp [lnV]
theorem get_map {α β : Type} {l : List α} {i : Nat} {x : α} (f : α → β) (h : l[i]? = some x) : (l.map f)[i]? = some (f x) := by
  rw [List.getElem?_map, h]
  rfl
theorem map_get {α β : Type} {l : List α} {i : Nat} {y : β} {f : α → β} (h : (l.map f)[i]? = some y) : ∃ x, l[i]? = some x ∧ f x = y := by
  rw [List.getElem?_map] at h
  exact Option.map_eq_some_iff.mp h
theorem flat_rep {α : Type} (n : Nat) (v : α) : (List.replicate n [v]).flatten = (List.range n).map fun _ => v := by
  induction n with
  | zero => rfl
  | succ n ih =>
    rw [List.replicate_succ', List.flatten_append, ih, List.range_succ, List.map_append]
    rfl
theorem upd_self {H : Hp} {a : Addr} {o : HO} (h : H a = some o) : upd H a o = H := by
  funext b
  by_cases e : b = a
  · rw [e, upd_same, h]
  · rw [upd_ne e]
theorem to_dec {R : Bool → Hp → Prop} {H : Hp} {x y : Bool} (e : x = y) (h : R y H) : R x H := e ▸ h
/-- a test of two parts; the parts may lay new objects -/
theorem and_dec {tA tB : TT} {σ : L2.St} {H : Hp} {Q : Bool → Hp → Prop} {p q : Prop} [Decidable p] [Decidable q] (hA : ∀ R : Bool → Hp → Prop, (∀ H1, Same H H1 → R (decide p) H1) → tA σ H R)
    (hB : p → ∀ H1, Same H H1 → ∀ R : Bool → Hp → Prop, (∀ H2, Same H1 H2 → R (decide q) H2) → tB σ H1 R) (h : ∀ H2, Same H H2 → Q (decide (p ∧ q)) H2) : tAnd tA tB σ H Q := by
  refine hA _ fun H1 s1 => ?_
  by_cases hp : p
  · show if decide p = true then tB σ H1 Q else Q false H1
    rw [decide_eq_true hp]
    refine hB hp H1 s1 Q fun H2 s2 => ?_
    have := h H2 (same_trans s1 s2)
    rw [show decide (p ∧ q) = decide q from decide_eq_decide.mpr ⟨fun z => z.2, fun z => ⟨hp, z⟩⟩] at this
    exact this
  · show if decide p = true then tB σ H1 Q else Q false H1
    rw [decide_eq_false hp]
    have := h H1 s1
    rw [decide_eq_false (fun z => hp z.1)] at this
    exact this
theorem or_dec {tA tB : TT} {σ : L2.St} {H : Hp} {Q : Bool → Hp → Prop} {p q : Prop} [Decidable p] [Decidable q] (hA : ∀ R : Bool → Hp → Prop, (∀ H1, Same H H1 → R (decide p) H1) → tA σ H R)
    (hB : ¬ p → ∀ H1, Same H H1 → ∀ R : Bool → Hp → Prop, (∀ H2, Same H1 H2 → R (decide q) H2) → tB σ H1 R) (h : ∀ H2, Same H H2 → Q (decide (p ∨ q)) H2) : tOr tA tB σ H Q := by
  refine hA _ fun H1 s1 => ?_
  by_cases hp : p
  · show if decide p = true then Q true H1 else tB σ H1 Q
    rw [decide_eq_true hp]
    have := h H1 s1
    rw [decide_eq_true (Or.inl hp)] at this
    exact this
  · show if decide p = true then Q true H1 else tB σ H1 Q
    rw [decide_eq_false hp]
    refine hB hp H1 s1 Q fun H2 s2 => ?_
    have := h H2 (same_trans s1 s2)
    rw [show decide (p ∨ q) = decide q from decide_eq_decide.mpr ⟨fun z => z.resolve_left hp, fun z => .inr z⟩] at this
    exact this
theorem dec_lt {α : Type} {i : Nat} {l : List α} {f : α → V} : decide ((i : Int) < ((l.map f).length : Int)) = decide (i < l.length) := by
  rw [List.length_map]
  exact decide_eq_decide.mpr Int.ofNat_lt
theorem dec_nat {i j : Nat} : decide ((V.int (i : Int)) = V.int (j : Int)) = decide (i = j) := by
  refine decide_eq_decide.mpr ⟨fun z => ?_, fun z => by rw [z]⟩
  have := V.int.inj z
  omega
end K12
/-! what stands in the heap: lines, lists of lines, edges -/
namespace K12
open PySem PySem.Spec PyProof.Rows L2 TR QR
open GX (KT kd kdAll RS TSt dNO KeysAt)
variable [Sg]
/-- values that are lines -/
def LAt (K : PySem.W.Frag) (H : Hp) (F : List (Nat × V)) : Prop := ∀ e ∈ F, Dp K H e.2 (encL e.1)
/-- a dict of lines with lists of lines -/
def EdgesAt (P : Program) (w : World) (K : PySem.W.Frag) (H : Hp) (r : Addr) (ks : List Nat) (g : Nat → List Nat) : Prop :=
  ∃ es : List (Nat × Addr × V), Rd H r (dNO ktL P w r es) ∧ KeysAt ktL K H es ∧ es.map (·.1) = ks ∧ ∀ e ∈ es, ∃ (l : Addr) (F : List (Nat × V)), e.2.2 = .ref l ∧ SqL K H l (F.map (·.2)) ∧ LAt K H F ∧ F.map (·.1) = g e.1
/-- a dict of lines with numbers -/
def NumsAt (P : Program) (w : World) (K : PySem.W.Frag) (H : Hp) (r : Addr) (ks : List Nat) (m : Nat → Nat) : Prop :=
  ∃ es : List (Nat × Addr × V), Rd H r (dNO ktL P w r es) ∧ KeysAt ktL K H es ∧ es.map (·.1) = ks ∧ ∀ e ∈ es, e.2.2 = .int (m e.1 : Int)
section
variable {P : Program} {w : World} {K : PySem.W.Frag} {H H' : Hp}
theorem kd_L (k : Nat) : kd (encL k) = true := ktL.kd k
theorem ln_ts {v : V} {k : Nat} (s : TSt K H H') (h : Dp K H v (encL k)) : Dp K H' v (encL k) := GX.Dp.tst s _ _ (kd_L k) h
theorem LAt.ts {F : List (Nat × V)} (s : TSt K H H') (h : LAt K H F) : LAt K H' F := fun e he => ln_ts s (h e he)
theorem EdgesAt.rs {r : Addr} {ks : List Nat} {g : Nat → List Nat} (s : RS H H') (h : EdgesAt P w K H r ks g) : EdgesAt P w K H' r ks g := by
  obtain ⟨es, h1, h2, h3, h4⟩ := h
  refine ⟨es, s.dn h1, h2.ts s.tst, h3, fun e he => ?_⟩
  obtain ⟨l, F, e1, e2, e3, e4⟩ := h4 e he
  exact ⟨l, F, e1, s.sql e2, e3.ts s.tst, e4⟩
theorem NumsAt.rs {r : Addr} {ks : List Nat} {m : Nat → Nat} (s : RS H H') (h : NumsAt P w K H r ks m) : NumsAt P w K H' r ks m := by
  obtain ⟨es, h1, h2, h3, h4⟩ := h
  exact ⟨es, s.dn h1, h2.ts s.tst, h3, h4⟩
theorem ln_ref {v : V} {k : Nat} (h : Dp K H v (encL k)) : ∃ a, v = .ref a := by
  unfold encL at h
  cases h with
  | tup h1 h2 => exact ⟨_, rfl⟩
theorem find_of {es : List (Nat × Addr × V)} {k : Nat} (h : k ∈ es.map (·.1)) : ∃ e, (es.find? fun e => decide (e.1 = k)) = some e ∧ e ∈ es ∧ e.1 = k := by
  cases e : es.find? fun e => decide (e.1 = k) with
  | none =>
    rw [List.find?_eq_none] at e
    obtain ⟨x, hx, hk⟩ := List.mem_map.mp h
    exact absurd (decide_eq_true hk) (e x hx)
  | some x => exact ⟨x, rfl, List.mem_of_find?_eq_some e, of_decide_eq_true (List.find?_some (p := fun x : Nat × Addr × V => decide (x.1 = k)) e)⟩
theorem find_no {es : List (Nat × Addr × V)} {k : Nat} (h : k ∉ es.map (·.1)) : (es.find? fun e => decide (e.1 = k)) = none := by
  rw [List.find?_eq_none]
  intro x hx hk
  exact h (List.mem_map.mpr ⟨x, hx, of_decide_eq_true hk⟩)
theorem is_some {es : List (Nat × Addr × V)} {k : Nat} : (es.find? fun e => decide (e.1 = k)).isSome = decide (k ∈ es.map (·.1)) := by
  by_cases h : k ∈ es.map (·.1)
  · obtain ⟨e, h1, _⟩ := find_of h
    rw [h1, decide_eq_true h]
    rfl
  · rw [find_no h, decide_eq_false h]
    rfl
/-- the list behind a key, or an empty one -/
theorem EdgesAt.get {r : Addr} {ks : List Nat} {g : Nat → List Nat} (h : EdgesAt P w K H r ks g) (hg : ∀ k, k ∉ ks → g k = []) (k : Nat) : ∃ es : List (Nat × Addr × V), Rd H r (dNO ktL P w r es) ∧ KeysAt ktL K H es ∧
    ∀ n : Addr, SqL K H n [] → ∃ (l : Addr) (F : List (Nat × V)), (((es.find? fun e => decide (e.1 = k)).map (·.2.2)).getD (.ref n)) = .ref l ∧ SqL K H l (F.map (·.2)) ∧ LAt K H F ∧ F.map (·.1) = g k := by
  obtain ⟨es, h1, h2, h3, h4⟩ := h
  refine ⟨es, h1, h2, fun n hn => ?_⟩
  by_cases hk : k ∈ es.map (·.1)
  · obtain ⟨e, e1, e2, e3⟩ := find_of hk
    obtain ⟨l, F, f1, f2, f3, f4⟩ := h4 e e2
    exact ⟨l, F, by rw [e1]; exact f1, f2, f3, by rw [f4, e3]⟩
  · refine ⟨n, [], by rw [find_no hk]; rfl, hn, (fun _ h => nomatch h), ?_⟩
    rw [hg k (by rw [← h3]; exact hk)]
    rfl
theorem dst_keys {es : List (Nat × Addr × V)} {k : Nat} {b : Addr} {v : V} : (GX.dSt es k b v).map (·.1) = if k ∈ es.map (·.1) then es.map (·.1) else es.map (·.1) ++ [k] := by
  unfold GX.dSt
  rw [is_some]
  by_cases h : k ∈ es.map (·.1)
  · rw [if_pos (decide_eq_true h), if_pos h, List.map_map]
    refine List.map_congr_left fun e _ => ?_
    show (if e.1 = k then (e.1, e.2.1, v) else e).1 = e.1
    split <;> rfl
  · rw [if_neg (by simpa using h), if_neg h, List.map_append]
    rfl
theorem dst_mem {es : List (Nat × Addr × V)} {k : Nat} {b : Addr} {v : V} {e : Nat × Addr × V} (h : e ∈ GX.dSt es k b v) : (e.1 = k ∧ e.2.2 = v) ∨ (e ∈ es ∧ e.1 ≠ k) := by
  unfold GX.dSt at h
  rw [is_some] at h
  by_cases hk : k ∈ es.map (·.1)
  · rw [if_pos (decide_eq_true hk)] at h
    obtain ⟨x, hx, rfl⟩ := List.mem_map.mp h
    by_cases e : x.1 = k
    · rw [if_pos e]
      exact .inl ⟨e, rfl⟩
    · rw [if_neg e]
      exact .inr ⟨hx, e⟩
  · rw [if_neg (by simpa using hk)] at h
    rcases List.mem_append.mp h with h | h
    · exact .inr ⟨h, fun e => hk (List.mem_map.mpr ⟨_, h, e⟩)⟩
    · rw [List.mem_singleton.mp h]
      exact .inl ⟨rfl, rfl⟩
theorem dn_ne_tup {r : Addr} {es : List (Nat × Addr × V)} : (∀ xs, dNO ktL P w r es ≠ .tup xs) ∧ ∀ p xs, dNO ktL P w r es ≠ .frz p (.tup xs) := ⟨(fun _ h => nomatch h), (fun _ _ h => nomatch h)⟩
theorem ts_dict {r : Addr} {es : List (Nat × Addr × V)} {o : HO} (h : H r = some (dNO ktL P w r es)) : TSt K H (upd H r o) := GX.tst_upd h dn_ne_tup.1 dn_ne_tup.2
theorem ts_lst {r : Addr} {xs : List V} {o : HO} (h : H r = some (.lst xs)) : TSt K H (upd H r o) := GX.tst_upd h (fun _ h => nomatch h) (fun _ _ h => nomatch h)
theorem ts_same (s : Same H H') : TSt K H H' := (GX.rs_same s).tst
theorem ts_new {a : Addr} {o : HO} (h : H a = none) : TSt K H (upd H a o) := ts_same (same_new h)
theorem sq_ts {x : Addr} {ys : List V} (s : TSt K H H') (h : SqT K H x ys) : SqT K H' x ys := s x ys h
end
end K12
namespace K12
open PySem PySem.Spec PyProof.Rows L2 TR QR
open GX (KT kd kdAll RS TSt dNO KeysAt)
variable [Sg]
abbrev sFI : Stmt := topS 20
abbrev nFI : List Str := ["edges", "lines", "order", "seen", "start", "stack", "line", "left", "other"]
theorem scFI : FnScope nFI ["edges", "lines"] (defScope sFI) := ⟨rfl, rfl, rfl, by decide +kernel, rfl, by decide +kernel, by decide +kernel⟩
/-- the stack: lines with a sign -/
def StkAt (K : PySem.W.Frag) (H : Hp) (S : List ((Nat × Bool) × V)) : Prop := ∀ e ∈ S, ∃ (t a : Addr), e.2 = .ref t ∧ SqT K H t [.ref a, .bl e.1.2] ∧ Dp K H (.ref a) (encL e.1.1)
theorem StkAt.ts {K : PySem.W.Frag} {H H' : Hp} {S : List ((Nat × Bool) × V)} (s : TSt K H H') (h : StkAt K H S) : StkAt K H' S := fun e he => by
  obtain ⟨t, a, h1, h2, h3⟩ := h e he
  exact ⟨t, a, h1, sq_ts s h2, ln_ts s h3⟩
def trues (S : List ((Nat × Bool) × V)) : Nat := (S.filter fun e => e.1.2).length
theorem trues_app (S T : List ((Nat × Bool) × V)) : trues (S ++ T) = trues S + trues T := by
  unfold trues
  rw [List.filter_append, List.length_append]
/-- in the middle of the walk: the lines in order, the seen ones, the stack -/
structure FJ (P : Program) (w : World) (K : PySem.W.Frag) (H0 H : Hp) (n : Nat) (ao as : Addr) (G : List (Nat × V)) (es : List (Nat × Addr × V)) (S : List ((Nat × Bool) × V)) : Prop where
  sm : Same H0 H
  o0 : H0 ao = none
  s0 : H0 as = none
  eo : H ao = some (.lst (G.map (·.2)))
  ek : H as = some (dNO ktL P w as es)
  la : LAt K H G
  ka : KeysAt ktL K H es
  nd : (es.map (·.1)).Nodup
  kn : ∀ k ∈ es.map (·.1), k < n
  gn : ∀ k ∈ G.map (·.1), k < n
  cnt : G.length + trues S = es.length
  sn : ∀ e ∈ S, e.1.1 < n
  don : ∀ k ∈ es.map (·.1), k ∈ G.map (·.1) ∨ ∃ e ∈ S, e.1 = (k, true)
theorem FJ.ne {P : Program} {w : World} {K : PySem.W.Frag} {H0 H : Hp} {n : Nat} {ao as : Addr} {G : List (Nat × V)} {es : List (Nat × Addr × V)} {S : List ((Nat × Bool) × V)} (f : FJ P w K H0 H n ao as G es S) : ao ≠ as := fun e => by
  have := f.eo
  rw [e, f.ek] at this
  cases this
theorem FJ.le {P : Program} {w : World} {K : PySem.W.Frag} {H0 H : Hp} {n : Nat} {ao as : Addr} {G : List (Nat × V)} {es : List (Nat × Addr × V)} {S : List ((Nat × Bool) × V)} (f : FJ P w K H0 H n ao as G es S) : es.length ≤ n := by
  have := nat_nodup_len f.nd (m := List.range n) fun x hx => List.mem_range.mpr (f.kn x hx)
  rwa [List.length_map, List.length_range] at this
/-- other things change -/
theorem FJ.keep {P : Program} {w : World} {K : PySem.W.Frag} {H0 H H' : Hp} {n : Nat} {ao as : Addr} {G : List (Nat × V)} {es : List (Nat × Addr × V)} {S : List ((Nat × Bool) × V)} (f : FJ P w K H0 H n ao as G es S) (s : Same H0 H') (t : TSt K H H') (h1 : H' ao = H ao) (h2 : H' as = H as) : FJ P w K H0 H' n ao as G es S :=
  ⟨s, f.o0, f.s0, h1.trans f.eo, h2.trans f.ek, f.la.ts t, f.ka.ts t, f.nd, f.kn, f.gn, f.cnt, f.sn, f.don⟩
theorem FJ.same {P : Program} {w : World} {K : PySem.W.Frag} {H0 H H' : Hp} {n : Nat} {ao as : Addr} {G : List (Nat × V)} {es : List (Nat × Addr × V)} {S : List ((Nat × Bool) × V)} (f : FJ P w K H0 H n ao as G es S) (s : Same H H') : FJ P w K H0 H' n ao as G es S :=
  f.keep (same_trans f.sm s) (ts_same s) (by rw [f.eo, s _ _ f.eo]) (by rw [f.ek, s _ _ f.ek])
section
variable {P : Program} {w : World} {K : PySem.W.Frag} {H0 H : Hp} {n : Nat} {ao as : Addr} {G : List (Nat × V)} {es : List (Nat × Addr × V)} {S : List ((Nat × Bool) × V)} {k : Nat} {v : V}
theorem FJ.popT (f : FJ P w K H0 H n ao as G es (S ++ [((k, true), v)])) {a : Addr} (ha : Dp K H (.ref a) (encL k)) : FJ P w K H0 (upd H ao (.lst ((G ++ [(k, V.ref a)]).map (·.2)))) n ao as (G ++ [(k, V.ref a)]) es S where
  sm := same_upd f.o0 f.sm
  o0 := f.o0
  s0 := f.s0
  eo := upd_same
  ek := (upd_ne (Ne.symm f.ne)).trans f.ek
  la := fun e he => by
    rcases List.mem_append.mp he with h | h
    · exact ln_ts (ts_lst f.eo) (f.la e h)
    · rw [List.mem_singleton.mp h]
      exact ln_ts (ts_lst f.eo) ha
  ka := f.ka.ts (ts_lst f.eo)
  nd := f.nd
  kn := f.kn
  gn := fun x hx => by
    rw [List.map_append] at hx
    rcases List.mem_append.mp hx with h | h
    · exact f.gn x h
    · rw [List.mem_singleton.mp h]
      exact f.sn _ (List.mem_append_right _ List.mem_cons_self)
  cnt := by
    have := f.cnt
    rw [trues_app] at this
    rw [List.length_append]
    have e : trues [((k, true), v)] = 1 := rfl
    rw [e] at this
    simp only [List.length_cons, List.length_nil]
    omega
  sn := fun e he => f.sn e (List.mem_append_left _ he)
  don := fun x hx => by
    rw [List.map_append]
    rcases f.don x hx with h | ⟨e, he, h⟩
    · exact .inl (List.mem_append_left _ h)
    · rcases List.mem_append.mp he with he | he
      · exact .inr ⟨e, he, h⟩
      · rw [List.mem_singleton.mp he] at h
        cases h
        exact .inl (List.mem_append_right _ List.mem_cons_self)
theorem FJ.popF (f : FJ P w K H0 H n ao as G es (S ++ [((k, false), v)])) : FJ P w K H0 H n ao as G es S :=
  ⟨f.sm, f.o0, f.s0, f.eo, f.ek, f.la, f.ka, f.nd, f.kn, f.gn, by
    have := f.cnt
    rw [trues_app] at this
    have e : trues [((k, false), v)] = 0 := rfl
    rw [e] at this
    omega, fun e he => f.sn e (List.mem_append_left _ he), fun x hx => by
    rcases f.don x hx with h | ⟨e, he, h⟩
    · exact .inl h
    · rcases List.mem_append.mp he with he | he
      · exact .inr ⟨e, he, h⟩
      · rw [List.mem_singleton.mp he] at h
        cases h⟩
theorem trues_f : ∀ {T : List ((Nat × Bool) × V)}, (∀ e ∈ T, e.1.2 = false) → trues T = 0
  | [], _ => rfl
  | e :: T, h => by
    have := trues_f fun x hx => h x (List.mem_cons_of_mem _ hx)
    unfold trues at this ⊢
    rw [List.filter_cons, if_neg (by rw [h e List.mem_cons_self]; decide)]
    exact this
/-- a new line is seen; behind it lines without a sign are laid -/
theorem FJ.see (f : FJ P w K H0 H n ao as G es S) (hk : k < n) (nk : k ∉ es.map (·.1)) {a : Addr} (ha : Dp K H (.ref a) (encL k)) : FJ P w K H0 (upd H as (dNO ktL P w as (GX.dSt es k a (.bl true)))) n ao as G (GX.dSt es k a (.bl true)) (S ++ [((k, true), v)]) where
  sm := same_upd f.s0 f.sm
  o0 := f.o0
  s0 := f.s0
  eo := (upd_ne f.ne).trans f.eo
  ek := upd_same
  la := f.la.ts (ts_dict f.ek)
  ka := (GX.st_keys f.ka ha).ts (ts_dict f.ek)
  nd := GX.st_nodup f.nd
  kn := fun x hx => by
    rw [dst_keys, if_neg nk] at hx
    rcases List.mem_append.mp hx with h | h
    · exact f.kn x h
    · rw [List.mem_singleton.mp h]
      exact hk
  gn := f.gn
  cnt := by
    have e1 : (GX.dSt es k a (.bl true)).length = es.length + 1 := by
      have := congrArg List.length (dst_keys (es := es) (k := k) (b := a) (v := .bl true))
      rw [if_neg nk, List.length_append, List.length_map, List.length_map] at this
      exact this
    rw [trues_app, e1, show trues [((k, true), v)] = 1 from rfl]
    have := f.cnt
    omega
  sn := fun e he => by
    rcases List.mem_append.mp he with h | h
    · exact f.sn e h
    · rw [List.mem_singleton.mp h]
      exact hk
  don := fun x hx => by
    rw [dst_keys, if_neg nk] at hx
    rcases List.mem_append.mp hx with h | h
    · rcases f.don x h with h | ⟨e, he, h⟩
      · exact .inl h
      · exact .inr ⟨e, List.mem_append_left _ he, h⟩
    · rw [List.mem_singleton.mp h]
      exact .inr ⟨((k, true), v), List.mem_append_right _ List.mem_cons_self, rfl⟩
theorem FJ.more (f : FJ P w K H0 H n ao as G es S) {T : List ((Nat × Bool) × V)} (h1 : ∀ e ∈ T, e.1.2 = false) (h2 : ∀ e ∈ T, e.1.1 < n) : FJ P w K H0 H n ao as G es (S ++ T) :=
  ⟨f.sm, f.o0, f.s0, f.eo, f.ek, f.la, f.ka, f.nd, f.kn, f.gn, by rw [trues_app, trues_f h1]; exact f.cnt, fun e he => by
    rcases List.mem_append.mp he with h | h
    · exact f.sn e h
    · exact h2 e h, fun x hx => by
    rcases f.don x hx with h | ⟨e, he, h⟩
    · exact .inl h
    · exact .inr ⟨e, List.mem_append_left _ he, h⟩⟩
end
section
variable {P : Program} {w : World} {K : PySem.W.Frag} {mg : Str → Option Value} {base : Heap}
def spFI (P : Program) (w : World) (K : PySem.W.Frag) : Sp := fun vs H Q _ => ∃ (ed ls : Addr) (ks : List Nat) (g : Nat → List Nat) (F : List (Nat × V)) (n : Nat), vs = [.ref ed, .ref ls] ∧ EdgesAt P w K H ed ks g ∧ (∀ k, k ∉ ks → g k = []) ∧ SqL K H ls (F.map (·.2)) ∧ LAt K H F ∧ F.map (·.1) = List.range n ∧ n ≤ 16 ∧ (∀ k j, j ∈ g k → j < n) ∧ (∀ k, (g k).length ≤ 100) ∧
  ∀ H' p (G : List (Nat × V)), Same H H' → H p = none → H' p = some (.lst (G.map (·.2))) → LAt K H' G → (∀ k, k < n → k ∈ G.map (·.1)) → (∀ k ∈ G.map (·.1), k < n) → G.length ≤ n → Q (.ref p) H'
theorem ok_FI {f : Addr} {fd : FuncData} (F : Fun K "finished" "finished" sFI f fd) : FnOk P w K mg base CX0 1 f fd ["edges", "lines"] (spFI P w K) := by
  refine F.ok scFI (fun vs H Q E h => ?_) (fun cdv A outer s H vs Q E hr h => ?_)
  · obtain ⟨ed, ls, ks, g, F, n, rfl, _⟩ := h
    rfl
  · obtain ⟨ed, ls, ks, g, F, n, rfl, hE, hg, hL, hF, hr', hn, ht, hd, q⟩ := h
    have hu := hr.units
    have hu1 := hu_of hr
    have zl := zl
    refine ⟨_, (pss_cons (ps_asg (pe_tup (pa_cons (pe_lst (pa_nil)) (pa_cons ((GX.pe_dnewN (T := ktL))) pa_nil))) (pg_tup (by rfl) (pgs_cons (pg_name (i := 2) scFI.nd rfl (.inl rfl)) (pgs_cons (pg_name (i := 3) scFI.nd rfl (.inr rfl)) pgs_nil))))
      (pss_cons (ps_for PassesOwn.never rfl (pi_list (pv 1)) (pg_name (i := 4) scFI.nd rfl (.inl rfl))
      (pss_cons (ps_set (i := 5) scFI.nd rfl (.inl rfl) (pe_lst (pa_cons (pe_tup (pa_cons (pv 4) (pa_cons (pe_bl) pa_nil))) pa_nil)))
      (pss_one (ps_while PassesOwn.never (pt_truth (pv 5) (by intro _; rfl))
      (pss_cons (ps_asg (pe_bm0 PySem.F.plainAttrs_list PySem.F.slot_list_pop PySem.F.type_list_pop mt_pop (pv 5)) (pg_tup (by rfl) (pgs_cons (pg_name (i := 6) scFI.nd rfl (.inl rfl)) (pgs_cons (pg_name (i := 7) scFI.nd rfl (.inl rfl)) pgs_nil))))
      (pss_one (ps_if (pt_val (pv 7))
      (pss_one (ps_expr (pe_bm PySem.F.plainAttrs_list PySem.F.slot_list_append PySem.F.type_list_append mt_append (pv 2) (pa_cons (pv 6) pa_nil)))) (pss_one (ps_if (pt_cmpR (GX.op_notInN (T := ktL) hu) (pv 6) (pv 3) (by rfl))
      (pss_cons (ps_asg (pe_bl) (pg_sub (pv 3) (pv 6) (GX.set_N (T := ktL) hu)))
      (pss_cons (ps_expr (pe_bm PySem.F.plainAttrs_list PySem.F.slot_list_append PySem.F.type_list_append mt_append (pv 5) (pa_cons (pe_tup (pa_cons (pv 6) (pa_cons (pe_bl) pa_nil))) pa_nil)))
      (pss_one (ps_expr (pe_bm PySem.F.plainAttrs_list PySem.F.slot_list_extend PySem.F.type_list_extend mt_extend (pv 5) (pa_cons (pe_lc (own := [("other", 8)]) (g := gName 8) (tt := tTest (tOp (GX.rNotInN ktL P w K) (tVar 8) (tVar 3))) (te := tTup (tCons (tVar 8) (tCons (tC (.bl false)) tNil))) rfl scFI.nd (pi_list (GX.pe_bmN (T := ktL) PySem.F.plainAttrs_dict PySem.F.slot_dict_get PySem.F.type_dict_get (GX.mt_getN (T := ktL) hu) (pv 0) (pa_cons (pv 6) (pa_cons (pe_lst (pa_nil)) pa_nil)))) (blkOk_by (N := nFI) (sc := defScope sFI) (by decide +kernel)) (fun _ _ _ _ _ => by exact pg_name (i := 8) scFI.nd rfl (.inl rfl)) (fun _ _ _ _ _ => by exact pts_one (pt_cmpR (GX.op_notInN (T := ktL) hu) (pv 8) (pv 3) (by rfl))) (fun _ _ _ _ _ => by exact pe_tup (pa_cons (pv 8) (pa_cons (pe_bl) pa_nil)))) pa_nil)))))) pss_nil)))))))))
      (pss_one (ps_ret (pv 2))))), ?_⟩
    refine ⟨Nat.zero_le _, fun ao no as ns => ⟨by show 2 ≤ sizeLine; omega, fun t0 nt0 => ⟨_, _, rfl, SqT.of upd_same, rfl, _, _, rfl, _, _, rfl, rfl, ?_⟩⟩⟩
    have nas : as ≠ ao := fun e => by rw [e, upd_same] at ns; cases ns
    have s0 : Same H (upd (upd (upd H ao (.lst [])) as (dNO ktL P w as [])) t0 (.tup [.ref ao, .ref as])) := same_trans (same_trans (same_new no) (same_new ns)) (same_new nt0)
    have f0 : FJ P w K H (upd (upd (upd H ao (.lst [])) as (dNO ktL P w as [])) t0 (.tup [.ref ao, .ref as])) n ao as [] [] [] := by
      have e1 : upd (upd H ao (.lst [])) as (dNO ktL P w as []) ao = some (.lst []) := (upd_ne (Ne.symm nas)).trans upd_same
      exact ⟨s0, no, same_none (same_new no) ns, same_new nt0 _ _ e1, same_new nt0 _ _ upd_same, (fun _ h => nomatch h), (fun _ h => nomatch h), List.nodup_nil, (fun _ h => nomatch h), (fun _ h => nomatch h), rfl, (fun _ h => nomatch h), (fun _ h => nomatch h)⟩
    refine ⟨_, rfl, ls, rfl, ⟨_, (GX.rs_same s0).sql hL⟩, for_list (xs := F.map (·.2)) (fun i σ H' => ∃ (y4 y5 y6 y7 : Option V) (G : List (Nat × V)) (es : List (Nat × Addr × V)), σ = [some (.ref ed), some (.ref ls), some (.ref ao), some (.ref as), y4, y5, y6, y7, none] ∧ FJ P w K H H' n ao as G es [] ∧ ∀ k, k < i → k ∈ es.map (·.1))
      ⟨none, none, none, none, [], [], rfl, f0, fun k hk => by omega⟩ ?_ ?_ ?_⟩
    · rintro i σ H' _ ⟨y4, y5, y6, y7, G, es, rfl, f, _⟩
      exact (GX.rs_same f.sm).sql hL
    · rintro i x σ H2 hx ⟨y4, y5, y6, y7, G, es, rfl, f, hi⟩
      obtain ⟨⟨k0, v0⟩, gx, rfl⟩ := map_get hx
      have ek0 : k0 = i := by
        have := congrArg (fun l => l[i]?) hr'
        simp only [List.getElem?_map, gx] at this
        have hi' : i < n := by
          have := (List.getElem?_eq_some_iff.mp gx).1
          have e := congrArg List.length hr'
          rw [List.length_map, List.length_range] at e
          omega
        rw [List.getElem?_range hi'] at this
        exact Option.some.inj this
      subst ek0
      have hin : k0 < n := by
        have := (List.getElem?_eq_some_iff.mp gx).1
        have e := congrArg List.length hr'
        rw [List.length_map, List.length_range] at e
        omega
      have hv0 := hF _ (List.mem_of_getElem? gx)
      obtain ⟨a0, ea0⟩ := ln_ref hv0
      simp only at ea0
      subst ea0
      refine ⟨_, rfl, by show 2 ≤ sizeLine; omega, fun t nt => ⟨by show 1 ≤ sizeLine; omega, fun at' nat => ?_⟩⟩
      have n1 : H2 at' = none := same_none (same_new nt) nat
      have natH : H at' = none := same_none f.sm n1
      have nao : at' ≠ ao := fun e => by rw [e, f.eo] at n1; cases n1
      have naas : at' ≠ as := fun e => by rw [e, f.ek] at n1; cases n1
      have sA : Same H2 (upd (upd H2 t (.tup [.ref a0, .bl false])) at' (.lst [.ref t])) := same_trans (same_new nt) (same_new nat)
      have fA := (f.same sA).more (T := [((k0, false), V.ref t)]) (fun e he => by rw [List.mem_singleton.mp he]) (fun e he => by rw [List.mem_singleton.mp he]; exact hin)
      have kA : StkAt K (upd (upd H2 t (.tup [.ref a0, .bl false])) at' (.lst [.ref t])) [((k0, false), V.ref t)] := fun e he => by
        rw [List.mem_singleton.mp he]
        exact ⟨t, a0, rfl, SqT.of (same_new nat _ _ upd_same), ln_ts (ts_same (same_trans f.sm sA)) hv0⟩
      refine ⟨fun m σ H' => ∃ (y6 y7 : Option V) (G : List (Nat × V)) (es : List (Nat × Addr × V)) (S : List ((Nat × Bool) × V)), σ = [some (.ref ed), some (.ref ls), some (.ref ao), some (.ref as), some (.ref a0), some (.ref at'), y6, y7, none] ∧ m = S.length + 128 * (n - es.length) ∧ FJ P w K H H' n ao as G es S ∧ StkAt K H' S ∧ H' at' = some (.lst (S.map (·.2))) ∧ m ≤ 4000 ∧
          (∀ k, k < k0 → k ∈ es.map (·.1)) ∧ (k0 ∈ es.map (·.1) ∨ ∃ e ∈ S, e.1 = (k0, false)),
        ⟨_, y6, y7, G, es, [((k0, false), V.ref t)], rfl, rfl, fA, kA, upd_same, ?_, hi, .inr ⟨_, List.mem_cons_self, rfl⟩⟩, ?_⟩
      · simp only [List.length_cons, List.length_nil]
        omega
      clear fA kA sA f hi n1 nat
      rintro m σ H3 ⟨y6, y7, G, es, S, rfl, rfl, f, ks3, hat, hm, hi, h0⟩
      refine ⟨_, rfl, _, .inl ⟨_, SqL.of hat, rfl⟩, ite2 (fun c1 => ?_) (fun c1 => ?_)⟩
      · obtain ⟨S', e, rfl⟩ : ∃ S' e, S = S' ++ [e] := by
          rcases List.eq_nil_or_concat S with h | ⟨S', e, h⟩
          · rw [h] at c1
            exact absurd c1 (by decide)
          · exact ⟨S', e, by rw [h]; simp⟩
        obtain ⟨⟨k, b⟩, v⟩ := e
        obtain ⟨t3, a3, ev, ht3, ha3⟩ := ks3 _ (List.mem_append_right _ List.mem_cons_self)
        simp only at ev ht3 ha3
        subst ev
        have hlen : es.length ≤ n := f.le
        have hk : k < n := f.sn _ (List.mem_append_right _ List.mem_cons_self)
        refine ⟨fun σ' H' => ∃ m', m' < (S' ++ [((k, b), V.ref t3)]).length + 128 * (n - es.length) ∧ ∃ (y6 y7 : Option V) (G : List (Nat × V)) (es : List (Nat × Addr × V)) (S : List ((Nat × Bool) × V)), σ' = [some (.ref ed), some (.ref ls), some (.ref ao), some (.ref as), some (.ref a0), some (.ref at'), y6, y7, none] ∧ m' = S.length + 128 * (n - es.length) ∧ FJ P w K H H' n ao as G es S ∧ StkAt K H' S ∧ H' at' = some (.lst (S.map (·.2))) ∧ m' ≤ 4000 ∧
          (∀ k, k < k0 → k ∈ es.map (·.1)) ∧ (k0 ∈ es.map (·.1) ∨ ∃ e ∈ S, e.1 = (k0, false)), fun _ _ z => z, ?_⟩
        have elast : ((S' ++ [((k, b), V.ref t3)]).map (·.2))[((S' ++ [((k, b), V.ref t3)]).map (·.2)).length - 1]? = some (V.ref t3) := by
          rw [List.map_append, List.length_append]
          simp
        have edrop : ((S' ++ [((k, b), V.ref t3)]).map (·.2)).dropLast = S'.map (·.2) := by
          rw [List.map_append]
          simp
        have tsA : TSt K H3 (upd H3 at' (.lst (S'.map (·.2)))) := ts_lst hat
        have fB : FJ P w K H (upd H3 at' (.lst (S'.map (·.2)))) n ao as G es (S' ++ [((k, b), V.ref t3)]) := f.keep (same_upd natH f.sm) tsA (upd_ne (Ne.symm nao)) (upd_ne (Ne.symm naas))
        have kB : StkAt K (upd H3 at' (.lst (S'.map (·.2)))) S' := fun e he => (ks3.ts tsA) e (List.mem_append_left _ he)
        have ha4 := ln_ts tsA ha3
        have ht4 := sq_ts tsA ht3
        have hat4 : upd H3 at' (.lst (S'.map (·.2))) at' = some (.lst (S'.map (·.2))) := upd_same
        refine ⟨_, rfl, .inl ⟨rfl, _, SqL.of hat⟩, at', _, _, rfl, rfl, hat, elast, ?_⟩
        rw [edrop]
        generalize upd H3 at' (.lst (S'.map (·.2))) = H4 at fB kB ha4 ht4 hat4
        clear tsA f ks3 ht3 ha3 hat
        refine ⟨t3, _, rfl, ht4, rfl, _, _, rfl, _, _, rfl, rfl, ?_⟩
        refine ⟨_, rfl, b, rfl, ite2 (fun c2 => ?_) (fun c2 => ?_)⟩
        · subst c2
          refine ⟨_, rfl, .inl ⟨rfl, _, SqL.of fB.eo⟩, _, rfl, ao, _, _, rfl, rfl, fB.eo, ?_, ?_⟩
          · have := fB.cnt
            rw [List.length_map]
            omega
          · have fC := fB.popT ha4
            have tC := ts_lst (K := K) (o := .lst ((G ++ [(k, V.ref a3)]).map (·.2))) fB.eo
            rw [List.map_append] at fC tC
            refine ⟨_, ?_, _, _, G ++ [(k, V.ref a3)], es, S', rfl, rfl, fC, kB.ts tC, (upd_ne nao).trans hat4, ?_, hi, ?_⟩
            · rw [List.length_append]
              simp only [List.length_cons, List.length_nil]
              omega
            · rw [List.length_append] at hm
              omega
            · rcases h0 with h0 | ⟨e, he, h0⟩
              · exact .inl h0
              · rcases List.mem_append.mp he with he | he
                · exact .inr ⟨e, he, h0⟩
                · rw [List.mem_singleton.mp he] at h0
                  cases h0
        · have eb : b = false := by simpa using c2
          subst eb
          refine ⟨_, rfl, _, rfl, as, a3, es, k, rfl, rfl, .inl fB.ek, fB.ka, ha4, _, rfl, ?_⟩
          rw [is_some]
          refine ite2 (fun c3 => ?_) (fun c3 => ?_)
          · have nk : k ∉ es.map (·.1) := by simpa using c3
            have fC := fB.popF
            refine ⟨_, rfl, _, rfl, as, a3, es, k, rfl, rfl, fC.ek, fC.ka, ha4, by omega, ?_⟩
            have fD := fC.see (v := V.ref t3) hk nk ha4
            have ts5 := ts_dict (K := K) (o := dNO ktL P w as (GX.dSt es k a3 (.bl true))) fC.ek
            have el : (GX.dSt es k a3 (.bl true)).length = es.length + 1 := by
              have := congrArg List.length (dst_keys (es := es) (k := k) (b := a3) (v := .bl true))
              rw [if_neg nk, List.length_append, List.length_map, List.length_map] at this
              exact this
            have ek5 : k ∈ (GX.dSt es k a3 (.bl true)).map (·.1) := by
              rw [dst_keys, if_neg nk]
              exact List.mem_append_right _ List.mem_cons_self
            have up5 : ∀ x ∈ es.map (·.1), x ∈ (GX.dSt es k a3 (.bl true)).map (·.1) := fun x hx => by
              rw [dst_keys, if_neg nk]
              exact List.mem_append_left _ hx
            have kC := kB.ts ts5
            have ha5 := ln_ts ts5 ha4
            have hat5 : upd H4 as (dNO ktL P w as (GX.dSt es k a3 (.bl true))) at' = some (.lst (S'.map (·.2))) := (upd_ne naas).trans hat4
            show tSeq _ _ _ _ (upd H4 as (dNO ktL P w as (GX.dSt es k a3 (.bl true))))
            generalize upd H4 as (dNO ktL P w as (GX.dSt es k a3 (.bl true))) = H5 at fD kC ha5 hat5
            generalize GX.dSt es k a3 (.bl true) = es2 at fD el ek5 up5
            refine ⟨_, rfl, .inl ⟨rfl, _, SqL.of hat5⟩, _, rfl, by show 2 ≤ sizeLine; omega, fun t5 nt5 => ?_⟩
            have hat6 := same_new (o := .tup [.ref a3, .bl true]) nt5 _ _ hat5
            refine ⟨at', _, _, rfl, rfl, hat6, by rw [List.length_map]; rw [List.length_append] at hm; omega, ?_⟩
            have sT := same_new (o := .tup [.ref a3, .bl true]) nt5
            have fE : FJ P w K H (upd (upd H5 t5 (.tup [.ref a3, .bl true])) at' (.lst (S'.map (·.2) ++ [V.ref t5]))) n ao as G es2 (S' ++ [((k, true), V.ref t3)]) :=
              (fD.same sT).keep (same_upd natH (fD.same sT).sm) (ts_lst hat6) (upd_ne (Ne.symm nao)) (upd_ne (Ne.symm naas))
            have tsE : TSt K H5 (upd (upd H5 t5 (.tup [.ref a3, .bl true])) at' (.lst (S'.map (·.2) ++ [V.ref t5]))) := (ts_same sT).trans (ts_lst hat6)
            have kE := kC.ts tsE
            have ha6 := ln_ts tsE ha5
            have ht6 : SqT K (upd (upd H5 t5 (.tup [.ref a3, .bl true])) at' (.lst (S'.map (·.2) ++ [V.ref t5]))) t5 [.ref a3, .bl true] := sq_ts (ts_lst hat6) (SqT.of upd_same)
            have hat7 : upd (upd H5 t5 (.tup [.ref a3, .bl true])) at' (.lst (S'.map (·.2) ++ [V.ref t5])) at' = some (.lst (S'.map (·.2) ++ [V.ref t5])) := upd_same
            generalize upd (upd H5 t5 (.tup [.ref a3, .bl true])) at' (.lst (S'.map (·.2) ++ [V.ref t5])) = H7 at fE kE ha6 ht6 hat7
            obtain ⟨esE, hR, hK, hget⟩ := (hE.rs (GX.rs_same fE.sm)).get hg k
            refine ⟨_, rfl, .inl ⟨rfl, _, SqL.of hat7⟩, _, rfl, ⟨ed, esE, rfl, hR⟩, _, rfl, Nat.zero_le _, fun nn hnn => ?_⟩
            have sN := same_new (o := .lst []) hnn
            have hE7 : EdgesAt P w K (upd H7 nn (.lst [])) ed ks g := hE.rs (GX.rs_same (same_trans fE.sm sN))
            have hK' : KeysAt ktL K (upd H7 nn (.lst [])) esE := hK.ts (ts_same sN)
            obtain ⟨es8, hR8, hK8, hget8⟩ := hE7.get hg k
            obtain ⟨l, F2, el2, hl2, hF2, eg2⟩ := hget8 nn (SqL.of upd_same)
            refine ⟨ed, a3, es8, k, .ref nn, rfl, rfl, hR8, hK8, ln_ts (ts_same sN) ha6, l, el2, ⟨_, hl2⟩, fun D nD => ?_⟩
            have fG := fE.same sN
            have nDH : H D = none := same_none fG.sm nD
            have nDat : D ≠ at' := fun e => by
              rw [e, sN _ _ hat7] at nD
              cases nD
            have lF2 : F2.length ≤ 100 := by
              have := hd k
              rw [← eg2, List.length_map] at this
              exact this
            refine lc_list (xs := F2.map (·.2)) (fun j H9 => ∃ T : List ((Nat × Bool) × V), Same (upd H7 nn (.lst [])) H9 ∧ H9 D = some (.lst (T.map (·.2))) ∧ StkAt K H9 T ∧ (∀ e ∈ T, e.1.2 = false) ∧ (∀ e ∈ T, e.1.1 < n) ∧ T.length ≤ j) ⟨[], same_new nD, upd_same, (fun _ h => nomatch h), (fun _ h => nomatch h), (fun _ h => nomatch h), Nat.zero_le _⟩ ?_ ?_ ?_
            · rintro j H9 _ ⟨T, s9, _⟩
              exact (GX.rs_same s9).sql hl2
            · rintro j x H9 hx ⟨T, s9, eD, kT, b1, b2, lT⟩
              obtain ⟨⟨k8, v8⟩, g8, rfl⟩ := map_get hx
              have m8 := List.mem_of_getElem? g8
              have hj8 : j < F2.length := (List.getElem?_eq_some_iff.mp g8).1
              have h8 := ln_ts (ts_same s9) (hF2 _ m8)
              obtain ⟨a8, e8⟩ := ln_ref h8
              simp only at e8
              subst e8
              have n8 : k8 < n := ht k k8 (by rw [← eg2]; exact List.mem_map.mpr ⟨_, m8, rfl⟩)
              have f9 := fG.same s9
              refine ⟨rfl, _, rfl, _, rfl, as, a8, es2, k8, rfl, rfl, .inl f9.ek, f9.ka, h8, _, rfl, ite2 (fun _ => ?_) (fun _ => ?_)⟩
              · refine ⟨_, rfl, by show 2 ≤ sizeLine; omega, fun t9 nt9 => ⟨_, same_new nt9 _ _ eD, by rw [List.length_map]; omega, T ++ [((k8, false), V.ref t9)], ?_, ?_, ?_, ?_, ?_, ?_⟩⟩
                · exact same_upd nD (same_trans s9 (same_new nt9))
                · rw [upd_same, List.map_append]
                  rfl
                · have tt := (ts_new (K := K) (o := .tup [.ref a8, .bl false]) nt9).trans (ts_lst (K := K) (o := .lst (T.map (·.2) ++ [V.ref t9])) (same_new (o := .tup [.ref a8, .bl false]) nt9 _ _ eD))
                  intro e he
                  rcases List.mem_append.mp he with he | he
                  · exact (kT.ts tt) e he
                  · rw [List.mem_singleton.mp he]
                    exact ⟨t9, a8, rfl, sq_ts (ts_lst (same_new nt9 _ _ eD)) (SqT.of upd_same), ln_ts tt h8⟩
                · intro e he
                  rcases List.mem_append.mp he with he | he
                  · exact b1 e he
                  · rw [List.mem_singleton.mp he]
                · intro e he
                  rcases List.mem_append.mp he with he | he
                  · exact b2 e he
                  · rw [List.mem_singleton.mp he]
                    exact n8
                · rw [List.length_append]
                  exact Nat.succ_le_succ lT
              · exact ⟨T, s9, eD, kT, b1, b2, by omega⟩
            · rintro H9 ⟨T, s9, eD, kT, b1, b2, lT⟩
              rw [List.length_map] at lT
              have hat9 := s9 _ _ (sN _ _ hat7)
              have f9 := fG.same s9
              refine ⟨at', D, _, _, rfl, rfl, hat9, eD, ?_, ?_⟩
              · rw [List.length_append, List.length_map, List.length_map]
                rw [List.length_append] at hm
                simp only [List.length_cons, List.length_nil] at hm ⊢
                omega
              · have tZ := ts_lst (K := K) (o := .lst (S'.map (·.2) ++ [V.ref t5] ++ T.map (·.2))) hat9
                have fH := (f9.keep (H' := upd H9 at' (.lst (S'.map (·.2) ++ [V.ref t5] ++ T.map (·.2)))) (same_upd natH f9.sm) tZ (upd_ne (Ne.symm nao)) (upd_ne (Ne.symm naas))).more b1 b2
                have fH' : FJ P w K H (upd H9 at' (.lst (S'.map (·.2) ++ [V.ref t5] ++ T.map (·.2)))) n ao as G es2 (S' ++ [((k, true), V.ref t5)] ++ T) :=
                  ⟨fH.sm, fH.o0, fH.s0, fH.eo, fH.ek, fH.la, fH.ka, fH.nd, fH.kn, fH.gn, by
                    have := fH.cnt
                    rw [trues_app, trues_app] at this ⊢
                    exact this, fun e he => by
                    rcases List.mem_append.mp he with he | he
                    · rcases List.mem_append.mp he with he | he
                      · exact fH.sn e (List.mem_append_left _ (List.mem_append_left _ he))
                      · rw [List.mem_singleton.mp he]
                        exact hk
                    · exact b2 e he, fun x hx => by
                    rcases fH.don x hx with h | ⟨e, he, h⟩
                    · exact .inl h
                    · rcases List.mem_append.mp he with he | he
                      · rcases List.mem_append.mp he with he | he
                        · exact .inr ⟨e, List.mem_append_left _ (List.mem_append_left _ he), h⟩
                        · rw [List.mem_singleton.mp he] at h
                          exact .inr ⟨((k, true), V.ref t5), List.mem_append_left _ (List.mem_append_right _ List.mem_cons_self), h⟩
                      · exact .inr ⟨e, List.mem_append_right _ he, h⟩⟩
                have le2 : es2.length ≤ n := fH.le
                refine ⟨_, ?_, _, _, G, es2, S' ++ [((k, true), V.ref t5)] ++ T, rfl, rfl, fH', ?_, ?_, ?_, fun x hx => up5 x (hi x hx), ?_⟩
                · simp only [List.length_append, List.length_cons, List.length_nil]
                  omega
                · intro e he
                  rcases List.mem_append.mp he with he | he
                  · rcases List.mem_append.mp he with he | he
                    · exact ((kE.ts (ts_same (same_trans sN s9))).ts tZ) e he
                    · rw [List.mem_singleton.mp he]
                      exact ⟨t5, a3, rfl, sq_ts tZ (sq_ts (ts_same (same_trans sN s9)) ht6), ln_ts tZ (ln_ts (ts_same (same_trans sN s9)) ha6)⟩
                  · exact (kT.ts tZ) e he
                · rw [upd_same, List.map_append, List.map_append]
                  rfl
                · simp only [List.length_append, List.length_cons, List.length_nil] at hm ⊢
                  omega
                · rcases h0 with h0 | ⟨e, he, h0⟩
                  · exact .inl (up5 _ h0)
                  · rcases List.mem_append.mp he with he | he
                    · exact .inr ⟨e, List.mem_append_left _ (List.mem_append_left _ he), h0⟩
                    · rw [List.mem_singleton.mp he] at h0
                      cases h0
                      exact .inl ek5
          · have yk : k ∈ es.map (·.1) := by simpa using c3
            refine ⟨_, ?_, _, _, G, es, S', rfl, rfl, fB.popF, kB, hat4, ?_, hi, ?_⟩
            · rw [List.length_append]
              simp only [List.length_cons, List.length_nil]
              omega
            · rw [List.length_append] at hm
              omega
            · rcases h0 with h0 | ⟨e, he, h0⟩
              · exact .inl h0
              · rcases List.mem_append.mp he with he | he
                · exact .inr ⟨e, he, h0⟩
                · rw [List.mem_singleton.mp he] at h0
                  cases h0
                  exact .inl yk
      · have eS : S = [] := by
          cases S with
          | nil => rfl
          | cons e S => exact absurd rfl c1
        subst eS
        refine ⟨_, _, _, _, G, es, rfl, f, fun k hk => ?_⟩
        rcases Nat.lt_succ_iff_lt_or_eq.mp hk with h | h
        · exact hi k h
        · subst h
          rcases h0 with h0 | ⟨e, he, _⟩
          · exact h0
          · cases he
    · rintro σ H2 ⟨y4, y5, y6, y7, G, es, rfl, f, hi⟩
      rw [List.length_map, show F.length = n from by have e := congrArg List.length hr'; rwa [List.length_map, List.length_range] at e] at hi
      refine ⟨_, rfl, q H2 ao G f.sm f.o0 f.eo f.la (fun k hk => ?_) f.gn ?_⟩
      · rcases f.don k (hi k hk) with h | ⟨e, he, _⟩
        · exact h
        · cases he
      · have := f.cnt
        have := f.le
        omega
end
end K12
namespace K12
open PySem PySem.Spec PyProof.Rows L2 TR QR
open GX (KT kd kdAll RS TSt dNO KeysAt)
variable [Sg]
abbrev sMA : Stmt := topS 21
abbrev nMA : List Str := ["edges", "bits", "order", "line", "masks", "changed", "mask", "other"]
theorem scMA : FnScope nMA ["edges", "bits"] (defScope sMA) := ⟨rfl, rfl, rfl, by decide +kernel, rfl, by decide +kernel, by decide +kernel⟩
theorem or_nat (a b : Nat) : Builtin.bitOr (a : Int) (b : Int) = ((a ||| b : Nat) : Int) := by
  rw [Bits.bitOr_pp (by omega) (by omega)]
  simp
theorem orAll_app (M : Nat → Nat) (l : List Nat) (o m : Nat) : orAll M (l ++ [o]) m = orAll M l m ||| M o ||| 2 ^ o := by
  unfold orAll
  rw [List.foldl_append]
  rfl
structure MJ (P : Program) (w : World) (K : PySem.W.Frag) (H0 H : Hp) (n : Nat) (g : Nat → List Nat) (D : Addr) (js : List Nat) (M : Nat → Nat) (es : List (Nat × Addr × V)) : Prop where
  sm : Same H0 H
  d0 : H0 D = none
  ek : H D = some (dNO ktL P w D es)
  ka : KeysAt ktL K H es
  ks : es.map (·.1) = js
  vl : ∀ e ∈ es, e.2.2 = .int (M e.1 : Int)
  so : MSound g M
  lt : ∀ k, M k < 2 ^ n
  nd : js.Nodup
section
variable {P : Program} {w : World} {K : PySem.W.Frag} {H0 H H' : Hp} {n : Nat} {g : Nat → List Nat} {D : Addr} {js : List Nat} {M : Nat → Nat} {es : List (Nat × Addr × V)} {k : Nat}
theorem nums_at (e1 : ∀ e ∈ es, e.2.2 = .int (M e.1 : Int)) (hk : k ∈ es.map (·.1)) : ∃ b, (es.find? fun e => decide (e.1 = k)) = some (k, b, .int (M k : Int)) := by
  obtain ⟨⟨k', b, v⟩, h1, h2, h3⟩ := find_of hk
  have h4 := e1 _ h2
  simp only at h3 h4
  subst h3
  subst h4
  exact ⟨b, h1⟩
theorem MJ.same (f : MJ P w K H0 H n g D js M es) (s : Same H H') : MJ P w K H0 H' n g D js M es :=
  ⟨same_trans f.sm s, f.d0, s _ _ f.ek, f.ka.ts (ts_same s), f.ks, f.vl, f.so, f.lt, f.nd⟩
theorem MJ.put (f : MJ P w K H0 H n g D js M es) (hk : k ∈ js) {a : Addr} (ha : Dp K H (.ref a) (encL k)) {v : Nat} (hv : v < 2 ^ n) (hs : ∀ j, v.testBit j = true → TG (fun a b => b ∈ g a) k j) : MJ P w K H0 (upd H D (dNO ktL P w D (GX.dSt es k a (.int (v : Int))))) n g D js (setM M k v) (GX.dSt es k a (.int (v : Int))) where
  sm := same_upd f.d0 f.sm
  d0 := f.d0
  ek := upd_same
  ka := (GX.st_keys f.ka ha).ts (ts_dict f.ek)
  ks := by
    rw [dst_keys, if_pos (by rw [f.ks]; exact hk)]
    exact f.ks
  vl := fun e he => by
    rcases dst_mem he with ⟨h1, h2⟩ | ⟨h1, h2⟩
    · rw [h2, h1]
      unfold setM
      rw [if_pos rfl]
    · rw [f.vl e h1]
      unfold setM
      rw [if_neg h2]
  so := fun x j h => by
    unfold setM at h
    split at h
    · next e =>
      rw [e]
      exact hs j h
    · exact f.so x j h
  lt := fun x => by
    unfold setM
    split
    · exact hv
    · exact f.lt x
  nd := f.nd
end
section
variable {P : Program} {w : World} {K : PySem.W.Frag} {mg : Str → Option Value} {base : Heap}
def spMA (P : Program) (w : World) (K : PySem.W.Frag) : Sp := fun vs H Q _ => ∃ (ed bt : Addr) (ks : List Nat) (g : Nat → List Nat) (n : Nat), vs = [.ref ed, .ref bt] ∧ EdgesAt P w K H ed ks g ∧ (∀ k, k ∉ ks → g k = []) ∧ NumsAt P w K H bt (List.range n) (fun k => 2 ^ k) ∧ n ≤ 16 ∧ (∀ k j, j ∈ g k → j < n) ∧ (∀ k, (g k).length ≤ 100) ∧
  ∀ H' p js M, Same H H' → H p = none → NumsAt P w K H' p js M → (∀ k, k ∈ js ↔ k < n) → (∀ k, M k < 2 ^ n) → (∀ k j, k < n → ((M k).testBit j = true ↔ TG (fun a b => b ∈ g a) k j)) → Q (.ref p) H'
theorem ok_MA {f fFI : Addr} {fd fdFI : FuncData} (F : Fun K "masks_along" "masks_along" sMA f fd)
    (GFI : FnOk P w K mg base CX0 1 fFI fdFI ["edges", "lines"] (spFI P w K)) (bFI : Binds K fdFI ["edges", "lines"] []) (gFI : mg "finished" = some (.ref fFI)) (kFI : PySem.W.keepIn K (.ref fFI) = true)
    (m_sorted : mg "sorted" = none) : FnOk P w K mg base CX0 2 f fd ["edges", "bits"] (spMA P w K) := by
  refine F.ok scMA (fun vs H Q E h => ?_) (fun cdv A outer s H vs Q E hr h => ?_)
  · obtain ⟨ed, bt, ks, g, n, rfl, _⟩ := h
    rfl
  · obtain ⟨ed, bt, ks, g, n, rfl, hE, hg, ⟨esB, hB, kB, eB, vB⟩, hn, ht, hd, q⟩ := h
    have hu := hr.units
    have hu1 := hu_of hr
    have hr1 : Room 1 _ := hr.mono (by decide)
    have zl := zl
    refine ⟨_, (pss_cons (ps_set (i := 2) scMA.nd rfl (.inl rfl) (pe_call GFI hr1 (by rfl) gFI kFI bFI .nil pass0 (pa_cons (pv 0) (pa_cons (pe_callB (GX.cr_sortedN (T := ktL) rfl hu) (by rfl) m_sorted (by decide +kernel) (pa_cons (pv 1) pa_nil)) pa_nil))))
      (pss_cons (GX.ps_setDg (i := 4) (o0 := fun D => GX.dNO ktL P w D []) (put := GX.putN ktL P w K) (own := [("line", 3)]) (g := gName 3) (tt := tYes) (tk := tVar 3) (tv := tC (.int 0)) (fun H h hb => GX.dg_empty H h hb) rfl scMA.nd rfl rfl (GX.sw_dict rfl rfl rfl (by decide +kernel)) (pi_list (pv 2)) (blkOk_by (N := nMA) (sc := defScope sMA) (by decide +kernel)) (fun _ _ _ _ _ => by exact pg_name (i := 3) scMA.nd rfl (.inl rfl)) (fun _ _ _ _ _ => pts_nil) (fun _ _ _ _ _ => by exact pv 3) (fun _ _ _ _ _ => by exact pe_int) (fun _ _ _ _ _ => GX.putR_N hu))
      (pss_cons (ps_set (i := 5) scMA.nd rfl (.inl rfl) (pe_bl))
      (pss_cons (ps_while PassesOwn.never (pt_val (pv 5))
      (pss_cons (ps_set (i := 5) scMA.nd rfl (.inl rfl) (pe_bl))
      (pss_one (ps_for PassesOwn.never rfl (pi_list (pv 2)) (pg_name (i := 3) scMA.nd rfl (.inl rfl))
      (pss_cons (ps_set (i := 6) scMA.nd rfl (.inl rfl) (pe_ix (GX.ix_N (T := ktL) hu) (pv 4) (pv 3) (fun _ _ => rfl)))
      (pss_cons (ps_for PassesOwn.never rfl (pi_list (GX.pe_bmN (T := ktL) PySem.F.plainAttrs_dict PySem.F.slot_dict_get PySem.F.type_dict_get (GX.mt_getN (T := ktL) hu) (pv 0) (pa_cons (pv 3) (pa_cons (pe_lst (pa_nil)) pa_nil)))) (pg_name (i := 7) scMA.nd rfl (.inl rfl))
      (pss_one (ps_set (i := 6) scMA.nd rfl (.inl rfl) (pe_op op_or (pe_op op_or (pv 6) (pe_ix (GX.ix_N (T := ktL) hu) (pv 4) (pv 7) (fun _ _ => rfl))) (pe_ix (GX.ix_N (T := ktL) hu) (pv 1) (pv 7) (fun _ _ => rfl))))))
      (pss_one (ps_if (pt_cmpR op_ne (pv 6) (pe_ix (GX.ix_N (T := ktL) hu) (pv 4) (pv 3) (fun _ _ => rfl)) (nomark _))
      (pss_cons (ps_asg (pv 6) (pg_sub (pv 4) (pv 3) (GX.set_N (T := ktL) hu)))
      (pss_one (ps_set (i := 5) scMA.nd rfl (.inl rfl) (pe_bl)))) pss_nil))))))))
      (pss_one (ps_ret (pv 4))))))), ?_⟩
    have lB : esB.length = n := by
      have := congrArg List.length eB
      rwa [List.length_map, List.length_range] at this
    have sB : GX.sortN ktL esB = esB := sorted_asc (fun e : Nat × Addr × V => e.1) (by
      have : (esB.map (·.1)).Pairwise (· ≤ ·) := by
        rw [eB]
        exact List.pairwise_lt_range.imp fun h => Nat.le_of_lt h
      rwa [List.pairwise_map] at this)
    obtain ⟨al, so⟩ := able_L (fun e : Nat × Addr × V => e.1) esB
    refine ⟨_, rfl, _, rfl, bt, esB, rfl, hB, kB, al, so, fun p np => ?_⟩
    rw [sB]
    have s1 := same_new (o := .lst (esB.map fun e => V.ref e.2.1)) np
    refine ⟨ed, p, ks, g, esB.map fun e => (e.1, V.ref e.2.1), n, rfl, hE.rs (GX.rs_same s1), hg, ?_, ?_, ?_, hn, ht, hd, fun H2 po G s2 npo hpo hG g1 g2 lG => ?_⟩
    · rw [List.map_map]
      exact SqL.of upd_same
    · intro e he
      obtain ⟨x, hx, rfl⟩ := List.mem_map.mp he
      exact ln_ts (ts_same s1) (kB x hx)
    · rw [List.map_map]
      exact eB
    have s02 : Same H H2 := same_trans s1 s2
    refine ⟨_, rfl, po, rfl, ⟨_, SqL.of hpo⟩, fun D nD => ?_⟩
    refine GX.dg_it (o0 := fun D => dNO ktL P w D []) (put := GX.putN ktL P w K) (walk_list (K := K) (a := po) (xs := G.map (·.2))) (fun j H' => Same H2 H' ∧ ∃ es : List (Nat × Addr × V), H' D = some (dNO ktL P w D es) ∧ KeysAt ktL K H' es ∧ (∀ x, x ∈ es.map (·.1) ↔ x ∈ (G.take j).map (·.1)) ∧ (∀ e ∈ es, e.2.2 = .int 0) ∧ es.length ≤ j ∧ (es.map (·.1)).Nodup) ⟨same_new nD, [], upd_same, (fun _ h => nomatch h), (fun x => by simp), (fun _ h => nomatch h), Nat.le_refl _, List.nodup_nil⟩ ?_ ?_ ?_
    · rintro j H' _ ⟨s, _⟩
      exact SqL.of (s _ _ hpo)
    · rintro j x H3 _ hj ⟨s, es, ek, ka, kk, vv, le, nd⟩ ⟨rfl, hx⟩
      obtain ⟨⟨k, v⟩, gx, rfl⟩ := map_get hx
      have hk := ln_ts (ts_same s) (hG _ (List.mem_of_getElem? gx))
      obtain ⟨a, ea⟩ := ln_ref hk
      simp only at ea
      subst ea
      rw [List.length_map] at hj
      refine ⟨rfl, _, rfl, es, k, a, rfl, ek, ka, hk, by omega, same_upd nD s, GX.dSt es k a (.int 0), upd_same, (GX.st_keys ka hk).ts (ts_dict ek), fun x => ?_, fun e he => ?_, ?_, GX.st_nodup nd⟩
      · rw [dst_keys, List.take_add_one, gx, List.map_append, List.mem_append, ← kk x]
        show _ ↔ _ ∨ x ∈ [k]
        by_cases hm : k ∈ es.map (·.1)
        · rw [if_pos hm]
          constructor
          · exact .inl
          · rintro (h | h)
            · exact h
            · rw [List.mem_singleton.mp h]
              exact hm
        · rw [if_neg hm, List.mem_append]
      · rcases dst_mem he with ⟨_, h⟩ | ⟨h, _⟩
        · exact h
        · exact vv e h
      · have := GX.st_len (es := es) (k := k) (b := a) (v := .int 0)
        omega
    · rintro H3 ⟨s, es0, ek, ka, kk, vv, le, nd⟩
      rw [List.length_map, List.take_length] at kk
      have nDH : H D = none := same_none s02 nD
      have f0 : MJ P w K H H3 n g D (es0.map (·.1)) (fun _ => 0) es0 := ⟨same_trans s02 s, nDH, ek, ka, rfl, vv, fun k j h => by simp at h, fun k => Nat.two_pow_pos n, nd⟩
      have hjs : ∀ k, k ∈ es0.map (·.1) ↔ k < n := fun k => (kk k).trans ⟨g2 k, g1 k⟩
      generalize es0.map (·.1) = js at f0 hjs
      have hE3 : ∀ {H'}, Same H H' → EdgesAt P w K H' ed ks g := fun s => hE.rs (GX.rs_same s)
      have hpo3 : ∀ {H'}, Same H3 H' → H' po = some (.lst (G.map (·.2))) := fun s' => s' _ _ (s _ _ hpo)
      have npoD : po ≠ D := fun e => by
        rw [e] at hpo
        rw [hpo] at nD
        cases nD
      refine ⟨fun m σ H' => ∃ (y3 y6 y7 : Option V) (M : Nat → Nat) (b : Bool) (es : List (Nat × Addr × V)), σ = [some (.ref ed), some (.ref bt), some (.ref po), y3, some (.ref D), some (.bl b), y6, y7] ∧ m = 2 * gap n M + (if b = true then 1 else 0) ∧ MJ P w K H H' n g D js M es ∧ SqL K H' po (G.map (·.2)) ∧ LAt K H' G ∧ (b = false → ∀ k, k < n → orAll M (g k) (M k) = M k),
        ⟨_, _, _, _, fun _ => 0, true, es0, rfl, rfl, f0, SqL.of (s _ _ hpo), hG.ts (ts_same s), fun h => nomatch h⟩, ?_⟩
      rintro m σ H4 ⟨y3, y6, y7, M, b, es, rfl, rfl, f, hL, hG4, hfix⟩
      refine ⟨_, rfl, b, rfl, ite2 (fun c1 => ?_) (fun c1 => ?_)⟩
      · subst c1
        refine ⟨fun σ' H' => ∃ m', m' < 2 * gap n M + (if true = true then 1 else 0) ∧ ∃ (y3 y6 y7 : Option V) (M : Nat → Nat) (b : Bool) (es : List (Nat × Addr × V)), σ' = [some (.ref ed), some (.ref bt), some (.ref po), y3, some (.ref D), some (.bl b), y6, y7] ∧ m' = 2 * gap n M + (if b = true then 1 else 0) ∧ MJ P w K H H' n g D js M es ∧ SqL K H' po (G.map (·.2)) ∧ LAt K H' G ∧ (b = false → ∀ k, k < n → orAll M (g k) (M k) = M k), fun _ _ z => z, ?_⟩
        refine ⟨_, rfl, po, rfl, ⟨_, hL⟩, for_list (xs := G.map (·.2)) (fun i σ H' => ∃ (y3 y6 y7 : Option V) (M' : Nat → Nat) (b : Bool) (es : List (Nat × Addr × V)), σ = [some (.ref ed), some (.ref bt), some (.ref po), y3, some (.ref D), some (.bl b), y6, y7] ∧ gap n M' + (if b = true then 1 else 0) ≤ gap n M ∧ MJ P w K H H' n g D js M' es ∧ SqL K H' po (G.map (·.2)) ∧ LAt K H' G ∧ (b = false → M' = M ∧ ∀ e ∈ G.take i, orAll M (g e.1) (M e.1) = M e.1))
          ⟨y3, y6, y7, M, false, es, rfl, by simp, f, hL, hG4, fun _ => ⟨rfl, fun _ h => nomatch h⟩⟩ ?_ ?_ ?_⟩
        · rintro i σ H' _ ⟨_, _, _, _, _, _, rfl, _, _, h, _⟩
          exact h
        · rintro i x σ H5 hx ⟨y3, y6, y7, M', b, es, rfl, hgap, f5, hL5, hG5, hb⟩
          obtain ⟨⟨k, v⟩, gx, rfl⟩ := map_get hx
          have hmem := List.mem_of_getElem? gx
          have hk := hG5 _ hmem
          obtain ⟨a, ea⟩ := ln_ref hk
          simp only at ea hk
          subst ea
          have kn : k < n := g2 k (List.mem_map.mpr ⟨_, hmem, rfl⟩)
          have kj : k ∈ js := (hjs k).mpr kn
          obtain ⟨bk, hfk⟩ := nums_at f5.vl (k := k) (by rw [f5.ks]; exact kj)
          refine ⟨_, rfl, _, rfl, D, a, es, k, _, rfl, rfl, .inl f5.ek, f5.ka, hk, hfk, ?_⟩
          obtain ⟨esE, hR, hK, _⟩ := (hE3 f5.sm).get hg k
          refine ⟨_, rfl, ⟨ed, esE, rfl, hR⟩, _, rfl, Nat.zero_le _, fun nn hnn => ?_⟩
          have sN := same_new (o := .lst []) hnn
          have f6 := f5.same sN
          obtain ⟨es8, hR8, hK8, hget8⟩ := (hE3 f6.sm).get hg k
          obtain ⟨l, F2, el2, hl2, hF2, eg2⟩ := hget8 nn (SqL.of upd_same)
          have hk6 := ln_ts (ts_same sN) hk
          have hL6 := (GX.rs_same sN).sql hL5
          have hG6 := hG5.ts (ts_same sN)
          refine ⟨ed, a, es8, k, .ref nn, rfl, rfl, hR8, hK8, hk6, l, el2, ⟨_, hl2⟩, ?_⟩
          have hfk6 := hfk
          generalize upd H5 nn (.lst []) = H6 at f6 hl2 hF2 hk6 hL6 hG6
          refine for_list (xs := F2.map (·.2)) (fun j σ H' => H' = H6 ∧ ∃ y7 : Option V, σ = [some (.ref ed), some (.ref bt), some (.ref po), some (.ref a), some (.ref D), some (.bl b), some (.int (orAll M' ((g k).take j) (M' k) : Nat)), y7]) ⟨rfl, y7, rfl⟩ ?_ ?_ ?_
          · rintro j σ H' _ ⟨rfl, _⟩
            exact hl2
          · rintro j x σ H' hx2 ⟨rfl, y7, rfl⟩
            obtain ⟨⟨o, v⟩, go, rfl⟩ := map_get hx2
            have hmo := List.mem_of_getElem? go
            have ho := hF2 _ hmo
            obtain ⟨ao, eo⟩ := ln_ref ho
            simp only at eo ho
            subst eo
            have og : o ∈ g k := by rw [← eg2]; exact List.mem_map.mpr ⟨_, hmo, rfl⟩
            have on : o < n := ht k o og
            obtain ⟨bo, hfo⟩ := nums_at f6.vl (k := o) (by rw [f6.ks]; exact (hjs o).mpr on)
            obtain ⟨bo2, hfo2⟩ := nums_at (M := fun k => 2 ^ k) vB (k := o) (by rw [eB]; exact List.mem_range.mpr on)
            have gk : (g k)[j]? = some o := by rw [← eg2]; exact get_map (·.1) go
            have etk : (g k).take (j + 1) = (g k).take j ++ [o] := by rw [List.take_add_one, gk]; rfl
            refine ⟨_, rfl, _, rfl, _, rfl, D, ao, es, o, _, rfl, rfl, .inl f6.ek, f6.ka, ho, hfo, _, _, rfl, rfl, _, rfl, _, rfl, bt, ao, esB, o, _, rfl, rfl, (GX.rs_same f6.sm).dn hB, kB.ts (ts_same f6.sm), ho, hfo2, _, _, rfl, rfl, rfl, some (.ref ao), ?_⟩
            rw [etk, orAll_app, or_nat]
            dsimp only
            rw [or_nat]
            rfl
          · rintro σ H' ⟨rfl, y7, rfl⟩
            rw [List.length_map, show (g k).take F2.length = g k from List.take_of_length_le (by rw [← eg2, List.length_map]; exact Nat.le_refl _)]
            have vlt : orAll M' (g k) (M' k) < 2 ^ n := orAll_lt (fun o _ => f6.lt o) (fun o ho => ht k o ho) (f6.lt k)
            refine ⟨_, rfl, _, rfl, _, rfl, D, a, es, k, _, rfl, rfl, .inl f6.ek, f6.ka, hk6, hfk6, rfl, _, rfl, ite2 (fun c2 => ?_) (fun c2 => ?_)⟩
            · have ne : orAll M' (g k) (M' k) ≠ M' k := fun e => by
                rw [e] at c2
                simp at c2
              have gt : M' k < orAll M' (g k) (M' k) := Nat.lt_of_le_of_ne (orAll_le M' (g k) (M' k)) (Ne.symm ne)
              have f7 := f6.put kj hk6 vlt (or_sound f6.so k)
              have t7 := ts_dict (K := K) (o := dNO ktL P w D (GX.dSt es k a (.int (orAll M' (g k) (M' k) : Nat)))) f6.ek
              have hL7 : SqL K (upd H' D (dNO ktL P w D (GX.dSt es k a (.int (orAll M' (g k) (M' k) : Nat))))) po (G.map (·.2)) := by
                rcases hL6 with h | h
                · rcases h with h | ⟨o, h⟩
                  · exact .inl (.inl ((upd_ne npoD).trans h))
                  · exact .inl (.inr ⟨o, (upd_ne npoD).trans h⟩)
                · exact .inr h
              have les : es.length ≤ 16 := by
                have h1 : es.length = js.length := by rw [← f6.ks, List.length_map]
                have h2 := nat_nodup_len (l := js) (m := List.range n) f6.nd fun x hx => List.mem_range.mpr ((hjs x).mp hx)
                rw [List.length_range] at h2
                omega
              refine ⟨_, rfl, _, rfl, _, rfl, D, a, es, k, rfl, rfl, f6.ek, f6.ka, hk6, by omega, _, _, _, setM M' k (orAll M' (g k) (M' k)), true, _, rfl, ?_, f7, hL7, hG6.ts t7, fun h => nomatch h⟩
              have := gap_lt (M := M') kn gt vlt
              rw [if_pos rfl]
              have : gap n M' ≤ gap n M := by
                split at hgap <;> omega
              omega
            · have e : orAll M' (g k) (M' k) = M' k := by
                have c3 : ((orAll M' (g k) (M' k) : Nat) : Int) = ((M' k : Nat) : Int) := by simpa using c2
                omega
              refine ⟨_, _, _, M', b, es, rfl, hgap, f6, hL6, hG6, fun hb0 => ?_⟩
              obtain ⟨e1, e2⟩ := hb hb0
              refine ⟨e1, fun x hx => ?_⟩
              rw [List.take_add_one, gx] at hx
              rcases List.mem_append.mp hx with hx | hx
              · exact e2 x hx
              · rw [show x = (k, V.ref a) from List.mem_singleton.mp hx, ← e1]
                exact e
        · rintro σ H5 ⟨y3, y6, y7, M', b, es, rfl, hgap, f5, hL5, hG5, hb⟩
          refine ⟨2 * gap n M' + (if b = true then 1 else 0), ?_, _, _, _, M', b, es, rfl, rfl, f5, hL5, hG5, fun hb0 k hk => ?_⟩
          · cases b with
            | true =>
              rw [if_pos rfl] at hgap
              simp only [if_true]
              omega
            | false =>
              rw [if_neg Bool.false_ne_true] at hgap
              simp only [if_true, Bool.false_eq_true, if_false]
              omega
          · obtain ⟨e1, e2⟩ := hb hb0
            obtain ⟨e, he, rfl⟩ := List.mem_map.mp (g1 k hk)
            rw [e1]
            exact e2 e (by rw [List.length_map, List.take_length]; exact he)
      · have eb : b = false := by simpa using c1
        subst eb
        exact ⟨_, rfl, q H4 D js M f.sm f.d0 ⟨es, .inl f.ek, f.ka, f.ks, f.vl⟩ hjs f.lt fun k j hk => m_closed (hfix rfl) (fun k o h => ht k o h) f.so hk⟩
end
end K12
namespace K12
open PySem PySem.Spec PyProof.Rows L2 TR QR
open GX (KT kd kdAll RS TSt dNO KeysAt)
open PySem.W (dataLt dataLe alike alikeAll AllAlike Sortable)
variable [Sg]
/-- lists and tuples stay -/
structure LTs (K : PySem.W.Frag) (H H' : Hp) : Prop where
  t : TSt K H H'
  l : ∀ x ys, SqL K H x ys → SqL K H' x ys
theorem LTs.of {K : PySem.W.Frag} {H H' : Hp} (s : RS H H') : LTs K H H' := ⟨s.tst, fun _ _ h => s.sql h⟩
theorem LTs.trans {K : PySem.W.Frag} {H H1 H2 : Hp} (a : LTs K H H1) (b : LTs K H1 H2) : LTs K H H2 := ⟨a.t.trans b.t, fun x ys h => b.l x ys (a.l x ys h)⟩
theorem LTs.dict {K : PySem.W.Frag} {P : Program} {w : World} {H : Hp} {r : Addr} {es : List (Nat × Addr × V)} {o : HO} (h : H r = some (dNO ktL P w r es)) : LTs K H (upd H r o) := ⟨ts_dict h, fun x ys q => by
  rcases q with q | q
  · by_cases e : x = r
    · subst e
      rcases q with q | ⟨p, q⟩
      · rw [h] at q
        cases q
      · rw [h] at q
        cases q
    · rcases q with q | ⟨p, q⟩
      · exact .inl (.inl ((upd_ne e).trans q))
      · exact .inl (.inr ⟨p, (upd_ne e).trans q⟩)
  · exact .inr q⟩
theorem find_nodup {es : List (Nat × Addr × V)} (nd : (es.map (·.1)).Nodup) {e : Nat × Addr × V} (h : e ∈ es) : (es.find? fun x => decide (x.1 = e.1)) = some e := by
  induction es with
  | nil => cases h
  | cons x es ih =>
    rw [List.map_cons, List.nodup_cons] at nd
    rcases List.mem_cons.mp h with rfl | h
    · simp
    · have : x.1 ≠ e.1 := fun q => nd.1 (q ▸ List.mem_map.mpr ⟨e, h, rfl⟩)
      rw [List.find?_cons]
      simp only [this, decide_false]
      exact ih nd.2 h
def degs (g : Nat → List Nat) (ks : List Nat) : Nat := (ks.map fun k => (g k).length).sum
/-! ### pairs of lines -/
abbrev Pr := Nat × Nat
def encP (q : Pr) : PyData := .tuple [encL q.1, encL q.2]
def PAt (K : PySem.W.Frag) (H : Hp) (PS : List (Pr × V)) : Prop := ∀ e ∈ PS, ∃ t a b : Addr, e.2 = .ref t ∧ SqT K H t [.ref a, .ref b] ∧ Dp K H (.ref a) (encL e.1.1) ∧ Dp K H (.ref b) (encL e.1.2)
theorem PAt.ts {K : PySem.W.Frag} {H H' : Hp} {PS : List (Pr × V)} (s : TSt K H H') (h : PAt K H PS) : PAt K H' PS := fun e he => by
  obtain ⟨t, a, b, h1, h2, h3, h4⟩ := h e he
  exact ⟨t, a, b, h1, sq_ts s h2, ln_ts s h3, ln_ts s h4⟩
theorem PAt.dp {K : PySem.W.Frag} {H : Hp} {PS : List (Pr × V)} (h : PAt K H PS) {e : Pr × V} (he : e ∈ PS) : Dp K H e.2 (encP e.1) := by
  obtain ⟨t, a, b, h1, h2, h3, h4⟩ := h e he
  rw [h1]
  exact .tup h2 (.cons h3 (.cons h4 .nil))
theorem alike_P (a b : Pr) : alike (encP a) (encP b) = true := by
  unfold encP
  simp [alike, alikeAll, alike_L]
theorem dep_P (a : Pr) : (encP a).depth ≤ 60 := by
  unfold encP encL nmD
  simp [PyData.depth, PyData.depthAll]
theorem able_P {κ : Type} (f : κ → Pr) (es : List κ) : AllAlike (es.map fun e => encP (f e)) ∧ Sortable (es.map fun e => encP (f e)) :=
  ⟨AllAlike.of fun b b' => alike_P _ _, Sortable.tuples fun b => ⟨_, _, rfl⟩⟩
def sortP (ps : List Pr) : List Pr := ps.mergeSort (dataLe false encP)
theorem sort_fst (PS : List (Pr × V)) : (PS.mergeSort (dataLe false fun e : Pr × V => encP e.1)).map (·.1) = sortP (PS.map (·.1)) := by
  unfold sortP
  exact List.map_mergeSort fun a _ b _ => by rw [PySem.W.dataLe_eq, PySem.W.dataLe_eq]
theorem mem_sortP {ps : List Pr} {q : Pr} : q ∈ sortP ps ↔ q ∈ ps := by
  unfold sortP
  exact List.mem_mergeSort
theorem len_sortP {ps : List Pr} : (sortP ps).length = ps.length := by
  unfold sortP
  exact List.length_mergeSort _
/-! ### the edges as a function of the pairs -/
def kAdd (ks : List Nat) (k : Nat) : List Nat := if k ∈ ks then ks else ks ++ [k]
def edK' (qs : List Pr) : List Nat := qs.foldl (fun ks q => kAdd ks q.1) []
def edG' (qs : List Pr) (k : Nat) : List Nat := (qs.filter fun q => decide (q.1 = k)).map (·.2)
theorem edK_app (qs : List Pr) (q : Pr) : edK' (qs ++ [q]) = kAdd (edK' qs) q.1 := by
  unfold edK'
  rw [List.foldl_append]
  rfl
theorem edG_app (qs : List Pr) (q : Pr) (k : Nat) : edG' (qs ++ [q]) k = if q.1 = k then edG' qs k ++ [q.2] else edG' qs k := by
  unfold edG'
  rw [List.filter_append, List.map_append]
  by_cases h : q.1 = k
  · rw [if_pos h, List.filter_cons, if_pos (by simpa using h)]
    rfl
  · rw [if_neg h, List.filter_cons, if_neg (by simpa using h)]
    simp
theorem snoc_ind {α : Type} {P : List α → Prop} (h0 : P []) (hs : ∀ l a, P l → P (l ++ [a])) : ∀ l, P l := by
  intro l
  have : ∀ l : List α, P l.reverse := fun l => by
    induction l with
    | nil => exact h0
    | cons a l ih => rw [List.reverse_cons]; exact hs _ _ ih
  have h := this l.reverse
  rwa [List.reverse_reverse] at h
theorem mem_edK {k : Nat} : ∀ qs : List Pr, k ∈ edK' qs ↔ ∃ q ∈ qs, q.1 = k := by
  refine snoc_ind (by simp [edK']) fun l q ih => ?_
  rw [edK_app]
  unfold kAdd
  split
  · next h =>
    rw [ih]
    constructor
    · rintro ⟨x, h1, h2⟩
      exact ⟨x, List.mem_append_left _ h1, h2⟩
    · rintro ⟨x, h1, h2⟩
      rcases List.mem_append.mp h1 with h1 | h1
      · exact ⟨x, h1, h2⟩
      · rw [List.mem_singleton.mp h1] at h2
        rw [h2] at h
        exact ih.mp h
  · rw [List.mem_append, ih, List.mem_singleton]
    constructor
    · rintro (⟨x, h1, h2⟩ | h)
      · exact ⟨x, List.mem_append_left _ h1, h2⟩
      · exact ⟨q, List.mem_append_right _ List.mem_cons_self, h.symm⟩
    · rintro ⟨x, h1, h2⟩
      rcases List.mem_append.mp h1 with h1 | h1
      · exact .inl ⟨x, h1, h2⟩
      · rw [List.mem_singleton.mp h1] at h2
        exact .inr h2.symm
theorem nd_edK : ∀ qs : List Pr, (edK' qs).Nodup := by
  refine snoc_ind List.nodup_nil fun l q ih => ?_
  rw [edK_app]
  unfold kAdd
  split
  · exact ih
  · next h =>
    rw [List.nodup_append]
    exact ⟨ih, by simp, fun x hx y hy e => h (by rw [List.mem_singleton.mp hy] at e; rw [← e]; exact hx)⟩
theorem mem_edG {qs : List Pr} {k j : Nat} : j ∈ edG' qs k ↔ (k, j) ∈ qs := by
  unfold edG'
  constructor
  · intro h
    obtain ⟨q, h1, rfl⟩ := List.mem_map.mp h
    obtain ⟨h2, h3⟩ := List.mem_filter.mp h1
    have : q.1 = k := of_decide_eq_true h3
    subst this
    exact h2
  · intro h
    exact List.mem_map.mpr ⟨(k, j), List.mem_filter.mpr ⟨h, by simp⟩, rfl⟩
theorem edG_no {qs : List Pr} {k : Nat} (h : k ∉ edK' qs) : edG' qs k = [] := by
  refine List.eq_nil_iff_forall_not_mem.mpr fun j hj => h ?_
  exact (mem_edK qs).mpr ⟨_, mem_edG.mp hj, rfl⟩
theorem edG_len {qs : List Pr} {k : Nat} : (edG' qs k).length ≤ qs.length := by
  unfold edG'
  rw [List.length_map]
  exact List.length_filter_le _ _
theorem degs_le : ∀ (ks : List Nat), ks.Nodup → ∀ qs : List Pr, degs (edG' qs) ks ≤ qs.length
  | [], _, _ => Nat.zero_le _
  | k :: ks, nd, qs => by
    obtain ⟨h1, h2⟩ := List.nodup_cons.mp nd
    have ih := degs_le ks h2 (qs.filter fun q => !decide (q.1 = k))
    have e : degs (edG' qs) ks = degs (edG' (qs.filter fun q => !decide (q.1 = k))) ks := by
      unfold degs
      congr 1
      refine List.map_congr_left fun x hx => ?_
      unfold edG'
      rw [List.filter_filter]
      congr 2
      refine List.filter_congr fun q _ => ?_
      by_cases e : q.1 = x
      · have : x ≠ k := fun z => h1 (z ▸ hx)
        simp [e, this]
      · simp [e]
    have e2 : qs.length = (qs.filter fun q => decide (q.1 = k)).length + (qs.filter fun q => !decide (q.1 = k)).length := by
      clear ih e
      induction qs with
      | nil => rfl
      | cons q qs ihq =>
        by_cases z : q.1 = k
        · simp only [List.filter_cons, z, decide_true, if_true, Bool.not_true, Bool.false_eq_true, if_false, List.length_cons]
          omega
        · simp only [List.filter_cons, z, decide_false, Bool.false_eq_true, if_false, Bool.not_false, if_true, List.length_cons]
          omega
    show (edG' qs k).length + degs (edG' qs) ks ≤ _
    rw [e, e2]
    unfold edG' at *
    rw [List.length_map]
    omega
/-! ### _law_edges -/
structure EJ (P : Program) (w : World) (K : PySem.W.Frag) (H0 H : Hp) (D : Addr) (ks : List Nat) (g : Nat → List Nat) (es : List (Nat × Addr × V)) : Prop where
  sm : Same H0 H
  d0 : H0 D = none
  ek : H D = some (dNO ktL P w D es)
  ka : KeysAt ktL K H es
  ks : es.map (·.1) = ks
  vl : ∀ e ∈ es, ∃ (l : Addr) (F : List (Nat × V)), e.2.2 = .ref l ∧ H0 l = none ∧ H l = some (.lst (F.map (·.2))) ∧ LAt K H F ∧ F.map (·.1) = g e.1
  inj : ∀ e ∈ es, ∀ e' ∈ es, e.2.2 = e'.2.2 → e.1 = e'.1
section
variable {P : Program} {w : World} {K : PySem.W.Frag} {H0 H H' : Hp} {D : Addr} {ks : List Nat} {g : Nat → List Nat} {es : List (Nat × Addr × V)} {k j : Nat}
theorem EJ.same (f : EJ P w K H0 H D ks g es) (s : Same H H') : EJ P w K H0 H' D ks g es :=
  ⟨same_trans f.sm s, f.d0, s _ _ f.ek, f.ka.ts (ts_same s), f.ks, fun e he => by
    obtain ⟨l, F, a1, a2, a3, a4, a5⟩ := f.vl e he
    exact ⟨l, F, a1, a2, s _ _ a3, a4.ts (ts_same s), a5⟩, f.inj⟩
theorem EJ.neD (f : EJ P w K H0 H D ks g es) {l : Addr} {xs : List V} (h : H l = some (.lst xs)) : l ≠ D := fun e => by
  rw [e, f.ek] at h
  cases h
/-- a key more, with an empty list -/
theorem EJ.new (f : EJ P w K H0 H D ks g es) (nk : k ∉ ks) (gk : g k = []) {l b : Addr} (nl : H l = none) (hb : Dp K H (.ref b) (encL k)) :
    EJ P w K H0 (upd (upd H l (.lst [])) D (dNO ktL P w D (GX.dSt es k b (.ref l)))) D (ks ++ [k]) g (GX.dSt es k b (.ref l)) := by
  have fs := f.same (same_new (o := .lst []) nl)
  have hl : upd H l (.lst []) l = some (.lst []) := upd_same
  have nl0 : H0 l = none := same_none f.sm nl
  have hb' := ln_ts (K := K) (ts_new (o := .lst []) nl) hb
  have old : ∀ e ∈ es, e.2.2 ≠ .ref l := fun e he z => by
    obtain ⟨l', F, a1, a2, a3, _⟩ := f.vl e he
    rw [a1] at z
    cases z
    rw [nl] at a3
    cases a3
  generalize upd H l (.lst []) = H1 at fs hl hb'
  have t := LTs.dict (K := K) (o := dNO ktL P w D (GX.dSt es k b (.ref l))) fs.ek
  refine ⟨same_upd f.d0 fs.sm, f.d0, upd_same, (GX.st_keys fs.ka hb').ts t.t, ?_, fun e he => ?_, fun e he e' he' z => ?_⟩
  · rw [dst_keys, f.ks, if_neg nk]
  · rcases dst_mem he with ⟨h1, h2⟩ | ⟨h1, h2⟩
    · exact ⟨l, [], h2, nl0, (upd_ne (fs.neD hl)).trans hl, (fun _ h => nomatch h), by rw [h1, gk]; rfl⟩
    · obtain ⟨l', F, a1, a2, a3, a4, a5⟩ := fs.vl e h1
      exact ⟨l', F, a1, a2, (upd_ne (fs.neD a3)).trans a3, a4.ts t.t, a5⟩
  · rcases dst_mem he with ⟨h1, h2⟩ | ⟨h1, h2⟩
    · rcases dst_mem he' with ⟨g1, g2⟩ | ⟨g1, g2⟩
      · rw [h1, g1]
      · rw [h2] at z
        exact absurd z.symm (old e' g1)
    · rcases dst_mem he' with ⟨g1, g2⟩ | ⟨g1, g2⟩
      · rw [g2] at z
        exact absurd z (old e h1)
      · exact f.inj e h1 e' g1 z
/-- a line more in the list of k -/
theorem EJ.app (f : EJ P w K H0 H D ks g es) (nd : (es.map (·.1)).Nodup) {e : Nat × Addr × V} (he : e ∈ es) {l : Addr} {F : List (Nat × V)} (a1 : e.2.2 = .ref l) (a2 : H0 l = none) (a3 : H l = some (.lst (F.map (·.2)))) (a4 : LAt K H F) (a5 : F.map (·.1) = g e.1) {a : Addr} (ha : Dp K H (.ref a) (encL j)) :
    EJ P w K H0 (upd H l (.lst (F.map (·.2) ++ [V.ref a]))) D ks (fun x => if e.1 = x then g x ++ [j] else g x) es := by
  have t := ts_lst (K := K) (o := .lst (F.map (·.2) ++ [V.ref a])) a3
  refine ⟨same_upd a2 f.sm, f.d0, (upd_ne (Ne.symm (f.neD a3))).trans f.ek, f.ka.ts t, f.ks, fun x hx => ?_, f.inj⟩
  obtain ⟨l2, F2, b1, b2, b3, b4, b5⟩ := f.vl x hx
  by_cases q : l2 = l
  · subst q
    have ex : e.1 = x.1 := f.inj e he x hx (by rw [a1, b1])
    refine ⟨l2, F ++ [(j, V.ref a)], b1, b2, by rw [upd_same, List.map_append]; rfl, fun y hy => ?_, ?_⟩
    · rcases List.mem_append.mp hy with hy | hy
      · exact ln_ts t (a4 y hy)
      · rw [List.mem_singleton.mp hy]
        exact ln_ts t ha
    · show _ = (if e.1 = x.1 then g x.1 ++ [j] else g x.1)
      rw [if_pos ex, List.map_append, a5, ex]
      rfl
  · have ne : e.1 ≠ x.1 := fun z => by
      · have h1 := find_nodup nd he
        have h2 := find_nodup nd hx
        rw [z] at h1
        rw [h1] at h2
        have := Option.some.inj h2
        rw [this, b1] at a1
        cases a1
        exact q rfl
    refine ⟨l2, F2, b1, b2, (upd_ne q).trans b3, b4.ts t, ?_⟩
    show _ = (if e.1 = x.1 then g x.1 ++ [j] else g x.1)
    rw [if_neg ne]
    exact b5
end
end K12
namespace K12
open PySem PySem.Spec PyProof.Rows L2 TR QR
open GX (KT kd kdAll RS TSt dNO KeysAt)
variable [Sg]
abbrev sBA : Stmt := topS 22
abbrev nBA : List Str := ["edges", "rows", "line", "other"]
theorem scBA : FnScope nBA ["edges"] (defScope sBA) := ⟨rfl, rfl, rfl, by decide +kernel, rfl, by decide +kernel, by decide +kernel⟩
/-- the pairs, turned -/
def rev (g : Nat → List Nat) (ks : List Nat) : List Pr := ks.flatMap fun k => (g k).map fun j => (j, k)
theorem rev_app (g : Nat → List Nat) (ks : List Nat) (k : Nat) : rev g (ks ++ [k]) = rev g ks ++ (g k).map fun j => (j, k) := by
  unfold rev
  rw [List.flatMap_append]
  simp
theorem mem_rev {g : Nat → List Nat} {ks : List Nat} {j k : Nat} : (j, k) ∈ rev g ks ↔ k ∈ ks ∧ j ∈ g k := by
  unfold rev
  rw [List.mem_flatMap]
  constructor
  · rintro ⟨a, ha, h⟩
    obtain ⟨b, hb, e⟩ := List.mem_map.mp h
    cases e
    exact ⟨ha, hb⟩
  · rintro ⟨h1, h2⟩
    exact ⟨k, h1, List.mem_map.mpr ⟨j, h2, rfl⟩⟩
theorem rev_len (g : Nat → List Nat) (ks : List Nat) : (rev g ks).length = degs g ks := by
  unfold rev degs
  rw [List.length_flatMap]
  simp
theorem dst_new {es : List (Nat × Addr × V)} {k : Nat} {b : Addr} {v : V} (h : k ∉ es.map (·.1)) : GX.dSt es k b v = es ++ [(k, b, v)] := by
  unfold GX.dSt
  rw [is_some, if_neg (by simpa using h)]
section
variable {P : Program} {w : World} {K : PySem.W.Frag} {mg : Str → Option Value} {base : Heap}
/-- backwards(edges), told exactly -/
def spBA (P : Program) (w : World) (K : PySem.W.Frag) : Sp := fun vs H Q _ => ∃ (ed : Addr) (es : List (Nat × Addr × V)) (ks : List Nat) (g : Nat → List Nat), vs = [.ref ed] ∧ H ed = some (dNO ktL P w ed es) ∧ KeysAt ktL K H es ∧ es.map (·.1) = ks ∧ (∀ e ∈ es, ∃ (l : Addr) (F : List (Nat × V)), e.2.2 = .ref l ∧ SqL K H l (F.map (·.2)) ∧ LAt K H F ∧ F.map (·.1) = g e.1) ∧
  ks.Nodup ∧ degs g ks ≤ 100 ∧
  ∀ H' p, Same H H' → H p = none → EdgesAt P w K H' p (edK' (rev g ks)) (edG' (rev g ks)) → Q (.ref p) H'
theorem ok_BA {f : Addr} {fd : FuncData} (F : Fun K "backwards" "backwards" sBA f fd) : FnOk P w K mg base CX0 1 f fd ["edges"] (spBA P w K) := by
  refine F.ok scBA (fun vs H Q E h => ?_) (fun cdv A outer s H vs Q E hr h => ?_)
  · obtain ⟨ed, es, ks, g, rfl, _⟩ := h
    rfl
  · obtain ⟨ed, es, ks, g, rfl, hd, hk, ek, hv, nd, hs, q⟩ := h
    have hu := hr.units
    have hu1 := hu_of hr
    have zl := zl
    refine ⟨_, (pss_cons (ps_set (i := 1) scBA.nd rfl (.inl rfl) ((GX.pe_dnewN (T := ktL))))
      (pss_cons (ps_lock (ps_for PassesOwn.never rfl (GX.pi_keysN (T := ktL) (pv 0)) (pg_name (i := 2) scBA.nd rfl (.inl rfl))
      (pss_one (ps_for PassesOwn.never rfl (pi_list (pe_ix (GX.ix_N (T := ktL) hu) (pv 0) (pv 2) (fun _ _ => rfl))) (pg_name (i := 3) scBA.nd rfl (.inl rfl))
      (pss_one (ps_expr (pe_bm PySem.F.plainAttrs_list PySem.F.slot_list_append PySem.F.type_list_append mt_append (GX.pe_bmN (T := ktL) PySem.F.plainAttrs_dict PySem.F.slot_dict_setdefault PySem.F.type_dict_setdefault (GX.mt_setdefN (T := ktL) hu) (pv 1) (pa_cons (pv 3) (pa_cons (pe_lst (pa_nil)) pa_nil))) (pa_cons (pv 2) pa_nil))))))))
      (pss_one (ps_ret (pv 1))))), ?_⟩
    refine fun D nD => ?_
    have nDe : D ≠ ed := fun e => by rw [e, hd] at nD; cases nD
    refine ⟨ed, _, (upd_ne (Ne.symm nDe)).trans hd, trivial, fun od => ?_⟩
    have rL : RS H (upd H ed (.frz od (dNO ktL P w ed es))) := GX.rs_lock hd (fun _ _ h => nomatch h)
    have hL0 : upd H ed (.frz od (dNO ktL P w ed es)) ed = some (.frz od (dNO ktL P w ed es)) := upd_same
    have nD0 : upd H ed (.frz od (dNO ktL P w ed es)) D = none := (upd_ne nDe).trans nD
    have eH : upd (upd H D (dNO ktL P w D [])) ed (.frz od (dNO ktL P w ed es)) = upd (upd H ed (.frz od (dNO ktL P w ed es))) D (dNO ktL P w D []) := by
      funext b
      by_cases e1 : b = ed
      · subst e1
        rw [upd_same, upd_ne (Ne.symm nDe), upd_same]
      · rw [upd_ne e1]
        by_cases e2 : b = D
        · subst e2
          rw [upd_same, upd_same]
        · rw [upd_ne e2, upd_ne e2, upd_ne e1]
    have eback : ∀ H', Same (upd H ed (.frz od (dNO ktL P w ed es))) H' → Same H (upd H' ed (dNO ktL P w ed es)) := fun H' s b o hb => by
      by_cases e : b = ed
      · subst e
        rw [hd] at hb
        cases hb
        exact upd_same
      · rw [upd_ne e]
        exact s b o ((upd_ne e).trans hb)
    have hv' : ∀ e ∈ es, ∃ (l : Addr) (F : List (Nat × V)), e.2.2 = .ref l ∧ SqL K (upd H ed (.frz od (dNO ktL P w ed es))) l (F.map (·.2)) ∧ LAt K (upd H ed (.frz od (dNO ktL P w ed es))) F ∧ F.map (·.1) = g e.1 := fun e he => by
      obtain ⟨l, F, b1, b2, b3, b4⟩ := hv e he
      exact ⟨l, F, b1, rL.sql b2, b3.ts rL.tst, b4⟩
    have hk' := hk.ts (rL.tst (K := K))
    show tFor _ _ _ _ _ (upd (upd H D (dNO ktL P w D [])) ed (.frz od (dNO ktL P w ed es)))
    rw [eH]
    generalize upd H ed (.frz od (dNO ktL P w ed es)) = HL at rL hL0 nD0 eback hv' hk'
    have b0 : EJ P w K HL (upd HL D (dNO ktL P w D [])) D (edK' (rev g [])) (edG' (rev g [])) [] := ⟨same_new nD0, nD0, upd_same, (fun _ h => nomatch h), rfl, (fun _ h => nomatch h), (fun _ h => nomatch h)⟩
    refine ⟨_, rfl, ed, od, es, rfl, same_new nD0 _ _ hL0, ?_⟩
    refine for_it (GX.walk_N (T := ktL) (P := P) (w := w)) (fun i σ H' => ∃ (y2 y3 : Option V) (rs : List (Nat × Addr × V)), σ = [some (.ref ed), some (.ref D), y2, y3] ∧ EJ P w K HL H' D (edK' (rev g (ks.take i))) (edG' (rev g (ks.take i))) rs) ⟨none, none, [], rfl, b0⟩ ?_ ?_ ?_
    · rintro i σ H' _ ⟨_, _, _, _, f⟩
      exact f.sm _ _ hL0
    · rintro i x σ H2 H2' hi ⟨y2, y3, rs, rfl, f⟩ ⟨rfl, e, he, rfl⟩
      have hem := List.mem_of_getElem? he
      obtain ⟨l, F, e1, e2, e3, e4⟩ := hv' e hem
      have hke := hk' e hem
      obtain ⟨k, a, v⟩ := e
      simp only at e1 e4 hke
      subst e1
      have hfind := find_nodup (by rw [ek]; exact nd) hem
      have ksi : ks[i]? = some k := by rw [← ek]; exact get_map (·.1) he
      have erev : rev g (ks.take (i + 1)) = rev g (ks.take i) ++ (g k).map fun j => (j, k) := by
        rw [List.take_add_one, ksi, ← rev_app]
        rfl
      have lrev : (rev g (ks.take (i + 1))).length ≤ 100 := by
        rw [rev_len]
        refine Nat.le_trans ?_ hs
        unfold degs
        conv => rhs; rw [← List.take_append_drop (i + 1) ks, List.map_append, List.sum_append]
        omega
      rw [erev, List.length_append, List.length_map] at lrev
      refine ⟨_, rfl, _, rfl, ed, a, es, k, _, rfl, rfl, .inr ⟨od, f.sm _ _ hL0⟩, hk'.ts (ts_same f.sm), ln_ts (ts_same f.sm) hke, hfind, l, rfl, ⟨_, (GX.rs_same f.sm).sql e2⟩, ?_⟩
      refine for_list (xs := F.map (·.2)) (fun j σ H' => ∃ (y3 : Option V) (rs : List (Nat × Addr × V)), σ = [some (.ref ed), some (.ref D), some (.ref a), y3] ∧ EJ P w K HL H' D (edK' (rev g (ks.take i) ++ ((g k).take j).map fun j => (j, k))) (edG' (rev g (ks.take i) ++ ((g k).take j).map fun j => (j, k))) rs) ⟨y3, rs, rfl, by simpa using f⟩ ?_ ?_ ?_
      · rintro j σ H' _ ⟨_, _, _, f⟩
        exact (GX.rs_same f.sm).sql e2
      · rintro j x σ H3 hx ⟨y3, rs, rfl, f3⟩
        obtain ⟨⟨o, v⟩, go, rfl⟩ := map_get hx
        have hmo := List.mem_of_getElem? go
        have gk : (g k)[j]? = some o := by rw [← e4]; exact get_map (·.1) go
        have hj : j < (g k).length := (List.getElem?_eq_some_iff.mp gk).1
        have etk : (rev g (ks.take i) ++ ((g k).take (j + 1)).map fun j => (j, k)) = (rev g (ks.take i) ++ ((g k).take j).map fun j => (j, k)) ++ [(o, k)] := by
          rw [List.take_add_one, gk, List.map_append, ← List.append_assoc]
          rfl
        have lq : (rev g (ks.take i) ++ ((g k).take j).map fun j => (j, k)).length ≤ 100 := by
          rw [List.length_append, List.length_map, List.length_take]
          omega
        rw [etk]
        generalize (rev g (ks.take i) ++ ((g k).take j).map fun j => (j, k)) = qs at f3 lq
        have ho := ln_ts (ts_same f3.sm) (e3 _ hmo)
        obtain ⟨ao, eo⟩ := ln_ref ho
        simp only at eo ho
        subst eo
        refine ⟨_, rfl, ⟨D, rs, rfl, .inl f3.ek⟩, _, rfl, Nat.zero_le _, fun nn hnn => ?_⟩
        have sN := same_new (o := .lst []) hnn
        have f4 := f3.same sN
        have ho4 := ln_ts (ts_same sN) ho
        have hke4 := ln_ts (K := K) (ts_same f4.sm) hke
        have lr : rs.length ≤ 100 := by
          have h1 : rs.length = (edK' qs).length := by rw [← f3.ks, List.length_map]
          have h2 := nat_nodup_len (nd_edK qs) (m := qs.map (·.1)) fun x hx => by
            obtain ⟨q, h3, h4⟩ := (mem_edK qs).mp hx
            exact List.mem_map.mpr ⟨q, h3, h4⟩
          rw [List.length_map] at h2
          omega
        refine ⟨D, ao, rs, o, .ref nn, rfl, rfl, f4.ek, f4.ka, ho4, by omega, fun e he => ?_, fun hno => ?_⟩
        · have hem2 := List.mem_of_find?_eq_some he
          have heo : e.1 = o := of_decide_eq_true (List.find?_some (p := fun x : Nat × Addr × V => decide (x.1 = o)) he)
          obtain ⟨l2, F2, a1, a2, a3, a4, a5⟩ := f4.vl e hem2
          have ndr : (rs.map (·.1)).Nodup := by rw [f4.ks]; exact nd_edK qs
          have yk : o ∈ edK' qs := by rw [← f4.ks, ← heo]; exact List.mem_map.mpr ⟨e, hem2, rfl⟩
          have lF : F2.length ≤ 100 := by
            have h1 := congrArg List.length a5
            rw [List.length_map] at h1
            have h2 := edG_len (qs := qs) (k := e.1)
            omega
          have f5 := f4.app ndr hem2 a1 a2 a3 a4 a5 (j := k) hke4
          obtain ⟨k2, b2, v2⟩ := e
          simp only at a1 heo
          subst a1
          subst heo
          refine ⟨.inl ⟨rfl, _, SqL.of a3⟩, _, rfl, l2, _, _, rfl, rfl, a3, by rw [List.length_map]; omega, some (.ref ao), rs, rfl, ?_⟩
          rw [edK_app, show edG' (qs ++ [(k2, k)]) = fun x => if k2 = x then edG' qs x ++ [k] else edG' qs x from funext fun x => edG_app qs (k2, k) x]
          unfold kAdd
          rw [if_pos yk]
          exact f5
        · have nk : o ∉ edK' qs := fun h => by
            rw [← f4.ks] at h
            obtain ⟨e, h1, _⟩ := find_of h
            rw [hno] at h1
            cases h1
          have f5 := f3.new nk (edG_no nk) hnn ho
          rw [dst_new (by rw [f4.ks]; exact nk)] at f5
          have me : (o, ao, V.ref nn) ∈ rs ++ [(o, ao, V.ref nn)] := List.mem_append_right _ List.mem_cons_self
          have hn5 : upd (upd H3 nn (.lst [])) D (dNO ktL P w D (rs ++ [(o, ao, V.ref nn)])) nn = some (.lst (([] : List (Nat × V)).map (·.2))) := (upd_ne (f4.neD upd_same)).trans upd_same
          have nd5 : ((rs ++ [(o, ao, V.ref nn)]).map (·.1)).Nodup := by
            rw [f5.ks]
            have := nd_edK (qs ++ [(o, k)])
            rw [edK_app] at this
            unfold kAdd at this
            rw [if_neg nk] at this
            exact this
          have f6 := f5.app nd5 me (F := []) rfl (same_none f3.sm hnn) hn5 (fun _ h => nomatch h) (edG_no nk).symm (j := k) (ln_ts (ts_dict f4.ek) hke4)
          refine ⟨.inl ⟨rfl, _, SqL.of hn5⟩, _, rfl, nn, _, _, rfl, rfl, hn5, by show 0 < sizeLine; omega, some (.ref ao), rs ++ [(o, ao, V.ref nn)], rfl, ?_⟩
          rw [edK_app, show edG' (qs ++ [(o, k)]) = fun x => if o = x then edG' qs x ++ [k] else edG' qs x from funext fun x => edG_app qs (o, k) x]
          unfold kAdd
          rw [if_neg nk]
          exact f6
      · rintro σ H3 ⟨y3, rs, rfl, f3⟩
        rw [List.length_map, show F.length = (g k).length from by rw [← e4, List.length_map], List.take_length, ← erev] at f3
        exact ⟨_, y3, rs, rfl, f3⟩
    · rintro σ H2 ⟨y2, y3, rs, rfl, f⟩
      refine ⟨f.sm _ _ hL0, _, rfl, ?_⟩
      rw [show es.length = ks.length from by rw [← ek, List.length_map], List.take_length] at f
      have sB := eback H2 f.sm
      refine q _ D sB nD ?_
      exact EdgesAt.rs (GX.rs_unlock (f.sm _ _ hL0)) ⟨rs, .inl f.ek, f.ka, f.ks, fun e he => by
        obtain ⟨l, F, a1, a2, a3, a4, a5⟩ := f.vl e he
        exact ⟨l, F, a1, SqL.of a3, a4, a5⟩⟩
end
end K12
namespace K12
open PySem PySem.Spec PyProof.Rows L2 TR QR
open GX (KT kd kdAll RS TSt dNO KeysAt)
variable [Sg]
section
variable {P : Program} {w : World} {K : PySem.W.Frag}
/-- {line: tv for line in d}, d locked by it -/
theorem cp_keys {i : Nat} {tv : TE} {σ : L2.St} {H : Hp} {Q : VK} {d : Addr} {es : List (Nat × Addr × V)} {j : Nat} (Good : Nat × Addr × V → V → Hp → Prop) (hG : ∀ e v H1 H2, LTs K H1 H2 → Good e v H1 → Good e v H2)
    (hd : H d = some (dNO ktL P w d es)) (hk : KeysAt ktL K H es) (nd : (es.map (·.1)).Nodup) (hl : es.length ≤ 1000) (hi : σ[i]? = some (some (.ref d))) (hj : ∀ v, wipe (((wipe σ [j]).set j (some v))) [j] = wipe σ [j]) (hjj : ∀ v : V, ((wipe σ [j]).set j (some v))[j]? = some (some v))
    (step : ∀ e ∈ es, ∀ (od : Obj) (H1 : Hp) (R : VK), Same (upd H d (.frz od (dNO ktL P w d es))) H1 → (∀ v H2, Same H1 H2 → Good e v H2 → R v H2) → tv ((wipe σ [j]).set j (some (.ref e.2.1))) H1 R)
    (q : ∀ D H' es', Same H H' → H D = none → H' D = some (dNO ktL P w D es') → KeysAt ktL K H' es' → es'.map (·.1) = es.map (·.1) → (∀ e' ∈ es', ∃ e ∈ es, e.1 = e'.1 ∧ Good e e'.2.2 H') → Q (.ref D) H') :
    tLockE (GX.tDg (fun D => dNO ktL P w D []) (GX.putN ktL P w K) (GX.iKeysN ktL P w (tVar i)) (gName j) tYes (tVar j) tv [j]) σ H Q := by
  have zl := zl
  refine ⟨d, _, hd, trivial, fun od => ?_⟩
  have rL : RS H (upd H d (.frz od (dNO ktL P w d es))) := GX.rs_lock hd (fun _ _ h => nomatch h)
  have hL0 : upd H d (.frz od (dNO ktL P w d es)) d = some (.frz od (dNO ktL P w d es)) := upd_same
  refine ⟨_, hi, d, od, es, rfl, hL0, fun D nD => ?_⟩
  have nDd : D ≠ d := fun e => by rw [e, hL0] at nD; cases nD
  refine GX.dg_it (o0 := fun D => dNO ktL P w D []) (put := GX.putN ktL P w K) (GX.walk_N (T := ktL) (P := P) (w := w)) (fun m H' => Same (upd H d (.frz od (dNO ktL P w d es))) H' ∧ ∃ es', H' D = some (dNO ktL P w D es') ∧ KeysAt ktL K H' es' ∧ es'.map (·.1) = (es.take m).map (·.1) ∧ ∀ e' ∈ es', ∃ e ∈ es, e.1 = e'.1 ∧ Good e e'.2.2 H')
    ⟨same_new nD, [], upd_same, (fun _ h => nomatch h), rfl, (fun _ h => nomatch h)⟩ ?_ ?_ ?_
  · rintro m H' _ ⟨s, _⟩
    exact s _ _ hL0
  · rintro m x H1 H1' hm ⟨s, es', eD, ka, kk, vv⟩ ⟨rfl, e, he, rfl⟩
    have hem := List.mem_of_getElem? he
    refine ⟨hj _, _, hjj _, step e hem od _ _ s fun v H2 s2 good => ?_⟩
    have hke := ln_ts (ts_same s2) (ln_ts (ts_same s) (ln_ts (rL.tst (K := K)) (hk e hem)))
    have eD2 := s2 _ _ eD
    have nk : e.1 ∉ es'.map (·.1) := fun h => by
      rw [kk] at h
      have e1 : es.map (·.1) = (es.take m).map (·.1) ++ (e.1 :: (es.drop (m + 1)).map (·.1)) := by
        have h1 : es = es.take m ++ (e :: es.drop (m + 1)) := by
          have hlt : m < es.length := hm
          rw [show e = es[m] from (by rw [List.getElem?_eq_getElem hlt] at he; exact (Option.some.inj he).symm), List.getElem_cons_drop, List.take_append_drop]
        conv => lhs; rw [h1]
        rw [List.map_append]
        rfl
      rw [e1, List.nodup_append] at nd
      exact nd.2.2 _ h _ List.mem_cons_self rfl
    have le : es'.length ≤ es.length := by
      have := congrArg List.length kk
      rw [List.length_map, List.length_map, List.length_take] at this
      omega
    have lt := LTs.dict (K := K) (o := dNO ktL P w D (GX.dSt es' e.1 e.2.1 v)) eD2
    refine ⟨es', e.1, e.2.1, rfl, eD2, ka.ts (ts_same s2), hke, by omega, same_upd nD (same_trans s s2), _, upd_same, (GX.st_keys (ka.ts (ts_same s2)) hke).ts lt.t, ?_, fun e' he' => ?_⟩
    · rw [dst_keys, if_neg nk, kk, List.take_add_one, he, List.map_append]
      rfl
    · rcases dst_mem he' with ⟨h1, h2⟩ | ⟨h1, h2⟩
      · exact ⟨e, hem, h1.symm, by rw [h2]; exact hG _ _ _ _ lt good⟩
      · obtain ⟨e0, g1, g2, g3⟩ := vv e' h1
        exact ⟨e0, g1, g2, hG _ _ _ _ lt (hG _ _ _ _ (LTs.of (GX.rs_same s2)) g3)⟩
  · rintro H' ⟨s, es', eD, ka, kk, vv⟩
    have hlock := s _ _ hL0
    have rU := GX.rs_unlock hlock
    rw [List.take_length] at kk
    refine ⟨hlock, q D _ es' (fun b o hb => ?_) ?_ ((upd_ne nDd).trans eD) (ka.ts rU.tst) kk fun e' he' => ?_⟩
    · by_cases e : b = d
      · subst e
        rw [hd] at hb
        cases hb
        exact upd_same
      · rw [upd_ne e]
        exact s b o ((upd_ne e).trans hb)
    · rw [upd_ne nDd] at nD
      exact nD
    · obtain ⟨e0, g1, g2, g3⟩ := vv e' he'
      exact ⟨e0, g1, g2, hG _ _ _ _ (LTs.of rU) g3⟩
end
end K12
namespace K12
open PySem PySem.Spec PyProof.Rows L2 TR QR
open GX (KT kd kdAll RS TSt dNO KeysAt)
variable [Sg]
abbrev sCls (i : Nat) : Stmt := inClass (topS 23) i
abbrev sIN : Stmt := sCls 0
abbrev nIN : List Str := ["self", "lines", "present", "edges", "line", "k"]
theorem scIN : FnScope nIN ["self", "lines", "present", "edges"] (defScope sIN) := ⟨rfl, rfl, rfl, by decide +kernel, rfl, by decide +kernel, by decide +kernel⟩
abbrev sML : Stmt := sCls 4
abbrev nML : List Str := ["self"]
theorem scML : FnScope nML ["self"] (defScope sML) := ⟨rfl, rfl, rfl, by decide +kernel, rfl, by decide +kernel, by decide +kernel⟩
/-! ### the object -/
def fLi : Str := "lines"
def grF (al ap ae ab at' ar : Addr) : List (Str × V) := putF "earlier" (.ref ar) (putF "later" (.ref at') (putF "bits" (.ref ab) (putF "edges" (.ref ae) (putF "present" (.ref ap) (putF "lines" (.ref al) [])))))
section
variable {al ap ae ab at' ar : Addr}
theorem gr_lines : (grF al ap ae ab at' ar).lookup ("lines" : Str) = some (.ref al) := by
  unfold grF
  rw [lookup_putF, if_neg (by decide +kernel), lookup_putF, if_neg (by decide +kernel), lookup_putF, if_neg (by decide +kernel), lookup_putF, if_neg (by decide +kernel), lookup_putF, if_neg (by decide +kernel), lookup_putF, if_pos rfl]
theorem gr_present : (grF al ap ae ab at' ar).lookup ("present" : Str) = some (.ref ap) := by
  unfold grF
  rw [lookup_putF, if_neg (by decide +kernel), lookup_putF, if_neg (by decide +kernel), lookup_putF, if_neg (by decide +kernel), lookup_putF, if_neg (by decide +kernel), lookup_putF, if_pos rfl]
theorem gr_edges : (grF al ap ae ab at' ar).lookup ("edges" : Str) = some (.ref ae) := by
  unfold grF
  rw [lookup_putF, if_neg (by decide +kernel), lookup_putF, if_neg (by decide +kernel), lookup_putF, if_neg (by decide +kernel), lookup_putF, if_pos rfl]
theorem gr_bits : (grF al ap ae ab at' ar).lookup ("bits" : Str) = some (.ref ab) := by
  unfold grF
  rw [lookup_putF, if_neg (by decide +kernel), lookup_putF, if_neg (by decide +kernel), lookup_putF, if_pos rfl]
theorem gr_later : (grF al ap ae ab at' ar).lookup ("later" : Str) = some (.ref at') := by
  unfold grF
  rw [lookup_putF, if_neg (by decide +kernel), lookup_putF, if_pos rfl]
theorem gr_no {m : Str} (h : m ≠ "earlier" ∧ m ≠ "later" ∧ m ≠ "bits" ∧ m ≠ "edges" ∧ m ≠ "present" ∧ m ≠ "lines") : (grF al ap ae ab at' ar).lookup m = none := by
  unfold grF
  rw [lookup_putF, if_neg h.1, lookup_putF, if_neg h.2.1, lookup_putF, if_neg h.2.2.1, lookup_putF, if_neg h.2.2.2.1, lookup_putF, if_neg h.2.2.2.2.1, lookup_putF, if_neg h.2.2.2.2.2]
  rfl
end
theorem no_pl : ("present_lines" : Str) ≠ "earlier" ∧ ("present_lines" : Str) ≠ "later" ∧ ("present_lines" : Str) ≠ "bits" ∧ ("present_lines" : Str) ≠ "edges" ∧ ("present_lines" : Str) ≠ "present" ∧ ("present_lines" : Str) ≠ "lines" := by decide +kernel
/-- a dict of lines with texts -/
def TxtsAt (P : Program) (w : World) (K : PySem.W.Frag) (H : Hp) (r : Addr) (ks : List Nat) (tx : Nat → Str) : Prop :=
  ∃ es : List (Nat × Addr × V), Rd H r (dNO ktL P w r es) ∧ KeysAt ktL K H es ∧ es.map (·.1) = ks ∧ ∀ e ∈ es, e.2.2 = .str (tx e.1)
/-- a dict of lines with True -/
def OnesAt (P : Program) (w : World) (K : PySem.W.Frag) (H : Hp) (r : Addr) (ks : List Nat) : Prop :=
  ∃ es : List (Nat × Addr × V), Rd H r (dNO ktL P w r es) ∧ KeysAt ktL K H es ∧ es.map (·.1) = ks ∧ ∀ e ∈ es, e.2.2 = .bl true
structure Txt (K : PySem.W.Frag) (mg : Str → Option Value) (C : Addr) : Prop where
  cl : Cls K C
  n1 : NoAttr K C "lines"
  n2 : NoAttr K C "present"
  n3 : NoAttr K C "edges"
  n4 : NoAttr K C "bits"
  n5 : NoAttr K C "later"
  n6 : NoAttr K C "earlier"
  mg : mg "FileGraph" = some (.ref C)
section
variable {P : Program} {w : World} {K : PySem.W.Frag} {H H' : Hp}
theorem TxtsAt.rs {r : Addr} {ks : List Nat} {tx : Nat → Str} (s : RS H H') (h : TxtsAt P w K H r ks tx) : TxtsAt P w K H' r ks tx := by
  obtain ⟨es, h1, h2, h3, h4⟩ := h
  exact ⟨es, s.dn h1, h2.ts s.tst, h3, h4⟩
theorem OnesAt.rs {r : Addr} {ks : List Nat} (s : RS H H') (h : OnesAt P w K H r ks) : OnesAt P w K H' r ks := by
  obtain ⟨es, h1, h2, h3, h4⟩ := h
  exact ⟨es, s.dn h1, h2.ts s.tst, h3, h4⟩
/-- the graph -/
structure GrAt (P : Program) (w : World) (K : PySem.W.Frag) (C : Addr) (H : Hp) (x : Addr) (n : Nat) (kp ks : List Nat) (g : Nat → List Nat) (tx : Nat → Str) : Prop where
  ex : ∃ (dx al ap ae ab at' ar : Addr) (js : List Nat) (M : Nat → Nat), H x = some (.ins C dx (grF al ap ae ab at' ar)) ∧ TxtsAt P w K H al (List.range n) tx ∧ OnesAt P w K H ap kp ∧ EdgesAt P w K H ae ks g ∧ NumsAt P w K H ab (List.range n) (fun k => 2 ^ k) ∧ NumsAt P w K H at' js M ∧ (∀ k, k ∈ js ↔ k < n) ∧ (∀ k j, k < n → ((M k).testBit j = true ↔ TG (fun a b => b ∈ g a) k j)) ∧ (∀ k, M k < 2 ^ n) ∧
    ∃ (js2 : List Nat) (M2 : Nat → Nat), NumsAt P w K H ar js2 M2 ∧ (∀ k, k ∈ js2 ↔ k < n) ∧ (∀ k j, k < n → ((M2 k).testBit j = true ↔ TG (fun a b => b ∈ g a) j k)) ∧ ∀ k, M2 k < 2 ^ n
theorem GrAt.rs {C x : Addr} {n : Nat} {kp ks : List Nat} {g : Nat → List Nat} {tx : Nat → Str} (s : RS H H') (e : H' x = H x) (h : GrAt P w K C H x n kp ks g tx) : GrAt P w K C H' x n kp ks g tx := by
  obtain ⟨dx, al, ap, ae, ab, at', ar, js, M, h1, h2, h3, h4, h5, h6, h7, h8, h9, js2, M2, h10, h11⟩ := h.ex
  exact ⟨dx, al, ap, ae, ab, at', ar, js, M, e.trans h1, h2.rs s, h3.rs s, h4.rs s, h5.rs s, h6.rs s, h7, h8, h9, js2, M2, h10.rs s, h11⟩
theorem GrAt.same {C x : Addr} {n : Nat} {kp ks : List Nat} {g : Nat → List Nat} {tx : Nat → Str} (s : Same H H') (h : GrAt P w K C H x n kp ks g tx) : GrAt P w K C H' x n kp ks g tx := by
  obtain ⟨dx, al, ap, ae, ab, at', ar, js, M, h1, _⟩ := h.ex
  exact h.rs (GX.rs_same s) ((s _ _ h1).trans h1.symm)
end
theorem and_nat (a b : Nat) : Builtin.bitAnd (a : Int) (b : Int) = ((a &&& b : Nat) : Int) := by
  rw [PyProof.Rows.bitAnd_pp (by omega) (by omega)]
  simp
section
variable {P : Program} {w : World} {K : PySem.W.Frag} {mg : Str → Option Value} {base : Heap} {C : Addr}
def spML (P : Program) (w : World) (K : PySem.W.Frag) (C : Addr) : Sp := fun vs H Q _ => ∃ (x : Addr) (n : Nat) (kp ks : List Nat) (g : Nat → List Nat) (tx : Nat → Str), vs = [.ref x] ∧ GrAt P w K C H x n kp ks g tx ∧ kp.Pairwise (· ≤ ·) ∧
  ∀ p H' (F : List (Nat × V)), H p = none → Same H H' → H' p = some (.lst (F.map (·.2))) → LAt K H' F → F.map (·.1) = kp → Q (.ref p) H'
theorem ok_ML {f : Addr} {fd : FuncData} (F : Fun K "present_lines" "FileGraph.present_lines" sML f fd) (T : Txt K mg C) (m_sorted : mg "sorted" = none) : FnOk P w K mg base CX0 1 f fd ["self"] (spML P w K C) := by
  refine F.ok scML (fun vs H Q E h => ?_) (fun cdv A outer s H vs Q E hr h => ?_)
  · obtain ⟨x, n, kp, ks, g, tx, rfl, _⟩ := h
    rfl
  · obtain ⟨x, n, kp, ks, g, tx, rfl, hg, hp, q⟩ := h
    have hu := hr.units
    have hu1 := hu_of hr
    have zl := zl
    refine ⟨_, (pss_one (ps_ret (pe_callB (GX.cr_sortedN (T := ktL) rfl hu) (by rfl) m_sorted (by decide +kernel) (pa_cons (pe_fld (pv 0) rfl) pa_nil)))), ?_⟩
    obtain ⟨dx, al, ap, ae, ab, at', ar, js, M, h1, h2, ⟨es, e1, e2, e3, _⟩, _⟩ := hg.ex
    obtain ⟨al', so⟩ := able_L (fun e : Nat × Addr × V => e.1) es
    refine ⟨_, rfl, x, C, dx, _, _, rfl, h1, T.cl, T.n2, gr_present, ap, es, rfl, e1, e2, al', so, fun p np => ?_⟩
    have sB : GX.sortN ktL es = es := sorted_asc (fun e : Nat × Addr × V => e.1) (by
      rw [← e3, List.pairwise_map] at hp
      exact hp)
    rw [sB]
    refine q p _ (es.map fun e => (e.1, V.ref e.2.1)) np (same_new np) (by rw [upd_same, List.map_map]; rfl) (fun e he => ?_) (by rw [List.map_map]; exact e3)
    obtain ⟨y, hy, rfl⟩ := List.mem_map.mp he
    exact ln_ts (ts_new np) (e2 y hy)
end
end K12
namespace K12
open PySem PySem.Spec PyProof.Rows L2 TR QR
open GX (KT kd kdAll RS TSt dNO KeysAt)
variable [Sg]
/-- all but x stays -/
def EX (x : Addr) (H H' : Hp) : Prop := ∀ b o, b ≠ x → H b = some o → H' b = some o
theorem EX.trans {x : Addr} {H H1 H2 : Hp} (a : EX x H H1) (b : EX x H1 H2) : EX x H H2 := fun y o n h => b y o n (a y o n h)
theorem EX.same {x : Addr} {H H1 : Hp} (s : Same H H1) : EX x H H1 := fun y o _ h => s y o h
theorem EX.upd {x : Addr} {H : Hp} {o : HO} : EX x H (upd H x o) := fun y o' n h => (upd_ne n).trans h
def GoodE (K : PySem.W.Frag) (g : Nat → List Nat) (e : Nat × Addr × V) (v : V) (H : Hp) : Prop := ∃ (l : Addr) (F : List (Nat × V)), v = .ref l ∧ SqL K H l (F.map (·.2)) ∧ LAt K H F ∧ F.map (·.1) = g e.1
theorem GoodE.lt {K : PySem.W.Frag} {g : Nat → List Nat} (e : Nat × Addr × V) (v : V) (H1 H2 : Hp) (t : LTs K H1 H2) : GoodE K g e v H1 → GoodE K g e v H2 := fun ⟨l, F, b1, b2, b3, b4⟩ => ⟨l, F, b1, t.l _ _ b2, b3.ts t.t, b4⟩
theorem TG.snoc {E : Nat → Nat → Prop} {a b c : Nat} (h : TG E a b) (e : E b c) : TG E a c := h.trans (.base e)
theorem tg_rev {E F : Nat → Nat → Prop} (h : ∀ a b, F a b ↔ E b a) {k j : Nat} : TG F k j ↔ TG E j k := by
  constructor
  · intro t
    induction t with
    | base e => exact .base ((h _ _).mp e)
    | step e _ ih => exact ih.snoc ((h _ _).mp e)
  · intro t
    induction t with
    | base e => exact .base ((h _ _).mpr e)
    | step e _ ih => exact ih.snoc ((h _ _).mpr e)
theorem fld_seq {K : PySem.W.Frag} {ta tv : TE} {f : Str} {t : TS} {D : Ends} {σ : L2.St} {H : Hp} (h : tv σ H fun y H1 => ta σ H1 fun x H2 => ∃ a C dx fs, x = .ref a ∧ H2 a = some (.ins C dx fs) ∧ Cls K C ∧ NoAttr K C f ∧ fs.length < 1000 ∧ t D σ (upd H2 a (.ins C dx (putF f y fs)))) : tSeq (sFld K ta tv f) t D σ H := h
section
variable {P : Program} {w : World} {K : PySem.W.Frag} {mg : Str → Option Value} {base : Heap} {C : Addr}
def spIN (P : Program) (w : World) (K : PySem.W.Frag) (C : Addr) : Sp := fun vs H Q _ => ∃ (x dx dl dp de : Addr) (esl esp ese : List (Nat × Addr × V)) (n : Nat) (kp ks : List Nat) (g : Nat → List Nat) (tx : Nat → Str), vs = [.ref x, .ref dl, .ref dp, .ref de] ∧ H x = some (.ins C dx []) ∧
  H dl = some (dNO ktL P w dl esl) ∧ KeysAt ktL K H esl ∧ esl.map (·.1) = List.range n ∧ (∀ e ∈ esl, e.2.2 = .str (tx e.1)) ∧
  H dp = some (dNO ktL P w dp esp) ∧ KeysAt ktL K H esp ∧ esp.map (·.1) = kp ∧ kp.Nodup ∧ (∀ k ∈ kp, k < n) ∧
  H de = some (dNO ktL P w de ese) ∧ KeysAt ktL K H ese ∧ ese.map (·.1) = ks ∧ ks.Nodup ∧ (∀ k ∈ ks, k < n) ∧ (∀ e ∈ ese, ∃ (l : Addr) (F : List (Nat × V)), e.2.2 = .ref l ∧ SqL K H l (F.map (·.2)) ∧ LAt K H F ∧ F.map (·.1) = g e.1) ∧
  (∀ k, k ∉ ks → g k = []) ∧ (∀ k j, j ∈ g k → j < n) ∧ degs g ks ≤ 100 ∧ (∀ k, (g k).length ≤ 100) ∧ n ≤ 16 ∧
  ∀ H', EX x H H' → GrAt P w K C H' x n kp ks g tx → Q .non H'
theorem ok_IN {f fMA fBA : Addr} {fd fdMA fdBA : FuncData} (F : Fun K "__init__" "FileGraph.__init__" sIN f fd) (T : Txt K mg C)
    (GMA : FnOk P w K mg base CX0 2 fMA fdMA ["edges", "bits"] (spMA P w K)) (bMA : Binds K fdMA ["edges", "bits"] []) (gMA : mg "masks_along" = some (.ref fMA)) (kMA : PySem.W.keepIn K (.ref fMA) = true)
    (GBA : FnOk P w K mg base CX0 1 fBA fdBA ["edges"] (spBA P w K)) (bBA : Binds K fdBA ["edges"] []) (gBA : mg "backwards" = some (.ref fBA)) (kBA : PySem.W.keepIn K (.ref fBA) = true)
    (m_list : mg "list" = none) (m_sorted : mg "sorted" = none) (m_enumerate : mg "enumerate" = none) : FnOk P w K mg base CX0 3 f fd ["self", "lines", "present", "edges"] (spIN P w K C) := by
  refine F.ok scIN (fun vs H Q E h => ?_) (fun cdv A outer s H vs Q E hr h => ?_)
  · obtain ⟨x, dx, dl, dp, de, esl, esp, ese, n, kp, ks, g, tx, rfl, _⟩ := h
    rfl
  · obtain ⟨x, dx, dl, dp, de, esl, esp, ese, n, kp, ks, g, tx, rfl, hx, l1, l2, l3, l4, p1, p2, p3, p4, p5, e1, e2, e3, e4, e5, e6, g1, g2, g3, g4, hn, q⟩ := h
    have hu := hr.units
    have hu1 := hu_of hr
    have hr1 : Room 1 _ := hr.mono (by decide)
    have hr2 : Room 2 _ := hr.mono (by decide)
    have zl := zl
    refine ⟨_, (pss_cons (ps_fld (pv 0) (pe_lock (GX.pe_dg (o0 := fun D => GX.dNO ktL P w D []) (put := GX.putN ktL P w K) (own := [("line", 4)]) (g := gName 4) (tt := tYes) (tk := tVar 4) (tv := tOp (GX.rIxN ktL P w K) (tVar 1) (tVar 4)) (fun H h hb => GX.dg_empty H h hb) rfl scIN.nd (GX.pi_keysN (T := ktL) (pv 1)) (blkOk_by (N := nIN) (sc := defScope sIN) (by decide +kernel)) (fun _ _ _ _ _ => by exact pg_name (i := 4) scIN.nd rfl (.inl rfl)) (fun _ _ _ _ _ => pts_nil) (fun _ _ _ _ _ => by exact pv 4) (fun _ _ _ _ _ => by exact pe_ix (GX.ix_N (T := ktL) hu) (pv 1) (pv 4) (fun _ _ => rfl)) (fun _ _ _ _ _ => GX.putR_N hu))) rfl)
      (pss_cons (ps_fld (pv 0) (pe_lock (GX.pe_dg (o0 := fun D => GX.dNO ktL P w D []) (put := GX.putN ktL P w K) (own := [("line", 4)]) (g := gName 4) (tt := tYes) (tk := tVar 4) (tv := tC (.bl true)) (fun H h hb => GX.dg_empty H h hb) rfl scIN.nd (GX.pi_keysN (T := ktL) (pv 2)) (blkOk_by (N := nIN) (sc := defScope sIN) (by decide +kernel)) (fun _ _ _ _ _ => by exact pg_name (i := 4) scIN.nd rfl (.inl rfl)) (fun _ _ _ _ _ => pts_nil) (fun _ _ _ _ _ => by exact pv 4) (fun _ _ _ _ _ => by exact pe_bl) (fun _ _ _ _ _ => GX.putR_N hu))) rfl)
      (pss_cons (ps_fld (pv 0) (pe_lock (GX.pe_dg (o0 := fun D => GX.dNO ktL P w D []) (put := GX.putN ktL P w K) (own := [("line", 4)]) (g := gName 4) (tt := tYes) (tk := tVar 4) (tv := tCB (fun xs H Q => ∃ p ys, xs = [.ref p] ∧ (SqL K H p ys ∨ SqT K H p ys) ∧ ∀ l, H l = none → Q (.ref l) (upd H l (.lst ys))) (tCons (tOp (GX.rIxN ktL P w K) (tVar 3) (tVar 4)) tNil)) (fun H h hb => GX.dg_empty H h hb) rfl scIN.nd (GX.pi_keysN (T := ktL) (pv 3)) (blkOk_by (N := nIN) (sc := defScope sIN) (by decide +kernel)) (fun _ _ _ _ _ => by exact pg_name (i := 4) scIN.nd rfl (.inl rfl)) (fun _ _ _ _ _ => pts_nil) (fun _ _ _ _ _ => by exact pv 4) (fun _ _ _ _ _ => by exact pe_callTy call_list_of (by rfl) m_list (by decide +kernel) (pa_cons (pe_ix (GX.ix_N (T := ktL) hu) (pv 3) (pv 4) (fun _ _ => rfl)) pa_nil)) (fun _ _ _ _ _ => GX.putR_N hu))) rfl)
      (pss_cons (ps_fld (pv 0) (GX.pe_dg (o0 := fun D => GX.dNO ktL P w D []) (put := GX.putN ktL P w K) (own := [("k", 5), ("line", 4)]) (g := gTup K 2 (gCons (gName 5) (gCons (gName 4) gNil))) (tt := tYes) (tk := tVar 4) (tv := tOp (rI CPow fun i j => .int (i * 2 ^ j.toNat)) (tC (.int 1)) (tVar 5)) (fun H h hb => GX.dg_empty H h hb) rfl scIN.nd (pi_enum (by rfl) m_enumerate (pa_cons (pe_callB (GX.cr_sortedN (T := ktL) rfl hu) (by rfl) m_sorted (by decide +kernel) (pa_cons (pv 1) pa_nil)) pa_nil)) (blkOk_by (N := nIN) (sc := defScope sIN) (by decide +kernel)) (fun _ _ _ _ _ => by exact pg_tup (by rfl) (pgs_cons (pg_name (i := 5) scIN.nd rfl (.inl rfl)) (pgs_cons (pg_name (i := 4) scIN.nd rfl (.inl rfl)) pgs_nil))) (fun _ _ _ _ _ => pts_nil) (fun _ _ _ _ _ => by exact pv 4) (fun _ _ _ _ _ => by exact pe_op op_shl (pe_int) (pv 5)) (fun _ _ _ _ _ => GX.putR_N hu)) rfl)
      (pss_cons (ps_fld (pv 0) (pe_call GMA hr2 (by rfl) gMA kMA bMA .nil pass0 (pa_cons (pe_fld (pv 0) rfl) (pa_cons (pe_fld (pv 0) rfl) pa_nil))) rfl)
      (pss_one (ps_fld (pv 0) (pe_call GMA hr2 (by rfl) gMA kMA bMA .nil pass0 (pa_cons (pe_call GBA hr1 (by rfl) gBA kBA bBA .nil pass0 (pa_cons (pe_fld (pv 0) rfl) pa_nil)) (pa_cons (pe_fld (pv 0) rfl) pa_nil))) rfl))))))), ?_⟩
    have nlx : dl ≠ x := fun e => by rw [e, hx] at l1; cases l1
    have npx : dp ≠ x := fun e => by rw [e, hx] at p1; cases p1
    have nex : de ≠ x := fun e => by rw [e, hx] at e1; cases e1
    have ll : esl.length = n := by
      have := congrArg List.length l3
      rwa [List.length_map, List.length_range] at this
    have lp : esp.length ≤ n := by
      have := nat_nodup_len p4 (m := List.range n) fun x hx => List.mem_range.mpr (p5 x hx)
      rw [← p3, List.length_map, List.length_range] at this
      exact this
    have le : ese.length ≤ n := by
      have := nat_nodup_len e4 (m := List.range n) fun x hx => List.mem_range.mpr (e5 x hx)
      rw [← e3, List.length_map, List.length_range] at this
      exact this
    have ndl : (esl.map (·.1)).Nodup := by rw [l3]; exact List.nodup_range
    -- lines
    refine fld_seq ?_
    refine cp_keys (i := 1) (j := 4) (fun e v _ => v = .str (tx e.1)) (fun _ _ _ _ _ h => h) l1 l2 ndl (by omega) rfl (by intro _; rfl) (by intro _; rfl) (fun e he od H1 R s1 hR => ?_) (fun D1 H1 es1 s1 nD1 a1 a2 a3 a4 => ?_)
    · have hd := s1 _ _ (upd_same (H := H) (a := dl) (o := .frz od (dNO ktL P w dl esl)))
      have rL : RS H (upd H dl (.frz od (dNO ktL P w dl esl))) := GX.rs_lock l1 (fun _ _ h => nomatch h)
      have ta : TSt K H H1 := (rL.trans (GX.rs_same s1)).tst
      exact ⟨_, rfl, _, rfl, dl, e.2.1, esl, e.1, e, rfl, rfl, .inr ⟨od, hd⟩, l2.ts ta, ln_ts ta (l2 e he), find_nodup ndl he, hR _ _ same_refl (l4 e he)⟩
    refine ⟨_, rfl, x, C, dx, [], rfl, s1 _ _ hx, T.cl, T.n1, by show 0 < 1000; decide, ?_⟩
    have x1 : EX x H (upd H1 x (.ins C dx (putF "lines" (.ref D1) []))) := (EX.same s1).trans EX.upd
    have r1 : RS H (upd H1 x (.ins C dx (putF "lines" (.ref D1) []))) := (GX.rs_same s1).trans (GX.rs_ins (s1 _ _ hx))
    have nD1x : D1 ≠ x := fun e => by rw [e, hx] at nD1; cases nD1
    have T1 : TxtsAt P w K (upd H1 x (.ins C dx (putF "lines" (.ref D1) []))) D1 (List.range n) tx := TxtsAt.rs (GX.rs_ins (s1 _ _ hx)) ⟨es1, .inl a1, a2, a3.trans l3, fun e' he' => by
      obtain ⟨e, _, h2, h3⟩ := a4 e' he'
      rw [h3, h2]⟩
    have hx1 : upd H1 x (.ins C dx (putF "lines" (.ref D1) [])) x = some (.ins C dx (putF "lines" (.ref D1) [])) := upd_same
    show tSeq _ _ _ _ (upd H1 x (.ins C dx (putF "lines" (.ref D1) [])))
    generalize upd H1 x (.ins C dx (putF "lines" (.ref D1) [])) = H2 at x1 r1 T1 hx1
    clear a1 a2 a3 a4 s1
    -- present
    have p1' := x1 _ _ npx p1
    refine fld_seq ?_
    refine cp_keys (i := 2) (j := 4) (fun e v _ => v = .bl true) (fun _ _ _ _ _ h => h) p1' (p2.ts r1.tst) (by rw [p3]; exact p4) (by omega) rfl (by intro _; rfl) (by intro _; rfl) (fun e he od H1 R s1 hR => hR _ _ same_refl rfl) (fun D2 H3 es2 s2 nD2 a1 a2 a3 a4 => ?_)
    refine ⟨_, rfl, x, C, dx, _, rfl, s2 _ _ hx1, T.cl, T.n2, by show 1 < 1000; decide, ?_⟩
    have x2 : EX x H (upd H3 x (.ins C dx (putF "present" (.ref D2) (putF "lines" (.ref D1) [])))) := (x1.trans (EX.same s2)).trans EX.upd
    have r2' : RS H2 (upd H3 x (.ins C dx (putF "present" (.ref D2) (putF "lines" (.ref D1) [])))) := (GX.rs_same s2).trans (GX.rs_ins (s2 _ _ hx1))
    have r2 := r1.trans r2'
    have T2 := T1.rs r2'
    have O2 : OnesAt P w K (upd H3 x (.ins C dx (putF "present" (.ref D2) (putF "lines" (.ref D1) [])))) D2 kp := OnesAt.rs (GX.rs_ins (s2 _ _ hx1)) ⟨es2, .inl a1, a2, a3.trans p3, fun e he => (a4 e he).elim fun _ h => h.2.2⟩
    have hx2 : upd H3 x (.ins C dx (putF "present" (.ref D2) (putF "lines" (.ref D1) []))) x = some (.ins C dx (putF "present" (.ref D2) (putF "lines" (.ref D1) []))) := upd_same
    show tSeq _ _ _ _ (upd H3 x (.ins C dx (putF "present" (.ref D2) (putF "lines" (.ref D1) []))))
    generalize upd H3 x (.ins C dx (putF "present" (.ref D2) (putF "lines" (.ref D1) []))) = H4 at x2 r2' r2 T2 O2 hx2
    clear a1 a2 a3 a4 s2 T1 hx1 r2' x1 r1
    -- edges
    have e1' := x2 _ _ nex e1
    have nde : (ese.map (·.1)).Nodup := by rw [e3]; exact e4
    refine fld_seq ?_
    refine cp_keys (i := 3) (j := 4) (GoodE K g) GoodE.lt e1' (e2.ts r2.tst) nde (by omega) rfl (by intro _; rfl) (by intro _; rfl) (fun e he od H5 R s5 hR => ?_) (fun D3 H5 es3 s3 nD3 a1 a2 a3 a4 => ?_)
    · have hd := s5 _ _ (upd_same (H := H4) (a := de) (o := .frz od (dNO ktL P w de ese)))
      have rL : RS H4 (upd H4 de (.frz od (dNO ktL P w de ese))) := GX.rs_lock e1' (fun _ _ h => nomatch h)
      have ra : RS H H5 := r2.trans (rL.trans (GX.rs_same s5))
      obtain ⟨l, F, b1, b2, b3, b4⟩ := e6 e he
      have hke := ln_ts ra.tst (e2 e he)
      have hf := find_nodup nde he
      obtain ⟨k, a, v⟩ := e
      simp only at b1 b4 hke hf
      subst b1
      exact ⟨_, rfl, _, rfl, de, a, ese, k, _, rfl, rfl, .inr ⟨od, hd⟩, e2.ts ra.tst, hke, hf, l, _, rfl, .inl (ra.sql b2), fun p np => hR _ _ (same_new np) ⟨p, F, rfl, SqL.of upd_same, (b3.ts ra.tst).ts (ts_new np), b4⟩⟩
    refine ⟨_, rfl, x, C, dx, _, rfl, s3 _ _ hx2, T.cl, T.n3, by show 2 < 1000; decide, ?_⟩
    have nD3x : D3 ≠ x := fun e => by rw [e, hx2] at nD3; cases nD3
    have x3 : EX x H (upd H5 x (.ins C dx (putF "edges" (.ref D3) (putF "present" (.ref D2) (putF "lines" (.ref D1) []))))) := (x2.trans (EX.same s3)).trans EX.upd
    have r3' : RS H4 (upd H5 x (.ins C dx (putF "edges" (.ref D3) (putF "present" (.ref D2) (putF "lines" (.ref D1) []))))) := (GX.rs_same s3).trans (GX.rs_ins (s3 _ _ hx2))
    have ri : RS H5 (upd H5 x (.ins C dx (putF "edges" (.ref D3) (putF "present" (.ref D2) (putF "lines" (.ref D1) []))))) := GX.rs_ins (s3 _ _ hx2)
    have r3 := r2.trans r3'
    have T3 := T2.rs r3'
    have O3 := O2.rs r3'
    have hD3 : upd H5 x (.ins C dx (putF "edges" (.ref D3) (putF "present" (.ref D2) (putF "lines" (.ref D1) [])))) D3 = some (dNO ktL P w D3 es3) := (upd_ne nD3x).trans a1
    have k3 := a2.ts (ri.tst (K := K))
    have v3 : ∀ e ∈ es3, ∃ (l : Addr) (F : List (Nat × V)), e.2.2 = .ref l ∧ SqL K (upd H5 x (.ins C dx (putF "edges" (.ref D3) (putF "present" (.ref D2) (putF "lines" (.ref D1) []))))) l (F.map (·.2)) ∧ LAt K (upd H5 x (.ins C dx (putF "edges" (.ref D3) (putF "present" (.ref D2) (putF "lines" (.ref D1) []))))) F ∧ F.map (·.1) = g e.1 := fun e' he' => by
      obtain ⟨e, _, h2, l, F, b1, b2, b3, b4⟩ := a4 e' he'
      exact ⟨l, F, b1, ri.sql b2, b3.ts ri.tst, by rw [b4, h2]⟩
    have hx3 : upd H5 x (.ins C dx (putF "edges" (.ref D3) (putF "present" (.ref D2) (putF "lines" (.ref D1) [])))) x = some (.ins C dx (putF "edges" (.ref D3) (putF "present" (.ref D2) (putF "lines" (.ref D1) [])))) := upd_same
    have m3 := a3.trans e3
    show tSeq _ _ _ _ (upd H5 x (.ins C dx (putF "edges" (.ref D3) (putF "present" (.ref D2) (putF "lines" (.ref D1) [])))))
    generalize upd H5 x (.ins C dx (putF "edges" (.ref D3) (putF "present" (.ref D2) (putF "lines" (.ref D1) [])))) = H6 at x3 r3' r3 T3 O3 hD3 k3 v3 hx3 ri
    clear a1 a2 a3 a4 s3 T2 O2 hx2 r3' x2 r2 ri
    -- bits
    have l1' := x3 _ _ nlx l1
    have l2' := l2.ts (r3.tst (K := K))
    obtain ⟨al, so⟩ := able_L (fun e : Nat × Addr × V => e.1) esl
    have sB : GX.sortN ktL esl = esl := sorted_asc (fun e : Nat × Addr × V => e.1) (by
      have : (esl.map (·.1)).Pairwise (· ≤ ·) := by
        rw [l3]
        exact List.pairwise_lt_range.imp fun h => Nat.le_of_lt h
      rwa [List.pairwise_map] at this)
    refine ⟨_, rfl, dl, esl, rfl, .inl l1', l2', al, so, fun p np => ?_⟩
    rw [sB]
    refine ⟨p, _, rfl, SqL.of upd_same, fun D4 nD4 => ?_⟩
    have sp := same_new (o := .lst (esl.map fun e => V.ref e.2.1)) np
    have hp6 : upd H6 p (.lst (esl.map fun e => V.ref e.2.1)) p = some (.lst (esl.map fun e => V.ref e.2.1)) := upd_same
    generalize upd H6 p (.lst (esl.map fun e => V.ref e.2.1)) = H7 at nD4 sp hp6
    refine GX.dg_it (o0 := fun D => dNO ktL P w D []) (put := GX.putN ktL P w K) (walk_enum (K := K) (a := p) (xs := esl.map fun e => V.ref e.2.1)) (fun m H' => Same H7 H' ∧ ∃ es', H' D4 = some (dNO ktL P w D4 es') ∧ KeysAt ktL K H' es' ∧ es'.map (·.1) = (esl.take m).map (·.1) ∧ ∀ e ∈ es', e.2.2 = .int ((2 ^ e.1 : Nat) : Int))
      ⟨same_new nD4, [], upd_same, (fun _ h => nomatch h), rfl, (fun _ h => nomatch h)⟩ ?_ ?_ ?_
    · rintro m H' _ ⟨s, _⟩
      exact SqL.of (s _ _ hp6)
    · rintro m y H8 H8' hm ⟨s, es', eD, ka, kk, vv⟩ ⟨tt, y1, y2, rfl, nt, rfl, hy1, hy2⟩
      cases hy1
      obtain ⟨e, he, rfl⟩ := map_get hy2
      have hem := List.mem_of_getElem? he
      have em : e.1 = m := by
        have := get_map (·.1) he
        rw [l3, List.getElem?_range (by rw [List.length_map] at hm; omega)] at this
        exact (Option.some.inj this).symm
      have sT := same_new (o := .tup [.int (m : Int), V.ref e.2.1]) nt
      have hke := ln_ts (ts_same (same_trans s sT)) (ln_ts (ts_same sp) (l2' e hem))
      have nk : e.1 ∉ es'.map (·.1) := fun h => by
        rw [kk, List.map_take, l3, List.take_range] at h
        have := List.mem_range.mp h
        omega
      have le' : es'.length ≤ n := by
        have := congrArg List.length kk
        rw [List.length_map, List.length_map, List.length_take] at this
        omega
      have mn : m < n := by rw [List.length_map] at hm; omega
      refine ⟨_, _, rfl, SqT.of upd_same, rfl, _, _, rfl, _, _, rfl, rfl, rfl, _, rfl, _, rfl, _, _, rfl, rfl, ⟨by omega, by omega, by decide⟩, es', e.1, e.2.1, rfl, sT _ _ eD, ka.ts (ts_same sT), hke, by omega, same_upd nD4 (same_trans s sT), _, upd_same, (GX.st_keys (ka.ts (ts_same sT)) hke).ts (ts_dict (sT _ _ eD)), ?_, fun e' he' => ?_⟩
      · rw [dst_keys, if_neg nk, kk, List.take_add_one, he, List.map_append]
        rfl
      · rcases dst_mem he' with ⟨h1, h2⟩ | ⟨h1, h2⟩
        · rw [h2, h1, em]
          show V.int (1 * 2 ^ ((m : Int)).toNat) = _
          rw [Int.one_mul, Int.toNat_natCast]
          simp
        · exact vv e' h1
    rintro H8 ⟨s8, es4, eD4, k4, kk4, v4⟩
    rw [List.length_map, List.take_length, l3] at kk4
    have s68 := same_trans sp s8
    refine ⟨_, rfl, x, C, dx, _, rfl, s68 _ _ hx3, T.cl, T.n4, by show 3 < 1000; decide, ?_⟩
    have nD4x : D4 ≠ x := fun e => by
      have := sp _ _ hx3
      rw [← e, nD4] at this
      cases this
    have x4 : EX x H (upd H8 x (.ins C dx (putF "bits" (.ref D4) (putF "edges" (.ref D3) (putF "present" (.ref D2) (putF "lines" (.ref D1) [])))))) := (x3.trans (EX.same s68)).trans EX.upd
    have r4' : RS H6 (upd H8 x (.ins C dx (putF "bits" (.ref D4) (putF "edges" (.ref D3) (putF "present" (.ref D2) (putF "lines" (.ref D1) [])))))) := (GX.rs_same s68).trans (GX.rs_ins (s68 _ _ hx3))
    have T4 := T3.rs r4'
    have O4 := O3.rs r4'
    have hD34 : upd H8 x (.ins C dx (putF "bits" (.ref D4) (putF "edges" (.ref D3) (putF "present" (.ref D2) (putF "lines" (.ref D1) []))))) D3 = some (dNO ktL P w D3 es3) := (upd_ne nD3x).trans (s68 _ _ hD3)
    have k34 := k3.ts (r4'.tst (K := K))
    have v34 : ∀ e ∈ es3, ∃ (l : Addr) (F : List (Nat × V)), e.2.2 = .ref l ∧ SqL K (upd H8 x (.ins C dx (putF "bits" (.ref D4) (putF "edges" (.ref D3) (putF "present" (.ref D2) (putF "lines" (.ref D1) [])))))) l (F.map (·.2)) ∧ LAt K (upd H8 x (.ins C dx (putF "bits" (.ref D4) (putF "edges" (.ref D3) (putF "present" (.ref D2) (putF "lines" (.ref D1) [])))))) F ∧ F.map (·.1) = g e.1 := fun e' he' => by
      obtain ⟨l, F, b1, b2, b3, b4⟩ := v3 e' he'
      exact ⟨l, F, b1, r4'.sql b2, b3.ts r4'.tst, b4⟩
    have B4 : NumsAt P w K (upd H8 x (.ins C dx (putF "bits" (.ref D4) (putF "edges" (.ref D3) (putF "present" (.ref D2) (putF "lines" (.ref D1) [])))))) D4 (List.range n) (fun k => 2 ^ k) := NumsAt.rs (GX.rs_ins (s68 _ _ hx3)) ⟨es4, .inl eD4, k4, kk4, v4⟩
    have hx4 : upd H8 x (.ins C dx (putF "bits" (.ref D4) (putF "edges" (.ref D3) (putF "present" (.ref D2) (putF "lines" (.ref D1) []))))) x = some (.ins C dx (putF "bits" (.ref D4) (putF "edges" (.ref D3) (putF "present" (.ref D2) (putF "lines" (.ref D1) []))))) := upd_same
    show tSeq _ _ _ _ (upd H8 x (.ins C dx (putF "bits" (.ref D4) (putF "edges" (.ref D3) (putF "present" (.ref D2) (putF "lines" (.ref D1) []))))))
    generalize upd H8 x (.ins C dx (putF "bits" (.ref D4) (putF "edges" (.ref D3) (putF "present" (.ref D2) (putF "lines" (.ref D1) []))))) = H9 at x4 r4' T4 O4 hD34 k34 v34 B4 hx4
    clear s8 s68 eD4 k4 v4 k3 v3 hD3 hx3 T3 O3 sp hp6 nD4 x3 r3 r4'
    have E4 : EdgesAt P w K H9 D3 ks g := ⟨es3, .inl hD34, k34, m3, v34⟩
    -- later
    have lkE : (putF "bits" (.ref D4) (putF "edges" (.ref D3) (putF "present" (.ref D2) (putF "lines" (.ref D1) [])))).lookup ("edges" : Str) = some (.ref D3) := by
      rw [lookup_putF, if_neg (by decide +kernel), lookup_putF, if_pos rfl]
    have lkB : (putF "bits" (.ref D4) (putF "edges" (.ref D3) (putF "present" (.ref D2) (putF "lines" (.ref D1) [])))).lookup ("bits" : Str) = some (.ref D4) := by
      rw [lookup_putF, if_pos rfl]
    refine ⟨_, rfl, x, C, dx, _, _, rfl, hx4, T.cl, T.n3, lkE, _, rfl, x, C, dx, _, _, rfl, hx4, T.cl, T.n4, lkB, D3, D4, ks, g, n, rfl, E4, g1, B4, hn, g2, g4, fun H10 at' js M s10 nat hM hjs hlt hTG => ?_⟩
    refine ⟨_, rfl, x, C, dx, _, rfl, s10 _ _ hx4, T.cl, T.n5, by show 4 < 1000; decide, ?_⟩
    have r5' : RS H9 (upd H10 x (.ins C dx (putF "later" (.ref at') (putF "bits" (.ref D4) (putF "edges" (.ref D3) (putF "present" (.ref D2) (putF "lines" (.ref D1) []))))))) := (GX.rs_same s10).trans (GX.rs_ins (s10 _ _ hx4))
    have x5 : EX x H (upd H10 x (.ins C dx (putF "later" (.ref at') (putF "bits" (.ref D4) (putF "edges" (.ref D3) (putF "present" (.ref D2) (putF "lines" (.ref D1) []))))))) := (x4.trans (EX.same s10)).trans EX.upd
    have M5 := hM.rs (GX.rs_ins (s10 _ _ hx4) (o := .ins C dx (putF "later" (.ref at') (putF "bits" (.ref D4) (putF "edges" (.ref D3) (putF "present" (.ref D2) (putF "lines" (.ref D1) [])))))))
    have hD35 : upd H10 x (.ins C dx (putF "later" (.ref at') (putF "bits" (.ref D4) (putF "edges" (.ref D3) (putF "present" (.ref D2) (putF "lines" (.ref D1) [])))))) D3 = some (dNO ktL P w D3 es3) := (upd_ne nD3x).trans (s10 _ _ hD34)
    have hx5 : upd H10 x (.ins C dx (putF "later" (.ref at') (putF "bits" (.ref D4) (putF "edges" (.ref D3) (putF "present" (.ref D2) (putF "lines" (.ref D1) [])))))) x = some (.ins C dx (putF "later" (.ref at') (putF "bits" (.ref D4) (putF "edges" (.ref D3) (putF "present" (.ref D2) (putF "lines" (.ref D1) [])))))) := upd_same
    dsimp only
    generalize upd H10 x (.ins C dx (putF "later" (.ref at') (putF "bits" (.ref D4) (putF "edges" (.ref D3) (putF "present" (.ref D2) (putF "lines" (.ref D1) [])))))) = H11 at r5' x5 M5 hD35 hx5
    have k35 := k34.ts (r5'.tst (K := K))
    have v35 : ∀ e ∈ es3, ∃ (l : Addr) (F : List (Nat × V)), e.2.2 = .ref l ∧ SqL K H11 l (F.map (·.2)) ∧ LAt K H11 F ∧ F.map (·.1) = g e.1 := fun e' he' => by
      obtain ⟨l, F, b1, b2, b3, b4⟩ := v34 e' he'
      exact ⟨l, F, b1, r5'.sql b2, b3.ts r5'.tst, b4⟩
    -- earlier
    have lkE2 : (putF "later" (.ref at') (putF "bits" (.ref D4) (putF "edges" (.ref D3) (putF "present" (.ref D2) (putF "lines" (.ref D1) []))))).lookup ("edges" : Str) = some (.ref D3) := by
      rw [lookup_putF, if_neg (by decide +kernel)]
      exact lkE
    have lkB2 : (putF "later" (.ref at') (putF "bits" (.ref D4) (putF "edges" (.ref D3) (putF "present" (.ref D2) (putF "lines" (.ref D1) []))))).lookup ("bits" : Str) = some (.ref D4) := by
      rw [lookup_putF, if_neg (by decide +kernel)]
      exact lkB
    refine ⟨_, rfl, x, C, dx, _, _, rfl, hx5, T.cl, T.n3, lkE2, D3, es3, ks, g, rfl, hD35, k35, m3, v35, e4, g3, fun H12 pb s12 npb hEb => ?_⟩
    have rl : (rev g ks).length ≤ 100 := by rw [rev_len]; exact g3
    have hno : ∀ k, k ∉ edK' (rev g ks) → edG' (rev g ks) k = [] := fun k hk => edG_no hk
    refine ⟨_, rfl, x, C, dx, _, _, rfl, s12 _ _ hx5, T.cl, T.n4, lkB2, pb, D4, edK' (rev g ks), edG' (rev g ks), n, rfl, hEb, hno, (B4.rs r5').rs (GX.rs_same s12), hn, (fun k j hj => e5 j (mem_rev.mp (mem_edG.mp hj)).1), (fun k => Nat.le_trans edG_len rl), fun H13 ar js2 M2 s13 nar hM2 hjs2 hlt2 hTG2 => ?_⟩
    have s1113 := same_trans s12 s13
    refine ⟨_, rfl, x, C, dx, _, rfl, s1113 _ _ hx5, T.cl, T.n6, by show 5 < 1000; decide, ?_⟩
    have rF : RS H11 (upd H13 x (.ins C dx (putF "earlier" (.ref ar) (putF "later" (.ref at') (putF "bits" (.ref D4) (putF "edges" (.ref D3) (putF "present" (.ref D2) (putF "lines" (.ref D1) [])))))))) := (GX.rs_same s1113).trans (GX.rs_ins (s1113 _ _ hx5))
    have eT : ∀ k j, TG (fun a b => b ∈ edG' (rev g ks) a) k j ↔ TG (fun a b => b ∈ g a) j k := fun k j => tg_rev (fun a b => by
      rw [mem_edG, mem_rev]
      refine ⟨fun h => h.2, fun h => ⟨Classical.byContradiction fun hb => ?_, h⟩⟩
      rw [g1 b hb] at h
      cases h)
    exact q _ ((x5.trans (EX.same s1113)).trans EX.upd) ⟨dx, D1, D2, D3, D4, at', ar, js, M, upd_same, (T4.rs r5').rs rF, (O4.rs r5').rs rF, (E4.rs r5').rs rF, (B4.rs r5').rs rF, M5.rs rF, hjs, hTG, hlt, js2, M2, hM2.rs (GX.rs_ins (s1113 _ _ hx5)), hjs2, fun k j hk => (hTG2 k j hk).trans (eT k j), hlt2⟩
end
end K12
namespace K12
open PySem PySem.Spec PyProof.Rows L2 TR QR
open GX (KT kd kdAll RS TSt dNO KeysAt)
variable [Sg]
abbrev sMB : Stmt := sCls 1
abbrev nMB : List Str := ["self", "one", "other"]
theorem scMB : FnScope nMB ["self", "one", "other"] (defScope sMB) := ⟨rfl, rfl, rfl, by decide +kernel, rfl, by decide +kernel, by decide +kernel⟩
abbrev sMS : Stmt := sCls 2
abbrev nMS : List Str := ["self", "one", "other"]
theorem scMS : FnScope nMS ["self", "one", "other"] (defScope sMS) := ⟨rfl, rfl, rfl, by decide +kernel, rfl, by decide +kernel, by decide +kernel⟩
theorem no_before : ("before" : Str) ≠ "earlier" ∧ ("before" : Str) ≠ "later" ∧ ("before" : Str) ≠ "bits" ∧ ("before" : Str) ≠ "edges" ∧ ("before" : Str) ≠ "present" ∧ ("before" : Str) ≠ "lines" := by decide +kernel
theorem no_strictly : ("strictly" : Str) ≠ "earlier" ∧ ("strictly" : Str) ≠ "later" ∧ ("strictly" : Str) ≠ "bits" ∧ ("strictly" : Str) ≠ "edges" ∧ ("strictly" : Str) ≠ "present" ∧ ("strictly" : Str) ≠ "lines" := by decide +kernel
section
variable {P : Program} {w : World} {K : PySem.W.Frag} {mg : Str → Option Value} {base : Heap} {C : Addr}
/-- before, strictly, apart: R tells the answer -/
def spMe (P : Program) (w : World) (K : PySem.W.Frag) (C : Addr) (R : (Nat → Nat → Prop) → Nat → Nat → Prop) : Sp := fun vs H Q _ => ∃ (x a b : Addr) (n : Nat) (kp ks : List Nat) (g : Nat → List Nat) (tx : Nat → Str) (i j : Nat), vs = [.ref x, .ref a, .ref b] ∧ GrAt P w K C H x n kp ks g tx ∧ Dp K H (.ref a) (encL i) ∧ Dp K H (.ref b) (encL j) ∧ i < n ∧ j < n ∧
  ∀ z : Bool, (z = true ↔ R (fun a b => TG (fun a b => b ∈ g a) a b) i j) → Q (.bl z) H
def rBe (T : Nat → Nat → Prop) (i j : Nat) : Prop := T i j
def rSt (T : Nat → Nat → Prop) (i j : Nat) : Prop := T i j ∧ ¬ T j i
def rAp (T : Nat → Nat → Prop) (i j : Nat) : Prop := T i j ↔ T j i
theorem ok_MB {f : Addr} {fd : FuncData} (F : Fun K "before" "FileGraph.before" sMB f fd) (T : Txt K mg C) : FnOk P w K mg base CX0 1 f fd ["self", "one", "other"] (spMe P w K C rBe) := by
  refine F.ok scMB (fun vs H Q E h => ?_) (fun cdv A outer s H vs Q E hr h => ?_)
  · obtain ⟨x, a, b, n, kp, ks, g, tx, i, j, rfl, _⟩ := h
    rfl
  · obtain ⟨x, a, b, n, kp, ks, g, tx, i, j, rfl, hg, ha, hb, hi, hj, q⟩ := h
    have hu := hr.units
    have hu1 := hu_of hr
    have zl := zl
    refine ⟨_, (pss_one (ps_ret (pe_cmpR op_ne (pe_op op_and (pe_ix (GX.ix_N (T := ktL) hu) (pe_fld (pv 0) rfl) (pv 1) (fun _ _ => rfl)) (pe_ix (GX.ix_N (T := ktL) hu) (pe_fld (pv 0) rfl) (pv 2) (fun _ _ => rfl))) (pe_int) (nomark _)))), ?_⟩
    obtain ⟨dx, al, ap, ae, ab, at', ar, js, M, h1, h2, h3, h4, ⟨esB, b1, b2, b3, b4⟩, ⟨esL, l1, l2, l3, l4⟩, h7, h8, _⟩ := hg.ex
    obtain ⟨bo, f1⟩ := nums_at l4 (k := i) (by rw [l3]; exact (h7 i).mpr hi)
    obtain ⟨bo2, f2⟩ := nums_at (M := fun k => 2 ^ k) b4 (k := j) (by rw [b3]; exact List.mem_range.mpr hj)
    refine ⟨_, rfl, x, C, dx, _, _, rfl, h1, T.cl, T.n5, gr_later, _, rfl, at', a, esL, i, _, rfl, rfl, l1, l2, ha, f1, _, rfl, x, C, dx, _, _, rfl, h1, T.cl, T.n4, gr_bits, _, rfl, ab, b, esB, j, _, rfl, rfl, b1, b2, hb, f2, _, _, rfl, rfl, rfl, ?_⟩
    refine q _ ?_
    have e : (!decide (V.int (Builtin.bitAnd (M i : Int) ((2 ^ j : Nat) : Int)) = V.int 0)) = (M i).testBit j := by
      rw [← and_bit, Bool.eq_iff_iff, Bool.not_eq_true', decide_eq_false_iff_not, decide_eq_true_iff, and_nat]
      constructor
      · intro h z
        exact h (by rw [z]; rfl)
      · intro h z
        have := V.int.inj z
        omega
    exact (Bool.eq_iff_iff.mp e).trans (h8 i j hi)
theorem ok_MS {f fMB : Addr} {fd fdMB : FuncData} (F : Fun K "strictly" "FileGraph.strictly" sMS f fd) (T : Txt K mg C)
    (GMB : FnOk P w K mg base CX0 1 fMB fdMB ["self", "one", "other"] (spMe P w K C rBe)) (bMB : Binds K fdMB ["self", "one", "other"] []) (MMB : Meth K C "before" fMB) : FnOk P w K mg base CX0 2 f fd ["self", "one", "other"] (spMe P w K C rSt) := by
  refine F.ok scMS (fun vs H Q E h => ?_) (fun cdv A outer s H vs Q E hr h => ?_)
  · obtain ⟨x, a, b, n, kp, ks, g, tx, i, j, rfl, _⟩ := h
    rfl
  · obtain ⟨x, a, b, n, kp, ks, g, tx, i, j, rfl, hg, ha, hb, hi, hj, q⟩ := h
    have hu := hr.units
    have hu1 := hu_of hr
    have hr1 : Room 1 _ := hr.mono (by decide)
    have zl := zl
    refine ⟨_, (pss_one (ps_ret (pe_and (pe_meth (pv 0) T.cl MMB GMB hr1 bMB .nil pass0 (pa_cons (pv 1) (pa_cons (pv 2) pa_nil))) (pe_one (pe_not (pe_meth (pv 0) T.cl MMB GMB hr1 bMB .nil pass0 (pa_cons (pv 2) (pa_cons (pv 1) pa_nil)))))))), ?_⟩
    obtain ⟨dx, al, ap, ae, ab, at', ar, js, M, h1, _⟩ := hg.ex
    refine ⟨_, rfl, x, dx, _, rfl, h1, gr_no no_before, _, rfl, _, rfl, x, a, b, n, kp, ks, g, tx, i, j, rfl, hg, ha, hb, hi, hj, fun z hz => ⟨z, rfl, ite2 (fun c1 => ?_) (fun c1 => ?_)⟩⟩
    · subst c1
      refine ⟨_, rfl, x, dx, _, rfl, h1, gr_no no_before, _, rfl, _, rfl, x, b, a, n, kp, ks, g, tx, j, i, rfl, hg, hb, ha, hj, hi, fun z2 hz2 => ⟨z2, rfl, ?_⟩⟩
      cases z2 with
      | false => exact q true ⟨fun _ => ⟨hz.mp rfl, fun h => absurd (hz2.mpr h) Bool.false_ne_true⟩, fun _ => rfl⟩
      | true => exact q false ⟨(fun h => nomatch h), fun h => absurd (hz2.mp rfl) h.2⟩
    · exact q false ⟨(fun h => nomatch h), fun h => absurd (hz.mpr h.1) c1⟩
end
end K12
namespace K12
open PySem PySem.Spec PyProof.Rows L2 TR QR
open GX (KT kd kdAll RS TSt dNO KeysAt)
variable [Sg]
/-! a & ~b of masks -/
def minus (a b : Nat) : Nat := a - (a &&& b)
theorem minus_xor (a b : Nat) : minus a b = a ^^^ (a &&& b) := by
  have h1 : (a &&& b) ||| (a ^^^ (a &&& b)) = a := by
    refine Nat.eq_of_testBit_eq fun i => ?_
    rw [Nat.testBit_or, Nat.testBit_xor, Nat.testBit_and]
    cases a.testBit i <;> cases b.testBit i <;> rfl
  have h2 : (a &&& b) &&& (a ^^^ (a &&& b)) = 0 := by
    refine Nat.eq_of_testBit_eq fun i => ?_
    rw [Nat.testBit_and, Nat.testBit_xor, Nat.testBit_and, Nat.zero_testBit]
    cases a.testBit i <;> cases b.testBit i <;> rfl
  have h := PyProof.Rows.nat_or_add_and (a &&& b) (a ^^^ (a &&& b))
  rw [h1, h2] at h
  unfold minus
  omega
theorem minus_bit (a b j : Nat) : (minus a b).testBit j = (a.testBit j && !b.testBit j) := by
  rw [minus_xor, Nat.testBit_xor, Nat.testBit_and]
  cases a.testBit j <;> cases b.testBit j <;> rfl
theorem minus_le (a b : Nat) : minus a b ≤ a := Nat.sub_le _ _
theorem and_not (a b : Nat) : Builtin.bitAnd (a : Int) (Builtin.bitNot (b : Int)) = ((minus a b : Nat) : Int) := by
  rw [PyProof.Rows.bitAnd_not, and_nat]
  unfold minus
  have : a &&& b ≤ a := Nat.and_le_left
  omega
end K12
/-! mathematics: masks of lines, the strict order of a graph, the first free line -/
namespace K12
open PySem PySem.Spec PyProof.Rows L2 TR QR
open MB
def maskN (ks : List Nat) : Nat := (ks.map fun k => 2 ^ k).sum
theorem maskN_cons (a : Nat) (ks : List Nat) : maskN (a :: ks) = 2 ^ a + maskN ks := by
  unfold maskN
  rw [List.map_cons, List.sum_cons]
theorem mask_bit : ∀ {ks : List Nat}, ks.Nodup → ∀ j, (maskN ks).testBit j = decide (j ∈ ks)
  | [], _, j => by
    unfold maskN
    simp
  | a :: ks, nd, j => by
    obtain ⟨h1, h2⟩ := List.nodup_cons.mp nd
    have ih := mask_bit h2
    have e0 : (2 ^ a) &&& maskN ks = 0 := by
      refine Nat.eq_of_testBit_eq fun i => ?_
      rw [Nat.testBit_and, Nat.testBit_two_pow, ih, Nat.zero_testBit]
      by_cases e : a = i
      · subst e
        simp [h1]
      · simp [e]
    have e1 := PyProof.Rows.nat_or_add_and (2 ^ a) (maskN ks)
    rw [e0, Nat.add_zero] at e1
    rw [maskN_cons, ← e1, Nat.testBit_or, Nat.testBit_two_pow, ih]
    rw [Bool.eq_iff_iff]
    simp only [Bool.or_eq_true, decide_eq_true_eq, List.mem_cons]
    exact or_congr eq_comm Iff.rfl
theorem mask_lt {ks : List Nat} (nd : ks.Nodup) {n : Nat} (h : ∀ k ∈ ks, k < n) : maskN ks < 2 ^ n := by
  refine Nat.lt_pow_two_of_testBit _ fun i hi => ?_
  rw [mask_bit nd]
  exact decide_eq_false fun hm => by
    have := h i hm
    omega
theorem mask_perm {ks js : List Nat} (p : ks.Perm js) : maskN ks = maskN js := by
  unfold maskN
  exact (p.map _).sum_nat
theorem popc_cnt {ks : List Nat} (nd : ks.Nodup) (h : ∀ k ∈ ks, k < 11) {q : Nat} {p : Nat → Bool} (hq : ∀ j, q.testBit j = true ↔ j ∈ ks ∧ p j = true) : GX.popc q = MB.cnt p ks := by
  unfold GX.popc MB.cnt
  rw [List.countP_eq_length_filter]
  refine List.Perm.length_eq ?_
  refine (List.perm_ext_iff_of_nodup (List.nodup_range.filter _) (nd.filter _)).mpr fun x => ?_
  rw [List.mem_filter, List.mem_filter, List.mem_range, hq]
  exact ⟨fun h => h.2, fun h' => ⟨h x h'.1, h'⟩⟩
open Classical in
/-- strictly before -/
noncomputable def rS (g : Nat → List Nat) (i j : Nat) : Bool := decide (TG (fun a b => b ∈ g a) i j ∧ ¬ TG (fun a b => b ∈ g a) j i)
theorem rS_iff {g : Nat → List Nat} {i j : Nat} : rS g i j = true ↔ TG (fun a b => b ∈ g a) i j ∧ ¬ TG (fun a b => b ∈ g a) j i := by
  classical
  unfold rS
  rw [decide_eq_true_iff]
theorem so_rS (g : Nat → List Nat) : SO (rS g) where
  asym := fun a b h => by
    rw [rS_iff] at h
    cases e : rS g b a with
    | false => rfl
    | true =>
      rw [rS_iff] at e
      exact absurd e.1 h.2
  trans := fun a b c h1 h2 => by
    rw [rS_iff] at h1 h2 ⊢
    exact ⟨h1.1.trans h2.1, fun h => h1.2 (h2.1.trans h)⟩
theorem so_irr {r : Nat → Nat → Bool} (so : SO r) (a : Nat) : r a a = false := by
  cases e : r a a with
  | false => rfl
  | true =>
    have := so.asym a a e
    rw [e] at this
    cases this
/-- a line that none is before -/
theorem has_free {r : Nat → Nat → Bool} (so : SO r) : ∀ {L : List Nat}, L ≠ [] → ∃ a ∈ L, ∀ y ∈ L, r y a = false
  | [], h => absurd rfl h
  | [a], _ => ⟨a, List.mem_cons_self, fun y hy => by rw [List.mem_singleton.mp hy]; exact so_irr so a⟩
  | a :: b :: L, _ => by
    obtain ⟨m, hm, hf⟩ := has_free so (L := b :: L) (by simp)
    by_cases h : r a m = true
    · refine ⟨a, List.mem_cons_self, fun y hy => ?_⟩
      rcases List.mem_cons.mp hy with rfl | hy
      · exact so_irr so y
      · cases e : r y a with
        | false => rfl
        | true =>
          have := so.trans y a m e h
          rw [hf y hy] at this
          cases this
    · refine ⟨m, List.mem_cons_of_mem _ hm, fun y hy => ?_⟩
      rcases List.mem_cons.mp hy with rfl | hy
      · simpa using h
      · exact hf y hy
theorem place_L [Sg] {ks : List Nat} (nd : ks.Nodup) {j : Nat} {a : Nat} (h : ks[j]? = some a) : PySem.SeqAt.dataPlace (ks.map encL) (encL a) = some j := by
  unfold PySem.SeqAt.dataPlace
  have hj : j < ks.length := (List.getElem?_eq_some_iff.mp h).1
  rw [List.findIdx?_eq_some_iff_getElem]
  refine ⟨by rw [List.length_map]; exact hj, ?_, fun m hm => ?_⟩
  · rw [List.getElem_map, eqv_L]
    have := (List.getElem?_eq_some_iff.mp h).2
    simp [this]
  · rw [List.getElem_map, eqv_L]
    obtain ⟨_, e⟩ := List.getElem?_eq_some_iff.mp h
    have : ks[m] ≠ a := fun z => by
      have := List.pairwise_iff_getElem.mp nd m j (by omega) hj hm
      exact this (z.trans e.symm)
    simp [this]
end K12
namespace K12
open PySem PySem.Spec PyProof.Rows L2 TR QR
open GX (KT kd kdAll RS TSt dNO KeysAt)
open MB
variable [Sg]
abbrev sBI : Stmt := topS 2
abbrev nBI : List Str := ["mask", "digits"]
theorem scBI : FnScope nBI ["mask"] (defScope sBI) := ⟨rfl, rfl, rfl, by decide +kernel, rfl, by decide +kernel, by decide +kernel⟩
abbrev sFF : Stmt := topS 3
abbrev nFF : List Str := ["lines", "front", "mask", "line"]
theorem scFF : FnScope nFF ["lines", "front", "mask"] (defScope sFF) := ⟨rfl, rfl, rfl, by decide +kernel, rfl, by decide +kernel, by decide +kernel⟩
abbrev sMO : Stmt := sCls 5
abbrev nMO : List Str := ["self", "lines", "line"]
theorem scMO : FnScope nMO ["self", "lines"] (defScope sMO) := ⟨rfl, rfl, rfl, by decide +kernel, rfl, by decide +kernel, by decide +kernel⟩
abbrev sMH : Stmt := sCls 6
abbrev nMH : List Str := ["self", "line"]
theorem scMH : FnScope nMH ["self", "line"] (defScope sMH) := ⟨rfl, rfl, rfl, by decide +kernel, rfl, by decide +kernel, by decide +kernel⟩
abbrev sMF : Stmt := sCls 7
abbrev nMF : List Str := ["self", "line"]
theorem scMF : FnScope nMF ["self", "line"] (defScope sMF) := ⟨rfl, rfl, rfl, by decide +kernel, rfl, by decide +kernel, by decide +kernel⟩
theorem no_mo : ("mask_of" : Str) ≠ "earlier" ∧ ("mask_of" : Str) ≠ "later" ∧ ("mask_of" : Str) ≠ "bits" ∧ ("mask_of" : Str) ≠ "edges" ∧ ("mask_of" : Str) ≠ "present" ∧ ("mask_of" : Str) ≠ "lines" := by decide +kernel
theorem no_mh : ("mask_behind" : Str) ≠ "earlier" ∧ ("mask_behind" : Str) ≠ "later" ∧ ("mask_behind" : Str) ≠ "bits" ∧ ("mask_behind" : Str) ≠ "edges" ∧ ("mask_behind" : Str) ≠ "present" ∧ ("mask_behind" : Str) ≠ "lines" := by decide +kernel
theorem no_mf : ("mask_in_front" : Str) ≠ "earlier" ∧ ("mask_in_front" : Str) ≠ "later" ∧ ("mask_in_front" : Str) ≠ "bits" ∧ ("mask_in_front" : Str) ≠ "edges" ∧ ("mask_in_front" : Str) ≠ "present" ∧ ("mask_in_front" : Str) ≠ "lines" := by decide +kernel
theorem gr_earlier {al ap ae ab at' ar : Addr} : (grF al ap ae ab at' ar).lookup ("earlier" : Str) = some (.ref ar) := by
  unfold grF
  rw [lookup_putF, if_pos rfl]
section
variable {P : Program} {w : World} {K : PySem.W.Frag} {mg : Str → Option Value} {base : Heap} {C : Addr}
def spBI : Sp := fun vs H Q _ => ∃ n : Nat, vs = [.int (n : Int)] ∧ n < 1024 ∧ Q (.int (GX.popc n : Int)) H
theorem ok_BI {f : Addr} {fd : FuncData} (F : Fun K "many_bits" "many_bits" sBI f fd) : FnOk P w K mg base CX0 1 f fd ["mask"] spBI := by
  refine F.ok scBI (fun vs H Q E h => ?_) (fun cdv A outer s H vs Q E hr h => ?_)
  · obtain ⟨n, rfl, _⟩ := h
    rfl
  · obtain ⟨n, rfl, hn, q⟩ := h
    have hu := hr.units
    have hu1 := hu_of hr
    have zl := zl
    refine ⟨_, (pss_cons (ps_set (i := 1) scBI.nd rfl (.inl rfl) (pe_joined1 (GX.pe_fmtB (pv 0) (pe_joined1 (pe_str)))))
      (pss_one (ps_ret (pe_m1 PySem.F.slot_str_count PySem.F.type_str_count mt_count (pv 1) (pe_str))))), ?_⟩
    have lb := GX.bin_small n (by omega)
    refine ⟨_, rfl, rfl, n, rfl, by omega, ?_⟩
    refine ⟨_, rfl, ⟨_, rfl⟩, _, _, rfl, rfl, ?_⟩
    show Q (.int (Txt.count (GX.binS n) (Str.ofString "1"))) H
    rw [GX.count_bin n hn]
    exact q
/-- the first line that is free -/
def spFF (P : Program) (w : World) (K : PySem.W.Frag) : Sp := fun vs H Q _ => ∃ (l d : Addr) (F : List (Nat × V)) (ks : List Nat) (m : Nat → Nat) (q : Nat), vs = [.ref l, .ref d, .int (q : Int)] ∧ SqL K H l (F.map (·.2)) ∧ LAt K H F ∧ NumsAt P w K H d ks m ∧ (∀ e ∈ F, e.1 ∈ ks) ∧ (∃ e ∈ F, m e.1 &&& q = 0) ∧
  ∀ G1 e G2, F = G1 ++ e :: G2 → m e.1 &&& q = 0 → (∀ x ∈ G1, ¬ m x.1 &&& q = 0) → Q e.2 H
theorem ok_FF {f : Addr} {fd : FuncData} (F : Fun K "first_free" "first_free" sFF f fd) : FnOk P w K mg base CX0 1 f fd ["lines", "front", "mask"] (spFF P w K) := by
  refine F.ok scFF (fun vs H Q E h => ?_) (fun cdv A outer s H vs Q E hr h => ?_)
  · obtain ⟨l, d, F, ks, m, q, rfl, _⟩ := h
    rfl
  · obtain ⟨l, d, F, ks, m, q, rfl, hl, hF, ⟨es, e1, e2, e3, e4⟩, hk, ⟨e0, he0, hq0⟩, Qk⟩ := h
    have hu := hr.units
    have hu1 := hu_of hr
    have zl := zl
    refine ⟨_, (pss_cons (ps_for PassesOwn.never rfl (pi_list (pv 0)) (pg_name (i := 3) scFF.nd rfl (.inl rfl))
      (pss_one (ps_if (pt_not (pt_truth (pe_op op_and (pe_ix (GX.ix_N (T := ktL) hu) (pv 1) (pv 3) (fun _ _ => rfl)) (pv 2)) (by intro _; rfl)))
      (pss_one (ps_ret (pv 3))) pss_nil)))
      (pss_one (ps_ret (pe_non)))), ?_⟩
    refine ⟨_, rfl, l, rfl, ⟨_, hl⟩, ?_⟩
    refine for_list (xs := F.map (·.2)) (fun i σ H' => ∃ y3 : Option V, σ = [some (.ref l), some (.ref d), some (.int (q : Int)), y3] ∧ H' = H ∧ ∀ x ∈ F.take i, ¬ m x.1 &&& q = 0)
      ⟨none, rfl, rfl, (fun _ h => nomatch h)⟩ ?_ ?_ ?_
    · rintro i σ H' _ ⟨_, _, rfl, _⟩
      exact hl
    · rintro i x σ H2 hx ⟨y3, rfl, rfl, hno⟩
      obtain ⟨⟨k, v⟩, ge, rfl⟩ := map_get hx
      have hem := List.mem_of_getElem? ge
      have hd := hF _ hem
      obtain ⟨a, rfl⟩ := ln_ref hd
      obtain ⟨b, hb⟩ := nums_at e4 (k := k) (by rw [e3]; exact hk _ hem)
      refine ⟨_, rfl, _, rfl, d, a, es, k, _, rfl, rfl, e1, e2, hd, hb, _, rfl, _, _, rfl, rfl, _, rfl, ?_⟩
      have et : F.take (i + 1) = F.take i ++ [(k, V.ref a)] := by rw [List.take_add_one, ge]; rfl
      refine ite2 (fun c1 => ?_) (fun c1 => ?_)
      · have z : m k &&& q = 0 := by
          rw [and_nat] at c1
          simpa using c1
        refine ⟨_, rfl, Qk (F.take i) (k, .ref a) (F.drop (i + 1)) ?_ z hno⟩
        have hlt : i < F.length := (List.getElem?_eq_some_iff.mp ge).1
        conv => lhs; rw [← List.take_append_drop (i + 1) F, et]
        simp
      · have z : ¬ m k &&& q = 0 := fun z => c1 (by rw [and_nat, z]; rfl)
        refine ⟨_, rfl, rfl, fun x hx => ?_⟩
        rw [et] at hx
        rcases List.mem_append.mp hx with h | h
        · exact hno x h
        · rw [List.mem_singleton.mp h]
          exact z
    · rintro σ H2 ⟨y3, rfl, rfl, hno⟩
      rw [List.length_map, List.take_length] at hno
      exact absurd hq0 (hno _ he0)
theorem sum_mask : ∀ F : List (Nat × V), (F.map fun e => ((2 ^ e.1 : Nat) : Int)).sum = (maskN (F.map (·.1)) : Int)
  | [] => rfl
  | e :: F => by
    rw [List.map_cons, List.sum_cons, List.map_cons, maskN_cons, sum_mask F]
    exact (Int.natCast_add _ _).symm
def spMO (P : Program) (w : World) (K : PySem.W.Frag) (C : Addr) : Sp := fun vs H Q _ => ∃ (x l : Addr) (n : Nat) (kp ks : List Nat) (g : Nat → List Nat) (tx : Nat → Str) (F : List (Nat × V)), vs = [.ref x, .ref l] ∧ GrAt P w K C H x n kp ks g tx ∧ SqL K H l (F.map (·.2)) ∧ LAt K H F ∧ (∀ e ∈ F, e.1 < n) ∧ F.length ≤ 1000 ∧
  ∀ H', Same H H' → Q (.int (maskN (F.map (·.1)) : Int)) H'
theorem ok_MO {f : Addr} {fd : FuncData} (F : Fun K "mask_of" "FileGraph.mask_of" sMO f fd) (T : Txt K mg C) (m_sum : mg "sum" = none) : FnOk P w K mg base CX0 1 f fd ["self", "lines"] (spMO P w K C) := by
  refine F.ok scMO (fun vs H Q E h => ?_) (fun cdv A outer s H vs Q E hr h => ?_)
  · obtain ⟨x, l, n, kp, ks, g, tx, F, rfl, _⟩ := h
    rfl
  · obtain ⟨x, l, n, kp, ks, g, tx, F, rfl, hg, hl, hF, hk, ln, q⟩ := h
    have hu := hr.units
    have hu1 := hu_of hr
    have zl := zl
    refine ⟨_, (pss_one (ps_ret (pe_callB (cr_sum rfl) (by rfl) m_sum (by decide +kernel) (pa_cons (pe_lc (own := [("line", 2)]) (g := gName 2) (tt := tYes) (te := tOp (GX.rIxN ktL P w K) (tFld K (tVar 0) "bits") (tVar 2)) rfl scMO.nd (pi_list (pv 1)) (blkOk_by (N := nMO) (sc := defScope sMO) (by decide +kernel)) (fun _ _ _ _ _ => by exact pg_name (i := 2) scMO.nd rfl (.inl rfl)) (fun _ _ _ _ _ => pts_nil) (fun _ _ _ _ _ => by exact pe_ix (GX.ix_N (T := ktL) hu) (pe_fld (pv 0) rfl) (pv 2) (fun _ _ => rfl))) pa_nil)))), ?_⟩
    refine ⟨_, rfl, l, rfl, ⟨_, hl⟩, fun D nD => ?_⟩
    obtain ⟨dx, al, ap, ae, ab, at', ar, js, M, h1, h2, h3, h4, ⟨esB, b1, b2, b3, b4⟩, _⟩ := hg.ex
    refine lc_list (xs := F.map (·.2)) (fun i H' => Same H H' ∧ H' D = some (.lst ((F.take i).map fun e => V.int ((2 ^ e.1 : Nat) : Int)))) ⟨same_new nD, upd_same⟩ ?_ ?_ ?_
    · rintro i H' _ ⟨s, _⟩
      exact (GX.rs_same s).sql hl
    · rintro i y H' hy ⟨s, eD⟩
      obtain ⟨⟨k, v⟩, ge, rfl⟩ := map_get hy
      have hem := List.mem_of_getElem? ge
      have hd := ln_ts (ts_same s) (hF _ hem)
      obtain ⟨a, rfl⟩ := ln_ref hd
      obtain ⟨bo, hb⟩ := nums_at (M := fun k => 2 ^ k) b4 (k := k) (by rw [b3]; exact List.mem_range.mpr (hk _ hem))
      refine ⟨rfl, _, rfl, x, C, dx, _, _, rfl, s _ _ h1, T.cl, T.n4, gr_bits, _, rfl, ab, a, esB, k, _, rfl, rfl, (GX.rs_same s).dn b1, b2.ts (ts_same s), hd, hb, _, eD, ?_, same_upd nD s, ?_⟩
      · rw [List.length_map, List.length_take]
        omega
      · rw [upd_same, List.take_add_one, ge, List.map_append]
        rfl
    · rintro H' ⟨s, eD⟩
      rw [List.length_map, List.take_length] at eD
      refine ⟨D, F.map fun e => ((2 ^ e.1 : Nat) : Int), rfl, by rw [List.map_map]; exact SqL.of eD, ?_⟩
      rw [sum_mask]
      exact q H' s
/-- the mask of a relation of a line -/
def spMk (P : Program) (w : World) (K : PySem.W.Frag) (C : Addr) (R : (Nat → List Nat) → Nat → Nat → Bool) : Sp := fun vs H Q _ => ∃ (x a : Addr) (n : Nat) (kp ks : List Nat) (g : Nat → List Nat) (tx : Nat → Str) (i : Nat), vs = [.ref x, .ref a] ∧ GrAt P w K C H x n kp ks g tx ∧ Dp K H (.ref a) (encL i) ∧ i < n ∧
  ∀ m : Nat, m < 2 ^ n → (∀ j, m.testBit j = true ↔ R g i j = true) → Q (.int (m : Int)) H
noncomputable def rHi (g : Nat → List Nat) (i j : Nat) : Bool := rS g i j
noncomputable def rFr (g : Nat → List Nat) (i j : Nat) : Bool := rS g j i
theorem ok_MH {f : Addr} {fd : FuncData} (F : Fun K "mask_behind" "FileGraph.mask_behind" sMH f fd) (T : Txt K mg C) : FnOk P w K mg base CX0 1 f fd ["self", "line"] (spMk P w K C rHi) := by
  refine F.ok scMH (fun vs H Q E h => ?_) (fun cdv A outer s H vs Q E hr h => ?_)
  · obtain ⟨x, a, n, kp, ks, g, tx, i, rfl, _⟩ := h
    rfl
  · obtain ⟨x, a, n, kp, ks, g, tx, i, rfl, hg, ha, hi, q⟩ := h
    have hu := hr.units
    have hu1 := hu_of hr
    have zl := zl
    refine ⟨_, (pss_one (ps_ret (pe_op op_and (pe_ix (GX.ix_N (T := ktL) hu) (pe_fld (pv 0) rfl) (pv 1) (fun _ _ => rfl)) (pe_un un_inv (pe_ix (GX.ix_N (T := ktL) hu) (pe_fld (pv 0) rfl) (pv 1) (fun _ _ => rfl)))))), ?_⟩
    obtain ⟨dx, al, ap, ae, ab, at', ar, js, M, h1, h2, h3, h4, h5, ⟨esL, l1, l2, l3, l4⟩, h7, h8, h9, js2, M2, ⟨esR, r1, r2, r3, r4⟩, r7, r8, r9⟩ := hg.ex
    obtain ⟨bo, f1⟩ := nums_at l4 (k := i) (by rw [l3]; exact (h7 i).mpr hi)
    obtain ⟨bo2, f2⟩ := nums_at r4 (k := i) (by rw [r3]; exact (r7 i).mpr hi)
    refine ⟨_, rfl, x, C, dx, _, _, rfl, h1, T.cl, T.n5, gr_later, _, rfl, at', a, esL, i, _, rfl, rfl, l1, l2, ha, f1, _, rfl, x, C, dx, _, _, rfl, h1, T.cl, T.n6, gr_earlier, _, rfl, ar, a, esR, i, _, rfl, rfl, r1, r2, ha, f2, _, rfl, _, _, rfl, rfl, ?_⟩
    show Q (.int (Builtin.bitAnd _ (Builtin.bitNot _))) H
    rw [and_not]
    refine q _ (Nat.lt_of_le_of_lt (minus_le _ _) (h9 i)) fun j => ?_
    rw [minus_bit, Bool.and_eq_true, Bool.not_eq_true', h8 i j hi]
    unfold rHi
    rw [rS_iff, ← Bool.not_eq_true, r8 i j hi]
theorem ok_MF {f : Addr} {fd : FuncData} (F : Fun K "mask_in_front" "FileGraph.mask_in_front" sMF f fd) (T : Txt K mg C) : FnOk P w K mg base CX0 1 f fd ["self", "line"] (spMk P w K C rFr) := by
  refine F.ok scMF (fun vs H Q E h => ?_) (fun cdv A outer s H vs Q E hr h => ?_)
  · obtain ⟨x, a, n, kp, ks, g, tx, i, rfl, _⟩ := h
    rfl
  · obtain ⟨x, a, n, kp, ks, g, tx, i, rfl, hg, ha, hi, q⟩ := h
    have hu := hr.units
    have hu1 := hu_of hr
    have zl := zl
    refine ⟨_, (pss_one (ps_ret (pe_op op_and (pe_ix (GX.ix_N (T := ktL) hu) (pe_fld (pv 0) rfl) (pv 1) (fun _ _ => rfl)) (pe_un un_inv (pe_ix (GX.ix_N (T := ktL) hu) (pe_fld (pv 0) rfl) (pv 1) (fun _ _ => rfl)))))), ?_⟩
    obtain ⟨dx, al, ap, ae, ab, at', ar, js, M, h1, h2, h3, h4, h5, ⟨esL, l1, l2, l3, l4⟩, h7, h8, h9, js2, M2, ⟨esR, r1, r2, r3, r4⟩, r7, r8, r9⟩ := hg.ex
    obtain ⟨bo, f1⟩ := nums_at l4 (k := i) (by rw [l3]; exact (h7 i).mpr hi)
    obtain ⟨bo2, f2⟩ := nums_at r4 (k := i) (by rw [r3]; exact (r7 i).mpr hi)
    refine ⟨_, rfl, x, C, dx, _, _, rfl, h1, T.cl, T.n6, gr_earlier, _, rfl, ar, a, esR, i, _, rfl, rfl, r1, r2, ha, f2, _, rfl, x, C, dx, _, _, rfl, h1, T.cl, T.n5, gr_later, _, rfl, at', a, esL, i, _, rfl, rfl, l1, l2, ha, f1, _, rfl, _, _, rfl, rfl, ?_⟩
    show Q (.int (Builtin.bitAnd _ (Builtin.bitNot _))) H
    rw [and_not]
    refine q _ (Nat.lt_of_le_of_lt (minus_le _ _) (r9 i)) fun j => ?_
    rw [minus_bit, Bool.and_eq_true, Bool.not_eq_true', r8 i j hi]
    unfold rFr
    rw [rS_iff, ← Bool.not_eq_true, h8 i j hi]
end
end K12
namespace K12
open PySem PySem.Spec PyProof.Rows L2 TR QR
open GX (KT kd kdAll RS TSt dNO KeysAt)
open PySem.W (dataLt dataLe alike alikeAll AllAlike Sortable)
open MB
theorem each_ps {α : Type} {Z : List (α × V)} : ∀ (PS : List (α × V)), (∀ e ∈ PS, e ∈ Z) → PySem.W.EachIs (fun (v : V) (e : α × V) => v = e.2 ∧ e ∈ Z) (PS.map (·.2)) PS
  | [], _ => .nil
  | e :: PS, h => .cons ⟨rfl, h e List.mem_cons_self⟩ (each_ps PS fun x hx => h x (List.mem_cons_of_mem _ hx))
theorem ps_each {α : Type} {Z : List (α × V)} : ∀ {ys : List V} {PS : List (α × V)}, PySem.W.EachIs (fun (v : V) (e : α × V) => v = e.2 ∧ e ∈ Z) ys PS → ys = PS.map (·.2)
  | _, _, .nil => rfl
  | _, _, .cons h t => by rw [h.1, ps_each t]; rfl
variable [Sg]
theorem plain_Ls : ∀ ks : List Nat, PyData.plainAll (ks.map encL) = true
  | [] => rfl
  | k :: ks => by
    rw [List.map_cons, PyData.plainAll, plain_L, plain_Ls ks]
    rfl
theorem dep_Ls : ∀ ks : List Nat, PyData.depthAll (ks.map encL) ≤ 8
  | [] => Nat.zero_le _
  | k :: ks => by
    have a := ktL.dp k
    have b := dep_Ls ks
    rw [List.map_cons, PyData.depthAll]
    have a' : (encL k).depth ≤ 8 := a
    omega
theorem dpAll_L {K : PySem.W.Frag} {H : Hp} : ∀ {F : List (Nat × V)}, LAt K H F → DpAll K H (F.map (·.2)) ((F.map (·.1)).map encL)
  | [], _ => .nil
  | e :: F, h => .cons (h e List.mem_cons_self) (dpAll_L fun x hx => h x (List.mem_cons_of_mem _ hx))
theorem map_erase {α β : Type} (f : α → β) : ∀ (l : List α) (r : Nat), (l.map f).eraseIdx r = (l.eraseIdx r).map f
  | [], _ => rfl
  | _ :: _, 0 => rfl
  | x :: l, r + 1 => by
    rw [List.map_cons, List.eraseIdx_cons_succ, List.eraseIdx_cons_succ, List.map_cons, map_erase f l r]
abbrev sIO : Stmt := topS 4
abbrev nIO : List Str := ["graph", "block", "left", "mask", "line", "front", "order"]
theorem scIO : FnScope nIO ["graph", "block"] (defScope sIO) := ⟨rfl, rfl, rfl, by decide +kernel, rfl, by decide +kernel, by decide +kernel⟩
theorem dpk (k : Nat) : (encL k).depth ≤ 50 := Nat.le_trans (ktL.dp k) (by decide)
theorem sort_L (F : List (Nat × V)) : (F.mergeSort (dataLe false fun e : Nat × V => encL e.1)).Perm F ∧ (F.mergeSort (dataLe false fun e : Nat × V => encL e.1)).Pairwise fun a b => a.1 ≤ b.1 := by
  refine ⟨List.mergeSort_perm _ _, ?_⟩
  rw [le_L]
  have := List.pairwise_mergeSort (le := fun p q : Nat × V => decide (p.1 ≤ q.1)) (fun a b c h1 h2 => decide_eq_true (Nat.le_trans (of_decide_eq_true h1) (of_decide_eq_true h2))) (fun a b => by
    rcases Nat.le_total a.1 b.1 with h | h <;> simp [h]) F
  exact this.imp fun h => of_decide_eq_true h
/-- the lines of P in front of k -/
noncomputable def frM (g : Nat → List Nat) (ks : List Nat) (k : Nat) : Nat := maskN (ks.filter fun j => rS g j k)
theorem frM_eq {g : Nat → List Nat} {ks : List Nat} (nd : ks.Nodup) {k m : Nat} (h : ∀ j, m.testBit j = true ↔ rFr g k j = true) : m &&& maskN ks = frM g ks k := by
  refine Nat.eq_of_testBit_eq fun j => ?_
  unfold frM
  rw [Nat.testBit_and, mask_bit nd, mask_bit (nd.filter _), Bool.eq_iff_iff, Bool.and_eq_true, h, decide_eq_true_iff, decide_eq_true_iff, List.mem_filter]
  exact and_comm
theorem frM_zero {g : Nat → List Nat} {ks js : List Nat} (nd : ks.Nodup) (ndj : js.Nodup) (sub : ∀ j ∈ js, j ∈ ks) (k : Nat) : frM g ks k &&& maskN js = 0 ↔ ∀ j ∈ js, rS g j k = false := by
  constructor
  · intro h j hj
    cases e : rS g j k with
    | false => rfl
    | true =>
      have : (frM g ks k &&& maskN js).testBit j = true := by
        unfold frM
        rw [Nat.testBit_and, mask_bit ndj, mask_bit (nd.filter _), Bool.and_eq_true, decide_eq_true_iff, decide_eq_true_iff, List.mem_filter]
        exact ⟨⟨sub j hj, e⟩, hj⟩
      rw [h, Nat.zero_testBit] at this
      cases this
  · intro h
    refine Nat.eq_of_testBit_eq fun j => ?_
    unfold frM
    rw [Nat.zero_testBit, Nat.testBit_and, mask_bit ndj, mask_bit (nd.filter _), Bool.and_eq_false_iff, decide_eq_false_iff_not, decide_eq_false_iff_not, List.mem_filter]
    by_cases hj : j ∈ js
    · exact .inl fun z => by
        rw [h j hj] at z
        cases z.2
    · exact .inr hj
section
variable {P : Program} {w : World} {K : PySem.W.Frag} {mg : Str → Option Value} {base : Heap} {C : Addr}
/-- the lines of a block, as they are shown -/
def spIO (P : Program) (w : World) (K : PySem.W.Frag) (C : Addr) : Sp := fun vs H Q _ => ∃ (x l : Addr) (n : Nat) (kp ks : List Nat) (g : Nat → List Nat) (tx : Nat → Str) (F : List (Nat × V)), vs = [.ref x, .ref l] ∧ GrAt P w K C H x n kp ks g tx ∧ SqL K H l (F.map (·.2)) ∧ LAt K H F ∧ (F.map (·.1)).Nodup ∧ (∀ e ∈ F, e.1 < n) ∧ n ≤ 10 ∧
  ∀ p H' G, Same H H' → H p = none → H' p = some (.lst (G.map (·.2))) → LAt K H' G → (G.map (·.1)).Perm (F.map (·.1)) → Picked (rS g) (G.map (·.1)) → Q (.ref p) H'
structure IOJ (P : Program) (w : World) (K : PySem.W.Frag) (H H' : Hp) (g : Nat → List Nat) (ks : List Nat) (pS po D : Addr) (es : List (Nat × Addr × V)) (LL GG : List (Nat × V)) : Prop where
  sm : Same H H'
  p0 : H pS = none
  o0 : H po = none
  ne : pS ≠ po
  hp : H' pS = some (.lst (LL.map (·.2)))
  ho : H' po = some (.lst (GG.map (·.2)))
  lp : LAt K H' LL
  lo : LAt K H' GG
  hD : H' D = some (dNO ktL P w D es)
  ka : KeysAt ktL K H' es
  srt : (LL.map (·.1)).Pairwise (· < ·)
  perm : (GG.map (·.1) ++ LL.map (·.1)).Perm ks
  pk : ∀ B, B.Perm (LL.map (·.1)) → Picked (rS g) B → Picked (rS g) (GG.map (·.1) ++ B)
theorem IOJ.step {H H' : Hp} {g : Nat → List Nat} {ks : List Nat} {pS po D : Addr} {es : List (Nat × Addr × V)} {G1 G2 GG : List (Nat × V)} {e : Nat × V} (f : IOJ P w K H H' g ks pS po D es (G1 ++ e :: G2) GG) (h1 : ∀ j ∈ (G1 ++ e :: G2).map (·.1), rS g j e.1 = false) (h2 : ∀ x ∈ G1, ¬ ∀ j ∈ (G1 ++ e :: G2).map (·.1), rS g j x.1 = false) :
    IOJ P w K H (upd (upd H' pS (.lst ((G1 ++ G2).map (·.2)))) po (.lst ((GG ++ [e]).map (·.2)))) g ks pS po D es (G1 ++ G2) (GG ++ [e]) := by
  have t1 := ts_lst (K := K) (o := .lst ((G1 ++ G2).map (·.2))) f.hp
  have ho1 : upd H' pS (.lst ((G1 ++ G2).map (·.2))) po = some (.lst (GG.map (·.2))) := (upd_ne (Ne.symm f.ne)).trans f.ho
  have t := t1.trans (ts_lst (K := K) (o := .lst ((GG ++ [e]).map (·.2))) ho1)
  have nDp : D ≠ pS := fun z => by
    have := f.hD
    rw [z, f.hp] at this
    cases this
  have nDo : D ≠ po := fun z => by
    have := f.hD
    rw [z, f.ho] at this
    cases this
  have em : (G1 ++ e :: G2).map (·.1) = G1.map (·.1) ++ e.1 :: G2.map (·.1) := by
    rw [List.map_append, List.map_cons]
  have srt := f.srt
  rw [em] at srt
  have pp : ((G1 ++ e :: G2).map (·.1)).Perm (e.1 :: (G1 ++ G2).map (·.1)) := by
    rw [em, List.map_append]
    exact List.perm_middle
  refine ⟨same_upd f.o0 (same_upd f.p0 f.sm), f.p0, f.o0, f.ne, (upd_ne f.ne).trans upd_same, upd_same, fun y hy => ?_, fun y hy => ?_, (upd_ne nDo).trans ((upd_ne nDp).trans f.hD), f.ka.ts t, ?_, ?_, fun B hB hP => ?_⟩
  · refine ln_ts t (f.lp y ?_)
    rcases List.mem_append.mp hy with h | h
    · exact List.mem_append_left _ h
    · exact List.mem_append_right _ (List.mem_cons_of_mem _ h)
  · rcases List.mem_append.mp hy with h | h
    · exact ln_ts t (f.lo y h)
    · rw [List.mem_singleton.mp h]
      exact ln_ts t (f.lp e (List.mem_append_right _ List.mem_cons_self))
  · rw [List.map_append]
    exact srt.sublist (List.Sublist.append (List.Sublist.refl _) (List.sublist_cons_self _ _))
  · refine List.Perm.trans ?_ f.perm
    rw [List.map_append (l₁ := GG), List.append_assoc]
    exact List.Perm.append_left _ pp.symm
  · rw [List.map_append (l₁ := GG), List.append_assoc]
    refine f.pk _ ((List.Perm.cons e.1 hB).trans pp.symm) (.cons (fun y hy => ?_) (fun x hx hy => ?_) hP)
    · refine h1 y (pp.symm.mem_iff.mp ?_)
      rcases List.mem_cons.mp hy with rfl | hy
      · exact List.mem_cons_self
      · exact List.mem_cons_of_mem _ (hB.mem_iff.mp hy)
    · have hx' := hB.mem_iff.mp hx
      rw [List.map_append] at hx'
      rw [List.pairwise_append] at srt
      rcases List.mem_append.mp hx' with h | h
      · obtain ⟨z, hz, rfl⟩ := List.mem_map.mp h
        refine absurd (fun j hj => ?_) (h2 z hz)
        refine hy j ?_
        have := pp.mem_iff.mp hj
        rcases List.mem_cons.mp this with rfl | this
        · exact List.mem_cons_self
        · exact List.mem_cons_of_mem _ (hB.mem_iff.mpr this)
      · exact Nat.le_of_lt ((List.pairwise_cons.mp srt.2.1).1 x h)
theorem ok_IO {f fFF fMO fMF : Addr} {fd fdFF fdMO fdMF : FuncData} (F : Fun K "in_order" "in_order" sIO f fd) (T : Txt K mg C)
    (MMO : Meth K C "mask_of" fMO) (GMO : FnOk P w K mg base CX0 1 fMO fdMO ["self", "lines"] (spMO P w K C)) (bMO : Binds K fdMO ["self", "lines"] [])
    (MMF : Meth K C "mask_in_front" fMF) (GMF : FnOk P w K mg base CX0 1 fMF fdMF ["self", "line"] (spMk P w K C rFr)) (bMF : Binds K fdMF ["self", "line"] [])
    (GFF : FnOk P w K mg base CX0 1 fFF fdFF ["lines", "front", "mask"] (spFF P w K)) (bFF : Binds K fdFF ["lines", "front", "mask"] []) (gFF : mg "first_free" = some (.ref fFF)) (kFF : PySem.W.keepIn K (.ref fFF) = true)
    (m_sorted : mg "sorted" = none) : FnOk P w K mg base CX0 2 f fd ["graph", "block"] (spIO P w K C) := by
  refine F.ok scIO (fun vs H Q E h => ?_) (fun cdv A outer s H vs Q E hr h => ?_)
  · obtain ⟨x, l, n, kp, ks, g, tx, F, rfl, _⟩ := h
    rfl
  · obtain ⟨x, l, n, kp, ks, g, tx, F, rfl, hg, hl, hF, nd, hk, hn, q⟩ := h
    have hu := hr.units
    have hu1 := hu_of hr
    have hr1 : Room 1 _ := hr.mono (by decide)
    have zl := zl
    refine ⟨_, (pss_cons (ps_asg (pe_tup (pa_cons (pe_callB (GX.cr_sortedD hu) (by rfl) m_sorted (by decide +kernel) (pa_cons (pv 1) pa_nil)) (pa_cons (pe_meth (pv 0) T.cl MMO GMO hr1 bMO .nil pass0 (pa_cons (pv 1) pa_nil)) pa_nil))) (pg_tup (by rfl) (pgs_cons (pg_name (i := 2) scIO.nd rfl (.inl rfl)) (pgs_cons (pg_name (i := 3) scIO.nd rfl (.inr rfl)) pgs_nil))))
      (pss_cons (GX.ps_setDg (i := 5) (o0 := fun D => GX.dNO ktL P w D []) (put := GX.putN ktL P w K) (own := [("line", 4)]) (g := gName 4) (tt := tYes) (tk := tVar 4) (tv := tOp (rI0 fun i j => .int (Builtin.bitAnd i j)) (tMeth C "mask_in_front" (spMk P w K C rFr) [] E0 (tVar 0) (tCons (tVar 4) tNil)) (tVar 3)) (fun H h hb => GX.dg_empty H h hb) rfl scIO.nd rfl rfl (GX.sw_dict rfl rfl rfl (by decide +kernel)) (pi_list (pv 1)) (blkOk_by (N := nIO) (sc := defScope sIO) (by decide +kernel)) (fun _ _ _ _ _ => by exact pg_name (i := 4) scIO.nd rfl (.inl rfl)) (fun _ _ _ _ _ => pts_nil) (fun _ _ _ _ _ => by exact pv 4) (fun _ _ _ _ _ => by exact pe_op op_and (pe_meth (pv 0) T.cl MMF GMF hr1 bMF .nil pass0 (pa_cons (pv 4) pa_nil)) (pv 3)) (fun _ _ _ _ _ => GX.putR_N hu))
      (pss_cons (ps_set (i := 6) scIO.nd rfl (.inl rfl) (pe_lst (pa_nil)))
      (pss_cons (ps_while PassesOwn.never (pt_truth (pv 2) (by intro _; rfl))
      (pss_cons (ps_set (i := 4) scIO.nd rfl (.inl rfl) (pe_call GFF hr1 (by rfl) gFF kFF bFF .nil pass0 (pa_cons (pv 2) (pa_cons (pv 5) (pa_cons (pv 3) pa_nil)))))
      (pss_cons (ps_expr (pe_bm PySem.F.plainAttrs_list PySem.F.slot_list_remove PySem.F.type_list_remove (GX.mt_removeD hu) (pv 2) (pa_cons (pv 4) pa_nil)))
      (pss_cons (ps_aug (i := 3) scIO.nd rfl (.inr rfl) (pe_ix (GX.ix_N (T := ktL) hu) (pe_fld (pv 0) rfl) (pv 4) (fun _ _ => rfl)) ip_sub)
      (pss_one (ps_expr (pe_bm PySem.F.plainAttrs_list PySem.F.slot_list_append PySem.F.type_list_append mt_append (pv 6) (pa_cons (pv 4) pa_nil))))))))
      (pss_one (ps_ret (pv 6))))))), ?_⟩
    obtain ⟨al, so⟩ := able_L (fun e : Nat × V => e.1) F
    have lF : F.length ≤ 10 := by
      have := nat_nodup_len nd (m := List.range n) fun y hy => by
        obtain ⟨e, he, rfl⟩ := List.mem_map.mp hy
        exact List.mem_range.mpr (hk e he)
      rw [List.length_map, List.length_range] at this
      omega
    refine ⟨_, rfl, l, F.map (fun e : Nat × V => e.2), Nat × V, F, fun e => encL e.1, fun v e => v = e.2 ∧ e ∈ F, rfl, hl, each_ps F (fun _ h => h), fun v b hb => by rw [hb.1]; exact hF _ hb.2, al, so, fun b _ => Nat.le_trans (dpk b.1) (by decide), fun ys pS hys npS => ?_⟩
    have ey := ps_each hys
    subst ey
    obtain ⟨pF, sF⟩ := sort_L F
    generalize F.mergeSort (dataLe false fun e : Nat × V => encL e.1) = LL at pF sF npS
    have pk1 : (LL.map (·.1)).Perm (F.map (·.1)) := pF.map _
    have ndL : (LL.map (·.1)).Nodup := pk1.nodup_iff.mpr nd
    have srtL : (LL.map (·.1)).Pairwise (· < ·) := by
      have h1 : (LL.map (·.1)).Pairwise (· ≤ ·) := by
        rw [List.pairwise_map]
        exact sF
      exact (List.Pairwise.and h1 ndL).imp fun h => Nat.lt_of_le_of_ne h.1 h.2
    have s1 : Same H (upd H pS (.lst (LL.map (·.2)))) := same_new npS
    have hS1 : upd H pS (.lst (LL.map (·.2))) pS = some (.lst (LL.map (·.2))) := upd_same
    generalize upd H pS (.lst (LL.map (·.2))) = H1 at s1 hS1
    obtain ⟨dx', al', ap, ae, ab, at', ar, js, M, hx, _, _, _, ⟨esB, b1, b2, b3, b4⟩, _⟩ := hg.ex
    refine ⟨_, rfl, x, dx', _, rfl, s1 _ _ hx, gr_no no_mo, _, rfl, x, l, n, kp, ks, g, tx, F, rfl, hg.same s1, (GX.rs_same s1).sql hl, hF.ts (ts_same s1), hk, by omega, fun H2 s2 => ?_⟩
    refine ⟨by show 2 ≤ sizeLine; omega, fun t nt => ?_⟩
    refine ⟨t, _, rfl, SqT.of upd_same, rfl, _, _, rfl, _, _, rfl, rfl, ?_⟩
    have s3 : Same H1 (upd H2 t (.tup [V.ref pS, .int (maskN (F.map (·.1)) : Int)])) := same_trans s2 (same_new nt)
    generalize upd H2 t (.tup [V.ref pS, .int (maskN (F.map (·.1)) : Int)]) = H3 at s3
    have s03 := same_trans s1 s3
    -- what stands in front
    refine ⟨_, rfl, l, rfl, ⟨_, (GX.rs_same s03).sql hl⟩, fun D nD => ?_⟩
    refine GX.dg_it (o0 := fun D => dNO ktL P w D []) (put := GX.putN ktL P w K) (walk_list (K := K) (a := l) (xs := F.map (·.2))) (fun m H' => Same H3 H' ∧ ∃ es', H' D = some (dNO ktL P w D es') ∧ KeysAt ktL K H' es' ∧ es'.map (·.1) = (F.take m).map (·.1) ∧ ∀ e ∈ es', e.2.2 = .int (frM g (F.map (·.1)) e.1 : Int))
      ⟨same_new nD, [], upd_same, (fun _ h => nomatch h), rfl, (fun _ h => nomatch h)⟩ ?_ ?_ ?_
    · rintro m H' _ ⟨s, _⟩
      exact (GX.rs_same (same_trans s03 s)).sql hl
    · rintro m y H4 H4' hm ⟨s, es', eD, ka, kk, vv⟩ ⟨rfl, hy⟩
      obtain ⟨⟨k, v⟩, ge, rfl⟩ := map_get hy
      have hem := List.mem_of_getElem? ge
      have s04 := same_trans s03 s
      have hd := ln_ts (ts_same s04) (hF _ hem)
      obtain ⟨a, rfl⟩ := ln_ref hd
      have le' : es'.length ≤ F.length := by
        have := congrArg List.length kk
        rw [List.length_map, List.length_map, List.length_take] at this
        omega
      have nk : k ∉ es'.map (·.1) := fun h => by
        rw [kk] at h
        have e1 : F.map (·.1) = (F.take m).map (·.1) ++ (k :: (F.drop (m + 1)).map (·.1)) := by
          have hlt : m < F.length := (List.getElem?_eq_some_iff.mp ge).1
          have h1 : F = F.take m ++ ((k, V.ref a) :: F.drop (m + 1)) := by
            conv => lhs; rw [← List.take_append_drop (m + 1) F, List.take_add_one, ge]
            simp
          conv => lhs; rw [h1]
          rw [List.map_append]
          rfl
        rw [e1, List.nodup_append] at nd
        exact nd.2.2 _ h _ List.mem_cons_self rfl
      refine ⟨rfl, _, rfl, _, rfl, x, dx', _, rfl, s04 _ _ hx, gr_no no_mf, _, rfl, x, a, n, kp, ks, g, tx, k, rfl, hg.same s04, hd, hk _ hem, fun mm hm2 hb => ⟨_, rfl, _, _, rfl, rfl, es', k, a, rfl, eD, ka, hd, by omega, same_upd nD s, _, upd_same, (GX.st_keys ka hd).ts (ts_dict eD), ?_, fun e' he' => ?_⟩⟩
      · rw [dst_keys, if_neg nk, kk, List.take_add_one, ge, List.map_append]
        rfl
      · rcases dst_mem he' with ⟨h1, h2⟩ | ⟨h1, h2⟩
        · rw [h2, h1]
          show V.int (Builtin.bitAnd (mm : Int) (maskN (F.map (·.1)) : Int)) = _
          rw [and_nat, frM_eq nd hb]
        · exact vv e' h1
    rintro H4 ⟨s4, es, eD, ka, kk, vv⟩
    rw [List.length_map, List.take_length] at kk
    refine ⟨Nat.zero_le _, fun po npo => ?_⟩
    have s04 := same_trans s03 s4
    have s14 := same_trans s3 s4
    have s05 := same_trans s04 (same_new (o := .lst []) npo)
    have nepo : pS ≠ po := fun e => by
      have := s14 _ _ hS1
      rw [e, npo] at this
      cases this
    have f0 : IOJ P w K H (upd H4 po (.lst [])) g (F.map (·.1)) pS po D es LL [] := by
      have sn := same_new (o := .lst []) npo
      refine ⟨s05, npS, same_none s04 npo, nepo, (upd_ne nepo).trans (s14 _ _ hS1), upd_same, fun e he => ln_ts (ts_same s05) (hF e (pF.mem_iff.mp he)), (fun _ h => nomatch h), sn _ _ eD, ka.ts (ts_same sn), srtL, pk1, fun B _ hB => hB⟩
    generalize upd H4 po (.lst []) = H5 at f0
    refine ⟨fun m σ H' => ∃ (y4 : Option V) (LL GG : List (Nat × V)), σ = [some (.ref x), some (.ref l), some (.ref pS), some (.int (maskN (LL.map (·.1)) : Int)), y4, some (.ref D), some (.ref po)] ∧ m = LL.length ∧ IOJ P w K H H' g (F.map (·.1)) pS po D es LL GG,
      ⟨_, none, LL, [], by rw [mask_perm pk1]; rfl, rfl, f0⟩, ?_⟩
    rintro m σ H6 ⟨y4, LL, GG, rfl, rfl, f⟩
    refine ⟨_, rfl, _, .inl ⟨_, SqL.of f.hp, rfl⟩, ite2 (fun c1 => ?_) (fun c1 => ?_)⟩
    · refine ⟨fun σ' H' => ∃ m', m' < LL.length ∧ ∃ (y4 : Option V) (LL GG : List (Nat × V)), σ' = [some (.ref x), some (.ref l), some (.ref pS), some (.int (maskN (LL.map (·.1)) : Int)), y4, some (.ref D), some (.ref po)] ∧ m' = LL.length ∧ IOJ P w K H H' g (F.map (·.1)) pS po D es LL GG, fun _ _ z => z, ?_⟩
      have hne : LL.map (·.1) ≠ [] := fun e => by
        rw [List.map_eq_nil_iff.mp e] at c1
        exact absurd c1 (by decide)
      have ndL : (LL.map (·.1)).Nodup := f.srt.imp fun h => Nat.ne_of_lt h
      have sub : ∀ j ∈ LL.map (·.1), j ∈ F.map (·.1) := fun j hj => f.perm.mem_iff.mp (List.mem_append_right _ hj)
      obtain ⟨k0, hk0, hf0⟩ := has_free (so_rS g) hne
      obtain ⟨e0, he0, rfl⟩ := List.mem_map.mp hk0
      refine ⟨_, rfl, _, rfl, _, rfl, pS, D, LL, F.map (·.1), frM g (F.map (·.1)), maskN (LL.map (·.1)), rfl, SqL.of f.hp, f.lp, ⟨es, .inl f.hD, f.ka, kk, vv⟩, fun e he => sub _ (List.mem_map.mpr ⟨e, he, rfl⟩), ⟨e0, he0, (frM_zero nd ndL sub _).mpr hf0⟩, fun G1 e G2 hs hz hno => ?_⟩
      subst hs
      have hz' := (frM_zero nd ndL sub _).mp hz
      have hno' : ∀ y ∈ G1, ¬ ∀ j ∈ (G1 ++ e :: G2).map (·.1), rS g j y.1 = false := fun y hy h => hno y hy ((frM_zero nd ndL sub _).mpr h)
      have hde := f.lp e (List.mem_append_right _ List.mem_cons_self)
      obtain ⟨k, v⟩ := e
      obtain ⟨a, rfl⟩ := ln_ref hde
      have eer : ((G1 ++ (k, V.ref a) :: G2).map (·.2)).eraseIdx G1.length = (G1 ++ G2).map (·.2) := by
        rw [map_erase, List.eraseIdx_append_of_length_le (Nat.le_refl _), Nat.sub_self]
        rfl
      have egt : ((G1 ++ (k, V.ref a) :: G2).map (·.1))[G1.length]? = some k := by
        rw [List.map_append, List.getElem?_append_right (by rw [List.length_map]; exact Nat.le_refl _), List.length_map, Nat.sub_self]
        rfl
      refine ⟨_, rfl, .inl ⟨rfl, _, SqL.of f.hp⟩, _, rfl, pS, _, _, _, _, G1.length, rfl, rfl, f.hp, dpAll_L f.lp, hde, plain_Ls _, plain_L _, dpk _, place_L ndL egt, ?_⟩
      rw [eer]
      have st := f.step hz' hno'
      have hkn : k < n := by
        have := sub k (List.mem_map.mpr ⟨_, List.mem_append_right _ List.mem_cons_self, rfl⟩)
        obtain ⟨e, he, e2⟩ := List.mem_map.mp this
        have := hk e he
        rw [e2] at this
        exact this
      have emk : (maskN ((G1 ++ (k, V.ref a) :: G2).map (·.1)) : Int) - ((2 ^ k : Nat) : Int) = (maskN ((G1 ++ G2).map (·.1)) : Int) := by
        have : maskN ((G1 ++ (k, V.ref a) :: G2).map (·.1)) = 2 ^ k + maskN ((G1 ++ G2).map (·.1)) := by
          rw [← maskN_cons]
          refine mask_perm ?_
          rw [List.map_append, List.map_append, List.map_cons]
          exact List.perm_middle
        rw [this, Int.natCast_add]
        omega
      have sP := same_upd f.p0 f.sm (o := .lst ((G1 ++ G2).map (·.2)))
      have tP := ts_lst (K := K) (o := .lst ((G1 ++ G2).map (·.2))) f.hp
      have hoP : upd H6 pS (.lst ((G1 ++ G2).map (·.2))) po = some (.lst (GG.map (·.2))) := (upd_ne (Ne.symm f.ne)).trans f.ho
      obtain ⟨bo, hb⟩ := nums_at (M := fun k => 2 ^ k) b4 (k := k) (by rw [b3]; exact List.mem_range.mpr hkn)
      refine ⟨_, rfl, _, rfl, x, C, dx', _, _, rfl, sP _ _ hx, T.cl, T.n4, gr_bits, _, rfl, ab, a, esB, k, _, rfl, rfl, (GX.rs_same sP).dn b1, b2.ts (ts_same sP), ln_ts tP hde, hb, _, _, rfl, rfl, ?_⟩
      have lGG : GG.length ≤ 10 := by
        have := f.perm.length_eq
        rw [List.length_append, List.length_map, List.length_map, List.length_map] at this
        omega
      refine ⟨_, rfl, .inl ⟨rfl, _, SqL.of hoP⟩, _, rfl, po, _, _, rfl, rfl, hoP, by rw [List.length_map]; omega, ?_⟩
      rw [show (GG ++ [(k, V.ref a)]).map (fun e : Nat × V => e.2) = GG.map (fun e : Nat × V => e.2) ++ [V.ref a] from List.map_append] at st
      refine ⟨(G1 ++ G2).length, by rw [List.length_append, List.length_append, List.length_cons]; omega, some (.ref a), G1 ++ G2, GG ++ [(k, V.ref a)], ?_, rfl, st⟩
      rw [← emk]
      rfl
    · have eL : LL = [] := by
        cases LL with
        | nil => rfl
        | cons e LL => exact absurd rfl c1
      subst eL
      have hp := f.perm
      have hpk := f.pk [] (.refl _) .nil
      rw [List.map_nil, List.append_nil] at hp
      rw [List.append_nil] at hpk
      exact ⟨_, rfl, q po H6 GG f.sm f.o0 f.ho f.lo hp hpk⟩
end
end K12
namespace K12
open PySem PySem.Spec PyProof.Rows L2 TR QR
open GX (KT kd kdAll RS TSt dNO KeysAt)
open PySem.W (dataLt dataLe alike alikeAll AllAlike Sortable)
open MB
variable [Sg]
abbrev sWG : Stmt := topS 5
abbrev nWG : List Str := ["graph", "lines", "present", "behind", "line"]
theorem scWG : FnScope nWG ["graph", "lines"] (defScope sWG) := ⟨rfl, rfl, rfl, by decide +kernel, rfl, by decide +kernel, by decide +kernel⟩
section
variable {P : Program} {w : World} {K : PySem.W.Frag}
theorem asg_seq {te : TE} {g : L2.TG} {t : TS} {D : Ends} {σ : L2.St} {H : Hp} (h : te σ H fun x H1 => g x σ H1 fun σ' H' => t D σ' H') : tSeq (tAsg te g) t D σ H := h
theorem ret_of {te : TE} {D : Ends} {σ : L2.St} {H : Hp} (h : te σ H D.rt) : tRet te D σ H := h
/-- {line: tv for line in xs}, xs a list of lines -/
theorem dgl {i j : Nat} {tv : TE} {σ : L2.St} {H : Hp} {Q : VK} {l : Addr} {F : List (Nat × V)} (val : Nat → V)
    (hl : SqL K H l (F.map (·.2))) (hF : LAt K H F) (nd : (F.map (·.1)).Nodup) (ln : F.length ≤ 1000) (hi : σ[i]? = some (some (.ref l))) (hj : ∀ v, wipe (((wipe σ [j]).set j (some v))) [j] = wipe σ [j]) (hjj : ∀ v : V, ((wipe σ [j]).set j (some v))[j]? = some (some v))
    (step : ∀ e ∈ F, ∀ (a : Addr) (H1 : Hp) (R : VK), e.2 = .ref a → Same H H1 → Dp K H1 (.ref a) (encL e.1) → (∀ H2, Same H1 H2 → R (val e.1) H2) → tv ((wipe σ [j]).set j (some (.ref a))) H1 R)
    (q : ∀ D H' es', Same H H' → H D = none → H' D = some (dNO ktL P w D es') → KeysAt ktL K H' es' → es'.map (·.1) = F.map (·.1) → (∀ e' ∈ es', e'.2.2 = val e'.1) → Q (.ref D) H') :
    GX.tDg (fun D => dNO ktL P w D []) (GX.putN ktL P w K) (iList K (tVar i)) (gName j) tYes (tVar j) tv [j] σ H Q := by
  have zl := zl
  refine ⟨_, hi, l, rfl, ⟨_, hl⟩, fun D nD => ?_⟩
  refine GX.dg_it (o0 := fun D => dNO ktL P w D []) (put := GX.putN ktL P w K) (walk_list (K := K) (a := l) (xs := F.map (·.2))) (fun m H' => Same H H' ∧ ∃ es', H' D = some (dNO ktL P w D es') ∧ KeysAt ktL K H' es' ∧ es'.map (·.1) = (F.take m).map (·.1) ∧ ∀ e ∈ es', e.2.2 = val e.1)
    ⟨same_new nD, [], upd_same, (fun _ h => nomatch h), rfl, (fun _ h => nomatch h)⟩ ?_ ?_ ?_
  · rintro m H' _ ⟨s, _⟩
    exact (GX.rs_same s).sql hl
  · rintro m y H4 H4' hm ⟨s, es', eD, ka, kk, vv⟩ ⟨rfl, hy⟩
    obtain ⟨⟨k, v⟩, ge, rfl⟩ := map_get hy
    have hem := List.mem_of_getElem? ge
    have hd := ln_ts (ts_same s) (hF _ hem)
    obtain ⟨a, rfl⟩ := ln_ref hd
    have le' : es'.length ≤ F.length := by
      have := congrArg List.length kk
      rw [List.length_map, List.length_map, List.length_take] at this
      omega
    have nk : k ∉ es'.map (·.1) := fun h => by
      rw [kk] at h
      have e1 : F.map (·.1) = (F.take m).map (·.1) ++ (k :: (F.drop (m + 1)).map (·.1)) := by
        have hlt : m < F.length := (List.getElem?_eq_some_iff.mp ge).1
        have h1 : F = F.take m ++ ((k, V.ref a) :: F.drop (m + 1)) := by
          conv => lhs; rw [← List.take_append_drop (m + 1) F, List.take_add_one, ge]
          simp
        conv => lhs; rw [h1]
        rw [List.map_append]
        rfl
      rw [e1, List.nodup_append] at nd
      exact nd.2.2 _ h _ List.mem_cons_self rfl
    refine ⟨hj _, _, hjj _, step _ hem a _ _ rfl s hd fun H5 s5 => ?_⟩
    have hd5 := ln_ts (ts_same s5) hd
    have ka5 := ka.ts (ts_same (K := K) s5)
    refine ⟨es', k, a, rfl, s5 _ _ eD, ka5, hd5, by omega, same_upd nD (same_trans s s5), _, upd_same, (GX.st_keys ka5 hd5).ts (ts_dict (s5 _ _ eD)), ?_, fun e' he' => ?_⟩
    · rw [dst_keys, if_neg nk, kk, List.take_add_one, ge, List.map_append]
      rfl
    · rcases dst_mem he' with ⟨h1, h2⟩ | ⟨h1, h2⟩
      · rw [h2, h1]
      · exact vv e' h1
  · rintro H4 ⟨s4, es, eD, ka, kk, vv⟩
    rw [List.length_map, List.take_length] at kk
    exact q D H4 es s4 nD eD ka kk vv
/-- a dict of lines with whole numbers -/
def IntsAt (P : Program) (w : World) (K : PySem.W.Frag) (H : Hp) (r : Addr) (ks : List Nat) (m : Nat → Int) : Prop :=
  ∃ es : List (Nat × Addr × V), Rd H r (dNO ktL P w r es) ∧ KeysAt ktL K H es ∧ es.map (·.1) = ks ∧ ∀ e ∈ es, e.2.2 = .int (m e.1)
theorem IntsAt.rs {H H' : Hp} {r : Addr} {ks : List Nat} {m : Nat → Int} (s : RS H H') (h : IntsAt P w K H r ks m) : IntsAt P w K H' r ks m := by
  obtain ⟨es, h1, h2, h3, h4⟩ := h
  exact ⟨es, s.dn h1, h2.ts s.tst, h3, h4⟩
theorem ints_at {es : List (Nat × Addr × V)} {M : Nat → Int} {k : Nat} (e1 : ∀ e ∈ es, e.2.2 = .int (M e.1)) (hk : k ∈ es.map (·.1)) : ∃ b, (es.find? fun e => decide (e.1 = k)) = some (k, b, .int (M k)) := by
  obtain ⟨⟨k', b, v⟩, h1, h2, h3⟩ := find_of hk
  have h4 := e1 _ h2
  simp only at h3 h4
  subst h3
  subst h4
  exact ⟨b, h1⟩
end
theorem and_lt {m q n : Nat} (h : m < 2 ^ n) (hn : n ≤ 10) : m &&& q < 1024 := by
  have h1 : m &&& q ≤ m := Nat.and_le_left
  have h2 : 2 ^ n ≤ 2 ^ 10 := Nat.pow_le_pow_right (by decide) hn
  omega
section
variable {P : Program} {w : World} {K : PySem.W.Frag} {mg : Str → Option Value} {base : Heap} {C : Addr}
def spWG (P : Program) (w : World) (K : PySem.W.Frag) (C : Addr) : Sp := fun vs H Q _ => ∃ (x l : Addr) (n : Nat) (kp ks : List Nat) (g : Nat → List Nat) (tx : Nat → Str) (F : List (Nat × V)), vs = [.ref x, .ref l] ∧ GrAt P w K C H x n kp ks g tx ∧ SqL K H l (F.map (·.2)) ∧ LAt K H F ∧ (F.map (·.1)).Nodup ∧ (∀ e ∈ F, e.1 < n) ∧ n ≤ 10 ∧
  ∀ p H', Same H H' → H p = none → IntsAt P w K H' p (F.map (·.1)) (wgt (rS g) (F.map (·.1))) → Q (.ref p) H'
theorem ok_WG {f fBI fMO fMH fMF : Addr} {fd fdBI fdMO fdMH fdMF : FuncData} (F : Fun K "weights" "weights" sWG f fd) (T : Txt K mg C)
    (MMO : Meth K C "mask_of" fMO) (GMO : FnOk P w K mg base CX0 1 fMO fdMO ["self", "lines"] (spMO P w K C)) (bMO : Binds K fdMO ["self", "lines"] [])
    (MMH : Meth K C "mask_behind" fMH) (GMH : FnOk P w K mg base CX0 1 fMH fdMH ["self", "line"] (spMk P w K C rHi)) (bMH : Binds K fdMH ["self", "line"] [])
    (MMF : Meth K C "mask_in_front" fMF) (GMF : FnOk P w K mg base CX0 1 fMF fdMF ["self", "line"] (spMk P w K C rFr)) (bMF : Binds K fdMF ["self", "line"] [])
    (GBI : FnOk P w K mg base CX0 1 fBI fdBI ["mask"] spBI) (bBI : Binds K fdBI ["mask"] []) (gBI : mg "many_bits" = some (.ref fBI)) (kBI : PySem.W.keepIn K (.ref fBI) = true) : FnOk P w K mg base CX0 2 f fd ["graph", "lines"] (spWG P w K C) := by
  refine F.ok scWG (fun vs H Q E h => ?_) (fun cdv A outer s H vs Q E hr h => ?_)
  · obtain ⟨x, l, n, kp, ks, g, tx, F, rfl, _⟩ := h
    rfl
  · obtain ⟨x, l, n, kp, ks, g, tx, F, rfl, hg, hl, hF, nd, hk, hn, q⟩ := h
    have hu := hr.units
    have hu1 := hu_of hr
    have hr1 : Room 1 _ := hr.mono (by decide)
    have zl := zl
    refine ⟨_, (pss_cons (ps_set (i := 2) scWG.nd rfl (.inr rfl) (pe_meth (pv 0) T.cl MMO GMO hr1 bMO .nil pass0 (pa_cons (pv 1) pa_nil)))
      (pss_cons (ps_set (i := 3) scWG.nd rfl (.inr rfl) (GX.pe_dg (o0 := fun D => GX.dNO ktL P w D []) (put := GX.putN ktL P w K) (own := [("line", 4)]) (g := gName 4) (tt := tYes) (tk := tVar 4) (tv := tCall spBI [] E0 (tCons (tOp (rI0 fun i j => .int (Builtin.bitAnd i j)) (tMeth C "mask_behind" (spMk P w K C rHi) [] E0 (tVar 0) (tCons (tVar 4) tNil)) (tVar 2)) tNil)) (fun H h hb => GX.dg_empty H h hb) rfl scWG.nd (pi_list (pv 1)) (blkOk_by (N := nWG) (sc := defScope sWG) (by decide +kernel)) (fun _ _ _ _ _ => by exact pg_name (i := 4) scWG.nd rfl (.inl rfl)) (fun _ _ _ _ _ => pts_nil) (fun _ _ _ _ _ => by exact pv 4) (fun _ _ _ _ _ => by exact pe_call GBI hr1 (by rfl) gBI kBI bBI .nil pass0 (pa_cons (pe_op op_and (pe_meth (pv 0) T.cl MMH GMH hr1 bMH .nil pass0 (pa_cons (pv 4) pa_nil)) (pv 2)) pa_nil)) (fun _ _ _ _ _ => GX.putR_N hu)))
      (pss_one (ps_ret (GX.pe_dg (o0 := fun D => GX.dNO ktL P w D []) (put := GX.putN ktL P w K) (own := [("line", 4)]) (g := gName 4) (tt := tYes) (tk := tVar 4) (tv := tOp (rI0 fun i j => .int (i - j)) (tOp (GX.rIxN ktL P w K) (tVar 3) (tVar 4)) (tCall spBI [] E0 (tCons (tOp (rI0 fun i j => .int (Builtin.bitAnd i j)) (tMeth C "mask_in_front" (spMk P w K C rFr) [] E0 (tVar 0) (tCons (tVar 4) tNil)) (tVar 2)) tNil))) (fun H h hb => GX.dg_empty H h hb) rfl scWG.nd (pi_list (pv 1)) (blkOk_by (N := nWG) (sc := defScope sWG) (by decide +kernel)) (fun _ _ _ _ _ => by exact pg_name (i := 4) scWG.nd rfl (.inl rfl)) (fun _ _ _ _ _ => pts_nil) (fun _ _ _ _ _ => by exact pv 4) (fun _ _ _ _ _ => by exact pe_op op_sub (pe_ix (GX.ix_N (T := ktL) hu) (pv 3) (pv 4) (fun _ _ => rfl)) (pe_call GBI hr1 (by rfl) gBI kBI bBI .nil pass0 (pa_cons (pe_op op_and (pe_meth (pv 0) T.cl MMF GMF hr1 bMF .nil pass0 (pa_cons (pv 4) pa_nil)) (pv 2)) pa_nil))) (fun _ _ _ _ _ => GX.putR_N hu)))))), ?_⟩
    have lF : F.length ≤ 10 := by
      have := nat_nodup_len nd (m := List.range n) fun y hy => by
        obtain ⟨e, he, rfl⟩ := List.mem_map.mp hy
        exact List.mem_range.mpr (hk e he)
      rw [List.length_map, List.length_range] at this
      omega
    have kn : ∀ k ∈ F.map (·.1), k < 11 := fun k hk' => by
      obtain ⟨e, he, rfl⟩ := List.mem_map.mp hk'
      have := hk e he
      omega
    obtain ⟨dx', al', ap, ae, ab, at', ar, js, M, hx, _⟩ := hg.ex
    refine ⟨_, rfl, x, dx', _, rfl, hx, gr_no no_mo, _, rfl, x, l, n, kp, ks, g, tx, F, rfl, hg, hl, hF, hk, by omega, fun H1 s1 => ?_⟩
    dsimp only [gName]
    refine asg_seq ?_
    refine dgl (i := 1) (j := 4) (fun k => .int (MB.cnt (rS g k) (F.map (·.1)) : Int)) ((GX.rs_same s1).sql hl) (hF.ts (ts_same s1)) nd (by omega) rfl (by intro _; rfl) (by intro _; rfl) (fun e he a H2 R ea s2 hd hR => ?_) (fun D H2 es s2 nD eD ka kk vv => ?_)
    · have s02 := same_trans s1 s2
      refine ⟨_, rfl, x, dx', _, rfl, s02 _ _ hx, gr_no no_mh, _, rfl, x, a, n, kp, ks, g, tx, e.1, rfl, hg.same s02, hd, hk _ he, fun m hm hb => ⟨_, rfl, _, _, rfl, rfl, m &&& maskN (F.map (·.1)), by rw [← and_nat]; rfl, and_lt hm hn, ?_⟩⟩
      rw [popc_cnt (p := rS g e.1) nd kn fun j => by
        rw [Nat.testBit_and, mask_bit nd, Bool.and_eq_true, hb, decide_eq_true_iff]
        exact and_comm]
      exact hR _ same_refl
    · have s02 := same_trans s1 s2
      dsimp only [gName]
      refine ret_of ?_
      refine dgl (i := 1) (j := 4) (fun k => .int (wgt (rS g) (F.map (·.1)) k)) ((GX.rs_same s02).sql hl) (hF.ts (ts_same s02)) nd (by omega) rfl (by intro _; rfl) (by intro _; rfl) (fun e he a H3 R ea s3 hd hR => ?_) (fun D2 H3 es2 s3 nD2 eD2 ka2 kk2 vv2 => ?_)
      · have s03 := same_trans s02 s3
        obtain ⟨b, hb⟩ := nums_at (M := fun k => MB.cnt (rS g k) (F.map (·.1))) vv (k := e.1) (by rw [kk]; exact List.mem_map.mpr ⟨e, he, rfl⟩)
        refine ⟨_, rfl, _, rfl, D, a, es, e.1, _, rfl, rfl, .inl (s3 _ _ eD), ka.ts (ts_same s3), hd, hb, ?_⟩
        refine ⟨_, rfl, x, dx', _, rfl, s03 _ _ hx, gr_no no_mf, _, rfl, x, a, n, kp, ks, g, tx, e.1, rfl, hg.same s03, hd, hk _ he, fun m hm hb => ⟨_, rfl, _, _, rfl, rfl, m &&& maskN (F.map (·.1)), by rw [← and_nat]; rfl, and_lt hm hn, ?_⟩⟩
        rw [popc_cnt (p := fun y => rS g y e.1) nd kn fun j => by
          rw [Nat.testBit_and, mask_bit nd, Bool.and_eq_true, hb, decide_eq_true_iff]
          exact and_comm]
        exact ⟨_, _, rfl, rfl, hR _ same_refl⟩
      · exact q D2 H3 (same_trans s02 s3) (same_none s02 nD2) ⟨es2, .inl eD2, ka2, kk2, vv2⟩
end
end K12
/-! mathematics: pairs of a weight and a line; rows in any order -/
namespace K12
open PySem PySem.Spec PyProof.Rows L2 TR QR
open PySem.W (dataLt dataLe alike alikeAll AllAlike Sortable)
open MB
section
variable [Sg]
abbrev WP := Int × Nat
def encW (q : WP) : PyData := .tuple [.int q.1, encL q.2]
theorem alike_W (a b : WP) : alike (encW a) (encW b) = true := by
  unfold encW
  simp [alike, alikeAll, alike_L]
theorem dep_W (a : WP) : (encW a).depth ≤ 60 := by
  unfold encW
  have := dpk a.2
  simp only [PyData.depth, PyData.depthAll]
  omega
theorem able_W {κ : Type} (f : κ → WP) (es : List κ) : AllAlike (es.map fun e => encW (f e)) ∧ Sortable (es.map fun e => encW (f e)) :=
  ⟨AllAlike.of fun b b' => alike_W _ _, Sortable.tuples fun b => ⟨_, _, rfl⟩⟩
theorem lt_W (a b : WP) : dataLt (encW a) (encW b) = decide (a.1 < b.1 ∨ a.1 = b.1 ∧ a.2 < b.2) := by
  unfold encW
  rw [PySem.W.dataLt_tuple, PySem.W.dataLt_cons (by simp [alike])]
  have e : ∀ l, PyProof.Rows.lexLt PyProof.Rows.itemOrd l l = false := fun l => PyProof.Rows.lex_irrefl l
  by_cases h : a.1 = b.1
  · rw [if_pos (by simp [PyData.eqv, h]), PySem.W.dataLt_cons (alike_L _ _), eqv_L, e, lt_L]
    by_cases h2 : a.2 = b.2
    · simp [h, h2]
    · simp [h, h2]
  · rw [if_neg (by simp [PyData.eqv, h]), PySem.W.dataLt_int]
    simp [h]
theorem sort_W (F : List (WP × V)) : (F.mergeSort (dataLe false fun e : WP × V => encW e.1)).Perm F ∧ (F.mergeSort (dataLe false fun e : WP × V => encW e.1)).Pairwise fun a b => a.1.1 ≤ b.1.1 := by
  refine ⟨List.mergeSort_perm _ _, ?_⟩
  have le : (dataLe false fun e : WP × V => encW e.1) = fun p q => decide (¬ (q.1.1 < p.1.1 ∨ q.1.1 = p.1.1 ∧ q.1.2 < p.1.2)) := by
    funext p q
    rw [PySem.W.dataLe_eq]
    show (!dataLt (encW q.1) (encW p.1)) = _
    rw [lt_W, ← decide_not]
  rw [le]
  have := List.pairwise_mergeSort (le := fun p q : WP × V => decide (¬ (q.1.1 < p.1.1 ∨ q.1.1 = p.1.1 ∧ q.1.2 < p.1.2))) (fun a b c h1 h2 => by
    have h1 := of_decide_eq_true h1
    have h2 := of_decide_eq_true h2
    exact decide_eq_true (by omega)) (fun a b => by
    rw [Bool.or_eq_true, decide_eq_true_eq, decide_eq_true_eq]
    omega) F
  exact this.imp fun h => by
    have := of_decide_eq_true h
    omega
end
/-- one row for each, the same lines in it -/
inductive SameR : List (List Nat) → List (List Nat) → Prop
  | nil : SameR [] []
  | cons {A B : List Nat} {R S : List (List Nat)} : A.Perm B → SameR R S → SameR (A :: R) (B :: S)
theorem SameR.app {R S : List (List Nat)} {A B : List Nat} (h : SameR R S) (p : A.Perm B) : SameR (R ++ [A]) (S ++ [B]) := by
  induction h with
  | nil => exact .cons p .nil
  | cons q _ ih => exact .cons q ih
theorem SameR.flat {R S : List (List Nat)} (h : SameR R S) : R.flatten.Perm S.flatten := by
  induction h with
  | nil => exact .refl _
  | cons p _ ih =>
    rw [List.flatten_cons, List.flatten_cons]
    exact p.append ih
theorem SameR.mem {R S : List (List Nat)} (h : SameR R S) {A : List Nat} (hA : A ∈ R) : ∃ B ∈ S, A.Perm B := by
  induction h with
  | nil => cases hA
  | cons p _ ih =>
    rcases List.mem_cons.mp hA with rfl | hA
    · exact ⟨_, List.mem_cons_self, p⟩
    · obtain ⟨B, h1, h2⟩ := ih hA
      exact ⟨B, List.mem_cons_of_mem _ h1, h2⟩
theorem SameR.ord {r : Nat → Nat → Bool} {R S : List (List Nat)} (h : SameR R S) (o : S.Pairwise fun A B => ∀ a ∈ A, ∀ b ∈ B, r a b = true) : R.Pairwise fun A B => ∀ a ∈ A, ∀ b ∈ B, r a b = true := by
  induction h with
  | nil => exact .nil
  | cons p t ih =>
    obtain ⟨h1, h2⟩ := List.pairwise_cons.mp o
    refine List.pairwise_cons.mpr ⟨fun B hB a ha b hb => ?_, ih h2⟩
    obtain ⟨B', g1, g2⟩ := t.mem hB
    exact h1 B' g1 a (p.mem_iff.mp ha) b (g2.mem_iff.mp hb)
theorem rows_same_r {r : Nat → Nat → Bool} {L : List Nat} {R S : List (List Nat)} (h : SameR R S) (q : Rows r L S) : Rows r L R :=
  ⟨h.flat.trans q.perm, fun A hA e => by
    obtain ⟨B, h1, h2⟩ := h.mem hA
    rw [e] at h2
    exact q.ne B h1 h2.nil_eq.symm, h.ord q.ord, fun A hA T h1 h2 => by
    obtain ⟨B, g1, g2⟩ := h.mem hA
    obtain ⟨a, ha, ta⟩ := h1
    obtain ⟨b, hb, tb⟩ := h2
    obtain ⟨c, hc, d, hd, k⟩ := q.one B g1 T ⟨a, g2.mem_iff.mp ha, ta⟩ ⟨b, g2.mem_iff.mp hb, tb⟩
    exact ⟨c, g2.mem_iff.mpr hc, d, g2.mem_iff.mpr hd, k⟩⟩
theorem wgt_perm {r : Nat → Nat → Bool} {A B : List Nat} (p : A.Perm B) : wgt r A = wgt r B := by
  funext x
  unfold wgt MB.cnt
  rw [p.countP_eq, p.countP_eq]
end K12
namespace K12
open PySem PySem.Spec PyProof.Rows L2 TR QR
open GX (KT kd kdAll RS TSt dNO KeysAt)
open PySem.W (dataLt dataLe alike alikeAll AllAlike Sortable)
open MB
variable [Sg]
abbrev sBL : Stmt := topS 6
abbrev nBL : List Str := ["graph", "lines", "weight", "rows", "block", "total", "line", "many", "less"]
theorem scBL : FnScope nBL ["graph"] (defScope sBL) := ⟨rfl, rfl, rfl, by decide +kernel, rfl, by decide +kernel, by decide +kernel⟩
abbrev RowL := Addr × List (Nat × V)
def RowsAt (K : PySem.W.Frag) (H : Hp) (FF : List RowL) : Prop := ∀ z ∈ FF, SqL K H z.1 (z.2.map (·.2)) ∧ LAt K H z.2
def keysF (FF : List RowL) : List (List Nat) := FF.map fun z => z.2.map (·.1)
def WAt (K : PySem.W.Frag) (H : Hp) (PS : List (WP × V)) : Prop := ∀ e ∈ PS, ∃ t a : Addr, e.2 = .ref t ∧ SqT K H t [.int e.1.1, .ref a] ∧ Dp K H (.ref a) (encL e.1.2)
theorem RowsAt.rs {K : PySem.W.Frag} {H H' : Hp} {FF : List RowL} (s : RS H H') (h : RowsAt K H FF) : RowsAt K H' FF := fun z hz => ⟨s.sql (h z hz).1, (h z hz).2.ts s.tst⟩
theorem WAt.ts {K : PySem.W.Frag} {H H' : Hp} {PS : List (WP × V)} (s : TSt K H H') (h : WAt K H PS) : WAt K H' PS := fun e he => by
  obtain ⟨t, a, h1, h2, h3⟩ := h e he
  exact ⟨t, a, h1, sq_ts s h2, ln_ts s h3⟩
theorem WAt.dp {K : PySem.W.Frag} {H : Hp} {PS : List (WP × V)} (h : WAt K H PS) {e : WP × V} (he : e ∈ PS) : Dp K H e.2 (encW e.1) := by
  obtain ⟨t, a, h1, h2, h3⟩ := h e he
  rw [h1]
  exact .tup h2 (.cons (.int _) (.cons h3 .nil))
/-- the rows being made -/
structure BLJ (K : PySem.W.Frag) (Hb H' : Hp) (pr pb : Addr) (FF : List RowL) (B : List (Nat × V)) : Prop where
  sm : Same Hb H'
  r0 : Hb pr = none
  b0 : Hb pb = none
  ne : pr ≠ pb
  hr : H' pr = some (.lst (FF.map fun z => V.ref z.1))
  hb : H' pb = some (.lst (B.map (·.2)))
  lb : LAt K H' B
  rows : ∀ z ∈ FF, z.1 ≠ pr ∧ z.1 ≠ pb ∧ H' z.1 = some (.lst (z.2.map (·.2))) ∧ LAt K H' z.2
section
variable {P : Program} {w : World} {K : PySem.W.Frag} {Hb H' H2 : Hp} {pr pb : Addr} {FF : List RowL} {B : List (Nat × V)}
theorem BLJ.same (f : BLJ K Hb H' pr pb FF B) (s : Same H' H2) : BLJ K Hb H2 pr pb FF B :=
  ⟨same_trans f.sm s, f.r0, f.b0, f.ne, s _ _ f.hr, s _ _ f.hb, f.lb.ts (ts_same s), fun z hz => by
    obtain ⟨h1, h2, h3, h4⟩ := f.rows z hz
    exact ⟨h1, h2, s _ _ h3, h4.ts (ts_same s)⟩⟩
theorem BLJ.app (f : BLJ K Hb H' pr pb FF B) {e : Nat × V} (he : Dp K H' e.2 (encL e.1)) : BLJ K Hb (upd H' pb (.lst (B.map (·.2) ++ [e.2]))) pr pb FF (B ++ [e]) := by
  have t := ts_lst (K := K) (o := .lst (B.map (·.2) ++ [e.2])) f.hb
  refine ⟨same_upd f.b0 f.sm, f.r0, f.b0, f.ne, (upd_ne f.ne).trans f.hr, by rw [upd_same, List.map_append]; rfl, fun y hy => ?_, fun z hz => ?_⟩
  · rcases List.mem_append.mp hy with h | h
    · exact ln_ts t (f.lb y h)
    · rw [List.mem_singleton.mp h]
      exact ln_ts t he
  · obtain ⟨h1, h2, h3, h4⟩ := f.rows z hz
    exact ⟨h1, h2, (upd_ne h2).trans h3, h4.ts t⟩
theorem BLJ.row (f : BLJ K Hb H' pr pb FF B) {p : Addr} {G : List (Nat × V)} (s : Same H' H2) (np : H' p = none) (hp : H2 p = some (.lst (G.map (·.2)))) (hG : LAt K H2 G) : BLJ K Hb (upd H2 pr (.lst ((FF.map fun z => V.ref z.1) ++ [.ref p]))) pr pb (FF ++ [(p, G)]) B := by
  have f2 := f.same s
  have t := ts_lst (K := K) (o := .lst ((FF.map fun z => V.ref z.1) ++ [V.ref p])) f2.hr
  have n1 : p ≠ pr := fun e => by rw [e, f.hr] at np; cases np
  have n2 : p ≠ pb := fun e => by rw [e, f.hb] at np; cases np
  refine ⟨same_upd f2.r0 f2.sm, f2.r0, f2.b0, f2.ne, by rw [upd_same, List.map_append]; rfl, (upd_ne (Ne.symm f2.ne)).trans f2.hb, f2.lb.ts t, fun z hz => ?_⟩
  rcases List.mem_append.mp hz with h | h
  · obtain ⟨h1, h2, h3, h4⟩ := f2.rows z h
    exact ⟨h1, h2, (upd_ne h1).trans h3, h4.ts t⟩
  · rw [List.mem_singleton.mp h]
    exact ⟨n1, n2, (upd_ne n1).trans hp, hG.ts t⟩
theorem BLJ.newb (f : BLJ K Hb H' pr pb FF B) {nb : Addr} (n : H' nb = none) : BLJ K Hb (upd H' nb (.lst [])) pr nb FF [] := by
  have f2 := f.same (same_new (o := .lst []) n)
  have n1 : pr ≠ nb := fun e => by rw [← e, f.hr] at n; cases n
  refine ⟨f2.sm, f2.r0, same_none f.sm n, n1, f2.hr, upd_same, (fun _ h => nomatch h), fun z hz => ?_⟩
  obtain ⟨h1, h2, h3, h4⟩ := f2.rows z hz
  obtain ⟨_, _, h3', _⟩ := f.rows z hz
  exact ⟨h1, (fun e => by rw [← e, h3'] at n; cases n), h3, h4⟩
end
section
variable {P : Program} {w : World} {K : PySem.W.Frag} {mg : Str → Option Value} {base : Heap} {C : Addr}
def spBL (P : Program) (w : World) (K : PySem.W.Frag) (C : Addr) : Sp := fun vs H Q _ => ∃ (x : Addr) (n : Nat) (kp ks : List Nat) (g : Nat → List Nat) (tx : Nat → Str), vs = [.ref x] ∧ GrAt P w K C H x n kp ks g tx ∧ kp.Pairwise (· < ·) ∧ (∀ k ∈ kp, k < n) ∧ n ≤ 10 ∧
  ∀ p H' FF, Same H H' → H p = none → H' p = some (.lst (FF.map fun z => V.ref z.1)) → RowsAt K H' FF → Rows (rS g) kp (keysF FF) → (∀ A ∈ keysF FF, Picked (rS g) A) → Q (.ref p) H'
theorem ok_BL {f fWG fIO fML : Addr} {fd fdWG fdIO fdML : FuncData} (F : Fun K "blocks" "blocks" sBL f fd) (T : Txt K mg C)
    (MML : Meth K C "present_lines" fML) (GML : FnOk P w K mg base CX0 1 fML fdML ["self"] (spML P w K C)) (bML : Binds K fdML ["self"] [])
    (GWG : FnOk P w K mg base CX0 2 fWG fdWG ["graph", "lines"] (spWG P w K C)) (bWG : Binds K fdWG ["graph", "lines"] []) (gWG : mg "weights" = some (.ref fWG)) (kWG : PySem.W.keepIn K (.ref fWG) = true)
    (GIO : FnOk P w K mg base CX0 2 fIO fdIO ["graph", "block"] (spIO P w K C)) (bIO : Binds K fdIO ["graph", "block"] []) (gIO : mg "in_order" = some (.ref fIO)) (kIO : PySem.W.keepIn K (.ref fIO) = true)
    (m_len : mg "len" = none) (m_sorted : mg "sorted" = none) (m_enumerate : mg "enumerate" = none) : FnOk P w K mg base CX0 3 f fd ["graph"] (spBL P w K C) := by
  refine F.ok scBL (fun vs H Q E h => ?_) (fun cdv A outer s H vs Q E hr h => ?_)
  · obtain ⟨x, n, kp, ks, g, tx, rfl, _⟩ := h
    rfl
  · obtain ⟨x, n, kp, ks, g, tx, rfl, hg, hp, hk, hn, q⟩ := h
    have hu := hr.units
    have hu1 := hu_of hr
    have hr1 : Room 1 _ := hr.mono (by decide)
    have hr2 : Room 2 _ := hr.mono (by decide)
    have zl := zl
    refine ⟨_, (pss_cons (ps_set (i := 1) scBL.nd rfl (.inl rfl) (pe_meth0 (pv 0) T.cl MML GML hr1 bML .nil pass0))
      (pss_cons (ps_set (i := 2) scBL.nd rfl (.inr rfl) (pe_call GWG hr2 (by rfl) gWG kWG bWG .nil pass0 (pa_cons (pv 0) (pa_cons (pv 1) pa_nil))))
      (pss_cons (ps_par3 (i := 3) (j := 4) (l := 5) (by rfl) scBL.nd rfl rfl rfl (by decide) (by decide) (by decide) rfl rfl rfl (pa_cons (pe_lst (pa_nil)) (pa_cons (pe_lst (pa_nil)) (pa_cons (pe_int) pa_nil))) (by rfl))
      (pss_cons (ps_for PassesOwn.never rfl (GX.pi_enumK (by rfl) m_enumerate (pa_cons (pe_callB (GX.cr_sortedD hu) (by rfl) m_sorted (by decide +kernel) (pa_cons (pe_lc (own := [("line", 6)]) (g := gName 6) (tt := tYes) (te := tTup (tCons (tUn (rU fun i => .int (-i)) (tOp (GX.rIxN ktL P w K) (tVar 2) (tVar 6))) (tCons (tVar 6) tNil))) rfl scBL.nd (pi_list (pv 1)) (blkOk_by (N := nBL) (sc := defScope sBL) (by decide +kernel)) (fun _ _ _ _ _ => by exact pg_name (i := 6) scBL.nd rfl (.inl rfl)) (fun _ _ _ _ _ => pts_nil) (fun _ _ _ _ _ => by exact pe_tup (pa_cons (pe_un un_neg (pe_ix (GX.ix_N (T := ktL) hu) (pv 2) (pv 6) (fun _ _ => rfl))) (pa_cons (pv 6) pa_nil)))) pa_nil)) pa_nil) (pk_cons (pe_int) pk_nil)) (pg_tup (by rfl) (pgs_cons (pg_name (i := 7) scBL.nd rfl (.inl rfl)) (pgs_cons (pg_tup (by rfl) (pgs_cons (pg_name (i := 8) scBL.nd rfl (.inl rfl)) (pgs_cons (pg_name (i := 6) scBL.nd rfl (.inl rfl)) pgs_nil))) pgs_nil)))
      (pss_cons (ps_expr (pe_bm PySem.F.plainAttrs_list PySem.F.slot_list_append PySem.F.type_list_append mt_append (pv 4) (pa_cons (pv 6) pa_nil)))
      (pss_cons (ps_aug (i := 5) scBL.nd rfl (.inl rfl) (pv 8) ip_sub)
      (pss_one (ps_if (pt_cmpR op_eq (pv 5) (pe_op op_mul (pv 7) (pe_op op_sub (pe_callB call_len_seq (by rfl) m_len PySem.boot_len (pa_cons (pv 1) pa_nil)) (pv 7))) (nomark _))
      (pss_cons (ps_expr (pe_bm PySem.F.plainAttrs_list PySem.F.slot_list_append PySem.F.type_list_append mt_append (pv 3) (pa_cons (pe_call GIO hr2 (by rfl) gIO kIO bIO .nil pass0 (pa_cons (pv 0) (pa_cons (pv 4) pa_nil))) pa_nil)))
      (pss_one (ps_set (i := 4) scBL.nd rfl (.inl rfl) (pe_lst (pa_nil))))) pss_nil)))))
      (pss_one (ps_ret (pv 3))))))), ?_⟩
    obtain ⟨dx', al', ap, ae, ab, at', ar, js, M, hx, _⟩ := hg.ex
    have ndp : kp.Nodup := hp.imp fun h => Nat.ne_of_lt h
    refine ⟨_, rfl, x, dx', _, rfl, hx, gr_no no_pl, x, n, kp, ks, g, tx, rfl, hg, hp.imp fun h => Nat.le_of_lt h, fun p1 H1 F np1 s1 hp1 hF1 eF => ?_⟩
    subst eF
    have lF : F.length ≤ 10 := by
      have := nat_nodup_len ndp (m := List.range n) fun y hy => List.mem_range.mpr (hk y hy)
      rw [List.length_map, List.length_range] at this
      omega
    have hkF : ∀ e ∈ F, e.1 < n := fun e he => hk _ (List.mem_map.mpr ⟨e, he, rfl⟩)
    refine ⟨_, rfl, _, rfl, x, p1, n, _, ks, g, tx, F, rfl, hg.same s1, SqL.of hp1, hF1, ndp, hkF, hn, fun pw H2 s2 npw ⟨esW, w1, w2, w3, w4⟩ => ?_⟩
    have s02 := same_trans s1 s2
    refine ⟨Nat.zero_le _, fun pr npr => ⟨Nat.zero_le _, fun pb npb => ⟨_, _, _, rfl, ?_⟩⟩⟩
    have sr := same_new (o := .lst []) npr
    have sb := same_new (o := .lst []) npb
    have s24 := same_trans sr sb
    have hl4 := s24 _ _ (s2 _ _ hp1)
    have npb2 : H2 pb = none := same_none sr npb
    have nrb : pr ≠ pb := fun e => by rw [← e, upd_same] at npb; cases npb
    have hr4 : upd (upd H2 pr (.lst [])) pb (.lst []) pr = some (.lst []) := (upd_ne nrb).trans upd_same
    have hb4 : upd (upd H2 pr (.lst [])) pb (.lst []) pb = some (.lst []) := upd_same
    generalize upd (upd H2 pr (.lst [])) pb (.lst []) = H4 at s24 hl4 hr4 hb4
    have s04 := same_trans s02 s24
    have s14 := same_trans s2 s24
    refine ⟨_, rfl, p1, rfl, ⟨_, SqL.of hl4⟩, fun D nD => ?_⟩
    refine lc_list (xs := F.map (·.2)) (fun i H' => Same H4 H' ∧ ∃ PS : List (WP × V), H' D = some (.lst (PS.map (·.2))) ∧ WAt K H' PS ∧ PS.map (·.1) = (F.take i).map fun e => (-(wgt (rS g) (F.map (·.1)) e.1), e.1)) ⟨same_new nD, [], upd_same, (fun _ h => nomatch h), rfl⟩ ?_ ?_ ?_
    · rintro i H' _ ⟨s, _⟩
      exact SqL.of (s _ _ hl4)
    · rintro i y H' hy ⟨s, PS, eD, hW, eP⟩
      obtain ⟨⟨k, v⟩, ge, rfl⟩ := map_get hy
      have hem := List.mem_of_getElem? ge
      have hd := ln_ts (ts_same (same_trans s14 s)) (hF1 _ hem)
      obtain ⟨a, rfl⟩ := ln_ref hd
      obtain ⟨bo, hb⟩ := ints_at w4 (k := k) (by rw [w3]; exact List.mem_map.mpr ⟨_, hem, rfl⟩)
      have lP : PS.length ≤ F.length := by
        have := congrArg List.length eP
        rw [List.length_map, List.length_map, List.length_take] at this
        omega
      have s4 := same_trans s24 s
      refine ⟨rfl, _, rfl, _, rfl, pw, a, esW, k, _, rfl, rfl, (GX.rs_same s4).dn w1, w2.ts (ts_same s4), hd, hb, _, rfl, _, rfl, by show 2 ≤ sizeLine; omega, fun t nt => ?_⟩
      have sn := same_new (o := .tup [V.int (-(wgt (rS g) (F.map (·.1)) k)), V.ref a]) nt
      refine ⟨_, sn _ _ eD, by rw [List.length_map]; omega, same_upd nD (same_trans s sn), PS ++ [((-(wgt (rS g) (F.map (·.1)) k), k), V.ref t)], by rw [upd_same, List.map_append]; rfl, fun e he => ?_, ?_⟩
      · have tt := (ts_same (K := K) sn).trans (ts_lst (o := .lst (PS.map (·.2) ++ [V.ref t])) (sn _ _ eD))
        rcases List.mem_append.mp he with h | h
        · exact hW.ts tt e h
        · rw [List.mem_singleton.mp h]
          exact ⟨t, a, rfl, sq_ts (ts_lst (sn _ _ eD)) (SqT.of upd_same), ln_ts tt hd⟩
      · rw [List.map_append, eP, List.take_add_one, ge, List.map_append]
        rfl
    · rintro H5 ⟨s45, PS, eD, hW, eP⟩
      rw [List.length_map, List.take_length] at eP
      obtain ⟨alw, sow⟩ := able_W (fun e : WP × V => e.1) PS
      refine ⟨D, PS.map (fun e : WP × V => e.2), WP × V, PS, fun e => encW e.1, fun v e => v = e.2 ∧ e ∈ PS, rfl, SqL.of eD, each_ps PS (fun _ h => h), fun v b hb => by rw [hb.1]; exact hW.dp hb.2, alw, sow, fun b _ => dep_W b.1, fun ys pS hys npS => ?_⟩
      have ey := ps_each hys
      subst ey
      obtain ⟨pP, sP⟩ := sort_W PS
      generalize PS.mergeSort (dataLe false fun e : WP × V => encW e.1) = SS at pP sP npS
      have s5 := same_new (o := .lst (SS.map (·.2))) npS
      have hW6 : WAt K (upd H5 pS (.lst (SS.map (·.2)))) SS := fun e he => (hW.ts (ts_same s5)) e (pP.mem_iff.mp he)
      have hS6 : upd H5 pS (.lst (SS.map (·.2))) pS = some (.lst (SS.map (·.2))) := upd_same
      have s46 := same_trans s45 s5
      generalize upd H5 pS (.lst (SS.map (·.2))) = H6 at s46 hW6 hS6
      have s26 := same_trans s24 s46
      have s06 := same_trans s02 s26
      have eP1 : PS.map (fun e : WP × V => e.1.2) = F.map (·.1) := by
        have := congrArg (List.map fun q : WP => q.2) eP
        rw [List.map_map, List.map_map] at this
        exact this
      have eP2 : ∀ e ∈ SS, e.1.1 = -(wgt (rS g) (F.map (·.1)) e.1.2) := fun e he => by
        have h1 : e.1 ∈ PS.map (·.1) := List.mem_map.mpr ⟨e, pP.mem_iff.mp he, rfl⟩
        rw [eP] at h1
        obtain ⟨z, _, hz⟩ := List.mem_map.mp h1
        rw [← hz]
      have pPl : (SS.map (fun e : WP × V => e.1.2)).Perm (F.map (·.1)) := by
        rw [← eP1]
        exact pP.map _
      have ndPl := pPl.nodup_iff.mpr ndp
      have lSS : SS.length = F.length := by
        have := pPl.length_eq
        rwa [List.length_map, List.length_map] at this
      have ew := wgt_perm (r := rS g) pPl
      have hrows := rows_by_weights (so_rS g) _ ndPl (by
        rw [ew, List.pairwise_map]
        refine (List.Pairwise.and_mem.mp sP).imp fun {a b} h => ?_
        have h1 := eP2 a h.1
        have h2 := eP2 b h.2.1
        have h3 := h.2.2
        omega)
      rw [ew, List.length_map, lSS] at hrows
      have fin : ∀ H' (FF : List RowL), Same H2 H' → H' pr = some (.lst (FF.map fun z => V.ref z.1)) → RowsAt K H' FF → SameR (keysF FF) (cutRows (wgt (rS g) (F.map (·.1))) F.length 0 0 [] (SS.map (fun e : WP × V => e.1.2))) → (∀ A ∈ keysF FF, Picked (rS g) A) → Q (.ref pr) H' := fun H' FF s hr hR hS hP =>
        q pr H' FF (same_trans s02 s) (same_none s02 npr) hr hR (rows_perm (rows_same_r hS hrows) pPl) hP
      generalize wgt (rS g) (F.map (·.1)) = f at eP2 fin
      clear hrows ew eP eP1 pP sP eD hW alw sow w4 w3 w2 w1
      have f0 : BLJ K H2 H6 pr pb [] [] := ⟨s26, npr, npb2, nrb, s46 _ _ hr4, s46 _ _ hb4, (fun _ h => nomatch h), (fun _ h => nomatch h)⟩
      have nSb : pS ≠ pb := fun e => by
        rw [e] at npS
        have := s45 _ _ hb4
        rw [npS] at this
        cases this
      have nSr : pS ≠ pr := fun e => by
        rw [e] at npS
        have := s45 _ _ hr4
        rw [npS] at this
        cases this
      refine ⟨pS, _, 1, rfl, rfl, by decide, by decide, SqL.of hS6, ?_⟩
      refine for_it (GX.walk_enumK (K := K) (a := pS) (xs := SS.map (·.2)) 1) (fun i σ H' => ∃ (pb : Addr) (FF : List RowL) (B : List (Nat × V)) (y6 y7 y8 : Option V) (t : Int) (RR : List (List Nat)) (X : List Nat), σ = [some (.ref x), some (.ref p1), some (.ref pw), some (.ref pr), some (.ref pb), some (.int t), y6, y7, y8] ∧ BLJ K H2 H' pr pb FF B ∧ TSt K H6 H' ∧ H' pS = some (.lst (SS.map (·.2))) ∧ pS ≠ pb ∧
          cutRows f F.length 0 0 [] (SS.map (fun e : WP × V => e.1.2)) = RR ++ cutRows f F.length i t (B.map (·.1)) ((SS.map (fun e : WP × V => e.1.2)).drop i) ∧ SameR (keysF FF) RR ∧ (∀ A ∈ keysF FF, Picked (rS g) A) ∧ FF.length ≤ i ∧ (SS.map (fun e : WP × V => e.1.2)).take i = X ++ B.map (·.1))
        ⟨pb, [], [], none, none, none, 0, [], [], rfl, f0, fun _ _ h => h, hS6, nSb, rfl, .nil, (fun _ h => nomatch h), Nat.le_refl _, rfl⟩ ?_ ?_ ?_
      · rintro i σ H' _ ⟨_, _, _, _, _, _, _, _, _, _, _, _, h, _⟩
        exact SqL.of h
      · rintro i v σ H7 H7' hi ⟨pb, FF, B, y6, y7, y8, t, RR, X, rfl, f7, t7, hS7, nSb, eC, hSR, hPk, lFF, eX⟩ ⟨T', xv, rfl, nT, rfl, gx⟩
        obtain ⟨⟨⟨less, k⟩, v⟩, ge, rfl⟩ := map_get gx
        have hem := List.mem_of_getElem? ge
        obtain ⟨tt, a, ev, htt, hda⟩ := hW6 _ hem
        have hle := eP2 _ hem
        simp only at ev htt hda hle
        subst ev
        subst hle
        have sT := same_new (o := .tup [V.int (1 + (i : Nat)), V.ref tt]) nT
        have f8 := f7.same sT
        have t8 := t7.trans (ts_same sT)
        have hS8 := sT _ _ hS7
        have hT8 : SqT K (upd H7 T' (.tup [V.int (1 + (i : Nat)), V.ref tt])) T' [V.int (1 + (i : Nat)), V.ref tt] := SqT.of upd_same
        generalize upd H7 T' (.tup [V.int (1 + (i : Nat)), V.ref tt]) = H8 at f8 t8 hS8 hT8
        clear f7 t7 hS7 sT
        rw [List.length_map] at hi
        have lB : B.length ≤ i := by
          have := congrArg List.length eX
          simp only [List.length_take, List.length_append, List.length_map] at this
          omega
        refine ⟨T', _, rfl, hT8, rfl, _, _, rfl, _, _, rfl, tt, _, rfl, sq_ts t8 htt, rfl, _, _, rfl, _, _, rfl, rfl, rfl, ?_⟩
        refine ⟨_, rfl, .inl ⟨rfl, _, SqL.of f8.hb⟩, _, rfl, pb, _, _, rfl, rfl, f8.hb, by rw [List.length_map]; omega, ?_⟩
        have f9 := f8.app (e := (k, V.ref a)) (ln_ts t8 hda)
        have t9 := t8.trans (ts_lst (K := K) (o := .lst (B.map (·.2) ++ [V.ref a])) f8.hb)
        have hS9 : upd H8 pb (.lst (B.map (·.2) ++ [V.ref a])) pS = some (.lst (SS.map (·.2))) := (upd_ne nSb).trans hS8
        dsimp only
        generalize upd H8 pb (.lst (B.map (·.2) ++ [V.ref a])) = H9 at f9 t9 hS9
        clear f8 t8 hS8 hT8
        refine ⟨_, rfl, _, rfl, _, _, rfl, rfl, ?_⟩
        have hl9 : H9 p1 = some (.lst (F.map (·.2))) := f9.sm _ _ (s2 _ _ hp1)
        have etk : (SS.map (fun e : WP × V => e.1.2)).take (i + 1) = (SS.map (fun e : WP × V => e.1.2)).take i ++ [k] := by
          rw [List.take_add_one, List.getElem?_map, ge]
          rfl
        have edk : (SS.map (fun e : WP × V => e.1.2)).drop i = k :: (SS.map (fun e : WP × V => e.1.2)).drop (i + 1) := by
          have hlt : i < (SS.map (fun e : WP × V => e.1.2)).length := by rw [List.length_map]; exact hi
          rw [List.drop_eq_getElem_cons hlt]
          congr 1
          rw [List.getElem_map]
          rw [List.getElem?_eq_getElem hi] at ge
          rw [Option.some.inj ge]
        rw [edk, cutRows] at eC
        have eB : (B ++ [(k, V.ref a)]).map (·.1) = B.map (·.1) ++ [k] := by rw [List.map_append]; rfl
        have eX2 : (SS.map (fun e : WP × V => e.1.2)).take (i + 1) = X ++ (B ++ [(k, V.ref a)]).map (·.1) := by
          rw [etk, eX, eB, List.append_assoc]
        refine ⟨_, rfl, _, rfl, _, rfl, p1, _, rfl, .inl (SqL.of hl9), _, rfl, _, _, rfl, rfl, _, _, rfl, rfl, ?_, rfl, _, rfl, ite2 (fun c1 => ?_) (fun c1 => ?_)⟩
        · exact .inl (by omega)
        · have c1 := V.int.inj (of_decide_eq_true c1)
          simp only [List.length_map] at c1
          have c2 : t + f k = ((i + 1 : Nat) : Int) * ((F.length : Int) - ((i + 1 : Nat) : Int)) := by
            have e1 : ((i + 1 : Nat) : Int) = 1 + (i : Int) := by omega
            rw [e1, ← c1]
            omega
          rw [if_pos c2] at eC
          have ndB : ((B ++ [(k, V.ref a)]).map (·.1)).Nodup := by
            have h1 := ndPl.sublist (List.take_sublist (i + 1) _)
            rw [eX2] at h1
            exact (List.nodup_append.mp h1).2.1
          have hkB : ∀ e ∈ B ++ [(k, V.ref a)], e.1 < n := fun e he => by
            have h1 : e.1 ∈ (SS.map (fun e : WP × V => e.1.2)).take (i + 1) := by
              rw [eX2]
              exact List.mem_append_right _ (List.mem_map.mpr ⟨e, he, rfl⟩)
            have h2 := pPl.mem_iff.mp (List.mem_of_mem_take h1)
            obtain ⟨z, hz, e2⟩ := List.mem_map.mp h2
            rw [← e2]
            exact hkF z hz
          refine ⟨_, rfl, .inl ⟨rfl, _, SqL.of f9.hr⟩, _, rfl, _, rfl, x, pb, n, _, ks, g, tx, B ++ [(k, V.ref a)], rfl, hg.same (same_trans s02 f9.sm), SqL.of f9.hb, f9.lb, ndB, hkB, hn, fun p HA G sA npA hpA hGA hpm hpk => ?_⟩
          have fA := f9.row sA npA hpA hGA
          have fA9 := f9.same sA
          have tA := t9.trans ((ts_same (K := K) sA).trans (ts_lst (o := .lst ((FF.map fun z => V.ref z.1) ++ [V.ref p])) fA9.hr))
          have hSA : upd HA pr (.lst ((FF.map fun z => V.ref z.1) ++ [V.ref p])) pS = some (.lst (SS.map (·.2))) := (upd_ne nSr).trans (sA _ _ hS9)
          refine ⟨pr, _, _, rfl, rfl, fA9.hr, by rw [List.length_map]; omega, ?_⟩
          dsimp only
          generalize upd HA pr (.lst ((FF.map fun z => V.ref z.1) ++ [V.ref p])) = HB at fA tA hSA
          refine ⟨Nat.zero_le _, fun nb hnb => ?_⟩
          have ekF : keysF (FF ++ [(p, G)]) = keysF FF ++ [G.map (·.1)] := by
            unfold keysF
            rw [List.map_append]
            rfl
          refine ⟨nb, FF ++ [(p, G)], [], some (.ref a), some (.int (1 + (i : Nat))), some (.int (-(f k))), t + f k, RR ++ [(B ++ [(k, V.ref a)]).map (·.1)], X ++ (B ++ [(k, V.ref a)]).map (·.1), ?_, fA.newb hnb, tA.trans (ts_new hnb), (upd_ne fun e => by rw [e, hnb] at hSA; cases hSA).trans hSA, (fun e => by rw [e, hnb] at hSA; cases hSA), ?_, by rw [ekF]; exact hSR.app hpm, fun A hA => ?_, by rw [List.length_append]; show FF.length + 1 ≤ _; omega, by rw [eX2]; simp⟩
          · rw [show t + f k = t - -(f k) by omega]
            rfl
          · rw [eC, eB, List.append_assoc]
            rfl
          · rw [ekF] at hA
            rcases List.mem_append.mp hA with h | h
            · exact hPk A h
            · rw [List.mem_singleton.mp h]
              exact hpk
        · have c2 : ¬ t + f k = ((i + 1 : Nat) : Int) * ((F.length : Int) - ((i + 1 : Nat) : Int)) := fun c2 => c1 (decide_eq_true (by
            have e1 : ((i + 1 : Nat) : Int) = 1 + (i : Int) := by omega
            rw [e1] at c2
            show V.int (t - -(f k)) = V.int ((1 + (i : Int)) * (((F.map (·.2)).length : Int) - (1 + (i : Int))))
            rw [List.length_map, ← c2]
            congr 1
            omega))
          rw [if_neg c2] at eC
          refine ⟨pb, FF, B ++ [(k, V.ref a)], some (.ref a), some (.int (1 + (i : Nat))), some (.int (-(f k))), t + f k, RR, X, ?_, f9, t9, hS9, nSb, ?_, hSR, hPk, by omega, eX2⟩
          · rw [show t + f k = t - -(f k) by omega]
            rfl
          · rw [eC, eB]
      · rintro σ H7 ⟨pb, FF, B, y6, y7, y8, t, RR, X, rfl, f7, t7, hS7, nSb, eC, hSR, hPk, lFF, eX⟩
        rw [List.length_map, List.drop_of_length_le (by rw [List.length_map]; exact Nat.le_refl _), cutRows, List.append_nil] at eC
        exact ⟨_, rfl, fin H7 FF f7.sm f7.hr (fun z hz => ⟨SqL.of (f7.rows z hz).2.2.1, (f7.rows z hz).2.2.2⟩) (by rw [eC]; exact hSR) hPk⟩
end
end K12
namespace K12
open PySem PySem.Spec PyProof.Rows L2 TR QR
open GX (KT kd kdAll RS TSt dNO KeysAt)
open PySem.W (dataLt dataLe alike alikeAll AllAlike Sortable)
variable [Sg]
abbrev sED : Stmt := topS 29
abbrev nED : List Str := ["pairs", "edges", "one", "other"]
theorem scED : FnScope nED ["pairs"] (defScope sED) := ⟨rfl, rfl, rfl, by decide +kernel, rfl, by decide +kernel, by decide +kernel⟩
section
variable {P : Program} {w : World} {K : PySem.W.Frag} {mg : Str → Option Value} {base : Heap}
def edK (ps : List Pr) : List Nat := edK' (sortP ps)
def edG (ps : List Pr) : Nat → List Nat := edG' (sortP ps)
def spED (P : Program) (w : World) (K : PySem.W.Frag) : Sp := fun vs H Q _ => ∃ (l : Addr) (PS : List (Pr × V)), vs = [.ref l] ∧ SqL K H l (PS.map (·.2)) ∧ PAt K H PS ∧ PS.length ≤ 100 ∧
  ∀ H' p es, Same H H' → H p = none → H' p = some (dNO ktL P w p es) → KeysAt ktL K H' es → es.map (·.1) = edK (PS.map (·.1)) → (∀ e ∈ es, ∃ (l : Addr) (F : List (Nat × V)), e.2.2 = .ref l ∧ SqL K H' l (F.map (·.2)) ∧ LAt K H' F ∧ F.map (·.1) = edG (PS.map (·.1)) e.1) → Q (.ref p) H'
theorem ok_ED {f : Addr} {fd : FuncData} (F : Fun K "_law_edges" "_law_edges" sED f fd)
    (m_sorted : mg "sorted" = none) : FnOk P w K mg base CX0 1 f fd ["pairs"] (spED P w K) := by
  refine F.ok scED (fun vs H Q E h => ?_) (fun cdv A outer s H vs Q E hr h => ?_)
  · obtain ⟨l, PS, rfl, _⟩ := h
    rfl
  · obtain ⟨l, PS, rfl, hl, hP, ln, q⟩ := h
    have hu := hr.units
    have hu1 := hu_of hr
    have zl := zl
    refine ⟨_, (pss_cons (ps_set (i := 1) scED.nd rfl (.inl rfl) ((GX.pe_dnewN (T := ktL))))
      (pss_cons (ps_for PassesOwn.never rfl (pi_list (pe_callB (GX.cr_sortedD hu) (by rfl) m_sorted (by decide +kernel) (pa_cons (pv 0) pa_nil))) (pg_tup (by rfl) (pgs_cons (pg_name (i := 2) scED.nd rfl (.inl rfl)) (pgs_cons (pg_name (i := 3) scED.nd rfl (.inl rfl)) pgs_nil)))
      (pss_cons (ps_if (pt_cmpR (GX.op_notInN (T := ktL) hu) (pv 2) (pv 1) (by rfl))
      (pss_one (ps_asg (pe_lst (pa_nil)) (pg_sub (pv 1) (pv 2) (GX.set_N (T := ktL) hu)))) pss_nil)
      (pss_one (ps_expr (pe_bm PySem.F.plainAttrs_list PySem.F.slot_list_append PySem.F.type_list_append mt_append (pe_ix (GX.ix_N (T := ktL) hu) (pv 1) (pv 2) (fun _ _ => rfl)) (pa_cons (pv 3) pa_nil))))))
      (pss_one (ps_ret (pv 1))))), ?_⟩
    refine fun D nD => ?_
    have sD := same_new (o := dNO ktL P w D []) nD
    obtain ⟨al, so⟩ := able_P (fun e : Pr × V => e.1) PS
    refine ⟨_, rfl, l, PS.map (fun e : Pr × V => e.2), Pr × V, PS, fun e => encP e.1, fun v e => v = e.2 ∧ e ∈ PS, rfl, (GX.rs_same sD).sql hl, each_ps PS (fun _ h => h), fun v b hb => by rw [hb.1]; exact (hP.ts (ts_same sD)).dp hb.2, al, so, fun b _ => dep_P b.1, fun ys p hys np => ?_⟩
    have ey := ps_each hys
    subst ey
    have sp := same_new (o := .lst ((PS.mergeSort (dataLe false fun e : Pr × V => encP e.1)).map (·.2))) np
    have hpS : ∀ e ∈ PS.mergeSort (dataLe false fun e : Pr × V => encP e.1), e ∈ PS := fun e he => List.mem_mergeSort.mp he
    have eS := sort_fst PS
    have lS : (PS.mergeSort (dataLe false fun e : Pr × V => encP e.1)).length = PS.length := List.length_mergeSort _
    generalize PS.mergeSort (dataLe false fun e : Pr × V => encP e.1) = SS at sp hpS eS lS
    have np0 : H p = none := same_none sD np
    have nDp : D ≠ p := fun e => by rw [← e, upd_same] at np; cases np
    have eH : upd (upd H D (dNO ktL P w D [])) p (.lst (SS.map (·.2))) = upd (upd H p (.lst (SS.map (·.2)))) D (dNO ktL P w D []) := by
      funext b
      by_cases e1 : b = p
      · subst e1
        rw [upd_same, upd_ne (Ne.symm nDp), upd_same]
      · rw [upd_ne e1]
        by_cases e2 : b = D
        · subst e2
          rw [upd_same, upd_same]
        · rw [upd_ne e2, upd_ne e2, upd_ne e1]
    have sB : Same H (upd H p (.lst (SS.map (·.2)))) := same_new np0
    have hB : upd H p (.lst (SS.map (·.2))) p = some (.lst (SS.map (·.2))) := upd_same
    have nB : upd H p (.lst (SS.map (·.2))) D = none := (upd_ne nDp).trans nD
    have f0 : EJ P w K (upd H p (.lst (SS.map (·.2)))) (upd (upd H D (dNO ktL P w D [])) p (.lst (SS.map (·.2)))) D (edK' []) (edG' []) [] := by
      rw [eH]
      exact ⟨same_new nB, nB, upd_same, (fun _ h => nomatch h), rfl, (fun _ h => nomatch h), (fun _ h => nomatch h)⟩
    generalize upd H p (.lst (SS.map (·.2))) = HB at sB hB nB f0
    refine ⟨p, rfl, ⟨_, SqL.of upd_same⟩, ?_⟩
    have hP' := hP.ts (ts_same (K := K) sB)
    refine for_list (xs := SS.map (·.2)) (fun i σ H' => ∃ (y2 y3 : Option V) (es : List (Nat × Addr × V)), σ = [some (.ref l), some (.ref D), y2, y3] ∧ EJ P w K HB H' D (edK' ((SS.take i).map (·.1))) (edG' ((SS.take i).map (·.1))) es)
      ⟨none, none, [], rfl, f0⟩ ?_ ?_ ?_
    · rintro i σ H' _ ⟨_, _, _, _, f⟩
      exact SqL.of (f.sm _ _ hB)
    · rintro i x σ H2 hx ⟨y2, y3, es, rfl, f⟩
      obtain ⟨⟨⟨k, j⟩, v⟩, ge, rfl⟩ := map_get hx
      have hem := List.mem_of_getElem? ge
      obtain ⟨t, a, b, et, ht, ha, hb⟩ := hP' _ (hpS _ hem)
      simp only at et ht ha hb
      subst et
      have etk : (SS.take (i + 1)).map (·.1) = (SS.take i).map (·.1) ++ [(k, j)] := by rw [List.take_add_one, ge, List.map_append]; rfl
      have lq : ((SS.take i).map (·.1)).length ≤ SS.length := by
        rw [List.length_map, List.length_take]
        omega
      generalize (SS.take i).map (·.1) = qs at f etk lq
      have ht2 := sq_ts (ts_same f.sm) ht
      have ha2 := ln_ts (ts_same f.sm) ha
      -- the append, whatever came before
      have fin : ∀ (H3 : Hp) (es2 : List (Nat × Addr × V)), EJ P w K HB H3 D (kAdd (edK' qs) k) (edG' qs) es2 → ∀ (Nx : L2.St → Hp → Prop), (∀ σ' H', (∃ (y2 y3 : Option V) (es : List (Nat × Addr × V)), σ' = [some (.ref l), some (.ref D), y2, y3] ∧ EJ P w K HB H' D (edK' (qs ++ [(k, j)])) (edG' (qs ++ [(k, j)])) es) → Nx σ' H') →
          tBM K "list" rAppend (tOp (GX.rIxN ktL P w K) (tVar 1) (tVar 2)) (tCons (tVar 3) tNil) [some (.ref l), some (.ref D), some (.ref a), some (.ref b)] H3 (fun _ H' => Nx [some (.ref l), some (.ref D), some (.ref a), some (.ref b)] H') := fun H3 es2 f3 Nx hN => by
        have kin : k ∈ es2.map (·.1) := by
          rw [f3.ks]
          unfold kAdd
          split
          · assumption
          · exact List.mem_append_right _ List.mem_cons_self
        obtain ⟨e, e1, e2, e3⟩ := find_of kin
        obtain ⟨l2, F, b1, b2, b3, b4, b5⟩ := f3.vl e e2
        have ha3 := ln_ts (ts_same f3.sm) ha
        have hb3 := ln_ts (ts_same f3.sm) hb
        have nd : (es2.map (·.1)).Nodup := by
          rw [f3.ks]
          have := nd_edK (qs ++ [(k, j)])
          rw [edK_app] at this
          exact this
        have f4 := f3.app nd e2 b1 b2 b3 b4 b5 hb3
        have lF : F.length ≤ 1000 := by
          have h1 := congrArg List.length b5
          rw [List.length_map] at h1
          have h2 := edG_len (qs := qs) (k := e.1)
          omega
        obtain ⟨k', b', v'⟩ := e
        simp only at b1 e3
        subst b1
        subst e3
        refine ⟨_, rfl, _, rfl, D, a, es2, k', _, rfl, rfl, .inl f3.ek, f3.ka, ha3, e1, .inl ⟨rfl, _, SqL.of b3⟩, _, rfl, l2, _, _, rfl, rfl, b3, by rw [List.length_map]; omega, hN _ _ ⟨_, _, es2, rfl, ?_⟩⟩
        rw [edK_app, show edG' (qs ++ [(k', j)]) = fun x => if k' = x then edG' qs x ++ [j] else edG' qs x from funext fun x => edG_app qs (k', j) x]
        exact f4
      refine ⟨t, _, rfl, ht2, rfl, _, _, rfl, _, _, rfl, rfl, ?_⟩
      have les : es.length ≤ 1000 := by
        have h1 : es.length = (edK' qs).length := by rw [← f.ks, List.length_map]
        have h2 := nat_nodup_len (nd_edK qs) (m := qs.map (·.1)) fun x hx => by
          obtain ⟨q, h3, h4⟩ := (mem_edK qs).mp hx
          exact List.mem_map.mpr ⟨q, h3, h4⟩
        rw [List.length_map] at h2
        omega
      refine ⟨_, rfl, _, rfl, D, a, es, k, rfl, rfl, .inl f.ek, f.ka, ha2, _, rfl, ?_⟩
      rw [is_some, f.ks]
      refine ite2 (fun c1 => ?_) (fun c1 => ?_)
      · have nk : k ∉ edK' qs := by simpa using c1
        refine ⟨Nat.zero_le _, fun nn hnn => ?_⟩
        have sN := same_new (o := .lst []) hnn
        have fn := f.same sN
        have fz := f.new nk (edG_no nk) hnn ha2
        refine ⟨_, rfl, _, rfl, D, a, es, k, rfl, rfl, fn.ek, fn.ka, ln_ts (ts_same sN) ha2, by omega, ?_⟩
        refine fin _ (GX.dSt es k a (.ref nn)) ?_ _ fun σ' H' ⟨y2, y3, es, h1, h2⟩ => ⟨y2, y3, es, h1, by rw [etk]; exact h2⟩
        unfold kAdd
        rw [if_neg nk]
        exact fz
      · have yk : k ∈ edK' qs := by simpa using c1
        refine fin _ es ?_ _ fun σ' H' ⟨y2, y3, es, h1, h2⟩ => ⟨y2, y3, es, h1, by rw [etk]; exact h2⟩
        unfold kAdd
        rw [if_pos yk]
        exact f
    · rintro σ H2 ⟨y2, y3, es, rfl, f⟩
      rw [List.length_map, List.take_length, eS] at f
      exact ⟨_, rfl, q H2 D es (same_trans sB f.sm) nD f.ek f.ka f.ks fun e he => by
        obtain ⟨l, F, a1, a2, a3, a4, a5⟩ := f.vl e he
        exact ⟨l, F, a1, SqL.of a3, a4, a5⟩⟩
end
end K12
namespace K12
open PySem PySem.Spec PyProof.Rows L2 TR QR
open GX (KT kd kdAll RS TSt dNO KeysAt)
variable [Sg]
abbrev sRE : Stmt := topS 30
abbrev nRE : List Str := ["edges", "found", "one", "other", "turn", "more", "last"]
theorem scRE : FnScope nRE ["edges"] (defScope sRE) := ⟨rfl, rfl, rfl, by decide +kernel, rfl, by decide +kernel, by decide +kernel⟩
abbrev sLB : Stmt := topS 31
abbrev nLB : List Str := ["reach", "one", "other"]
theorem scLB : FnScope nLB ["reach", "one", "other"] (defScope sLB) := ⟨rfl, rfl, rfl, by decide +kernel, rfl, by decide +kernel, by decide +kernel⟩
abbrev sLS : Stmt := topS 32
abbrev nLS : List Str := ["reach", "one", "other"]
theorem scLS : FnScope nLS ["reach", "one", "other"] (defScope sLS) := ⟨rfl, rfl, rfl, by decide +kernel, rfl, by decide +kernel, by decide +kernel⟩
/-- a dict of dicts: who reaches whom -/
structure RI (P : Program) (w : World) (K : PySem.W.Frag) (H0 H : Hp) (D : Addr) (n : Nat) (es : List (Nat × Addr × V)) (R : Nat → Nat → Prop) : Prop where
  sm : Same H0 H
  ka : KeysAt ktL K H es
  nd : (es.map (·.1)).Nodup
  kn : ∀ k ∈ es.map (·.1), k < n
  vl : ∀ e ∈ es, ∃ (d : Addr) (fs : List (Nat × Addr × V)), e.2.2 = .ref d ∧ H0 d = none ∧ d ≠ D ∧ H d = some (dNO ktL P w d fs) ∧ KeysAt ktL K H fs ∧ (fs.map (·.1)).Nodup ∧ ∀ j, j ∈ fs.map (·.1) ↔ R e.1 j
  inj : ∀ e ∈ es, ∀ e' ∈ es, e.2.2 = e'.2.2 → e.1 = e'.1
  cl : ∀ i j, R i j → i ∈ es.map (·.1) ∧ j ∈ es.map (·.1)
def addR (R : Nat → Nat → Prop) (i j : Nat) : Nat → Nat → Prop := fun a b => R a b ∨ (a = i ∧ b = j)
section
variable {P : Program} {w : World} {K : PySem.W.Frag} {H0 H H' : Hp} {D : Addr} {n : Nat} {es : List (Nat × Addr × V)} {R R' : Nat → Nat → Prop} {k j : Nat}
theorem RI.len (f : RI P w K H0 H D n es R) : es.length ≤ n := by
  have := nat_nodup_len f.nd (m := List.range n) fun x hx => List.mem_range.mpr (f.kn x hx)
  rwa [List.length_map, List.length_range] at this
/-- the dict of a key -/
theorem RI.at (f : RI P w K H0 H D n es R) (hk : k ∈ es.map (·.1)) : ∃ (b d : Addr) (fs : List (Nat × Addr × V)), (es.find? fun e => decide (e.1 = k)) = some (k, b, .ref d) ∧ (k, b, .ref d) ∈ es ∧ H0 d = none ∧ d ≠ D ∧ H d = some (dNO ktL P w d fs) ∧ KeysAt ktL K H fs ∧ (fs.map (·.1)).Nodup ∧ (∀ j, j ∈ fs.map (·.1) ↔ R k j) ∧ fs.length ≤ n := by
  obtain ⟨⟨k', b, v⟩, h1, h2, h3⟩ := find_of hk
  obtain ⟨d, fs, a1, a2, a3, a4, a5, a6, a7⟩ := f.vl _ h2
  simp only at h3 a1 a7
  subst h3
  subst a1
  refine ⟨b, d, fs, h1, h2, a2, a3, a4, a5, a6, a7, ?_⟩
  have := nat_nodup_len a6 (m := List.range n) fun x hx => List.mem_range.mpr (f.kn x (f.cl k' x ((a7 x).mp hx)).2)
  rwa [List.length_map, List.length_range] at this
/-- something else changes -/
theorem RI.other (f : RI P w K H0 H D n es R) (s : Same H0 H') (h : ∀ b, b ≠ D → ∀ o, H b = some o → H' b = some o) (t : TSt K H H') : RI P w K H0 H' D n es R :=
  ⟨s, f.ka.ts t, f.nd, f.kn, fun e he => by
    obtain ⟨d, fs, a1, a2, a3, a4, a5, a6, a7⟩ := f.vl e he
    exact ⟨d, fs, a1, a2, a3, h d a3 _ a4, a5.ts t, a6, a7⟩, f.inj, f.cl⟩
theorem RI.same (f : RI P w K H0 H D n es R) (s : Same H H') : RI P w K H0 H' D n es R := f.other (same_trans f.sm s) (fun b _ o h => s b o h) (ts_same s)
theorem RI.iff (f : RI P w K H0 H D n es R) (h : ∀ i j, R i j ↔ R' i j) : RI P w K H0 H D n es R' := by
  have e : R = R' := funext fun i => funext fun j => propext (h i j)
  rw [← e]
  exact f
/-- i reaches j too -/
theorem RI.put (f : RI P w K H0 H D n es R) {b d b' : Addr} {fs : List (Nat × Addr × V)} (h1 : (k, b, V.ref d) ∈ es) (h0 : H0 d = none) (h2 : H d = some (dNO ktL P w d fs)) (h3 : KeysAt ktL K H fs) (h4 : (fs.map (·.1)).Nodup) (h5 : ∀ j, j ∈ fs.map (·.1) ↔ R k j) (hb : Dp K H (.ref b') (encL j)) (hj : j ∈ es.map (·.1)) {v : V} :
    RI P w K H0 (upd H d (dNO ktL P w d (GX.dSt fs j b' v))) D n es (addR R k j) := by
  have t := ts_dict (K := K) (o := dNO ktL P w d (GX.dSt fs j b' v)) h2
  refine ⟨same_upd h0 f.sm, f.ka.ts t, f.nd, f.kn, fun e he => ?_, f.inj, fun x y h => ?_⟩
  · obtain ⟨d2, fs2, a1, a2, a3, a4, a5, a6, a7⟩ := f.vl e he
    by_cases q : d2 = d
    · subst q
      have ek : e.1 = k := f.inj e he _ h1 (by rw [a1])
      refine ⟨d2, GX.dSt fs j b' v, a1, a2, a3, upd_same, (GX.st_keys h3 hb).ts t, GX.st_nodup h4, fun y => ?_⟩
      rw [dst_keys, ek]
      show _ ↔ R k y ∨ (k = k ∧ y = j)
      by_cases m : j ∈ fs.map (·.1)
      · rw [if_pos m, h5]
        constructor
        · exact .inl
        · rintro (h | ⟨_, rfl⟩)
          · exact h
          · exact (h5 _).mp m
      · rw [if_neg m, List.mem_append, h5, List.mem_singleton]
        simp
    · have ne : e.1 ≠ k := fun z => by
        have g1 := find_nodup f.nd he
        have g2 := find_nodup f.nd h1
        simp only at g2
        rw [z, g2] at g1
        have := Option.some.inj g1
        rw [← this] at a1
        cases a1
        exact q rfl
      refine ⟨d2, fs2, a1, a2, a3, (upd_ne q).trans a4, a5.ts t, a6, fun y => ?_⟩
      rw [a7]
      show _ ↔ R e.1 y ∨ (e.1 = k ∧ y = j)
      simp [ne]
  · rcases h with h | ⟨rfl, rfl⟩
    · exact f.cl x y h
    · exact ⟨List.mem_map.mpr ⟨_, h1, rfl⟩, hj⟩
end
/-- what the law's reach tells -/
def RchAt (P : Program) (w : World) (K : PySem.W.Frag) (H : Hp) (r : Addr) (R : Nat → Nat → Prop) : Prop :=
  ∃ es : List (Nat × Addr × V), Rd H r (dNO ktL P w r es) ∧ KeysAt ktL K H es ∧ (es.map (·.1)).Nodup ∧ (∀ e ∈ es, ∃ (d : Addr) (fs : List (Nat × Addr × V)), e.2.2 = .ref d ∧ Rd H d (dNO ktL P w d fs) ∧ KeysAt ktL K H fs ∧ ∀ j, j ∈ fs.map (·.1) ↔ R e.1 j) ∧ ∀ i j, R i j → i ∈ es.map (·.1)
theorem RchAt.rs {P : Program} {w : World} {K : PySem.W.Frag} {H H' : Hp} {r : Addr} {R : Nat → Nat → Prop} (s : RS H H') (h : RchAt P w K H r R) : RchAt P w K H' r R := by
  obtain ⟨es, h1, h2, h3, h4, h5⟩ := h
  refine ⟨es, s.dn h1, h2.ts s.tst, h3, fun e he => ?_, h5⟩
  obtain ⟨d, fs, a1, a2, a3, a4⟩ := h4 e he
  exact ⟨d, fs, a1, s.dn a2, a3.ts s.tst, a4⟩
section
variable {P : Program} {w : World} {K : PySem.W.Frag} {mg : Str → Option Value} {base : Heap}
def spLB (P : Program) (w : World) (K : PySem.W.Frag) : Sp := fun vs H Q _ => ∃ (r a b : Addr) (R : Nat → Nat → Prop) (i j : Nat), vs = [.ref r, .ref a, .ref b] ∧ RchAt P w K H r R ∧ Dp K H (.ref a) (encL i) ∧ Dp K H (.ref b) (encL j) ∧ ∀ z : Bool, (z = true ↔ R i j) → Q (.bl z) H
def spLS (P : Program) (w : World) (K : PySem.W.Frag) : Sp := fun vs H Q _ => ∃ (r a b : Addr) (R : Nat → Nat → Prop) (i j : Nat), vs = [.ref r, .ref a, .ref b] ∧ RchAt P w K H r R ∧ Dp K H (.ref a) (encL i) ∧ Dp K H (.ref b) (encL j) ∧ ∀ z : Bool, (z = true ↔ (R i j ∧ ¬ R j i)) → Q (.bl z) H
theorem ok_LB {f : Addr} {fd : FuncData} (F : Fun K "_law_before" "_law_before" sLB f fd) : FnOk P w K mg base CX0 1 f fd ["reach", "one", "other"] (spLB P w K) := by
  refine F.ok scLB (fun vs H Q E h => ?_) (fun cdv A outer s H vs Q E hr h => ?_)
  · obtain ⟨r, a, b, R, i, j, rfl, _⟩ := h
    rfl
  · obtain ⟨r, a, b, R, i, j, rfl, ⟨es, h1, h2, h3, h4, h5⟩, ha, hb, q⟩ := h
    have hu := hr.units
    have hu1 := hu_of hr
    have zl := zl
    refine ⟨_, (pss_one (ps_ret (pe_and (pe_cmpR (GX.op_inN (T := ktL) hu) (pv 1) (pv 0) (by rfl)) (pe_one (pe_cmpR (GX.op_inN (T := ktL) hu) (pv 2) (pe_ix (GX.ix_N (T := ktL) hu) (pv 0) (pv 1) (fun _ _ => rfl)) (by rfl)))))), ?_⟩
    refine ⟨_, rfl, _, rfl, r, a, es, i, rfl, rfl, h1, h2, ha, _, rfl, ?_⟩
    rw [is_some]
    refine ite2 (fun c1 => ?_) (fun c1 => ?_)
    · obtain ⟨⟨k, b', v⟩, f1, f2, f3⟩ := find_of (of_decide_eq_true c1)
      obtain ⟨d, fs, a1, a2, a3, a4⟩ := h4 _ f2
      simp only at f3 a1 a4
      subst f3
      subst a1
      refine ⟨_, rfl, _, rfl, _, rfl, r, a, es, k, _, rfl, rfl, h1, h2, ha, f1, d, b, fs, j, rfl, rfl, a2, a3, hb, ?_⟩
      rw [is_some]
      exact q _ (by rw [decide_eq_true_iff]; exact a4 j)
    · exact q false ⟨(fun h => nomatch h), fun h => absurd (decide_eq_true (h5 i j h)) c1⟩
theorem ok_LS {f fLB : Addr} {fd fdLB : FuncData} (F : Fun K "_law_strictly" "_law_strictly" sLS f fd)
    (GLB : FnOk P w K mg base CX0 1 fLB fdLB ["reach", "one", "other"] (spLB P w K)) (bLB : Binds K fdLB ["reach", "one", "other"] []) (gLB : mg "_law_before" = some (.ref fLB)) (kLB : PySem.W.keepIn K (.ref fLB) = true) : FnOk P w K mg base CX0 2 f fd ["reach", "one", "other"] (spLS P w K) := by
  refine F.ok scLS (fun vs H Q E h => ?_) (fun cdv A outer s H vs Q E hr h => ?_)
  · obtain ⟨r, a, b, R, i, j, rfl, _⟩ := h
    rfl
  · obtain ⟨r, a, b, R, i, j, rfl, hR, ha, hb, q⟩ := h
    have hu := hr.units
    have hu1 := hu_of hr
    have hr1 : Room 1 _ := hr.mono (by decide)
    have zl := zl
    refine ⟨_, (pss_one (ps_ret (pe_and (pe_call GLB hr1 (by rfl) gLB kLB bLB .nil pass0 (pa_cons (pv 0) (pa_cons (pv 1) (pa_cons (pv 2) pa_nil)))) (pe_one (pe_not (pe_call GLB hr1 (by rfl) gLB kLB bLB .nil pass0 (pa_cons (pv 0) (pa_cons (pv 2) (pa_cons (pv 1) pa_nil))))))))), ?_⟩
    refine ⟨_, rfl, _, rfl, _, rfl, r, a, b, R, i, j, rfl, hR, ha, hb, fun z hz => ⟨z, rfl, ite2 (fun c1 => ?_) (fun c1 => ?_)⟩⟩
    · subst c1
      refine ⟨_, rfl, _, rfl, _, rfl, r, b, a, R, j, i, rfl, hR, hb, ha, fun z2 hz2 => ⟨z2, rfl, ?_⟩⟩
      cases z2 with
      | false => exact q true ⟨fun _ => ⟨hz.mp rfl, fun h => absurd (hz2.mpr h) Bool.false_ne_true⟩, fun _ => rfl⟩
      | true => exact q false ⟨(fun h => nomatch h), fun h => absurd (hz2.mp rfl) h.2⟩
    · exact q false ⟨(fun h => nomatch h), fun h => absurd (hz.mpr h.1) c1⟩
end
end K12
namespace K12
open PySem PySem.Spec PyProof.Rows L2 TR QR
open GX (KT kd kdAll RS TSt dNO KeysAt)
variable [Sg]
section
variable {P : Program} {w : World} {K : PySem.W.Frag} {H0 H H' : Hp} {D : Addr} {n : Nat} {es : List (Nat × Addr × V)} {R R' : Nat → Nat → Prop} {k j : Nat}
theorem RI.new (f : RI P w K H0 H D n es R) (hD : H D = some (dNO ktL P w D es)) (d0 : H0 D = none) (nk : k ∉ es.map (·.1)) (hk : k < n) {nn a : Addr} (hn : H nn = none) (ha : Dp K H (.ref a) (encL k)) :
    RI P w K H0 (upd (upd H nn (dNO ktL P w nn [])) D (dNO ktL P w D (GX.dSt es k a (.ref nn)))) D n (GX.dSt es k a (.ref nn)) R := by
  have sN := same_new (o := dNO ktL P w nn []) hn
  have nnD : nn ≠ D := fun e => by rw [e, hD] at hn; cases hn
  have n0 : H0 nn = none := same_none f.sm hn
  have hD1 := sN _ _ hD
  have t := (ts_same (K := K) sN).trans (ts_dict (K := K) (o := dNO ktL P w D (GX.dSt es k a (.ref nn))) hD1)
  have ek : (GX.dSt es k a (.ref nn)).map (·.1) = es.map (·.1) ++ [k] := by rw [dst_keys, if_neg nk]
  have old : ∀ e ∈ es, e.2.2 ≠ .ref nn := fun e he z => by
    obtain ⟨d, fs, a1, a2, a3, a4, _⟩ := f.vl e he
    rw [a1] at z
    cases z
    rw [hn] at a4
    cases a4
  refine ⟨same_upd d0 (same_trans f.sm sN), (GX.st_keys f.ka ha).ts t, GX.st_nodup f.nd, fun x hx => ?_, fun e he => ?_, fun e he e' he' z => ?_, fun x y h => ?_⟩
  · rw [ek] at hx
    rcases List.mem_append.mp hx with h | h
    · exact f.kn x h
    · rw [List.mem_singleton.mp h]
      exact hk
  · rcases dst_mem he with ⟨h1, h2⟩ | ⟨h1, h2⟩
    · refine ⟨nn, [], h2, n0, nnD, (upd_ne nnD).trans upd_same, (fun _ h => nomatch h), List.nodup_nil, fun y => ?_⟩
      rw [h1]
      constructor
      · intro h
        cases h
      · intro h
        exact absurd (f.cl k y h).1 nk
    · obtain ⟨d, fs, a1, a2, a3, a4, a5, a6, a7⟩ := f.vl e h1
      exact ⟨d, fs, a1, a2, a3, (upd_ne a3).trans (sN _ _ a4), a5.ts t, a6, a7⟩
  · rcases dst_mem he with ⟨h1, h2⟩ | ⟨h1, h2⟩
    · rcases dst_mem he' with ⟨g1, g2⟩ | ⟨g1, g2⟩
      · rw [h1, g1]
      · rw [h2] at z
        exact absurd z.symm (old e' g1)
    · rcases dst_mem he' with ⟨g1, g2⟩ | ⟨g1, g2⟩
      · rw [g2] at z
        exact absurd z (old e h1)
      · exact f.inj e h1 e' g1 z
  · rw [ek]
    exact ⟨List.mem_append_left _ (f.cl x y h).1, List.mem_append_left _ (f.cl x y h).2⟩
end
theorem ens {P : Program} {w : World} {K : PySem.W.Frag} {H0 H : Hp} {D : Addr} {n : Nat} {es : List (Nat × Addr × V)} {R : Nat → Nat → Prop} {k s : Nat} {σ : L2.St} {a : Addr} {t : TS} {De : Ends} (h1 : σ[1]? = some (some (.ref D))) (hs : σ[s]? = some (some (.ref a))) (f : RI P w K H0 H D n es R) (hD : H D = some (dNO ktL P w D es)) (d0 : H0 D = none) (hk : k < n) (hn : n ≤ 16) (ha : Dp K H (.ref a) (encL k))
    (q : ∀ H' es', H' D = some (dNO ktL P w D es') → RI P w K H0 H' D n es' R → k ∈ es'.map (·.1) → (∀ x ∈ es.map (·.1), x ∈ es'.map (·.1)) → t De σ H') :
    tSeq (tIfS (tTest (tOp (GX.rNotInN ktL P w K) (tVar s) (tVar 1))) (tAsg (GX.tDNewN ktL P w) (gSub (tVar 1) (tVar s) (GX.rSetN ktL P w K))) tNext) t De σ H := by
  have zl := zl
  refine ⟨_, hs, _, h1, D, a, es, k, rfl, rfl, .inl hD, f.ka, ha, _, rfl, ?_⟩
  rw [is_some]
  have le := f.len
  refine ite2 (fun c1 => ?_) (fun c1 => ?_)
  · have nk : k ∉ es.map (·.1) := by simpa using c1
    refine fun nn hnn => ?_
    have sN := same_new (o := dNO ktL P w nn []) hnn
    refine ⟨_, h1, _, hs, D, a, es, k, rfl, rfl, sN _ _ hD, f.ka.ts (ts_same sN), ln_ts (ts_same sN) ha, by omega, ?_⟩
    refine q _ _ upd_same (f.new hD d0 nk hk hnn ha) ?_ fun x hx => ?_
    · rw [dst_keys, if_neg nk]
      exact List.mem_append_right _ List.mem_cons_self
    · rw [dst_keys, if_neg nk]
      exact List.mem_append_left _ hx
  · exact q _ es hD f (by simpa using c1) fun _ h => h
section
variable {P : Program} {w : World} {K : PySem.W.Frag} {mg : Str → Option Value} {base : Heap}
def spRE (P : Program) (w : World) (K : PySem.W.Frag) : Sp := fun vs H Q _ => ∃ (l : Addr) (PS : List (Pr × V)) (n : Nat), vs = [.ref l] ∧ SqL K H l (PS.map (·.2)) ∧ PAt K H PS ∧ PS.length ≤ 64 ∧ n ≤ 16 ∧ (∀ e ∈ PS, e.1.1 < n ∧ e.1.2 < n) ∧
  ∀ H' p, Same H H' → H p = none → RchAt P w K H' p (TG fun a b => (a, b) ∈ PS.map (·.1)) → Q (.ref p) H'
theorem ok_RE {f : Addr} {fd : FuncData} (F : Fun K "_law_reach" "_law_reach" sRE f fd)
    (m_len : mg "len" = none) (m_range : mg "range" = none) (m_list : mg "list" = none) : FnOk P w K mg base CX0 1 f fd ["edges"] (spRE P w K) := by
  refine F.ok scRE (fun vs H Q E h => ?_) (fun cdv A outer s H vs Q E hr h => ?_)
  · obtain ⟨l, PS, n, rfl, _⟩ := h
    rfl
  · obtain ⟨l, PS, n, rfl, hl, hP, ln, hn, hk, q⟩ := h
    have hu := hr.units
    have hu1 := hu_of hr
    have zl := zl
    refine ⟨_, (pss_cons (ps_set (i := 1) scRE.nd rfl (.inl rfl) ((GX.pe_dnewN (T := ktL))))
      (pss_cons (ps_for PassesOwn.never rfl (pi_list (pv 0)) (pg_tup (by rfl) (pgs_cons (pg_name (i := 2) scRE.nd rfl (.inl rfl)) (pgs_cons (pg_name (i := 3) scRE.nd rfl (.inl rfl)) pgs_nil)))
      (pss_cons (ps_if (pt_cmpR (GX.op_notInN (T := ktL) hu) (pv 2) (pv 1) (by rfl))
      (pss_one (ps_asg ((GX.pe_dnewN (T := ktL))) (pg_sub (pv 1) (pv 2) (GX.set_N (T := ktL) hu)))) pss_nil)
      (pss_cons (ps_if (pt_cmpR (GX.op_notInN (T := ktL) hu) (pv 3) (pv 1) (by rfl))
      (pss_one (ps_asg ((GX.pe_dnewN (T := ktL))) (pg_sub (pv 1) (pv 3) (GX.set_N (T := ktL) hu)))) pss_nil)
      (pss_one (ps_asg (pe_bl) (pg_sub (pe_ix (GX.ix_N (T := ktL) hu) (pv 1) (pv 2) (fun _ _ => rfl)) (pv 3) (GX.set_N (T := ktL) hu)))))))
      (pss_cons (ps_for PassesOwn.never rfl (pi_range1 (by rfl) m_range (pa_cons (pe_op op_add (pe_callB (GX.cr_lenN (T := ktL)) (by rfl) m_len PySem.boot_len (pa_cons (pv 1) pa_nil)) (pe_int)) pa_nil)) (pg_name (i := 4) scRE.nd rfl (.inl rfl))
      (pss_cons (ps_set (i := 5) scRE.nd rfl (.inl rfl) (pe_bl))
      (pss_cons (ps_lock (ps_for PassesOwn.never rfl (GX.pi_keysN (T := ktL) (pv 1)) (pg_name (i := 2) scRE.nd rfl (.inl rfl))
      (pss_one (ps_for PassesOwn.never rfl (pi_list (pe_callTy (GX.cr_listN (T := ktL) rfl) (by rfl) m_list (by decide +kernel) (pa_cons (pe_ix (GX.ix_N (T := ktL) hu) (pv 1) (pv 2) (fun _ _ => rfl)) pa_nil))) (pg_name (i := 3) scRE.nd rfl (.inl rfl))
      (pss_one (ps_lock (ps_for PassesOwn.never rfl (GX.pi_keysN (T := ktL) (pe_ix (GX.ix_N (T := ktL) hu) (pv 1) (pv 3) (fun _ _ => rfl))) (pg_name (i := 6) scRE.nd rfl (.inl rfl))
      (pss_one (ps_if (pt_cmpR (GX.op_notInN (T := ktL) hu) (pv 6) (pe_ix (GX.ix_N (T := ktL) hu) (pv 1) (pv 2) (fun _ _ => rfl)) (by rfl))
      (pss_cons (ps_asg (pe_bl) (pg_sub (pe_ix (GX.ix_N (T := ktL) hu) (pv 1) (pv 2) (fun _ _ => rfl)) (pv 6) (GX.set_N (T := ktL) hu)))
      (pss_one (ps_set (i := 5) scRE.nd rfl (.inl rfl) (pe_bl)))) pss_nil)))))))))
      (pss_one (ps_if (pt_not (pt_val (pv 5)))
      (pss_one (ps_break)) pss_nil)))))
      (pss_one (ps_ret (pv 1)))))), ?_⟩
    refine fun D nD => ?_
    have sD := same_new (o := dNO ktL P w D []) nD
    have f0 : RI P w K H (upd H D (dNO ktL P w D [])) D n [] (fun a b => (a, b) ∈ (PS.take 0).map (·.1)) := ⟨sD, (fun _ h => nomatch h), List.nodup_nil, (fun _ h => nomatch h), (fun _ h => nomatch h), (fun _ h => nomatch h), fun _ _ h => nomatch h⟩
    refine ⟨_, rfl, l, rfl, ⟨_, (GX.rs_same sD).sql hl⟩, for_list (xs := PS.map (·.2)) (fun i σ H' => ∃ (y2 y3 : Option V) (es : List (Nat × Addr × V)), σ = [some (.ref l), some (.ref D), y2, y3, none, none, none] ∧ H' D = some (dNO ktL P w D es) ∧ RI P w K H H' D n es (fun a b => (a, b) ∈ (PS.take i).map (·.1)))
      ⟨none, none, [], rfl, upd_same, f0⟩ ?_ ?_ ?_⟩
    · rintro i σ H' _ ⟨_, _, _, _, _, f⟩
      exact (GX.rs_same f.sm).sql hl
    · rintro i x σ H2 hx ⟨y2, y3, es, rfl, hD, f⟩
      obtain ⟨⟨⟨k, j⟩, v⟩, ge, rfl⟩ := map_get hx
      have hem := List.mem_of_getElem? ge
      obtain ⟨t, a, b, et, ht, ha, hb⟩ := hP _ hem
      obtain ⟨kn, jn⟩ := hk _ hem
      simp only at et ht ha hb kn jn
      subst et
      refine ⟨t, _, rfl, sq_ts (ts_same f.sm) ht, rfl, _, _, rfl, _, _, rfl, rfl, ?_⟩
      refine ens rfl rfl f hD nD kn hn (ln_ts (ts_same f.sm) ha) fun H3 es3 hD3 f3 k3 up3 => ?_
      refine ens rfl rfl f3 hD3 nD jn hn (ln_ts (ts_same f3.sm) hb) fun H4 es4 hD4 f4 k4 up4 => ?_
      obtain ⟨b', d, fs, g1, g2, g3, g4, g5, g6, g7, g8, g9⟩ := f4.at (up4 k k3)
      refine ⟨_, rfl, _, rfl, D, a, es4, k, _, rfl, rfl, .inl hD4, f4.ka, ln_ts (ts_same f4.sm) ha, g1, _, rfl, d, b, fs, j, rfl, rfl, g5, g6, ln_ts (ts_same f4.sm) hb, by omega, some (.ref a), some (.ref b), es4, rfl, (upd_ne (Ne.symm g4)).trans hD4, ?_⟩
      refine (f4.put g2 g3 g5 g6 g7 g8 (ln_ts (ts_same f4.sm) hb) k4).iff fun x y => ?_
      rw [List.take_add_one, ge, List.map_append]
      show _ ∨ _ ↔ (x, y) ∈ _ ++ [(k, j)]
      rw [List.mem_append, List.mem_singleton, Prod.mk.injEq]
    · rintro σ H2 ⟨y2, y3, es, rfl, hD2, f2⟩
      rw [List.length_map, List.take_length] at f2
      have le2 := f2.len
      have fin : ∀ (H3 : Hp) (R : Nat → Nat → Prop), H3 D = some (dNO ktL P w D es) → RI P w K H H3 D n es R → (∀ i j, R i j ↔ TG (fun a b => (a, b) ∈ PS.map (·.1)) i j) → Q (.ref D) H3 := fun H3 R hD3 f3 hR => by
        have f4 := f3.iff hR
        refine q H3 D f4.sm nD ⟨es, .inl hD3, f4.ka, f4.nd, fun e he => ?_, fun i j h => (f4.cl i j h).1⟩
        obtain ⟨d, fs, a1, a2, a3, a4, a5, a6, a7⟩ := f4.vl e he
        exact ⟨d, fs, a1, .inl a4, a5, a7⟩
      refine ⟨_, rfl, D, es, rfl, .inl hD2, f2.ka, _, _, rfl, rfl, _, rfl, by omega, by omega, ?_⟩
      refine for_range (fun t σ H' => ∃ (y2 y3 y4 y5 y6 : Option V) (R : Nat → Nat → Prop), σ = [some (.ref l), some (.ref D), y2, y3, y4, y5, y6] ∧ H' D = some (dNO ktL P w D es) ∧ RI P w K H H' D n es R ∧ (∀ i j, R i j → TG (fun a b => (a, b) ∈ PS.map (·.1)) i j) ∧ (∀ m, m ≤ t → ∀ i j, Pth (fun a b => (a, b) ∈ PS.map (·.1)) (m + 1) i j → R i j))
        ⟨y2, y3, none, none, none, _, rfl, hD2, f2, fun i j h => .base h, fun m hm i j h => ?_⟩ ?_ ?_
      · obtain rfl : m = 0 := by omega
        obtain ⟨f, h0, h1, h2⟩ := h
        have := h2 0 (by omega)
        rw [h0, h1] at this
        exact this
      · rintro t σ H3 ht ⟨y2, y3, y4, y5, y6, R, rfl, hD3, f3, hTG, hPt⟩
        refine ⟨D, _, hD3, trivial, fun od => ⟨_, rfl, D, od, es, rfl, upd_same, ?_⟩⟩
        have fL : RI P w K H (upd H3 D (.frz od (dNO ktL P w D es))) D n es R := f3.other (same_upd nD f3.sm) (fun b nb o h => (upd_ne nb).trans h) (ts_dict hD3)
        refine for_it (GX.walk_N (T := ktL) (P := P) (w := w)) (fun i σ H' => ∃ (y2 y3 y4 y6 : Option V) (b : Bool) (Rc : Nat → Nat → Prop), σ = [some (.ref l), some (.ref D), y2, y3, y4, some (.bl b), y6] ∧ H' D = some (.frz od (dNO ktL P w D es)) ∧ RI P w K H H' D n es Rc ∧ (∀ i j, R i j → Rc i j) ∧ (∀ i j, Rc i j → TG (fun a b => (a, b) ∈ PS.map (·.1)) i j) ∧ (b = false → ∀ i j, Rc i j → R i j) ∧ (∀ e ∈ es.take i, ∀ j l, R e.1 j → R j l → Rc e.1 l))
          ⟨y2, y3, _, y6, false, R, rfl, upd_same, fL, fun _ _ h => h, hTG, fun _ _ _ h => h, fun _ h => nomatch h⟩ ?_ ?_ ?_
        · rintro i σ H' _ ⟨_, _, _, _, _, _, _, h, _⟩
          exact h
        · rintro i x σ H4 H4' hi ⟨y2, y3, y4, y6, b, Rc, rfl, hD4, f4, up4, tg4, nb4, tk4⟩ ⟨rfl, e, he, rfl⟩
          have hem := List.mem_of_getElem? he
          obtain ⟨d, fs, a1, a2, a3, a4, a5, a6, a7⟩ := f4.vl e hem
          have hke := f4.ka e hem
          have hfe := find_nodup f4.nd hem
          have etk : es.take (i + 1) = es.take i ++ [e] := by rw [List.take_add_one, he]; rfl
          have kin : e.1 ∈ es.map (·.1) := List.mem_map.mpr ⟨e, hem, rfl⟩
          obtain ⟨k, a, v⟩ := e
          simp only at a1 a7 hke hfe kin
          subst a1
          refine ⟨_, rfl, _, rfl, D, a, es, k, _, rfl, rfl, .inr ⟨od, hD4⟩, f4.ka, hke, hfe, d, fs, rfl, .inl a4, fun p np => ⟨p, rfl, ⟨_, SqL.of upd_same⟩, ?_⟩⟩
          have sp := same_new (o := .lst (fs.map fun e => V.ref e.2.1)) np
          have f5 := f4.same sp
          have hp5 : upd H4' p (.lst (fs.map fun e => V.ref e.2.1)) p = some (.lst (fs.map fun e => V.ref e.2.1)) := upd_same
          have hD5 := sp _ _ hD4
          have ka5 := a5.ts (ts_same (K := K) sp)
          refine for_list (xs := fs.map fun e => V.ref e.2.1) (fun m σ H' => ∃ (y3 y6 : Option V) (b : Bool) (Rd : Nat → Nat → Prop), σ = [some (.ref l), some (.ref D), some (.ref a), y3, y4, some (.bl b), y6] ∧ H' D = some (.frz od (dNO ktL P w D es)) ∧ H' p = some (.lst (fs.map fun e => V.ref e.2.1)) ∧ KeysAt ktL K H' fs ∧ RI P w K H H' D n es Rd ∧ (∀ i j, Rc i j → Rd i j) ∧ (∀ i j, Rd i j → TG (fun a b => (a, b) ∈ PS.map (·.1)) i j) ∧ (b = false → ∀ i j, Rd i j → R i j) ∧ (∀ f ∈ fs.take m, ∀ l, R f.1 l → Rd k l))
            ⟨y3, y6, b, Rc, rfl, hD5, hp5, ka5, f5, fun _ _ h => h, tg4, nb4, fun _ h => nomatch h⟩ ?_ ?_ ?_
          · rintro m σ H' _ ⟨_, _, _, _, _, _, h, _⟩
            exact SqL.of h
          · rintro m x σ H6 hx ⟨y3, y6, b, Rd', rfl, hD6, hp6, ka6, f6, up6, tg6, nb6, tk6⟩
            obtain ⟨⟨j, aj, vj⟩, gf, rfl⟩ := map_get hx
            have hfm := List.mem_of_getElem? gf
            have hj6 := ka6 _ hfm
            simp only at hj6
            have kj : Rc k j := (a7 j).mp (List.mem_map.mpr ⟨_, hfm, rfl⟩)
            obtain ⟨bj, dj, fj, j1, j2, j3, j4, j5, j6, j7, j8, j9⟩ := f6.at (f4.cl k j kj).2
            have etm : fs.take (m + 1) = fs.take m ++ [(j, aj, vj)] := by rw [List.take_add_one, gf]; rfl
            have hD7 : ∀ od2, upd H6 dj (.frz od2 (dNO ktL P w dj fj)) D = some (.frz od (dNO ktL P w D es)) := fun od2 => (upd_ne (Ne.symm j4)).trans hD6
            have t7 : ∀ od2, TSt K H6 (upd H6 dj (.frz od2 (dNO ktL P w dj fj))) := fun od2 => ts_dict j5
            refine ⟨dj, _, j5, trivial, fun od2 => ⟨_, rfl, _, rfl, D, aj, es, j, _, rfl, rfl, .inr ⟨od, hD7 od2⟩, f6.ka.ts (t7 od2), ln_ts (t7 od2) hj6, j1, dj, od2, fj, rfl, upd_same, ?_⟩⟩
            have npd : p ≠ dj := fun e => by rw [e, j5] at hp6; cases hp6
            refine for_it (GX.walk_N (T := ktL) (P := P) (w := w)) (fun u σ H' => ∃ (y6 : Option V) (b : Bool) (Re : Nat → Nat → Prop), σ = [some (.ref l), some (.ref D), some (.ref a), some (.ref aj), y4, some (.bl b), y6] ∧ H' dj = some (.frz od2 (dNO ktL P w dj fj)) ∧ H' D = some (.frz od (dNO ktL P w D es)) ∧ H' p = some (.lst (fs.map fun e => V.ref e.2.1)) ∧ KeysAt ktL K H' fs ∧ KeysAt ktL K H' fj ∧ RI P w K H (upd H' dj (dNO ktL P w dj fj)) D n es Re ∧ (∀ i j, Rd' i j → Re i j) ∧ (∀ i j, Re i j → TG (fun a b => (a, b) ∈ PS.map (·.1)) i j) ∧ (b = false → ∀ i j, Re i j → R i j) ∧ (∀ f ∈ fj.take u, Re k f.1))
              ⟨y6, b, Rd', rfl, upd_same, hD7 od2, (upd_ne npd).trans hp6, ka6.ts (t7 od2), j6.ts (t7 od2), by rw [upd_upd, upd_self j5]; exact f6, fun _ _ h => h, tg6, nb6, fun _ h => nomatch h⟩ ?_ ?_ ?_
            · rintro u σ H' _ ⟨_, _, _, _, h, _⟩
              exact h
            · rintro u x σ H8 H8' hu8 ⟨y6, b, Re, rfl, hj8, hD8, hp8, ka8, kj8, f8, up8, tg8, nb8, tk8⟩ ⟨rfl, q8, hq8, rfl⟩
              have hqm := List.mem_of_getElem? hq8
              have hl8 := kj8 _ hqm
              have etu : fj.take (u + 1) = fj.take u ++ [q8] := by rw [List.take_add_one, hq8]; rfl
              obtain ⟨z, az, vz⟩ := q8
              simp only at hl8
              have jz : Rd' j z := (j8 z).mp (List.mem_map.mpr ⟨_, hqm, rfl⟩)
              obtain ⟨bk, dk, fk, k1, k2, k3, k4, k5, k6, k7, k8, k9⟩ := f8.at kin
              have eU : upd (upd H8' dj (dNO ktL P w dj fj)) dj (.frz od2 (dNO ktL P w dj fj)) = H8' := by rw [upd_upd, upd_self hj8]
              have tU : TSt K (upd H8' dj (dNO ktL P w dj fj)) H8' := by
                have := ts_dict (K := K) (P := P) (w := w) (es := fj) (o := .frz od2 (dNO ktL P w dj fj)) (upd_same (H := H8') (a := dj))
                rw [eU] at this
                exact this
              have tV : TSt K H8' (upd H8' dj (dNO ktL P w dj fj)) := (GX.rs_unlock hj8).tst
              have rk : L2.Rd H8' dk (dNO ktL P w dk fk) := by
                by_cases e : dk = dj
                · subst e
                  rw [upd_same] at k5
                  rw [← Option.some.inj k5]
                  exact .inr ⟨od2, hj8⟩
                · rw [upd_ne e] at k5
                  exact .inl k5
              have hk8 := ln_ts tU (f8.ka _ k2)
              have kz : Re k z → ∀ f ∈ fj.take (u + 1), Re k f.1 := fun h f hf => by
                rw [etu] at hf
                rcases List.mem_append.mp hf with hf | hf
                · exact tk8 f hf
                · rw [List.mem_singleton.mp hf]
                  exact h
              have hke8 : Dp K H8' (.ref a) (encL k) := by
                have g1 := find_nodup f8.nd k2
                simp only at g1
                rw [hfe] at g1
                cases Option.some.inj g1
                exact hk8
              have eab : bk = a ∧ dk = d := by
                rw [hfe] at k1
                cases Option.some.inj k1
                exact ⟨rfl, rfl⟩
              obtain ⟨rfl, rfl⟩ := eab
              refine ⟨_, rfl, _, rfl, _, rfl, D, bk, es, k, _, rfl, rfl, .inr ⟨od, hD8⟩, f8.ka.ts tU, hke8, k1, dk, az, fk, z, rfl, rfl, rk, k6.ts tU, hl8, _, rfl, ?_⟩
              rw [is_some]
              refine ite2 (fun c1 => ?_) (fun c1 => ?_)
              · have nz : ¬ Re k z := fun h => by
                  rw [decide_eq_true ((k8 z).mpr h)] at c1
                  exact Bool.false_ne_true c1
                have ndj : dk ≠ dj := fun e => by
                  subst e
                  have := f8.inj _ k2 _ j2 rfl
                  simp only at this
                  rw [this] at nz
                  exact nz (up8 _ _ jz)
                have hk9 : H8' dk = some (dNO ktL P w dk fk) := by rw [upd_ne ndj] at k5; exact k5
                have npk : p ≠ dk := fun e => by rw [e, hk9] at hp8; cases hp8
                have tN := ts_dict (K := K) (o := dNO ktL P w dk (GX.dSt fk z az (.bl true))) hk9
                refine ⟨_, rfl, _, rfl, D, bk, es, k, _, rfl, rfl, .inr ⟨od, hD8⟩, f8.ka.ts tU, hke8, k1, _, rfl, dk, az, fk, z, rfl, rfl, hk9, k6.ts tU, hl8, by omega, some (.ref az), true, addR Re k z, rfl, (upd_ne (Ne.symm ndj)).trans hj8, (upd_ne (Ne.symm k4)).trans hD8, (upd_ne npk).trans hp8, ka8.ts tN, kj8.ts tN, ?_, fun _ _ h => .inl (up8 _ _ h), fun x y h => ?_, (fun h => nomatch h), fun f hf => ?_⟩
                · have ec : upd (upd H8' dk (dNO ktL P w dk (GX.dSt fk z az (.bl true)))) dj (dNO ktL P w dj fj) = upd (upd H8' dj (dNO ktL P w dj fj)) dk (dNO ktL P w dk (GX.dSt fk z az (.bl true))) := by
                    funext b
                    by_cases e1 : b = dj
                    · subst e1
                      rw [upd_same, upd_ne (Ne.symm ndj), upd_same]
                    · rw [upd_ne e1]
                      by_cases e2 : b = dk
                      · subst e2
                        rw [upd_same, upd_same]
                      · rw [upd_ne e2, upd_ne e2, upd_ne e1]
                  have fz := f8.put (v := .bl true) k2 k3 k5 k6 k7 k8 (ln_ts tV hl8) (f8.cl _ _ (up8 _ _ jz)).2
                  rw [← ec] at fz
                  exact fz
                · rcases h with h | ⟨rfl, rfl⟩
                  · exact tg8 _ _ h
                  · exact (tg4 _ _ kj).trans (tg6 _ _ jz)
                · rw [etu] at hf
                  rcases List.mem_append.mp hf with hf | hf
                  · exact .inl (tk8 f hf)
                  · rw [List.mem_singleton.mp hf]
                    exact .inr ⟨rfl, rfl⟩
              · have yz : Re k z := by
                  refine Classical.byContradiction fun h => c1 ?_
                  rw [decide_eq_false fun h' => h ((k8 z).mp h')]
                  rfl
                exact ⟨some (.ref az), b, Re, rfl, hj8, hD8, hp8, ka8, kj8, f8, up8, tg8, nb8, kz yz⟩
            · rintro σ H8 ⟨y6, b, Re, rfl, hj8, hD8, hp8, ka8, kj8, f8, up8, tg8, nb8, tk8⟩
              rw [List.take_length] at tk8
              have tV : TSt K H8 (upd H8 dj (dNO ktL P w dj fj)) := (GX.rs_unlock hj8).tst
              refine ⟨hj8, some (.ref aj), y6, b, Re, rfl, (upd_ne (Ne.symm j4)).trans hD8, (upd_ne npd).trans hp8, ka8.ts tV, f8, fun _ _ h => up8 _ _ (up6 _ _ h), tg8, nb8, fun f hf z hz => ?_⟩
              rw [etm] at hf
              rcases List.mem_append.mp hf with hf | hf
              · exact up8 _ _ (tk6 f hf z hz)
              · rw [List.mem_singleton.mp hf] at hz
                obtain ⟨g, hg1, hg2⟩ := List.mem_map.mp ((j8 z).mpr (up6 _ _ (up4 _ _ hz)))
                rw [← hg2]
                exact tk8 g hg1
          · rintro σ H6 ⟨y3, y6, b, Rd', rfl, hD6, hp6, ka6, f6, up6, tg6, nb6, tk6⟩
            rw [List.length_map, List.take_length] at tk6
            refine ⟨some (.ref a), y3, y4, y6, b, Rd', rfl, hD6, f6, fun _ _ h => up6 _ _ (up4 _ _ h), tg6, nb6, fun e he j z h1 h2 => ?_⟩
            rw [etk] at he
            rcases List.mem_append.mp he with he | he
            · exact up6 _ _ (tk4 e he j z h1 h2)
            · rw [List.mem_singleton.mp he] at h1 ⊢
              obtain ⟨f, hf1, hf2⟩ := List.mem_map.mp ((a7 j).mpr (up4 _ _ h1))
              exact tk6 f hf1 z (by rw [hf2]; exact h2)
        · rintro σ H4 ⟨y2, y3, y4, y6, b, Rc, rfl, hD4, f4, up4, tg4, nb4, tk4⟩
          rw [List.take_length] at tk4
          have fU : RI P w K H (upd H4 D (dNO ktL P w D es)) D n es Rc := f4.other (same_upd nD f4.sm) (fun b nb o h => (upd_ne nb).trans h) (GX.rs_unlock hD4).tst
          have hE : ∀ i j, (i, j) ∈ PS.map (·.1) → R i j := fun i j e => hPt 0 (Nat.zero_le _) i j (Pth.cons (m := 0) e ⟨fun _ => j, rfl, rfl, fun t ht => by omega⟩)
          have comp : ∀ i j z, R i j → R j z → Rc i z := fun i j z h1 h2 => by
            obtain ⟨e, he, rfl⟩ := List.mem_map.mp (f3.cl i j h1).1
            exact tk4 e he j z h1 h2
          refine ⟨hD4, _, rfl, b, rfl, ?_⟩
          refine ite2 (fun c1 => ?_) (fun c1 => ?_)
          · have eb : b = false := by simpa using c1
            refine ⟨_, rfl, fin _ Rc upd_same fU fun i j => ⟨tg4 i j, fun h => ?_⟩⟩
            induction h with
            | base e => exact up4 _ _ (hE _ _ e)
            | step e _ ih => exact comp _ _ _ (hE _ _ e) (nb4 eb _ _ ih)
          · refine ⟨_, _, _, _, _, Rc, rfl, upd_same, fU, tg4, fun m hm i j h => ?_⟩
            rcases Nat.lt_or_ge m (t + 1) with h1 | h1
            · exact up4 _ _ (hPt m (by omega) i j h)
            · obtain rfl : m = t + 1 := by omega
              obtain ⟨z, e, h2⟩ := h.first
              exact comp i z j (hE _ _ e) (hPt t (Nat.le_refl _) _ _ h2)
      · rintro σ H3 ⟨y2, y3, y4, y5, y6, R, rfl, hD3, f3, hTG, hPt⟩
        refine ⟨_, rfl, fin H3 R hD3 f3 fun i j => ⟨hTG i j, fun h => ?_⟩⟩
        obtain ⟨m, hm⟩ := pth_of h
        obtain ⟨m', h1, h2⟩ := Pth.short (L := es.map (·.1)) (fun a b hab => (f2.cl a b hab).2) m i j hm
        rw [List.length_map] at h1
        exact hPt m' (by omega) i j h2
end
end K12
namespace K12
open PySem PySem.Spec PyProof.Rows L2 TR QR
open GX (KT kd kdAll RS TSt dNO KeysAt)
open PySem.W (dataLt dataLe alike alikeAll AllAlike Sortable)
/-- lines by their own numbers -/
instance idS : Sg := ⟨fun k => k, fun h => h⟩
abbrev sGR : Stmt := topS 28
abbrev nGR : List Str := ["state", "name", "many", "k", "order", "row", "lines", "present", "line", "pairs", "one", "other"]
theorem scGR : FnScope nGR ["state"] (defScope sGR) := ⟨rfl, rfl, rfl, by decide +kernel, rfl, by decide +kernel, by decide +kernel⟩
theorem tseq_intro {X t : TS} {De : Ends} {σ : L2.St} {H : Hp} (J : L2.St → Hp → Prop) (ht : ∀ σ' H', J σ' H' → t De σ' H') (hX : ∀ N : L2.St → Hp → Prop, (∀ σ' H', J σ' H' → N σ' H') → X { De with nx := N } σ H) : tSeq X t De σ H := hX _ ht
theorem StateAt.some {H : Hp} {p c : Addr} (s : StateAt H p c) : (∃ o, H p = Option.some (.lst o)) ∧ ∃ o, H c = Option.some (.lst o) := by
  obtain ⟨⟨seed, ms, h1, h2, _⟩, _⟩ := s
  exact ⟨⟨_, h1⟩, ⟨_, h2⟩⟩
theorem StateAt.same {H H' : Hp} {p c : Addr} (s : StateAt H p c) (k : Same H H') : StateAt H' p c := s.mono (fun o e => k _ _ e) (fun o e => k _ _ e)
/-- draws were made, own objects laid and written -/
structure Dr (p c : Addr) (H H' : Hp) : Prop where
  s0 : StateAt H p c
  st : StateAt H' p c
  ou : ∀ b o, b ≠ p → b ≠ c → H b = some o → H' b = some o
section
variable {K : PySem.W.Frag} {p c a : Addr} {H H1 H2 : Hp} {o : HO}
theorem Dr.np (d : Dr p c H H1) (n : H a = none) : a ≠ p ∧ a ≠ c := by
  obtain ⟨⟨_, e1⟩, ⟨_, e2⟩⟩ := d.s0.some
  exact ⟨fun e => (by rw [e, e1] at n; cases n), fun e => (by rw [e, e2] at n; cases n)⟩
theorem Dr.own (d : Dr p c H H1) (n : H a = none) : Dr p c H (upd H1 a o) := by
  obtain ⟨n1, n2⟩ := d.np n
  refine ⟨d.s0, d.st.mono (fun o e => (upd_ne (Ne.symm n1)).trans e) (fun o e => (upd_ne (Ne.symm n2)).trans e), fun b o' h1 h2 e => ?_⟩
  rw [upd_ne (fun z => by rw [z, n] at e; cases e)]
  exact d.ou b o' h1 h2 e
theorem Dr.none (d : Dr p c H H1) (n : H1 a = Option.none) : H a = Option.none := by
  cases e : H a with
  | none => rfl
  | some o =>
    obtain ⟨⟨_, e1⟩, ⟨_, e2⟩⟩ := d.st.some
    have h1 : a ≠ p := fun z => by rw [z, e1] at n; cases n
    have h2 : a ≠ c := fun z => by rw [z, e2] at n; cases n
    rw [d.ou a o h1 h2 e] at n
    cases n
theorem Dr.new (d : Dr p c H H1) (n : H1 a = Option.none) : Dr p c H (upd H1 a o) := d.own (d.none n)
theorem Dr.draw (d : Dr p c H H1) (st : StateAt H2 p c) (dr : Drawn p c H1 H2) : Dr p c H H2 := ⟨d.s0, st, fun b o h1 h2 e => (dr b h1 h2).trans (d.ou b o h1 h2 e)⟩
theorem ts_out (s : StateAt H1 p c) (h : ∀ b o, b ≠ p → b ≠ c → H1 b = some o → H2 b = some o) : TSt K H1 H2 := fun x ys q => by
  rcases q with q | q
  · have ne : x ≠ p ∧ x ≠ c := by
      obtain ⟨⟨_, e1⟩, ⟨_, e2⟩⟩ := s.some
      refine ⟨fun z => ?_, fun z => ?_⟩
      · rw [z] at q
        rcases q with q | ⟨_, q⟩
        · rw [e1] at q; cases q
        · rw [e1] at q; cases q
      · rw [z] at q
        rcases q with q | ⟨_, q⟩
        · rw [e2] at q; cases q
        · rw [e2] at q; cases q
    rcases q with q | ⟨o, q⟩
    · exact .inl (.inl (h _ _ ne.1 ne.2 q))
    · exact .inl (.inr ⟨o, h _ _ ne.1 ne.2 q⟩)
  · exact .inr q
theorem ts_drawn (s : StateAt H1 p c) (dr : Drawn p c H1 H2) : TSt K H1 H2 := ts_out s fun b o h1 h2 e => (dr b h1 h2).trans e
end
theorem seq_nat {n j : Nat} (h : j < n) : seqIndex? (j : Int) n = some j := by
  unfold seqIndex?
  simp
  omega
theorem cons_erase {α : Type} : ∀ (l : List α) (r : Nat) (h : r < l.length), (l[r] :: l.eraseIdx r).Perm l
  | x :: l, 0, _ => .refl _
  | x :: l, r + 1, h => by
    have ih := cons_erase l r (Nat.lt_of_succ_lt_succ h)
    rw [List.eraseIdx_cons_succ, List.getElem_cons_succ]
    exact (List.Perm.swap x _ _).trans (ih.cons x)
theorem pop_perm {α : Type} (F G : List α) (r : Nat) (h : r < F.length) : (F.eraseIdx r ++ (G ++ [F[r]])).Perm (F ++ G) := by
  rw [← List.append_assoc]
  refine (List.perm_append_comm).trans ?_
  show (F[r] :: (F.eraseIdx r ++ G)).Perm _
  rw [← List.cons_append]
  exact (cons_erase F r h).append_right G
section
variable {P : Program} {w : World} {K : PySem.W.Frag} {mg : Str → Option Value} {base : Heap}
/-- the pairs being made -/
structure PJ (K : PySem.W.Frag) (H : Hp) (n m : Nat) (pl : Addr) (PS : List (Pr × V)) : Prop where
  hp : H pl = some (.lst (PS.map (·.2)))
  pa : PAt K H PS
  ln : PS.length ≤ m
  lt : ∀ e ∈ PS, e.1.1 < n ∧ e.1.2 < n
/-- the lines being made -/
structure LJ (P : Program) (w : World) (K : PySem.W.Frag) (p c : Addr) (H0 H : Hp) (i : Nat) (rA pS D1 D2 : Addr) (G SG : List (Nat × V)) (es1 es2 : List (Nat × Addr × V)) (tx : Nat → Str) : Prop where
  dr : Dr p c H0 H
  n1 : H0 rA = none
  n2 : H0 pS = none
  n3 : H0 D1 = none
  n4 : H0 D2 = none
  ne : D1 ≠ D2
  r : H rA = some (.lst (G.map (·.2)))
  lr : LAt K H G
  s : H pS = some (.lst (SG.map (·.2)))
  ls : LAt K H SG
  a1 : H D1 = some (dNO ktL P w D1 es1)
  k1 : KeysAt ktL K H es1
  m1 : es1.map (·.1) = List.range i
  v1 : ∀ e ∈ es1, e.2.2 = .str (tx e.1)
  a2 : H D2 = some (dNO ktL P w D2 es2)
  k2 : KeysAt ktL K H es2
  m2 : (es2.map (·.1)).Pairwise (· < ·)
  l2 : ∀ k ∈ es2.map (·.1), k < i
  v2 : ∀ e ∈ es2, e.2.2 = .bl true
theorem LJ.out {p c : Addr} {H0 H H' : Hp} {i : Nat} {rA pS D1 D2 : Addr} {G SG : List (Nat × V)} {es1 es2 : List (Nat × Addr × V)} {tx : Nat → Str} (f : LJ P w K p c H0 H i rA pS D1 D2 G SG es1 es2 tx) (d : Dr p c H0 H') (h : ∀ b o, b ≠ p → b ≠ c → H b = some o → H' b = some o) (t : TSt K H H') : LJ P w K p c H0 H' i rA pS D1 D2 G SG es1 es2 tx :=
  have g : ∀ {b o}, H0 b = none → H b = some o → H' b = some o := fun n e => h _ _ (f.dr.np n).1 (f.dr.np n).2 e
  ⟨d, f.n1, f.n2, f.n3, f.n4, f.ne, g f.n1 f.r, f.lr.ts t, g f.n2 f.s, f.ls.ts t, g f.n3 f.a1, f.k1.ts t, f.m1, f.v1, g f.n4 f.a2, f.k2.ts t, f.m2, f.l2, f.v2⟩
theorem LJ.same {p c : Addr} {H0 H H' : Hp} {i : Nat} {rA pS D1 D2 : Addr} {G SG : List (Nat × V)} {es1 es2 : List (Nat × Addr × V)} {tx : Nat → Str} (f : LJ P w K p c H0 H i rA pS D1 D2 G SG es1 es2 tx) (d : Dr p c H0 H') (s : Same H H') : LJ P w K p c H0 H' i rA pS D1 D2 G SG es1 es2 tx := f.out d (fun b o _ _ e => s b o e) (ts_same s)
theorem LJ.draw {p c : Addr} {H0 H H' : Hp} {i : Nat} {rA pS D1 D2 : Addr} {G SG : List (Nat × V)} {es1 es2 : List (Nat × Addr × V)} {tx : Nat → Str} (f : LJ P w K p c H0 H i rA pS D1 D2 G SG es1 es2 tx) (st : StateAt H' p c) (dr : Drawn p c H H') : LJ P w K p c H0 H' i rA pS D1 D2 G SG es1 es2 tx :=
  f.out (f.dr.draw st dr) (fun b o h1 h2 e => (dr b h1 h2).trans e) (ts_drawn f.dr.st dr)
theorem LJ.own {p c pl : Addr} {H0 H : Hp} {i : Nat} {rA pS D1 D2 : Addr} {G SG : List (Nat × V)} {es1 es2 : List (Nat × Addr × V)} {tx : Nat → Str} {xs ys : List V} (f : LJ P w K p c H0 H i rA pS D1 D2 G SG es1 es2 tx) (hp : H pl = some (.lst xs)) (n0 : H0 pl = none) (h1 : rA ≠ pl) (h2 : pS ≠ pl) : LJ P w K p c H0 (upd H pl (.lst ys)) i rA pS D1 D2 G SG es1 es2 tx :=
  have t := ts_lst (K := K) (o := .lst ys) hp
  have n3 : D1 ≠ pl := fun e => by have := f.a1; rw [e, hp] at this; cases this
  have n4 : D2 ≠ pl := fun e => by have := f.a2; rw [e, hp] at this; cases this
  ⟨f.dr.own n0, f.n1, f.n2, f.n3, f.n4, f.ne, (upd_ne h1).trans f.r, f.lr.ts t, (upd_ne h2).trans f.s, f.ls.ts t, (upd_ne n3).trans f.a1, f.k1.ts t, f.m1, f.v1, (upd_ne n4).trans f.a2, f.k2.ts t, f.m2, f.l2, f.v2⟩
theorem LJ.put1 {p c : Addr} {H0 H : Hp} {i : Nat} {rA pS D1 D2 : Addr} {G SG : List (Nat × V)} {es1 es2 : List (Nat × Addr × V)} {tx : Nat → Str} (f : LJ P w K p c H0 H i rA pS D1 D2 G SG es1 es2 tx) {a : Addr} (ha : Dp K H (.ref a) (encL i)) (x : Str) :
    LJ P w K p c H0 (upd H D1 (dNO ktL P w D1 (GX.dSt es1 i a (.str x)))) (i + 1) rA pS D1 D2 G SG (GX.dSt es1 i a (.str x)) es2 (fun k => if k = i then x else tx k) := by
  have t := ts_dict (K := K) (o := dNO ktL P w D1 (GX.dSt es1 i a (.str x))) f.a1
  have nr : rA ≠ D1 := fun e => by have := f.r; rw [e, f.a1] at this; cases this
  have ns : pS ≠ D1 := fun e => by have := f.s; rw [e, f.a1] at this; cases this
  have nk : i ∉ es1.map (·.1) := by rw [f.m1]; exact fun h => Nat.lt_irrefl _ (List.mem_range.mp h)
  refine ⟨f.dr.own f.n3, f.n1, f.n2, f.n3, f.n4, f.ne, (upd_ne nr).trans f.r, f.lr.ts t, (upd_ne ns).trans f.s, f.ls.ts t, upd_same, (GX.st_keys f.k1 ha).ts t, ?_, fun e he => ?_, (upd_ne (Ne.symm f.ne)).trans f.a2, f.k2.ts t, f.m2, fun k hk => Nat.lt_succ_of_lt (f.l2 k hk), f.v2⟩
  · rw [dst_keys, if_neg nk, f.m1, List.range_succ]
  · rcases dst_mem he with ⟨h1, h2⟩ | ⟨h1, h2⟩
    · rw [h2, h1, if_pos rfl]
    · rw [f.v1 e h1, if_neg h2]
theorem LJ.put2 {p c : Addr} {H0 H : Hp} {i : Nat} {rA pS D1 D2 : Addr} {G SG : List (Nat × V)} {es1 es2 : List (Nat × Addr × V)} {tx : Nat → Str} (f : LJ P w K p c H0 H (i + 1) rA pS D1 D2 G SG es1 es2 tx) (hl : ∀ k ∈ es2.map (·.1), k < i) {a : Addr} (ha : Dp K H (.ref a) (encL i)) :
    LJ P w K p c H0 (upd H D2 (dNO ktL P w D2 (GX.dSt es2 i a (.bl true)))) (i + 1) rA pS D1 D2 G SG es1 (GX.dSt es2 i a (.bl true)) tx := by
  have t := ts_dict (K := K) (o := dNO ktL P w D2 (GX.dSt es2 i a (.bl true))) f.a2
  have nr : rA ≠ D2 := fun e => by have := f.r; rw [e, f.a2] at this; cases this
  have ns : pS ≠ D2 := fun e => by have := f.s; rw [e, f.a2] at this; cases this
  have nk : i ∉ es2.map (·.1) := fun h => Nat.lt_irrefl _ (hl i h)
  refine ⟨f.dr.own f.n4, f.n1, f.n2, f.n3, f.n4, f.ne, (upd_ne nr).trans f.r, f.lr.ts t, (upd_ne ns).trans f.s, f.ls.ts t, (upd_ne f.ne).trans f.a1, f.k1.ts t, f.m1, f.v1, upd_same, (GX.st_keys f.k2 ha).ts t, ?_, fun k hk => ?_, fun e he => ?_⟩
  · rw [dst_keys, if_neg nk, List.pairwise_append]
    exact ⟨f.m2, by simp, fun x hx y hy => by rw [List.mem_singleton.mp hy]; exact hl x hx⟩
  · rw [dst_keys, if_neg nk] at hk
    rcases List.mem_append.mp hk with h | h
    · exact f.l2 k h
    · rw [List.mem_singleton.mp h]
      exact Nat.lt_succ_self _
  · rcases dst_mem he with ⟨_, h⟩ | ⟨h, _⟩
    · exact h
    · exact f.v2 e h
theorem PJ.ts {H H' : Hp} {n m : Nat} {pl : Addr} {PS : List (Pr × V)} (f : PJ K H n m pl PS) (h : H' pl = H pl) (t : TSt K H H') : PJ K H' n m pl PS := ⟨h.trans f.hp, f.pa.ts t, f.ln, f.lt⟩
/-- a pair more -/
theorem PJ.app {H : Hp} {n m : Nat} {pl : Addr} {PS : List (Pr × V)} (f : PJ K H n m pl PS) {a b t : Addr} {i j : Nat} (ht : SqT K H t [.ref a, .ref b]) (ha : Dp K H (.ref a) (encL i)) (hb : Dp K H (.ref b) (encL j)) (hi : i < n) (hj : j < n) : PJ K (upd H pl (.lst (PS.map (·.2) ++ [V.ref t]))) n (m + 1) pl (PS ++ [((i, j), V.ref t)]) := by
  have tt := ts_lst (K := K) (o := .lst (PS.map (·.2) ++ [V.ref t])) f.hp
  refine ⟨by rw [upd_same, List.map_append]; rfl, fun e he => ?_, by rw [List.length_append]; exact Nat.succ_le_succ f.ln, fun e he => ?_⟩
  · rcases List.mem_append.mp he with he | he
    · exact (f.pa.ts tt) e he
    · rw [List.mem_singleton.mp he]
      exact ⟨t, a, b, rfl, sq_ts tt ht, ln_ts tt ha, ln_ts tt hb⟩
  · rcases List.mem_append.mp he with he | he
    · exact f.lt e he
    · rw [List.mem_singleton.mp he]
      exact ⟨hi, hj⟩
theorem plain_P (q : Pr) : (encP q).plain = true := by
  unfold encP
  simp [PyData.plain, PyData.plainAll, plain_L]
theorem plain_Ps : ∀ PS : List (Pr × V), PyData.plainAll (PS.map fun e => encP e.1) = true
  | [] => rfl
  | e :: PS => by
    rw [List.map_cons, PyData.plainAll, plain_P, plain_Ps PS]
    rfl
theorem dpAll_P {H : Hp} : ∀ {PS : List (Pr × V)}, PAt K H PS → DpAll K H (PS.map (·.2)) (PS.map fun e => encP e.1)
  | [], _ => .nil
  | e :: PS, h => .cons (h.dp List.mem_cons_self) (dpAll_P fun x hx => h x (List.mem_cons_of_mem _ hx))
def spGR (P : Program) (w : World) (K : PySem.W.Frag) : Sp := fun vs H Q _ => ∃ (p c : Addr), vs = [.ref p] ∧ StateAt H p c ∧
  ∀ (H' : Hp) (t dl dp pl : Addr) (esl esp : List (Nat × Addr × V)) (PS : List (Pr × V)) (n : Nat) (tx : Nat → Str), StateAt H' p c → (∀ b o, b ≠ p → b ≠ c → H b = some o → H' b = some o) → SqT K H' t [.ref dl, .ref dp, .ref pl] → n ≤ 10 →
    H' dl = some (dNO ktL P w dl esl) → KeysAt ktL K H' esl → esl.map (·.1) = List.range n → (∀ e ∈ esl, e.2.2 = .str (tx e.1)) →
    H' dp = some (dNO ktL P w dp esp) → KeysAt ktL K H' esp → (esp.map (·.1)).Pairwise (· < ·) → (∀ k ∈ esp.map (·.1), k < n) → (∀ e ∈ esp, e.2.2 = .bl true) → pl ≠ p → pl ≠ c → PJ K H' n 60 pl PS → Q (.ref t) H'
theorem ok_GR {f fD fP : Addr} {fd fdD fdP : FuncData} (F : Fun K "_law_graph" "_law_graph" sGR f fd)
    (GD : FnOk P w K mg base CX0 1 fD fdD ["state", "many"] spDraw) (bD : Binds K fdD ["state", "many"] []) (gD : mg "_law_draw" = some (.ref fD)) (kD : PySem.W.keepIn K (.ref fD) = true)
    (GP : FnOk P w K mg base CX0 2 fP fdP ["state", "row"] spPick) (bP : Binds K fdP ["state", "row"] []) (gP : mg "_law_pick" = some (.ref fP)) (kP : PySem.W.keepIn K (.ref fP) = true)
    (m_len : mg "len" = none) (m_range : mg "range" = none) (m_sorted : mg "sorted" = none) : FnOk P w K mg base CX0 3 f fd ["state"] (spGR P w K) := by
  refine F.ok scGR (fun vs H Q E h => ?_) (fun cdv A outer s H vs Q E hr h => ?_)
  · obtain ⟨p, c, rfl, _⟩ := h
    rfl
  · obtain ⟨p, c, rfl, st, q⟩ := h
    have hu := hr.units
    have hu1 := hu_of hr
    have hr1 : Room 1 _ := hr.mono (by decide)
    have hr2 : Room 2 _ := hr.mono (by decide)
    have zl := zl
    refine ⟨_, (pss_cons (ps_set (i := 1) scGR.nd rfl (.inr rfl) (pe_tup (pa_cons (pe_tup (pa_cons (pe_str) (pa_cons (pe_int) (pa_cons (pe_tup (pa_nil)) pa_nil)))) (pa_cons (pe_str) (pa_cons (pe_int) pa_nil)))))
      (pss_cons (ps_set (i := 2) scGR.nd rfl (.inl rfl) (pe_call GD hr1 (by rfl) gD kD bD .nil pass0 (pa_cons (pv 0) (pa_cons (pe_int) pa_nil))))
      (pss_cons (ps_setLc (i := 4) (own := [("k", 3)]) (g := gName 3) (tt := tYes) (te := tTup (tCons (tVar 1) (tCons (tC (.int 1)) (tCons (tVar 3) tNil)))) rfl scGR.nd rfl rfl (sw_true rfl rfl rfl (by decide +kernel)) (pi_range1 (by rfl) m_range (pa_cons (pv 2) pa_nil)) (blkOk_by (N := nGR) (sc := defScope sGR) (by decide +kernel)) (fun _ _ _ _ _ => by exact pg_name (i := 3) scGR.nd rfl (.inl rfl)) (fun _ _ _ _ _ => pts_nil) (fun _ _ _ _ _ => by exact pe_tup (pa_cons (pv 1) (pa_cons (pe_int) (pa_cons (pv 3) pa_nil)))))
      (pss_cons (ps_set (i := 5) scGR.nd rfl (.inl rfl) (pe_lst (pa_nil)))
      (pss_cons (ps_for PassesOwn.never rfl (pi_range1 (by rfl) m_range (pa_cons (pv 2) pa_nil)) (pg_name (i := 3) scGR.nd rfl (.inl rfl))
      (pss_one (ps_expr (pe_bm PySem.F.plainAttrs_list PySem.F.slot_list_append PySem.F.type_list_append mt_append (pv 5) (pa_cons (pe_bm PySem.F.plainAttrs_list PySem.F.slot_list_pop PySem.F.type_list_pop mt_popAt (pv 4) (pa_cons (pe_call GD hr1 (by rfl) gD kD bD .nil pass0 (pa_cons (pv 0) (pa_cons (pe_callB call_len_seq (by rfl) m_len PySem.boot_len (pa_cons (pv 4) pa_nil)) pa_nil))) pa_nil)) pa_nil)))))
      (pss_cons (ps_set (i := 6) scGR.nd rfl (.inl rfl) ((GX.pe_dnewN (T := ktL))))
      (pss_cons (ps_set (i := 7) scGR.nd rfl (.inl rfl) ((GX.pe_dnewN (T := ktL))))
      (pss_cons (ps_for PassesOwn.never rfl (pi_list (pe_callB (GX.cr_sortedD hu) (by rfl) m_sorted (by decide +kernel) (pa_cons (pv 5) pa_nil))) (pg_name (i := 8) scGR.nd rfl (.inl rfl))
      (pss_cons (ps_asg (pe_call GP hr2 (by rfl) gP kP bP .nil pass0 (pa_cons (pv 0) (pa_cons (pe_lst (pa_cons (pe_str) (pa_cons (pe_str) (pa_cons (pe_str) (pa_cons (pe_str) pa_nil))))) pa_nil))) (pg_sub (pv 6) (pv 8) (GX.set_N (T := ktL) hu)))
      (pss_one (ps_if (pt_cmpR op_gt (pe_call GD hr1 (by rfl) gD kD bD .nil pass0 (pa_cons (pv 0) (pa_cons (pe_int) pa_nil))) (pe_int) (nomark _))
      (pss_one (ps_asg (pe_bl) (pg_sub (pv 7) (pv 8) (GX.set_N (T := ktL) hu)))) pss_nil))))
      (pss_cons (ps_set (i := 9) scGR.nd rfl (.inl rfl) (pe_lst (pa_nil)))
      (pss_cons (ps_for PassesOwn.never rfl (pi_range1 (by rfl) m_range (pa_cons (pe_call GD hr1 (by rfl) gD kD bD .nil pass0 (pa_cons (pv 0) (pa_cons (pe_op op_add (pe_op op_mul (pe_int) (pv 2)) (pe_int)) pa_nil))) pa_nil)) (pg_name (i := 3) scGR.nd rfl (.inl rfl))
      (pss_cons (ps_par (i := 10) (j := 11) (by rfl) scGR.nd rfl rfl (by decide) rfl rfl (pa_cons (pe_call GD hr1 (by rfl) gD kD bD .nil pass0 (pa_cons (pv 0) (pa_cons (pv 2) pa_nil))) (pa_cons (pe_call GD hr1 (by rfl) gD kD bD .nil pass0 (pa_cons (pv 0) (pa_cons (pv 2) pa_nil))) pa_nil)) (by rfl))
      (pss_cons (ps_if (PW.pt (pw_and (pt_cmpR op_gt (pv 10) (pv 11) (nomark _)) (pw_and1 (pt_cmpR op_gt (pe_call GD hr1 (by rfl) gD kD bD .nil pass0 (pa_cons (pv 0) (pa_cons (pe_int) pa_nil))) (pe_int) (nomark _)))))
      (pss_one (ps_par (i := 10) (j := 11) (by rfl) scGR.nd rfl rfl (by decide) rfl rfl (pa_cons (pv 11) (pa_cons (pv 10) pa_nil)) (by rfl))) pss_nil)
      (pss_one (ps_if (PW.pt (pw_and (pt_cmpR op_ne (pv 10) (pv 11) (nomark _)) (pw_and1 (pt_cmpR (GX.op_notInP hu) (pe_tup (pa_cons (pe_ix ix_list (pv 5) (pv 10) (fun _ _ => rfl)) (pa_cons (pe_ix ix_list (pv 5) (pv 11) (fun _ _ => rfl)) pa_nil))) (pv 9) (by rfl)))))
      (pss_one (ps_expr (pe_bm PySem.F.plainAttrs_list PySem.F.slot_list_append PySem.F.type_list_append mt_append (pv 9) (pa_cons (pe_tup (pa_cons (pe_ix ix_list (pv 5) (pv 10) (fun _ _ => rfl)) (pa_cons (pe_ix ix_list (pv 5) (pv 11) (fun _ _ => rfl)) pa_nil))) pa_nil)))) pss_nil)))))
      (pss_cons (ps_if (pt_cmpR op_eq (pe_call GD hr1 (by rfl) gD kD bD .nil pass0 (pa_cons (pv 0) (pa_cons (pe_int) pa_nil))) (pe_int) (nomark _))
      (pss_one (ps_for PassesOwn.never rfl (pi_range1 (by rfl) m_range (pa_cons (pe_op op_sub (pv 2) (pe_int)) pa_nil)) (pg_name (i := 3) scGR.nd rfl (.inl rfl))
      (pss_one (ps_if (PW.pt (pw_and (pt_cmpR (GX.op_notInP hu) (pe_tup (pa_cons (pe_ix ix_list (pv 5) (pv 3) (fun _ _ => rfl)) (pa_cons (pe_ix ix_list (pv 5) (pe_op op_add (pv 3) (pe_int)) (fun _ _ => rfl)) pa_nil))) (pv 9) (by rfl)) (pw_and1 (pt_cmpR op_gt (pe_call GD hr1 (by rfl) gD kD bD .nil pass0 (pa_cons (pv 0) (pa_cons (pe_int) pa_nil))) (pe_int) (nomark _)))))
      (pss_one (ps_expr (pe_bm PySem.F.plainAttrs_list PySem.F.slot_list_append PySem.F.type_list_append mt_append (pv 9) (pa_cons (pe_tup (pa_cons (pe_ix ix_list (pv 5) (pv 3) (fun _ _ => rfl)) (pa_cons (pe_ix ix_list (pv 5) (pe_op op_add (pv 3) (pe_int)) (fun _ _ => rfl)) pa_nil))) pa_nil)))) pss_nil)))) pss_nil)
      (pss_one (ps_ret (pe_tup (pa_cons (pv 6) (pa_cons (pv 7) (pa_cons (pv 9) pa_nil))))))))))))))))), ?_⟩
    have d0 : Dr p c H H := ⟨st, st, fun _ _ _ _ e => e⟩
    refine ⟨Nat.zero_le _, fun t1 n1 => ⟨by show 3 ≤ sizeLine; omega, fun t2 n2 => ⟨by show 3 ≤ sizeLine; omega, fun t3 n3 => ?_⟩⟩⟩
    have sN := same_trans (same_trans (same_new (o := .tup []) n1) (same_new (o := .tup [.str "label", .int 0, .ref t1]) n2)) (same_new (o := .tup [.ref t2, .str "ann", .int 1]) n3)
    have d1 := ((d0.new (o := .tup []) n1).new (o := .tup [.str "label", .int 0, .ref t1]) n2).new (o := .tup [.ref t2, .str "ann", .int 1]) n3
    have hnm : Dp K (upd (upd (upd H t1 (.tup [])) t2 (.tup [.str "label", .int 0, .ref t1])) t3 (.tup [.ref t2, .str "ann", .int 1])) (.ref t3) nmD :=
      .tup (SqT.of upd_same) (.cons (.tup (SqT.of (same_new n3 _ _ upd_same)) (.cons (.str _) (.cons (.int _) (.cons (.tup (SqT.of (same_new n3 _ _ (same_new n2 _ _ upd_same))) .nil) .nil)))) (.cons (.str _) (.cons (.int _) .nil)))
    generalize upd (upd (upd H t1 (.tup [])) t2 (.tup [.str "label", .int 0, .ref t1])) t3 (.tup [.ref t2, .str "ann", .int 1]) = H1 at d1 hnm
    refine ⟨_, rfl, p, c, 11, rfl, by decide, d1.st, fun H2 n _ hn st2 dr2 => ?_⟩
    have hn11 := hn (by decide)
    have d2 := d1.draw st2 dr2
    have hnm2 := GX.Dp.tst (ts_drawn (K := K) d1.st dr2) nmD _ (by decide +kernel) hnm
    -- order
    refine ⟨_, rfl, _, rfl, by omega, by omega, fun oA noA => ?_⟩
    refine lc_it (walk_range (lo := 0) (n := ((n : Int)).toNat)) (fun m H' => Dr p c H H' ∧ Dp K H' (.ref t3) nmD ∧ ∃ F : List (Nat × V), H' oA = some (.lst (F.map (·.2))) ∧ LAt K H' F ∧ F.map (·.1) = List.range m) ⟨d2.new noA, GX.Dp.tst (ts_new noA) nmD _ (by decide +kernel) hnm2, [], upd_same, (fun _ h => nomatch h), rfl⟩ (fun _ _ _ _ => trivial) ?_ ?_
    · rintro m x H3 H3' hm ⟨d3, hnm3, F, eo, hF, eF⟩ ⟨rfl, rfl⟩
      have lF : F.length = m := by
        have := congrArg List.length eF
        rwa [List.length_map, List.length_range] at this
      refine ⟨rfl, _, rfl, _, rfl, by show 3 ≤ sizeLine; omega, fun t nt => ⟨_, same_new nt _ _ eo, by rw [List.length_map]; omega, ?_⟩⟩
      have t3' := ts_new (K := K) (o := .tup [.ref t3, .int 1, .int (0 + (m : Int))]) nt
      have eo' := same_new (o := .tup [.ref t3, .int 1, .int (0 + (m : Int))]) nt _ _ eo
      have t4' := t3'.trans (ts_lst (o := .lst (F.map (·.2) ++ [V.ref t])) eo')
      have noH : H oA = none := d2.none noA
      refine ⟨(d3.new nt).own noH, GX.Dp.tst t4' nmD _ (by decide +kernel) hnm3, F ++ [(m, V.ref t)], by rw [upd_same, List.map_append]; rfl, fun e he => ?_, by rw [List.map_append, eF, List.range_succ]; rfl⟩
      rcases List.mem_append.mp he with he | he
      · exact ln_ts t4' (hF e he)
      · rw [List.mem_singleton.mp he]
        refine ln_ts (ts_lst eo') ?_
        unfold encL
        refine .tup (SqT.of upd_same) (.cons (GX.Dp.tst t3' nmD _ (by decide +kernel) hnm3) (.cons (.int _) (.cons ?_ .nil)))
        show Dp K _ (V.int (0 + (m : Int))) (.int (m : Int))
        rw [Int.zero_add]
        exact .int _
    rintro H3 ⟨d3, _, F, eo, hF, eF⟩
    rw [Int.toNat_natCast] at eF
    have noH : H oA = none := d2.none noA
    -- row
    refine ⟨Nat.zero_le _, fun rA nrA => ?_⟩
    have nrH : H rA = none := d3.none nrA
    have nor : oA ≠ rA := fun e => by rw [e, nrA] at eo; cases eo
    refine ⟨_, rfl, _, rfl, by omega, by omega, ?_⟩
    refine for_it (walk_range (lo := 0) (n := ((n : Int)).toNat)) (fun i σ H' => ∃ (y3 : Option V) (F G : List (Nat × V)), σ = [some (.ref p), some (.ref t3), some (.int (n : Int)), y3, some (.ref oA), some (.ref rA), none, none, none, none, none, none] ∧ Dr p c H H' ∧ H' oA = some (.lst (F.map (·.2))) ∧ H' rA = some (.lst (G.map (·.2))) ∧ LAt K H' F ∧ LAt K H' G ∧ ((F ++ G).map (·.1)).Perm (List.range n) ∧ F.length + i = n ∧ G.length = i)
      ⟨_, F, [], rfl, d3.new nrA, (upd_ne nor).trans eo, upd_same, hF.ts (ts_new nrA), (fun _ h => nomatch h), by rw [List.append_nil, eF], by have := congrArg List.length eF; rw [List.length_map, List.length_range] at this; simpa using this, rfl⟩ (fun _ _ _ _ _ => trivial) ?_ ?_
    · rintro i x σ H4 H4' hi ⟨y3, F, G, rfl, d4, eo4, er4, hF4, hG4, pm, l1, l2⟩ ⟨rfl, rfl⟩
      rw [Int.toNat_natCast] at hi
      refine ⟨_, rfl, .inl ⟨rfl, _, SqL.of er4⟩, _, rfl, .inl ⟨rfl, _, SqL.of eo4⟩, _, rfl, _, rfl, oA, _, rfl, .inl (SqL.of eo4), p, c, F.length, by rw [List.length_map]; rfl, by omega, d4.st, fun H5 r _ hr5 st5 dr5 => ?_⟩
      have hr := hr5 (by omega)
      obtain ⟨np1, np2⟩ := d4.np noH
      obtain ⟨nq1, nq2⟩ := d4.np nrH
      have d5 := d4.draw st5 dr5
      have eo5 := (dr5 oA np1 np2).trans eo4
      have er5 := (dr5 rA nq1 nq2).trans er4
      have t5 := ts_drawn (K := K) d4.st dr5
      have eA := List.getElem?_eq_getElem hr
      refine ⟨oA, _, _, r, (F[r]).2, rfl, rfl, eo5, by omega, by omega, by rw [List.length_map]; exact seq_nat hr, get_map (·.2) eA, ?_⟩
      have er6 : upd H5 oA (.lst ((F.map (·.2)).eraseIdx r)) rA = some (.lst (G.map (·.2))) := (upd_ne (Ne.symm nor)).trans er5
      have t6 := t5.trans (ts_lst (o := .lst ((F.map (·.2)).eraseIdx r)) eo5)
      have t7 := t6.trans (ts_lst (o := .lst (G.map (·.2) ++ [(F[r]).2])) er6)
      have emap : (F.map (·.2)).eraseIdx r = (F.eraseIdx r).map (·.2) := map_erase _ F r
      refine ⟨rA, _, _, rfl, rfl, er6, by rw [List.length_map]; omega, _, F.eraseIdx r, G ++ [F[r]], rfl, (d5.own noH).own nrH, ?_, by rw [upd_same, List.map_append]; rfl, fun e he => ?_, fun e he => ?_, ?_, ?_, by rw [List.length_append, l2]; rfl⟩
      · rw [upd_ne nor, upd_same, emap]
      · exact ln_ts t7 (hF4 e (List.mem_of_mem_eraseIdx he))
      · rcases List.mem_append.mp he with he | he
        · exact ln_ts t7 (hG4 e he)
        · rw [List.mem_singleton.mp he]
          exact ln_ts t7 (hF4 _ (List.getElem_mem hr))
      · exact ((pop_perm F G r hr).map _).trans pm
      · rw [List.length_eraseIdx, if_pos hr]
        omega
    · rintro σ H4 ⟨y3, F4, G, rfl, d4, eo4, er4, hF4, hG4, pm, l1, l2⟩
      rw [Int.toNat_natCast] at l1 l2
      have eF4 : F4 = [] := List.length_eq_zero_iff.mp (by omega)
      subst eF4
      rw [List.nil_append] at pm
      refine fun D1 nD1 => fun D2 nD2 => ?_
      have s4 := same_trans (same_new (o := dNO ktL P w D1 []) nD1) (same_new (o := dNO ktL P w D2 []) nD2)
      have eD1 : upd (upd H4 D1 (dNO ktL P w D1 [])) D2 (dNO ktL P w D2 []) D1 = some (dNO ktL P w D1 []) := same_new nD2 _ _ upd_same
      have eD2 : upd (upd H4 D1 (dNO ktL P w D1 [])) D2 (dNO ktL P w D2 []) D2 = some (dNO ktL P w D2 []) := upd_same
      have d5 := (d4.new (o := dNO ktL P w D1 []) nD1).new (o := dNO ktL P w D2 []) nD2
      have ne12 : D1 ≠ D2 := fun e => by rw [← e, upd_same] at nD2; cases nD2
      have nH1 := d4.none nD1
      have nH2 := (d4.new (o := dNO ktL P w D1 []) nD1).none nD2
      have er5 := s4 _ _ er4
      have hG5 := hG4.ts (ts_same (K := K) s4)
      obtain ⟨al, so⟩ := able_L (fun e : Nat × V => e.1) G
      have dpk : ∀ k, (encL k).depth ≤ 60 := fun k => Nat.le_trans (ktL.dp k) (by decide)
      refine ⟨_, rfl, rA, G.map (fun e : Nat × V => e.2), Nat × V, G, fun e => encL e.1, fun v e => v = e.2 ∧ e ∈ G, rfl, SqL.of er5, each_ps G (fun _ h => h), fun v b hb => by rw [hb.1]; exact hG5 _ hb.2, al, so, fun b _ => dpk b.1, fun ys pS hys npS => ?_⟩
      have ey := ps_each hys
      subst ey
      have eS : (G.mergeSort (dataLe false fun e : Nat × V => encL e.1)).map (·.1) = List.range n := by
        rw [← sort_range pm]
        exact List.map_mergeSort fun a _ b _ => by rw [PySem.W.dataLe_eq, PySem.W.dataLe_eq]
      have hSG : ∀ e ∈ G.mergeSort (dataLe false fun e : Nat × V => encL e.1), e ∈ G := fun e he => List.mem_mergeSort.mp he
      have sS := same_new (o := .lst ((G.mergeSort (dataLe false fun e : Nat × V => encL e.1)).map (·.2))) npS
      have d6 := d5.new (o := .lst ((G.mergeSort (dataLe false fun e : Nat × V => encL e.1)).map (·.2))) npS
      have nHS := d5.none npS
      generalize G.mergeSort (dataLe false fun e : Nat × V => encL e.1) = SG at eS hSG sS d6
      have f0 : LJ P w K p c H (upd (upd (upd H4 D1 (dNO ktL P w D1 [])) D2 (dNO ktL P w D2 [])) pS (.lst (SG.map (·.2)))) 0 rA pS D1 D2 G SG [] [] (fun _ => "") :=
        ⟨d6, nrH, nHS, nH1, nH2, ne12, sS _ _ er5, hG5.ts (ts_same sS), upd_same, fun e he => ln_ts (ts_same sS) (hG5 e (hSG e he)), sS _ _ eD1, (fun _ h => nomatch h), rfl, (fun _ h => nomatch h), sS _ _ eD2, (fun _ h => nomatch h), List.Pairwise.nil, (fun _ h => nomatch h), (fun _ h => nomatch h)⟩
      have lSG : SG.length = n := by
        have := congrArg List.length eS
        rwa [List.length_map, List.length_range] at this
      refine ⟨pS, rfl, ⟨_, SqL.of upd_same⟩, ?_⟩
      refine for_list (xs := SG.map (·.2)) (fun i σ H' => ∃ (y3 y8 : Option V) (es1 es2 : List (Nat × Addr × V)) (tx : Nat → Str), σ = [some (.ref p), some (.ref t3), some (.int (n : Int)), y3, some (.ref oA), some (.ref rA), some (.ref D1), some (.ref D2), y8, none, none, none] ∧ LJ P w K p c H H' i rA pS D1 D2 G SG es1 es2 tx)
        ⟨_, none, [], [], _, rfl, f0⟩ ?_ ?_ ?_
      · rintro i σ H' _ ⟨_, _, _, _, _, _, f⟩
        exact SqL.of f.s
      · rintro i x σ H7 hx ⟨y3, y8, es1, es2, tx, rfl, f⟩
        obtain ⟨⟨k, v⟩, gx, rfl⟩ := map_get hx
        have hi : i < n := by rw [← lSG]; exact (List.getElem?_eq_some_iff.mp gx).1
        have ki : k = i := by
          have := get_map (·.1) gx
          rw [eS, List.getElem?_range hi] at this
          exact (Option.some.inj this).symm
        subst ki
        have hk := f.ls _ (List.mem_of_getElem? gx)
        obtain ⟨a, ea⟩ := ln_ref hk
        simp only at ea hk
        subst ea
        have le1 : es1.length = k := by
          have := congrArg List.length f.m1
          rwa [List.length_map, List.length_range] at this
        have le2 : es2.length ≤ k := by
          have nd : (es2.map (·.1)).Nodup := f.m2.imp fun h => Nat.ne_of_lt h
          have := nat_nodup_len nd (m := List.range k) fun x hx => List.mem_range.mpr (f.l2 x hx)
          rwa [List.length_map, List.length_range] at this
        refine ⟨_, rfl, by show 4 ≤ sizeLine; omega, fun L nL => ?_⟩
        have fL := f.same (f.dr.new (o := .lst [.str "a", .str "b", .str "c", .str "d"]) nL) (same_new nL)
        obtain ⟨nL1, nL2⟩ := f.dr.np (f.dr.none nL)
        refine ⟨p, c, L, [.str "a", .str "b", .str "c", .str "d"], rfl, upd_same, nL1, nL2, by decide, by decide, fL.dr.st, fun H8 v hv st8 dr8 => ?_⟩
        obtain ⟨x, rfl⟩ : ∃ x : Str, v = .str x := by
          rcases List.mem_cons.mp hv with h | hv
          · exact ⟨_, h⟩
          · rcases List.mem_cons.mp hv with h | hv
            · exact ⟨_, h⟩
            · rcases List.mem_cons.mp hv with h | hv
              · exact ⟨_, h⟩
              · exact ⟨_, List.mem_singleton.mp hv⟩
        have f8 := fL.draw st8 dr8
        have hk8 := f8.ls _ (List.mem_of_getElem? gx)
        simp only at hk8
        refine ⟨_, rfl, _, rfl, D1, a, es1, k, rfl, rfl, f8.a1, f8.k1, hk8, by omega, ?_⟩
        have f9 := f8.put1 hk8 x
        refine ⟨_, rfl, p, c, 5, rfl, by decide, f9.dr.st, fun H9 r _ _ st9 dr9 => ?_⟩
        have fA := f9.draw st9 dr9
        refine ⟨_, _, rfl, rfl, _, rfl, ite2 (fun c1 => ?_) (fun c1 => ?_)⟩
        · have hkA := fA.ls _ (List.mem_of_getElem? gx)
          simp only at hkA
          exact ⟨_, rfl, _, rfl, D2, a, es2, k, rfl, rfl, fA.a2, fA.k2, hkA, by omega, _, _, _, _, _, rfl, fA.put2 f.l2 hkA⟩
        · exact ⟨_, _, _, _, _, rfl, fA⟩
      · rintro σ H7 ⟨y3, y8, es1, es2, tx, rfl, f⟩
        rw [List.length_map, lSG] at f
        have lG : G.length = n := l2
        have gk : ∀ i, i < n → ∃ (a : Addr) (k : Nat), G[i]? = some (k, .ref a) ∧ k < n := fun i hi => by
          have h1 : G[i]? = some G[i] := List.getElem?_eq_getElem (by omega)
          have hm := List.mem_of_getElem? h1
          obtain ⟨a, ea⟩ := ln_ref (f.lr _ hm)
          refine ⟨a, (G[i]).1, by rw [h1]; rw [← ea], ?_⟩
          exact List.mem_range.mp (pm.mem_iff.mp (List.mem_map.mpr ⟨_, hm, rfl⟩))
        refine ⟨Nat.zero_le _, fun pl npl => ?_⟩
        have nHp := f.dr.none npl
        obtain ⟨npl1, npl2⟩ := f.dr.np nHp
        have nrp : rA ≠ pl := fun e => by have := f.r; rw [e, npl] at this; cases this
        have nsp : pS ≠ pl := fun e => by have := f.s; rw [e, npl] at this; cases this
        have f1 := f.same (f.dr.new (o := .lst []) npl) (same_new npl)
        have p1 : PJ K (upd H7 pl (.lst [])) n 0 pl [] := ⟨upd_same, (fun _ h => nomatch h), Nat.le_refl _, (fun _ h => nomatch h)⟩
        refine ⟨_, rfl, _, rfl, _, _, rfl, rfl, .inl (by decide), _, _, rfl, rfl, p, c, 2 * n + 1, by rw [show ((2 * n + 1 : Nat) : Int) = 2 * (n : Int) + 1 from by omega]; rfl, by omega, f1.dr.st, fun H8 r _ hr st8 dr8 => ?_⟩
        have hr8 := hr (by omega)
        have f8 := f1.draw st8 dr8
        have p8 := p1.ts (dr8 pl npl1 npl2) (ts_drawn (K := K) f1.dr.st dr8)
        refine ⟨_, rfl, by omega, by omega, ?_⟩
        refine for_it (walk_range (lo := 0) (n := ((r : Int)).toNat)) (fun i σ H' => ∃ (y3 y10 y11 : Option V) (PS : List (Pr × V)), σ = [some (.ref p), some (.ref t3), some (.int (n : Int)), y3, some (.ref oA), some (.ref rA), some (.ref D1), some (.ref D2), y8, some (.ref pl), y10, y11] ∧ LJ P w K p c H H' n rA pS D1 D2 G SG es1 es2 tx ∧ PJ K H' n i pl PS)
          ⟨_, none, none, [], rfl, f8, p8⟩ (fun _ _ _ _ _ => trivial) ?_ ?_
        · rintro i x σ H9 H9' hi ⟨y3, y10, y11, PS, rfl, f9, p9⟩ ⟨rfl, rfl⟩
          rw [Int.toNat_natCast] at hi
          have n0 : 0 < n := by omega
          refine ⟨_, rfl, _, rfl, p, c, n, rfl, by omega, f9.dr.st, fun HA a _ ha stA drA => ⟨_, rfl, _, rfl, p, c, n, rfl, by omega, stA, fun HB b _ hb stB drB => ⟨_, _, rfl, ?_⟩⟩⟩
          have fA := f9.draw stA drA
          have pA := p9.ts (drA pl npl1 npl2) (ts_drawn (K := K) f9.dr.st drA)
          have fB := fA.draw stB drB
          have pB := pA.ts (drB pl npl1 npl2) (ts_drawn (K := K) fA.dr.st drB)
          dsimp only
          refine tseq_intro (fun σ' H' => ∃ a b : Nat, σ' = [some (.ref p), some (.ref t3), some (.int (n : Int)), some (.int (0 + (i : Int))), some (.ref oA), some (.ref rA), some (.ref D1), some (.ref D2), y8, some (.ref pl), some (.int (a : Int)), some (.int (b : Int))] ∧ a < n ∧ b < n ∧ LJ P w K p c H H' n rA pS D1 D2 G SG es1 es2 tx ∧ PJ K H' n i pl PS) ?_ ?_
          · rintro σ' HC ⟨a, b, rfl, ha, hb, fC, pC⟩
            obtain ⟨aa, ka, ga, hka⟩ := gk a ha
            obtain ⟨ab, kb, gb, hkb⟩ := gk b hb
            have da := fC.lr _ (List.mem_of_getElem? ga)
            have db := fC.lr _ (List.mem_of_getElem? gb)
            simp only at da db
            refine ⟨_, rfl, _, rfl, rfl, _, rfl, ite2 (fun c1 => ?_) (fun c1 => ?_)⟩
            · refine ⟨_, rfl, _, rfl, rA, _, _, _, rfl, rfl, SqL.of fC.r, atI_nat (get_map (·.2) ga), _, rfl, _, rfl, rA, _, _, _, rfl, rfl, SqL.of fC.r, atI_nat (get_map (·.2) gb), by show 2 ≤ sizeLine; omega, fun t nt => ?_⟩
              have sT := same_new (o := .tup [.ref aa, .ref ab]) nt
              have fD := fC.same (fC.dr.new nt) sT
              have pD := pC.ts (sT _ _ pC.hp |>.trans pC.hp.symm) (ts_same (K := K) sT)
              refine ⟨_, rfl, PS.map (fun e : Pr × V => encP e.1), encP (ka, kb), .lst (SqL.of pD.hp) (dpAll_P pD.pa), .tup (SqT.of upd_same) (.cons (ln_ts (ts_same sT) da) (.cons (ln_ts (ts_same sT) db) .nil)), plain_Ps PS, plain_P _, dep_P _, _, rfl, ite2 (fun c2 => ?_) (fun c2 => ?_)⟩
              · refine ⟨_, rfl, .inl ⟨rfl, _, SqL.of pD.hp⟩, _, rfl, _, rfl, rA, _, _, _, rfl, rfl, SqL.of fD.r, atI_nat (get_map (·.2) ga), _, rfl, _, rfl, rA, _, _, _, rfl, rfl, SqL.of fD.r, atI_nat (get_map (·.2) gb), by show 2 ≤ sizeLine; omega, fun t2 nt2 => ?_⟩
                have sU := same_new (o := .tup [.ref aa, .ref ab]) nt2
                have fE := fD.same (fD.dr.new nt2) sU
                have pE := pD.ts (sU _ _ pD.hp |>.trans pD.hp.symm) (ts_same (K := K) sU)
                refine ⟨pl, _, _, rfl, rfl, pE.hp, by rw [List.length_map]; have := pE.ln; omega, _, _, _, PS ++ [((ka, kb), V.ref t2)], rfl, ?_, ?_⟩
                · exact fE.own pE.hp nHp nrp nsp
                · exact pE.app (SqT.of upd_same) (ln_ts (ts_same (same_trans sT sU)) da) (ln_ts (ts_same (same_trans sT sU)) db) hka hkb
              · exact ⟨_, _, _, PS, rfl, fD, ⟨pD.hp, pD.pa, Nat.le_succ_of_le pD.ln, pD.lt⟩⟩
            · exact ⟨_, _, _, PS, rfl, fC, ⟨pC.hp, pC.pa, Nat.le_succ_of_le pC.ln, pC.lt⟩⟩
          · intro N hN
            refine ⟨_, rfl, _, rfl, _, _, rfl, rfl, _, rfl, ite2 (fun c1 => ?_) (fun c1 => ?_)⟩
            · refine ⟨_, rfl, p, c, 6, rfl, by decide, fB.dr.st, fun HC r2 _ _ stC drC => ?_⟩
              have fC := fB.draw stC drC
              have pC := pB.ts (drC pl npl1 npl2) (ts_drawn (K := K) fB.dr.st drC)
              refine ⟨_, _, rfl, rfl, _, rfl, ite2 (fun c2 => ?_) (fun c2 => ?_)⟩
              · exact ⟨_, rfl, _, rfl, _, _, rfl, hN _ _ ⟨b, a, rfl, hb n0, ha n0, fC, pC⟩⟩
              · exact hN _ _ ⟨a, b, rfl, ha n0, hb n0, fC, pC⟩
            · exact hN _ _ ⟨a, b, rfl, ha n0, hb n0, fB, pB⟩
        · rintro σ H9 ⟨y3, y10, y11, PS, rfl, f9, p9⟩
          rw [Int.toNat_natCast] at p9
          dsimp only
          refine tseq_intro (fun σ' H' => ∃ (y3 y10 y11 : Option V) (PS : List (Pr × V)), σ' = [some (.ref p), some (.ref t3), some (.int (n : Int)), y3, some (.ref oA), some (.ref rA), some (.ref D1), some (.ref D2), y8, some (.ref pl), y10, y11] ∧ LJ P w K p c H H' n rA pS D1 D2 G SG es1 es2 tx ∧ PJ K H' n 60 pl PS) ?_ ?_
          · rintro σ' HA ⟨y3, y10, y11, PS, rfl, fA, pA⟩
            refine ⟨_, rfl, _, rfl, _, rfl, by show 3 ≤ sizeLine; omega, fun t nt => ?_⟩
            have sT := same_new (o := .tup [.ref D1, .ref D2, .ref pl]) nt
            have fB := fA.same (fA.dr.new nt) sT
            exact q _ t D1 D2 pl es1 es2 PS n tx fB.dr.st fB.dr.ou (SqT.of upd_same) (by omega) fB.a1 fB.k1 fB.m1 fB.v1 fB.a2 fB.k2 fB.m2 fB.l2 fB.v2 npl1 npl2 (pA.ts ((sT _ _ pA.hp).trans pA.hp.symm) (ts_same sT))
          · intro N hN
            refine ⟨_, rfl, p, c, 3, rfl, by decide, f9.dr.st, fun HA r2 _ _ stA drA => ?_⟩
            have fA := f9.draw stA drA
            have pA := p9.ts (drA pl npl1 npl2) (ts_drawn (K := K) f9.dr.st drA)
            refine ⟨rfl, _, rfl, ite2 (fun c1 => ?_) (fun c1 => ?_)⟩
            · refine ⟨_, rfl, _, _, rfl, rfl, _, rfl, by omega, by omega, ?_⟩
              refine for_it (walk_range (lo := 0) (n := ((n : Int) - 1).toNat)) (fun i σ H' => ∃ (y3 : Option V) (PS : List (Pr × V)), σ = [some (.ref p), some (.ref t3), some (.int (n : Int)), y3, some (.ref oA), some (.ref rA), some (.ref D1), some (.ref D2), y8, some (.ref pl), y10, y11] ∧ LJ P w K p c H H' n rA pS D1 D2 G SG es1 es2 tx ∧ PJ K H' n (20 + i) pl PS)
                ⟨_, PS, rfl, fA, ⟨pA.hp, pA.pa, by have := pA.ln; omega, pA.lt⟩⟩ (fun _ _ _ _ _ => trivial) ?_ ?_
              · rintro i x σ HC HC' hi ⟨y3, PS, rfl, fC, pC⟩ ⟨rfl, rfl⟩
                have hi1 : i + 1 < n := by omega
                obtain ⟨aa, ka, ga, hka⟩ := gk i (by omega)
                obtain ⟨ab, kb, gb, hkb⟩ := gk (i + 1) hi1
                have da := fC.lr _ (List.mem_of_getElem? ga)
                have db := fC.lr _ (List.mem_of_getElem? gb)
                simp only at da db
                have ia : atI (G.map (·.2)) (0 + (i : Int)) = some (V.ref aa) := by
                  rw [Int.zero_add]
                  exact atI_nat (get_map (·.2) ga)
                have ib : atI (G.map (·.2)) (0 + (i : Int) + 1) = some (V.ref ab) := by
                  rw [Int.zero_add]
                  exact atI_s (get_map (·.2) gb)
                refine ⟨_, rfl, _, rfl, rA, _, _, _, rfl, rfl, SqL.of fC.r, ia, _, rfl, _, rfl, _, _, rfl, rfl, rA, _, _, _, rfl, rfl, SqL.of fC.r, ib, by show 2 ≤ sizeLine; omega, fun t nt => ?_⟩
                have sT := same_new (o := .tup [.ref aa, .ref ab]) nt
                have fD := fC.same (fC.dr.new nt) sT
                have pD := pC.ts (sT _ _ pC.hp |>.trans pC.hp.symm) (ts_same (K := K) sT)
                refine ⟨_, rfl, PS.map (fun e : Pr × V => encP e.1), encP (ka, kb), .lst (SqL.of pD.hp) (dpAll_P pD.pa), .tup (SqT.of upd_same) (.cons (ln_ts (ts_same sT) da) (.cons (ln_ts (ts_same sT) db) .nil)), plain_Ps PS, plain_P _, dep_P _, _, rfl, ite2 (fun c2 => ?_) (fun c2 => ?_)⟩
                · refine ⟨_, rfl, p, c, 4, rfl, by decide, fD.dr.st, fun HE r3 _ _ stE drE => ?_⟩
                  have fE := fD.draw stE drE
                  have pE := pD.ts (drE pl npl1 npl2) (ts_drawn (K := K) fD.dr.st drE)
                  have da2 := fE.lr _ (List.mem_of_getElem? ga)
                  have db2 := fE.lr _ (List.mem_of_getElem? gb)
                  simp only at da2 db2
                  refine ⟨_, _, rfl, rfl, _, rfl, ite2 (fun c3 => ?_) (fun c3 => ?_)⟩
                  · refine ⟨_, rfl, .inl ⟨rfl, _, SqL.of pE.hp⟩, _, rfl, _, rfl, rA, _, _, _, rfl, rfl, SqL.of fE.r, ia, _, rfl, _, rfl, _, _, rfl, rfl, rA, _, _, _, rfl, rfl, SqL.of fE.r, ib, by show 2 ≤ sizeLine; omega, fun t2 nt2 => ?_⟩
                    have sU := same_new (o := .tup [.ref aa, .ref ab]) nt2
                    have fF := fE.same (fE.dr.new nt2) sU
                    have pF := pE.ts (sU _ _ pE.hp |>.trans pE.hp.symm) (ts_same (K := K) sU)
                    refine ⟨pl, _, _, rfl, rfl, pF.hp, by rw [List.length_map]; have := pF.ln; omega, _, PS ++ [((ka, kb), V.ref t2)], rfl, ?_, ?_⟩
                    · exact fF.own pF.hp nHp nrp nsp
                    · exact pF.app (SqT.of upd_same) (ln_ts (ts_same sU) da2) (ln_ts (ts_same sU) db2) hka hkb
                  · exact ⟨_, PS, rfl, fE, ⟨pE.hp, pE.pa, by have := pE.ln; omega, pE.lt⟩⟩
                · exact ⟨_, PS, rfl, fD, ⟨pD.hp, pD.pa, by have := pD.ln; omega, pD.lt⟩⟩
              · rintro σ HC ⟨y3, PS, rfl, fC, pC⟩
                exact hN _ _ ⟨_, _, _, PS, rfl, fC, ⟨pC.hp, pC.pa, by have := pC.ln; omega, pC.lt⟩⟩
            · exact hN _ _ ⟨_, _, _, PS, rfl, fA, ⟨pA.hp, pA.pa, by have := pA.ln; omega, pA.lt⟩⟩
end
end K12
/-! filters of lists, the least line, groups -/
namespace K12
open PySem PySem.Spec PyProof.Rows L2 TR QR
open GX (KT kd kdAll RS TSt dNO KeysAt)
open PySem.W (dataLt dataLe alike alikeAll AllAlike Sortable)
open MB
section
variable {K : PySem.W.Frag}
/-- [one for one in xs if test] -/
theorem lcf {α : Type} {i j : Nat} {tt : TT} {σ : L2.St} {H : Hp} {Q : VK} {l : Addr} (F : List (α × V)) (p : α → Bool)
    (hl : SqL K H l (F.map (·.2))) (ln : F.length ≤ 1000) (hi : σ[i]? = some (some (.ref l))) (hj : ∀ v, wipe (((wipe σ [j]).set j (some v))) [j] = wipe σ [j]) (hjj : ∀ v : V, ((wipe σ [j]).set j (some v))[j]? = some (some v))
    (step : ∀ e ∈ F, ∀ (H1 : Hp) (R : Bool → Hp → Prop), Same H H1 → (∀ H2, Same H1 H2 → R (p e.1) H2) → tt ((wipe σ [j]).set j (some e.2)) H1 R)
    (q : ∀ D H', Same H H' → H D = none → H' D = some (.lst ((F.filter fun e => p e.1).map (·.2))) → Q (.ref D) H') :
    tLc (iList K (tVar i)) (gName j) tt (tVar j) [j] σ H Q := by
  have zl := zl
  refine ⟨_, hi, l, rfl, ⟨_, hl⟩, fun D nD => ?_⟩
  refine lc_list (xs := F.map (·.2)) (fun m H' => Same H H' ∧ H' D = some (.lst (((F.take m).filter fun e => p e.1).map (·.2)))) ⟨same_new nD, upd_same⟩ ?_ ?_ ?_
  · rintro m H' _ ⟨s, _⟩
    exact (GX.rs_same s).sql hl
  · rintro m y H1 hy ⟨s, eD⟩
    obtain ⟨e, ge, rfl⟩ := map_get hy
    have hem := List.mem_of_getElem? ge
    have et : F.take (m + 1) = F.take m ++ [e] := by rw [List.take_add_one, ge]; rfl
    refine ⟨hj _, step e hem H1 _ s fun H2 s2 => ?_⟩
    have s02 := same_trans s s2
    refine ite2 (fun c => ?_) (fun c => ?_)
    · have le : ((F.take m).filter fun e => p e.1).length ≤ F.length := Nat.le_trans (List.length_filter_le _ _) (by rw [List.length_take]; omega)
      refine ⟨_, hjj _, _, s2 _ _ eD, by rw [List.length_map]; omega, same_upd nD s02, ?_⟩
      rw [upd_same, et, List.filter_append, List.map_append]
      simp [c]
    · refine ⟨s02, ?_⟩
      rw [et, List.filter_append, s2 _ _ eD]
      simp [c]
  · rintro H1 ⟨s, eD⟩
    rw [List.length_map, List.take_length] at eD
    exact q D H1 s nD eD
end
section
variable [Sg]
def lsD (ks : List Nat) : PyData := .list (ks.map encL)
theorem lsD_plain (ks : List Nat) : (lsD ks).plain = true := by
  unfold lsD
  rw [PyData.plain, plain_Ls]
theorem lsD_dep (ks : List Nat) : (lsD ks).depth ≤ 40 := by
  unfold lsD
  rw [PyData.depth]
  have := dep_Ls ks
  omega
theorem dp_ls {K : PySem.W.Frag} {H : Hp} {l : Addr} {F : List (Nat × V)} (h : SqL K H l (F.map (·.2))) (hF : LAt K H F) : Dp K H (.ref l) (lsD (F.map (·.1))) := .lst h (dpAll_L hF)
theorem eqv_Ls : ∀ a b : List Nat, PyData.eqvAll (a.map encL) (b.map encL) = decide (a = b)
  | [], [] => by simp [PyData.eqvAll]
  | [], y :: b => by simp [PyData.eqvAll]
  | x :: a, [] => by simp [PyData.eqvAll]
  | x :: a, y :: b => by
    rw [List.map_cons, List.map_cons, PyData.eqvAll, eqv_L, eqv_Ls a b, Bool.eq_iff_iff]
    simp
theorem eqv_ls (a b : List Nat) : PyData.eqv (lsD a) (lsD b) = decide (a = b) := by
  unfold lsD
  rw [PyData.eqv, eqv_Ls]
def rsD (R : List (List Nat)) : PyData := .list (R.map lsD)
theorem plain_rs : ∀ R : List (List Nat), PyData.plainAll (R.map lsD) = true
  | [] => rfl
  | a :: R => by
    rw [List.map_cons, PyData.plainAll, lsD_plain, plain_rs R]
    rfl
theorem rsD_plain (R : List (List Nat)) : (rsD R).plain = true := by
  unfold rsD
  rw [PyData.plain, plain_rs]
theorem dep_rs : ∀ R : List (List Nat), PyData.depthAll (R.map lsD) ≤ 40
  | [] => Nat.zero_le _
  | a :: R => by
    rw [List.map_cons, PyData.depthAll]
    have := lsD_dep a
    have := dep_rs R
    omega
theorem rsD_dep (R : List (List Nat)) : (rsD R).depth ≤ 50 := by
  unfold rsD
  rw [PyData.depth]
  have := dep_rs R
  omega
theorem eqv_Rs : ∀ a b : List (List Nat), PyData.eqvAll (a.map lsD) (b.map lsD) = decide (a = b)
  | [], [] => by simp [PyData.eqvAll]
  | [], y :: b => by simp [PyData.eqvAll]
  | x :: a, [] => by simp [PyData.eqvAll]
  | x :: a, y :: b => by
    rw [List.map_cons, List.map_cons, PyData.eqvAll, eqv_ls, eqv_Rs a b, Bool.eq_iff_iff]
    simp
theorem eqv_rs (a b : List (List Nat)) : PyData.eqv (rsD a) (rsD b) = decide (a = b) := by
  unfold rsD
  rw [PyData.eqv, eqv_Rs]
theorem dpAll_R {K : PySem.W.Frag} {H : Hp} : ∀ {FF : List RowL}, RowsAt K H FF → DpAll K H (FF.map fun z => V.ref z.1) ((keysF FF).map lsD)
  | [], _ => .nil
  | z :: FF, h => .cons (dp_ls (h z List.mem_cons_self).1 (h z List.mem_cons_self).2) (dpAll_R fun x hx => h x (List.mem_cons_of_mem _ hx))
theorem dp_rs {K : PySem.W.Frag} {H : Hp} {p : Addr} {FF : List RowL} (h : SqL K H p (FF.map fun z => V.ref z.1)) (hF : RowsAt K H FF) : Dp K H (.ref p) (rsD (keysF FF)) := .lst h (dpAll_R hF)
theorem argBest_le (bt : Nat → Nat → Bool) : ∀ k, argBest bt k ≤ k
  | 0 => Nat.le_refl _
  | k + 1 => by
    rw [argBest]
    have := argBest_le bt k
    split <;> omega
theorem argBest_congr {bt bt' : Nat → Nat → Bool} : ∀ k, (∀ i j, i ≤ k → j ≤ k → bt i j = bt' i j) → argBest bt k = argBest bt' k
  | 0, _ => rfl
  | k + 1, h => by
    have ih := argBest_congr k fun i j hi hj => h i j (by omega) (by omega)
    have := argBest_le bt' k
    rw [argBest, argBest, ih, h _ _ (Nat.le_refl _) (by omega)]
theorem min_L (ks : List Nat) (h : 0 < ks.length) : ∃ m, ks[argBest (fun i j => dataLt ((ks.map encL).getD i .none) ((ks.map encL).getD j .none)) (ks.length - 1)]? = some m ∧ ∀ y ∈ ks, m ≤ y := by
  have e := argBest_congr (bt := fun i j => dataLt ((ks.map encL).getD i .none) ((ks.map encL).getD j .none)) (bt' := fun i j => decide ((ks.getD i 0 : Int) < (ks.getD j 0 : Int))) (ks.length - 1) fun i j hi hj => by
    have hi' : i < ks.length := by omega
    have hj' : j < ks.length := by omega
    simp only [List.getD_eq_getElem?_getD, List.getElem?_map, List.getElem?_eq_getElem hi', List.getElem?_eq_getElem hj', Option.map_some, Option.getD_some, lt_L]
    exact decide_eq_decide.mpr (by omega)
  rw [e]
  obtain ⟨h1, h2⟩ := argBest_lt (fun i => (ks.getD i 0 : Int)) (ks.length - 1)
  generalize argBest (fun i j => decide ((ks.getD i 0 : Int) < (ks.getD j 0 : Int))) (ks.length - 1) = b at h1 h2
  have hb : b < ks.length := by omega
  refine ⟨ks[b], List.getElem?_eq_getElem hb, fun y hy => ?_⟩
  obtain ⟨j, hj, rfl⟩ := List.getElem_of_mem hy
  have := h2 j (by omega)
  simp only [List.getD_eq_getElem?_getD, List.getElem?_eq_getElem hb, List.getElem?_eq_getElem hj, Option.getD_some] at this
  omega
end
/-- the element, and the others -/
theorem perm_ne {α : Type} [DecidableEq α] {a : α} : ∀ {l : List α}, l.Nodup → a ∈ l → l.Perm (a :: l.filter fun x => decide (x ≠ a))
  | [], _, h => nomatch h
  | x :: l, nd, h => by
    obtain ⟨h1, h2⟩ := List.nodup_cons.mp nd
    by_cases e : x = a
    · subst e
      have : (x :: l).filter (fun y => decide (y ≠ x)) = l := by
        rw [List.filter_cons]
        simp only [ne_eq, not_true_eq_false, decide_false, Bool.false_eq_true, if_false]
        exact List.filter_eq_self.mpr fun y hy => decide_eq_true fun z => h1 (z ▸ hy)
      rw [this]
    · have ha : a ∈ l := by
        rcases List.mem_cons.mp h with h | h
        · exact absurd h.symm e
        · exact h
      have ih := perm_ne h2 ha
      have : (x :: l).filter (fun y => decide (y ≠ a)) = x :: l.filter fun y => decide (y ≠ a) := by
        rw [List.filter_cons]
        simp [e]
      rw [this]
      exact (ih.cons x).trans (List.Perm.swap _ _ _)
end K12
/-! groups of lines: what _law_blocks keeps -/
namespace K12
open PySem PySem.Spec PyProof.Rows L2 TR QR
open GX (KT kd kdAll RS TSt dNO KeysAt)
open MB
theorem any_L [Sg] (ks : List Nat) (k : Nat) : ((ks.map encL).any fun y => PyData.eqv y (encL k)) = decide (k ∈ ks) := by
  rw [List.any_map, Bool.eq_iff_iff, List.any_eq_true, decide_eq_true_iff]
  constructor
  · rintro ⟨y, hy, e⟩
    have e : PyData.eqv (encL y) (encL k) = true := e
    rw [eqv_L] at e
    rw [← of_decide_eq_true e]
    exact hy
  · intro h
    refine ⟨k, h, ?_⟩
    show PyData.eqv (encL k) (encL k) = true
    rw [eqv_L]
    exact decide_eq_true rfl
def nearL (r : Nat → Nat → Bool) (G : List Nat) (y : Nat) : Bool := !decide (y ∈ G) && G.any fun x => !r x y && !r y x
theorem near_nd {r : Nat → Nat → Bool} {L G : List Nat} (nL : L.Nodup) (nG : G.Nodup) : (G ++ L.filter (nearL r G)).Nodup := by
  rw [List.nodup_append]
  refine ⟨nG, nL.filter _, fun x hx y hy e => ?_⟩
  subst e
  have := (List.mem_filter.mp hy).2
  unfold nearL at this
  simp [hx] at this
theorem near_conn {r : Nat → Nat → Bool} {L G : List Nat} (hc : Conn r G) : Conn r (G ++ L.filter (nearL r G)) := by
  refine conn_add hc fun x hx => ?_
  have := (List.mem_filter.mp hx).2
  unfold nearL at this
  rw [Bool.and_eq_true, List.any_eq_true] at this
  obtain ⟨g, hg, h⟩ := this.2
  rw [Bool.and_eq_true, Bool.not_eq_true', Bool.not_eq_true'] at h
  exact ⟨g, hg, h.2, h.1⟩
theorem near_none {r : Nat → Nat → Bool} {L G : List Nat} (h : L.filter (nearL r G) = []) : ∀ y ∈ L, y ∉ G → ∀ x ∈ G, r x y = true ∨ r y x = true := fun y hy ny x hx => by
  have := List.filter_eq_nil_iff.mp h y hy
  unfold nearL at this
  rw [Bool.and_eq_true, List.any_eq_true] at this
  cases e1 : r x y with
  | true => exact .inl rfl
  | false =>
    cases e2 : r y x with
    | true => exact .inr rfl
    | false => exact absurd ⟨by simpa using ny, x, hx, by rw [e1, e2]; rfl⟩ this
theorem split_perm {L G : List Nat} (nL : L.Nodup) (nG : G.Nodup) (sub : ∀ x ∈ G, x ∈ L) : (G ++ L.filter fun y => !decide (y ∈ G)).Perm L := by
  refine (List.perm_ext_iff_of_nodup ?_ nL).mpr fun x => ?_
  · rw [List.nodup_append]
    refine ⟨nG, nL.filter _, fun x hx y hy e => ?_⟩
    subst e
    have := (List.mem_filter.mp hy).2
    simp [hx] at this
  · rw [List.mem_append, List.mem_filter]
    constructor
    · rintro (h | h)
      · exact sub x h
      · exact h.1
    · intro h
      by_cases g : x ∈ G
      · exact .inl g
      · exact .inr ⟨h, by simp [g]⟩
theorem filt_keys (F : List (Nat × V)) (p : Nat → Bool) : (F.filter fun e => p e.1).map (·.1) = (F.map (·.1)).filter p := by
  rw [List.filter_map]
  rfl
/-- rows that stand, none of them at pg -/
def RowsN [Sg] (K : PySem.W.Frag) (H : Hp) (pg : Addr) (GR : List RowL) : Prop := ∀ z ∈ GR, z.1 ≠ pg ∧ H z.1 = some (.lst (z.2.map (·.2))) ∧ LAt K H z.2
section
variable [Sg] {K : PySem.W.Frag} {H H1 H' H2 : Hp} {pg pl : Addr} {GR : List RowL} {LL : List (Nat × V)} {ks : List Nat} {r : Nat → Nat → Bool}
theorem RowsN.same (s : Same H H') (h : RowsN K H pg GR) : RowsN K H' pg GR := fun z hz => by
  obtain ⟨h1, h2, h3⟩ := h z hz
  exact ⟨h1, s _ _ h2, h3.ts (ts_same s)⟩
theorem RowsN.app (h : RowsN K H pg GR) {xs ys : List V} (hg : H pg = some (.lst xs)) {z : RowL} (nz : z.1 ≠ pg) (hz : H z.1 = some (.lst (z.2.map (·.2)))) (lz : LAt K H z.2) : RowsN K (upd H pg (.lst ys)) pg (GR ++ [z]) := fun y hy => by
  have t := ts_lst (K := K) (o := .lst ys) hg
  rcases List.mem_append.mp hy with e | e
  · obtain ⟨h1, h2, h3⟩ := h y e
    exact ⟨h1, (upd_ne h1).trans h2, h3.ts t⟩
  · rw [List.mem_singleton.mp e]
    exact ⟨nz, (upd_ne nz).trans hz, lz.ts t⟩
theorem RowsN.at (h : RowsN K H pg GR) : RowsAt K H GR := fun z hz => ⟨SqL.of (h z hz).2.1, (h z hz).2.2⟩
/-- the groups being made -/
structure J1 (K : PySem.W.Frag) (r : Nat → Nat → Bool) (ks : List Nat) (H H' : Hp) (pl pg : Addr) (LL : List (Nat × V)) (GR : List RowL) : Prop where
  sm : Same H H'
  g0 : H pg = none
  hl : H' pl = some (.lst (LL.map (·.2)))
  ne : pl ≠ pg
  hg : H' pg = some (.lst (GR.map fun z => V.ref z.1))
  rw : RowsN K H' pg GR
  la : LAt K H' LL
  nd : (LL.map (·.1)).Nodup
  perm : ((keysF GR).flatten ++ LL.map (·.1)).Perm ks
  cn : ∀ A ∈ keysF GR, A ≠ [] ∧ Conn r A
  c1 : ∀ A ∈ keysF GR, ∀ a ∈ A, ∀ y ∈ LL.map (·.1), r a y = true ∨ r y a = true
  c2 : (keysF GR).Pairwise fun A B => ∀ a ∈ A, ∀ b ∈ B, r a b = true ∨ r b a = true
  ln : GR.length + LL.length ≤ 10
theorem J1.same (f : J1 K r ks H H1 pl pg LL GR) (s : Same H1 H2) : J1 K r ks H H2 pl pg LL GR :=
  ⟨same_trans f.sm s, f.g0, s _ _ f.hl, f.ne, s _ _ f.hg, f.rw.same s, f.la.ts (ts_same s), f.nd, f.perm, f.cn, f.c1, f.c2, f.ln⟩
theorem keysF_app (GR : List RowL) (z : RowL) : keysF (GR ++ [z]) = keysF GR ++ [z.2.map (·.1)] := by
  unfold keysF
  rw [List.map_append]
  rfl
/-- a group more, the others left -/
theorem J1.next (f : J1 K r ks H H1 pl pg LL GR) {z : RowL} (nz : z.1 ≠ pg) (hz : H1 z.1 = some (.lst (z.2.map (·.2)))) (lz : LAt K H1 z.2) (ndz : (z.2.map (·.1)).Nodup) (nz0 : z.2 ≠ []) (cz : Conn r (z.2.map (·.1))) (sub : ∀ x ∈ z.2.map (·.1), x ∈ LL.map (·.1))
    (clo : ∀ y ∈ LL.map (·.1), y ∉ z.2.map (·.1) → ∀ x ∈ z.2.map (·.1), r x y = true ∨ r y x = true) {D : Addr} (s : Same (upd H1 pg (.lst ((GR.map fun z => V.ref z.1) ++ [.ref z.1]))) H2) (nD : upd H1 pg (.lst ((GR.map fun z => V.ref z.1) ++ [.ref z.1])) D = none)
    (hD : H2 D = some (.lst ((LL.filter fun e => !decide (e.1 ∈ z.2.map (·.1))).map (·.2)))) :
    J1 K r ks H H2 D pg (LL.filter fun e => !decide (e.1 ∈ z.2.map (·.1))) (GR ++ [z]) := by
  have t := ts_lst (K := K) (o := .lst ((GR.map fun z => V.ref z.1) ++ [V.ref z.1])) f.hg
  have ha := f.rw.app (ys := (GR.map fun z => V.ref z.1) ++ [V.ref z.1]) f.hg nz hz lz
  have hpg : upd H1 pg (.lst ((GR.map fun z => V.ref z.1) ++ [V.ref z.1])) pg = some (.lst ((GR.map fun z => V.ref z.1) ++ [V.ref z.1])) := upd_same
  have sm1 : Same H (upd H1 pg (.lst ((GR.map fun z => V.ref z.1) ++ [V.ref z.1]))) := same_upd f.g0 f.sm
  generalize upd H1 pg (.lst ((GR.map fun z => V.ref z.1) ++ [V.ref z.1])) = H1' at *
  have ek := filt_keys LL (fun y => !decide (y ∈ z.2.map (·.1)))
  have sp := split_perm f.nd ndz sub
  have lk := sp.length_eq
  rw [← ek, List.length_append, List.length_map, List.length_map, List.length_map] at lk
  have lz1 : 0 < z.2.length := List.length_pos_iff.mpr nz0
  refine ⟨same_trans sm1 s, f.g0, hD, fun e => ?_, by rw [s _ _ hpg, List.map_append]; rfl, ha.same s, fun e he => ?_, ?_, ?_, fun A hA => ?_, fun A hA a ha' y hy => ?_, ?_, ?_⟩
  · rw [e, hpg] at nD
    cases nD
  · exact ln_ts (t.trans (ts_same s)) (f.la e (List.mem_filter.mp he).1)
  · rw [ek]
    exact f.nd.filter _
  · rw [keysF_app, List.flatten_append, ek, List.append_assoc]
    refine List.Perm.trans (List.Perm.append_left _ ?_) f.perm
    simpa using sp
  · rw [keysF_app] at hA
    rcases List.mem_append.mp hA with h | h
    · exact f.cn A h
    · rw [List.mem_singleton.mp h]
      exact ⟨fun e => nz0 (List.map_eq_nil_iff.mp e), cz⟩
  · rw [keysF_app] at hA
    rw [ek] at hy
    obtain ⟨y1, y2⟩ := List.mem_filter.mp hy
    rcases List.mem_append.mp hA with h | h
    · exact f.c1 A h a ha' y y1
    · rw [List.mem_singleton.mp h] at ha'
      exact clo y y1 (by simpa using y2) a ha'
  · rw [keysF_app, List.pairwise_append]
    refine ⟨f.c2, List.pairwise_singleton _ _, fun A hA B hB a ha' b hb => ?_⟩
    rw [List.mem_singleton.mp hB] at hb
    exact f.c1 A hA a ha' b (sub b hb)
  · rw [List.length_append]
    have := f.ln
    show GR.length + 1 + _ ≤ 10
    omega
end
end K12
/-! rows in order: what _law_blocks keeps in its second half -/
namespace K12
open PySem PySem.Spec PyProof.Rows L2 TR QR
open GX (KT kd kdAll RS TSt dNO KeysAt)
open MB
section
variable [Sg] {K : PySem.W.Frag} {H H1 H' H2 : Hp} {r : Nat → Nat → Bool} {ks : List Nat}
/-- a row being made out of the rest -/
structure RJ (K : PySem.W.Frag) (r : Nat → Nat → Bool) (ks : List Nat) (H H' : Hp) (ps po : Addr) (LL GG : List (Nat × V)) : Prop where
  sm : Same H H'
  p0 : H ps = none
  o0 : H po = none
  ne : ps ≠ po
  hp : H' ps = some (.lst (LL.map (·.2)))
  ho : H' po = some (.lst (GG.map (·.2)))
  lp : LAt K H' LL
  lo : LAt K H' GG
  nd : (LL.map (·.1)).Nodup
  perm : (GG.map (·.1) ++ LL.map (·.1)).Perm ks
  pk : ∀ B, B.Perm (LL.map (·.1)) → Picked r B → Picked r (GG.map (·.1) ++ B)
theorem RJ.same {ps po : Addr} {LL GG : List (Nat × V)} (f : RJ K r ks H H1 ps po LL GG) (s : Same H1 H2) : RJ K r ks H H2 ps po LL GG :=
  ⟨same_trans f.sm s, f.p0, f.o0, f.ne, s _ _ f.hp, s _ _ f.ho, f.lp.ts (ts_same s), f.lo.ts (ts_same s), f.nd, f.perm, f.pk⟩
theorem RJ.step {ps po : Addr} {G1 G2 GG : List (Nat × V)} {e : Nat × V} (f : RJ K r ks H H' ps po (G1 ++ e :: G2) GG) (h1 : ∀ j ∈ (G1 ++ e :: G2).map (·.1), r j e.1 = false) (h2 : ∀ x ∈ (G1 ++ e :: G2).map (·.1), (∀ j ∈ (G1 ++ e :: G2).map (·.1), r j x = false) → e.1 ≤ x) :
    RJ K r ks H (upd (upd H' po (.lst (GG.map (·.2) ++ [e.2]))) ps (.lst ((G1 ++ G2).map (·.2)))) ps po (G1 ++ G2) (GG ++ [e]) := by
  have t1 := ts_lst (K := K) (o := .lst (GG.map (·.2) ++ [e.2])) f.ho
  have hp1 : upd H' po (.lst (GG.map (·.2) ++ [e.2])) ps = some (.lst ((G1 ++ e :: G2).map (·.2))) := (upd_ne f.ne).trans f.hp
  have t := t1.trans (ts_lst (K := K) (o := .lst ((G1 ++ G2).map (·.2))) hp1)
  have em : (G1 ++ e :: G2).map (·.1) = G1.map (·.1) ++ e.1 :: G2.map (·.1) := by
    rw [List.map_append, List.map_cons]
  have pp : ((G1 ++ e :: G2).map (·.1)).Perm (e.1 :: (G1 ++ G2).map (·.1)) := by
    rw [em, List.map_append]
    exact List.perm_middle
  refine ⟨same_upd f.p0 (same_upd f.o0 f.sm), f.p0, f.o0, f.ne, upd_same, (upd_ne (Ne.symm f.ne)).trans (by rw [upd_same, List.map_append]; rfl), fun y hy => ?_, fun y hy => ?_, ?_, ?_, fun B hB hP => ?_⟩
  · refine ln_ts t (f.lp y ?_)
    rcases List.mem_append.mp hy with h | h
    · exact List.mem_append_left _ h
    · exact List.mem_append_right _ (List.mem_cons_of_mem _ h)
  · rcases List.mem_append.mp hy with h | h
    · exact ln_ts t (f.lo y h)
    · rw [List.mem_singleton.mp h]
      exact ln_ts t (f.lp e (List.mem_append_right _ List.mem_cons_self))
  · have := pp.nodup_iff.mp f.nd
    exact (List.nodup_cons.mp this).2
  · refine List.Perm.trans ?_ f.perm
    rw [List.map_append (l₁ := GG), List.append_assoc]
    exact List.Perm.append_left _ pp.symm
  · rw [List.map_append (l₁ := GG), List.append_assoc]
    have back : ∀ j, j ∈ (G1 ++ e :: G2).map (·.1) → j ∈ e.1 :: B := fun j hj => by
      rcases List.mem_cons.mp (pp.mem_iff.mp hj) with h | h
      · rw [h]
        exact List.mem_cons_self
      · exact List.mem_cons_of_mem _ (hB.mem_iff.mpr h)
    refine f.pk _ ((List.Perm.cons e.1 hB).trans pp.symm) (.cons (fun y hy => ?_) (fun x hx hy => ?_) hP)
    · refine h1 y (pp.symm.mem_iff.mp ?_)
      rcases List.mem_cons.mp hy with rfl | hy
      · exact List.mem_cons_self
      · exact List.mem_cons_of_mem _ (hB.mem_iff.mp hy)
    · exact h2 x (pp.symm.mem_iff.mp (List.mem_cons_of_mem _ (hB.mem_iff.mp hx))) fun j hj => hy j (back j hj)
/-- rows that are made, groups that are left -/
structure J2 (K : PySem.W.Frag) (r : Nat → Nat → Bool) (G0 : List (List Nat)) (H H' : Hp) (pq pf : Addr) (SS FF : List RowL) (OG : List (List Nat)) : Prop where
  sm : Same H H'
  f0 : H pf = none
  hq : H' pq = some (.lst (SS.map fun z => V.ref z.1))
  ne : pq ≠ pf
  hf : H' pf = some (.lst (FF.map fun z => V.ref z.1))
  rs : RowsN K H' pf SS
  rf : RowsN K H' pf FF
  sr : SameR (keysF FF) OG
  perm : (OG ++ keysF SS).Perm G0
  ord : OG.Pairwise (Bef r)
  bef : ∀ A ∈ OG, ∀ B ∈ keysF SS, Bef r A B
  pick : ∀ A ∈ keysF FF, Picked r A
  ln : FF.length + SS.length ≤ 10
theorem J2.same {pq pf : Addr} {SS FF : List RowL} {G0 OG : List (List Nat)} (f : J2 K r G0 H H1 pq pf SS FF OG) (s : Same H1 H2) : J2 K r G0 H H2 pq pf SS FF OG :=
  ⟨same_trans f.sm s, f.f0, s _ _ f.hq, f.ne, s _ _ f.hf, f.rs.same s, f.rf.same s, f.sr, f.perm, f.ord, f.bef, f.pick, f.ln⟩
theorem J2.next {pq pf : Addr} {SS FF : List RowL} {G0 OG : List (List Nat)} (f : J2 K r G0 H H1 pq pf SS FF OG) {zf : RowL} (hz : zf ∈ SS) (mn : ∀ B ∈ keysF SS, B = zf.2.map (·.1) ∨ Bef r (zf.2.map (·.1)) B) (nd0 : G0.Nodup) (s : Same H1 H2) {D : Addr} (nD : H1 D = none)
    (hD : H2 D = some (.lst ((SS.filter fun z => decide (z.2.map (·.1) ≠ zf.2.map (·.1))).map fun z => V.ref z.1))) {po : Addr} {GG : List (Nat × V)} (npo : H1 po = none) (hpo : H2 po = some (.lst (GG.map (·.2)))) (lo : LAt K H2 GG) (pg : (GG.map (·.1)).Perm (zf.2.map (·.1))) (pk : Picked r (GG.map (·.1))) :
    J2 K r G0 H (upd H2 pf (.lst ((FF.map fun z => V.ref z.1) ++ [.ref po]))) D pf (SS.filter fun z => decide (z.2.map (·.1) ≠ zf.2.map (·.1))) (FF ++ [(po, GG)]) (OG ++ [zf.2.map (·.1)]) := by
  have f2 := f.same s
  have t := ts_lst (K := K) (o := .lst ((FF.map fun z => V.ref z.1) ++ [V.ref po])) f2.hf
  have nDf : D ≠ pf := fun e => by rw [e, f.hf] at nD; cases nD
  have nof : po ≠ pf := fun e => by rw [e, f.hf] at npo; cases npo
  have ek : keysF (SS.filter fun z => decide (z.2.map (·.1) ≠ zf.2.map (·.1))) = (keysF SS).filter fun x => decide (x ≠ zf.2.map (·.1)) := by
    unfold keysF
    rw [List.filter_map]
    rfl
  have ndS : (keysF SS).Nodup := (List.nodup_append.mp (f.perm.nodup_iff.mpr nd0)).2.1
  have hzk : zf.2.map (·.1) ∈ keysF SS := List.mem_map.mpr ⟨zf, hz, rfl⟩
  have pp := perm_ne ndS hzk
  have pl := pp.length_eq
  rw [List.length_cons, ← ek] at pl
  unfold keysF at pl
  rw [List.length_map, List.length_map] at pl
  refine ⟨same_upd f.f0 f2.sm, f.f0, (upd_ne nDf).trans hD, nDf, by rw [upd_same, List.map_append]; rfl, fun z hz' => ?_, f2.rf.app f2.hf nof hpo lo, ?_, ?_, ?_, fun A hA B hB => ?_, fun A hA => ?_, ?_⟩
  · obtain ⟨h1, h2, h3⟩ := f2.rs z (List.mem_filter.mp hz').1
    exact ⟨h1, (upd_ne h1).trans h2, h3.ts t⟩
  · rw [keysF_app]
    exact f.sr.app pg
  · rw [ek, List.append_assoc]
    exact (List.Perm.append_left OG pp.symm).trans f.perm
  · rw [List.pairwise_append]
    refine ⟨f.ord, List.pairwise_singleton _ _, fun A hA B hB => ?_⟩
    rw [List.mem_singleton.mp hB]
    exact f.bef A hA _ hzk
  · rw [ek] at hB
    obtain ⟨b1, b2⟩ := List.mem_filter.mp hB
    rcases List.mem_append.mp hA with h | h
    · exact f.bef A h B b1
    · rw [List.mem_singleton.mp h]
      exact (mn B b1).resolve_left (of_decide_eq_true b2)
  · rw [keysF_app] at hA
    rcases List.mem_append.mp hA with h | h
    · exact f.pick A h
    · rw [List.mem_singleton.mp h]
      exact pk
  · rw [List.length_append]
    have := f.ln
    show FF.length + 1 + _ ≤ 10
    omega
end
end K12
namespace K12
open PySem PySem.Spec PyProof.Rows L2 TR QR
open GX (KT kd kdAll RS TSt dNO KeysAt)
open PySem.W (dataLt dataLe alike alikeAll AllAlike Sortable)
open MB
section
variable [Sg]
abbrev sLK : Stmt := topS 33
abbrev nLK : List Str := ["reach", "present", "left", "groups", "group", "turn", "near", "other", "far", "found", "first", "rest", "row", "free", "one"]
theorem scLK : FnScope nLK ["reach", "present"] (defScope sLK) := ⟨rfl, rfl, rfl, by decide +kernel, rfl, by decide +kernel, by decide +kernel⟩
def scFree : Scope := { kind := .function, names := [(Str.ofString ".0", .local), (Str.ofString "one", .cell), (Str.ofString "len", .globalImplicit), (Str.ofString "reach", .free), (Str.ofString "rest", .free)], isGenerator := false, isCoroutine := false, more := [] }
variable {P : Program} {w : World} {K : PySem.W.Frag} {mg : Str → Option Value} {base : Heap}
/-- a group being made of the lines of L -/
structure GJ (K : PySem.W.Frag) (r : Nat → Nat → Bool) (L : List Nat) (H' : Hp) (pn pg : Addr) (GG : List (Nat × V)) : Prop where
  hp : H' pn = some (.lst (GG.map (·.2)))
  ne : pn ≠ pg
  la : LAt K H' GG
  nd : (GG.map (·.1)).Nodup
  n0 : GG ≠ []
  cn : Conn r (GG.map (·.1))
  sub : ∀ x ∈ GG.map (·.1), x ∈ L
theorem GJ.same {r : Nat → Nat → Bool} {L : List Nat} {H1 H2 : Hp} {pn pg : Addr} {GG : List (Nat × V)} (f : GJ K r L H1 pn pg GG) (s : Same H1 H2) : GJ K r L H2 pn pg GG :=
  ⟨s _ _ f.hp, f.ne, f.la.ts (ts_same s), f.nd, f.n0, f.cn, f.sub⟩
theorem asg_of {te : TE} {g : L2.TG} {D : Ends} {σ : L2.St} {H : Hp} (h : te σ H fun x H1 => g x σ H1 D.nx) : tAsg te g D σ H := h
theorem nd_len {F : List (Nat × V)} {L : List Nat} (nd : (F.map (·.1)).Nodup) (sub : ∀ x ∈ F.map (·.1), x ∈ L) : F.length ≤ L.length := by
  have := nat_nodup_len nd sub
  rwa [List.length_map] at this
theorem filt_len {F : List (Nat × V)} {p : Nat → Bool} : 0 < (F.filter fun e => p e.1).length ↔ (F.map (·.1)).any p = true := by
  rw [List.length_pos_iff_exists_mem, List.any_eq_true]
  constructor
  · rintro ⟨e, he⟩
    obtain ⟨h1, h2⟩ := List.mem_filter.mp he
    exact ⟨e.1, List.mem_map.mpr ⟨e, h1, rfl⟩, h2⟩
  · rintro ⟨x, hx, h⟩
    obtain ⟨e, he, rfl⟩ := List.mem_map.mp hx
    exact ⟨e, List.mem_filter.mpr ⟨he, h⟩⟩
theorem test_cb {te c : TE} {r : R2} {rd : List V → Hp → VK → Prop} {σ : L2.St} {H : Hp} {R : Bool → Hp → Prop} (h : te σ H fun v H1 => rd [v] H1 fun x H2 => c σ H2 fun y H3 => r x y H3 fun z H4 => ∃ k, z = .bl k ∧ R k H4) : tTest (tOp r (tCB rd (tCons te tNil)) c) σ H R := h
theorem flat_nd : ∀ {R : List (List Nat)}, R.flatten.Nodup → (∀ A ∈ R, A ≠ []) → R.Nodup ∧ ∀ A ∈ R, A.Nodup
  | [], _, _ => ⟨List.nodup_nil, (fun _ h => nomatch h)⟩
  | A :: R, nd, h0 => by
    rw [List.flatten_cons, List.nodup_append] at nd
    obtain ⟨h1, h2, h3⟩ := nd
    obtain ⟨i1, i2⟩ := flat_nd h2 fun B hB => h0 B (List.mem_cons_of_mem _ hB)
    refine ⟨List.nodup_cons.mpr ⟨fun hA => ?_, i1⟩, fun B hB => ?_⟩
    · obtain ⟨a, ha⟩ := List.exists_mem_of_ne_nil A (h0 A List.mem_cons_self)
      exact h3 a ha a (List.mem_flatten.mpr ⟨A, hA, ha⟩) rfl
    · rcases List.mem_cons.mp hB with rfl | hB
      · exact h1
      · exact i2 B hB
theorem pair_all {S : List Nat → List Nat → Prop} (sy : ∀ A B, S A B → S B A) : ∀ {R : List (List Nat)}, R.Pairwise S → ∀ A ∈ R, ∀ B ∈ R, A ≠ B → S A B
  | [], _, _, h, _, _, _ => nomatch h
  | X :: R, p, A, hA, B, hB, ne => by
    obtain ⟨p1, p2⟩ := List.pairwise_cons.mp p
    rcases List.mem_cons.mp hA with e | hA'
    · rcases List.mem_cons.mp hB with e' | hB'
      · exact absurd (e.trans e'.symm) ne
      · rw [e]
        exact p1 B hB'
    · rcases List.mem_cons.mp hB with e' | hB'
      · rw [e']
        exact sy _ _ (p1 A hA')
      · exact pair_all sy p2 A hA' B hB' ne
def spLK (P : Program) (w : World) (K : PySem.W.Frag) : Sp := fun vs H Q _ => ∃ (r l : Addr) (R : Nat → Nat → Prop) (rR : Nat → Nat → Bool) (F : List (Nat × V)), vs = [.ref r, .ref l] ∧ RchAt P w K H r R ∧ (∀ i j, rR i j = true ↔ R i j ∧ ¬ R j i) ∧ SO rR ∧ SqL K H l (F.map (·.2)) ∧ LAt K H F ∧ (F.map (·.1)).Nodup ∧ F.length ≤ 10 ∧
  ∀ p H' FF, Same H H' → H p = none → H' p = some (.lst (FF.map fun z => V.ref z.1)) → (∀ z ∈ FF, H' z.1 = some (.lst (z.2.map (·.2)))) → RowsAt K H' FF → Rows rR (F.map (·.1)) (keysF FF) → (∀ A ∈ keysF FF, Picked rR A) → Q (.ref p) H'
theorem ok_LK {f fLS : Addr} {fd fdLS : FuncData} (F : Fun K "_law_blocks" "_law_blocks" sLK f fd)
    (GLS : FnOk P w K mg base CX0 2 fLS fdLS ["reach", "one", "other"] (spLS P w K)) (bLS : Binds K fdLS ["reach", "one", "other"] []) (gLS : mg "_law_strictly" = some (.ref fLS)) (kLS : PySem.W.keepIn K (.ref fLS) = true)
    (m_len : mg "len" = none) (m_range : mg "range" = none) (m_min : mg "min" = none) (m_list : mg "list" = none) (m_sorted : mg "sorted" = none) : FnOk P w K mg base CX0 3 f fd ["reach", "present"] (spLK P w K) := by
  refine F.ok scLK (fun vs H Q E h => ?_) (fun cdv A outer s H vs Q E hr h => ?_)
  · obtain ⟨r, l, R, rR, F, rfl, _⟩ := h
    rfl
  · obtain ⟨r, l, R, rR, F, rfl, hR, hrR, so, hl, hF, nd, lF, q⟩ := h
    have hu := hr.units
    have hu1 := hu_of hr
    have hr1 : Room 1 _ := hr.mono (by decide)
    have hr2 : Room 2 _ := hr.mono (by decide)
    have zl := zl
    refine ⟨_, (pss_cons (ps_set (i := 2) scLK.nd rfl (.inl rfl) (pe_callB (GX.cr_sortedD hu) (by rfl) m_sorted (by decide +kernel) (pa_cons (pv 1) pa_nil)))
      (pss_cons (ps_set (i := 3) scLK.nd rfl (.inl rfl) (pe_lst (pa_nil)))
      (pss_cons (ps_while PassesOwn.never (pt_cmpR op_gt (pe_callB call_len_seq (by rfl) m_len PySem.boot_len (pa_cons (pv 2) pa_nil)) (pe_int) (nomark _))
      (pss_cons (ps_set (i := 4) scLK.nd rfl (.inr rfl) (pe_lst (pa_cons (pe_ix ix_list (pv 2) (pe_int) (fun _ _ => rfl)) pa_nil)))
      (pss_cons (ps_for PassesOwn.never rfl (pi_range1 (by rfl) m_range (pa_cons (pe_callB call_len_seq (by rfl) m_len PySem.boot_len (pa_cons (pv 2) pa_nil)) pa_nil)) (pg_name (i := 5) scLK.nd rfl (.inl rfl))
      (pss_cons (ps_set (i := 6) scLK.nd rfl (.inl rfl) (pe_lst (pa_nil)))
      (pss_cons (ps_for PassesOwn.never rfl (pi_list (pv 2)) (pg_name (i := 7) scLK.nd rfl (.inr rfl))
      (pss_cons (ps_setLc (i := 8) (own := [("one", 14)]) (g := gName 14) (tt := tAnd (tNot (tB (tCall (spLS P w K) [] E0 (tCons (tVar 0) (tCons (tVar 14) (tCons (tVar 7) tNil)))))) (tNot (tB (tCall (spLS P w K) [] E0 (tCons (tVar 0) (tCons (tVar 7) (tCons (tVar 14) tNil))))))) (te := tVar 14) rfl scLK.nd rfl rfl (sw_true rfl rfl rfl (by decide +kernel)) (pi_list (pv 4)) (blkOk_by (N := nLK) (sc := defScope sLK) (by decide +kernel)) (fun _ _ _ _ _ => by exact pg_name (i := 14) scLK.nd rfl (.inl rfl)) (fun _ _ _ _ _ => by exact pts_one (PW.pt (pw_and (pt_not (pt_val (pe_call GLS hr2 (by rfl) gLS kLS bLS .nil pass0 (pa_cons (pv 0) (pa_cons (pv 14) (pa_cons (pv 7) pa_nil)))))) (pw_and1 (pt_not (pt_val (pe_call GLS hr2 (by rfl) gLS kLS bLS .nil pass0 (pa_cons (pv 0) (pa_cons (pv 7) (pa_cons (pv 14) pa_nil)))))))))) (fun _ _ _ _ _ => by exact pv 14))
      (pss_one (ps_if (PW.pt (pw_and (pt_cmpR (GX.op_notInP hu) (pv 7) (pv 4) (by rfl)) (pw_and1 (pt_cmpR op_gt (pe_callB call_len_seq (by rfl) m_len PySem.boot_len (pa_cons (pv 8) pa_nil)) (pe_int) (nomark _)))))
      (pss_one (ps_expr (pe_bm PySem.F.plainAttrs_list PySem.F.slot_list_append PySem.F.type_list_append mt_append (pv 6) (pa_cons (pv 7) pa_nil)))) pss_nil))))
      (pss_cons (ps_if (pt_cmpR op_eq (pe_callB call_len_seq (by rfl) m_len PySem.boot_len (pa_cons (pv 6) pa_nil)) (pe_int) (nomark _))
      (pss_one (ps_break)) pss_nil)
      (pss_one (ps_set (i := 4) scLK.nd rfl (.inr rfl) (pe_op op_cat (pv 4) (pv 6))))))))
      (pss_cons (ps_expr (pe_bm PySem.F.plainAttrs_list PySem.F.slot_list_append PySem.F.type_list_append mt_append (pv 3) (pa_cons (pv 4) pa_nil)))
      (pss_one (ps_setLc (i := 2) (own := [("one", 14)]) (g := gName 14) (tt := tTest (tOp (GX.rNotInP K) (tVar 14) (tVar 4))) (te := tVar 14) rfl scLK.nd rfl rfl (sw_true rfl rfl rfl (by decide +kernel)) (pi_list (pv 2)) (blkOk_by (N := nLK) (sc := defScope sLK) (by decide +kernel)) (fun _ _ _ _ _ => by exact pg_name (i := 14) scLK.nd rfl (.inl rfl)) (fun _ _ _ _ _ => by exact pts_one (pt_cmpR (GX.op_notInP hu) (pv 14) (pv 4) (by rfl))) (fun _ _ _ _ _ => by exact pv 14)))))))
      (pss_cons (ps_set (i := 9) scLK.nd rfl (.inl rfl) (pe_lst (pa_nil)))
      (pss_cons (ps_while PassesOwn.never (pt_cmpR op_gt (pe_callB call_len_seq (by rfl) m_len PySem.boot_len (pa_cons (pv 3) pa_nil)) (pe_int) (nomark _))
      (pss_cons (ps_set (i := 10) scLK.nd rfl (.inr rfl) (pe_ix ix_list (pv 3) (pe_int) (fun _ _ => rfl)))
      (pss_cons (ps_for PassesOwn.never rfl (pi_list (pv 3)) (pg_name (i := 4) scLK.nd rfl (.inr rfl))
      (pss_one (ps_if (PW.pt (pw_and (pt_cmpR (op_neP hu) (pv 4) (pv 10) (nomark _)) (pw_and1 (pt_val (pe_call GLS hr2 (by rfl) gLS kLS bLS .nil pass0 (pa_cons (pv 0) (pa_cons (pe_ix ix_list (pv 4) (pe_int) (fun _ _ => rfl)) (pa_cons (pe_ix ix_list (pv 10) (pe_int) (fun _ _ => rfl)) pa_nil))))))))
      (pss_one (ps_set (i := 10) scLK.nd rfl (.inr rfl) (pv 4))) pss_nil)))
      (pss_cons (ps_setLc (i := 3) (own := [("group", 4)]) (g := gName 4) (tt := tTest (tOp (rNeP K) (tVar 4) (tVar 10))) (te := tVar 4) rfl scLK.nd rfl rfl (sw_true rfl rfl rfl (by decide +kernel)) (pi_list (pv 3)) (blkOk_by (N := nLK) (sc := defScope sLK) (by decide +kernel)) (fun _ _ _ _ _ => by exact pg_name (i := 4) scLK.nd rfl (.inl rfl)) (fun _ _ _ _ _ => by exact pts_one (pt_cmpR (op_neP hu) (pv 4) (pv 10) (nomark _))) (fun _ _ _ _ _ => by exact pv 4))
      (pss_cons (ps_set (i := 11) scLK.nd rfl (.inr rfl) (pe_callTy call_list_of (by rfl) m_list (by decide +kernel) (pa_cons (pv 10) pa_nil)))
      (pss_cons (ps_set (i := 12) scLK.nd rfl (.inl rfl) (pe_lst (pa_nil)))
      (pss_cons (ps_while PassesOwn.never (pt_cmpR op_gt (pe_callB call_len_seq (by rfl) m_len PySem.boot_len (pa_cons (pv 11) pa_nil)) (pe_int) (nomark _))
      (pss_cons (ps_setLc (i := 13) (own := [("one", 14)]) (g := gName 14) (tt := tTest (tOp rEq (tCB (fun xs H Q => ∃ p ys, xs = [.ref p] ∧ (SqL K H p ys ∨ SqT K H p ys) ∧ Q (.int ys.length) H) (tCons (tLc (iList K (tVar 11)) (gName 7) (tB (tCall (spLS P w K) [] E0 (tCons (tVar 0) (tCons (tVar 7) (tCons (tVar 14) tNil))))) (tVar 7) [7]) tNil)) (tC (.int 0)))) (te := tVar 14) rfl scLK.nd rfl rfl (sw_true rfl rfl rfl (by decide +kernel)) (pi_list (pv 11)) (blkOk_by (N := nLK) (sc := defScope sLK) (by decide +kernel)) (fun _ _ _ _ _ => by exact pg_name (i := 14) scLK.nd rfl (.inr rfl)) (fun _ _ _ _ _ => by exact pts_one (pt_cmpR op_eq (pe_callB call_len_seq (by rfl) m_len PySem.boot_len (pa_cons (pe_lc (own := [("other", 7)]) (g := gName 7) (tt := tB (tCall (spLS P w K) [] E0 (tCons (tVar 0) (tCons (tVar 7) (tCons (tVar 14) tNil))))) (te := tVar 7) rfl scLK.nd (pi_list (pv 11)) (blkOk_by (N := nLK) (sc := relS scFree (defScope sLK)) (by decide +kernel)) (fun _ _ _ _ _ => by exact pg_name (i := 7) scLK.nd rfl (.inl rfl)) (fun _ _ _ _ _ => by exact pts_one (pt_val (pe_call GLS hr2 (by rfl) gLS kLS bLS .nil pass0 (pa_cons (pv 0) (pa_cons (pv 7) (pa_cons (pv 14) pa_nil)))))) (fun _ _ _ _ _ => by exact pv 7)) pa_nil)) (pe_int) (nomark _))) (fun _ _ _ _ _ => by exact pv 14))
      (pss_cons (ps_expr (pe_bm PySem.F.plainAttrs_list PySem.F.slot_list_append PySem.F.type_list_append mt_append (pv 12) (pa_cons (pe_callB (GX.cr_minD rfl hu) (by rfl) m_min (by decide +kernel) (pa_cons (pv 13) pa_nil)) pa_nil)))
      (pss_one (ps_expr (pe_bm PySem.F.plainAttrs_list PySem.F.slot_list_remove PySem.F.type_list_remove (GX.mt_removeD hu) (pv 11) (pa_cons (pe_ix ix_list (pv 12) (pe_un un_neg (pe_int)) (fun _ _ => rfl)) pa_nil)))))))
      (pss_one (ps_expr (pe_bm PySem.F.plainAttrs_list PySem.F.slot_list_append PySem.F.type_list_append mt_append (pv 9) (pa_cons (pv 12) pa_nil)))))))))))
      (pss_one (ps_ret (pv 9)))))))), ?_⟩
    have zb : ∀ (z : Bool) i j, (z = true ↔ (R i j ∧ ¬ R j i)) → z = rR i j := fun z i j h => Bool.eq_iff_iff.mpr (h.trans (hrR i j).symm)
    obtain ⟨al, sa⟩ := able_L (fun e : Nat × V => e.1) F
    refine ⟨_, rfl, l, F.map (fun e : Nat × V => e.2), Nat × V, F, fun e => encL e.1, fun v e => v = e.2 ∧ e ∈ F, rfl, hl, each_ps F (fun _ h => h), fun v b hb => by rw [hb.1]; exact hF _ hb.2, al, sa, fun b _ => Nat.le_trans (dpk b.1) (by decide), fun ys pS hys npS => ?_⟩
    have ey := ps_each hys
    subst ey
    obtain ⟨pF, sF⟩ := sort_L F
    generalize F.mergeSort (dataLe false fun e : Nat × V => encL e.1) = LL at pF sF npS
    have s1 : Same H (upd H pS (.lst (LL.map (·.2)))) := same_new npS
    have hS1 : upd H pS (.lst (LL.map (·.2))) pS = some (.lst (LL.map (·.2))) := upd_same
    have la1 : LAt K (upd H pS (.lst (LL.map (·.2)))) LL := fun e he => ln_ts (ts_same s1) (hF e (pF.mem_iff.mp he))
    generalize upd H pS (.lst (LL.map (·.2))) = H1 at s1 hS1 la1
    refine ⟨Nat.zero_le _, fun pg npg => ?_⟩
    have sg := same_new (o := .lst []) npg
    have neSg : pS ≠ pg := fun e => by rw [e, npg] at hS1; cases hS1
    have lLL : LL.length = F.length := pF.length_eq
    have f0 : J1 K rR (F.map (·.1)) H (upd H1 pg (.lst [])) pS pg LL [] :=
      ⟨same_trans s1 sg, same_none s1 npg, sg _ _ hS1, neSg, upd_same, (fun _ h => nomatch h), la1.ts (ts_same sg), (pF.map _).nodup_iff.mpr nd, pF.map _, (fun _ h => nomatch h), (fun _ h => nomatch h), .nil, by show 0 + LL.length ≤ 10; omega⟩
    generalize upd H1 pg (.lst []) = H2 at f0
    dsimp only [tSeq]
    refine tseq_intro (fun σ' H' => ∃ (pl : Addr) (y4 y5 y6 y7 y8 : Option V) (GR : List RowL), σ' = [some (.ref r), some (.ref l), some (.ref pl), some (.ref pg), y4, y5, y6, y7, y8, none, none, none, none, none, none] ∧ J1 K rR (F.map (·.1)) H H' pl pg [] GR) ?_ fun N hN => ?_
    · clear f0 hS1 la1 s1 sg neSg lLL pF sF npg npS hys LL H2 H1
      rintro σ' H3 ⟨pl, y4, y5, y6, y7, y8, GR, rfl, f⟩
      have hpm := f.perm
      rw [List.map_nil, List.append_nil] at hpm
      obtain ⟨nd0, ndA⟩ := flat_nd (hpm.nodup_iff.mpr nd) fun A hA => (f.cn A hA).1
      have cn := f.cn
      have befS : ∀ A ∈ keysF GR, ∀ B ∈ keysF GR, A ≠ B → Bef rR A B ∨ Bef rR B A := fun A hA B hB ne =>
        sides so (cn A hA).2 (cn B hB).2 (cn A hA).1 (pair_all (S := fun A B => ∀ a ∈ A, ∀ b ∈ B, rR a b = true ∨ rR b a = true) (fun A B h b hb a ha => (h a ha b hb).symm) f.c2 A hA B hB ne)
      have tr : ∀ A B D, B ∈ keysF GR → Bef rR A B → Bef rR B D → Bef rR A D := fun A B D hB h1 h2 a ha d hd => by
        obtain ⟨b, hb⟩ := List.exists_mem_of_ne_nil B (cn B hB).1
        exact so.trans a b d (h1 a ha b hb) (h2 b hb d hd)
      refine ⟨Nat.zero_le _, fun pf npf => ?_⟩
      have s3 := same_new (o := .lst []) npf
      have g0 : J2 K rR (keysF GR) H (upd H3 pf (.lst [])) pg pf GR [] [] := by
        refine ⟨same_trans f.sm s3, same_none f.sm npf, s3 _ _ f.hg, fun e => ?_, upd_same, fun z hz => ?_, (fun _ h => nomatch h), .nil, .refl _, .nil, (fun _ h => nomatch h), (fun _ h => nomatch h), ?_⟩
        · have := f.hg
          rw [e, npf] at this
          cases this
        · obtain ⟨h1, h2, h3⟩ := f.rw z hz
          exact ⟨(fun e => by rw [e, npf] at h2; cases h2), s3 _ _ h2, h3.ts (ts_same s3)⟩
        · have := f.ln
          show 0 + GR.length ≤ 10
          omega
      have ln0 := f.ln
      clear f s3
      generalize upd H3 pf (.lst []) = H4 at g0
      clear npf H3
      generalize keysF GR = G0 at *
      refine ⟨fun m σ' H' => ∃ (pq : Addr) (y4 y10 y11 y12 y13 : Option V) (SS FF : List RowL) (OG : List (List Nat)), σ' = [some (.ref r), some (.ref l), some (.ref pl), some (.ref pq), y4, y5, y6, y7, y8, some (.ref pf), y10, y11, y12, y13, none] ∧ m = SS.length ∧ J2 K rR G0 H H' pq pf SS FF OG,
        ⟨_, pg, y4, none, none, none, none, GR, [], [], rfl, rfl, g0⟩, ?_⟩
      clear g0 ln0 GR H4 y4
      rintro m σ' H4 ⟨pq, y4, y10, y11, y12, y13, SS, FF, OG, rfl, rfl, f⟩
      refine ⟨_, rfl, pq, _, rfl, .inl (SqL.of f.hq), _, _, rfl, rfl, _, rfl, ite2 (fun c1 => ?_) (fun c1 => ?_)⟩
      · refine ⟨fun σ' H' => ∃ m', m' < SS.length ∧ ∃ (pq : Addr) (y4 y10 y11 y12 y13 : Option V) (SS FF : List RowL) (OG : List (List Nat)), σ' = [some (.ref r), some (.ref l), some (.ref pl), some (.ref pq), y4, y5, y6, y7, y8, some (.ref pf), y10, y11, y12, y13, none] ∧ m' = SS.length ∧ J2 K rR G0 H H' pq pf SS FF OG, fun _ _ z => z, ?_⟩
        have hS0 : 0 < SS.length := by
          have := of_decide_eq_true c1
          rw [List.length_map] at this
          omega
        have inG : ∀ z ∈ SS, z.2.map (·.1) ∈ G0 := fun z hz => f.perm.mem_iff.mp (List.mem_append_right _ (List.mem_map.mpr ⟨z, hz, rfl⟩))
        obtain ⟨z0, hz0⟩ : ∃ z0, SS[0]? = some z0 := ⟨_, List.getElem?_eq_getElem hS0⟩
        have hz0' : (SS.map fun z => V.ref z.1)[0]? = some (.ref z0.1) := by rw [List.getElem?_map, hz0]; rfl
        refine ⟨_, rfl, pq, _, 0, .ref z0.1, rfl, rfl, SqL.of f.hq, atI_nat (j := 0) hz0', ?_⟩
        dsimp only [gName]
        refine tseq_intro (fun σ' H' => ∃ (y4 : Option V) (zf : RowL), σ' = [some (.ref r), some (.ref l), some (.ref pl), some (.ref pq), y4, y5, y6, y7, y8, some (.ref pf), some (.ref zf.1), y11, y12, y13, none] ∧ H' = H4 ∧ zf ∈ SS ∧ ∀ B ∈ keysF SS, B = zf.2.map (·.1) ∨ Bef rR (zf.2.map (·.1)) B) ?_ fun N2 hN2 => ?_
        · rintro σ' H' ⟨y4, zf, rfl, rfl, hzf, mn⟩
          obtain ⟨_, hf1, hf2⟩ := f.rs zf hzf
          have eF : (SS.map fun z : RowL => (z, V.ref z.1)).map (·.2) = SS.map fun z => V.ref z.1 := by rw [List.map_map]; rfl
          refine asg_seq ?_
          refine lcf (i := 3) (j := 4) (SS.map fun z : RowL => (z, V.ref z.1)) (fun z => decide (z.2.map (·.1) ≠ zf.2.map (·.1))) (by rw [eF]; exact SqL.of f.hq) (by rw [List.length_map]; have := f.ln; omega) rfl (by intro _; rfl) (by intro _; rfl) (fun e he H7 Rk s7 hRk => ?_) (fun D H5 s5 nD hD => ?_)
          · obtain ⟨z, hz, rfl⟩ := List.mem_map.mp he
            obtain ⟨_, hz1, hz2⟩ := f.rs z hz
            have dz := dp_ls (K := K) (SqL.of (s7 _ _ hz1)) (hz2.ts (ts_same s7))
            have df := dp_ls (K := K) (SqL.of (s7 _ _ hf1)) (hf2.ts (ts_same s7))
            refine ⟨_, rfl, _, rfl, _, _, dz, df, lsD_plain _, lsD_plain _, Nat.le_trans (lsD_dep _) (by decide), _, rfl, ?_⟩
            rw [eqv_ls, ← decide_not]
            exact hRk _ same_refl
          · have eD : ((SS.map fun z : RowL => (z, V.ref z.1)).filter fun e => decide (e.1.2.map (·.1) ≠ zf.2.map (·.1))).map (·.2) = (SS.filter fun z => decide (z.2.map (·.1) ≠ zf.2.map (·.1))).map fun z => V.ref z.1 := by
              rw [List.filter_map, List.map_map]
              rfl
            rw [eD] at hD
            have hf5 := s5 _ _ hf1
            dsimp only [gName]
            refine ⟨_, rfl, zf.1, _, rfl, .inl (SqL.of hf5), fun ps nps => ?_⟩
            have sps := same_new (o := .lst (zf.2.map (·.2))) nps
            refine ⟨Nat.zero_le _, fun po npo => ?_⟩
            have spo := same_new (o := .lst []) npo
            have nepo : ps ≠ po := fun e => by rw [← e, upd_same] at npo; cases npo
            have ndz := ndA _ (inG zf hzf)
            have j0 : RJ K rR (zf.2.map (·.1)) H5 (upd (upd H5 ps (.lst (zf.2.map (·.2)))) po (.lst [])) ps po zf.2 [] :=
              ⟨same_trans sps spo, nps, same_none sps npo, nepo, (upd_ne nepo).trans upd_same, upd_same, hf2.ts (ts_same (same_trans s5 (same_trans sps spo))), (fun _ h => nomatch h), ndz, .refl _, fun B _ hB => hB⟩
            have lz : zf.2.length ≤ 10 := by
              have h1 := nd_len ndz (L := F.map (·.1)) fun x hx => hpm.mem_iff.mp (List.mem_flatten.mpr ⟨_, inG zf hzf, hx⟩)
              rw [List.length_map] at h1
              omega
            generalize upd (upd H5 ps (.lst (zf.2.map (·.2)))) po (.lst []) = H6 at j0
            clear sps spo nepo
            dsimp only [gName]
            refine tseq_intro (fun σ' H' => ∃ (y13 : Option V) (GG : List (Nat × V)), σ' = [some (.ref r), some (.ref l), some (.ref pl), some (.ref D), y4, y5, y6, y7, y8, some (.ref pf), some (.ref zf.1), some (.ref ps), some (.ref po), y13, none] ∧ RJ K rR (zf.2.map (·.1)) H5 H' ps po [] GG) ?_ fun N3 hN3 => ?_
            · rintro σ' H7 ⟨y13, GG, rfl, g⟩
              have hp := g.perm
              have hpk := g.pk [] (.refl _) .nil
              rw [List.map_nil, List.append_nil] at hp
              rw [List.append_nil] at hpk
              have s47 := same_trans s5 g.sm
              have f7 := f.same s47
              refine ⟨_, rfl, .inl ⟨rfl, _, SqL.of f7.hf⟩, _, rfl, pf, _, _, rfl, rfl, f7.hf, by rw [List.length_map]; have := f.ln; omega, ?_⟩
              have fz := f.next hzf mn nd0 s47 nD (g.sm _ _ hD) (same_none s5 g.o0) g.ho g.lo hp hpk
              refine ⟨_, ?_, D, y4, _, _, _, _, _, _, _, rfl, rfl, fz⟩
              have h1 := fz.ln
              have h2 := f.ln
              have pp := perm_ne ((List.nodup_append.mp (f.perm.nodup_iff.mpr nd0)).2.1) (List.mem_map.mpr ⟨zf, hzf, rfl⟩ : zf.2.map (·.1) ∈ keysF SS)
              have pl := pp.length_eq
              have ek : keysF (SS.filter fun z => decide (z.2.map (·.1) ≠ zf.2.map (·.1))) = (keysF SS).filter fun x => decide (x ≠ zf.2.map (·.1)) := by
                unfold keysF
                rw [List.filter_map]
                rfl
              rw [List.length_cons, ← ek] at pl
              unfold keysF at pl
              rw [List.length_map, List.length_map] at pl
              omega
            · refine ⟨fun m σ' H' => ∃ (y13 : Option V) (LL GG : List (Nat × V)), σ' = [some (.ref r), some (.ref l), some (.ref pl), some (.ref D), y4, y5, y6, y7, y8, some (.ref pf), some (.ref zf.1), some (.ref ps), some (.ref po), y13, none] ∧ m = LL.length ∧ RJ K rR (zf.2.map (·.1)) H5 H' ps po LL GG,
                ⟨_, y13, zf.2, [], rfl, rfl, j0⟩, ?_⟩
              clear j0 H6
              rintro m σ' H6 ⟨y13, LL, GG, rfl, rfl, g⟩
              refine ⟨_, rfl, ps, _, rfl, .inl (SqL.of g.hp), _, _, rfl, rfl, _, rfl, ite2 (fun c1 => ?_) (fun c1 => ?_)⟩
              · refine ⟨fun σ' H' => ∃ m', m' < LL.length ∧ ∃ (y13 : Option V) (LL GG : List (Nat × V)), σ' = [some (.ref r), some (.ref l), some (.ref pl), some (.ref D), y4, y5, y6, y7, y8, some (.ref pf), some (.ref zf.1), some (.ref ps), some (.ref po), y13, none] ∧ m' = LL.length ∧ RJ K rR (zf.2.map (·.1)) H5 H' ps po LL GG, fun _ _ z => z, ?_⟩
                have hL0 : 0 < LL.length := by
                  have := of_decide_eq_true c1
                  rw [List.length_map] at this
                  omega
                have lGL : GG.length + LL.length ≤ 10 := by
                  have := g.perm.length_eq
                  rw [List.length_append, List.length_map, List.length_map, List.length_map] at this
                  omega
                refine asg_seq ?_
                refine lcf (i := 11) (j := 14) LL (fun y => (LL.map (·.1)).all fun x => !rR x y) (SqL.of g.hp) (by omega) rfl (by intro _; rfl) (by intro _; rfl) (fun e he H7 Rk s7 hRk => ?_) (fun D2 H7 s7 nD2 hD2 => ?_)
                · obtain ⟨k, v⟩ := e
                  have hd := ln_ts (ts_same s7) (g.lp _ he)
                  obtain ⟨a, rfl⟩ := ln_ref hd
                  refine test_cb ?_
                  refine lcf (i := 11) (j := 7) LL (fun x => rR x k) (SqL.of (s7 _ _ g.hp)) (by omega) rfl (by intro _; rfl) (by intro _; rfl) (fun e he H8 Rk2 s8 hRk2 => ?_) (fun D3 H8 s8 nD3 hD3 => ?_)
                  · obtain ⟨k2, v2⟩ := e
                    have s78 := same_trans s7 s8
                    have hd2 := ln_ts (ts_same s78) (g.lp _ he)
                    obtain ⟨a2, rfl⟩ := ln_ref hd2
                    have hd8 := ln_ts (ts_same s8) hd
                    refine ⟨_, rfl, _, rfl, _, rfl, r, a2, a, R, k2, k, rfl, hR.rs (GX.rs_same (same_trans (same_trans (same_trans f.sm s5) g.sm) s78)), hd2, hd8, fun z hz => ⟨z, rfl, ?_⟩⟩
                    obtain rfl := zb z k2 k hz
                    exact hRk2 _ same_refl
                  · refine ⟨D3, _, rfl, .inl (SqL.of hD3), rfl, _, rfl, ?_⟩
                    have e : decide (V.int (((LL.filter fun e => rR e.1 k).map (·.2)).length : Int) = V.int 0) = ((LL.map (·.1)).all fun x => !rR x k) := by
                      rw [Bool.eq_iff_iff, decide_eq_true_iff, List.length_map, List.all_eq_true]
                      constructor
                      · intro h x hx
                        have h := V.int.inj h
                        have hn : (LL.filter fun e => rR e.1 k) = [] := List.length_eq_zero_iff.mp (by omega)
                        obtain ⟨e, he, rfl⟩ := List.mem_map.mp hx
                        have := List.filter_eq_nil_iff.mp hn e he
                        simpa using this
                      · intro h
                        have hn : (LL.filter fun e => rR e.1 k) = [] := List.filter_eq_nil_iff.mpr fun e he => by
                          have := h e.1 (List.mem_map.mpr ⟨e, he, rfl⟩)
                          simpa using this
                        rw [hn]
                        rfl
                    rw [e]
                    exact hRk _ s8
                · have g7 := g.same s7
                  have hne : LL.map (·.1) ≠ [] := fun e => by
                    rw [List.map_eq_nil_iff.mp e] at hL0
                    exact absurd hL0 (by decide)
                  obtain ⟨k0, hk0, hf0⟩ := has_free so hne
                  obtain ⟨e0, he0, rfl⟩ := List.mem_map.mp hk0
                  have isf : ∀ y, ((LL.map (·.1)).all fun x => !rR x y) = true ↔ ∀ x ∈ LL.map (·.1), rR x y = false := fun y => by
                    rw [List.all_eq_true]
                    simp
                  have hmem : ∀ e ∈ LL.filter fun e => (LL.map (·.1)).all fun x => !rR x e.1, e ∈ LL ∧ ∀ x ∈ LL.map (·.1), rR x e.1 = false := fun e he => ⟨(List.mem_filter.mp he).1, (isf _).mp (List.mem_filter.mp he).2⟩
                  have hback : ∀ e ∈ LL, (∀ x ∈ LL.map (·.1), rR x e.1 = false) → e ∈ LL.filter fun e => (LL.map (·.1)).all fun x => !rR x e.1 := fun e he h => List.mem_filter.mpr ⟨he, (isf _).mpr h⟩
                  have lFR : 0 < (LL.filter fun e => (LL.map (·.1)).all fun x => !rR x e.1).length := List.length_pos_of_mem (hback e0 he0 hf0)
                  generalize (LL.filter fun e => (LL.map (·.1)).all fun x => !rR x e.1) = FR at hD2 hmem hback lFR
                  have laF : LAt K H7 FR := fun e he => g7.lp e (hmem e he).1
                  obtain ⟨mk, hm1, hm2⟩ := min_L (FR.map (·.1)) (by rw [List.length_map]; exact lFR)
                  dsimp only [gName]
                  refine ⟨_, rfl, .inl ⟨rfl, _, SqL.of g7.ho⟩, _, rfl, D2, _, _, rfl, SqL.of hD2, dpAll_L laF, by rw [List.length_map]; exact lFR, fun d hd e he => ?_, fun d hd => ?_, fun x hx => ?_⟩
                  · obtain ⟨y, _, rfl⟩ := List.mem_map.mp hd
                    obtain ⟨z, _, rfl⟩ := List.mem_map.mp he
                    exact alike_L _ _
                  · obtain ⟨y, _, rfl⟩ := List.mem_map.mp hd
                    exact ⟨(fun h => nomatch h), dpk y⟩
                  · rw [List.length_map] at hx hm1
                    rw [List.getElem?_map] at hx hm1
                    obtain ⟨⟨k, v⟩, hge, rfl⟩ := Option.map_eq_some_iff.mp hx
                    rw [hge] at hm1
                    obtain rfl := Option.some.inj hm1
                    have hem := List.mem_of_getElem? hge
                    obtain ⟨heL, hfk⟩ := hmem _ hem
                    have hd := g7.lp _ heL
                    obtain ⟨a, rfl⟩ := ln_ref hd
                    obtain ⟨G1, G2, rfl⟩ := List.append_of_mem heL
                    have st := g7.step hfk fun x hx hxf => by
                      obtain ⟨e, he, rfl⟩ := List.mem_map.mp hx
                      exact hm2 _ (List.mem_map.mpr ⟨e, hback e he hxf, rfl⟩)
                    have t7 := ts_lst (K := K) (o := .lst (GG.map (·.2) ++ [V.ref a])) g7.ho
                    have hp8 : upd H7 po (.lst (GG.map (·.2) ++ [V.ref a])) ps = some (.lst ((G1 ++ (k, V.ref a) :: G2).map (·.2))) := (upd_ne g7.ne).trans g7.hp
                    have ho8 : upd H7 po (.lst (GG.map (·.2) ++ [V.ref a])) po = some (.lst (GG.map (·.2) ++ [V.ref a])) := upd_same
                    have egt : ((G1 ++ (k, V.ref a) :: G2).map (·.1))[G1.length]? = some k := by
                      rw [List.map_append, List.getElem?_append_right (by rw [List.length_map]; exact Nat.le_refl _), List.length_map, Nat.sub_self]
                      rfl
                    have eer : ((G1 ++ (k, V.ref a) :: G2).map (·.2)).eraseIdx G1.length = (G1 ++ G2).map (·.2) := by
                      rw [map_erase, List.eraseIdx_append_of_length_le (Nat.le_refl _), Nat.sub_self]
                      rfl
                    refine ⟨po, _, _, rfl, rfl, g7.ho, by rw [List.length_map]; omega, ?_⟩
                    refine ⟨_, rfl, .inl ⟨rfl, _, SqL.of hp8⟩, _, rfl, _, rfl, po, _, _, .ref a, rfl, rfl, SqL.of ho8, atI_last _ _, ps, _, _, _, _, G1.length, rfl, rfl, hp8, dpAll_L fun e he => ln_ts t7 (g7.lp e he), ln_ts t7 hd, plain_Ls _, plain_L _, dpk _, place_L g7.nd egt, ?_⟩
                    rw [eer]
                    exact ⟨(G1 ++ G2).length, by rw [List.length_append, List.length_append, List.length_cons]; omega, some (.ref D2), G1 ++ G2, GG ++ [(k, V.ref a)], rfl, rfl, st⟩
              · have hL : LL = [] := by
                  have : ¬ 0 < (LL.map (·.2)).length := fun h => c1 (decide_eq_true (by omega))
                  rw [List.length_map] at this
                  exact List.length_eq_zero_iff.mp (by omega)
                subst hL
                exact hN3 _ _ ⟨y13, GG, rfl, g⟩
        · refine ⟨_, rfl, pq, rfl, ⟨_, SqL.of f.hq⟩, ?_⟩
          refine for_list (xs := SS.map fun z => V.ref z.1) (fun i σ' H' => ∃ (y4 : Option V) (zf : RowL), σ' = [some (.ref r), some (.ref l), some (.ref pl), some (.ref pq), y4, y5, y6, y7, y8, some (.ref pf), some (.ref zf.1), y11, y12, y13, none] ∧ H' = H4 ∧ zf ∈ SS ∧ ∀ z ∈ SS.take i, z.2.map (·.1) = zf.2.map (·.1) ∨ Bef rR (zf.2.map (·.1)) (z.2.map (·.1))) ⟨y4, z0, rfl, rfl, List.mem_of_getElem? hz0, (fun _ h => nomatch h)⟩ ?_ ?_ ?_
          · rintro i σ' H' _ ⟨_, _, _, rfl, _⟩
            exact SqL.of f.hq
          · rintro i v σ' H' hv ⟨y4, zf, rfl, rfl, hzf, mn⟩
            obtain ⟨z, ge, rfl⟩ := map_get hv
            have hz := List.mem_of_getElem? ge
            have et : SS.take (i + 1) = SS.take i ++ [z] := by rw [List.take_add_one, ge]; rfl
            obtain ⟨_, hz1, hz2⟩ := f.rs z hz
            obtain ⟨_, hf1, hf2⟩ := f.rs zf hzf
            have dz := dp_ls (K := K) (SqL.of hz1) hz2
            have df := dp_ls (K := K) (SqL.of hf1) hf2
            refine ⟨_, rfl, _, rfl, _, _, dz, df, lsD_plain _, lsD_plain _, Nat.le_trans (lsD_dep _) (by decide), _, rfl, ?_⟩
            rw [eqv_ls]
            refine ite2 (fun c1 => ?_) (fun c1 => ?_)
            · have ne : z.2.map (·.1) ≠ zf.2.map (·.1) := by simpa using c1
              obtain ⟨⟨ka, va⟩, za, ea⟩ := List.exists_cons_of_ne_nil (fun e : z.2 = [] => (cn _ (inG z hz)).1 (by rw [e]; rfl))
              obtain ⟨⟨kb, vb⟩, zb', eb⟩ := List.exists_cons_of_ne_nil (fun e : zf.2 = [] => (cn _ (inG zf hzf)).1 (by rw [e]; rfl))
              have da := hz2 (ka, va) (by rw [ea]; exact List.mem_cons_self)
              have db := hf2 (kb, vb) (by rw [eb]; exact List.mem_cons_self)
              have ma : ka ∈ z.2.map (·.1) := by rw [ea]; exact List.mem_cons_self
              have mb : kb ∈ zf.2.map (·.1) := by rw [eb]; exact List.mem_cons_self
              obtain ⟨a, rfl⟩ := ln_ref da
              obtain ⟨b, rfl⟩ := ln_ref db
              refine ⟨_, rfl, _, rfl, z.1, _, 0, .ref a, rfl, rfl, SqL.of hz1, atI_nat (j := 0) (by rw [ea]; rfl), _, rfl, zf.1, _, 0, .ref b, rfl, rfl, SqL.of hf1, atI_nat (j := 0) (by rw [eb]; rfl), r, a, b, R, ka, kb, rfl, hR.rs (GX.rs_same f.sm), da, db, fun zz hz' => ⟨zz, rfl, ?_⟩⟩
              obtain rfl := zb zz ka kb hz'
              have two := befS _ (inG z hz) _ (inG zf hzf) ne
              refine ite2 (fun c2 => ?_) (fun c2 => ?_)
              · have bf : Bef rR (z.2.map (·.1)) (zf.2.map (·.1)) := two.resolve_right fun h => by
                  have := so.asym _ _ (h kb mb ka ma)
                  rw [c2] at this
                  cases this
                refine ⟨_, rfl, some (.ref z.1), z, rfl, rfl, hz, fun y hy => ?_⟩
                rw [et] at hy
                rcases List.mem_append.mp hy with h | h
                · rcases mn y h with e | e
                  · rw [e]
                    exact .inr bf
                  · exact .inr (tr _ _ _ (inG zf hzf) bf e)
                · rw [List.mem_singleton.mp h]
                  exact .inl rfl
              · have bf : Bef rR (zf.2.map (·.1)) (z.2.map (·.1)) := two.resolve_left fun h => c2 (h ka ma kb mb)
                refine ⟨some (.ref z.1), zf, rfl, rfl, hzf, fun y hy => ?_⟩
                rw [et] at hy
                rcases List.mem_append.mp hy with h | h
                · exact mn y h
                · rw [List.mem_singleton.mp h]
                  exact .inr bf
            · have e : z.2.map (·.1) = zf.2.map (·.1) := by simpa using c1
              refine ⟨some (.ref z.1), zf, rfl, rfl, hzf, fun y hy => ?_⟩
              rw [et] at hy
              rcases List.mem_append.mp hy with h | h
              · exact mn y h
              · rw [List.mem_singleton.mp h]
                exact .inl e
          · rintro σ' H' ⟨y4, zf, rfl, rfl, hzf, mn⟩
            rw [List.length_map, List.take_length] at mn
            refine hN2 _ _ ⟨y4, zf, rfl, rfl, hzf, fun B hB => ?_⟩
            obtain ⟨z, hz, rfl⟩ := List.mem_map.mp hB
            exact mn z hz
      · have hS : SS = [] := by
          have : ¬ 0 < (SS.map fun z => V.ref z.1).length := fun h => c1 (decide_eq_true (by omega))
          rw [List.length_map] at this
          exact List.length_eq_zero_iff.mp (by omega)
        subst hS
        have hp2 := f.perm
        unfold keysF at hp2
        rw [List.map_nil, List.append_nil] at hp2
        have hp3 : OG.flatten.Perm (F.map (·.1)) := (hp2.flatten).trans hpm
        have hro := rows_of (r := rR) hp3 (fun A hA => (cn A (hp2.mem_iff.mp hA)).1) (fun A hA => (cn A (hp2.mem_iff.mp hA)).2) f.ord
        exact ⟨_, rfl, q pf H4 FF f.sm f.f0 f.hf (fun z hz => (f.rf z hz).2.1) f.rf.at (rows_same_r f.sr hro) f.pick⟩
    · refine ⟨fun m σ' H' => ∃ (pl : Addr) (y4 y5 y6 y7 y8 : Option V) (LL : List (Nat × V)) (GR : List RowL), σ' = [some (.ref r), some (.ref l), some (.ref pl), some (.ref pg), y4, y5, y6, y7, y8, none, none, none, none, none, none] ∧ m = LL.length ∧ J1 K rR (F.map (·.1)) H H' pl pg LL GR,
        ⟨_, pS, none, none, none, none, none, LL, [], rfl, rfl, f0⟩, ?_⟩
      clear f0 hS1 la1 s1 sg neSg lLL pF sF npg npS hys LL H2 H1
      rintro m σ' H3 ⟨pl, y4, y5, y6, y7, y8, LL, GR, rfl, rfl, f⟩
      refine ⟨_, rfl, pl, _, rfl, .inl (SqL.of f.hl), _, _, rfl, rfl, _, rfl, ite2 (fun c1 => ?_) (fun c1 => ?_)⟩
      · refine ⟨fun σ' H' => ∃ m', m' < LL.length ∧ ∃ (pl : Addr) (y4 y5 y6 y7 y8 : Option V) (LL : List (Nat × V)) (GR : List RowL), σ' = [some (.ref r), some (.ref l), some (.ref pl), some (.ref pg), y4, y5, y6, y7, y8, none, none, none, none, none, none] ∧ m' = LL.length ∧ J1 K rR (F.map (·.1)) H H' pl pg LL GR, fun _ _ z => z, ?_⟩
        have hL0 : 0 < LL.length := by
          have := of_decide_eq_true c1
          rw [List.length_map] at this
          omega
        have lL : LL.length ≤ 10 := by have := f.ln; omega
        obtain ⟨e0, he0⟩ : ∃ e0, LL[0]? = some e0 := ⟨_, List.getElem?_eq_getElem hL0⟩
        have he0' : (LL.map (·.2))[0]? = some e0.2 := by rw [List.getElem?_map, he0]; rfl
        have hm0 := List.mem_of_getElem? he0
        refine ⟨_, rfl, pl, _, 0, e0.2, rfl, rfl, SqL.of f.hl, atI_nat (j := 0) he0', by show 1 ≤ sizeLine; omega, fun pn npn => ?_⟩
        have fn := f.same (same_new (o := .lst [e0.2]) npn)
        have g0 : GJ K rR (LL.map (·.1)) (upd H3 pn (.lst [e0.2])) pn pg [e0] := by
          refine ⟨upd_same, fun e => ?_, fun y hy => ?_, ?_, by simp, conn_one _, fun y hy => ?_⟩
          · rw [e, f.hg] at npn
            cases npn
          · rw [List.mem_singleton.mp hy]
            exact fn.la e0 hm0
          · simp
          · rw [List.mem_singleton.mp hy]
            exact List.mem_map.mpr ⟨e0, hm0, rfl⟩
        generalize upd H3 pn (.lst [e0.2]) = H4 at fn g0
        clear f npn he0'
        dsimp only [gName]
        refine tseq_intro (fun σ' H' => ∃ (pn : Addr) (y5 y6 y7 y8 : Option V) (GG : List (Nat × V)), σ' = [some (.ref r), some (.ref l), some (.ref pl), some (.ref pg), some (.ref pn), y5, y6, y7, y8, none, none, none, none, none, none] ∧ J1 K rR (F.map (·.1)) H H' pl pg LL GR ∧ GJ K rR (LL.map (·.1)) H' pn pg GG ∧ ∀ y ∈ LL.map (·.1), y ∉ GG.map (·.1) → ∀ x ∈ GG.map (·.1), rR x y = true ∨ rR y x = true) ?_ fun N2 hN2 => ?_
        · rintro σ' H5 ⟨pn, y5, y6, y7, y8, GG, rfl, f, g, clo⟩
          have lG := nd_len g.nd g.sub
          rw [List.length_map] at lG
          refine ⟨_, rfl, .inl ⟨rfl, _, SqL.of f.hg⟩, _, rfl, pg, _, _, rfl, rfl, f.hg, by rw [List.length_map]; have := f.ln; omega, ?_⟩
          have hl6 : upd H5 pg (.lst ((GR.map fun z => V.ref z.1) ++ [V.ref pn])) pl = some (.lst (LL.map (·.2))) := (upd_ne f.ne).trans f.hl
          have hn6 : upd H5 pg (.lst ((GR.map fun z => V.ref z.1) ++ [V.ref pn])) pn = some (.lst (GG.map (·.2))) := (upd_ne g.ne).trans g.hp
          have t6 := ts_lst (K := K) (o := .lst ((GR.map fun z => V.ref z.1) ++ [V.ref pn])) f.hg
          dsimp only
          refine asg_of ?_
          refine lcf (i := 2) (j := 14) LL (fun y => !decide (y ∈ GG.map (·.1))) (SqL.of hl6) (by omega) rfl (by intro _; rfl) (by intro _; rfl) (fun e he H7 R s7 hR => ?_) (fun D H7 s7 nD hD => ?_)
          · have hd := ln_ts (t6.trans (ts_same s7)) (f.la e he)
            have hG := dp_ls (K := K) (SqL.of (s7 _ _ hn6)) (g.la.ts (t6.trans (ts_same s7)))
            refine ⟨_, rfl, _, rfl, _, _, hG, hd, plain_Ls _, plain_L _, Nat.le_trans (dpk _) (by decide), _, rfl, ?_⟩
            rw [any_L]
            exact hR _ same_refl
          · have fz := f.next (z := (pn, GG)) g.ne g.hp g.la g.nd g.n0 g.cn g.sub clo s7 nD hD
            refine ⟨_, ?_, D, _, y5, y6, y7, y8, _, _, rfl, rfl, fz⟩
            have := fz.ln
            have l2 := f.ln
            rw [List.length_append] at this
            have sp := split_perm f.nd g.nd g.sub
            have lk := sp.length_eq
            rw [← filt_keys, List.length_append, List.length_map, List.length_map, List.length_map] at lk
            have : 0 < GG.length := List.length_pos_iff.mpr g.n0
            show (LL.filter fun e => !decide (e.1 ∈ GG.map (·.1))).length < LL.length
            omega
        · refine ⟨_, rfl, pl, _, rfl, .inl (SqL.of fn.hl), _, rfl, by rw [List.length_map]; omega, by rw [List.length_map]; omega, ?_⟩
          refine for_range (lo := 0) (n := (((LL.map (·.2)).length : Int)).toNat) (fun i σ' H' => ∃ (pn : Addr) (y5 y6 y7 y8 : Option V) (GG : List (Nat × V)), σ' = [some (.ref r), some (.ref l), some (.ref pl), some (.ref pg), some (.ref pn), y5, y6, y7, y8, none, none, none, none, none, none] ∧ J1 K rR (F.map (·.1)) H H' pl pg LL GR ∧ GJ K rR (LL.map (·.1)) H' pn pg GG ∧ i + 1 ≤ GG.length) ⟨pn, y5, y6, y7, y8, [e0], rfl, fn, g0, Nat.le_refl _⟩ ?_ ?_
          · clear fn g0 pn H4
            rintro i σ' H5 hi ⟨pn, y5, y6, y7, y8, GG, rfl, f, g, lg⟩
            have lG := nd_len g.nd g.sub
            rw [List.length_map] at lG
            refine ⟨Nat.zero_le _, fun pa npa => ?_⟩
            have spa := same_new (o := .lst []) npa
            dsimp only [gName]
            refine tseq_intro (fun σ' H' => ∃ (y7 y8 : Option V), σ' = [some (.ref r), some (.ref l), some (.ref pl), some (.ref pg), some (.ref pn), some (.int (0 + (i : Nat))), some (.ref pa), y7, y8, none, none, none, none, none, none] ∧ Same H5 H' ∧ H' pa = some (.lst ((LL.filter fun e => nearL rR (GG.map (·.1)) e.1).map (·.2)))) ?_ fun N3 hN3 => ?_
            · rintro σ' H6 ⟨y7, y8, rfl, s6, hpa⟩
              have ln2 : (LL.filter fun e => nearL rR (GG.map (·.1)) e.1).length ≤ LL.length := List.length_filter_le _ _
              have ek := filt_keys LL (nearL rR (GG.map (·.1)))
              refine ⟨_, rfl, pa, _, rfl, .inl (SqL.of hpa), rfl, _, rfl, ite2 (fun c => ?_) (fun c => ?_)⟩
              · refine hN2 _ _ ⟨pn, _, _, _, _, GG, rfl, f.same s6, g.same s6, near_none ?_⟩
                have c := V.int.inj (of_decide_eq_true c)
                rw [List.length_map] at c
                have : (LL.filter fun e => nearL rR (GG.map (·.1)) e.1) = [] := List.length_eq_zero_iff.mp (by omega)
                rw [← ek, this]
                rfl
              · have c0 : 0 < (LL.filter fun e => nearL rR (GG.map (·.1)) e.1).length := by
                  refine Nat.pos_of_ne_zero fun z => c ?_
                  refine decide_eq_true ?_
                  show V.int (((LL.filter fun e => nearL rR (GG.map (·.1)) e.1).map (·.2)).length : Int) = V.int 0
                  rw [List.length_map, z]
                  rfl
                refine ⟨_, rfl, _, rfl, pn, pa, _, _, rfl, rfl, s6 _ _ g.hp, hpa, by rw [List.length_map, List.length_map]; omega, fun pc npc => ?_⟩
                have f6 := f.same s6
                have g6 := g.same s6
                have sc := same_new (o := .lst (GG.map (·.2) ++ (LL.filter fun e => nearL rR (GG.map (·.1)) e.1).map (·.2))) npc
                refine ⟨pc, some (.int (0 + (i : Nat))), some (.ref pa), y7, y8, GG ++ LL.filter fun e => nearL rR (GG.map (·.1)) e.1, rfl, f6.same sc, ⟨?_, fun e => ?_, fun y hy => ?_, ?_, ?_, ?_, ?_⟩, ?_⟩
                · rw [List.map_append]
                  exact upd_same
                · rw [e, f6.hg] at npc
                  cases npc
                · rcases List.mem_append.mp hy with h | h
                  · exact ln_ts (ts_same sc) (g6.la y h)
                  · exact ln_ts (ts_same sc) (f6.la y (List.mem_filter.mp h).1)
                · rw [List.map_append, ek]
                  exact near_nd f.nd g.nd
                · exact fun z => g.n0 (List.append_eq_nil_iff.mp z).1
                · rw [List.map_append, ek]
                  exact near_conn g.cn
                · intro x hx
                  rw [List.map_append, ek] at hx
                  rcases List.mem_append.mp hx with h | h
                  · exact g.sub x h
                  · exact (List.mem_filter.mp h).1
                · rw [List.length_append]
                  omega
            · refine ⟨_, rfl, pl, rfl, ⟨_, SqL.of (spa _ _ f.hl)⟩, ?_⟩
              refine for_list (xs := LL.map (·.2)) (fun j σ' H' => ∃ (y7 y8 : Option V), σ' = [some (.ref r), some (.ref l), some (.ref pl), some (.ref pg), some (.ref pn), some (.int (0 + (i : Nat))), some (.ref pa), y7, y8, none, none, none, none, none, none] ∧ Same H5 H' ∧ H' pa = some (.lst (((LL.take j).filter fun e => nearL rR (GG.map (·.1)) e.1).map (·.2)))) ⟨y7, y8, rfl, spa, upd_same⟩ ?_ ?_ ?_
              · rintro j σ' H' _ ⟨_, _, _, s, _⟩
                exact SqL.of (s _ _ f.hl)
              · rintro j v σ' H6 hv ⟨y7, y8, rfl, s6, hpa⟩
                obtain ⟨⟨k, v⟩, ge, rfl⟩ := map_get hv
                have hem := List.mem_of_getElem? ge
                have hd := ln_ts (ts_same s6) (f.la _ hem)
                obtain ⟨a, rfl⟩ := ln_ref hd
                have et : LL.take (j + 1) = LL.take j ++ [(k, V.ref a)] := by rw [List.take_add_one, ge]; rfl
                dsimp only [gName]
                refine asg_seq ?_
                refine lcf (i := 4) (j := 14) GG (fun x => !rR x k && !rR k x) (SqL.of (s6 _ _ g.hp)) (by omega) rfl (by intro _; rfl) (by intro _; rfl) (fun e he H7 Rk s7 hRk => ?_) (fun D H7 s7 nD hD => ?_)
                · have s57 := same_trans s6 s7
                  obtain ⟨k2, v2⟩ := e
                  have hd2 := ln_ts (ts_same s57) (g.la _ he)
                  obtain ⟨a2, rfl⟩ := ln_ref hd2
                  have hd7 := ln_ts (ts_same s7) hd
                  have hR7 := hR.rs (GX.rs_same (same_trans f.sm s57))
                  refine ⟨_, rfl, _, rfl, _, rfl, r, a2, a, R, k2, k, rfl, hR7, hd2, hd7, fun z hz => ⟨z, rfl, ?_⟩⟩
                  obtain rfl := zb z k2 k hz
                  refine ite2 (fun c => ?_) (fun c => ?_)
                  · refine ⟨_, rfl, _, rfl, _, rfl, r, a, a2, R, k, k2, rfl, hR7, hd7, hd2, fun z hz => ⟨z, rfl, ?_⟩⟩
                    obtain rfl := zb z k k2 hz
                    have := hRk H7 same_refl
                    simp only [c, Bool.true_and] at this
                    exact this
                  · have := hRk H7 same_refl
                    have c' : (!rR k2 k) = false := by simpa using c
                    simp only [c', Bool.false_and] at this
                    exact this
                · have s57 := same_trans s6 s7
                  have hd7 := ln_ts (ts_same s7) hd
                  have hG := dp_ls (K := K) (SqL.of (s57 _ _ g.hp)) (g.la.ts (ts_same s57))
                  have en : nearL rR (GG.map (·.1)) k = ((!decide (k ∈ GG.map (·.1))) && (GG.map (·.1)).any fun x => !rR x k && !rR k x) := rfl
                  refine ⟨_, rfl, _, rfl, _, _, hG, hd7, plain_Ls _, plain_L _, Nat.le_trans (dpk _) (by decide), _, rfl, ?_⟩
                  rw [any_L]
                  refine ite2 (fun c1 => ?_) (fun c1 => ?_)
                  · refine ⟨_, rfl, D, _, rfl, .inl (SqL.of hD), _, _, rfl, rfl, _, rfl, ite2 (fun c2 => ?_) (fun c2 => ?_)⟩
                    · have c2 := of_decide_eq_true c2
                      rw [List.length_map] at c2
                      have c3 := (filt_len (F := GG) (p := fun x => !rR x k && !rR k x)).mp (by omega)
                      rw [c1, c3] at en
                      refine ⟨_, rfl, .inl ⟨rfl, _, SqL.of (s7 _ _ hpa)⟩, _, rfl, pa, _, _, rfl, rfl, s7 _ _ hpa, ?_, some (.ref a), some (.ref D), rfl, same_upd npa s57, ?_⟩
                      · rw [List.length_map]
                        have : ((LL.take j).filter fun e => nearL rR (GG.map (·.1)) e.1).length ≤ LL.length := Nat.le_trans (List.length_filter_le _ _) (by rw [List.length_take]; omega)
                        omega
                      · rw [upd_same, et, List.filter_append, List.map_append]
                        simp [en]
                    · have c3 : ((GG.map (·.1)).any fun x => !rR x k && !rR k x) = false := by
                        cases e : (GG.map (·.1)).any fun x => !rR x k && !rR k x with
                        | false => rfl
                        | true =>
                          refine absurd (decide_eq_true ?_) c2
                          have := (filt_len (F := GG) (p := fun x => !rR x k && !rR k x)).mpr e
                          rw [List.length_map]
                          omega
                      rw [c1, c3] at en
                      refine ⟨some (.ref a), some (.ref D), rfl, s57, ?_⟩
                      rw [s7 _ _ hpa, et, List.filter_append]
                      simp [en]
                  · have c1' : (!decide (k ∈ GG.map (·.1))) = false := by simpa using c1
                    rw [c1'] at en
                    refine ⟨some (.ref a), some (.ref D), rfl, s57, ?_⟩
                    rw [s7 _ _ hpa, et, List.filter_append]
                    simp [en]
              · rintro σ' H6 ⟨y7, y8, rfl, s6, hpa⟩
                rw [List.length_map, List.take_length] at hpa
                exact hN3 _ _ ⟨y7, y8, rfl, s6, hpa⟩
          · rintro σ' H5 ⟨pn, y5, y6, y7, y8, GG, rfl, f, g, lg⟩
            have lG := nd_len g.nd g.sub
            simp only [List.length_map] at lG lg
            omega
      · have hL : LL = [] := by
          have : ¬ 0 < (LL.map (·.2)).length := fun h => c1 (decide_eq_true (by omega))
          rw [List.length_map] at this
          exact List.length_eq_zero_iff.mp (by omega)
        subst hL
        exact hN _ _ ⟨pl, y4, y5, y6, y7, y8, GR, rfl, f⟩
end
end K12
namespace K12
open PySem PySem.Spec PyProof.Rows L2 TR QR
open GX (KT kd kdAll RS TSt dNO KeysAt)
open GxR (TabB TabG Tabbed)
open MB
section
theorem dpAll_app {K : PySem.W.Frag} {H : Hp} : ∀ {vs ws : List V} {ds es : List PyData}, DpAll K H vs ds → DpAll K H ws es → DpAll K H (vs ++ ws) (ds ++ es)
  | [], _, _, _, h, g => by
    cases h
    exact g
  | v :: vs, _, _, _, h, g => by
    cases h with
    | cons h1 h2 => exact .cons h1 (dpAll_app h2 g)
/-- tuples stay where a list is written -/
theorem ts_but {K : PySem.W.Frag} {D : Addr} {H H' : Hp} {xs : List V} (hD : H D = some (.lst xs)) (x : EX D H H') : TSt K H H' := fun y ys q => by
  rcases q with q | q
  · have ne : y ≠ D := fun e => by
      subst e
      rcases q with q | ⟨_, q⟩
      · rw [hD] at q
        cases q
      · rw [hD] at q
        cases q
    rcases q with q | ⟨o, q⟩
    · exact .inl (.inl (x _ _ ne q))
    · exact .inl (.inr ⟨o, x _ _ ne q⟩)
  · exact .inr q
/-- [e for x in xs], the values data -/
theorem lcmD {α : Type} {K : PySem.W.Frag} {p D : Addr} {te : TE} {j : Nat} {σ : L2.St} {H1 : Hp} {Qd : Hp → Prop} (F : List (α × V)) (dv : α → PyData) (hl : SqL K H1 p (F.map (·.2))) (ln : F.length ≤ 1000) (nD : H1 D = none)
    (hj : ∀ v, wipe (((wipe σ [j]).set j (some v))) [j] = wipe σ [j])
    (step : ∀ e ∈ F, ∀ (H2 : Hp) (R : VK), Same H1 H2 → (∃ acc, H2 D = some (.lst acc)) → (∀ y H3, Same H2 H3 → (∀ H4, EX D H3 H4 → Dp K H4 y (dv e.1)) → R y H3) → te ((wipe σ [j]).set j (some e.2)) H2 R)
    (q : ∀ H', Same H1 H' → Dp K H' (.ref D) (.list (F.map fun e => dv e.1)) → Qd H') :
    ∃ W : Nat → Nat → Hp → Prop, (∃ m, W 0 m (upd H1 D (.lst []))) ∧ ∀ i m H, W i m H →
      ((Itl K p).stop i H ∧ Qd H) ∨ ((Itl K p).go i H ∧ ∃ Nx : Hp → Prop, (∀ H', Nx H' → ∃ m', m' < m ∧ W (i + 1) m' H') ∧ ∀ x H', (Itl K p).yld i H x H' → gName j x (wipe σ [j]) H' fun σ2 H2 => wipe σ2 [j] = wipe σ [j] ∧ tYes σ2 H2 fun b H3 =>
        if b = true then te σ2 H3 fun y H4 => ∃ acc, H4 D = some (.lst acc) ∧ acc.length < sizeLine ∧ Nx (upd H4 D (.lst (acc ++ [y]))) else Nx H3) := by
  have zl := zl
  refine lc_list (xs := F.map (·.2)) (fun m H' => Same H1 H' ∧ ∃ acc, H' D = some (.lst acc) ∧ acc.length = (F.take m).length ∧ ∀ H4, EX D H' H4 → DpAll K H4 acc ((F.take m).map fun e => dv e.1)) ⟨same_new nD, [], upd_same, rfl, fun _ _ => .nil⟩ ?_ ?_ ?_
  · rintro m H' _ ⟨s, _⟩
    exact (GX.rs_same s).sql hl
  · rintro m y H2 hy ⟨s, acc, eD, la, hA⟩
    obtain ⟨e, ge, rfl⟩ := map_get hy
    have hem := List.mem_of_getElem? ge
    have et : F.take (m + 1) = F.take m ++ [e] := by rw [List.take_add_one, ge]; rfl
    refine ⟨hj _, step e hem H2 _ s ⟨acc, eD⟩ fun z H3 s3 hz => ?_⟩
    have lt : (F.take m).length ≤ F.length := by rw [List.length_take]; omega
    have eD3 := s3 _ _ eD
    refine ⟨acc, eD3, by omega, same_upd nD (same_trans s s3), acc ++ [z], upd_same, by rw [et, List.length_append, List.length_append, la]; rfl, fun H4 h4 => ?_⟩
    have x34 : EX D H3 H4 := fun b o n h => h4 b o n ((upd_ne n).trans h)
    rw [et, List.map_append]
    exact dpAll_app (hA H4 ((EX.same s3).trans x34)) (.cons (hz H4 x34) .nil)
  · rintro H2 ⟨s, acc, eD, la, hA⟩
    rw [List.length_map, List.take_length] at hA
    exact q H2 s (.lst (SqL.of eD) (hA H2 (fun _ _ _ h => h)))
end
section
variable {K : PySem.W.Frag}
theorem sql_but {a D : Addr} {H H' : Hp} {xs : List V} (ne : a ≠ D) (x : EX D H H') (h : SqL K H a xs) : SqL K H' a xs := by
  rcases h with h | h
  · rcases h with h | ⟨o, h⟩
    · exact .inl (.inl (x _ _ ne h))
    · exact .inl (.inr ⟨o, x _ _ ne h⟩)
  · exact .inr h
/-- the inner walk of a comprehension with two sources -/
theorem in_list {a : Addr} {xs : List V} {g : L2.TG} {tt : TT} {te : TE} {vs : List Nat} {σ : L2.St} {H0 : Hp} {D : Addr} {Qd : Hp → Prop} (Pv : Nat → Hp → Prop) (h0 : Pv 0 H0) (hl : ∀ i H, i ≤ xs.length → Pv i H → SqL K H a xs)
    (hs : ∀ i x H, xs[i]? = some x → Pv i H → g x (wipe σ vs) H fun σ2 H2 => wipe σ2 vs = wipe σ vs ∧ tt σ2 H2 fun b H3 =>
      if b = true then te σ2 H3 fun y H4 => ∃ acc, H4 D = some (.lst acc) ∧ acc.length < sizeLine ∧ Pv (i + 1) (upd H4 D (.lst (acc ++ [y]))) else Pv (i + 1) H3) (hd : ∀ H, Pv xs.length H → Qd H) :
    ∃ W : Nat → Nat → Hp → Prop, (∃ m, W 0 m H0) ∧ ∀ i m H, W i m H →
      ((Itl K a).stop i H ∧ Qd H) ∨ ((Itl K a).go i H ∧ ∃ Nx : Hp → Prop, (∀ H', Nx H' → ∃ m', m' < m ∧ W (i + 1) m' H') ∧ ∀ x H', (Itl K a).yld i H x H' → g x (wipe σ vs) H' fun σ2 H2 => wipe σ2 vs = wipe σ vs ∧ tt σ2 H2 fun b H3 =>
        if b = true then te σ2 H3 fun y H4 => ∃ acc, H4 D = some (.lst acc) ∧ acc.length < sizeLine ∧ Nx (upd H4 D (.lst (acc ++ [y]))) else Nx H3) := by
  refine ⟨fun i m H => m = xs.length - i ∧ i ≤ xs.length ∧ Pv i H, ⟨xs.length, by simp, Nat.zero_le _, h0⟩, ?_⟩
  rintro i m H ⟨rfl, hi, p⟩
  have q := hl i H hi p
  by_cases hlt : i < xs.length
  · refine .inr ⟨⟨xs, xs[i], q, by simp [hlt]⟩, Pv (i + 1), fun H' p' => ⟨xs.length - (i + 1), by omega, rfl, hlt, p'⟩, fun x H' y => ?_⟩
    obtain ⟨e, y⟩ := y
    subst e
    exact hs i x _ (y xs q) p
  · have e : i = xs.length := by omega
    subst e
    exact .inl ⟨⟨xs, q, Nat.le_refl _⟩, hd H p⟩
/-- [e for x in xs if test], wherever xs comes from -/
theorem lcF {α : Type} {p D : Addr} {j : Nat} {tt : TT} {σ : L2.St} {H : Hp} {Qd : Hp → Prop} (F : List (α × V)) (t : α → Bool) (hl : SqL K H p (F.map (·.2))) (ln : F.length ≤ 1000) (nD : H D = none) (hj : ∀ v, wipe (((wipe σ [j]).set j (some v))) [j] = wipe σ [j]) (hjj : ∀ v : V, ((wipe σ [j]).set j (some v))[j]? = some (some v))
    (step : ∀ e ∈ F, ∀ (H1 : Hp) (R : Bool → Hp → Prop), Same H H1 → (∀ H2, Same H1 H2 → R (t e.1) H2) → tt ((wipe σ [j]).set j (some e.2)) H1 R)
    (q : ∀ H', Same H H' → H' D = some (.lst ((F.filter fun e => t e.1).map (·.2))) → Qd H') :
    ∃ W : Nat → Nat → Hp → Prop, (∃ m, W 0 m (upd H D (.lst []))) ∧ ∀ i m H, W i m H →
      ((Itl K p).stop i H ∧ Qd H) ∨ ((Itl K p).go i H ∧ ∃ Nx : Hp → Prop, (∀ H', Nx H' → ∃ m', m' < m ∧ W (i + 1) m' H') ∧ ∀ x H', (Itl K p).yld i H x H' → gName j x (wipe σ [j]) H' fun σ2 H2 => wipe σ2 [j] = wipe σ [j] ∧ tt σ2 H2 fun b H3 =>
        if b = true then tVar j σ2 H3 fun y H4 => ∃ acc, H4 D = some (.lst acc) ∧ acc.length < sizeLine ∧ Nx (upd H4 D (.lst (acc ++ [y]))) else Nx H3) := by
  have zl := zl
  refine lc_list (xs := F.map (·.2)) (fun m H' => Same H H' ∧ H' D = some (.lst (((F.take m).filter fun e => t e.1).map (·.2)))) ⟨same_new nD, upd_same⟩ ?_ ?_ ?_
  · rintro m H' _ ⟨s, _⟩
    exact (GX.rs_same s).sql hl
  · rintro m y H1 hy ⟨s, eD⟩
    obtain ⟨e, ge, rfl⟩ := map_get hy
    have hem := List.mem_of_getElem? ge
    have et : F.take (m + 1) = F.take m ++ [e] := by rw [List.take_add_one, ge]; rfl
    refine ⟨hj _, step e hem H1 _ s fun H2 s2 => ?_⟩
    have s02 := same_trans s s2
    refine ite2 (fun c => ?_) (fun c => ?_)
    · have le : ((F.take m).filter fun e => t e.1).length ≤ F.length := Nat.le_trans (List.length_filter_le _ _) (by rw [List.length_take]; omega)
      refine ⟨_, hjj _, _, s2 _ _ eD, by rw [List.length_map]; omega, same_upd nD s02, ?_⟩
      rw [upd_same, et, List.filter_append, List.map_append]
      simp [c]
    · refine ⟨s02, ?_⟩
      rw [et, List.filter_append, s2 _ _ eD]
      simp [c]
  · rintro H1 ⟨s, eD⟩
    rw [List.length_map, List.take_length] at eD
    exact q H1 s eD
end
end K12
namespace K12
open PySem PySem.Spec PyProof.Rows L2 TR QR
open GX (KT kd kdAll RS TSt dNO KeysAt)
open GxR (TabB TabG Tabbed)
open MB
section
variable [Sg]
abbrev sSW : Stmt := topS 7
abbrev nSW : List Str := ["graph", "block", "line"]
theorem scSW : FnScope nSW ["graph"] (defScope sSW) := ⟨rfl, rfl, rfl, by decide +kernel, rfl, by decide +kernel, by decide +kernel⟩
theorem pw_len {kp : List Nat} {n : Nat} (h : kp.Pairwise (· < ·)) (hk : ∀ k ∈ kp, k < n) (hn : n ≤ 10) : kp.length ≤ 10 := by
  have := nat_nodup_len (h.imp fun h => Nat.ne_of_lt h) (m := List.range n) fun y hy => List.mem_range.mpr (hk y hy)
  rw [List.length_range] at this
  omega
theorem flat_len : ∀ {R : List (List Nat)}, (∀ A ∈ R, A ≠ []) → R.length ≤ R.flatten.length
  | [], _ => Nat.le_refl _
  | A :: R, h => by
    have := flat_len (R := R) fun B hB => h B (List.mem_cons_of_mem _ hB)
    have := List.length_pos_iff.mpr (h A List.mem_cons_self)
    rw [List.flatten_cons, List.length_append, List.length_cons]
    omega
theorem rows_len {r : Nat → Nat → Bool} {kp : List Nat} {FF : List RowL} (h : Rows r kp (keysF FF)) (l : kp.length ≤ 10) : FF.length ≤ 1000 := by
  have h1 := flat_len h.ne
  have h2 := h.perm.length_eq
  have h3 : (keysF FF).length = FF.length := List.length_map _
  omega
theorem row_len {r : Nat → Nat → Bool} {kp : List Nat} {FF : List RowL} (h : Rows r kp (keysF FF)) (l : kp.length ≤ 10) {z : RowL} (hz : z ∈ FF) : z.2.length ≤ 10 := by
  have h2 := h.perm.length_eq
  have : z.2.map (·.1) ∈ keysF FF := List.mem_map.mpr ⟨z, hz, rfl⟩
  have h3 := (List.sublist_flatten_of_mem this).length_le
  rw [List.length_map] at h3
  omega
def Blk (g : Nat → List Nat) (kp : List Nat) (R : List (List Nat)) : Prop := Rows (rS g) kp R ∧ ∀ A ∈ R, Picked (rS g) A
variable {P : Program} {w : World} {K : PySem.W.Frag} {mg : Str → Option Value} {base : Heap} {C : Addr}
/-- how a graph is given -/
def InG (P : Program) (w : World) (K : PySem.W.Frag) (C : Addr) (H : Hp) (x : Addr) (n : Nat) (kp ks : List Nat) (g : Nat → List Nat) (tx : Nat → Str) : Prop := GrAt P w K C H x n kp ks g tx ∧ kp.Pairwise (· < ·) ∧ (∀ k ∈ kp, k < n) ∧ n ≤ 10
def spSW (P : Program) (w : World) (K : PySem.W.Frag) (C : Addr) : Sp := fun vs H Q _ => ∃ (x : Addr) (n : Nat) (kp ks : List Nat) (g : Nat → List Nat) (tx : Nat → Str), vs = [.ref x] ∧ InG P w K C H x n kp ks g tx ∧
  ∀ p H' (G : List (Nat × V)) R, Same H H' → H p = none → H' p = some (.lst (G.map (·.2))) → LAt K H' G → G.map (·.1) = R.flatten → Blk g kp R → Q (.ref p) H'
theorem ok_SW {f fBL : Addr} {fd fdBL : FuncData} (F : Fun K "shown_order" "shown_order" sSW f fd)
    (GBL : FnOk P w K mg base CX0 3 fBL fdBL ["graph"] (spBL P w K C)) (bBL : Binds K fdBL ["graph"] []) (gBL : mg "blocks" = some (.ref fBL)) (kBL : PySem.W.keepIn K (.ref fBL) = true) : FnOk P w K mg base CX0 4 f fd ["graph"] (spSW P w K C) := by
  refine F.ok scSW (fun vs H Q E h => ?_) (fun cdv A outer s H vs Q E hr h => ?_)
  · obtain ⟨x, n, kp, ks, g, tx, rfl, _⟩ := h
    rfl
  · obtain ⟨x, n, kp, ks, g, tx, rfl, hg, q⟩ := h
    have hu := hr.units
    have hu1 := hu_of hr
    have hr1 : Room 1 _ := hr.mono (by decide)
    have hr2 : Room 2 _ := hr.mono (by decide)
    have hr3 : Room 3 _ := hr.mono (by decide)
    have zl := zl
    refine ⟨_, (pss_one (ps_ret (pe_lc2 (own := [("block", 1), ("line", 2)]) (vs1 := [2]) (g := gName 1) (g1 := gName 2) (tt := tYes) (tt1 := tYes) (wi1 := iList K (tVar 1)) (te := tVar 2) rfl scSW.nd (pi_list (pe_call GBL hr3 (by rfl) gBL kBL bBL .nil pass0 (pa_cons (pv 0) pa_nil))) (blkOk_by (N := nSW) (sc := defScope sSW) (by decide +kernel)) (by decide) (fun _ _ _ _ _ => by exact pg_name (i := 1) scSW.nd rfl (.inl rfl)) (fun _ _ _ _ _ => pts_nil) (fun _ _ _ _ _ => by exact pi_list (pv 1)) (fun _ _ _ _ _ => by exact pg_name (i := 2) scSW.nd rfl (.inl rfl)) (fun _ _ _ _ _ => pts_nil) (fun _ _ _ _ _ => by exact pv 2)))), ?_⟩
    obtain ⟨g1, g2, g3, g4⟩ := hg
    refine ⟨_, rfl, x, n, kp, ks, g, tx, rfl, g1, g2, g3, g4, fun p H1 FF s1 np hp hR hrw hpk => ?_⟩
    have lFF : FF.length ≤ 1000 := rows_len hrw (pw_len g2 g3 g4)
    refine ⟨p, rfl, ⟨_, SqL.of hp⟩, fun D nD => ?_⟩
    have el : ∀ z ∈ FF, z.2.length ≤ 10 := fun z hz => row_len hrw (pw_len g2 g3 g4) hz
    -- the lines so far
    refine ⟨fun i m H' => m = FF.length - i ∧ i ≤ FF.length ∧ Same H1 H' ∧ ∃ G : List (Nat × V), H' D = some (.lst (G.map (·.2))) ∧ LAt K H' G ∧ G.map (·.1) = (keysF (FF.take i)).flatten ∧ G.length ≤ 10 * i, ⟨FF.length, by simp, Nat.zero_le _, same_new nD, [], upd_same, (fun _ h => nomatch h), rfl, Nat.le_refl _⟩, ?_⟩
    rintro i m H2 ⟨rfl, hi, s2, G, hG, lG, eG, nG⟩
    by_cases hlt : i < FF.length
    · refine .inr ⟨⟨_, _, SqL.of (s2 _ _ hp), by rw [List.getElem?_map, List.getElem?_eq_getElem hlt]; rfl⟩, fun H' => i + 1 ≤ FF.length ∧ Same H1 H' ∧ ∃ G : List (Nat × V), H' D = some (.lst (G.map (·.2))) ∧ LAt K H' G ∧ G.map (·.1) = (keysF (FF.take (i + 1))).flatten ∧ G.length ≤ 10 * (i + 1), fun H' h => ⟨FF.length - (i + 1), by omega, rfl, h⟩, fun v H' y => ?_⟩
      obtain ⟨rfl, y⟩ := y
      have hv := y _ (SqL.of (s2 _ _ hp))
      obtain ⟨z, gz, rfl⟩ := map_get hv
      have hz := List.mem_of_getElem? gz
      have hz10 := el z hz
      obtain ⟨z1, z2⟩ := (hR.rs (GX.rs_same s2)) z hz
      have ek : (keysF (FF.take (i + 1))).flatten = (keysF (FF.take i)).flatten ++ z.2.map (·.1) := by
        rw [List.take_add_one, gz]
        show (keysF (FF.take i ++ [z])).flatten = _
        rw [keysF_app, List.flatten_append]
        simp
      refine ⟨rfl, _, rfl, z.1, rfl, ⟨_, z1⟩, ?_⟩
      refine in_list (xs := z.2.map (·.2)) (fun j H' => Same H1 H' ∧ ∃ G' : List (Nat × V), H' D = some (.lst (G'.map (·.2))) ∧ LAt K H' G' ∧ G'.map (·.1) = (keysF (FF.take i)).flatten ++ (z.2.take j).map (·.1) ∧ G'.length ≤ 10 * i + j) ⟨s2, G, hG, lG, by rw [eG]; simp, by omega⟩ ?_ ?_ ?_
      · rintro j H3 _ ⟨s3, _⟩
        exact (GX.rs_same s3).sql (hR z hz).1
      · rintro j v H3 hv ⟨s3, G', hG', lG', eG', nG'⟩
        obtain ⟨⟨k, v⟩, ge, rfl⟩ := map_get hv
        have hj : j < z.2.length := (List.getElem?_eq_some_iff.mp ge).1
        have hd := ((hR.rs (GX.rs_same s3)) z hz).2 _ (List.mem_of_getElem? ge)
        have t := ts_lst (K := K) (o := .lst (G'.map (·.2) ++ [v])) hG'
        refine ⟨rfl, _, rfl, _, hG', by rw [List.length_map]; omega, same_upd nD s3, G' ++ [(k, v)], by rw [upd_same, List.map_append]; rfl, fun e he => ?_, ?_, by rw [List.length_append]; show G'.length + 1 ≤ _; omega⟩
        · rcases List.mem_append.mp he with h | h
          · exact ln_ts t (lG' e h)
          · rw [List.mem_singleton.mp h]
            exact ln_ts t hd
        · rw [List.map_append, eG', List.take_add_one, ge, List.map_append, List.append_assoc]
          rfl
      · rintro H3 ⟨s3, G', hG', lG', eG', nG'⟩
        rw [List.length_map] at nG'
        rw [List.length_map, List.take_length] at eG'
        exact ⟨hlt, s3, G', hG', lG', by rw [ek, eG'], by omega⟩
    · have e : i = FF.length := by omega
      subst e
      rw [List.take_length] at eG
      refine .inl ⟨⟨_, SqL.of (s2 _ _ hp), by rw [List.length_map]; exact Nat.le_refl _⟩, ?_⟩
      exact q D H2 G _ (same_trans s1 s2) (same_none s1 nD) hG lG eG ⟨hrw, hpk⟩
end
end K12
namespace QR
open PySem PySem.Spec PyProof.Rows L2
section
variable {X : Cx}
/-! ### xs[::-1] of a list: a new list -/
def tRev (K : PySem.W.Frag) (te ts : TE) : TE := fun σ H Q => te σ H fun x H1 => ts σ H1 fun z H2 => z = .int (-1) ∧ ∃ a xs, x = .ref a ∧ SqL K H2 a xs ∧ ∀ p, H2 p = none → Q (.ref p) (upd H2 p (.lst xs.reverse))
theorem vals_rev {xs : List V} {us : List Value} (r : Vals xs us) : Vals xs.reverse us.reverse := by
  induction r with
  | nil => exact .nil
  | cons p q ih =>
    rw [List.reverse_cons, List.reverse_cons]
    exact ih.append (.cons p .nil)
theorem pe_rev {e st : Expr} {te ts : TE} {p2 pos : Pos} (he : PE X e te) (hs : PE X st ts) : PE X (.Subscript e (.Slice none none (some st) p2) pos) (tRev X.K te ts) := by
  refine ⟨fun pins s σ H Q I h => ?_⟩
  refine Subscript_ (thn (he.run pins s σ H _ I h) fun v s1 ⟨x, H1, I1, r1, q1⟩ => ?_)
  refine wpAny_Slice ?_
  rw [evalPart_none]
  refine wpAny_pure (wpAny_pure ?_)
  rw [evalPart_some]
  refine thn (hs.run pins s1 σ H1 _ I1 q1) fun vu s3 ⟨z, H3, I3, rz, ez, q3⟩ => ?_
  subst ez
  obtain ⟨tz, rfl⟩ := rz
  obtain ⟨a, xs, ex, hx, q⟩ := q3
  subst ex
  cases r1
  have I4 : Inv X pins σ H3 { s3 with heap := s3.heap.push { cls := .type "slice", data := .fields #[.none, .none, .int (-1) tz] } } := I3.kept (t' := s3.toks) fun b ob q => Heap.get?_push_of_some _ q
  obtain ⟨its, r, ht, hz⟩ := I4.list hx
  have hlen := r.length
  show wpAny (model X.prog X.w) X.A (subscriptTail e (.Slice none none (some st) p2) (.ref a) (.ref s3.heap.objs.size)) (EP X pins σ Q) X.xe { s3 with heap := s3.heap.push { cls := .type "slice", data := .fields #[.none, .none, .int (-1) tz] } }
  refine tail_any (ops := [.ref a, .ref s3.heap.objs.size]) ht.isList.typeIs slot_list_getitem.lookup ?_ (by with_unfolding_all rfl)
  refine wpAny_getItem_list_slice ht.isList (Heap.IsSliceOf.new ..) .none .none (.int (-1) tz) (by simp) ?_ (by rw [List.size_toArray]; omega)
  rw [PySem.W.krv_pick]
  refine ⟨.ref _, _, I4.laid (t' := s3.toks) (o := .lst xs.reverse) (fun b ob q => Heap.get?_push_of_some _ q) (Nat.le_refl _) ?_, rfl, q _ (I4.hok.fresh (Nat.le_refl _))⟩
  exact ⟨by rw [List.length_reverse]; exact hz, _, 0, vals_rev r, Heap.get?_push_size _ rfl⟩
end
end QR
/-! the mathematics of scripts: no program here -/
namespace K15
open PySem
/-- how many lines can be kept -/
def lcs : List (Option Str) → List Str → Nat
  | [], _ => 0
  | _ :: _, [] => 0
  | x :: xs, y :: ys => if x = some y then lcs xs ys + 1 else max (lcs xs (y :: ys)) (lcs (x :: xs) ys)
termination_by a b => a.length + b.length
theorem lcs_nil (ys : List Str) : lcs [] ys = 0 := by rw [lcs]
theorem lcs_nil' (xs : List (Option Str)) : lcs xs [] = 0 := by
  cases xs with
  | nil => rw [lcs]
  | cons x xs => rw [lcs]
theorem lcs_cons (x : Option Str) (xs : List (Option Str)) (y : Str) (ys : List Str) :
    lcs (x :: xs) (y :: ys) = if x = some y then lcs xs ys + 1 else max (lcs xs (y :: ys)) (lcs (x :: xs) ys) := by rw [lcs]
theorem lcs_all : ∀ (n : Nat) (xs : List (Option Str)) (ys : List Str), xs.length + ys.length ≤ n →
    (∀ x, lcs (x :: xs) ys ≤ lcs xs ys + 1 ∧ lcs xs ys ≤ lcs (x :: xs) ys) ∧ (∀ y, lcs xs (y :: ys) ≤ lcs xs ys + 1 ∧ lcs xs ys ≤ lcs xs (y :: ys)) := by
  intro n
  induction n with
  | zero =>
    intro xs ys h
    have e1 : xs = [] := List.eq_nil_of_length_eq_zero (by omega)
    have e2 : ys = [] := List.eq_nil_of_length_eq_zero (by omega)
    subst e1 e2
    refine ⟨fun x => ?_, fun y => ?_⟩
    · rw [lcs_nil', lcs_nil']
      omega
    · rw [lcs_nil, lcs_nil]
      omega
  | succ n ih =>
    intro xs ys h
    refine ⟨fun x => ?_, fun y => ?_⟩
    · cases ys with
      | nil =>
        rw [lcs_nil', lcs_nil']
        omega
      | cons y ys =>
        rw [List.length_cons] at h
        have i1 := ih xs ys (by omega)
        have a1 := i1.1 x
        have b1 := i1.2 y
        rw [lcs_cons]
        split <;> omega
    · cases xs with
      | nil =>
        rw [lcs_nil, lcs_nil]
        omega
      | cons x xs =>
        rw [List.length_cons] at h
        have i1 := ih xs ys (by omega)
        have a1 := i1.1 x
        have b1 := i1.2 y
        rw [lcs_cons]
        split <;> omega
theorem lcs_l (x : Option Str) (xs : List (Option Str)) (ys : List Str) : lcs (x :: xs) ys ≤ lcs xs ys + 1 := ((lcs_all _ xs ys (Nat.le_refl _)).1 x).1
theorem lcs_r (y : Str) (xs : List (Option Str)) (ys : List Str) : lcs xs (y :: ys) ≤ lcs xs ys + 1 := ((lcs_all _ xs ys (Nat.le_refl _)).2 y).1
theorem lcs_le : ∀ (xs : List (Option Str)) (ys : List Str), lcs xs ys ≤ xs.length
  | [], ys => by rw [lcs_nil]; exact Nat.zero_le _
  | x :: xs, ys => by
    have h1 := lcs_l x xs ys
    have h2 := lcs_le xs ys
    rw [List.length_cons]
    omega
/-- how many lines can be kept of those from i and from j on -/
def L (xs : List (Option Str)) (ys : List Str) (i j : Nat) : Nat := lcs (xs.drop i) (ys.drop j)
/-- the lines at i and at j are equal -/
def eqAt (xs : List (Option Str)) (ys : List Str) (i j : Nat) : Bool := match xs[i]?, ys[j]? with
  | some x, some y => decide (x = some y)
  | _, _ => false
variable {xs : List (Option Str)} {ys : List Str}
theorem eqAt_lt {i j : Nat} (h : eqAt xs ys i j = true) : i < xs.length ∧ j < ys.length := by
  unfold eqAt at h
  split at h
  · rename_i x y h1 h2
    exact ⟨(List.getElem?_eq_some_iff.mp h1).1, (List.getElem?_eq_some_iff.mp h2).1⟩
  · cases h
theorem eqAt_of {i j : Nat} {x : Option Str} {y : Str} (h1 : xs[i]? = some x) (h2 : ys[j]? = some y) : eqAt xs ys i j = decide (x = some y) := by
  unfold eqAt
  rw [h1, h2]
theorem L_end1 {i j : Nat} (h : xs.length ≤ i) : L xs ys i j = 0 := by
  unfold L
  rw [List.drop_eq_nil_of_le h, lcs_nil]
theorem L_end2 {i j : Nat} (h : ys.length ≤ j) : L xs ys i j = 0 := by
  unfold L
  rw [List.drop_eq_nil_of_le h, lcs_nil']
theorem L_step {i j : Nat} {x : Option Str} {y : Str} (h1 : xs[i]? = some x) (h2 : ys[j]? = some y) :
    L xs ys i j = if x = some y then L xs ys (i + 1) (j + 1) + 1 else max (L xs ys (i + 1) j) (L xs ys i (j + 1)) := by
  obtain ⟨l1, e1⟩ := List.getElem?_eq_some_iff.mp h1
  obtain ⟨l2, e2⟩ := List.getElem?_eq_some_iff.mp h2
  unfold L
  rw [List.drop_eq_getElem_cons l1, List.drop_eq_getElem_cons l2, e1, e2, lcs_cons]
theorem L_l {i j : Nat} (h : i < xs.length) : L xs ys i j ≤ L xs ys (i + 1) j + 1 := by
  unfold L
  rw [List.drop_eq_getElem_cons h]
  exact lcs_l _ _ _
theorem L_r {i j : Nat} (h : j < ys.length) : L xs ys i j ≤ L xs ys i (j + 1) + 1 := by
  unfold L
  rw [List.drop_eq_getElem_cons h]
  exact lcs_r _ _ _
theorem L_le {i j : Nat} : L xs ys i j ≤ xs.length := by
  have := lcs_le (xs.drop i) (ys.drop j)
  unfold L
  rw [List.length_drop] at this
  omega
/-- the law's own way: all three -/
theorem L_law {i j : Nat} {x : Option Str} {y : Str} (h1 : xs[i]? = some x) (h2 : ys[j]? = some y) :
    L xs ys i j = if x = some y then max (max (L xs ys (i + 1) j) (L xs ys i (j + 1))) (L xs ys (i + 1) (j + 1) + 1) else max (L xs ys (i + 1) j) (L xs ys i (j + 1)) := by
  rw [L_step h1 h2]
  have l1 := (List.getElem?_eq_some_iff.mp h1).1
  have l2 := (List.getElem?_eq_some_iff.mp h2).1
  split
  · have a := @L_r xs ys (i + 1) j l2
    have b := @L_l xs ys i (j + 1) l1
    omega
  · rfl
/-! ### steps -/
inductive KStep where
  | keep (i j : Nat)
  | cut (i : Nat)
  | put (j : Nat)
deriving DecidableEq
def steps (xs : List (Option Str)) (ys : List Str) (i j : Nat) : List KStep :=
  if h : eqAt xs ys i j = true then .keep i j :: steps xs ys (i + 1) (j + 1)
  else if h2 : i < xs.length ∧ L xs ys (i + 1) j = L xs ys i j then .cut i :: steps xs ys (i + 1) j
  else if h3 : j < ys.length then .put j :: steps xs ys i (j + 1)
  else []
termination_by (xs.length - i) + (ys.length - j)
decreasing_by
  · have := eqAt_lt h
    omega
  · omega
  · omega
theorem steps_keep {i j : Nat} (h : eqAt xs ys i j = true) : steps xs ys i j = .keep i j :: steps xs ys (i + 1) (j + 1) := by
  rw [steps, dif_pos h]
theorem steps_cut {i j : Nat} (h : ¬ eqAt xs ys i j = true) (h2 : i < xs.length) (h3 : L xs ys (i + 1) j = L xs ys i j) : steps xs ys i j = .cut i :: steps xs ys (i + 1) j := by
  rw [steps, dif_neg h, dif_pos ⟨h2, h3⟩]
theorem steps_put {i j : Nat} (h : ¬ eqAt xs ys i j = true) (h2 : ¬ (i < xs.length ∧ L xs ys (i + 1) j = L xs ys i j)) (h3 : j < ys.length) : steps xs ys i j = .put j :: steps xs ys i (j + 1) := by
  rw [steps, dif_neg h, dif_neg h2, dif_pos h3]
theorem steps_end {i j : Nat} (h1 : xs.length ≤ i) (h2 : ys.length ≤ j) : steps xs ys i j = [] := by
  have h : ¬ eqAt xs ys i j = true := fun z => by
    have := eqAt_lt z
    omega
  rw [steps, dif_neg h, dif_neg (fun z => by omega), dif_neg (by omega)]
/-- where lines are left and nothing is kept or cut, there is a line to put -/
theorem put_lt {i j : Nat} (h0 : i < xs.length ∨ j < ys.length) (h2 : ¬ (i < xs.length ∧ L xs ys (i + 1) j = L xs ys i j)) : j < ys.length := by
  rcases h0 with h | h
  · by_cases hj : j < ys.length
    · exact hj
    · refine absurd ⟨h, ?_⟩ h2
      rw [L_end2 (by omega), L_end2 (by omega)]
  · exact h
def isKeep : KStep → Bool
  | .keep _ _ => true
  | _ => false
def keeps (ss : List KStep) : Nat := (ss.filter isKeep).length
theorem steps_keeps : ∀ (n i j : Nat), (xs.length - i) + (ys.length - j) ≤ n → keeps (steps xs ys i j) = L xs ys i j := by
  intro n
  induction n with
  | zero =>
    intro i j h
    rw [steps_end (by omega) (by omega), L_end1 (by omega)]
    rfl
  | succ n ih =>
    intro i j h
    by_cases h1 : eqAt xs ys i j = true
    · obtain ⟨l1, l2⟩ := eqAt_lt h1
      rw [steps_keep h1]
      have e := ih (i + 1) (j + 1) (by omega)
      have e2 := L_step (List.getElem?_eq_getElem l1) (List.getElem?_eq_getElem l2)
      rw [eqAt_of (List.getElem?_eq_getElem l1) (List.getElem?_eq_getElem l2)] at h1
      rw [if_pos (of_decide_eq_true h1)] at e2
      rw [e2, ← e]
      rfl
    · by_cases h2 : i < xs.length ∧ L xs ys (i + 1) j = L xs ys i j
      · rw [steps_cut h1 h2.1 h2.2, ← h2.2, ← ih (i + 1) j (by omega)]
        rfl
      · by_cases h3 : j < ys.length
        · rw [steps_put h1 h2 h3]
          have e := ih i (j + 1) (by omega)
          have e3 : L xs ys i j = L xs ys i (j + 1) := by
            by_cases l1 : i < xs.length
            · have e2 := L_step (List.getElem?_eq_getElem l1) (List.getElem?_eq_getElem h3)
              rw [eqAt_of (List.getElem?_eq_getElem l1) (List.getElem?_eq_getElem h3)] at h1
              rw [if_neg (fun z => h1 (decide_eq_true z))] at e2
              have ne : ¬ L xs ys (i + 1) j = L xs ys i j := fun z => h2 ⟨l1, z⟩
              omega
            · rw [L_end1 (by omega), L_end1 (by omega)]
          rw [e3, ← e]
          rfl
        · have hi : ¬ i < xs.length := fun z => h3 (put_lt (.inl z) h2)
          rw [steps_end (by omega) (by omega), L_end1 (by omega)]
          rfl
/-- whether steps from i and j on lead to the ends -/
def right (xs : List (Option Str)) (ys : List Str) : List KStep → Nat → Nat → Bool
  | [], i, j => decide (i = xs.length) && decide (j = ys.length)
  | .keep a b :: r, i, j => if a = i ∧ b = j ∧ eqAt xs ys i j = true then right xs ys r (i + 1) (j + 1) else false
  | .cut a :: r, i, j => if a = i ∧ i < xs.length then right xs ys r (i + 1) j else false
  | .put b :: r, i, j => if b = j ∧ j < ys.length then right xs ys r i (j + 1) else false
theorem steps_right : ∀ (n i j : Nat), (xs.length - i) + (ys.length - j) ≤ n → i ≤ xs.length → j ≤ ys.length → right xs ys (steps xs ys i j) i j = true := by
  intro n
  induction n with
  | zero =>
    intro i j h h1 h2
    rw [steps_end (by omega) (by omega)]
    have e1 : i = xs.length := by omega
    have e2 : j = ys.length := by omega
    simp [right, e1, e2]
  | succ n ih =>
    intro i j h z1 z2
    by_cases h1 : eqAt xs ys i j = true
    · obtain ⟨l1, l2⟩ := eqAt_lt h1
      rw [steps_keep h1]
      show (if i = i ∧ j = j ∧ eqAt xs ys i j = true then right xs ys (steps xs ys (i + 1) (j + 1)) (i + 1) (j + 1) else false) = true
      rw [if_pos ⟨rfl, rfl, h1⟩]
      exact ih _ _ (by omega) (by omega) (by omega)
    · by_cases h2 : i < xs.length ∧ L xs ys (i + 1) j = L xs ys i j
      · rw [steps_cut h1 h2.1 h2.2]
        show (if i = i ∧ i < xs.length then right xs ys (steps xs ys (i + 1) j) (i + 1) j else false) = true
        rw [if_pos ⟨rfl, h2.1⟩]
        exact ih _ _ (by omega) (by omega) (by omega)
      · by_cases h3 : j < ys.length
        · rw [steps_put h1 h2 h3]
          show (if j = j ∧ j < ys.length then right xs ys (steps xs ys i (j + 1)) i (j + 1) else false) = true
          rw [if_pos ⟨rfl, h3⟩]
          exact ih _ _ (by omega) (by omega) (by omega)
        · have hi : ¬ i < xs.length := fun z => h3 (put_lt (.inl z) h2)
          rw [steps_end (by omega) (by omega)]
          have e1 : i = xs.length := by omega
          have e2 : j = ys.length := by omega
          simp [right, e1, e2]
theorem steps_len : ∀ (n i j : Nat), (xs.length - i) + (ys.length - j) ≤ n → (steps xs ys i j).length ≤ n := by
  intro n
  induction n with
  | zero =>
    intro i j h
    rw [steps_end (by omega) (by omega)]
    exact Nat.le_refl 0
  | succ n ih =>
    intro i j h
    by_cases h1 : eqAt xs ys i j = true
    · obtain ⟨l1, l2⟩ := eqAt_lt h1
      rw [steps_keep h1, List.length_cons]
      have := ih (i + 1) (j + 1) (by omega)
      omega
    · by_cases h2 : i < xs.length ∧ L xs ys (i + 1) j = L xs ys i j
      · rw [steps_cut h1 h2.1 h2.2, List.length_cons]
        have := ih (i + 1) j (by omega)
        omega
      · by_cases h3 : j < ys.length
        · rw [steps_put h1 h2 h3, List.length_cons]
          have := ih i (j + 1) (by omega)
          omega
        · have hi : ¬ i < xs.length := fun z => h3 (put_lt (.inl z) h2)
          rw [steps_end (by omega) (by omega)]
          exact Nat.zero_le _
theorem right_cons (s : KStep) (r : List KStep) (i j : Nat) : right xs ys (s :: r) i j =
    if s = .keep i j ∧ i < xs.length ∧ j < ys.length ∧ eqAt xs ys i j = true then right xs ys r (i + 1) (j + 1)
    else if s = .cut i ∧ i < xs.length then right xs ys r (i + 1) j
    else if s = .put j ∧ j < ys.length then right xs ys r i (j + 1) else false := by
  cases s with
  | keep a b =>
    show (if a = i ∧ b = j ∧ eqAt xs ys i j = true then _ else false) = _
    by_cases h : a = i ∧ b = j ∧ eqAt xs ys i j = true
    · obtain ⟨rfl, rfl, h⟩ := h
      rw [if_pos ⟨rfl, rfl, h⟩, if_pos ⟨rfl, (eqAt_lt h).1, (eqAt_lt h).2, h⟩]
    · rw [if_neg h, if_neg, if_neg (fun z => (nomatch z.1)), if_neg (fun z => (nomatch z.1))]
      rintro ⟨e, _, _, h2⟩
      cases e
      exact h ⟨rfl, rfl, h2⟩
  | cut a =>
    show (if a = i ∧ i < xs.length then _ else false) = _
    have n1 : ¬ (KStep.cut a = .keep i j ∧ i < xs.length ∧ j < ys.length ∧ eqAt xs ys i j = true) := fun z => (nomatch z.1)
    have n2 : ¬ (KStep.cut a = .put j ∧ j < ys.length) := fun z => (nomatch z.1)
    rw [if_neg n1, if_neg n2]
    by_cases h : a = i ∧ i < xs.length
    · rw [if_pos h, if_pos ⟨by rw [h.1], h.2⟩]
    · rw [if_neg h, if_neg]
      rintro ⟨e, h2⟩
      cases e
      exact h ⟨rfl, h2⟩
  | put b =>
    show (if b = j ∧ j < ys.length then _ else false) = _
    have n1 : ¬ (KStep.put b = .keep i j ∧ i < xs.length ∧ j < ys.length ∧ eqAt xs ys i j = true) := fun z => (nomatch z.1)
    have n2 : ¬ (KStep.put b = .cut i ∧ i < xs.length) := fun z => (nomatch z.1)
    rw [if_neg n1, if_neg n2]
    by_cases h : b = j ∧ j < ys.length
    · rw [if_pos h, if_pos ⟨by rw [h.1], h.2⟩]
    · rw [if_neg h, if_neg]
      rintro ⟨e, h2⟩
      cases e
      exact h ⟨rfl, h2⟩
/-! ### the law's own way to judge steps -/
def isKC : KStep → Bool
  | .put _ => false
  | _ => true
def isKP : KStep → Bool
  | .cut _ => false
  | _ => true
def n1 : KStep → Nat
  | .keep i _ => i
  | .cut i => i
  | .put j => j
def nl : KStep → Nat
  | .keep _ j => j
  | .cut i => i
  | .put j => j
theorem right_law (s : KStep) (r : List KStep) (i j : Nat) : right xs ys (s :: r) i j =
    if isKC s = true ∧ (n1 s ≠ i ∨ xs.length ≤ i) then false
    else if isKP s = true ∧ (nl s ≠ j ∨ ys.length ≤ j) then false
    else if isKeep s = true ∧ ¬ eqAt xs ys i j = true then false
    else right xs ys r (i + if isKC s = true then 1 else 0) (j + if isKP s = true then 1 else 0) := by
  cases s with
  | keep a b =>
    show (if a = i ∧ b = j ∧ eqAt xs ys i j = true then right xs ys r (i + 1) (j + 1) else false) = if true = true ∧ (a ≠ i ∨ xs.length ≤ i) then false else if true = true ∧ (b ≠ j ∨ ys.length ≤ j) then false else if true = true ∧ ¬ eqAt xs ys i j = true then false else right xs ys r (i + 1) (j + 1)
    by_cases h : a = i ∧ b = j ∧ eqAt xs ys i j = true
    · obtain ⟨rfl, rfl, h⟩ := h
      obtain ⟨l1, l2⟩ := eqAt_lt h
      rw [if_pos ⟨rfl, rfl, h⟩, if_neg (by rintro ⟨_, z | z⟩; exact z rfl; omega), if_neg (by rintro ⟨_, z | z⟩; exact z rfl; omega), if_neg (fun z => z.2 h)]
    · rw [if_neg h]
      split
      · rfl
      · rename_i h1
        split
        · rfl
        · rename_i h2
          split
          · rfl
          · rename_i h3
            refine absurd ⟨?_, ?_, ?_⟩ h
            · exact Decidable.byContradiction fun z => h1 ⟨rfl, .inl z⟩
            · exact Decidable.byContradiction fun z => h2 ⟨rfl, .inl z⟩
            · exact Decidable.byContradiction fun z => h3 ⟨rfl, z⟩
  | cut a =>
    show (if a = i ∧ i < xs.length then right xs ys r (i + 1) j else false) = if true = true ∧ (a ≠ i ∨ xs.length ≤ i) then false else if false = true ∧ (a ≠ j ∨ ys.length ≤ j) then false else if false = true ∧ ¬ eqAt xs ys i j = true then false else right xs ys r (i + 1) (j + 0)
    rw [if_neg (c := false = true ∧ (a ≠ j ∨ ys.length ≤ j)) (fun z => nomatch z.1), if_neg (c := false = true ∧ ¬ eqAt xs ys i j = true) (fun z => nomatch z.1)]
    by_cases h : a = i ∧ i < xs.length
    · rw [if_pos h, if_neg (by rintro ⟨_, z | z⟩; exact z h.1; omega)]
      rfl
    · rw [if_neg h, if_pos]
      refine ⟨rfl, ?_⟩
      omega
  | put a =>
    show (if a = j ∧ j < ys.length then right xs ys r i (j + 1) else false) = if false = true ∧ (a ≠ i ∨ xs.length ≤ i) then false else if true = true ∧ (a ≠ j ∨ ys.length ≤ j) then false else if false = true ∧ ¬ eqAt xs ys i j = true then false else right xs ys r (i + 0) (j + 1)
    rw [if_neg (c := false = true ∧ (a ≠ i ∨ xs.length ≤ i)) (fun z => nomatch z.1), if_neg (c := false = true ∧ ¬ eqAt xs ys i j = true) (fun z => nomatch z.1)]
    by_cases h : a = j ∧ j < ys.length
    · rw [if_pos h, if_neg (by rintro ⟨_, z | z⟩; exact z h.1; omega)]
      rfl
    · rw [if_neg h, if_pos]
      refine ⟨rfl, ?_⟩
      omega
/-! ### rows of a table -/
theorem range_set {α : Type} (n j : Nat) (f : Nat → α) (v : α) : ((List.range n).map f).set j v = (List.range n).map fun q => if q = j then v else f q := by
  apply List.ext_getElem
  · simp
  · intro i h1 h2
    simp only [List.getElem_set, List.getElem_map, List.getElem_range]
    by_cases e : j = i
    · subst e
      simp
    · rw [if_neg e, if_neg (fun z => e z.symm)]
theorem range_get {α : Type} {n j : Nat} (f : Nat → α) (h : j < n) : ((List.range n).map f)[j]? = some (f j) := by
  simp [List.getElem?_map, List.getElem?_range, h]
end K15
namespace K12
open PySem PySem.Spec PyProof.Rows L2 TR QR K15
abbrev sKB : Stmt := topS 9
abbrev nKB : List Str := ["one", "other", "table", "i", "below", "row", "j"]
theorem scKB : FnScope nKB ["one", "other"] (defScope sKB) := ⟨rfl, rfl, rfl, by decide +kernel, rfl, by decide +kernel, by decide +kernel⟩
def rowV (xs : List (Option Str)) (ys : List Str) (i : Nat) : List V := (List.range (ys.length + 1)).map fun j => V.int (L xs ys i j : Nat)
def rowP (xs : List (Option Str)) (ys : List Str) (i k : Nat) : List V := (List.range (ys.length + 1)).map fun j => V.int ((if j + k < ys.length then 0 else L xs ys i j : Nat))
theorem rowP_zero (xs : List (Option Str)) (ys : List Str) (i : Nat) : rowP xs ys i 0 = (List.range (ys.length + 1)).map fun _ => V.int 0 := by
  refine List.map_congr_left fun j hj => ?_
  have := List.mem_range.mp hj
  by_cases h : j + 0 < ys.length
  · rw [if_pos h]
    rfl
  · rw [if_neg h, L_end2 (by omega)]
    rfl
theorem rowP_end (xs : List (Option Str)) (ys : List Str) (i : Nat) : rowP xs ys i ys.length = rowV xs ys i := by
  refine List.map_congr_left fun j hj => ?_
  rw [if_neg (by omega)]
theorem rowP_set (xs : List (Option Str)) (ys : List Str) (i k : Nat) (h : k < ys.length) : (rowP xs ys i k).set (ys.length - 1 - k) (V.int (L xs ys i (ys.length - 1 - k) : Nat)) = rowP xs ys i (k + 1) := by
  unfold rowP
  rw [range_set]
  refine List.map_congr_left fun j hj => ?_
  by_cases e : j = ys.length - 1 - k
  · rw [if_pos e, if_neg (by omega), e]
  · rw [if_neg e]
    by_cases h2 : j + k < ys.length
    · rw [if_pos h2, if_pos (by omega)]
    · rw [if_neg h2, if_neg (by omega)]
theorem rowV_get {xs : List (Option Str)} {ys : List Str} {i j : Nat} (h : j ≤ ys.length) : (rowV xs ys i)[j]? = some (.int (L xs ys i j : Nat)) := range_get _ (by omega)
theorem rowP_get {xs : List (Option Str)} {ys : List Str} {i j k : Nat} (h : j ≤ ys.length) (h2 : ys.length ≤ j + k) : (rowP xs ys i k)[j]? = some (.int (L xs ys i j : Nat)) := by
  unfold rowP
  rw [range_get _ (by omega), if_neg (by omega)]
theorem rowP_len (xs : List (Option Str)) (ys : List Str) (i k : Nat) : (rowP xs ys i k).length = ys.length + 1 := by
  unfold rowP
  rw [List.length_map, List.length_range]
theorem rowV_end {xs : List (Option Str)} {ys : List Str} {i : Nat} (h : xs.length ≤ i) : rowV xs ys i = (List.range (ys.length + 1)).map fun _ => V.int 0 := by
  refine List.map_congr_left fun j hj => ?_
  rw [L_end1 h]
  rfl
/-- at t stands the table of rows, the first one that of i -/
structure TabAt (H : Hp) (xs : List (Option Str)) (ys : List Str) (t : Addr) (rs : List Addr) : Prop where
  at_ : H t = some (.lst (rs.map V.ref))
  len : rs.length = xs.length + 1
  row : ∀ i r, rs[i]? = some r → H r = some (.lst (rowV xs ys i))
theorem TabAt.same {H H' : Hp} {xs : List (Option Str)} {ys : List Str} {t : Addr} {rs : List Addr} (h : TabAt H xs ys t rs) (s : Same H H') : TabAt H' xs ys t rs :=
  ⟨s _ _ h.at_, h.len, fun i r e => s _ _ (h.row i r e)⟩
section
variable {P : Program} {w : World} {K : PySem.W.Frag} {mg : Str → Option Value} {base : Heap}
def spKB : Sp := fun vs H Q _ => ∃ (a b : Addr) (xs : List (Option Str)) (ys : List Str), vs = [.ref a, .ref b] ∧ H a = some (.lst (xs.map lnV)) ∧ H b = some (.lst (ys.map V.str)) ∧ xs.length ≤ 1000 ∧ ys.length ≤ 1000 ∧
  ∀ H' t rs, Same H H' → H t = none → TabAt H' xs ys t rs → Q (.ref t) H'
theorem ok_KB {f : Addr} {fd : FuncData} (F : Fun K "kept_behind" "kept_behind" sKB f fd)
    (m_len : mg "len" = none) (m_range : mg "range" = none) (m_reversed : mg "reversed" = none) (m_max : mg "max" = none) : FnOk P w K mg base CX0 1 f fd ["one", "other"] spKB := by
  refine F.ok scKB (fun vs H Q E h => ?_) (fun cdv A outer s H vs Q E hr h => ?_)
  · obtain ⟨a, b, xs, ys, rfl, _⟩ := h
    rfl
  · obtain ⟨a, b, xs, ys, rfl, ha, hb, hx, hy, q⟩ := h
    have hu := hr.units
    have hu1 := hu_of hr
    have zl := zl
    refine ⟨_, (pss_cons (ps_set (i := 2) scKB.nd rfl (.inl rfl) (pe_lst (pa_cons (pe_op op_rep (pe_lst (pa_cons (pe_int) pa_nil)) (pe_op op_add (pe_callB call_len_seq (by rfl) m_len PySem.boot_len (pa_cons (pv 1) pa_nil)) (pe_int))) pa_nil)))
      (pss_cons (ps_for PassesOwn.never rfl (pi_revR (by rfl) m_reversed (prg_1 (by rfl) m_range (pe_callB call_len_seq (by rfl) m_len PySem.boot_len (pa_cons (pv 0) pa_nil)))) (pg_name (i := 3) scKB.nd rfl (.inl rfl))
      (pss_cons (ps_par (i := 4) (j := 5) (by rfl) scKB.nd rfl rfl (by decide) rfl rfl (pa_cons (pe_ix ix_list (pv 2) (pe_un un_neg (pe_int)) (fun _ _ => rfl)) (pa_cons (pe_op op_rep (pe_lst (pa_cons (pe_int) pa_nil)) (pe_op op_add (pe_callB call_len_seq (by rfl) m_len PySem.boot_len (pa_cons (pv 1) pa_nil)) (pe_int))) pa_nil)) (by rfl))
      (pss_cons (ps_for PassesOwn.never rfl (pi_revR (by rfl) m_reversed (prg_1 (by rfl) m_range (pe_callB call_len_seq (by rfl) m_len PySem.boot_len (pa_cons (pv 1) pa_nil)))) (pg_name (i := 6) scKB.nd rfl (.inl rfl))
      (pss_one (ps_asg (pe_ifExp (pt_cmpR op_eq (pe_ix ix_list (pv 0) (pv 3) (fun _ _ => rfl)) (pe_ix ix_list (pv 1) (pv 6) (fun _ _ => rfl)) (nomark _)) (pe_op op_add (pe_ix ix_list (pv 4) (pe_op op_add (pv 6) (pe_int)) (fun _ _ => rfl)) (pe_int)) (pe_callB (call_max2 rfl) (by rfl) m_max (by decide +kernel) (pa_cons (pe_ix ix_list (pv 4) (pv 6) (fun _ _ => rfl)) (pa_cons (pe_ix ix_list (pv 5) (pe_op op_add (pv 6) (pe_int)) (fun _ _ => rfl)) pa_nil)))) (pg_sub (pv 5) (pv 6) set_list))))
      (pss_one (ps_expr (pe_bm PySem.F.plainAttrs_list PySem.F.slot_list_append PySem.F.type_list_append mt_append (pv 2) (pa_cons (pv 5) pa_nil)))))))
      (pss_one (ps_ret (pe_rev (pv 2) (pe_un un_neg pe_int)))))), ?_⟩
    -- table = [[0] * (len(other) + 1)]
    have lb : (((ys.map V.str).length : Int) + 1).toNat = ys.length + 1 := by
      rw [List.length_map]
      omega
    refine ⟨by show 1 ≤ sizeLine; omega, fun z0 nz0 => ?_⟩
    have sz : Same H (upd H z0 (.lst [.int 0])) := same_new nz0
    refine ⟨_, rfl, b, _, rfl, .inl (SqL.of (sz _ _ hb)), _, _, rfl, rfl, z0, _, _, rfl, rfl, upd_same, by omega, by rw [List.length_map]; omega, by rw [lb]; show 1 * (ys.length + 1) ≤ sizeLine; omega, fun r0 nr0 => ?_⟩
    rw [lb, flat_rep]
    have sr : Same H (upd (upd H z0 (.lst [.int 0])) r0 (.lst ((List.range (ys.length + 1)).map fun _ => V.int 0))) := same_trans sz (same_new nr0)
    have er : upd (upd H z0 (.lst [.int 0])) r0 (.lst ((List.range (ys.length + 1)).map fun _ => V.int 0)) r0 = _ := upd_same
    have nr : H r0 = none := same_none sz nr0
    generalize upd (upd H z0 (.lst [.int 0])) r0 (.lst ((List.range (ys.length + 1)).map fun _ => V.int 0)) = H1 at sr er
    refine ⟨by show 1 ≤ sizeLine; omega, fun t nt => ?_⟩
    have nt0 : H t = none := same_none sr nt
    have st : Same H (upd H1 t (.lst [.ref r0])) := same_trans sr (same_new nt)
    have ert : upd H1 t (.lst [.ref r0]) r0 = _ := same_new nt _ _ er
    have ntr : r0 ≠ t := ne_of_none er nt
    clear nz0 sz nr0
    -- for i in reversed(range(len(one)))
    refine ⟨_, rfl, a, _, rfl, .inl (SqL.of (st _ _ ha)), _, rfl, by omega, by omega, by omega, by rw [List.length_map]; omega, for_rangeC (fun k σ H' => ∃ (y3 y4 y5 y6 : Option V) (rs : List Addr), σ = [some (.ref a), some (.ref b), some (.ref t), y3, y4, y5, y6] ∧ rs.length = k + 1 ∧ Same H H' ∧ H' t = some (.lst (rs.map V.ref)) ∧
      (∀ i r, rs[i]? = some r → r ≠ t ∧ H' r = some (.lst (rowV xs ys (xs.length - i))))) ⟨none, none, none, none, [r0], rfl, rfl, st, upd_same, ?_⟩ ?_ ?_⟩
    · intro i r e
      cases i with
      | zero =>
        cases e
        rw [rowV_end (by omega)]
        exact ⟨ntr, ert⟩
      | succ i => cases e
    · rintro k σ H' hk ⟨y3, y4, y5, y6, rs, rfl, lrs, sH, et, hrow⟩
      have lx : (((xs.map lnV).length : Int) - 0).toNat = xs.length := by
        rw [List.length_map]
        omega
      rw [lx] at hk
      have ei : (0 : Int) + (((((xs.map lnV).length : Int) - 0).toNat : Nat) : Int) - 1 + (k : Int) * -1 = ((xs.length - 1 - k : Nat) : Int) := by
        rw [lx]
        omega
      rw [ei]
      clear ei
      generalize hi : xs.length - 1 - k = i
      -- below, row = table[-1], [0] * (len(other) + 1)
      obtain ⟨rb, erb⟩ : ∃ rb, rs[k]? = some rb := ⟨rs[k], List.getElem?_eq_getElem (by omega)⟩
      obtain ⟨nbt, eb⟩ := hrow k rb erb
      rw [show xs.length - k = i + 1 by omega] at eb
      have elast : (rs.map V.ref)[(rs.map V.ref).length - 1]? = some (.ref rb) := by
        rw [List.length_map, lrs]
        exact get_map _ erb
      refine ⟨_, rfl, _, rfl, t, _, -1, .ref rb, rfl, rfl, SqL.of et, atI_end elast, ?_⟩
      refine ⟨by show 1 ≤ sizeLine; omega, fun z0 nz0 => ?_⟩
      have sz : Same H' (upd H' z0 (.lst [.int 0])) := same_new nz0
      refine ⟨_, rfl, b, _, rfl, .inl (SqL.of (sz _ _ (sH _ _ hb))), _, _, rfl, rfl, z0, _, _, rfl, rfl, upd_same, by omega, by rw [List.length_map]; omega, by rw [lb]; show 1 * (ys.length + 1) ≤ sizeLine; omega, fun R nR => ?_⟩
      rw [lb, flat_rep, ← rowP_zero xs ys i]
      generalize upd H' z0 (.lst [.int 0]) = H2 at sz nR
      clear nz0
      have s2 : Same H H2 := same_trans sH sz
      have nR' : H' R = none := same_none sz nR
      refine ⟨_, _, rfl, ?_⟩
      have sR : ∀ k2, Same H' (upd H2 R (.lst (rowP xs ys i k2))) := fun k2 => same_trans sz (same_new nR)
      -- for j in reversed(range(len(other)))
      refine ⟨_, rfl, b, _, rfl, .inl (SqL.of (sR 0 _ _ (sH _ _ hb))), _, rfl, by omega, by omega, by omega, by rw [List.length_map]; omega, for_rangeC (fun k2 σ H3 => ∃ (y6 : Option V), σ = [some (.ref a), some (.ref b), some (.ref t), some (.int (i : Int)), some (.ref rb), some (.ref R), y6] ∧ H3 = upd H2 R (.lst (rowP xs ys i k2)))
        ⟨y6, rfl, rfl⟩ ?_ ?_⟩
      · rintro k2 σ H3 hk2 ⟨y6, rfl, rfl⟩
        have ly : (((ys.map V.str).length : Int) - 0).toNat = ys.length := by
          rw [List.length_map]
          omega
        rw [ly] at hk2
        have ej : (0 : Int) + (((((ys.map V.str).length : Int) - 0).toNat : Nat) : Int) - 1 + (k2 : Int) * -1 = ((ys.length - 1 - k2 : Nat) : Int) := by
          rw [ly]
          omega
        rw [ej]
        clear ej
        have hP := sR k2
        have eR : upd H2 R (.lst (rowP xs ys i k2)) R = _ := upd_same
        have hset := rowP_set xs ys i k2 hk2
        generalize hj : ys.length - 1 - k2 = j at hset
        have li : i < xs.length := by omega
        have lj : j < ys.length := by omega
        have gx := List.getElem?_eq_getElem li
        have gy := List.getElem?_eq_getElem lj
        have key := L_step gx gy
        refine ⟨_, rfl, _, rfl, a, _, _, _, rfl, rfl, SqL.of (hP _ _ (sH _ _ ha)), atI_nat (get_map _ gx), ?_⟩
        refine ⟨_, rfl, _, rfl, b, _, _, _, rfl, rfl, SqL.of (hP _ _ (sH _ _ hb)), atI_nat (get_map _ gy), scal_ln _ _, _, rfl, ?_⟩
        rw [dec_ln]
        have e1 : decide (xs[i] = some ys[j]) = true → ((L xs ys (i + 1) (j + 1) : Nat) : Int) + 1 = ((L xs ys i j : Nat) : Int) := fun h => by
          rw [key, if_pos (of_decide_eq_true h)]
          omega
        have e2 : ¬ decide (xs[i] = some ys[j]) = true → (if ((L xs ys i (j + 1) : Nat) : Int) > ((L xs ys (i + 1) j : Nat) : Int) then ((L xs ys i (j + 1) : Nat) : Int) else ((L xs ys (i + 1) j : Nat) : Int)) = ((L xs ys i j : Nat) : Int) := fun h => by
          rw [key, if_neg (fun z => h (decide_eq_true z))]
          split <;> omega
        refine ite2 (fun h1 => ?_) (fun h1 => ?_)
        · refine ⟨_, rfl, _, rfl, _, _, rfl, rfl, rb, _, _, _, rfl, rfl, SqL.of (hP _ _ eb), atI_s (rowV_get (by omega)), _, _, rfl, rfl, ?_⟩
          refine ⟨_, rfl, _, rfl, R, _, _, j, rfl, rfl, eR, ixN_nat (by rw [rowP_len]; omega), _, rfl, ?_⟩
          rw [upd_upd, ← hset, ← e1 h1]
        · refine ⟨_, rfl, _, rfl, rb, _, _, _, rfl, rfl, SqL.of (hP _ _ eb), atI_nat (rowV_get (by omega)), _, rfl, _, rfl, _, _, rfl, rfl, R, _, _, _, rfl, rfl, SqL.of eR, atI_s (rowP_get (by omega) (by omega)), _, _, rfl, ?_⟩
          refine ⟨_, rfl, _, rfl, R, _, _, j, rfl, rfl, eR, ixN_nat (by rw [rowP_len]; omega), _, rfl, ?_⟩
          rw [upd_upd, ← hset, ← e2 h1]
      · rintro σ H3 ⟨y6, rfl, rfl⟩
        have ly : (((ys.map V.str).length : Int) - 0).toNat = ys.length := by
          rw [List.length_map]
          omega
        rw [ly, rowP_end]
        have hP := sR ys.length
        rw [rowP_end] at hP
        have nRt : t ≠ R := ne_of_none et nR'
        refine ⟨_, rfl, .inl ⟨rfl, _, SqL.of (hP _ _ et)⟩, _, rfl, t, _, _, rfl, rfl, hP _ _ et, by rw [List.length_map]; omega, ?_⟩
        refine ⟨_, _, _, _, rs ++ [R], rfl, by rw [List.length_append, lrs]; rfl, ?_, ?_, ?_⟩
        · intro q o e
          rw [upd_ne (ne_of_none e nt0)]
          exact hP _ _ (sH _ _ e)
        · rw [upd_same, List.map_append]
          rfl
        · intro p r e
          by_cases hp : p < rs.length
          · rw [List.getElem?_append_left hp] at e
            obtain ⟨n1, e1⟩ := hrow p r e
            exact ⟨n1, by rw [upd_ne n1]; exact hP _ _ e1⟩
          · rw [List.getElem?_append_right (by omega)] at e
            have ep : p - rs.length = 0 := by
              have := (List.getElem?_eq_some_iff.mp e).1
              rw [List.length_singleton] at this
              omega
            rw [ep] at e
            cases e
            refine ⟨Ne.symm nRt, ?_⟩
            rw [upd_ne (Ne.symm nRt), upd_same, show xs.length - p = i by omega]
    · rintro σ H' ⟨y3, y4, y5, y6, rs, rfl, lrs, sH, et, hrow⟩
      have lx : (((xs.map lnV).length : Int) - 0).toNat = xs.length := by
        rw [List.length_map]
        omega
      rw [lx] at lrs
      refine ⟨_, rfl, _, rfl, rfl, t, _, rfl, SqL.of et, fun u nu => ?_⟩
      have nu0 := same_none sH nu
      refine q _ u rs.reverse (same_trans sH (same_new nu)) nu0 ⟨by rw [upd_same, List.map_reverse], by rw [List.length_reverse]; exact lrs, ?_⟩
      intro i r e
      have li : i < rs.reverse.length := (List.getElem?_eq_some_iff.mp e).1
      rw [List.length_reverse] at li
      rw [List.getElem?_reverse li] at e
      obtain ⟨_, e1⟩ := hrow _ r e
      rw [upd_ne (ne_of_none e1 nu), e1, show xs.length - (rs.length - 1 - i) = i by omega]
end
end K12
namespace K12
open PySem PySem.Spec PyProof.Rows L2 TR QR K15
abbrev sSB : Stmt := topS 10
abbrev nSB : List Str := ["one", "other", "table", "steps", "i", "j"]
theorem scSB : FnScope nSB ["one", "other"] (defScope sSB) := ⟨rfl, rfl, rfl, by decide +kernel, rfl, by decide +kernel, by decide +kernel⟩
def stepO : KStep → HO
  | .keep i j => .tup [.str "keep", .int i, .int j]
  | .cut i => .tup [.str "cut", .int i]
  | .put j => .tup [.str "put", .int j]
/-- a list of steps, each at its address -/
def StepsL (H : Hp) (ps : List (Addr × KStep)) : Prop := ∀ p ∈ ps, H p.1 = some (stepO p.2)
def refs (ps : List (Addr × KStep)) : List V := ps.map fun p => V.ref p.1
theorem refs_len (ps : List (Addr × KStep)) : (refs ps).length = ps.length := List.length_map _
theorem step_ne {H : Hp} {a r : Addr} {s : KStep} {l : List V} (h : H a = some (stepO s)) (hr : H r = some (.lst l)) : a ≠ r := fun z => by
  rw [z, hr] at h
  cases s <;> cases h
theorem stepO_tup (s : KStep) : ∃ l, stepO s = .tup l := by
  cases s <;> exact ⟨_, rfl⟩
section
variable {P : Program} {w : World} {K : PySem.W.Frag} {mg : Str → Option Value} {base : Heap}
def spSB : Sp := fun vs H Q _ => ∃ (a b : Addr) (xs : List (Option Str)) (ys : List Str), vs = [.ref a, .ref b] ∧ H a = some (.lst (xs.map lnV)) ∧ H b = some (.lst (ys.map V.str)) ∧ xs.length ≤ 1000 ∧ ys.length ≤ 1000 ∧
  ∀ H' r ps, Same H H' → H r = none → H' r = some (.lst (refs ps)) → StepsL H' ps → ps.map (·.2) = steps xs ys 0 0 → Q (.ref r) H'
theorem ok_SB {f fKB : Addr} {fd fdKB : FuncData} (F : Fun K "steps_between" "steps_between" sSB f fd)
    (GKB : FnOk P w K mg base CX0 1 fKB fdKB ["one", "other"] spKB) (bKB : Binds K fdKB ["one", "other"] []) (gKB : mg "kept_behind" = some (.ref fKB)) (kKB : PySem.W.keepIn K (.ref fKB) = true)
    (m_len : mg "len" = none) : FnOk P w K mg base CX0 2 f fd ["one", "other"] spSB := by
  refine F.ok scSB (fun vs H Q E h => ?_) (fun cdv A outer s H vs Q E hr h => ?_)
  · obtain ⟨a, b, xs, ys, rfl, _⟩ := h
    rfl
  · obtain ⟨a, b, xs, ys, rfl, ha, hb, hx, hy, q⟩ := h
    have hu := hr.units
    have hu1 := hu_of hr
    have hr1 : Room 1 _ := hr.mono (by decide)
    have zl := zl
    refine ⟨_, (pss_cons (ps_set (i := 2) scSB.nd rfl (.inl rfl) (pe_call GKB hr1 (by rfl) gKB kKB bKB .nil pass0 (pa_cons (pv 0) (pa_cons (pv 1) pa_nil))))
      (pss_cons (ps_par3 (i := 3) (j := 4) (l := 5) (by rfl) scSB.nd rfl rfl rfl (by decide) (by decide) (by decide) rfl rfl rfl (pa_cons (pe_lst (pa_nil)) (pa_cons (pe_int) (pa_cons (pe_int) pa_nil))) (by rfl))
      (pss_cons (ps_while PassesOwn.never (PW.pt (pw_or (pt_cmpR op_lt (pv 4) (pe_callB call_len_seq (by rfl) m_len PySem.boot_len (pa_cons (pv 0) pa_nil)) (nomark _)) (pw_or1 (pt_cmpR op_lt (pv 5) (pe_callB call_len_seq (by rfl) m_len PySem.boot_len (pa_cons (pv 1) pa_nil)) (nomark _)))))
      (pss_one (ps_if (PW.pt (pw_and (pt_cmpR op_lt (pv 4) (pe_callB call_len_seq (by rfl) m_len PySem.boot_len (pa_cons (pv 0) pa_nil)) (nomark _)) (pw_and (pt_cmpR op_lt (pv 5) (pe_callB call_len_seq (by rfl) m_len PySem.boot_len (pa_cons (pv 1) pa_nil)) (nomark _)) (pw_and1 (pt_cmpR op_eq (pe_ix ix_list (pv 0) (pv 4) (fun _ _ => rfl)) (pe_ix ix_list (pv 1) (pv 5) (fun _ _ => rfl)) (nomark _))))))
      (pss_cons (ps_expr (pe_bm PySem.F.plainAttrs_list PySem.F.slot_list_append PySem.F.type_list_append mt_append (pv 3) (pa_cons (pe_tup (pa_cons (pe_str) (pa_cons (pv 4) (pa_cons (pv 5) pa_nil)))) pa_nil)))
      (pss_one (ps_par (i := 4) (j := 5) (by rfl) scSB.nd rfl rfl (by decide) rfl rfl (pa_cons (pe_op op_add (pv 4) (pe_int)) (pa_cons (pe_op op_add (pv 5) (pe_int)) pa_nil)) (by rfl)))) (pss_one (ps_if (PW.pt (pw_and (pt_cmpR op_lt (pv 4) (pe_callB call_len_seq (by rfl) m_len PySem.boot_len (pa_cons (pv 0) pa_nil)) (nomark _)) (pw_and1 (pt_cmpR op_eq (pe_ix ix_list (pe_ix ix_list (pv 2) (pe_op op_add (pv 4) (pe_int)) (fun _ _ => rfl)) (pv 5) (fun _ _ => rfl)) (pe_ix ix_list (pe_ix ix_list (pv 2) (pv 4) (fun _ _ => rfl)) (pv 5) (fun _ _ => rfl)) (nomark _)))))
      (pss_cons (ps_expr (pe_bm PySem.F.plainAttrs_list PySem.F.slot_list_append PySem.F.type_list_append mt_append (pv 3) (pa_cons (pe_tup (pa_cons (pe_str) (pa_cons (pv 4) pa_nil))) pa_nil)))
      (pss_one (ps_aug (i := 4) scSB.nd rfl (.inl rfl) (pe_int) ip_add))) (pss_cons (ps_expr (pe_bm PySem.F.plainAttrs_list PySem.F.slot_list_append PySem.F.type_list_append mt_append (pv 3) (pa_cons (pe_tup (pa_cons (pe_str) (pa_cons (pv 5) pa_nil))) pa_nil)))
      (pss_one (ps_aug (i := 5) scSB.nd rfl (.inl rfl) (pe_int) ip_add))))))))
      (pss_one (ps_ret (pv 3)))))), ?_⟩
    refine ⟨_, rfl, _, rfl, a, b, xs, ys, rfl, ha, hb, hx, hy, fun H1 t rs s1 nt tab => ?_⟩
    refine ⟨by show 0 ≤ sizeLine; omega, fun r nr => ?_⟩
    have nr0 : H r = none := same_none s1 nr
    refine ⟨_, _, _, rfl, ?_⟩
    -- while
    refine ⟨fun n σ H' => ∃ (i j : Nat) (ps : List (Addr × KStep)), σ = [some (.ref a), some (.ref b), some (.ref t), some (.ref r), some (.int (i : Int)), some (.int (j : Int))] ∧ n = (xs.length - i) + (ys.length - j) ∧ i ≤ xs.length ∧ j ≤ ys.length ∧
      (∀ b o, b ≠ r → H1 b = some o → H' b = some o) ∧ H' r = some (.lst (refs ps)) ∧ StepsL H' ps ∧ ps.map (·.2) ++ steps xs ys i j = steps xs ys 0 0,
      ⟨_, 0, 0, [], rfl, rfl, Nat.zero_le _, Nat.zero_le _, fun b o n e => same_new nr _ _ e, upd_same, fun p hp => (nomatch hp), rfl⟩, ?_⟩
    rintro n σ H' ⟨i, j, ps, rfl, rfl, li, lj, fr, er, hst, hps⟩
    have old : ∀ {b o}, H1 b = some o → H' b = some o := fun {b o} e => fr b o (ne_of_none e nr) e
    have fa : ∀ {H2 : Hp}, Same H' H2 → H2 a = some (.lst (xs.map lnV)) := fun s => s _ _ (old (s1 _ _ ha))
    have fb : ∀ {H2 : Hp}, Same H' H2 → H2 b = some (.lst (ys.map V.str)) := fun s => s _ _ (old (s1 _ _ hb))
    have pl : ps.length ≤ xs.length + ys.length := by
      have h1 := congrArg List.length hps
      have h2 := steps_len (xs := xs) (ys := ys) (xs.length + ys.length) 0 0 (by omega)
      rw [List.length_append, List.length_map] at h1
      omega
    refine or_dec (p := i < xs.length) (q := j < ys.length) (fun R k => ⟨_, rfl, _, rfl, a, _, rfl, .inl (SqL.of (fa same_refl)), _, _, rfl, rfl, _, rfl, to_dec dec_lt (k _ same_refl)⟩)
      (fun _ H2 s2 R k => ⟨_, rfl, _, rfl, b, _, rfl, .inl (SqL.of (fb s2)), _, _, rfl, rfl, _, rfl, to_dec dec_lt (k _ same_refl)⟩) fun H2 s2 => ?_
    refine ite2 (fun h0 => ?_) (fun h0 => ?_)
    · have h0 := of_decide_eq_true h0
      have er2 : H2 r = some (.lst (refs ps)) := s2 _ _ er
      refine ⟨fun σ' H3 => ∃ n', n' < (xs.length - i) + (ys.length - j) ∧ ∃ (i j : Nat) (ps : List (Addr × KStep)), σ' = [some (.ref a), some (.ref b), some (.ref t), some (.ref r), some (.int (i : Int)), some (.int (j : Int))] ∧ n' = (xs.length - i) + (ys.length - j) ∧ i ≤ xs.length ∧ j ≤ ys.length ∧
        (∀ b o, b ≠ r → H1 b = some o → H3 b = some o) ∧ H3 r = some (.lst (refs ps)) ∧ StepsL H3 ps ∧ ps.map (·.2) ++ steps xs ys i j = steps xs ys 0 0, fun _ _ z => z, ?_⟩
      -- what each way leaves
      have next : ∀ (H3 : Hp) (u : Addr) (s : KStep) (i' j' : Nat), Same H' H3 → H3 u = none → (xs.length - i') + (ys.length - j') < (xs.length - i) + (ys.length - j) → i' ≤ xs.length → j' ≤ ys.length → steps xs ys i j = s :: steps xs ys i' j' →
          ∃ n', n' < (xs.length - i) + (ys.length - j) ∧ ∃ (i j : Nat) (ps_1 : List (Addr × KStep)), ([some (.ref a), some (.ref b), some (.ref t), some (.ref r), some (.int (i' : Int)), some (.int (j' : Int))] : List (Option V)) = [some (.ref a), some (.ref b), some (.ref t), some (.ref r), some (.int (i : Int)), some (.int (j : Int))] ∧ n' = (xs.length - i) + (ys.length - j) ∧ i ≤ xs.length ∧ j ≤ ys.length ∧
        (∀ b o, b ≠ r → H1 b = some o → (upd (upd H3 u (stepO s)) r (.lst (refs ps ++ [.ref u]))) b = some o) ∧ (upd (upd H3 u (stepO s)) r (.lst (refs ps ++ [.ref u]))) r = some (.lst (refs ps_1)) ∧ StepsL (upd (upd H3 u (stepO s)) r (.lst (refs ps ++ [.ref u]))) ps_1 ∧ ps_1.map (·.2) ++ steps xs ys i j = steps xs ys 0 0 := by
        intro H3 u s i' j' s3 nu hlt l1 l2 e
        have er3 : H3 r = some (.lst (refs ps)) := s3 _ _ er
        have nur : u ≠ r := fun z => by
          rw [z, er3] at nu
          cases nu
        refine ⟨_, hlt, i', j', ps ++ [(u, s)], rfl, rfl, l1, l2, ?_, ?_, ?_, ?_⟩
        · intro b o n e
          rw [upd_ne n, upd_ne (ne_of_none (s3 _ _ (fr b o n e)) nu)]
          exact s3 _ _ (fr b o n e)
        · rw [upd_same]
          unfold refs
          rw [List.map_append]
          rfl
        · intro p hp
          rcases List.mem_append.mp hp with hp | hp
          · have h1 := s3 _ _ (hst p hp)
            rw [upd_ne (step_ne h1 er3), upd_ne (ne_of_none h1 nu)]
            exact h1
          · cases List.mem_singleton.mp hp
            rw [upd_ne nur]
            exact upd_same
        · rw [List.map_append, List.append_assoc, ← hps, e]
          rfl
      -- if i < len(one) and j < len(other) and one[i] == other[j]
      refine and_dec (p := i < xs.length) (q := j < ys.length ∧ eqAt xs ys i j = true) (fun R k => ⟨_, rfl, _, rfl, a, _, rfl, .inl (SqL.of (fa s2)), _, _, rfl, rfl, _, rfl, to_dec dec_lt (k _ same_refl)⟩)
        (fun h1 H3 s3 R k => and_dec (p := j < ys.length) (q := eqAt xs ys i j = true) (fun R k => ⟨_, rfl, _, rfl, b, _, rfl, .inl (SqL.of (fb (same_trans s2 s3))), _, _, rfl, rfl, _, rfl, to_dec dec_lt (k _ same_refl)⟩)
          (fun h2 H4 s4 R k => ?_) k) fun H3 s3 => ite2 (fun h1 => ?_) (fun h1 => ?_)
      · have gx := List.getElem?_eq_getElem h1
        have gy := List.getElem?_eq_getElem h2
        have s5 := same_trans s2 (same_trans s3 s4)
        refine ⟨_, rfl, _, rfl, a, _, _, _, rfl, rfl, SqL.of (fa s5), atI_nat (get_map _ gx), ?_⟩
        refine ⟨_, rfl, _, rfl, b, _, _, _, rfl, rfl, SqL.of (fb s5), atI_nat (get_map _ gy), scal_ln _ _, _, rfl, ?_⟩
        refine to_dec (y := decide (eqAt xs ys i j = true)) ?_ (k _ same_refl)
        rw [dec_ln, eqAt_of gx gy]
        simp
      · obtain ⟨h1, h2, h3⟩ := of_decide_eq_true h1
        have s5 := same_trans s2 s3
        refine ⟨_, rfl, .inl ⟨rfl, _, SqL.of (s5 _ _ er)⟩, _, rfl, _, rfl, by show 3 ≤ sizeLine; omega, fun u nu => ?_⟩
        refine ⟨r, refs ps, _, rfl, rfl, ?_, by rw [refs_len]; omega, ?_⟩
        · rw [upd_ne (ne_of_none (s5 _ _ er) nu)]
          exact s5 _ _ er
        · refine ⟨_, rfl, _, _, rfl, rfl, _, rfl, _, _, rfl, rfl, _, _, rfl, ?_⟩
          have e1 : ((i : Int) + 1) = ((i + 1 : Nat) : Int) := rfl
          exact next H3 u (.keep i j) (i + 1) (j + 1) s5 nu (by omega) (by omega) (by omega) (steps_keep h3)
      · have ne1 : ¬ eqAt xs ys i j = true := fun z => h1 (decide_eq_true ⟨(eqAt_lt z).1, (eqAt_lt z).2, z⟩)
        have s5 := same_trans s2 s3
        refine and_dec (p := i < xs.length) (q := L xs ys (i + 1) j = L xs ys i j) (fun R k => ⟨_, rfl, _, rfl, a, _, rfl, .inl (SqL.of (fa s5)), _, _, rfl, rfl, _, rfl, to_dec dec_lt (k _ same_refl)⟩)
          (fun h2 H4 s4 R k => ?_) fun H4 s4 => ite2 (fun h2 => ?_) (fun h2 => ?_)
        · have s6 : Same H' H4 := same_trans s5 s4
          have tt : ∀ {b o}, b ≠ r → H1 b = some o → H4 b = some o := fun n e => s6 _ _ (fr _ _ n e)
          have et : H4 t = some (.lst (rs.map V.ref)) := s6 _ _ (old tab.at_)
          obtain ⟨r1, g1⟩ : ∃ r1, rs[i + 1]? = some r1 := ⟨rs[i + 1]'(by have := tab.len; omega), List.getElem?_eq_getElem (by have := tab.len; omega)⟩
          obtain ⟨r0, g0⟩ : ∃ r0, rs[i]? = some r0 := ⟨rs[i]'(by have := tab.len; omega), List.getElem?_eq_getElem (by have := tab.len; omega)⟩
          have e1 : H4 r1 = _ := s6 _ _ (old (tab.row _ _ g1))
          have e0 : H4 r0 = _ := s6 _ _ (old (tab.row _ _ g0))
          refine ⟨_, rfl, _, rfl, _, _, rfl, rfl, t, _, _, _, rfl, rfl, SqL.of et, atI_s (get_map _ g1), _, rfl, r1, _, _, _, rfl, rfl, SqL.of e1, atI_nat (rowV_get lj), ?_⟩
          refine ⟨_, rfl, _, rfl, t, _, _, _, rfl, rfl, SqL.of et, atI_nat (get_map _ g0), _, rfl, r0, _, _, _, rfl, rfl, SqL.of e0, atI_nat (rowV_get lj), rfl, _, rfl, ?_⟩
          exact to_dec dec_nat (k _ same_refl)
        · obtain ⟨h2, h3⟩ := of_decide_eq_true h2
          have s6 := same_trans s5 s4
          refine ⟨_, rfl, .inl ⟨rfl, _, SqL.of (s6 _ _ er)⟩, _, rfl, by show 2 ≤ sizeLine; omega, fun u nu => ?_⟩
          refine ⟨r, refs ps, _, rfl, rfl, ?_, by rw [refs_len]; omega, ?_⟩
          · rw [upd_ne (ne_of_none (s6 _ _ er) nu)]
            exact s6 _ _ er
          · refine ⟨_, rfl, _, _, rfl, rfl, ?_⟩
            exact next H4 u (.cut i) (i + 1) j s6 nu (by omega) (by omega) (by omega) (steps_cut ne1 h2 h3)
        · have ne2 : ¬ (i < xs.length ∧ L xs ys (i + 1) j = L xs ys i j) := fun z => h2 (decide_eq_true z)
          have h3 := put_lt h0 ne2
          have s6 := same_trans s5 s4
          refine ⟨_, rfl, .inl ⟨rfl, _, SqL.of (s6 _ _ er)⟩, _, rfl, by show 2 ≤ sizeLine; omega, fun u nu => ?_⟩
          refine ⟨r, refs ps, _, rfl, rfl, ?_, by rw [refs_len]; omega, ?_⟩
          · rw [upd_ne (ne_of_none (s6 _ _ er) nu)]
            exact s6 _ _ er
          · refine ⟨_, rfl, _, _, rfl, rfl, ?_⟩
            exact next H4 u (.put j) i (j + 1) s6 nu (by omega) (by omega) (by omega) (steps_put ne1 ne2 h3)
    · have h0 : ¬ (i < xs.length ∨ j < ys.length) := fun z => h0 (decide_eq_true z)
      refine ⟨_, rfl, ?_⟩
      have e : steps xs ys i j = [] := steps_end (by omega) (by omega)
      rw [e, List.append_nil] at hps
      exact q H2 r ps (fun b o e => s2 _ _ (old (s1 _ _ e))) nr0 (s2 _ _ er) (fun p hp => s2 _ _ (hst p hp)) hps
end
end K12
namespace K12
open PySem PySem.Spec PyProof.Rows L2 TR QR K15
open PySem.W (Datum)
abbrev sXO : Stmt := topS 34
abbrev nXO : List Str := ["one", "other", "found", "i", "j", "best"]
theorem scXO : FnScope nXO ["one", "other"] (defScope sXO) := ⟨rfl, rfl, rfl, by decide +kernel, rfl, by decide +kernel, by decide +kernel⟩
abbrev sDU : Stmt := topS 35
abbrev nDU : List Str := ["one", "other", "most", "found", "i", "j", "turn"]
theorem scDU : FnScope nDU ["one", "other"] (defScope sDU) := ⟨rfl, rfl, rfl, by decide +kernel, rfl, by decide +kernel, by decide +kernel⟩
theorem dget2 {H : Hp} {d u : Addr} {kvs : List (List Key × V)} {p q : Int} {v : V} (e : H d = some (.dT kvs)) (eu : H u = some (.tup [.int p, .int q])) (hv : valV kvs [.inl p, .inl q] = some v) : DGet H d (.ref u) (some v) := by
  have := DGet.t (k := [.inl p, .inl q]) e eu
  rw [hv] at this
  exact this
/-- what the law's table holds: the places behind (i, j) -/
def Holds (xs : List (Option Str)) (ys : List Str) (kvs : List (List Key × V)) (S : Nat → Nat → Prop) : Prop := ∀ i j : Nat, S i j → i ≤ xs.length → j ≤ ys.length → valV kvs [.inl (i : Int), .inl (j : Int)] = some (.int (L xs ys i j : Nat))
section
variable {P : Program} {w : World} {K : PySem.W.Frag} {mg : Str → Option Value} {base : Heap}
def spMO2 : Sp := fun vs H Q _ => ∃ (a b : Addr) (xs : List (Option Str)) (ys : List Str), vs = [.ref a, .ref b] ∧ H a = some (.lst (xs.map lnV)) ∧ H b = some (.lst (ys.map V.str)) ∧ xs.length ≤ 1000 ∧ ys.length ≤ 1000 ∧
  ∀ H' d kvs, Same H H' → H d = none → H' d = some (.dT kvs) → Holds xs ys kvs (fun _ _ => True) → Q (.ref d) H'
theorem ok_XM {f : Addr} {fd : FuncData} (F : Fun K "_law_most" "_law_most" sXO f fd)
    (m_len : mg "len" = none) (m_range : mg "range" = none) (m_max : mg "max" = none) : FnOk P w K mg base CX0 1 f fd ["one", "other"] spMO2 := by
  refine F.ok scXO (fun vs H Q E h => ?_) (fun cdv A outer s H vs Q E hr h => ?_)
  · obtain ⟨a, b, xs, ys, rfl, _⟩ := h
    rfl
  · obtain ⟨a, b, xs, ys, rfl, ha, hb, hx, hy, q⟩ := h
    have hu := hr.units
    have hu1 := hu_of hr
    have zl := zl
    refine ⟨_, (pss_cons (ps_set (i := 2) scXO.nd rfl (.inl rfl) (pe_dnewT))
      (pss_cons (ps_for PassesOwn.never rfl (pi_range3 (by rfl) m_range (pa_cons (pe_callB call_len_seq (by rfl) m_len PySem.boot_len (pa_cons (pv 0) pa_nil)) (pa_cons (pe_un un_neg (pe_int)) (pa_cons (pe_un un_neg (pe_int)) pa_nil)))) (pg_name (i := 3) scXO.nd rfl (.inl rfl))
      (pss_one (ps_for PassesOwn.never rfl (pi_range3 (by rfl) m_range (pa_cons (pe_callB call_len_seq (by rfl) m_len PySem.boot_len (pa_cons (pv 1) pa_nil)) (pa_cons (pe_un un_neg (pe_int)) (pa_cons (pe_un un_neg (pe_int)) pa_nil)))) (pg_name (i := 4) scXO.nd rfl (.inl rfl))
      (pss_cons (ps_set (i := 5) scXO.nd rfl (.inl rfl) (pe_int))
      (pss_cons (ps_if (PW.pt (pw_and (pt_cmpR op_lt (pv 3) (pe_callB call_len_seq (by rfl) m_len PySem.boot_len (pa_cons (pv 0) pa_nil)) (nomark _)) (pw_and1 (pt_cmpR op_lt (pv 4) (pe_callB call_len_seq (by rfl) m_len PySem.boot_len (pa_cons (pv 1) pa_nil)) (nomark _)))))
      (pss_cons (ps_set (i := 5) scXO.nd rfl (.inl rfl) (pe_callB (call_max2 rfl) (by rfl) m_max (by decide +kernel) (pa_cons (pe_dget hu1 (pv 2) (pe_tup (pa_cons (pe_op op_add (pv 3) (pe_int)) (pa_cons (pv 4) pa_nil))) (fun _ _ => rfl)) (pa_cons (pe_dget hu1 (pv 2) (pe_tup (pa_cons (pv 3) (pa_cons (pe_op op_add (pv 4) (pe_int)) pa_nil))) (fun _ _ => rfl)) pa_nil))))
      (pss_one (ps_if (PW.pt (pw_and (pt_cmpR op_notN (pe_ix ix_list (pv 0) (pv 3) (fun _ _ => rfl)) (pe_non) (nomark _)) (pw_and1 (pt_cmpR op_eq (pe_ix ix_list (pv 0) (pv 3) (fun _ _ => rfl)) (pe_ix ix_list (pv 1) (pv 4) (fun _ _ => rfl)) (nomark _)))))
      (pss_one (ps_set (i := 5) scXO.nd rfl (.inl rfl) (pe_callB (call_max2 rfl) (by rfl) m_max (by decide +kernel) (pa_cons (pv 5) (pa_cons (pe_op op_add (pe_dget hu1 (pv 2) (pe_tup (pa_cons (pe_op op_add (pv 3) (pe_int)) (pa_cons (pe_op op_add (pv 4) (pe_int)) pa_nil))) (fun _ _ => rfl)) (pe_int)) pa_nil))))) pss_nil))) pss_nil)
      (pss_one (ps_dput hu1 (pv 2) (pe_tup (pa_cons (pv 3) (pa_cons (pv 4) pa_nil))) (pv 5) rfl)))))))
      (pss_one (ps_ret (pv 2))))), ?_⟩
    intro d nd
    have few : ∀ k, k ≤ xs.length + 1 → k * (ys.length + 1) ≤ 1001 * 1001 := fun k hk => Nat.mul_le_mul (by omega) (by omega)
    refine ⟨_, rfl, a, _, rfl, .inl (SqL.of (same_new nd _ _ ha)), _, rfl, _, rfl, _, _, -1, _, rfl, RgC.neg (by omega) (by rw [List.length_map]; omega) (by omega) (by omega), for_rangeC (fun k σ H' => ∃ (y3 y4 y5 : Option V) (kvs : List (List Key × V)), σ = [some (.ref a), some (.ref b), some (.ref d), y3, y4, y5] ∧ Same H H' ∧ H' d = some (.dT kvs) ∧ kvs.length ≤ k * (ys.length + 1) ∧
      Holds xs ys kvs (fun i _ => xs.length < i + k)) ⟨none, none, none, [], rfl, same_new nd, upd_same, by show 0 ≤ _; omega, fun i j h1 h2 _ => by omega⟩ ?_ ?_⟩
    · rintro k σ H' hk ⟨y3, y4, y5, kvs, rfl, s1, ed, lk, hh⟩
      have lx : (((xs.map lnV).length : Int) - (-1)).toNat = xs.length + 1 := by
        rw [List.length_map]
        omega
      rw [lx] at hk
      have ei : ((xs.map lnV).length : Int) + (k : Int) * -1 = ((xs.length - k : Nat) : Int) := by
        rw [List.length_map]
        omega
      rw [ei]
      clear ei
      generalize hi : xs.length - k = i
      refine ⟨_, rfl, b, _, rfl, .inl (SqL.of (s1 _ _ hb)), _, rfl, _, rfl, _, _, -1, _, rfl, RgC.neg (by omega) (by rw [List.length_map]; omega) (by omega) (by omega), for_rangeC (fun k2 σ H' => ∃ (y4 y5 : Option V) (kvs : List (List Key × V)), σ = [some (.ref a), some (.ref b), some (.ref d), some (.int (i : Int)), y4, y5] ∧ Same H H' ∧ H' d = some (.dT kvs) ∧ kvs.length ≤ k * (ys.length + 1) + k2 ∧
        Holds xs ys kvs (fun i' j => xs.length < i' + k ∨ (i' = i ∧ ys.length < j + k2))) ⟨y4, y5, kvs, rfl, s1, ed, by omega, fun i' j' h1 h2 h3 => ?_⟩ ?_ ?_⟩
      · rcases h1 with h1 | h1
        · exact hh i' j' h1 h2 h3
        · omega
      · rintro k2 σ H' hk2 ⟨y4, y5, kvs, rfl, s1, ed, lk, hh⟩
        have ly : (((ys.map V.str).length : Int) - (-1)).toNat = ys.length + 1 := by
          rw [List.length_map]
          omega
        rw [ly] at hk2
        have ej : ((ys.map V.str).length : Int) + (k2 : Int) * -1 = ((ys.length - k2 : Nat) : Int) := by
          rw [List.length_map]
          omega
        rw [ej]
        clear ej
        generalize hj : ys.length - k2 = j
        have fw := few k (by omega)
        have fa : ∀ {H2 : Hp}, Same H' H2 → H2 a = some (.lst (xs.map lnV)) := fun s => s _ _ (s1 _ _ ha)
        have fb : ∀ {H2 : Hp}, Same H' H2 → H2 b = some (.lst (ys.map V.str)) := fun s => s _ _ (s1 _ _ hb)
        have fd : ∀ {H2 : Hp}, Same H' H2 → H2 d = some (.dT kvs) := fun s => s _ _ ed
        -- found[i, j] = best
        have next : ∀ (H2 : Hp) (u : Addr) (n : Int), Same H' H2 → H2 u = none → n = (L xs ys i j : Nat) → ∃ (y4 y5 : Option V) (kvs_1 : List (List Key × V)), ([some (.ref a), some (.ref b), some (.ref d), some (.int (i : Int)), some (.int (j : Int)), some (.int n)] : List (Option V)) = [some (.ref a), some (.ref b), some (.ref d), some (.int (i : Int)), y4, y5] ∧
            Same H (upd (upd H2 u (.tup [.int (i : Int), .int (j : Int)])) d (.dT (putK kvs [.inl (i : Int), .inl (j : Int)] (.int n)))) ∧ (upd (upd H2 u (.tup [.int (i : Int), .int (j : Int)])) d (.dT (putK kvs [.inl (i : Int), .inl (j : Int)] (.int n)))) d = some (.dT kvs_1) ∧ kvs_1.length ≤ k * (ys.length + 1) + (k2 + 1) ∧
            Holds xs ys kvs_1 (fun i' j => xs.length < i' + k ∨ (i' = i ∧ ys.length < j + (k2 + 1))) := by
          rintro H2 u n s2 nu rfl
          refine ⟨_, _, _, rfl, ?_, upd_same, ?_, ?_⟩
          · intro x o e
            rw [upd_ne (ne_of_none e nd)]
            exact same_new nu _ _ (s2 _ _ (s1 _ _ e))
          · have := length_putK kvs [.inl (i : Int), .inl (j : Int)] (V.int (L xs ys i j : Nat))
            omega
          · intro i' j' h1 h2 h3
            rw [valV_put]
            split
            · rename_i e
              have e1 : (i' : Int) = i := by
                injection e with e1 e2
                exact Sum.inl.inj e1
              have e2 : (j' : Int) = j := by
                injection e with e1 e2
                injection e2 with e2 e3
                exact Sum.inl.inj e2
              rw [show i' = i by omega, show j' = j by omega]
            · rename_i e
              refine hh i' j' ?_ h2 h3
              rcases h1 with h1 | ⟨h1, h4⟩
              · exact .inl h1
              · refine .inr ⟨h1, ?_⟩
                by_cases e2 : j' = j
                · exact absurd (by rw [h1, e2]) e
                · omega
        -- best
        dsimp only [tNext, tSeq, tIfS, tAsg, gName, tC]
        refine and_dec (p := i < xs.length) (q := j < ys.length) (fun R k => ⟨_, rfl, _, rfl, a, _, rfl, .inl (SqL.of (fa same_refl)), _, _, rfl, rfl, _, rfl, to_dec dec_lt (k _ same_refl)⟩)
          (fun _ H2 s2 R k => ⟨_, rfl, _, rfl, b, _, rfl, .inl (SqL.of (fb s2)), _, _, rfl, rfl, _, rfl, to_dec dec_lt (k _ same_refl)⟩) fun H2 s2 => ite2 (fun h1 => ?_) (fun h1 => ?_)
        · obtain ⟨li, lj⟩ := of_decide_eq_true h1
          have gx := List.getElem?_eq_getElem li
          have gy := List.getElem?_eq_getElem lj
          generalize xs[i] = x at gx
          generalize ys[j] = y at gy
          have key := L_law gx gy
          have v1 := hh (i + 1) j (.inl (by omega)) (by omega) (by omega)
          have v2 := hh i (j + 1) (.inr ⟨rfl, by omega⟩) (by omega) (by omega)
          have v3 := hh (i + 1) (j + 1) (.inl (by omega)) (by omega) (by omega)
          refine ⟨_, rfl, _, rfl, _, _, rfl, rfl, _, rfl, by show 2 ≤ sizeLine; omega, fun u1 n1 => ⟨d, _, rfl, dget2 (same_new n1 _ _ (fd s2)) upd_same v1, ?_⟩⟩
          have s3 := same_trans s2 (same_new (o := .tup [.int ((i : Int) + 1), .int (j : Int)]) n1)
          refine ⟨_, rfl, _, rfl, _, rfl, _, _, rfl, rfl, by show 2 ≤ sizeLine; omega, fun u2 n2 => ⟨d, _, rfl, dget2 (same_new n2 _ _ (fd s3)) upd_same v2, ?_⟩⟩
          have s4 := same_trans s3 (same_new (o := .tup [.int (i : Int), .int ((j : Int) + 1)]) n2)
          refine ⟨_, _, rfl, ?_⟩
          refine and_dec (p := x ≠ none) (q := x = some y) (fun R k => ⟨_, rfl, _, rfl, a, _, _, _, rfl, rfl, SqL.of (fa s4), atI_nat (get_map _ gx), rfl, _, rfl, to_dec ?_ (k _ same_refl)⟩)
            (fun _ H5 s5 R k => ⟨_, rfl, _, rfl, a, _, _, _, rfl, rfl, SqL.of (fa (same_trans s4 s5)), atI_nat (get_map _ gx), _, rfl, _, rfl, b, _, _, _, rfl, rfl, SqL.of (fb (same_trans s4 s5)), atI_nat (get_map _ gy), scal_ln _ _, _, rfl, to_dec (dec_ln _ _) (k _ same_refl)⟩) fun H5 s5 => ite2 (fun h2 => ?_) (fun h2 => ?_)
          · cases x <;> rfl
          · have h2 := (of_decide_eq_true h2).2
            have s6 := same_trans s4 s5
            refine ⟨_, rfl, _, rfl, _, rfl, _, _, rfl, rfl, _, rfl, _, _, rfl, rfl, by show 2 ≤ sizeLine; omega, fun u3 n3 => ⟨d, _, rfl, dget2 (same_new n3 _ _ (fd s6)) upd_same v3, _, _, rfl, rfl, _, _, rfl, ?_⟩⟩
            have s7 := same_trans s6 (same_new (o := .tup [.int ((i : Int) + 1), .int ((j : Int) + 1)]) n3)
            refine ⟨_, rfl, _, rfl, _, rfl, _, rfl, by show 2 ≤ sizeLine; omega, fun u nu => ⟨d, _, rfl, DPut.t (k := [.inl (i : Int), .inl (j : Int)]) (same_new nu _ _ (fd s7)) upd_same (by omega), next _ u _ s7 nu ?_⟩⟩
            rw [if_pos h2] at key
            rw [key]
            split <;> split <;> omega
          · have h2 : ¬ x = some y := fun z => h2 (decide_eq_true ⟨by rw [z]; exact (fun z => nomatch z), z⟩)
            have s7 := same_trans s4 s5
            refine ⟨_, rfl, _, rfl, _, rfl, _, rfl, by show 2 ≤ sizeLine; omega, fun u nu => ⟨d, _, rfl, DPut.t (k := [.inl (i : Int), .inl (j : Int)]) (same_new nu _ _ (fd s7)) upd_same (by omega), next _ u _ s7 nu ?_⟩⟩
            rw [if_neg h2] at key
            rw [key]
            split <;> omega
        · have h1 : ¬ (i < xs.length ∧ j < ys.length) := fun z => h1 (decide_eq_true z)
          refine ⟨_, rfl, _, rfl, _, rfl, _, rfl, by show 2 ≤ sizeLine; omega, fun u nu => ⟨d, _, rfl, DPut.t (k := [.inl (i : Int), .inl (j : Int)]) (same_new nu _ _ (fd s2)) upd_same (by omega), next _ u _ s2 nu ?_⟩⟩
          by_cases li : i < xs.length
          · rw [L_end2 (by omega)]
            rfl
          · rw [L_end1 (by omega)]
            rfl
      · rintro σ H' ⟨y4, y5, kvs, rfl, s1, ed, lk, hh⟩
        have ly : (((ys.map V.str).length : Int) - (-1)).toNat = ys.length + 1 := by
          rw [List.length_map]
          omega
        rw [ly] at lk hh
        refine ⟨_, _, _, kvs, rfl, s1, ed, ?_, ?_⟩
        · rw [Nat.add_mul, Nat.one_mul]
          exact lk
        · intro i' j' h1 h2 h3
          refine hh i' j' ?_ h2 h3
          by_cases e : i' = i
          · exact .inr ⟨e, by omega⟩
          · exact .inl (by omega)
    · rintro σ H' ⟨y3, y4, y5, kvs, rfl, s1, ed, lk, hh⟩
      have lx : (((xs.map lnV).length : Int) - (-1)).toNat = xs.length + 1 := by
        rw [List.length_map]
        omega
      rw [lx] at hh
      exact ⟨_, rfl, q H' d kvs s1 nd ed fun i j _ h2 h3 => hh i j (by omega) h2 h3⟩
end
end K12
namespace K12
open PySem PySem.Spec PyProof.Rows L2 TR QR K15
open PySem.W (Datum)
section
variable {P : Program} {w : World} {K : PySem.W.Frag} {mg : Str → Option Value} {base : Heap}
def spDU : Sp := fun vs H Q _ => ∃ (a b : Addr) (xs : List (Option Str)) (ys : List Str), vs = [.ref a, .ref b] ∧ H a = some (.lst (xs.map lnV)) ∧ H b = some (.lst (ys.map V.str)) ∧ xs.length ≤ 1000 ∧ ys.length ≤ 1000 ∧
  ∀ H' t r ps, Same H H' → H t = none → H' t = some (.tup [.ref r, .int (L xs ys 0 0 : Nat)]) → H r = none → H' r = some (.lst (refs ps)) → StepsL H' ps → ps.map (·.2) = steps xs ys 0 0 → Q (.ref t) H'
/-- what a turn leaves -/
def InvS (H1 : Hp) (xs : List (Option Str)) (ys : List Str) (r : Addr) (i j : Nat) (H' : Hp) : Prop := i ≤ xs.length ∧ j ≤ ys.length ∧ (∀ b o, b ≠ r → H1 b = some o → H' b = some o) ∧
  ∃ ps : List (Addr × KStep), H' r = some (.lst (refs ps)) ∧ StepsL H' ps ∧ ps.map (·.2) ++ steps xs ys i j = steps xs ys 0 0
theorem InvS.next {H1 H' H3 : Hp} {xs : List (Option Str)} {ys : List Str} {r u : Addr} {s : KStep} {i j i' j' : Nat} {ps : List (Addr × KStep)} (fr : ∀ b o, b ≠ r → H1 b = some o → H' b = some o) (er : H' r = some (.lst (refs ps))) (hst : StepsL H' ps)
    (hps : ps.map (·.2) ++ steps xs ys i j = steps xs ys 0 0) (s3 : Same H' H3) (nu : H3 u = none) (l1 : i' ≤ xs.length) (l2 : j' ≤ ys.length) (e : steps xs ys i j = s :: steps xs ys i' j') :
    InvS H1 xs ys r i' j' (upd (upd H3 u (stepO s)) r (.lst (refs ps ++ [.ref u]))) := by
  have er3 : H3 r = some (.lst (refs ps)) := s3 _ _ er
  have nur : u ≠ r := fun z => by
    rw [z, er3] at nu
    cases nu
  refine ⟨l1, l2, ?_, ps ++ [(u, s)], ?_, ?_, ?_⟩
  · intro b o n e
    rw [upd_ne n, upd_ne (ne_of_none (s3 _ _ (fr b o n e)) nu)]
    exact s3 _ _ (fr b o n e)
  · rw [upd_same]
    unfold refs
    rw [List.map_append]
    rfl
  · intro p hp
    rcases List.mem_append.mp hp with hp | hp
    · have h1 := s3 _ _ (hst p hp)
      rw [upd_ne (step_ne h1 er3), upd_ne (ne_of_none h1 nu)]
      exact h1
    · cases List.mem_singleton.mp hp
      rw [upd_ne nur]
      exact upd_same
  · rw [List.map_append, List.append_assoc, ← hps, e]
    rfl
theorem InvS.same {H1 H' H3 : Hp} {xs : List (Option Str)} {ys : List Str} {r : Addr} {i j : Nat} (h : InvS H1 xs ys r i j H') (s : Same H' H3) : InvS H1 xs ys r i j H3 := by
  obtain ⟨a, b, fr, ps, er, hst, hps⟩ := h
  exact ⟨a, b, fun x o n e => s _ _ (fr x o n e), ps, s _ _ er, fun p hp => s _ _ (hst p hp), hps⟩
theorem ok_DU {f fXM : Addr} {fd fdXM : FuncData} (F : Fun K "_law_due" "_law_due" sDU f fd)
    (GXM : FnOk P w K mg base CX0 1 fXM fdXM ["one", "other"] spMO2) (bXM : Binds K fdXM ["one", "other"] []) (gXM : mg "_law_most" = some (.ref fXM)) (kXM : PySem.W.keepIn K (.ref fXM) = true)
    (m_len : mg "len" = none) (m_range : mg "range" = none) : FnOk P w K mg base CX0 2 f fd ["one", "other"] spDU := by
  refine F.ok scDU (fun vs H Q E h => ?_) (fun cdv A outer s H vs Q E hr h => ?_)
  · obtain ⟨a, b, xs, ys, rfl, _⟩ := h
    rfl
  · obtain ⟨a, b, xs, ys, rfl, ha, hb, hx, hy, q⟩ := h
    have hu := hr.units
    have hu1 := hu_of hr
    have hr1 : Room 1 _ := hr.mono (by decide)
    have zl := zl
    refine ⟨_, (pss_cons (ps_set (i := 2) scDU.nd rfl (.inl rfl) (pe_call GXM hr1 (by rfl) gXM kXM bXM .nil pass0 (pa_cons (pv 0) (pa_cons (pv 1) pa_nil))))
      (pss_cons (ps_set (i := 3) scDU.nd rfl (.inl rfl) (pe_lst (pa_nil)))
      (pss_cons (ps_asg (pe_tup (pa_cons (pe_int) (pa_cons (pe_int) pa_nil))) (pg_tup (by rfl) (pgs_cons (pg_name (i := 4) scDU.nd rfl (.inl rfl)) (pgs_cons (pg_name (i := 5) scDU.nd rfl (.inl rfl)) pgs_nil))))
      (pss_cons (ps_for PassesOwn.never rfl (pi_range1 (by rfl) m_range (pa_cons (pe_op op_add (pe_callB call_len_seq (by rfl) m_len PySem.boot_len (pa_cons (pv 0) pa_nil)) (pe_callB call_len_seq (by rfl) m_len PySem.boot_len (pa_cons (pv 1) pa_nil))) pa_nil)) (pg_name (i := 6) scDU.nd rfl (.inl rfl))
      (pss_one (ps_if (PW.pt (pw_and (pt_cmpR op_lt (pv 4) (pe_callB call_len_seq (by rfl) m_len PySem.boot_len (pa_cons (pv 0) pa_nil)) (nomark _)) (pw_and (pt_cmpR op_lt (pv 5) (pe_callB call_len_seq (by rfl) m_len PySem.boot_len (pa_cons (pv 1) pa_nil)) (nomark _)) (pw_and (pt_cmpR op_notN (pe_ix ix_list (pv 0) (pv 4) (fun _ _ => rfl)) (pe_non) (nomark _)) (pw_and1 (pt_cmpR op_eq (pe_ix ix_list (pv 0) (pv 4) (fun _ _ => rfl)) (pe_ix ix_list (pv 1) (pv 5) (fun _ _ => rfl)) (nomark _)))))))
      (pss_cons (ps_expr (pe_bm PySem.F.plainAttrs_list PySem.F.slot_list_append PySem.F.type_list_append mt_append (pv 3) (pa_cons (pe_tup (pa_cons (pe_str) (pa_cons (pv 4) (pa_cons (pv 5) pa_nil)))) pa_nil)))
      (pss_one (ps_par (i := 4) (j := 5) (by rfl) scDU.nd rfl rfl (by decide) rfl rfl (pa_cons (pe_op op_add (pv 4) (pe_int)) (pa_cons (pe_op op_add (pv 5) (pe_int)) pa_nil)) (by rfl)))) (pss_one (ps_if (PW.pt (pw_and (pt_cmpR op_lt (pv 4) (pe_callB call_len_seq (by rfl) m_len PySem.boot_len (pa_cons (pv 0) pa_nil)) (nomark _)) (pw_and1 (pt_cmpR op_eq (pe_dget hu1 (pv 2) (pe_tup (pa_cons (pe_op op_add (pv 4) (pe_int)) (pa_cons (pv 5) pa_nil))) (fun _ _ => rfl)) (pe_dget hu1 (pv 2) (pe_tup (pa_cons (pv 4) (pa_cons (pv 5) pa_nil))) (fun _ _ => rfl)) (nomark _)))))
      (pss_cons (ps_expr (pe_bm PySem.F.plainAttrs_list PySem.F.slot_list_append PySem.F.type_list_append mt_append (pv 3) (pa_cons (pe_tup (pa_cons (pe_str) (pa_cons (pv 4) pa_nil))) pa_nil)))
      (pss_one (ps_set (i := 4) scDU.nd rfl (.inl rfl) (pe_op op_add (pv 4) (pe_int))))) (pss_one (ps_if (pt_cmpR op_lt (pv 5) (pe_callB call_len_seq (by rfl) m_len PySem.boot_len (pa_cons (pv 1) pa_nil)) (nomark _))
      (pss_cons (ps_expr (pe_bm PySem.F.plainAttrs_list PySem.F.slot_list_append PySem.F.type_list_append mt_append (pv 3) (pa_cons (pe_tup (pa_cons (pe_str) (pa_cons (pv 5) pa_nil))) pa_nil)))
      (pss_one (ps_set (i := 5) scDU.nd rfl (.inl rfl) (pe_op op_add (pv 5) (pe_int))))) pss_nil)))))))
      (pss_one (ps_ret (pe_tup (pa_cons (pv 3) (pa_cons (pe_dget hu1 (pv 2) (pe_tup (pa_cons (pe_int) (pa_cons (pe_int) pa_nil))) (fun _ _ => rfl)) pa_nil))))))))), ?_⟩
    refine ⟨_, rfl, _, rfl, a, b, xs, ys, rfl, ha, hb, hx, hy, fun H1 d kvs s1 nd ed hh => ?_⟩
    refine ⟨by show 0 ≤ sizeLine; omega, fun r nr => ?_⟩
    have nr0 : H r = none := same_none s1 nr
    refine ⟨by show 2 ≤ sizeLine; omega, fun z nz => ⟨z, _, rfl, SqT.of upd_same, rfl, _, _, rfl, _, _, rfl, rfl, ?_⟩⟩
    have er0 : (upd (upd H1 r (.lst [])) z (.tup [.int 0, .int 0])) r = some (.lst []) := same_new nz _ _ upd_same
    have sz : Same H1 (upd (upd H1 r (.lst [])) z (.tup [.int 0, .int 0])) := same_trans (same_new nr) (same_new nz)
    generalize upd (upd H1 r (.lst [])) z (.tup [.int 0, .int 0]) = H2 at er0 sz
    have i0 : InvS H1 xs ys r 0 0 H2 := ⟨Nat.zero_le _, Nat.zero_le _, fun b o n e => sz _ _ e, [], er0, fun p hp => (nomatch hp), rfl⟩
    refine ⟨_, rfl, a, _, rfl, .inl (SqL.of (sz _ _ (s1 _ _ ha))), _, rfl, b, _, rfl, .inl (SqL.of (sz _ _ (s1 _ _ hb))), _, _, rfl, rfl, _, rfl, by rw [List.length_map, List.length_map]; omega, by rw [List.length_map, List.length_map]; omega,
      for_range (fun k σ H' => ∃ (i j : Nat) (y6 : Option V), σ = [some (.ref a), some (.ref b), some (.ref d), some (.ref r), some (.int (i : Int)), some (.int (j : Int)), y6] ∧ k ≤ i + j ∧ InvS H1 xs ys r i j H') ⟨0, 0, none, rfl, Nat.zero_le _, i0⟩ ?_ ?_⟩
    · rintro k σ H' hk ⟨i, j, y6, rfl, lk, li, lj, fr, ps, er, hst, hps⟩
      have old : ∀ {b o}, H1 b = some o → H' b = some o := fun {b o} e => fr b o (ne_of_none e nr) e
      have fa : ∀ {H2 : Hp}, Same H' H2 → H2 a = some (.lst (xs.map lnV)) := fun s => s _ _ (old (s1 _ _ ha))
      have fb : ∀ {H2 : Hp}, Same H' H2 → H2 b = some (.lst (ys.map V.str)) := fun s => s _ _ (old (s1 _ _ hb))
      have fd : ∀ {H2 : Hp}, Same H' H2 → H2 d = some (.dT kvs) := fun s => s _ _ (old ed)
      have pl : ps.length ≤ xs.length + ys.length := by
        have h1 := congrArg List.length hps
        have h2 := steps_len (xs := xs) (ys := ys) (xs.length + ys.length) 0 0 (by omega)
        rw [List.length_append, List.length_map] at h1
        omega
      dsimp only [tNext, tSeq, tIfS, tAsg, gName, tC]
      refine and_dec (p := i < xs.length) (q := j < ys.length ∧ eqAt xs ys i j = true) (fun R k => ⟨_, rfl, _, rfl, a, _, rfl, .inl (SqL.of (fa same_refl)), _, _, rfl, rfl, _, rfl, to_dec dec_lt (k _ same_refl)⟩)
        (fun h1 H3 s3 R k => and_dec (p := j < ys.length) (q := eqAt xs ys i j = true) (fun R k => ⟨_, rfl, _, rfl, b, _, rfl, .inl (SqL.of (fb s3)), _, _, rfl, rfl, _, rfl, to_dec dec_lt (k _ same_refl)⟩)
          (fun h2 H4 s4 R k => ?_) k) fun H3 s3 => ite2 (fun h1 => ?_) (fun h1 => ?_)
      · have gx := List.getElem?_eq_getElem h1
        have gy := List.getElem?_eq_getElem h2
        generalize xs[i] = x at gx
        generalize ys[j] = y at gy
        have s5 := same_trans s3 s4
        refine and_dec (p := x ≠ none) (q := x = some y) (fun R k => ⟨_, rfl, _, rfl, a, _, _, _, rfl, rfl, SqL.of (fa s5), atI_nat (get_map _ gx), rfl, _, rfl, to_dec ?_ (k _ same_refl)⟩)
            (fun _ H5 s6 R k => ⟨_, rfl, _, rfl, a, _, _, _, rfl, rfl, SqL.of (fa (same_trans s5 s6)), atI_nat (get_map _ gx), _, rfl, _, rfl, b, _, _, _, rfl, rfl, SqL.of (fb (same_trans s5 s6)), atI_nat (get_map _ gy), scal_ln _ _, _, rfl, to_dec (dec_ln _ _) (k _ same_refl)⟩) fun H5 s6 => to_dec ?_ (k _ s6)
        · cases x <;> rfl
        · rw [eqAt_of gx gy]
          refine decide_eq_decide.mpr ?_
          rw [decide_eq_true_eq]
          exact ⟨fun z => z.2, fun z => ⟨by rw [z]; exact (fun z => nomatch z), z⟩⟩
      · obtain ⟨h1, h2, h3⟩ := of_decide_eq_true h1
        refine ⟨_, rfl, .inl ⟨rfl, _, SqL.of (s3 _ _ er)⟩, _, rfl, _, rfl, by show 3 ≤ sizeLine; omega, fun u nu => ?_⟩
        refine ⟨r, refs ps, _, rfl, rfl, same_new nu _ _ (s3 _ _ er), by rw [refs_len]; omega, ?_⟩
        refine ⟨_, rfl, _, _, rfl, rfl, _, rfl, _, _, rfl, rfl, _, _, rfl, i + 1, j + 1, _, rfl, by omega, ?_⟩
        exact InvS.next (s := .keep i j) fr er hst hps s3 nu (by omega) (by omega) (steps_keep h3)
      · have ne1 : ¬ eqAt xs ys i j = true := fun z => h1 (decide_eq_true ⟨(eqAt_lt z).1, (eqAt_lt z).2, z⟩)
        refine and_dec (p := i < xs.length) (q := L xs ys (i + 1) j = L xs ys i j) (fun R k => ⟨_, rfl, _, rfl, a, _, rfl, .inl (SqL.of (fa s3)), _, _, rfl, rfl, _, rfl, to_dec dec_lt (k _ same_refl)⟩)
          (fun h2 H4 s4 R k => ?_) fun H4 s4 => ite2 (fun h2 => ?_) (fun h2 => ?_)
        · have s5 := same_trans s3 s4
          refine ⟨_, rfl, _, rfl, _, _, rfl, rfl, _, rfl, by show 2 ≤ sizeLine; omega, fun u1 n1 => ⟨d, _, rfl, dget2 (same_new n1 _ _ (fd s5)) upd_same (hh (i + 1) j trivial (by omega) lj), ?_⟩⟩
          have s6 := same_trans s5 (same_new (o := .tup [.int ((i : Int) + 1), .int (j : Int)]) n1)
          refine ⟨_, rfl, _, rfl, _, rfl, by show 2 ≤ sizeLine; omega, fun u2 n2 => ⟨d, _, rfl, dget2 (same_new n2 _ _ (fd s6)) upd_same (hh i j trivial (by omega) lj), rfl, _, rfl, ?_⟩⟩
          exact to_dec dec_nat (k _ (same_trans (same_new n1) (same_new n2)))
        · obtain ⟨h2, h3⟩ := of_decide_eq_true h2
          have s5 := same_trans s3 s4
          refine ⟨_, rfl, .inl ⟨rfl, _, SqL.of (s5 _ _ er)⟩, _, rfl, by show 2 ≤ sizeLine; omega, fun u nu => ?_⟩
          refine ⟨r, refs ps, _, rfl, rfl, same_new nu _ _ (s5 _ _ er), by rw [refs_len]; omega, ?_⟩
          refine ⟨_, rfl, _, _, rfl, rfl, i + 1, j, _, rfl, by omega, ?_⟩
          exact InvS.next (s := .cut i) fr er hst hps s5 nu (by omega) (by omega) (steps_cut ne1 h2 h3)
        · have ne2 : ¬ (i < xs.length ∧ L xs ys (i + 1) j = L xs ys i j) := fun z => h2 (decide_eq_true z)
          have s5 := same_trans s3 s4
          refine ⟨_, rfl, _, rfl, b, _, rfl, .inl (SqL.of (fb s5)), _, _, rfl, rfl, _, rfl, ?_⟩
          rw [dec_lt]
          refine ite2 (fun h3 => ?_) (fun h3 => ?_)
          · have h3 := of_decide_eq_true h3
            refine ⟨_, rfl, .inl ⟨rfl, _, SqL.of (s5 _ _ er)⟩, _, rfl, by show 2 ≤ sizeLine; omega, fun u nu => ?_⟩
            refine ⟨r, refs ps, _, rfl, rfl, same_new nu _ _ (s5 _ _ er), by rw [refs_len]; omega, ?_⟩
            refine ⟨_, rfl, _, _, rfl, rfl, i, j + 1, _, rfl, by omega, ?_⟩
            exact InvS.next (s := .put j) fr er hst hps s5 nu (by omega) (by omega) (steps_put ne1 ne2 h3)
          · have h3 : ¬ j < ys.length := fun z => h3 (decide_eq_true z)
            have hi : ¬ i < xs.length := fun z => h3 (put_lt (.inl z) ne2)
            have hk2 : k < xs.length + ys.length := by
              have e : (((xs.map lnV).length : Int) + ((ys.map V.str).length : Int)).toNat = xs.length + ys.length := by
                rw [List.length_map, List.length_map]
                omega
              rw [e] at hk
              exact hk
            exact ⟨i, j, _, rfl, by omega, InvS.same ⟨li, lj, fr, ps, er, hst, hps⟩ s5⟩
    · rintro σ H' ⟨i, j, y6, rfl, lk, li, lj, fr, ps, er, hst, hps⟩
      have e : (((xs.map lnV).length : Int) + ((ys.map V.str).length : Int)).toNat = xs.length + ys.length := by
        rw [List.length_map, List.length_map]
        omega
      rw [e] at lk
      rw [steps_end (by omega) (by omega), List.append_nil] at hps
      have ed' : H' d = some (.dT kvs) := fr d _ (ne_of_none ed nr) ed
      refine ⟨_, rfl, _, rfl, by show 2 ≤ sizeLine; omega, fun u nu => ⟨d, _, rfl, dget2 (p := ((0 : Nat) : Int)) (q := ((0 : Nat) : Int)) (same_new nu _ _ ed') upd_same (hh 0 0 trivial (Nat.zero_le _) (Nat.zero_le _)), by show 2 ≤ sizeLine; omega, fun t nt => ?_⟩⟩
      have sH : Same H H' := fun b o e => fr b o (ne_of_none e nr0) (s1 _ _ e)
      have s2 := same_new (H := H') (o := .tup [.int ((0 : Nat) : Int), .int ((0 : Nat) : Int)]) nu
      have nt0 := same_none sH (same_none s2 nt)
      have s3 : Same H' (upd (upd H' u (.tup [.int ((0 : Nat) : Int), .int ((0 : Nat) : Int)])) t (.tup [.ref r, .int (L xs ys 0 0 : Nat)])) := same_trans s2 (same_new nt)
      exact q _ t r ps (same_trans sH s3) nt0 upd_same nr0 (s3 _ _ er) (fun p hp => s3 _ _ (hst p hp)) hps
end
end K12
/-! the mathematics of wanted changes -/
namespace K12
open PySem K15
/-- a gap: the line above, the texts, the line below -/
structure GR where
  f : Option Nat
  p : List Str
  b : Option Nat
inductive Chg where
  | cut (A : List Nat)
  | lines (u d : List Nat) (p : List Str)
  | order (i j : Nat)
def lnAt (ln : List Nat) (i : Nat) : Nat := (ln[i]?).getD 0
def txAt (ts : List Str) (j : Nat) : Str := (ts[j]?).getD ""
def gapsM (ln : List Nat) (ts : List Str) : List KStep → Option Nat → List Str → List GR
  | [], f, p => [⟨f, p, none⟩]
  | .put j :: r, f, p => gapsM ln ts r f (p ++ [txAt ts j])
  | .cut _ :: r, f, p => gapsM ln ts r f p
  | .keep i _ :: r, f, p => ⟨f, p, some (lnAt ln i)⟩ :: gapsM ln ts r (some (lnAt ln i)) []
def gapC (r : Nat → Nat → Bool) (x : GR) : List Chg :=
  if x.p = [] then match x.f, x.b with
    | some i, some j => if r i j = true then [] else [.order i j]
    | _, _ => []
  else [.lines x.f.toList x.b.toList x.p]
def cutsM (ln : List Nat) (ss : List KStep) : List Nat := ss.filterMap fun s => match s with
  | .cut i => some (lnAt ln i)
  | _ => none
def cutC (A : List Nat) : List Chg := if A = [] then [] else [.cut A]
def putsM (ts : List Str) (ss : List KStep) : List Str := ss.filterMap fun s => match s with
  | .put j => some (txAt ts j)
  | _ => none
/-- where lines are kept -/
def kps (o : Nat) : List KStep → List Nat
  | [] => []
  | .keep _ _ :: r => o :: kps (o + 1) r
  | .cut _ :: r => kps (o + 1) r
  | .put _ :: r => kps (o + 1) r
theorem kps_ge : ∀ {ss : List KStep} {o : Nat}, ∀ x ∈ kps o ss, o ≤ x
  | [], _, _, h => nomatch h
  | .keep _ _ :: r, o, x, h => by
    rcases List.mem_cons.mp h with h | h
    · omega
    · have := kps_ge x h
      omega
  | .cut _ :: r, o, x, h => by
    have := kps_ge (ss := r) x h
    omega
  | .put _ :: r, o, x, h => by
    have := kps_ge (ss := r) x h
    omega
theorem gapsM_len {ln : List Nat} {ts : List Str} : ∀ {ss : List KStep} {o : Nat} {f : Option Nat} {p : List Str}, (gapsM ln ts ss f p).length = (kps o ss).length + 1
  | [], _, _, _ => rfl
  | .keep _ _ :: r, o, f, p => by
    show (gapsM ln ts r _ _).length + 1 = (kps (o + 1) r).length + 1 + 1
    rw [gapsM_len]
  | .cut _ :: r, o, f, p => gapsM_len (ss := r)
  | .put _ :: r, o, f, p => gapsM_len (ss := r)
def cutL (all : List KStep) (a b : Nat) : List KStep := (all.take b).drop a
theorem cutL_nil {all : List KStep} {a b : Nat} (h : b ≤ a) : cutL all a b = [] := by
  unfold cutL
  rw [List.drop_eq_nil_of_le]
  rw [List.length_take]
  omega
theorem cutL_cons {all : List KStep} {a b : Nat} {s : KStep} (h : all[a]? = some s) (hb : a < b) : cutL all a b = s :: cutL all (a + 1) b := by
  unfold cutL
  have e : (all.take b)[a]? = some s := by rw [List.getElem?_take, if_pos hb]; exact h
  obtain ⟨l, e2⟩ := List.getElem?_eq_some_iff.mp e
  rw [List.drop_eq_getElem_cons l, e2]
/-- which line is kept at a place of the steps -/
def lnK (ln : List Nat) (all : List KStep) (x : Nat) : Nat := match all[x]? with
  | some s => lnAt ln (n1 s)
  | none => 0
theorem gaps_at {ln : List Nat} {ts : List Str} {all : List KStep} : ∀ {ss : List KStep} {o : Nat} {f : Option Nat} {p : List Str} {k : Nat}, all.drop o = ss → o ≤ all.length → k ≤ (kps o ss).length →
    (gapsM ln ts ss f p)[k]? = some ⟨(if k = 0 then f else (kps o ss)[k - 1]?.map (lnK ln all)), (if k = 0 then p else []) ++ putsM ts (cutL all (if k = 0 then o else ((kps o ss)[k - 1]?).getD 0 + 1) (((kps o ss)[k]?).getD all.length)), (kps o ss)[k]?.map (lnK ln all)⟩
  | [], o, f, p, k, hd, ho, hk => by
    have hk0 : k = 0 := Nat.le_zero.mp hk
    subst hk0
    have : all.length ≤ o := by
      have := congrArg List.length hd
      rw [List.length_drop] at this
      simp at this
      omega
    show some (GR.mk f p none) = some (GR.mk f (p ++ putsM ts (cutL all o all.length)) none)
    rw [cutL_nil this]
    show _ = some (GR.mk f (p ++ []) none)
    rw [List.append_nil]
  | s :: r, o, f, p, k, hd, ho, hk => by
    have hs : all[o]? = some s := by
      have := congrArg (fun l : List KStep => l[0]?) hd
      simp only [List.getElem?_drop, List.getElem?_cons_zero] at this
      exact this
    have hr : all.drop (o + 1) = r := by
      have := congrArg List.tail hd
      rw [List.tail_drop] at this
      exact this
    have lo : o < all.length := (List.getElem?_eq_some_iff.mp hs).1
    have ge : ∀ k : Nat, o < ((kps (o + 1) r)[k]?).getD all.length := fun k => by
      cases h : (kps (o + 1) r)[k]? with
      | none => exact lo
      | some x =>
        have := kps_ge x (List.mem_of_getElem? h)
        show o < x
        omega
    cases s with
    | put j =>
      have ih := gaps_at (ln := ln) (ts := ts) (f := f) (p := p ++ [txAt ts j]) (k := k) hr (by omega) hk
      show (gapsM ln ts r f (p ++ [txAt ts j]))[k]? = _
      rw [ih]
      show some (GR.mk _ _ _) = some (GR.mk (if k = 0 then f else (kps (o + 1) r)[k - 1]?.map (lnK ln all)) ((if k = 0 then p else []) ++ putsM ts (cutL all (if k = 0 then o else ((kps (o + 1) r)[k - 1]?).getD 0 + 1) (((kps (o + 1) r)[k]?).getD all.length))) ((kps (o + 1) r)[k]?.map (lnK ln all)))
      by_cases h0 : k = 0
      · subst h0
        simp only [if_true]
        rw [cutL_cons hs (ge 0)]
        show _ = some (GR.mk f (p ++ (txAt ts j :: putsM ts (cutL all (o + 1) _))) _)
        rw [List.append_assoc]
        rfl
      · simp only [if_neg h0]
    | cut j =>
      have ih := gaps_at (ln := ln) (ts := ts) (f := f) (p := p) (k := k) hr (by omega) hk
      show (gapsM ln ts r f p)[k]? = _
      rw [ih]
      show some (GR.mk _ _ _) = some (GR.mk (if k = 0 then f else (kps (o + 1) r)[k - 1]?.map (lnK ln all)) ((if k = 0 then p else []) ++ putsM ts (cutL all (if k = 0 then o else ((kps (o + 1) r)[k - 1]?).getD 0 + 1) (((kps (o + 1) r)[k]?).getD all.length))) ((kps (o + 1) r)[k]?.map (lnK ln all)))
      by_cases h0 : k = 0
      · subst h0
        simp only [if_true]
        rw [cutL_cons hs (ge 0)]
        rfl
      · simp only [if_neg h0]
    | keep i j =>
      have ek : lnK ln all o = lnAt ln i := by
        unfold lnK
        rw [hs]
        rfl
      cases k with
      | zero =>
        show some (GR.mk f p (some (lnAt ln i))) = some (GR.mk f (p ++ putsM ts (cutL all o o)) (some (lnK ln all o)))
        rw [cutL_nil (Nat.le_refl _), ek]
        show _ = some (GR.mk f (p ++ []) _)
        rw [List.append_nil]
      | succ k =>
        have hk' : k ≤ (kps (o + 1) r).length := Nat.le_of_succ_le_succ hk
        have ih := gaps_at (ln := ln) (ts := ts) (f := some (lnAt ln i)) (p := []) (k := k) hr (by omega) hk'
        show (gapsM ln ts r (some (lnAt ln i)) [])[k]? = _
        rw [ih]
        cases k with
        | zero =>
          show some (GR.mk (some (lnAt ln i)) _ _) = some (GR.mk (some (lnK ln all o)) _ _)
          rw [ek]
          rfl
        | succ k => rfl
theorem kps_get {all : List KStep} : ∀ {ss : List KStep} {o : Nat}, all.drop o = ss → ∀ x ∈ kps o ss, ∃ i j, all[x]? = some (.keep i j)
  | [], _, _, _, h => nomatch h
  | s :: r, o, hd, x, h => by
    have hs : all[o]? = some s := by
      have := congrArg (fun l : List KStep => l[0]?) hd
      simp only [List.getElem?_drop, List.getElem?_cons_zero] at this
      exact this
    have hr : all.drop (o + 1) = r := by
      have := congrArg List.tail hd
      rw [List.tail_drop] at this
      exact this
    cases s with
    | put j => exact kps_get hr x h
    | cut j => exact kps_get hr x h
    | keep i j =>
      rcases List.mem_cons.mp h with h | h
      · exact ⟨i, j, by rw [h]; exact hs⟩
      · exact kps_get hr x h
theorem kps_filter : ∀ (ss : List KStep) (o : Nat), kps o ss = ((List.range ss.length).filter fun k => match ss[k]? with | some s => isKeep s | none => false).map (o + ·)
  | [], _ => rfl
  | s :: r, o => by
    have ih := kps_filter r (o + 1)
    rw [List.length_cons, List.range_succ_eq_map, List.filter_cons, List.filter_map]
    have e : ((fun k => match (s :: r)[k]? with | some s => isKeep s | none => false) ∘ Nat.succ) = fun k => match r[k]? with | some s => isKeep s | none => false := rfl
    rw [e]
    have e2 : ∀ l : List Nat, (l.map Nat.succ).map (o + ·) = l.map ((o + 1) + ·) := fun l => by
      rw [List.map_map]
      refine List.map_congr_left fun x _ => ?_
      show o + (x + 1) = o + 1 + x
      omega
    cases s with
    | put j => exact ih.trans (e2 _).symm
    | cut j => exact ih.trans (e2 _).symm
    | keep i j =>
      show o :: kps (o + 1) r = _
      rw [ih, ← e2]
      rfl
/-- the steps speak of lines and texts that are there -/
def StOk (n m : Nat) (ss : List KStep) : Prop := ∀ s ∈ ss, (∀ i j, s = .keep i j → i < n) ∧ (∀ i, s = .cut i → i < n) ∧ ∀ j, s = .put j → j < m
theorem right_ok {xs : List (Option Str)} {ys : List Str} : ∀ {ss : List KStep} {i j : Nat}, right xs ys ss i j = true → StOk xs.length ys.length ss
  | [], _, _, _ => fun _ h => nomatch h
  | .keep a b :: r, i, j, h => by
    have h : (if a = i ∧ b = j ∧ eqAt xs ys i j = true then right xs ys r (i + 1) (j + 1) else false) = true := h
    by_cases c : a = i ∧ b = j ∧ eqAt xs ys i j = true
    · rw [if_pos c] at h
      intro s hs
      rcases List.mem_cons.mp hs with e | hs
      · subst e
        refine ⟨fun x y e => ?_, (fun x e => nomatch e), fun x e => nomatch e⟩
        cases e
        rw [c.1]
        exact (eqAt_lt c.2.2).1
      · exact right_ok h s hs
    · rw [if_neg c] at h
      cases h
  | .cut a :: r, i, j, h => by
    have h : (if a = i ∧ i < xs.length then right xs ys r (i + 1) j else false) = true := h
    by_cases c : a = i ∧ i < xs.length
    · rw [if_pos c] at h
      intro s hs
      rcases List.mem_cons.mp hs with e | hs
      · subst e
        refine ⟨(fun x y e => nomatch e), fun x e => ?_, fun x e => nomatch e⟩
        cases e
        rw [c.1]
        exact c.2
      · exact right_ok h s hs
    · rw [if_neg c] at h
      cases h
  | .put b :: r, i, j, h => by
    have h : (if b = j ∧ j < ys.length then right xs ys r i (j + 1) else false) = true := h
    by_cases c : b = j ∧ j < ys.length
    · rw [if_pos c] at h
      intro s hs
      rcases List.mem_cons.mp hs with e | hs
      · subst e
        refine ⟨(fun x y e => nomatch e), (fun x e => nomatch e), fun x e => ?_⟩
        cases e
        rw [c.1]
        exact c.2
      · exact right_ok h s hs
    · rw [if_neg c] at h
      cases h
theorem steps_ok (xs : List (Option Str)) (ys : List Str) : StOk xs.length ys.length (steps xs ys 0 0) := right_ok (steps_right _ 0 0 (Nat.le_refl _) (Nat.zero_le _) (Nat.zero_le _))
def xsOf (cs : List Nat) (tx : Nat → Str) (ln : List Nat) : List (Option Str) := ln.map fun k => if k ∈ cs then none else some (tx k)
def wantM (r : Nat → Nat → Bool) (ln : List Nat) (ts : List Str) (srt : List Nat → List Nat) (ss : List KStep) : List Chg := cutC (srt (cutsM ln ss)) ++ (gapsM ln ts ss none []).flatMap (gapC r)
theorem StOk.tail {n m : Nat} {s : KStep} {r : List KStep} (h : StOk n m (s :: r)) : StOk n m r := fun x hx => h x (List.mem_cons_of_mem _ hx)
theorem gapsM_lt {ln : List Nat} {ts : List Str} {n m : Nat} (hl : ∀ k ∈ ln, k < n) : ∀ {ss : List KStep} {f : Option Nat} {p : List Str}, StOk ln.length m ss → (∀ i, f = some i → i < n) → ∀ z ∈ gapsM ln ts ss f p, (∀ i, z.f = some i → i < n) ∧ ∀ i, z.b = some i → i < n
  | [], f, p, _, hf, z, hz => by
    rw [List.mem_singleton.mp hz]
    exact ⟨hf, (fun i e => nomatch e)⟩
  | .put j :: r, f, p, h, hf, z, hz => gapsM_lt hl (ss := r) h.tail hf z hz
  | .cut j :: r, f, p, h, hf, z, hz => gapsM_lt hl (ss := r) h.tail hf z hz
  | .keep i j :: r, f, p, h, hf, z, hz => by
    have hi : i < ln.length := (h _ List.mem_cons_self).1 i j rfl
    have e : lnAt ln i < n := by
      unfold lnAt
      rw [List.getElem?_eq_getElem hi]
      exact hl _ (List.getElem_mem hi)
    rcases List.mem_cons.mp hz with hz | hz
    · rw [hz]
      exact ⟨hf, fun k ek => by cases ek; exact e⟩
    · exact gapsM_lt hl (ss := r) h.tail (fun k ek => by cases ek; exact e) z hz
theorem gapC_len (r : Nat → Nat → Bool) (z : GR) : (gapC r z).length ≤ 1 := by
  obtain ⟨f, p, b⟩ := z
  unfold gapC
  by_cases h : p = []
  · rw [if_pos h]
    cases f with
    | none => exact Nat.zero_le _
    | some i =>
      cases b with
      | none => exact Nat.zero_le _
      | some j =>
        simp only
        split
        · exact Nat.zero_le _
        · exact Nat.le_refl _
  · rw [if_neg h]
    exact Nat.le_refl _
theorem flat_gap (r : Nat → Nat → Bool) : ∀ R : List GR, (R.flatMap (gapC r)).length ≤ R.length
  | [] => Nat.le_refl _
  | z :: R => by
    rw [List.flatMap_cons, List.length_append, List.length_cons]
    have := gapC_len r z
    have := flat_gap r R
    omega
theorem kps_len : ∀ (ss : List KStep) (o : Nat), (kps o ss).length ≤ ss.length
  | [], _ => Nat.le_refl _
  | .keep _ _ :: r, o => by
    show (kps (o + 1) r).length + 1 ≤ r.length + 1
    have := kps_len r (o + 1)
    omega
  | .cut _ :: r, o => Nat.le_trans (kps_len r (o + 1)) (Nat.le_succ _)
  | .put _ :: r, o => Nat.le_trans (kps_len r (o + 1)) (Nat.le_succ _)
theorem cutC_len (A : List Nat) : (cutC A).length ≤ 1 := by
  unfold cutC
  split
  · exact Nat.zero_le _
  · exact Nat.le_refl _
theorem cutsM_len (ln : List Nat) (ss : List KStep) : (cutsM ln ss).length ≤ ss.length := List.length_filterMap_le _ _
theorem cutsM_app (ln : List Nat) (a b : List KStep) : cutsM ln (a ++ b) = cutsM ln a ++ cutsM ln b := List.filterMap_append
theorem putsM_app (ts : List Str) (a b : List KStep) : putsM ts (a ++ b) = putsM ts a ++ putsM ts b := List.filterMap_append
def keepAt (ss : List KStep) (k : Nat) : Bool := match ss[k]? with
  | some s => isKeep s
  | none => false
theorem kps_keep (ss : List KStep) (o : Nat) : kps o ss = ((List.range ss.length).filter (keepAt ss)).map (o + ·) := kps_filter ss o
end K12
namespace K12
open PySem PySem.Spec PyProof.Rows L2 TR QR K15
open GX (KT kd kdAll RS TSt dNO KeysAt)
open MB
abbrev sGA : Stmt := topS 16
abbrev nGA : List Str := ["lines", "texts", "steps", "rows", "front", "put", "step"]
theorem scGA : FnScope nGA ["lines", "texts", "steps"] (defScope sGA) := ⟨rfl, rfl, rfl, by decide +kernel, rfl, by decide +kernel, by decide +kernel⟩
def oD : Option Nat → PyData
  | none => .none
  | some k => encL k
def txsD (ts : List Str) : PyData := .list (ts.map PyData.str)
def grD (r : GR) : PyData := .tuple [oD r.f, txsD r.p, oD r.b]
def grsD (rs : List GR) : PyData := .list (rs.map grD)
section
variable {K : PySem.W.Frag} {H H' H1 H2 : Hp} {D q : Addr}
theorem o_ts {v : V} {f : Option Nat} (s : TSt K H H') (h : Dp K H v (oD f)) : Dp K H' v (oD f) := by
  cases f with
  | none =>
    cases h
    exact .non
  | some k => exact ln_ts s h
theorem dpAll_S : ∀ ts : List Str, DpAll K H (ts.map V.str) (ts.map PyData.str)
  | [] => .nil
  | t :: ts => .cons (.str t) (dpAll_S ts)
theorem dp_txs {ts : List Str} (h : SqL K H q (ts.map V.str)) : Dp K H (.ref q) (txsD ts) := .lst h (dpAll_S ts)
theorem dpAll_map {α : Type} {f : α → PyData} : ∀ {rw : List (α × V)}, (∀ e ∈ rw, Dp K H e.2 (f e.1)) → DpAll K H (rw.map (·.2)) ((rw.map (·.1)).map f)
  | [], _ => .nil
  | e :: rw, h => .cons (h e List.mem_cons_self) (dpAll_map fun x hx => h x (List.mem_cons_of_mem _ hx))
/-- all stays but two lists -/
def EX2 (D q : Addr) (H H' : Hp) : Prop := ∀ b o, b ≠ D → b ≠ q → H b = some o → H' b = some o
theorem ts_ex2 {xs ys : List V} (hD : H D = some (.lst xs)) (hq : H q = some (.lst ys)) (x : EX2 D q H H') : TSt K H H' := fun y zs h => by
  rcases h with h | h
  · have n1 : y ≠ D := fun e => by
      subst e
      rcases h with h | ⟨_, h⟩
      · rw [hD] at h
        cases h
      · rw [hD] at h
        cases h
    have n2 : y ≠ q := fun e => by
      subst e
      rcases h with h | ⟨_, h⟩
      · rw [hq] at h
        cases h
      · rw [hq] at h
        cases h
    rcases h with h | ⟨o, h⟩
    · exact .inl (.inl (x _ _ n1 n2 h))
    · exact .inl (.inr ⟨o, x _ _ n1 n2 h⟩)
  · exact .inr h
end
theorem lnAt_get {G : List (Nat × V)} {i : Nat} {e : Nat × V} (h : G[i]? = some e) : lnAt (G.map (·.1)) i = e.1 := by
  unfold lnAt
  rw [List.getElem?_map, h]
  rfl
theorem txAt_get {ts : List Str} {j : Nat} {t : Str} (h : ts[j]? = some t) : txAt ts j = t := by
  unfold txAt
  rw [h]
  rfl
section
variable {P : Program} {w : World} {K : PySem.W.Frag} {mg : Str → Option Value} {base : Heap}
theorem wd_pp : decide (V.str (Str.ofString "put") = V.str (Str.ofString "put")) = true := by decide +kernel
theorem wd_kk : decide (V.str (Str.ofString "keep") = V.str (Str.ofString "keep")) = true := by decide +kernel
theorem wd_cc : decide (V.str (Str.ofString "cut") = V.str (Str.ofString "cut")) = true := by decide +kernel
theorem wd_cp : decide (V.str (Str.ofString "cut") = V.str (Str.ofString "put")) = false := by decide +kernel
theorem wd_ck : decide (V.str (Str.ofString "cut") = V.str (Str.ofString "keep")) = false := by decide +kernel
theorem wd_kp : decide (V.str (Str.ofString "keep") = V.str (Str.ofString "put")) = false := by decide +kernel
theorem wd_kc : decide (V.str (Str.ofString "keep") = V.str (Str.ofString "cut")) = false := by decide +kernel
theorem wd_pk : decide (V.str (Str.ofString "put") = V.str (Str.ofString "keep")) = false := by decide +kernel
theorem wd_pc : decide (V.str (Str.ofString "put") = V.str (Str.ofString "cut")) = false := by decide +kernel
def spGA (K : PySem.W.Frag) : Sp := fun vs H Q _ => ∃ (a b r : Addr) (G : List (Nat × V)) (ts : List Str) (ps : List (Addr × KStep)), vs = [.ref a, .ref b, .ref r] ∧ SqL K H a (G.map (·.2)) ∧ LAt K H G ∧ SqL K H b (ts.map V.str) ∧ SqL K H r (refs ps) ∧ StepsL H ps ∧
  StOk G.length ts.length (ps.map (·.2)) ∧ ps.length ≤ 1000 ∧ G.length ≤ 1000 ∧ ts.length ≤ 1000 ∧ ∀ H' q, Same H H' → Dp K H' (.ref q) (grsD (gapsM (G.map (·.1)) ts (ps.map (·.2)) none [])) → Q (.ref q) H'
theorem ok_GA {f : Addr} {fd : FuncData} (F : Fun K "gaps" "gaps" sGA f fd) : FnOk P w K mg base CX0 1 f fd ["lines", "texts", "steps"] (spGA K) := by
  refine F.ok scGA (fun vs H Q E h => ?_) (fun cdv A outer s H vs Q E hr h => ?_)
  · obtain ⟨a, b, r, G, ts, ps, rfl, _⟩ := h
    rfl
  · obtain ⟨a, b, r, G, ts, ps, rfl, ha, hG, hb, hr', hS, ok, lp, lG, lt, q1⟩ := h
    have hu := hr.units
    have hu1 := hu_of hr
    have zl := zl
    refine ⟨_, (pss_cons (ps_par3 (i := 3) (j := 4) (l := 5) (by rfl) scGA.nd rfl rfl rfl (by decide) (by decide) (by decide) rfl rfl rfl (pa_cons (pe_lst (pa_nil)) (pa_cons (pe_non) (pa_cons (pe_lst (pa_nil)) pa_nil))) (by rfl))
      (pss_cons (ps_for PassesOwn.never rfl (pi_list (pv 2)) (pg_name (i := 6) scGA.nd rfl (.inl rfl))
      (pss_cons (ps_if (pt_cmpR op_eq (pe_ix ix_tup (pv 6) (pe_int) (fun _ _ => rfl)) (pe_str) (nomark _))
      (pss_one (ps_expr (pe_bm PySem.F.plainAttrs_list PySem.F.slot_list_append PySem.F.type_list_append mt_append (pv 5) (pa_cons (pe_ix ix_list (pv 1) (pe_ix ix_tup (pv 6) (pe_int) (fun _ _ => rfl)) (fun _ _ => rfl)) pa_nil)))) pss_nil)
      (pss_one (ps_if (pt_cmpR op_eq (pe_ix ix_tup (pv 6) (pe_int) (fun _ _ => rfl)) (pe_str) (nomark _))
      (pss_cons (ps_expr (pe_bm PySem.F.plainAttrs_list PySem.F.slot_list_append PySem.F.type_list_append mt_append (pv 3) (pa_cons (pe_tup (pa_cons (pv 4) (pa_cons (pv 5) (pa_cons (pe_ix ix_list (pv 0) (pe_ix ix_tup (pv 6) (pe_int) (fun _ _ => rfl)) (fun _ _ => rfl)) pa_nil)))) pa_nil)))
      (pss_one (ps_par (i := 4) (j := 5) (by rfl) scGA.nd rfl rfl (by decide) rfl rfl (pa_cons (pe_ix ix_list (pv 0) (pe_ix ix_tup (pv 6) (pe_int) (fun _ _ => rfl)) (fun _ _ => rfl)) (pa_cons (pe_lst (pa_nil)) pa_nil)) (by rfl)))) pss_nil))))
      (pss_one (ps_ret (pe_op op_cat (pv 3) (pe_lst (pa_cons (pe_tup (pa_cons (pv 4) (pa_cons (pv 5) (pa_cons (pe_non) pa_nil)))) pa_nil))))))), ?_⟩
    refine ⟨Nat.zero_le _, fun D nD => ⟨Nat.zero_le _, fun q0 nq0 => ⟨_, _, _, rfl, ?_⟩⟩⟩
    have sD := same_new (o := .lst []) nD
    have s0 := same_trans sD (same_new (o := .lst []) nq0)
    have nDq : D ≠ q0 := fun e => by rw [← e, upd_same] at nq0; cases nq0
    have hD0 : upd (upd H D (.lst [])) q0 (.lst []) D = some (.lst []) := (upd_ne nDq).trans upd_same
    have hq0 : upd (upd H D (.lst [])) q0 (.lst []) q0 = some (.lst []) := upd_same
    have nq0' := same_none sD nq0
    generalize upd (upd H D (.lst [])) q0 (.lst []) = H0 at s0 hD0 hq0
    refine ⟨_, rfl, r, rfl, ⟨_, (GX.rs_same s0).sql hr'⟩, ?_⟩
    refine for_list (xs := refs ps) (fun m σ' H' => ∃ (rw : List (GR × V)) (f : Option Nat) (fv : V) (q : Addr) (p : List Str) (y6 : Option V), σ' = [some (.ref a), some (.ref b), some (.ref r), some (.ref D), some fv, some (.ref q), y6] ∧ Same H H' ∧ H q = none ∧ D ≠ q ∧ H' D = some (.lst (rw.map (·.2))) ∧ H' q = some (.lst (p.map V.str)) ∧ Dp K H' fv (oD f) ∧
      (∀ e ∈ rw, ∀ H4, EX2 D q H' H4 → Dp K H4 e.2 (grD e.1)) ∧ rw.map (·.1) ++ gapsM (G.map (·.1)) ts ((ps.drop m).map (·.2)) f p = gapsM (G.map (·.1)) ts (ps.map (·.2)) none [] ∧ rw.length ≤ m ∧ p.length ≤ m)
      ⟨[], none, .non, q0, [], none, rfl, s0, nq0', nDq, hD0, hq0, .non, (fun _ h => nomatch h), rfl, Nat.le_refl _, Nat.le_refl _⟩ ?_ ?_ ?_
    · rintro m σ' H' _ ⟨_, _, _, _, _, _, _, s, _⟩
      exact (GX.rs_same s).sql hr'
    · rintro m v σ' H2 hv ⟨rw, f, fv, q, p, y6, rfl, s2, nq, nDq, hD, hq, hf, hrw, hM, l1, l2⟩
      obtain ⟨⟨u, s⟩, gs, rfl⟩ := map_get hv
      have hst : H2 u = some (stepO s) := s2 _ _ (hS _ (List.mem_of_getElem? gs))
      obtain ⟨hm, em⟩ := List.getElem?_eq_some_iff.mp gs
      have ed : (ps.drop m).map (·.2) = s :: (ps.drop (m + 1)).map (·.2) := by rw [List.drop_eq_getElem_cons hm, em]; rfl
      rw [ed] at hM
      have oks := ok s (List.mem_map.mpr ⟨_, List.mem_of_getElem? gs, rfl⟩)
      dsimp only [gName]
      cases s with
      | put j =>
        obtain ⟨t, gt⟩ : ∃ t, ts[j]? = some t := ⟨_, List.getElem?_eq_getElem (oks.2.2 j rfl)⟩
        have ht : SqT K H2 u [.str "put", .int (j : Int)] := SqT.of hst
        refine ⟨_, rfl, u, _, 0, _, rfl, rfl, ht, atI_nat (j := 0) rfl, rfl, _, rfl, ?_⟩
        rw [wd_pp]
        refine ite2 (fun _ => ?_) fun c => absurd rfl c
        refine ⟨_, rfl, .inl ⟨rfl, _, SqL.of hq⟩, _, rfl, _, rfl, u, _, 1, _, rfl, rfl, ht, atI_nat (j := 1) rfl, b, _, _, _, rfl, rfl, (GX.rs_same s2).sql hb, atI_nat (get_map _ gt), ?_⟩
        refine ⟨q, p.map V.str, _, rfl, rfl, hq, by rw [List.length_map]; omega, ?_⟩
        have tq := ts_lst (K := K) (o := .lst (p.map V.str ++ [.str t])) hq
        have ht2 := sq_ts tq ht
        refine ⟨_, rfl, u, _, 0, _, rfl, rfl, ht2, atI_nat (j := 0) rfl, rfl, _, rfl, ?_⟩
        rw [wd_pk]
        refine ite2 (fun c => absurd c (by decide)) fun _ => ?_
        refine ⟨rw, f, fv, q, p ++ [t], _, rfl, same_upd nq s2, nq, nDq, (upd_ne nDq).trans hD, by rw [upd_same, List.map_append]; rfl, o_ts tq hf, fun e he H4 x => hrw e he H4 fun b o n1 n2 h => x b o n1 n2 ((upd_ne n2).trans h), ?_, by omega, by rw [List.length_append]; show p.length + 1 ≤ _; omega⟩
        rw [← hM]
        show _ = _ ++ gapsM _ ts _ f (p ++ [txAt ts j])
        rw [txAt_get gt]
      | cut i =>
        have ht : SqT K H2 u [.str "cut", .int (i : Int)] := SqT.of hst
        refine ⟨_, rfl, u, _, 0, _, rfl, rfl, ht, atI_nat (j := 0) rfl, rfl, _, rfl, ?_⟩
        rw [wd_cp]
        refine ite2 (fun c => absurd c (by decide)) fun _ => ?_
        refine ⟨_, rfl, u, _, 0, _, rfl, rfl, ht, atI_nat (j := 0) rfl, rfl, _, rfl, ?_⟩
        rw [wd_ck]
        refine ite2 (fun c => absurd c (by decide)) fun _ => ?_
        exact ⟨rw, f, fv, q, p, _, rfl, s2, nq, nDq, hD, hq, hf, hrw, hM, by omega, by omega⟩
      | keep i j =>
        obtain ⟨e, ge⟩ : ∃ e, G[i]? = some e := ⟨_, List.getElem?_eq_getElem (oks.1 i j rfl)⟩
        have he := List.mem_of_getElem? ge
        have ht : SqT K H2 u [.str "keep", .int (i : Int), .int (j : Int)] := SqT.of hst
        refine ⟨_, rfl, u, _, 0, _, rfl, rfl, ht, atI_nat (j := 0) rfl, rfl, _, rfl, ?_⟩
        rw [wd_kp]
        refine ite2 (fun c => absurd c (by decide)) fun _ => ?_
        refine ⟨_, rfl, u, _, 0, _, rfl, rfl, ht, atI_nat (j := 0) rfl, rfl, _, rfl, ?_⟩
        rw [wd_kk]
        refine ite2 (fun _ => ?_) fun c => absurd rfl c
        refine ⟨_, rfl, .inl ⟨rfl, _, SqL.of hD⟩, _, rfl, _, rfl, _, rfl, _, rfl, u, _, 1, _, rfl, rfl, ht, atI_nat (j := 1) rfl, a, _, _, _, rfl, rfl, (GX.rs_same s2).sql ha, atI_nat (get_map _ ge), by show 3 ≤ sizeLine; omega, fun t nt => ?_⟩
        have st := same_new (o := .tup [fv, .ref q, e.2]) nt
        have ntD : t ≠ D := fun z => by rw [z, hD] at nt; cases nt
        have ntq : t ≠ q := fun z => by rw [z, hq] at nt; cases nt
        refine ⟨D, rw.map (·.2), _, rfl, rfl, st _ _ hD, by rw [List.length_map]; omega, ?_⟩
        have s3 := same_trans s2 st
        have hD3 := st _ _ hD
        have tD := ts_lst (K := K) (o := .lst (rw.map (·.2) ++ [.ref t])) hD3
        have hG3 := (hG.ts (ts_same s3)).ts tD
        have ht3 := sq_ts tD (sq_ts (ts_same st) ht)
        have ha3 : SqL K (upd (upd H2 t (.tup [fv, .ref q, e.2])) D (.lst (rw.map (·.2) ++ [.ref t]))) a (G.map (·.2)) := (GX.rs_same (same_upd nD s3)).sql ha
        have x3 : EX2 D q H2 (upd (upd H2 t (.tup [fv, .ref q, e.2])) D (.lst (rw.map (·.2) ++ [.ref t]))) := fun b o n1 n2 h => (upd_ne n1).trans (st _ _ h)
        have hT3 : upd (upd H2 t (.tup [fv, .ref q, e.2])) D (.lst (rw.map (·.2) ++ [.ref t])) t = some (.tup [fv, .ref q, e.2]) := (upd_ne ntD).trans upd_same
        have hD4 : upd (upd H2 t (.tup [fv, .ref q, e.2])) D (.lst (rw.map (·.2) ++ [.ref t])) D = some (.lst (rw.map (·.2) ++ [.ref t])) := upd_same
        have hq4 : upd (upd H2 t (.tup [fv, .ref q, e.2])) D (.lst (rw.map (·.2) ++ [.ref t])) q = some (.lst (p.map V.str)) := (upd_ne (Ne.symm nDq)).trans (st _ _ hq)
        have s4 := same_upd (o := .lst (rw.map (·.2) ++ [.ref t])) nD s3
        generalize upd (upd H2 t (.tup [fv, .ref q, e.2])) D (.lst (rw.map (·.2) ++ [.ref t])) = H3 at hG3 ht3 ha3 x3 hT3 hD4 hq4 s4
        refine ⟨_, rfl, _, rfl, u, _, 1, _, rfl, rfl, ht3, atI_nat (j := 1) rfl, a, _, _, _, rfl, rfl, ha3, atI_nat (get_map _ ge), Nat.zero_le _, fun q2 nq2 => ⟨_, _, rfl, ?_⟩⟩
        have s5 := same_new (o := .lst []) nq2
        have n2D : D ≠ q2 := fun z => by rw [← z, hD4] at nq2; cases nq2
        have n2q : q ≠ q2 := fun z => by rw [← z, hq4] at nq2; cases nq2
        have n2t : t ≠ q2 := fun z => by rw [← z, hT3] at nq2; cases nq2
        refine ⟨rw ++ [(⟨f, p, some e.1⟩, .ref t)], some e.1, e.2, q2, [], _, rfl, same_trans s4 s5, same_none s4 nq2, n2D, by rw [List.map_append]; exact s5 _ _ hD4, upd_same, ln_ts (ts_same s5) (hG3 e he), fun y hy H4 x => ?_, ?_, by rw [List.length_append]; show rw.length + 1 ≤ _; omega, Nat.zero_le _⟩
        · have x24 : EX2 D q H2 H4 := fun b o n1 n2 h => by
            have h3 := x3 b o n1 n2 h
            exact x b o n1 (fun z => by rw [z, nq2] at h3; cases h3) (s5 _ _ h3)
          rcases List.mem_append.mp hy with h | h
          · exact hrw y h H4 x24
          · rw [List.mem_singleton.mp h]
            have t4 := ts_ex2 (K := K) hD hq x24
            have qq : H4 q = some (.lst (p.map V.str)) := x _ _ (Ne.symm nDq) n2q (s5 _ _ hq4)
            exact .tup (SqT.of (x _ _ ntD n2t (s5 _ _ hT3))) (.cons (o_ts t4 hf) (.cons (dp_txs (SqL.of qq)) (.cons (o_ts (f := some e.1) t4 (ln_ts (ts_same s2) (hG e he))) .nil)))
        · rw [← hM, List.map_append, List.append_assoc]
          show _ ++ (⟨f, p, some e.1⟩ :: _) = _ ++ (⟨f, p, some (lnAt (G.map (·.1)) i)⟩ :: gapsM _ ts _ (some (lnAt (G.map (·.1)) i)) [])
          rw [lnAt_get ge]
          rfl
    · rintro σ' H2 ⟨rw, f, fv, q, p, y6, rfl, s2, nq, nDq, hD, hq, hf, hrw, hM, l1, l2⟩
      have lr : (refs ps).length = ps.length := refs_len ps
      refine ⟨_, rfl, _, rfl, _, rfl, by show 3 ≤ sizeLine; omega, fun t nt => ⟨by show 1 ≤ sizeLine; omega, fun z nz => ?_⟩⟩
      have st := same_new (o := .tup [fv, .ref q, .non]) nt
      have sz := same_new (o := .lst [.ref t]) nz
      have s3 := same_trans st sz
      have s23 := same_trans s2 s3
      have hT3 := sz _ _ (upd_same (H := H2) (a := t) (o := .tup [fv, .ref q, .non]))
      have hz3 : upd (upd H2 t (.tup [fv, .ref q, .non])) z (.lst [.ref t]) z = some (.lst [.ref t]) := upd_same
      generalize upd (upd H2 t (.tup [fv, .ref q, .non])) z (.lst [.ref t]) = H3 at s3 s23 hT3 hz3
      refine ⟨D, z, _, _, rfl, rfl, s3 _ _ hD, hz3, by rw [List.length_map]; show rw.length + 1 ≤ _; omega, fun y ny => ?_⟩
      have sy := same_new (o := .lst (rw.map (·.2) ++ [.ref t])) ny
      have s4 := same_trans s3 sy
      refine q1 _ _ (same_trans s23 sy) ?_
      rw [← hM]
      have e1 : (ps.drop (refs ps).length).map (·.2) = [] := by rw [lr, List.drop_length]; rfl
      rw [e1]
      have hy : upd H3 y (.lst (rw.map (·.2) ++ [.ref t])) y = some (.lst ((rw ++ [((⟨f, p, none⟩ : GR), V.ref t)]).map (·.2))) := by rw [upd_same, List.map_append]; rfl
      have em : rw.map (·.1) ++ gapsM (G.map (·.1)) ts [] f p = (rw ++ [((⟨f, p, none⟩ : GR), V.ref t)]).map (·.1) := by rw [List.map_append]; rfl
      rw [em]
      refine .lst (SqL.of hy) (dpAll_map fun e he => ?_)
      rcases List.mem_append.mp he with h | h
      · exact hrw e h _ fun b o _ _ h => s4 _ _ h
      · rw [List.mem_singleton.mp h]
        exact .tup (SqT.of (sy _ _ hT3)) (.cons (o_ts (ts_same s4) hf) (.cons (dp_txs (SqL.of (s4 _ _ hq))) (.cons .non .nil)))
end
end K12
namespace K12
open PySem PySem.Spec PyProof.Rows L2 TR QR K15
open GX (KT kd kdAll RS TSt dNO KeysAt)
open MB
abbrev sGC : Stmt := topS 17
abbrev nGC : List Str := ["graph", "file", "rows", "changes", "front", "put", "behind", "ups", "downs"]
theorem scGC : FnScope nGC ["graph", "file", "rows"] (defScope sGC) := ⟨rfl, rfl, rfl, by decide +kernel, rfl, by decide +kernel, by decide +kernel⟩
def fileD : PyData := .tuple [nmD, .int 0, .int 0]
theorem kd_file : kd fileD = true := by decide +kernel
def chgD : Chg → PyData
  | .cut A => .tuple [.str "cut", fileD, lsD A]
  | .lines u d p => .tuple [.str "lines", fileD, lsD u, lsD d, txsD p]
  | .order i j => .tuple [.str "order", fileD, encL i, encL j]
def chsD (cs : List Chg) : PyData := .list (cs.map chgD)
theorem dpAll_get {α : Type} {K : PySem.W.Frag} {H : Hp} {f : α → PyData} : ∀ {xs : List V} {R : List α} {m : Nat} {v : V}, DpAll K H xs (R.map f) → xs[m]? = some v → ∃ r, R[m]? = some r ∧ Dp K H v (f r)
  | _, [], m, v, h, e => by
    cases h
    cases e
  | _, r :: R, m, v, h, e => by
    cases h with
    | cons h1 h2 =>
      cases m with
      | zero =>
        cases e
        exact ⟨r, rfl, h1⟩
      | succ m => exact dpAll_get (m := m) h2 e
theorem dpAll_len {K : PySem.W.Frag} {H : Hp} : ∀ {xs : List V} {ds : List PyData}, DpAll K H xs ds → xs.length = ds.length
  | _, [], h => by
    cases h
    rfl
  | _, d :: ds, h => by
    cases h with
    | cons h1 h2 => exact congrArg (· + 1) (dpAll_len h2)
theorem dpAll_strs {K : PySem.W.Frag} {H : Hp} : ∀ {xs : List V} {ts : List Str}, DpAll K H xs (ts.map PyData.str) → xs = ts.map V.str
  | _, [], h => by
    cases h
    rfl
  | _, t :: ts, h => by
    cases h with
    | cons h1 h2 =>
      cases h1
      rw [dpAll_strs h2]
      rfl
theorem sql_ex {K : PySem.W.Frag} {H H' : Hp} {a D : Addr} {xs : List V} (nD : H D = none) (x : EX D H H') (h : SqL K H a xs) : SqL K H' a xs := by
  rcases h with h | h
  · rcases h with h | ⟨o, h⟩
    · exact .inl (.inl (x _ _ (fun e => by rw [e, nD] at h; cases h) h))
    · exact .inl (.inr ⟨o, x _ _ (fun e => by rw [e, nD] at h; cases h) h⟩)
  · exact .inr h
def ovs (v : V) : Option Nat → List V
  | none => []
  | some _ => [v]
theorem dp_ov {K : PySem.W.Frag} {H : Hp} {v : V} {f : Option Nat} {u : Addr} (h : Dp K H v (oD f)) (hu : SqL K H u (ovs v f)) : Dp K H (.ref u) (lsD f.toList) := by
  cases f with
  | none => exact .lst hu .nil
  | some k => exact .lst hu (.cons h .nil)
section
variable {P : Program} {w : World} {K : PySem.W.Frag} {mg : Str → Option Value} {base : Heap} {C : Addr}
def spGC (P : Program) (w : World) (K : PySem.W.Frag) (C : Addr) : Sp := fun vs H Q _ => ∃ (x r : Addr) (fv : V) (n : Nat) (kp ks : List Nat) (g : Nat → List Nat) (tx : Nat → Str) (R : List GR), vs = [.ref x, fv, .ref r] ∧ GrAt P w K C H x n kp ks g tx ∧ Dp K H fv fileD ∧ Dp K H (.ref r) (grsD R) ∧ R.length ≤ 1000 ∧
  (∀ z ∈ R, (∀ i, z.f = some i → i < n) ∧ ∀ i, z.b = some i → i < n) ∧ ∀ H' q vs, Same H H' → H' q = some (.lst vs) → DpAll K H' vs ((R.flatMap (gapC (rS g))).map chgD) → Q (.ref q) H'
theorem ok_GC {f fMS : Addr} {fd fdMS : FuncData} (F : Fun K "gap_changes" "gap_changes" sGC f fd) (T : Txt K mg C)
    (MMS : Meth K C "strictly" fMS) (GMS : FnOk P w K mg base CX0 2 fMS fdMS ["self", "one", "other"] (spMe P w K C rSt)) (bMS : Binds K fdMS ["self", "one", "other"] []) : FnOk P w K mg base CX0 3 f fd ["graph", "file", "rows"] (spGC P w K C) := by
  refine F.ok scGC (fun vs H Q E h => ?_) (fun cdv A outer s H vs Q E hr h => ?_)
  · obtain ⟨x, r, fv, n, kp, ks, g, tx, R, rfl, _⟩ := h
    rfl
  · obtain ⟨x, r, fv, n, kp, ks, g, tx, R, rfl, hg, hfv, hr', lR, ok, q1⟩ := h
    have hu := hr.units
    have hu1 := hu_of hr
    have hr1 : Room 1 _ := hr.mono (by decide)
    have hr2 : Room 2 _ := hr.mono (by decide)
    have zl := zl
    refine ⟨_, (pss_cons (ps_set (i := 3) scGC.nd rfl (.inl rfl) (pe_lst (pa_nil)))
      (pss_cons (ps_for PassesOwn.never rfl (pi_list (pv 2)) (pg_tup (by rfl) (pgs_cons (pg_name (i := 4) scGC.nd rfl (.inl rfl)) (pgs_cons (pg_name (i := 5) scGC.nd rfl (.inl rfl)) (pgs_cons (pg_name (i := 6) scGC.nd rfl (.inl rfl)) pgs_nil))))
      (pss_one (ps_if (pt_truth (pv 5) (by intro _; rfl))
      (pss_cons (ps_set (i := 7) scGC.nd rfl (.inl rfl) (pe_ifExp (pt_cmpR op_isN (pv 4) (pe_non) (nomark _)) (pe_lst (pa_nil)) (pe_lst (pa_cons (pv 4) pa_nil))))
      (pss_cons (ps_set (i := 8) scGC.nd rfl (.inl rfl) (pe_ifExp (pt_cmpR op_isN (pv 6) (pe_non) (nomark _)) (pe_lst (pa_nil)) (pe_lst (pa_cons (pv 6) pa_nil))))
      (pss_one (ps_expr (pe_bm PySem.F.plainAttrs_list PySem.F.slot_list_append PySem.F.type_list_append mt_append (pv 3) (pa_cons (pe_tup (pa_cons (pe_str) (pa_cons (pv 1) (pa_cons (pv 7) (pa_cons (pv 8) (pa_cons (pv 5) pa_nil)))))) pa_nil)))))) (pss_one (ps_if (PW.pt (pw_and (pt_cmpR op_notN (pv 4) (pe_non) (nomark _)) (pw_and (pt_cmpR op_notN (pv 6) (pe_non) (nomark _)) (pw_and1 (pt_not (pt_val (pe_meth (pv 0) T.cl MMS GMS hr2 bMS .nil pass0 (pa_cons (pv 4) (pa_cons (pv 6) pa_nil)))))))))
      (pss_one (ps_expr (pe_bm PySem.F.plainAttrs_list PySem.F.slot_list_append PySem.F.type_list_append mt_append (pv 3) (pa_cons (pe_tup (pa_cons (pe_str) (pa_cons (pv 1) (pa_cons (pv 4) (pa_cons (pv 6) pa_nil))))) pa_nil)))) pss_nil)))))
      (pss_one (ps_ret (pv 3))))), ?_⟩
    refine ⟨Nat.zero_le _, fun D nD => ?_⟩
    have s0 := same_new (o := .lst []) nD
    have hD0 : upd H D (.lst []) D = some (.lst []) := upd_same
    generalize upd H D (.lst []) = H0 at s0 hD0
    unfold grsD at hr'
    cases hr' with
    | lst hr1 hr2 =>
    rename_i xs
    have lxs : xs.length = R.length := by rw [dpAll_len hr2, List.length_map]
    refine ⟨_, rfl, r, rfl, ⟨_, (GX.rs_same s0).sql hr1⟩, ?_⟩
    refine for_list (xs := xs) (fun m σ' H' => ∃ (cw : List (Chg × V)) (y4 y5 y6 y7 y8 : Option V), σ' = [some (.ref x), some fv, some (.ref r), some (.ref D), y4, y5, y6, y7, y8] ∧ Same H H' ∧ H' D = some (.lst (cw.map (·.2))) ∧
      (∀ e ∈ cw, ∀ H4, EX D H' H4 → Dp K H4 e.2 (chgD e.1)) ∧ cw.map (·.1) = (R.take m).flatMap (gapC (rS g)) ∧ cw.length ≤ m)
      ⟨[], none, none, none, none, none, rfl, s0, hD0, (fun _ h => nomatch h), rfl, Nat.le_refl _⟩ ?_ ?_ ?_
    · rintro m σ' H' _ ⟨_, _, _, _, _, _, _, s, _⟩
      exact (GX.rs_same s).sql hr1
    · rintro m v σ' H2 hv ⟨cw, y4, y5, y6, y7', y8, rfl, s2, hD, hcw, eC, lc⟩
      obtain ⟨⟨f, p, b⟩, gz, hz⟩ := dpAll_get hr2 hv
      have hm : m < R.length := (List.getElem?_eq_some_iff.mp gz).1
      have okz := ok _ (List.mem_of_getElem? gz)
      unfold grD at hz
      cases hz with
      | tup ht0 hds =>
      rename_i t vs'
      cases hds with
      | cons df0 hds =>
      cases hds with
      | cons dp hds =>
      cases hds with
      | cons db0 hds =>
      cases hds
      rename_i fv' pv bv
      unfold txsD at dp
      cases dp with
      | lst hp0 hps =>
      rename_i pa pvs
      have epv := dpAll_strs hps
      subst epv
      simp only at df0 db0 okz
      have df := o_ts (ts_same s2) df0
      have db := o_ts (ts_same s2) db0
      have ht := sq_ts (ts_same s2) ht0
      have hp := (GX.rs_same s2).sql hp0
      clear df0 db0 ht0 hps
      have et : (R.take (m + 1)).flatMap (gapC (rS g)) = (R.take m).flatMap (gapC (rS g)) ++ gapC (rS g) ⟨f, p, b⟩ := by
        rw [List.take_add_one, gz, List.flatMap_append]
        simp
      have stay : gapC (rS g) ⟨f, p, b⟩ = [] → ∀ (H3 : Hp), Same H2 H3 → ∀ z4 z5 z6 z7 z8 : Option V, ∃ (cw : List (Chg × V)) (y4 y5 y6 y7 y8 : Option V), ([some (.ref x), some fv, some (.ref r), some (.ref D), z4, z5, z6, z7, z8] : List (Option V)) = [some (.ref x), some fv, some (.ref r), some (.ref D), y4, y5, y6, y7, y8] ∧ Same H H3 ∧ H3 D = some (.lst (cw.map (·.2))) ∧
          (∀ e ∈ cw, ∀ H4, EX D H3 H4 → Dp K H4 e.2 (chgD e.1)) ∧ cw.map (·.1) = (R.take (m + 1)).flatMap (gapC (rS g)) ∧ cw.length ≤ m + 1 :=
        fun e0 H3 s3 z4 z5 z6 z7 z8 => ⟨cw, _, _, _, _, _, rfl, same_trans s2 s3, s3 _ _ hD, fun e he H4 x4 => hcw e he H4 ((EX.same s3).trans x4), by rw [et, e0, List.append_nil]; exact eC, by omega⟩
      have fin : ∀ (ch : Chg), gapC (rS g) ⟨f, p, b⟩ = [ch] → ∀ (H3 : Hp) (t3 : Addr), Same H2 H3 → (∀ H4, EX D H3 H4 → Dp K H4 (.ref t3) (chgD ch)) → ∀ z4 z5 z6 z7 z8 : Option V, ∃ (cw2 : List (Chg × V)) (y4 y5 y6 y7 y8 : Option V), ([some (.ref x), some fv, some (.ref r), some (.ref D), z4, z5, z6, z7, z8] : List (Option V)) = [some (.ref x), some fv, some (.ref r), some (.ref D), y4, y5, y6, y7, y8] ∧
          Same H (upd H3 D (.lst (cw.map (·.2) ++ [.ref t3]))) ∧ upd H3 D (.lst (cw.map (·.2) ++ [.ref t3])) D = some (.lst (cw2.map (·.2))) ∧ (∀ e ∈ cw2, ∀ H4, EX D (upd H3 D (.lst (cw.map (·.2) ++ [.ref t3]))) H4 → Dp K H4 e.2 (chgD e.1)) ∧ cw2.map (·.1) = (R.take (m + 1)).flatMap (gapC (rS g)) ∧ cw2.length ≤ m + 1 :=
        fun ch e0 H3 t3 s3 h3 z4 z5 z6 z7 z8 => ⟨cw ++ [(ch, .ref t3)], _, _, _, _, _, rfl, same_upd nD (same_trans s2 s3), by rw [upd_same, List.map_append]; rfl, fun e he H4 x4 => by
            have x34 : EX D H3 H4 := fun b o n h => x4 b o n ((upd_ne n).trans h)
            rcases List.mem_append.mp he with h | h
            · exact hcw e h H4 ((EX.same s3).trans x34)
            · rw [List.mem_singleton.mp h]
              exact h3 H4 x34, by rw [et, e0, List.map_append, eC]; rfl, by rw [List.length_append]; show cw.length + 1 ≤ _; omega⟩
      refine ⟨t, _, rfl, ht, rfl, _, _, rfl, _, _, rfl, _, _, rfl, rfl, ?_⟩
      refine ⟨_, rfl, _, .inl ⟨_, hp, rfl⟩, ?_⟩
      by_cases hz0 : p = []
      · refine ite2 (fun c => absurd c (by rw [hz0]; simp)) fun _ => ?_
        cases f with
        | none =>
          cases df
          refine and_dec (p := False) (q := True) (fun R k => ⟨_, rfl, rfl, _, rfl, to_dec (by simp) (k _ same_refl)⟩) (fun h => h.elim) fun H3 s3 => ite2 (fun c => absurd c (by decide)) fun _ => ?_
          exact stay (by unfold gapC; rw [if_pos hz0]) H3 s3 _ _ _ _ _
        | some i =>
          obtain ⟨a4, rfl⟩ := ln_ref df
          cases b with
          | none =>
            cases db
            refine and_dec (p := True) (q := False) (fun R k => ⟨_, rfl, rfl, _, rfl, to_dec (by simp) (k _ same_refl)⟩) (fun _ H3 s3 R k => and_dec (p := False) (q := True) (fun R k => ⟨_, rfl, rfl, _, rfl, to_dec (by simp) (k _ same_refl)⟩) (fun h => h.elim) fun H4 s4 => to_dec (y := decide False) (by simp) (k _ s4)) fun H3 s3 => ite2 (fun c => absurd c (by simp)) fun _ => ?_
            exact stay (by unfold gapC; rw [if_pos hz0]) H3 s3 _ _ _ _ _
          | some j =>
            obtain ⟨a6, rfl⟩ := ln_ref db
            have hdf : Dp K H2 (.ref a4) (encL i) := df
            have hdb : Dp K H2 (.ref a6) (encL j) := db
            obtain ⟨dx', al', ap, ae, ab, at', ar, js, M, hx, _⟩ := hg.ex
            refine and_dec (p := True) (q := ¬ rS g i j = true) (fun R k => ⟨_, rfl, rfl, _, rfl, to_dec (by simp) (k _ same_refl)⟩) (fun _ H3 s3 R k => and_dec (p := True) (q := ¬ rS g i j = true) (fun R k => ⟨_, rfl, rfl, _, rfl, to_dec (by simp) (k _ same_refl)⟩) (fun _ H4 s4 R k => ?_) fun H4 s4 => to_dec (y := decide (¬ rS g i j = true)) (by simp) (k _ s4)) fun H3 s3 => ite2 (fun c => ?_) fun c => ?_
            · have s34 := same_trans s2 (same_trans s3 s4)
              refine ⟨_, rfl, x, dx', _, rfl, s34 _ _ hx, gr_no no_strictly, _, rfl, _, rfl, x, a4, a6, n, kp, ks, g, tx, i, j, rfl, hg.same s34, ln_ts (ts_same (same_trans s3 s4)) hdf, ln_ts (ts_same (same_trans s3 s4)) hdb, okz.1 i rfl, okz.2 j rfl, fun z hz => ?_⟩
              have ez : z = rS g i j := by
                rw [Bool.eq_iff_iff, rS_iff]
                exact hz
              subst ez
              exact ⟨_, rfl, to_dec (by simp) (k _ same_refl)⟩
            · have c := of_decide_eq_true c
              refine ⟨_, rfl, .inl ⟨rfl, _, SqL.of (s3 _ _ hD)⟩, _, rfl, _, rfl, _, rfl, by show 4 ≤ sizeLine; omega, fun t5 nt5 => ?_⟩
              have s5 := same_new (o := .tup [.str "order", fv, .ref a4, .ref a6]) nt5
              have s25 := same_trans s3 s5
              have ntD : t5 ≠ D := fun e => by rw [e, s3 _ _ hD] at nt5; cases nt5
              refine ⟨D, cw.map (·.2), _, rfl, rfl, s25 _ _ hD, by rw [List.length_map]; omega, ?_⟩
              refine fin (.order i j) (by unfold gapC; rw [if_pos hz0]; simp only; rw [if_neg c.2]) _ t5 s25 (fun H6 x6 => ?_) _ _ _ _ _
              have t6 : TSt K H2 H6 := (ts_same s25).trans (ts_but (s25 _ _ hD) x6)
              exact .tup (SqT.of (x6 _ _ ntD upd_same)) (.cons (.str _) (.cons (GX.Dp.tst t6 _ _ kd_file (GX.Dp.rs (GX.rs_same s2) _ _ hfv)) (.cons (ln_ts t6 hdf) (.cons (ln_ts t6 hdb) .nil))))
            · exact stay (by unfold gapC; rw [if_pos hz0]; simp only; rw [if_pos (by simpa using c)]) H3 s3 _ _ _ _ _
      · refine ite2 (fun _ => ?_) fun c => absurd (by simpa using hz0) c
        have eg : gapC (rS g) ⟨f, p, b⟩ = [.lines f.toList b.toList p] := by
          unfold gapC
          rw [if_neg hz0]
        rw [eg] at et
        refine tseq_intro (fun σ' H' => ∃ u : Addr, σ' = [some (.ref x), some fv, some (.ref r), some (.ref D), some fv', some (.ref pa), some bv, some (.ref u), y8] ∧ Same H2 H' ∧ H2 u = none ∧ H' u = some (.lst (ovs fv' f))) ?_ ?_
        · rintro σ' H3 ⟨u, rfl, s3, nu, hu⟩
          refine tseq_intro (fun σ' H' => ∃ u2 : Addr, σ' = [some (.ref x), some fv, some (.ref r), some (.ref D), some fv', some (.ref pa), some bv, some (.ref u), some (.ref u2)] ∧ Same H3 H' ∧ H3 u2 = none ∧ H' u2 = some (.lst (ovs bv b))) ?_ ?_
          · rintro σ' H4 ⟨u2, rfl, s4, nu2, hu2⟩
            have s24 := same_trans s3 s4
            have hD4 := s24 _ _ hD
            have hu4 := s4 _ _ hu
            refine ⟨_, rfl, .inl ⟨rfl, _, SqL.of hD4⟩, _, rfl, _, rfl, _, rfl, _, rfl, by show 5 ≤ sizeLine; omega, fun t5 nt5 => ?_⟩
            have s5 := same_new (o := .tup [.str "lines", fv, .ref u, .ref u2, .ref pa]) nt5
            have s25 := same_trans s24 s5
            refine ⟨D, cw.map (·.2), _, rfl, rfl, s5 _ _ hD4, by rw [List.length_map]; omega, ?_⟩
            refine fin _ eg _ t5 s25 (fun H6 x6 => ?_) _ _ _ _ _
            have nuD : u ≠ D := fun e => by rw [e, hD] at nu; cases nu
            have nu2D : u2 ≠ D := fun e => by rw [e, s3 _ _ hD] at nu2; cases nu2
            have ntD : t5 ≠ D := fun e => by rw [e, hD4] at nt5; cases nt5
            have t6 : TSt K H2 H6 := (ts_same s25).trans (ts_but (s25 _ _ hD) x6)
            exact .tup (SqT.of (x6 _ _ ntD upd_same)) (.cons (.str _) (.cons (GX.Dp.tst t6 _ _ kd_file (GX.Dp.rs (GX.rs_same s2) _ _ hfv)) (.cons (dp_ov (o_ts t6 df) (SqL.of (x6 _ _ nuD (s5 _ _ hu4)))) (.cons (dp_ov (o_ts t6 db) (SqL.of (x6 _ _ nu2D (s5 _ _ hu2)))) (.cons (dp_txs (sql_ex nD (fun b o n h => x6 b o n (s25 _ _ (s2 _ _ h))) hp0)) .nil)))))
          · intro N kk
            cases b with
            | none =>
              cases db
              refine ⟨_, rfl, rfl, _, rfl, ite2 (fun _ => ?_) fun c => absurd (decide_eq_true rfl) c⟩
              exact ⟨Nat.zero_le _, fun u2 nu2 => kk _ _ ⟨u2, rfl, same_new nu2, nu2, upd_same⟩⟩
            | some j =>
              obtain ⟨a6, rfl⟩ := ln_ref db
              refine ⟨_, rfl, rfl, _, rfl, ite2 (fun c => absurd (of_decide_eq_true c) (by intro h; cases h)) fun _ => ?_⟩
              exact ⟨_, rfl, by show 1 ≤ sizeLine; omega, fun u2 nu2 => kk _ _ ⟨u2, rfl, same_new nu2, nu2, upd_same⟩⟩
        · intro N kk
          cases f with
          | none =>
            cases df
            refine ⟨_, rfl, rfl, _, rfl, ite2 (fun _ => ?_) fun c => absurd (decide_eq_true rfl) c⟩
            exact ⟨Nat.zero_le _, fun u nu => kk _ _ ⟨u, rfl, same_new nu, nu, upd_same⟩⟩
          | some j =>
            obtain ⟨a4, rfl⟩ := ln_ref df
            refine ⟨_, rfl, rfl, _, rfl, ite2 (fun c => absurd (of_decide_eq_true c) (by intro h; cases h)) fun _ => ?_⟩
            exact ⟨_, rfl, by show 1 ≤ sizeLine; omega, fun u nu => kk _ _ ⟨u, rfl, same_new nu, nu, upd_same⟩⟩
    · rintro σ' H2 ⟨cw, y4, y5, y6, y7, y8, rfl, s2, hD, hcw, eC, lc⟩
      rw [lxs, List.take_length] at eC
      refine ⟨_, rfl, q1 _ _ _ s2 hD ?_⟩
      rw [← eC]
      exact dpAll_map fun e he => hcw e he H2 fun _ _ _ h => h
end
end K12
namespace K12
open PySem PySem.Spec PyProof.Rows L2 TR QR K15
open PySem.W (dataLt dataLe alike alikeAll AllAlike Sortable)
open GX (KT kd kdAll RS TSt dNO KeysAt)
open MB
abbrev sIP : Stmt := topS 13
abbrev nIP : List Str := ["rows", "size", "at"]
theorem scIP : FnScope nIP ["rows", "size"] (defScope sIP) := ⟨rfl, rfl, rfl, by decide +kernel, rfl, by decide +kernel, by decide +kernel⟩
abbrev sCC : Stmt := topS 14
abbrev nCC : List Str := ["file", "lines", "part"]
theorem scCC : FnScope nCC ["file", "lines"] (defScope sCC) := ⟨rfl, rfl, rfl, by decide +kernel, rfl, by decide +kernel, by decide +kernel⟩
/-- [e for x in xs], the values data -/
theorem lcmR {α : Type} {K : PySem.W.Frag} {p D : Addr} {te : TE} {j : Nat} {σ : L2.St} {H1 : Hp} {Qd : Hp → Prop} (F : List (α × V)) (dv : α → PyData) (hl : SqL K H1 p (F.map (·.2))) (ln : F.length ≤ 1000) (nD : H1 D = none)
    (hj : ∀ v, wipe (((wipe σ [j]).set j (some v))) [j] = wipe σ [j])
    (step : ∀ e ∈ F, ∀ (H2 : Hp) (R : VK), Same H1 H2 → (∃ acc, H2 D = some (.lst acc)) → (∀ y H3, Same H2 H3 → (∀ H4, EX D H3 H4 → Dp K H4 y (dv e.1)) → R y H3) → te ((wipe σ [j]).set j (some e.2)) H2 R)
    (q : ∀ H' vs, Same H1 H' → H' D = some (.lst vs) → DpAll K H' vs (F.map fun e => dv e.1) → Qd H') :
    ∃ W : Nat → Nat → Hp → Prop, (∃ m, W 0 m (upd H1 D (.lst []))) ∧ ∀ i m H, W i m H →
      ((Itl K p).stop i H ∧ Qd H) ∨ ((Itl K p).go i H ∧ ∃ Nx : Hp → Prop, (∀ H', Nx H' → ∃ m', m' < m ∧ W (i + 1) m' H') ∧ ∀ x H', (Itl K p).yld i H x H' → gName j x (wipe σ [j]) H' fun σ2 H2 => wipe σ2 [j] = wipe σ [j] ∧ tYes σ2 H2 fun b H3 =>
        if b = true then te σ2 H3 fun y H4 => ∃ acc, H4 D = some (.lst acc) ∧ acc.length < sizeLine ∧ Nx (upd H4 D (.lst (acc ++ [y]))) else Nx H3) := by
  have zl := zl
  refine lc_list (xs := F.map (·.2)) (fun m H' => Same H1 H' ∧ ∃ acc, H' D = some (.lst acc) ∧ acc.length = (F.take m).length ∧ ∀ H4, EX D H' H4 → DpAll K H4 acc ((F.take m).map fun e => dv e.1)) ⟨same_new nD, [], upd_same, rfl, fun _ _ => .nil⟩ ?_ ?_ ?_
  · rintro m H' _ ⟨s, _⟩
    exact (GX.rs_same s).sql hl
  · rintro m y H2 hy ⟨s, acc, eD, la, hA⟩
    obtain ⟨e, ge, rfl⟩ := map_get hy
    have hem := List.mem_of_getElem? ge
    have et : F.take (m + 1) = F.take m ++ [e] := by rw [List.take_add_one, ge]; rfl
    refine ⟨hj _, step e hem H2 _ s ⟨acc, eD⟩ fun z H3 s3 hz => ?_⟩
    have lt : (F.take m).length ≤ F.length := by rw [List.length_take]; omega
    have eD3 := s3 _ _ eD
    refine ⟨acc, eD3, by omega, same_upd nD (same_trans s s3), acc ++ [z], upd_same, by rw [et, List.length_append, List.length_append, la]; rfl, fun H4 h4 => ?_⟩
    have x34 : EX D H3 H4 := fun b o n h => h4 b o n ((upd_ne n).trans h)
    rw [et, List.map_append]
    exact dpAll_app (hA H4 ((EX.same s3).trans x34)) (.cons (hz H4 x34) .nil)
  · rintro H2 ⟨s, acc, eD, la, hA⟩
    rw [List.length_map, List.take_length] at hA
    exact q H2 acc s eD (hA H2 (fun _ _ _ h => h))
theorem cut_nat {xs : List V} {i j : Nat} : cutV xs (some (i : Int)) (some (j : Int)) = (xs.take j).drop i := by
  unfold cutV
  rw [HT.sIx_nat, HT.sIx_nat, List.drop_take]
  by_cases hi : i ≤ xs.length
  · rw [Nat.min_eq_left hi]
    by_cases hj : j ≤ xs.length
    · rw [Nat.min_eq_left hj]
    · rw [Nat.min_eq_right (by omega), List.take_of_length_le (by rw [List.length_drop]; exact Nat.le_refl _), List.take_of_length_le (by rw [List.length_drop]; omega)]
  · rw [Nat.min_eq_right (by omega : xs.length ≤ i), List.drop_eq_nil_of_le (Nat.le_refl _), List.drop_eq_nil_of_le (by omega : xs.length ≤ i), List.take_nil, List.take_nil]
theorem rg_parts : ∀ m : Nat, m ≤ 200 → Builtin.Range.small 0 (m : Int) 200 = true ∧ Builtin.Range.rangeSize 0 (m : Int) 200 = if m = 0 then 0 else 1 := by decide +kernel
theorem rgc_parts {m : Nat} (h : m ≤ 200) : RgC 0 (m : Int) 200 (if m = 0 then 0 else 1) := ⟨by decide, by decide, (rg_parts m h).1, by rw [(rg_parts m h).2]; split <;> rfl⟩
theorem lc_rangeC {lo c : Int} {n : Nat} {g : L2.TG} {tt : TT} {te : TE} {vs : List Nat} {σ : L2.St} {H0 : Hp} {D : Addr} {Qd : Hp → Prop} (Pv : Nat → Hp → Prop) (h0 : Pv 0 H0)
    (hs : ∀ i H, i < n → Pv i H → g (.int (lo + (i : Nat) * c)) (wipe σ vs) H fun σ2 H2 => wipe σ2 vs = wipe σ vs ∧ tt σ2 H2 fun b H3 =>
      if b = true then te σ2 H3 fun y H4 => ∃ acc, H4 D = some (.lst acc) ∧ acc.length < sizeLine ∧ Pv (i + 1) (upd H4 D (.lst (acc ++ [y]))) else Pv (i + 1) H3) (hd : ∀ H, Pv n H → Qd H) :
    ∃ W : Nat → Nat → Hp → Prop, (∃ m, W 0 m H0) ∧ ∀ i m H, W i m H →
      ((Itc lo c n).stop i H ∧ Qd H) ∨ ((Itc lo c n).go i H ∧ ∃ Nx : Hp → Prop, (∀ H', Nx H' → ∃ m', m' < m ∧ W (i + 1) m' H') ∧ ∀ x H', (Itc lo c n).yld i H x H' → g x (wipe σ vs) H' fun σ2 H2 => wipe σ2 vs = wipe σ vs ∧ tt σ2 H2 fun b H3 =>
        if b = true then te σ2 H3 fun y H4 => ∃ acc, H4 D = some (.lst acc) ∧ acc.length < sizeLine ∧ Nx (upd H4 D (.lst (acc ++ [y]))) else Nx H3) := by
  refine ⟨fun i m H => m = n - i ∧ i ≤ n ∧ Pv i H, ⟨n, by simp, Nat.zero_le _, h0⟩, ?_⟩
  rintro i m H ⟨rfl, hi, p⟩
  by_cases hlt : i < n
  · refine .inr ⟨hlt, Pv (i + 1), fun H' p' => ⟨n - (i + 1), by omega, rfl, hlt, p'⟩, fun x H' y => ?_⟩
    obtain ⟨rfl, rfl⟩ := y
    exact hs i _ hlt p
  · have e : i = n := by omega
    subst e
    exact .inl ⟨Nat.le_refl _, hd H p⟩
section
variable {P : Program} {w : World} {K : PySem.W.Frag} {mg : Str → Option Value} {base : Heap} {C : Addr}
def spIP (K : PySem.W.Frag) : Sp := fun vs H Q _ => ∃ (a : Addr) (xs : List V), vs = [.ref a, .int 200] ∧ SqL K H a xs ∧ xs.length ≤ 200 ∧
  ∀ H' D, Same H H' → ((xs = [] ∧ H' D = some (.lst [])) ∨ xs ≠ [] ∧ ∃ q, H' D = some (.lst [.ref q]) ∧ H' q = some (.lst xs)) → Q (.ref D) H'
theorem ok_IP {f : Addr} {fd : FuncData} (F : Fun K "in_parts" "in_parts" sIP f fd)
    (m_len : mg "len" = none) (m_range : mg "range" = none) : FnOk P w K mg base CX0 1 f fd ["rows", "size"] (spIP K) := by
  refine F.ok scIP (fun vs H Q E h => ?_) (fun cdv A outer s H vs Q E hr h => ?_)
  · obtain ⟨a, xs, rfl, _⟩ := h
    rfl
  · obtain ⟨a, xs, rfl, ha, l, q1⟩ := h
    have hu := hr.units
    have hu1 := hu_of hr
    have zl := zl
    refine ⟨_, (pss_one (ps_ret (pe_lc (own := [("at", 2)]) (g := gName 2) (tt := tYes) (te := tSl (rSlL K) (tVar 0) (tPart (tVar 2)) (tPart (tOp (rI0 fun i j => .int (i + j)) (tVar 2) (tVar 1)))) rfl scIP.nd (pi_range3 (by rfl) m_range (pa_cons (pe_int) (pa_cons (pe_callB call_len_seq (by rfl) m_len PySem.boot_len (pa_cons (pv 0) pa_nil)) (pa_cons (pv 1) pa_nil)))) (blkOk_by (N := nIP) (sc := defScope sIP) (by decide +kernel)) (fun _ _ _ _ _ => by exact pg_name (i := 2) scIP.nd rfl (.inl rfl)) (fun _ _ _ _ _ => pts_nil) (fun _ _ _ _ _ => by exact pe_slice sl_list (pv 0) (po_some (pv 2)) (po_some (pe_op op_add (pv 2) (pv 1))))))), ?_⟩
    refine ⟨_, rfl, a, xs, rfl, .inl ha, _, rfl, 0, (xs.length : Int), 200, _, rfl, rgc_parts l, fun D nD => ?_⟩
    refine lc_rangeC (fun i H' => Same H H' ∧ ((i = 0 ∧ H' D = some (.lst [])) ∨ (i = 1 ∧ ∃ q, H' D = some (.lst [.ref q]) ∧ H' q = some (.lst xs)))) ⟨same_new nD, .inl ⟨rfl, upd_same⟩⟩ ?_ ?_
    · rintro i H2 hi ⟨s2, hh⟩
      have h1 : i = 0 := by
        split at hi <;> omega
      subst h1
      rcases hh with ⟨_, hD⟩ | ⟨h, _⟩
      · refine ⟨rfl, _, rfl, _, rfl, _, rfl, _, rfl, _, rfl, _, _, rfl, rfl, _, rfl, a, xs, rfl, (GX.rs_same s2).sql ha, fun q nq => ?_⟩
        have e1 : cutV xs (some (0 + ((0 : Nat) : Int) * 200)) (some (0 + ((0 : Nat) : Int) * 200 + 200)) = xs := (cut_nat (i := 0) (j := 200)).trans (by rw [List.drop_zero, List.take_of_length_le l])
        rw [e1]
        have sq := same_new (o := .lst xs) nq
        have nqD : q ≠ D := fun e => by rw [e, hD] at nq; cases nq
        exact ⟨[], sq _ _ hD, by show 0 < sizeLine; omega, same_upd nD (same_trans s2 sq), .inr ⟨rfl, q, upd_same, (upd_ne nqD).trans upd_same⟩⟩
      · cases h
    · rintro H2 ⟨s2, hh⟩
      refine q1 H2 D s2 ?_
      by_cases hx : xs = []
      · rw [if_pos (by rw [hx]; rfl)] at hh
        exact .inl ⟨hx, hh.elim (·.2) fun h => by cases h.1⟩
      · rw [if_neg (fun e => hx (List.eq_nil_of_length_eq_zero e))] at hh
        exact .inr ⟨hx, hh.elim (fun h => by cases h.1) (·.2)⟩
def srtN (l : List Nat) : List Nat := l.mergeSort fun a b => decide (a ≤ b)
theorem srt_eq {L l : List Nat} (p : L.Perm l) (s : L.Pairwise (· ≤ ·)) : L = srtN l := by
  have h1 : (srtN l).Perm l := List.mergeSort_perm _ _
  have h2 : (srtN l).Pairwise (fun a b => (decide (a ≤ b)) = true) := List.pairwise_mergeSort (le := fun a b : Nat => decide (a ≤ b)) (fun a b c h1 h2 => decide_eq_true (Nat.le_trans (of_decide_eq_true h1) (of_decide_eq_true h2))) (fun a b => by simp only [Bool.or_eq_true, decide_eq_true_eq]; omega) l
  exact List.Perm.eq_of_pairwise (le := fun a b : Nat => a ≤ b) (fun a b _ _ h1 h2 => Nat.le_antisymm h1 h2) s (h2.imp fun h => of_decide_eq_true h) (p.trans h1.symm)
theorem srt_nil {l : List Nat} : srtN l = [] ↔ l = [] := by
  have h1 : (srtN l).Perm l := List.mergeSort_perm _ _
  constructor
  · intro h
    rw [h] at h1
    exact h1.symm.eq_nil
  · intro h
    rw [h] at h1 ⊢
    exact h1.eq_nil
def spCC (K : PySem.W.Frag) : Sp := fun vs H Q _ => ∃ (fv : V) (a : Addr) (F : List (Nat × V)), vs = [fv, .ref a] ∧ Dp K H fv fileD ∧ SqL K H a (F.map (·.2)) ∧ LAt K H F ∧ F.length ≤ 100 ∧ ∀ H' D vs, Same H H' → H D = none → H' D = some (.lst vs) → DpAll K H' vs ((cutC (srtN (F.map (·.1)))).map chgD) → Q (.ref D) H'
theorem ok_CC {f fIP : Addr} {fd fdIP : FuncData} {kMC : Tok} (F : Fun K "cut_changes" "cut_changes" sCC f fd)
    (GIP : FnOk P w K mg base CX0 1 fIP fdIP ["rows", "size"] (spIP K)) (bIP : Binds K fdIP ["rows", "size"] []) (gIP : mg "in_parts" = some (.ref fIP)) (kIP : PySem.W.keepIn K (.ref fIP) = true)
    (m_sorted : mg "sorted" = none) (gMC : mg "MOST_CUT" = some (.int 200 kMC)) : FnOk P w K mg base CX0 2 f fd ["file", "lines"] (spCC K) := by
  refine F.ok scCC (fun vs H Q E h => ?_) (fun cdv A outer s H vs Q E hr h => ?_)
  · obtain ⟨fv, a, F, rfl, _⟩ := h
    rfl
  · obtain ⟨fv, a, F, rfl, hfv, ha, hF, l, q1⟩ := h
    have hu := hr.units
    have hu1 := hu_of hr
    have hr1 : Room 1 _ := hr.mono (by decide)
    have zl := zl
    refine ⟨_, (pss_one (ps_ret (pe_lc (own := [("part", 2)]) (g := gName 2) (tt := tYes) (te := tTup (tCons (tC (.str "cut")) (tCons (tVar 0) (tCons (tVar 2) tNil)))) rfl scCC.nd (pi_list (pe_call GIP hr1 (by rfl) gIP kIP bIP .nil pass0 (pa_cons (pe_callB (GX.cr_sortedD hu) (by rfl) m_sorted (by decide +kernel) (pa_cons (pv 1) pa_nil)) (pa_cons (pe_glob (v := V.int 200) (by rfl) gMC ⟨_, rfl⟩) pa_nil)))) (blkOk_by (N := nCC) (sc := defScope sCC) (by decide +kernel)) (fun _ _ _ _ _ => by exact pg_name (i := 2) scCC.nd rfl (.inl rfl)) (fun _ _ _ _ _ => pts_nil) (fun _ _ _ _ _ => by exact pe_tup (pa_cons (pe_str) (pa_cons (pv 0) (pa_cons (pv 2) pa_nil))))))), ?_⟩
    obtain ⟨al, so⟩ := able_L (fun e : Nat × V => e.1) F
    refine ⟨_, rfl, a, F.map (fun e : Nat × V => e.2), Nat × V, F, fun e => encL e.1, fun v e => v = e.2 ∧ e ∈ F, rfl, ha, each_ps F (fun _ h => h), fun v b hb => by rw [hb.1]; exact hF _ hb.2, al, so, fun b _ => Nat.le_trans (dpk b.1) (by decide), fun ys pS hys npS => ?_⟩
    have ey := ps_each hys
    subst ey
    obtain ⟨pF, sF⟩ := sort_L F
    generalize F.mergeSort (dataLe false fun e : Nat × V => encL e.1) = LL at pF sF npS
    have eL : LL.map (·.1) = srtN (F.map (·.1)) := srt_eq (pF.map _) (by rw [List.pairwise_map]; exact sF)
    have hL0 : LAt K H LL := fun e he => hF e (pF.mem_iff.mp he)
    have lL : LL.length = F.length := pF.length_eq
    have s1 : Same H (upd H pS (.lst (LL.map (·.2)))) := same_new npS
    have hS1 : upd H pS (.lst (LL.map (·.2))) pS = some (.lst (LL.map (·.2))) := upd_same
    generalize upd H pS (.lst (LL.map (·.2))) = H1 at s1 hS1
    refine ⟨pS, LL.map (·.2), rfl, SqL.of hS1, by rw [List.length_map]; omega, fun H2 D2 s2 hh => ?_⟩
    have s02 := same_trans s1 s2
    -- the parts as a list of one or none
    obtain ⟨PL, hPL, hP2, eP⟩ : ∃ PL : List (List Nat × V), H2 D2 = some (.lst (PL.map (·.2))) ∧ (∀ e ∈ PL, ∃ q, e.2 = .ref q ∧ H2 q = some (.lst (LL.map (·.2))) ∧ e.1 = LL.map (·.1)) ∧ (PL.map fun e => chgD (.cut e.1)) = (cutC (LL.map (·.1))).map chgD := by
      rcases hh with ⟨hx, hD⟩ | ⟨hx, q, hD, hq⟩
      · have e0 : LL = [] := List.map_eq_nil_iff.mp hx
        exact ⟨[], hD, (fun _ h => nomatch h), by rw [e0]; rfl⟩
      · have e0 : LL.map (·.1) ≠ [] := fun e => hx (by rw [List.map_eq_nil_iff.mp e]; rfl)
        refine ⟨[(LL.map (·.1), .ref q)], hD, fun e he => by rw [List.mem_singleton.mp he]; exact ⟨q, rfl, hq, rfl⟩, ?_⟩
        unfold cutC
        rw [if_neg e0]
        rfl
    have lPL : PL.length ≤ 1 := by
      rcases hh with ⟨hx, hD⟩ | ⟨hx, q, hD, hq⟩
      · rw [hD] at hPL
        have := congrArg List.length (HO.lst.inj (Option.some.inj hPL))
        rw [List.length_map] at this
        rw [← this]
        exact Nat.zero_le _
      · rw [hD] at hPL
        have := congrArg List.length (HO.lst.inj (Option.some.inj hPL))
        rw [List.length_map] at this
        rw [← this]
        exact Nat.le_refl _
    refine ⟨D2, rfl, ⟨_, SqL.of hPL⟩, fun D nD => ?_⟩
    refine lcmR PL (fun e => chgD (.cut e)) (SqL.of hPL) (by omega) nD (by intro _; rfl) (fun e he H3 R s3 ⟨acc, hD⟩ hRk => ?_) (fun H4 vs s4 hv hdp => ?_)
    · obtain ⟨q, e2, hq, e1⟩ := hP2 e he
      rw [e2]
      refine ⟨_, rfl, _, rfl, by show 3 ≤ sizeLine; omega, fun t nt => ?_⟩
      have st := same_new (o := .tup [.str "cut", fv, .ref q]) nt
      have ntD : t ≠ D := fun z => by rw [z, hD] at nt; cases nt
      refine hRk _ _ st fun H5 x5 => ?_
      have s03 := same_trans s02 (same_trans s3 st)
      have t5 : TSt K H H5 := (ts_same s03).trans (ts_but (st _ _ hD) x5)
      have hq5 : H5 q = some (.lst (LL.map (·.2))) := x5 _ _ (fun z => by rw [z, nD] at hq; cases hq) (st _ _ (s3 _ _ hq))
      show Dp K H5 (.ref t) (.tuple [.str "cut", fileD, lsD e.1])
      rw [e1]
      exact .tup (SqT.of (x5 _ _ ntD upd_same)) (.cons (.str _) (.cons (GX.Dp.tst t5 _ _ kd_file hfv) (.cons (dp_ls (SqL.of hq5) (hL0.ts t5)) .nil)))
    · refine q1 H4 D vs (same_trans s02 s4) (same_none s02 nD) hv ?_
      rw [← eL, ← eP]
      exact hdp
end
end K12
namespace K12
open PySem PySem.Spec PyProof.Rows L2 TR QR K15
open GX (KT kd kdAll RS TSt dNO KeysAt)
open GxR (TabB TabG Tabbed)
open MB
abbrev sIC : Stmt := topS 15
abbrev nIC : List Str := ["graph", "found", "block", "line", "one"]
theorem scIC : FnScope nIC ["graph"] (defScope sIC) := ⟨rfl, rfl, rfl, by decide +kernel, rfl, by decide +kernel, by decide +kernel⟩
/-- what stood stands, but for the table -/
structure Tb (T : Addr) (H H' : Hp) : Prop where
  sm : ∀ b o, b ≠ T → H b = some o → H' b = some o
  tg : TabG H' T
theorem Tb.rs {T : Addr} {H H' : Hp} (g : TabG H T) (t : Tb T H H') : RS H H' := by
  obtain ⟨ps, h, _⟩ := g
  exact GX.rs_tb ⟨ps, h⟩ t.sm
theorem Tb.same {T : Addr} {H H1 H2 : Hp} (t : Tb T H H1) (s : Same H1 H2) : Tb T H H2 := ⟨fun b o n h => s _ _ (t.sm b o n h), by
  obtain ⟨ps, h, k⟩ := t.tg
  exact ⟨ps, s _ _ h, k⟩⟩
theorem tabG_same {T : Addr} {H H' : Hp} (g : TabG H T) (s : Same H H') : TabG H' T := by
  obtain ⟨ps, h, k⟩ := g
  exact ⟨ps, s _ _ h, k⟩
/-- what stood stands, but for the table and a dict that is being made -/
structure Fr (T D : Addr) (H H' : Hp) : Prop where
  sm : ∀ b o, b ≠ T → b ≠ D → H b = some o → H' b = some o
  tg : TabG H' T
section
variable {P : Program} {w : World} {K : PySem.W.Frag} {T D a : Addr} {H H' H2 : Hp} {es : List (Nat × Addr × V)} {xs : List V}
theorem Fr.lst (hT : TabG H T) (hD : H D = some (dNO ktL P w D es)) (f : Fr T D H H') (h : H a = some (.lst xs)) : H' a = some (.lst xs) := by
  refine f.sm _ _ (fun e => ?_) (fun e => ?_) h
  · obtain ⟨ps, g, _⟩ := hT
    rw [e, g] at h
    cases h
  · rw [e, hD] at h
    cases h
theorem Fr.sql (hT : TabG H T) (hD : H D = some (dNO ktL P w D es)) (f : Fr T D H H') (h : SqL K H a xs) : SqL K H' a xs := by
  rcases h with h | h
  · rcases h with h | ⟨o, h⟩
    · exact .inl (.inl (f.lst hT hD h))
    · refine .inl (.inr ⟨o, f.sm _ _ (fun e => ?_) (fun e => ?_) h⟩)
      · obtain ⟨ps, g, _⟩ := hT
        rw [e, g] at h
        cases h
      · rw [e, hD] at h
        cases h
  · exact .inr h
theorem Fr.ts (hT : TabG H T) (hD : H D = some (dNO ktL P w D es)) (f : Fr T D H H') : TSt K H H' := fun y zs h => by
  rcases h with h | h
  · rcases h with h | ⟨o, h⟩
    · refine .inl (.inl (f.sm _ _ (fun e => ?_) (fun e => ?_) h))
      · obtain ⟨ps, g, _⟩ := hT
        rw [e, g] at h
        cases h
      · rw [e, hD] at h
        cases h
    · refine .inl (.inr ⟨o, f.sm _ _ (fun e => ?_) (fun e => ?_) h⟩)
      · obtain ⟨ps, g, _⟩ := hT
        rw [e, g] at h
        cases h
      · rw [e, hD] at h
        cases h
  · exact .inr h
end
/-- a line of a block lies in a circle of it -/
def Circ (g : Nat → List Nat) (A : List Nat) (k : Nat) : Prop := ∃ j ∈ A, k ≠ j ∧ TG (fun a b => b ∈ g a) k j ∧ TG (fun a b => b ∈ g a) j k
section
variable {P : Program} {w : World} {K : PySem.W.Frag} {mg : Str → Option Value} {base : Heap} {C : Addr}
def spIC (P : Program) (w : World) (K : PySem.W.Frag) (C T : Addr) : Sp := fun vs H Q _ => ∃ (x : Addr) (n : Nat) (kp ks : List Nat) (g : Nat → List Nat) (tx : Nat → Str), vs = [.ref x] ∧ InG P w K C H x n kp ks g tx ∧ TabG H T ∧
  ∀ d H' es R, Tb T H H' → H d = none → H' d = some (dNO ktL P w d es) → KeysAt ktL K H' es → (es.map (·.1)).Nodup → (∀ k, k ∈ es.map (·.1) ↔ ∃ A ∈ R, k ∈ A ∧ Circ g A k) → Blk g kp R → Q (.ref d) H'
theorem ok_IC {T1 c f fBL fMB : Addr} {fdBL fdMB : FuncData} {oc kV doc pm ct : Value} {od an : Option Addr} {osl : Array (Option Value)} (lk : K.lookup f = some ⟨oc, od, .func (PySem.W.fnOf "in_circles" "in_circles" (defArgs sIC) (defBody sIC) (defScope sIC) .none kV doc pm an (.ref c) ct), osl⟩)
    (hcd : PySem.W.codeIn K (.ref c) "in_circles" = true) (TB : TabB base mg c T1)
    (GBL : FnOk P w K mg base CX0 3 fBL fdBL ["graph"] (spBL P w K C)) (bBL : Binds K fdBL ["graph"] []) (gBL : mg "blocks" = some (.ref fBL)) (kBL : PySem.W.keepIn K (.ref fBL) = true) (m_any : mg "any" = none) (T : Txt K mg C)
    (MMB : Meth K C "before" fMB) (GMB : FnOk P w K mg base CX0 1 fMB fdMB ["self", "one", "other"] (spMe P w K C rBe)) (bMB : Binds K fdMB ["self", "one", "other"] []) :
    FnOk P w K mg base CX0 4 f (PySem.W.fnOf "in_circles" "in_circles" (defArgs sIC) (defBody sIC) (defScope sIC) .none kV doc pm an (.ref c) ct) ["graph"] (spIC P w K C T1) := by
  refine fn_of lk hcd scIC (fun vs H Q E h => ?_) fun A outer s H vs Q E hr h => ?_
  · obtain ⟨x, n, kp, ks, g, tx, rfl, _⟩ := h
    rfl
  · obtain ⟨x, n, kp, ks, g, tx, rfl, hg, hT, q⟩ := h
    have hu := hr.units
    have hu1 := hu_of hr
    have zl := zl
    have hr3 := hr
    have hrX : Room (2 + 1) _ := hr.mono (by decide)
    refine ⟨_, PSs.nox ((pss_cons (ps_set (i := 1) scIC.nd rfl (.inl rfl) ((GX.pe_dnewN (T := ktL))))
      (pss_cons (ps_for PassesOwn.never rfl (pi_list (pe_call GBL hr3 (by rfl) gBL kBL bBL .nil pass0 (pa_cons (pv 0) pa_nil))) (pg_name (i := 2) scIC.nd rfl (.inl rfl))
      (pss_one (ps_for PassesOwn.never rfl (pi_list (pv 2)) (pg_name (i := 3) scIC.nd rfl (.inr rfl))
      (pss_one (ps_if (pt_truth (GX.pe_anyG (k := 2) (own := [("one", 4)]) (g := gName 4) (tt := tYes) (te := tAndV (tOp (rNeP K) (tVar 3) (tVar 4)) (tAndV (tMeth C "before" (spMe P w K C rBe) [] E0 (tVar 0) (tCons (tVar 3) (tCons (tVar 4) tNil))) (tMeth C "before" (spMe P w K C rBe) [] E0 (tVar 0) (tCons (tVar 4) (tCons (tVar 3) tNil))))) hrX rfl scIC.nd (by rfl) m_any ⟨blkOk_by (N := nIC) (sc := defScope sIC) (by decide +kernel), by decide +kernel, rfl, rfl, TB, rfl⟩ (pi_list (pv 2)) (fun _ _ _ _ _ _ hrG => by exact pg_name (i := 4) scIC.nd rfl (.inl rfl)) (fun _ _ _ _ _ _ hrG => pts_nil) (fun _ _ _ _ _ _ hrG => by exact pe_and (pe_cmpR (op_neP hrG.units) (pv 3) (pv 4) (nomark _)) (pe_and (pe_meth (pv 0) T.cl MMB GMB (hrG.mono (by decide)) bMB .nil pass0 (pa_cons (pv 3) (pa_cons (pv 4) pa_nil))) (pe_one (pe_meth (pv 0) T.cl MMB GMB (hrG.mono (by decide)) bMB .nil pass0 (pa_cons (pv 4) (pa_cons (pv 3) pa_nil)))))) (fun _ => rfl)) (by intro _; rfl))
      (pss_one (ps_asg (pe_bl) (pg_sub (pv 1) (pv 3) (GX.set_N (T := ktL) hu)))) pss_nil)))))
      (pss_one (ps_ret (pv 1)))))), ?_⟩
    obtain ⟨g1, g2, g3, g4⟩ := hg
    refine fun D nD => ?_
    have sD := same_new (o := dNO ktL P w D []) nD
    refine ⟨_, rfl, x, n, kp, ks, g, tx, rfl, g1.same sD, g2, g3, g4, fun p H1 FF s1 np hp hR hrw hpk => ?_⟩
    have s01 := same_trans sD s1
    have hD1 := s1 _ _ (upd_same (H := H) (a := D) (o := dNO ktL P w D []))
    have nD0 := nD
    have hT1 := tabG_same hT s01
    have dT : D ≠ T1 := fun e => by
      obtain ⟨ps, h, _⟩ := hT
      rw [← e, nD] at h
      cases h
    obtain ⟨dx, al, ap, ae, ab, at', ar, js, M, hx, _⟩ := g1.ex
    have nxT : x ≠ T1 := fun e => by
      obtain ⟨ps, h, _⟩ := hT
      rw [e, h] at hx
      cases hx
    have nxD : x ≠ D := fun e => by rw [e, nD] at hx; cases hx
    -- what the law keeps of the heaps that follow
    have tb : ∀ {H'}, Fr T1 D H1 H' → Tb T1 H H' := fun f => ⟨fun b o n h => f.sm b o n (fun e => by rw [e, nD] at h; cases h) (s01 _ _ h), f.tg⟩
    have hg' : ∀ {H'}, Fr T1 D H1 H' → GrAt P w K C H' x n kp ks g tx := fun f => g1.rs ((tb f).rs hT) (((tb f).sm _ _ nxT hx).trans hx.symm)
    have hts : ∀ {H'}, Fr T1 D H1 H' → TSt K H1 H' := fun f => f.ts hT1 hD1
    have fr0 : Fr T1 D H1 H1 := ⟨fun _ _ _ _ h => h, hT1⟩
    refine ⟨p, rfl, ⟨_, SqL.of hp⟩, ?_⟩
    refine for_list (xs := FF.map fun z => V.ref z.1) (fun m σ' H' => ∃ (y2 y3 : Option V) (es : List (Nat × Addr × V)), σ' = [some (.ref x), some (.ref D), y2, y3, none] ∧ Fr T1 D H1 H' ∧ H' D = some (dNO ktL P w D es) ∧ KeysAt ktL K H' es ∧ (es.map (·.1)).Nodup ∧
      (∀ k, k ∈ es.map (·.1) ↔ ∃ z ∈ FF.take m, k ∈ z.2.map (·.1) ∧ Circ g (z.2.map (·.1)) k) ∧ es.length ≤ 10 * m) ⟨none, none, [], rfl, fr0, hD1, (fun _ h => nomatch h), List.nodup_nil, fun k => ⟨(fun h => nomatch h), (fun ⟨z, h, _⟩ => nomatch h)⟩, Nat.zero_le _⟩ ?_ ?_ ?_
    · rintro m σ' H' _ ⟨_, _, _, _, f, _⟩
      exact f.sql hT1 hD1 (SqL.of hp)
    · rintro m v σ' H2 hv ⟨y2, y3, es, rfl, f2, hD2, kD2, nd2, hk2, l2⟩
      obtain ⟨z, gz, rfl⟩ := map_get hv
      have hz := List.mem_of_getElem? gz
      have hzk : z.2.map (·.1) ∈ keysF FF := List.mem_map.mpr ⟨z, hz, rfl⟩
      obtain ⟨z1, z2⟩ := hR z hz
      have el : z.2.length ≤ 10 := row_len hrw (pw_len g2 g3 g4) hz
      have hkn : ∀ e ∈ z.2, e.1 < n := fun e he => g3 _ (hrw.perm.mem_iff.mp (List.mem_flatten.mpr ⟨_, hzk, List.mem_map.mpr ⟨e, he, rfl⟩⟩))
      have lFF : FF.length ≤ 1000 := rows_len hrw (pw_len g2 g3 g4)
      have hm : m < FF.length := (List.getElem?_eq_some_iff.mp gz).1
      have et : FF.take (m + 1) = FF.take m ++ [z] := by rw [List.take_add_one, gz]; rfl
      dsimp only [gName]
      refine ⟨_, rfl, z.1, rfl, ⟨_, f2.sql hT1 hD1 z1⟩, ?_⟩
      refine for_list (xs := z.2.map (·.2)) (fun l σ' H' => ∃ (y3 : Option V) (es : List (Nat × Addr × V)), σ' = [some (.ref x), some (.ref D), some (.ref z.1), y3, none] ∧ Fr T1 D H1 H' ∧ H' D = some (dNO ktL P w D es) ∧ KeysAt ktL K H' es ∧ (es.map (·.1)).Nodup ∧
        (∀ k, k ∈ es.map (·.1) ↔ (∃ z ∈ FF.take m, k ∈ z.2.map (·.1) ∧ Circ g (z.2.map (·.1)) k) ∨ (k ∈ (z.2.take l).map (·.1) ∧ Circ g (z.2.map (·.1)) k)) ∧ es.length ≤ 10 * m + l) ⟨y3, es, rfl, f2, hD2, kD2, nd2, fun k => (hk2 k).trans ⟨.inl, fun h => h.elim id (fun h => nomatch h.1)⟩, by omega⟩ ?_ ?_ ?_
      · rintro l σ' H' _ ⟨_, _, _, f, _⟩
        exact f.sql hT1 hD1 z1
      · rintro l v σ' H3 hv ⟨y3, es, rfl, f3, hD3, kD3, nd3, hk3, l3⟩
        obtain ⟨⟨k, v⟩, ge, rfl⟩ := map_get hv
        have hem := List.mem_of_getElem? ge
        have hl : l < z.2.length := (List.getElem?_eq_some_iff.mp ge).1
        have etl : (z.2.take (l + 1)).map (·.1) = (z.2.take l).map (·.1) ++ [k] := by rw [List.take_add_one, ge, List.map_append]; rfl
        have hkm : k ∈ z.2.map (·.1) := List.mem_map.mpr ⟨_, hem, rfl⟩
        have dk1 : Dp K H1 v (encL k) := z2 _ hem
        obtain ⟨ka, rfl⟩ := ln_ref dk1
        dsimp only [gName]
        refine ⟨_, rfl, z.1, rfl, ⟨_, f3.sql hT1 hD1 z1⟩, f3.tg, fun H4 tb4 => ?_⟩
        have t34 : Tb T1 H3 H4 := ⟨fun b o n h => (tb4.2 b n).trans h, tb4.1⟩
        have frT : ∀ {H'}, Tb T1 H3 H' → Fr T1 D H1 H' := fun t => ⟨fun b o n1 n2 h => t.sm _ _ n1 (f3.sm _ _ n1 n2 h), t.tg⟩
        refine GX.wk_list (xs := z.2.map (·.2)) (fun i H' => Tb T1 H3 H' ∧ ∀ e ∈ z.2.take i, ¬ (k ≠ e.1 ∧ TG (fun a b => b ∈ g a) k e.1 ∧ TG (fun a b => b ∈ g a) e.1 k)) ⟨t34, (fun _ h => nomatch h)⟩ ?_ ?_ ?_
        · rintro i H' _ ⟨t, _⟩
          exact (frT t).sql hT1 hD1 z1
        · rintro i v H5 hv ⟨t5, hn5⟩
          obtain ⟨⟨j, v⟩, gj, rfl⟩ := map_get hv
          have hjm := List.mem_of_getElem? gj
          have f5 := frT t5
          have dj1 : Dp K H1 v (encL j) := z2 _ hjm
          obtain ⟨ja, rfl⟩ := ln_ref dj1
          have dk := ln_ts (hts f5) dk1
          have dj := ln_ts (hts f5) dj1
          have eti : z.2.take (i + 1) = z.2.take i ++ [(j, .ref ja)] := by rw [List.take_add_one, gj]; rfl
          have more : ¬ (k ≠ j ∧ TG (fun a b => b ∈ g a) k j ∧ TG (fun a b => b ∈ g a) j k) → ∀ e ∈ z.2.take (i + 1), ¬ (k ≠ e.1 ∧ TG (fun a b => b ∈ g a) k e.1 ∧ TG (fun a b => b ∈ g a) e.1 k) := fun h e he => by
            rw [eti] at he
            rcases List.mem_append.mp he with h' | h'
            · exact hn5 e h'
            · rw [List.mem_singleton.mp h']
              exact h
          have hxI : H5 x = some (.ins C dx _) := (tb f5).sm _ _ nxT hx
          refine ⟨rfl, _, rfl, _, rfl, encL k, encL j, dk, dj, plain_L _, plain_L _, Nat.le_trans (ktL.dp k) (by decide), _, rfl, ?_⟩
          rw [eqv_L]
          refine ite2 (fun c1 => ?_) (fun c1 => ?_)
          · have c1 : k ≠ j := by simpa using c1
            refine ⟨_, rfl, x, dx, _, rfl, hxI, gr_no no_before, _, rfl, _, rfl, x, ka, ja, n, kp, ks, g, tx, k, j, rfl, hg' f5, dk, dj, hkn _ hem, hkn _ hjm, fun b1 hb1 => ⟨_, rfl, ite2 (fun c2 => ?_) (fun c2 => ?_)⟩⟩
            · refine ⟨_, rfl, x, dx, _, rfl, hxI, gr_no no_before, _, rfl, _, rfl, x, ja, ka, n, kp, ks, g, tx, j, k, rfl, hg' f5, dj, dk, hkn _ hjm, hkn _ hem, fun b2 hb2 => ⟨_, rfl, ite2 (fun c3 => ?_) (fun c3 => ?_)⟩⟩
              · -- a circle
                refine ⟨_, rfl, ite2 (fun _ => ?_) (fun c => absurd rfl c)⟩
                have hc : Circ g (z.2.map (·.1)) k := ⟨j, List.mem_map.mpr ⟨_, hjm, rfl⟩, c1, hb1.mp c2, hb2.mp c3⟩
                have hD5 := t5.sm _ _ dT hD3
                have kD5 := kD3.ts (t5.rs f3.tg).tst
                refine ⟨_, rfl, _, rfl, D, ka, es, k, rfl, rfl, hD5, kD5, dk, by omega, ?_⟩
                have td := ts_dict (K := K) (o := dNO ktL P w D (GX.dSt es k ka (.bl true))) hD5
                have f6 : Fr T1 D H1 (upd H5 D (dNO ktL P w D (GX.dSt es k ka (.bl true)))) := ⟨fun b o n1 n2 h => (upd_ne n2).trans (f5.sm _ _ n1 n2 h), by
                  obtain ⟨ps, h, hh⟩ := f5.tg
                  exact ⟨ps, (upd_ne (Ne.symm dT)).trans h, hh⟩⟩
                have ln := GX.st_len (es := es) (k := k) (b := ka) (v := .bl true)
                refine ⟨_, GX.dSt es k ka (.bl true), rfl, f6, upd_same, (GX.st_keys kD5 dk).ts td, GX.st_nodup nd3, fun k' => ?_, by omega⟩
                rw [dst_keys, etl]
                by_cases hin : k ∈ es.map (·.1)
                · rw [if_pos hin, hk3 k']
                  constructor
                  · exact fun h => h.imp id fun h => ⟨List.mem_append.mpr (.inl h.1), h.2⟩
                  · rintro (h | ⟨h, h2⟩)
                    · exact .inl h
                    · rcases List.mem_append.mp h with h | h
                      · exact .inr ⟨h, h2⟩
                      · rw [List.mem_singleton.mp h]
                        exact (hk3 k).mp hin
                · rw [if_neg hin, List.mem_append, hk3 k']
                  constructor
                  · rintro ((h | h) | h)
                    · exact .inl h
                    · exact .inr ⟨List.mem_append.mpr (.inl h.1), h.2⟩
                    · rw [List.mem_singleton.mp h]
                      exact .inr ⟨List.mem_append.mpr (.inr (List.mem_singleton.mpr rfl)), hc⟩
                  · rintro (h | ⟨h, h2⟩)
                    · exact .inl (.inl h)
                    · rcases List.mem_append.mp h with h | h
                      · exact .inl (.inr ⟨h, h2⟩)
                      · exact .inr h
              · exact ⟨t5, more fun h => c3 (hb2.mpr h.2.2)⟩
            · exact ⟨_, rfl, ite2 (fun c => absurd c (by decide)) fun _ => ⟨t5, more fun h => c2 (hb1.mpr h.2.1)⟩⟩
          · exact ⟨_, rfl, ite2 (fun c => absurd c (by decide)) fun _ => ⟨t5, more fun h => c1 (by simpa using h.1)⟩⟩
        · rintro H5 ⟨t5, hn5⟩
          rw [List.length_map, List.take_length] at hn5
          refine ⟨_, rfl, ite2 (fun c => absurd c (by decide)) fun _ => ?_⟩
          have nc : ¬ Circ g (z.2.map (·.1)) k := fun ⟨j, hj, h1, h2⟩ => by
            obtain ⟨e, he, rfl⟩ := List.mem_map.mp hj
            exact hn5 e he ⟨h1, h2⟩
          refine ⟨_, es, rfl, frT t5, t5.sm _ _ dT hD3, kD3.ts (t5.rs f3.tg).tst, nd3, fun k' => (hk3 k').trans ?_, by omega⟩
          rw [etl]
          refine or_congr_right ⟨fun h => ⟨List.mem_append.mpr (.inl h.1), h.2⟩, fun h => ⟨(List.mem_append.mp h.1).resolve_right fun e => ?_, h.2⟩⟩
          rw [List.mem_singleton.mp e] at h
          exact nc h.2
      · rintro σ' H3 ⟨y3, es, rfl, f3, hD3, kD3, nd3, hk3, l3⟩
        rw [List.length_map] at l3
        rw [List.length_map, List.take_length] at hk3
        refine ⟨_, y3, es, rfl, f3, hD3, kD3, nd3, fun k => (hk3 k).trans ?_, by omega⟩
        rw [et]
        constructor
        · rintro (⟨y, hy, h⟩ | h)
          · exact ⟨y, List.mem_append.mpr (.inl hy), h⟩
          · exact ⟨z, List.mem_append.mpr (.inr (List.mem_singleton.mpr rfl)), h⟩
        · rintro ⟨y, hy, h⟩
          rcases List.mem_append.mp hy with hy | hy
          · exact .inl ⟨y, hy, h⟩
          · rw [List.mem_singleton.mp hy] at h
            exact .inr h
    · rintro σ' H2 ⟨y2, y3, es, rfl, f2, hD2, kD2, nd2, hk2, l2⟩
      rw [List.length_map, List.take_length] at hk2
      refine ⟨_, rfl, q D H2 es (keysF FF) (tb f2) nD hD2 kD2 nd2 (fun k => (hk2 k).trans ?_) ⟨hrw, hpk⟩⟩
      constructor
      · rintro ⟨z, hz, h1, h2⟩
        exact ⟨_, List.mem_map.mpr ⟨z, hz, rfl⟩, h1, h2⟩
      · rintro ⟨A, hA, h1, h2⟩
        obtain ⟨z, hz, rfl⟩ := List.mem_map.mp hA
        exact ⟨z, hz, h1, h2⟩
end
end K12
namespace K12
open PySem PySem.Spec PyProof.Rows L2 TR QR K15
open GX (KT kd kdAll RS TSt dNO KeysAt)
open GxR (TabB TabG Tabbed)
open MB
abbrev sWA : Stmt := topS 18
abbrev nWA : List Str := ["graph", "file", "texts", "lines", "circled", "steps", "fallen", "step", "line"]
theorem scWA : FnScope nWA ["graph", "file", "texts"] (defScope sWA) := ⟨rfl, rfl, rfl, by decide +kernel, rfl, by decide +kernel, by decide +kernel⟩
theorem fnd_in {es : List (Nat × Addr × V)} {k : Nat} : (es.find? fun e => decide (e.1 = k)).isSome = decide (k ∈ es.map (·.1)) := by
  rw [Bool.eq_iff_iff, List.find?_isSome, decide_eq_true_iff, List.mem_map]
  constructor
  · rintro ⟨e, he, h⟩
    exact ⟨e, he, of_decide_eq_true h⟩
  · rintro ⟨e, he, h⟩
    exact ⟨e, he, decide_eq_true h⟩
theorem txts_at {es : List (Nat × Addr × V)} {tx : Nat → Str} {k : Nat} (e1 : ∀ e ∈ es, e.2.2 = .str (tx e.1)) (hk : k ∈ es.map (·.1)) : ∃ b, (es.find? fun e => decide (e.1 = k)) = some (k, b, .str (tx k)) := by
  obtain ⟨⟨k', b, v⟩, h1, h2, h3⟩ := find_of hk
  have h4 := e1 _ h2
  simp only at h3 h4
  subst h3
  subst h4
  exact ⟨b, h1⟩
section
variable {P : Program} {w : World} {K : PySem.W.Frag} {mg : Str → Option Value} {base : Heap} {C T1 : Addr}
def spWA (P : Program) (w : World) (K : PySem.W.Frag) (C T : Addr) : Sp := fun vs H Q _ => ∃ (x tp : Addr) (fv : V) (n : Nat) (kp ks : List Nat) (g : Nat → List Nat) (tx : Nat → Str) (ts : List Str), vs = [.ref x, fv, .ref tp] ∧ InG P w K C H x n kp ks g tx ∧ TabG H T ∧ Dp K H fv fileD ∧ H tp = some (.lst (ts.map V.str)) ∧ ts.length ≤ 50 ∧
  ∀ q H' R cs, Tb T H H' → Blk g kp R → (∀ k, k ∈ cs ↔ ∃ A ∈ R, k ∈ A ∧ Circ g A k) → Dp K H' (.ref q) (chsD (wantM (rS g) R.flatten ts srtN (steps (xsOf cs tx R.flatten) ts 0 0))) → Q (.ref q) H'
theorem ok_WA {f fSB fSW fIC fCC fGC fGA : Addr} {fd fdSB fdSW fdIC fdCC fdGC fdGA : FuncData} (F : Fun K "wanted" "wanted" sWA f fd) (T : Txt K mg C)
    (GSB : FnOk P w K mg base CX0 2 fSB fdSB ["one", "other"] spSB) (bSB : Binds K fdSB ["one", "other"] []) (gSB : mg "steps_between" = some (.ref fSB)) (kSB : PySem.W.keepIn K (.ref fSB) = true)
    (GSW : FnOk P w K mg base CX0 4 fSW fdSW ["graph"] (spSW P w K C)) (bSW : Binds K fdSW ["graph"] []) (gSW : mg "shown_order" = some (.ref fSW)) (kSW : PySem.W.keepIn K (.ref fSW) = true)
    (GIC : FnOk P w K mg base CX0 4 fIC fdIC ["graph"] (spIC P w K C T1)) (bIC : Binds K fdIC ["graph"] []) (gIC : mg "in_circles" = some (.ref fIC)) (kIC : PySem.W.keepIn K (.ref fIC) = true)
    (GCC : FnOk P w K mg base CX0 2 fCC fdCC ["file", "lines"] (spCC K)) (bCC : Binds K fdCC ["file", "lines"] []) (gCC : mg "cut_changes" = some (.ref fCC)) (kCC : PySem.W.keepIn K (.ref fCC) = true)
    (GGC : FnOk P w K mg base CX0 3 fGC fdGC ["graph", "file", "rows"] (spGC P w K C)) (bGC : Binds K fdGC ["graph", "file", "rows"] []) (gGC : mg "gap_changes" = some (.ref fGC)) (kGC : PySem.W.keepIn K (.ref fGC) = true)
    (GGA : FnOk P w K mg base CX0 1 fGA fdGA ["lines", "texts", "steps"] (spGA K)) (bGA : Binds K fdGA ["lines", "texts", "steps"] []) (gGA : mg "gaps" = some (.ref fGA)) (kGA : PySem.W.keepIn K (.ref fGA) = true) : FnOk P w K mg base CX0 5 f fd ["graph", "file", "texts"] (spWA P w K C T1) := by
  refine F.ok scWA (fun vs H Q E h => ?_) (fun cdv A outer s H vs Q E hr h => ?_)
  · obtain ⟨x, tp, fv, n, kp, ks, g, tx, ts, rfl, _⟩ := h
    rfl
  · obtain ⟨x, tp, fv, n, kp, ks, g, tx, ts, rfl, hg, hT, hfv, htp, lts, q⟩ := h
    have hu := hr.units
    have hu1 := hu_of hr
    have hr1 : Room 1 _ := hr.mono (by decide)
    have hr2 : Room 2 _ := hr.mono (by decide)
    have hr3 : Room 3 _ := hr.mono (by decide)
    have hr4 : Room 4 _ := hr.mono (by decide)
    have zl := zl
    refine ⟨_, (pss_cons (ps_asg (pe_tup (pa_cons (pe_call GSW hr4 (by rfl) gSW kSW bSW .nil pass0 (pa_cons (pv 0) pa_nil)) (pa_cons (pe_call GIC hr4 (by rfl) gIC kIC bIC .nil pass0 (pa_cons (pv 0) pa_nil)) pa_nil))) (pg_tup (by rfl) (pgs_cons (pg_name (i := 3) scWA.nd rfl (.inr rfl)) (pgs_cons (pg_name (i := 4) scWA.nd rfl (.inr rfl)) pgs_nil))))
      (pss_cons (ps_set (i := 5) scWA.nd rfl (.inl rfl) (pe_call GSB hr2 (by rfl) gSB kSB bSB .nil pass0 (pa_cons (pe_lc (own := [("line", 8)]) (g := gName 8) (tt := tYes) (te := tIf (tTest (tOp (GX.rInN ktL P w K) (tVar 8) (tVar 4))) (tC .non) (tOp (GX.rIxN ktL P w K) (tFld K (tVar 0) "lines") (tVar 8))) rfl scWA.nd (pi_list (pv 3)) (blkOk_by (N := nWA) (sc := defScope sWA) (by decide +kernel)) (fun _ _ _ _ _ => by exact pg_name (i := 8) scWA.nd rfl (.inl rfl)) (fun _ _ _ _ _ => pts_nil) (fun _ _ _ _ _ => by exact pe_ifExp (pt_cmpR (GX.op_inN (T := ktL) hu) (pv 8) (pv 4) (by rfl)) (pe_non) (pe_ix (GX.ix_N (T := ktL) hu) (pe_fld (pv 0) rfl) (pv 8) (fun _ _ => rfl)))) (pa_cons (pv 2) pa_nil))))
      (pss_cons (ps_setLc (i := 6) (own := [("step", 7)]) (g := gName 7) (tt := tTest (tOp rEq (tOp (rIxT K) (tVar 7) (tC (.int 0))) (tC (.str "cut")))) (te := tOp (rIxL K) (tVar 3) (tOp (rIxT K) (tVar 7) (tC (.int 1)))) rfl scWA.nd rfl rfl (sw_true rfl rfl rfl (by decide +kernel)) (pi_list (pv 5)) (blkOk_by (N := nWA) (sc := defScope sWA) (by decide +kernel)) (fun _ _ _ _ _ => by exact pg_name (i := 7) scWA.nd rfl (.inl rfl)) (fun _ _ _ _ _ => by exact pts_one (pt_cmpR op_eq (pe_ix ix_tup (pv 7) (pe_int) (fun _ _ => rfl)) (pe_str) (nomark _))) (fun _ _ _ _ _ => by exact pe_ix ix_list (pv 3) (pe_ix ix_tup (pv 7) (pe_int) (fun _ _ => rfl)) (fun _ _ => rfl)))
      (pss_one (ps_ret (pe_op op_cat (pe_call GCC hr2 (by rfl) gCC kCC bCC .nil pass0 (pa_cons (pv 1) (pa_cons (pv 6) pa_nil))) (pe_call GGC hr3 (by rfl) gGC kGC bGC .nil pass0 (pa_cons (pv 0) (pa_cons (pv 1) (pa_cons (pe_call GGA hr1 (by rfl) gGA kGA bGA .nil pass0 (pa_cons (pv 3) (pa_cons (pv 2) (pa_cons (pv 5) pa_nil)))) pa_nil)))))))))), ?_⟩
    obtain ⟨g1, g2, g3, g4⟩ := hg
    refine ⟨_, rfl, x, n, kp, ks, g, tx, rfl, ⟨g1, g2, g3, g4⟩, fun p1 H1 G R s1 np1 hp1 hG eG hB => ?_⟩
    have hT1 := tabG_same hT s1
    refine ⟨_, rfl, x, n, kp, ks, g, tx, rfl, ⟨g1.same s1, g2, g3, g4⟩, hT1, fun d H2 es R' tb2 nd hd kd nde hes hB' => ?_⟩
    have hT2 := tb2.tg
    have rs12 := tb2.rs hT1
    have ndp : kp.Nodup := g2.imp fun h => Nat.ne_of_lt h
    obtain rfl : R = R' := rows_eq (so_rS g) ndp hB.1 hB'.1 hB.2 hB'.2
    have lR : R.flatten.length ≤ 10 := by
      rw [hB.1.perm.length_eq]
      exact pw_len g2 g3 g4
    have lG : G.length ≤ 10 := by
      have h := congrArg List.length eG
      rw [List.length_map] at h
      omega
    have hkG : ∀ e ∈ G, e.1 < n := fun e he => g3 _ (hB.1.perm.mem_iff.mp (by rw [← eG]; exact List.mem_map.mpr ⟨e, he, rfl⟩))
    have notT : ∀ {a : Addr} {o : HO}, H1 a = some o → (∀ ps, o ≠ .tbl ps) → a ≠ T1 := fun {a o} h ht e => by
      obtain ⟨ps, h2, _⟩ := hT1
      rw [e, h2] at h
      cases h
      exact ht _ rfl
    obtain ⟨dx, al, ap, ae, ab, at', ar, js, M, hx, ⟨esT, t1, t2, t3, t4⟩, _⟩ := g1.ex
    have hx1 := s1 _ _ hx
    have hx2 := tb2.sm _ _ (notT hx1 (fun _ h => nomatch h)) hx1
    have rs02 := (GX.rs_same s1).trans rs12
    have hp2 : H2 p1 = some (.lst (G.map (·.2))) := tb2.sm _ _ (notT hp1 (fun _ h => nomatch h)) hp1
    have hG2 := hG.ts rs12.tst
    have htp1 := s1 _ _ htp
    have htp2 : H2 tp = some (.lst (ts.map V.str)) := tb2.sm _ _ (notT htp1 (fun _ h => nomatch h)) htp1
    have hfv2 := GX.Dp.rs rs02 _ _ hfv
    have gr2 : GrAt P w K C H2 x n kp ks g tx := g1.rs rs02 (hx2.trans hx.symm)
    have t12 := rs02.dn t1
    have k12 := t2.ts rs02.tst
    have tb02 : Tb T1 H H2 := ⟨fun b o nb h => tb2.sm _ _ nb (s1 _ _ h), hT2⟩
    clear hG hp1 hfv hx1 htp1 rs12 tb2 hT1
    refine ⟨by show 2 ≤ sizeLine; omega, fun t nt => ⟨t, _, rfl, SqT.of upd_same, rfl, _, _, rfl, _, _, rfl, rfl, ?_⟩⟩
    have s23 := same_new (o := .tup [.ref p1, .ref d]) nt
    generalize upd H2 t (.tup [.ref p1, .ref d]) = H3 at s23
    -- what stands in the lines, for the steps
    refine ⟨_, rfl, p1, rfl, ⟨_, SqL.of (s23 _ _ hp2)⟩, fun D nD => ?_⟩
    refine lc_list (xs := G.map (·.2)) (fun m H' => Same H3 H' ∧ H' D = some (.lst ((xsOf (es.map (·.1)) tx ((G.take m).map (·.1))).map lnV))) ⟨same_new nD, upd_same⟩ ?_ ?_ ?_
    · rintro m H' _ ⟨s, _⟩
      exact SqL.of (s _ _ (s23 _ _ hp2))
    · rintro m v H4 hv ⟨s4, eD⟩
      obtain ⟨⟨k, v⟩, ge, rfl⟩ := map_get hv
      have hem := List.mem_of_getElem? ge
      have s24 := same_trans s23 s4
      have hd4 : Dp K H4 v (encL k) := (hG2.ts (ts_same s24)) _ hem
      obtain ⟨a, rfl⟩ := ln_ref hd4
      have ex : (xsOf (es.map (·.1)) tx ((G.take (m + 1)).map (·.1))).map lnV = (xsOf (es.map (·.1)) tx ((G.take m).map (·.1))).map lnV ++ [lnV (if k ∈ es.map (·.1) then none else some (tx k))] := by
        rw [List.take_add_one, ge, List.map_append]
        unfold xsOf
        rw [List.map_append, List.map_append]
        rfl
      have lx : ((xsOf (es.map (·.1)) tx ((G.take m).map (·.1))).map lnV).length ≤ 10 := by
        unfold xsOf
        rw [List.length_map, List.length_map, List.length_map, List.length_take]
        omega
      refine ⟨rfl, _, rfl, _, rfl, d, a, es, k, rfl, rfl, .inl (s24 _ _ hd), kd.ts (ts_same s24), hd4, ?_⟩
      refine ⟨_, rfl, ?_⟩
      rw [fnd_in]
      refine ite2 (fun c => ?_) (fun c => ?_)
      · have c := of_decide_eq_true c
        exact ⟨_, eD, by omega, same_upd nD s4, by rw [upd_same, ex, if_pos c]; rfl⟩
      · have c := fun h => c (decide_eq_true h)
        obtain ⟨b, hb⟩ := txts_at t4 (k := k) (by rw [t3]; exact List.mem_range.mpr (hkG _ hem))
        refine ⟨_, rfl, x, C, dx, _, _, rfl, s24 _ _ hx2, T.cl, T.n1, gr_lines, _, rfl, al, a, esT, k, _, rfl, rfl, (GX.rs_same s24).dn t12, k12.ts (ts_same s24), hd4, hb, ?_⟩
        exact ⟨_, eD, by omega, same_upd nD s4, by rw [upd_same, ex, if_neg c]; rfl⟩
    · rintro H4 ⟨s4, eD⟩
      rw [List.length_map, List.take_length, eG] at eD
      have s24 := same_trans s23 s4
      generalize exs : xsOf (es.map (·.1)) tx R.flatten = xs at eD
      have lxs : xs.length = R.flatten.length := by
        rw [← exs]
        unfold xsOf
        exact List.length_map _
      refine ⟨_, rfl, D, tp, xs, ts, rfl, eD, s24 _ _ htp2, by omega, by omega, fun H5 sp ps s5 nsp hsp hst eps => ?_⟩
      have s25 := same_trans s24 s5
      have lps : ps.length ≤ 60 := by
        have h := steps_len (xs := xs) (ys := ts) _ 0 0 (Nat.le_refl _)
        rw [← eps, List.length_map] at h
        omega
      have okS := steps_ok xs ts
      rw [← eps, lxs] at okS
      dsimp only [gName]
      refine ⟨_, rfl, sp, rfl, ⟨_, SqL.of hsp⟩, fun D2 nD2 => ?_⟩
      refine lc_list (xs := refs ps) (fun m H' => Same H5 H' ∧ ∃ FL : List (Nat × V), H' D2 = some (.lst (FL.map (·.2))) ∧ LAt K H' FL ∧ FL.map (·.1) = cutsM R.flatten ((ps.take m).map (·.2)) ∧ FL.length ≤ m) ⟨same_new nD2, [], upd_same, (fun _ h => nomatch h), rfl, Nat.le_refl _⟩ ?_ ?_ ?_
      · rintro m H' _ ⟨s, _⟩
        exact SqL.of (s _ _ hsp)
      · rintro m v H6 hv ⟨s6, FL, hF, lF, eF, nF⟩
        obtain ⟨⟨u, s⟩, gs, rfl⟩ := map_get hv
        have hm : m < ps.length := (List.getElem?_eq_some_iff.mp gs).1
        have hst6 : H6 u = some (stepO s) := s6 _ _ (hst _ (List.mem_of_getElem? gs))
        have ec : cutsM R.flatten ((ps.take (m + 1)).map (·.2)) = cutsM R.flatten ((ps.take m).map (·.2)) ++ cutsM R.flatten [s] := by
          rw [List.take_add_one, gs, List.map_append, cutsM_app]
          rfl
        have oks := okS s (List.mem_map.mpr ⟨_, List.mem_of_getElem? gs, rfl⟩)
        cases s with
        | put j =>
          have ht : SqT K H6 u [.str "put", .int (j : Int)] := SqT.of hst6
          refine ⟨rfl, _, rfl, u, _, 0, _, rfl, rfl, ht, atI_nat (j := 0) rfl, rfl, _, rfl, ?_⟩
          rw [wd_pc]
          refine ite2 (fun c => absurd c (by decide)) fun _ => ?_
          exact ⟨s6, FL, hF, lF, by rw [ec, eF]; exact (List.append_nil _).symm, by omega⟩
        | keep i j =>
          have ht : SqT K H6 u [.str "keep", .int (i : Int), .int (j : Int)] := SqT.of hst6
          refine ⟨rfl, _, rfl, u, _, 0, _, rfl, rfl, ht, atI_nat (j := 0) rfl, rfl, _, rfl, ?_⟩
          rw [wd_kc]
          refine ite2 (fun c => absurd c (by decide)) fun _ => ?_
          exact ⟨s6, FL, hF, lF, by rw [ec, eF]; exact (List.append_nil _).symm, by omega⟩
        | cut i =>
          have hi : i < G.length := by
            have h := oks.2.1 i rfl
            rw [← eG, List.length_map] at h
            exact h
          obtain ⟨e, ge⟩ : ∃ e, G[i]? = some e := ⟨_, List.getElem?_eq_getElem hi⟩
          have ht : SqT K H6 u [.str "cut", .int (i : Int)] := SqT.of hst6
          refine ⟨rfl, _, rfl, u, _, 0, _, rfl, rfl, ht, atI_nat (j := 0) rfl, rfl, _, rfl, ?_⟩
          rw [wd_cc]
          refine ite2 (fun _ => ?_) fun c => absurd rfl c
          have s26 := same_trans s25 s6
          refine ⟨_, rfl, _, rfl, u, _, 1, _, rfl, rfl, ht, atI_nat (j := 1) rfl, p1, _, _, _, rfl, rfl, SqL.of (s26 _ _ hp2), atI_nat (get_map _ ge), ?_⟩
          have tl := ts_lst (K := K) (o := .lst (FL.map (·.2) ++ [e.2])) hF
          refine ⟨_, hF, by rw [List.length_map]; omega, same_upd nD2 s6, FL ++ [e], by rw [upd_same, List.map_append]; rfl, fun y hy => ?_, ?_, by rw [List.length_append]; show FL.length + 1 ≤ _; omega⟩
          · rcases List.mem_append.mp hy with h | h
            · exact ln_ts tl (lF y h)
            · rw [List.mem_singleton.mp h]
              exact ln_ts tl ((hG2.ts (ts_same s26)) e (List.mem_of_getElem? ge))
          · rw [ec, List.map_append, eF]
            show _ = _ ++ [lnAt R.flatten i]
            rw [← eG, lnAt_get ge]
            rfl
      · rintro H6 ⟨s6, FL, hF, lF, eF, nF⟩
        rw [refs_len] at nF eF
        rw [List.take_length] at eF
        have s26 := same_trans s25 s6
        refine ⟨_, rfl, _, rfl, fv, D2, FL, rfl, GX.Dp.rs (GX.rs_same s26) _ _ hfv2, SqL.of hF, lF, by omega, fun H7 D7 vs7 s7 nD7 h7 dp7 => ?_⟩
        have s27 := same_trans s26 s7
        have s57 := same_trans s6 s7
        refine ⟨_, rfl, _, rfl, _, rfl, _, rfl, _, rfl, p1, tp, sp, G, ts, ps, rfl, SqL.of (s27 _ _ hp2), hG2.ts (ts_same s27), SqL.of (s27 _ _ htp2), SqL.of (s57 _ _ hsp), fun y hy => s57 _ _ (hst y hy), ?_, by omega, by omega, by omega, fun H8 q8 s8 d8 => ?_⟩
        · have h : G.length = R.flatten.length := by rw [← eG, List.length_map]
          rw [h]
          exact okS
        have s28 := same_trans s27 s8
        rw [eG, eps] at d8
        rw [eps] at okS eF
        refine ⟨x, q8, fv, n, kp, ks, g, tx, _, rfl, gr2.same s28, GX.Dp.rs (GX.rs_same s28) _ _ hfv2, d8, ?_, ?_, fun H9 q9 vs9 s9 h9 dp9 => ?_⟩
        · rw [gapsM_len (o := 0)]
          have h := kps_len (steps xs ts 0 0) 0
          rw [← eps, List.length_map] at h
          rw [← eps]
          omega
        · exact gapsM_lt (fun k hk => g3 k (hB.1.perm.mem_iff.mp hk)) okS (fun i e => nomatch e)
        have s79 := same_trans s8 s9
        have l7 := dpAll_len dp7
        have l9 := dpAll_len dp9
        rw [List.length_map] at l7 l9
        have c1 := cutC_len (srtN (FL.map (·.1)))
        have c2 := flat_gap (rS g) (gapsM R.flatten ts (steps xs ts 0 0) none [])
        have c3 : (gapsM R.flatten ts (steps xs ts 0 0) none []).length ≤ 100 := by
          rw [gapsM_len (o := 0)]
          have h := kps_len (steps xs ts 0 0) 0
          rw [← eps, List.length_map] at h
          rw [← eps]
          omega
        refine ⟨D7, q9, vs7, vs9, rfl, rfl, s79 _ _ h7, h9, by omega, fun z nz => ?_⟩
        have sz := same_new (o := .lst (vs7 ++ vs9)) nz
        have s9z := same_trans s79 sz
        refine q z _ R (es.map (·.1)) (tb02.same (same_trans s27 s9z)) hB hes ?_
        unfold chsD wantM
        rw [exs, List.map_append, ← eF]
        exact .lst (SqL.of upd_same) (dpAll_app (GX.Dp.rsAll (GX.rs_same s9z) _ _ dp7) (GX.Dp.rsAll (GX.rs_same sz) _ _ dp9))
end
end K12
namespace K12
open PySem PySem.Spec PyProof.Rows L2 TR QR K15
open GX (KT kd kdAll RS TSt dNO KeysAt)
open MB
abbrev sWI : Stmt := topS 36
abbrev nWI : List Str := ["state", "texts", "found", "text", "kind"]
theorem scWI : FnScope nWI ["state", "texts"] (defScope sWI) := ⟨rfl, rfl, rfl, by decide +kernel, rfl, by decide +kernel, by decide +kernel⟩
theorem Dr.same1 {p c : Addr} {H0 H1 H2 : Hp} (d : Dr p c H0 H1) (s : Same H1 H2) : Dr p c H0 H2 := ⟨d.s0, d.st.same s, fun b o h1 h2 e => s _ _ (d.ou b o h1 h2 e)⟩
theorem cutV_nine (xs : List V) : cutV xs none (some 9) = xs.take 9 := by
  unfold cutV
  have e1 : HT.sIx xs.length 0 none = 0 := rfl
  have e2 : HT.sIx xs.length xs.length (some 9) = min 9 xs.length := HT.sIx_nat _ _ 9
  rw [e1, e2, List.drop_zero, Nat.sub_zero]
  by_cases h : 9 ≤ xs.length
  · rw [Nat.min_eq_left h]
  · rw [Nat.min_eq_right (by omega), List.take_of_length_le (Nat.le_refl _), List.take_of_length_le (by omega)]
section
variable {P : Program} {w : World} {K : PySem.W.Frag} {mg : Str → Option Value} {base : Heap}
def spWI (K : PySem.W.Frag) : Sp := fun vs H Q _ => ∃ (p c tp : Addr) (us : List Str), vs = [.ref p, .ref tp] ∧ StateAt H p c ∧ H tp = some (.lst (us.map V.str)) ∧ tp ≠ p ∧ tp ≠ c ∧ us.length ≤ 10 ∧
  ∀ (H' : Hp) (q : Addr) (ts : List Str), Dr p c H H' → H q = none → H' q = some (.lst (ts.map V.str)) → ts.length ≤ 9 → Q (.ref q) H'
theorem ok_WI {f fD fP : Addr} {fd fdD fdP : FuncData} (F : Fun K "_law_wish" "_law_wish" sWI f fd)
    (GD : FnOk P w K mg base CX0 1 fD fdD ["state", "many"] spDraw) (bD : Binds K fdD ["state", "many"] []) (gD : mg "_law_draw" = some (.ref fD)) (kD : PySem.W.keepIn K (.ref fD) = true)
    (GP : FnOk P w K mg base CX0 2 fP fdP ["state", "row"] spPick) (bP : Binds K fdP ["state", "row"] []) (gP : mg "_law_pick" = some (.ref fP)) (kP : PySem.W.keepIn K (.ref fP) = true) : FnOk P w K mg base CX0 3 f fd ["state", "texts"] (spWI K) := by
  refine F.ok scWI (fun vs H Q E h => ?_) (fun cdv A outer s H vs Q E hr h => ?_)
  · obtain ⟨p, c, tp, us, rfl, _⟩ := h
    rfl
  · obtain ⟨p, c, tp, us, rfl, st, htp, ntp, ntc, lu, q1⟩ := h
    have hu := hr.units
    have hu1 := hu_of hr
    have hr1 : Room 1 _ := hr.mono (by decide)
    have hr2 : Room 2 _ := hr.mono (by decide)
    have zl := zl
    refine ⟨_, (pss_cons (ps_set (i := 2) scWI.nd rfl (.inl rfl) (pe_lst (pa_nil)))
      (pss_cons (ps_for PassesOwn.never rfl (pi_list (pv 1)) (pg_name (i := 3) scWI.nd rfl (.inl rfl))
      (pss_cons (ps_set (i := 4) scWI.nd rfl (.inl rfl) (pe_call GD hr1 (by rfl) gD kD bD .nil pass0 (pa_cons (pv 0) (pa_cons (pe_int) pa_nil))))
      (pss_cons (ps_if (pt_cmpR op_gt (pv 4) (pe_int) (nomark _))
      (pss_one (ps_expr (pe_bm PySem.F.plainAttrs_list PySem.F.slot_list_append PySem.F.type_list_append mt_append (pv 2) (pa_cons (pv 3) pa_nil)))) pss_nil)
      (pss_one (ps_if (pt_cmpR op_gt (pv 4) (pe_int) (nomark _))
      (pss_one (ps_expr (pe_bm PySem.F.plainAttrs_list PySem.F.slot_list_append PySem.F.type_list_append mt_append (pv 2) (pa_cons (pe_call GP hr2 (by rfl) gP kP bP .nil pass0 (pa_cons (pv 0) (pa_cons (pe_lst (pa_cons (pe_str) (pa_cons (pe_str) (pa_cons (pe_str) pa_nil)))) pa_nil))) pa_nil)))) pss_nil)))))
      (pss_cons (ps_if (pt_cmpR op_eq (pe_call GD hr1 (by rfl) gD kD bD .nil pass0 (pa_cons (pv 0) (pa_cons (pe_int) pa_nil))) (pe_int) (nomark _))
      (pss_one (ps_set (i := 2) scWI.nd rfl (.inl rfl) (pe_rev (pv 2) (pe_un un_neg pe_int)))) pss_nil)
      (pss_one (ps_ret (pe_slice sl_list (pv 2) (po_none) (po_some (pe_int)))))))), ?_⟩
    refine ⟨Nat.zero_le _, fun D nD => ?_⟩
    have d0 : Dr p c H (upd H D (.lst [])) := (⟨st, st, fun _ _ _ _ h => h⟩ : Dr p c H H).own nD
    have hD0 : upd H D (.lst []) D = some (.lst []) := upd_same
    have nDtp : tp ≠ D := fun e => by rw [e, nD] at htp; cases htp
    generalize upd H D (.lst []) = H0 at d0 hD0
    have tpS : ∀ {H'}, Dr p c H H' → H' tp = some (.lst (us.map V.str)) := fun d => d.ou _ _ ntp ntc htp
    dsimp only [gName]
    refine tseq_intro (fun σ' H' => ∃ (y3 y4 : Option V) (fs : List Str), σ' = [some (.ref p), some (.ref tp), some (.ref D), y3, y4] ∧ Dr p c H H' ∧ H' D = some (.lst (fs.map V.str)) ∧ fs.length ≤ 20) ?_ ?_
    · rintro σ' H1 ⟨y3, y4, fs, rfl, d1, hD1, l1⟩
      refine tseq_intro (fun σ' H' => ∃ (y3 y4 : Option V) (q : Addr) (fs : List Str), σ' = [some (.ref p), some (.ref tp), some (.ref q), y3, y4] ∧ Dr p c H H' ∧ H' q = some (.lst (fs.map V.str)) ∧ fs.length ≤ 20) ?_ ?_
      · rintro σ' H2 ⟨y3, y4, q, fs, rfl, d2, hq, l2⟩
        refine ⟨_, rfl, _, rfl, q, _, rfl, SqL.of hq, fun z nz => ?_⟩
        rw [cutV_nine]
        have hz : upd H2 z (.lst ((fs.map V.str).take 9)) z = some (.lst ((fs.take 9).map V.str)) := by rw [upd_same, List.map_take]
        exact q1 _ z (fs.take 9) (d2.new nz) (d2.none nz) hz (by rw [List.length_take]; omega)
      · intro N kk
        refine ⟨_, rfl, p, c, 6, rfl, by decide, d1.st, fun H2 r _ hr st2 dd2 => ⟨rfl, _, rfl, ?_⟩⟩
        have d2 := d1.draw st2 dd2
        have nDpc := d1.np nD
        have hD2 : H2 D = some (.lst (fs.map V.str)) := (dd2 D nDpc.1 nDpc.2).trans hD1
        refine ite2 (fun _ => ?_) fun _ => ?_
        · refine ⟨_, rfl, 1, rfl, rfl, D, _, rfl, SqL.of hD2, fun z nz => ?_⟩
          exact kk _ _ ⟨y3, y4, z, fs.reverse, rfl, d2.new nz, by rw [upd_same, List.map_reverse], by rw [List.length_reverse]; exact l1⟩
        · exact kk _ _ ⟨y3, y4, D, fs, rfl, d2, hD2, l1⟩
    · intro N kk
      refine ⟨_, rfl, tp, rfl, ⟨_, SqL.of (tpS d0)⟩, ?_⟩
      refine for_list (xs := us.map V.str) (fun m σ' H' => ∃ (y3 y4 : Option V) (fs : List Str), σ' = [some (.ref p), some (.ref tp), some (.ref D), y3, y4] ∧ Dr p c H H' ∧ H' D = some (.lst (fs.map V.str)) ∧ fs.length ≤ 2 * m) ⟨none, none, [], rfl, d0, hD0, Nat.zero_le _⟩ ?_ ?_ ?_
      · rintro m σ' H' _ ⟨_, _, _, _, d, _⟩
        exact SqL.of (tpS d)
      · rintro m v σ' H2 hv ⟨y3, y4, fs, rfl, d2, hD2, l2⟩
        obtain ⟨t, gt, rfl⟩ := map_get hv
        have hm : m < us.length := (List.getElem?_eq_some_iff.mp gt).1
        dsimp only [gName]
        refine ⟨_, rfl, p, c, 8, rfl, by decide, d2.st, fun H3 r _ hr st3 dd3 => ?_⟩
        have d3 := d2.draw st3 dd3
        have nDpc := d2.np nD
        have hD3 : H3 D = some (.lst (fs.map V.str)) := (dd3 D nDpc.1 nDpc.2).trans hD2
        dsimp only [gName]
        refine tseq_intro (fun σ' H' => ∃ (fs : List Str), σ' = [some (.ref p), some (.ref tp), some (.ref D), some (.str t), some (.int (r : Int))] ∧ Dr p c H H' ∧ H' D = some (.lst (fs.map V.str)) ∧ fs.length ≤ 2 * m + 1) ?_ ?_
        · rintro σ' H4 ⟨fs, rfl, d4, hD4, l4⟩
          refine ⟨_, rfl, _, _, rfl, rfl, _, rfl, ite2 (fun _ => ?_) fun _ => ?_⟩
          · refine ⟨_, rfl, .inl ⟨rfl, _, SqL.of hD4⟩, _, rfl, by show 3 ≤ sizeLine; omega, fun L nL => ?_⟩
            have dL := d4.new (o := .lst [.str "a", .str "b", .str "x"]) nL
            obtain ⟨nL1, nL2⟩ := d4.np (d4.none nL)
            have nLD : D ≠ L := fun e => by rw [← e, hD4] at nL; cases nL
            refine ⟨p, c, L, [.str "a", .str "b", .str "x"], rfl, upd_same, nL1, nL2, by decide, by decide, dL.st, fun H8 v hv st8 dr8 => ?_⟩
            obtain ⟨x, rfl⟩ : ∃ x : Str, v = .str x := by
              rcases List.mem_cons.mp hv with h | hv
              · exact ⟨_, h⟩
              · rcases List.mem_cons.mp hv with h | hv
                · exact ⟨_, h⟩
                · rcases List.mem_cons.mp hv with h | hv
                  · exact ⟨_, h⟩
                  · cases hv
            have d8 := dL.draw st8 dr8
            have hD8 : H8 D = some (.lst (fs.map V.str)) := (dr8 D nDpc.1 nDpc.2).trans ((upd_ne nLD).trans hD4)
            refine ⟨D, fs.map V.str, _, rfl, rfl, hD8, by rw [List.length_map]; omega, ?_⟩
            exact ⟨_, _, fs ++ [x], rfl, d8.own nD, by rw [upd_same, List.map_append]; rfl, by rw [List.length_append]; show fs.length + 1 ≤ _; omega⟩
          · exact ⟨_, _, fs, rfl, d4, hD4, by omega⟩
        · intro N kk
          refine ⟨_, rfl, _, _, rfl, rfl, _, rfl, ite2 (fun _ => ?_) fun _ => ?_⟩
          · refine ⟨_, rfl, .inl ⟨rfl, _, SqL.of hD3⟩, _, rfl, D, fs.map V.str, _, rfl, rfl, hD3, by rw [List.length_map]; omega, ?_⟩
            exact kk _ _ ⟨fs ++ [t], rfl, d3.own nD, by rw [upd_same, List.map_append]; rfl, by rw [List.length_append]; show fs.length + 1 ≤ _; omega⟩
          · exact kk _ _ ⟨fs, rfl, d3, hD3, by omega⟩
      · rintro σ' H2 ⟨y3, y4, fs, rfl, d2, hD2, l2⟩
        rw [List.length_map] at l2
        exact kk _ _ ⟨y3, y4, fs, rfl, d2, hD2, by omega⟩
end
end K12
namespace K12
open PySem PySem.Spec PyProof.Rows L2 TR QR K15
open PySem.W (dataLt dataLe alike alikeAll AllAlike Sortable)
open GX (KT kd kdAll RS TSt dNO KeysAt)
open MB
abbrev sCH : Stmt := topS 37
abbrev nCH : List Str := ["file", "reach", "order", "steps", "texts", "cut", "found", "k", "kept_at", "starts", "end", "fresh", "above", "below", "step"]
theorem scCH : FnScope nCH ["file", "reach", "order", "steps", "texts"] (defScope sCH) := ⟨rfl, rfl, rfl, by decide +kernel, rfl, by decide +kernel, by decide +kernel⟩
theorem ov_n {v : V} : decide ((0 : Int) < ((ovs v none).length : Int)) = decide False := rfl
theorem ov_s {v : V} {i : Nat} : decide ((0 : Int) < ((ovs v (some i)).length : Int)) = decide True := rfl
theorem at0 {α : Type} {xs : List α} {i : Nat} {v : α} (h : xs[i]? = some v) : atI xs (0 + (i : Int)) = some v := by
  rw [Int.zero_add]
  exact atI_nat h
section
variable {P : Program} {w : World} {K : PySem.W.Frag} {mg : Str → Option Value} {base : Heap}
def spCH (P : Program) (w : World) (K : PySem.W.Frag) : Sp := fun vs H Q _ => ∃ (fv : V) (r oa sp tp : Addr) (R : Nat → Nat → Prop) (rR : Nat → Nat → Bool) (G : List (Nat × V)) (ts : List Str) (ps : List (Addr × KStep)), vs = [fv, .ref r, .ref oa, .ref sp, .ref tp] ∧ Dp K H fv fileD ∧ RchAt P w K H r R ∧ (∀ i j, rR i j = true ↔ R i j ∧ ¬ R j i) ∧
  SqL K H oa (G.map (·.2)) ∧ LAt K H G ∧ H sp = some (.lst (refs ps)) ∧ StepsL H ps ∧ SqL K H tp (ts.map V.str) ∧ StOk G.length ts.length (ps.map (·.2)) ∧ ps.length ≤ 100 ∧ G.length ≤ 100 ∧
  ∀ H' q, Same H H' → Dp K H' (.ref q) (chsD (wantM rR (G.map (·.1)) ts srtN (ps.map (·.2)))) → Q (.ref q) H'
theorem ok_CH {f fLS : Addr} {fd fdLS : FuncData} (F : Fun K "_law_changes" "_law_changes" sCH f fd)
    (GLS : FnOk P w K mg base CX0 2 fLS fdLS ["reach", "one", "other"] (spLS P w K)) (bLS : Binds K fdLS ["reach", "one", "other"] []) (gLS : mg "_law_strictly" = some (.ref fLS)) (kLS : PySem.W.keepIn K (.ref fLS) = true)
    (m_len : mg "len" = none) (m_range : mg "range" = none) (m_sorted : mg "sorted" = none) : FnOk P w K mg base CX0 3 f fd ["file", "reach", "order", "steps", "texts"] (spCH P w K) := by
  refine F.ok scCH (fun vs H Q E h => ?_) (fun cdv A outer s H vs Q E hr h => ?_)
  · obtain ⟨fv, r, oa, sp, tp, R, rR, G, ts, ps, rfl, _⟩ := h
    rfl
  · obtain ⟨fv, r, oa, sp, tp, R, rR, G, ts, ps, rfl, hfv, hRc, hrR, hoa, hG, hsp, hst, htp, okS, lps, lG, q⟩ := h
    have hu := hr.units
    have hu1 := hu_of hr
    have hr1 : Room 1 _ := hr.mono (by decide)
    have hr2 : Room 2 _ := hr.mono (by decide)
    have zl := zl
    refine ⟨_, (pss_cons (ps_set (i := 5) scCH.nd rfl (.inl rfl) (pe_callB (GX.cr_sortedD hu) (by rfl) m_sorted (by decide +kernel) (pa_cons (pe_lc (own := [("step", 14)]) (g := gName 14) (tt := tTest (tOp rEq (tOp (rIxT K) (tVar 14) (tC (.int 0))) (tC (.str "cut")))) (te := tOp (rIxL K) (tVar 2) (tOp (rIxT K) (tVar 14) (tC (.int 1)))) rfl scCH.nd (pi_list (pv 3)) (blkOk_by (N := nCH) (sc := defScope sCH) (by decide +kernel)) (fun _ _ _ _ _ => by exact pg_name (i := 14) scCH.nd rfl (.inl rfl)) (fun _ _ _ _ _ => by exact pts_one (pt_cmpR op_eq (pe_ix ix_tup (pv 14) (pe_int) (fun _ _ => rfl)) (pe_str) (nomark _))) (fun _ _ _ _ _ => by exact pe_ix ix_list (pv 2) (pe_ix ix_tup (pv 14) (pe_int) (fun _ _ => rfl)) (fun _ _ => rfl))) pa_nil)))
      (pss_cons (ps_set (i := 6) scCH.nd rfl (.inl rfl) (pe_ifExp (pt_cmpR op_gt (pe_callB call_len_seq (by rfl) m_len PySem.boot_len (pa_cons (pv 5) pa_nil)) (pe_int) (nomark _)) (pe_lst (pa_cons (pe_tup (pa_cons (pe_str) (pa_cons (pv 0) (pa_cons (pv 5) pa_nil)))) pa_nil)) (pe_lst (pa_nil))))
      (pss_cons (ps_setLc (i := 8) (own := [("k", 7)]) (g := gName 7) (tt := tTest (tOp rEq (tOp (rIxT K) (tOp (rIxL K) (tVar 3) (tVar 7)) (tC (.int 0))) (tC (.str "keep")))) (te := tVar 7) rfl scCH.nd rfl rfl (sw_true rfl rfl rfl (by decide +kernel)) (pi_range1 (by rfl) m_range (pa_cons (pe_callB call_len_seq (by rfl) m_len PySem.boot_len (pa_cons (pv 3) pa_nil)) pa_nil)) (blkOk_by (N := nCH) (sc := defScope sCH) (by decide +kernel)) (fun _ _ _ _ _ => by exact pg_name (i := 7) scCH.nd rfl (.inl rfl)) (fun _ _ _ _ _ => by exact pts_one (pt_cmpR op_eq (pe_ix ix_tup (pe_ix ix_list (pv 3) (pv 7) (fun _ _ => rfl)) (pe_int) (fun _ _ => rfl)) (pe_str) (nomark _))) (fun _ _ _ _ _ => by exact pv 7))
      (pss_cons (ps_set (i := 9) scCH.nd rfl (.inl rfl) (pe_op op_cat (pe_lst (pa_cons (pe_un un_neg (pe_int)) pa_nil)) (pv 8)))
      (pss_cons (ps_for PassesOwn.never rfl (pi_range1 (by rfl) m_range (pa_cons (pe_callB call_len_seq (by rfl) m_len PySem.boot_len (pa_cons (pv 9) pa_nil)) pa_nil)) (pg_name (i := 7) scCH.nd rfl (.inl rfl))
      (pss_cons (ps_set (i := 10) scCH.nd rfl (.inl rfl) (pe_ifExp (pt_cmpR op_lt (pe_op op_add (pv 7) (pe_int)) (pe_callB call_len_seq (by rfl) m_len PySem.boot_len (pa_cons (pv 9) pa_nil)) (nomark _)) (pe_ix ix_list (pv 9) (pe_op op_add (pv 7) (pe_int)) (fun _ _ => rfl)) (pe_callB call_len_seq (by rfl) m_len PySem.boot_len (pa_cons (pv 3) pa_nil))))
      (pss_cons (ps_setLc (i := 11) (own := [("step", 14)]) (g := gName 14) (tt := tTest (tOp rEq (tOp (rIxT K) (tVar 14) (tC (.int 0))) (tC (.str "put")))) (te := tOp (rIxL K) (tVar 4) (tOp (rIxT K) (tVar 14) (tC (.int 1)))) rfl scCH.nd rfl rfl (sw_true rfl rfl rfl (by decide +kernel)) (pi_list (pe_slice sl_list (pv 3) (po_some (pe_op op_add (pe_ix ix_list (pv 9) (pv 7) (fun _ _ => rfl)) (pe_int))) (po_some (pv 10)))) (blkOk_by (N := nCH) (sc := defScope sCH) (by decide +kernel)) (fun _ _ _ _ _ => by exact pg_name (i := 14) scCH.nd rfl (.inl rfl)) (fun _ _ _ _ _ => by exact pts_one (pt_cmpR op_eq (pe_ix ix_tup (pv 14) (pe_int) (fun _ _ => rfl)) (pe_str) (nomark _))) (fun _ _ _ _ _ => by exact pe_ix ix_list (pv 4) (pe_ix ix_tup (pv 14) (pe_int) (fun _ _ => rfl)) (fun _ _ => rfl)))
      (pss_cons (ps_set (i := 12) scCH.nd rfl (.inl rfl) (pe_ifExp (pt_cmpR op_gt (pv 7) (pe_int) (nomark _)) (pe_lst (pa_cons (pe_ix ix_list (pv 2) (pe_ix ix_tup (pe_ix ix_list (pv 3) (pe_ix ix_list (pv 9) (pv 7) (fun _ _ => rfl)) (fun _ _ => rfl)) (pe_int) (fun _ _ => rfl)) (fun _ _ => rfl)) pa_nil)) (pe_lst (pa_nil))))
      (pss_cons (ps_set (i := 13) scCH.nd rfl (.inl rfl) (pe_ifExp (pt_cmpR op_lt (pv 10) (pe_callB call_len_seq (by rfl) m_len PySem.boot_len (pa_cons (pv 3) pa_nil)) (nomark _)) (pe_lst (pa_cons (pe_ix ix_list (pv 2) (pe_ix ix_tup (pe_ix ix_list (pv 3) (pv 10) (fun _ _ => rfl)) (pe_int) (fun _ _ => rfl)) (fun _ _ => rfl)) pa_nil)) (pe_lst (pa_nil))))
      (pss_one (ps_if (pt_cmpR op_gt (pe_callB call_len_seq (by rfl) m_len PySem.boot_len (pa_cons (pv 11) pa_nil)) (pe_int) (nomark _))
      (pss_one (ps_expr (pe_bm PySem.F.plainAttrs_list PySem.F.slot_list_append PySem.F.type_list_append mt_append (pv 6) (pa_cons (pe_tup (pa_cons (pe_str) (pa_cons (pv 0) (pa_cons (pv 12) (pa_cons (pv 13) (pa_cons (pv 11) pa_nil)))))) pa_nil)))) (pss_one (ps_if (PW.pt (pw_and (pt_cmpR op_gt (pe_callB call_len_seq (by rfl) m_len PySem.boot_len (pa_cons (pv 12) pa_nil)) (pe_int) (nomark _)) (pw_and (pt_cmpR op_gt (pe_callB call_len_seq (by rfl) m_len PySem.boot_len (pa_cons (pv 13) pa_nil)) (pe_int) (nomark _)) (pw_and1 (pt_not (pt_val (pe_call GLS hr2 (by rfl) gLS kLS bLS .nil pass0 (pa_cons (pv 1) (pa_cons (pe_ix ix_list (pv 12) (pe_int) (fun _ _ => rfl)) (pa_cons (pe_ix ix_list (pv 13) (pe_int) (fun _ _ => rfl)) pa_nil))))))))))
      (pss_one (ps_expr (pe_bm PySem.F.plainAttrs_list PySem.F.slot_list_append PySem.F.type_list_append mt_append (pv 6) (pa_cons (pe_tup (pa_cons (pe_str) (pa_cons (pv 0) (pa_cons (pe_ix ix_list (pv 12) (pe_int) (fun _ _ => rfl)) (pa_cons (pe_ix ix_list (pv 13) (pe_int) (fun _ _ => rfl)) pa_nil))))) pa_nil)))) pss_nil)))))))))
      (pss_one (ps_ret (pv 6)))))))), ?_⟩
    refine ⟨_, rfl, sp, rfl, ⟨_, SqL.of hsp⟩, fun D2 nD2 => ?_⟩
    refine lc_list (xs := refs ps) (fun m H' => Same H H' ∧ ∃ FL : List (Nat × V), H' D2 = some (.lst (FL.map (·.2))) ∧ LAt K H' FL ∧ FL.map (·.1) = cutsM (G.map (·.1)) ((ps.take m).map (·.2)) ∧ FL.length ≤ m) ⟨same_new nD2, [], upd_same, (fun _ h => nomatch h), rfl, Nat.le_refl _⟩ ?_ ?_ ?_
    · rintro m H' _ ⟨s, _⟩
      exact SqL.of (s _ _ hsp)
    · rintro m v H6 hv ⟨s6, FL, hF, lF, eF, nF⟩
      obtain ⟨⟨u, s⟩, gs, rfl⟩ := map_get hv
      have hm : m < ps.length := (List.getElem?_eq_some_iff.mp gs).1
      have hst6 : H6 u = some (stepO s) := s6 _ _ (hst _ (List.mem_of_getElem? gs))
      have ec : cutsM (G.map (·.1)) ((ps.take (m + 1)).map (·.2)) = cutsM (G.map (·.1)) ((ps.take m).map (·.2)) ++ cutsM (G.map (·.1)) [s] := by
        rw [List.take_add_one, gs, List.map_append, cutsM_app]
        rfl
      have oks := okS s (List.mem_map.mpr ⟨_, List.mem_of_getElem? gs, rfl⟩)
      cases s with
      | put j =>
        have ht : SqT K H6 u [.str "put", .int (j : Int)] := SqT.of hst6
        refine ⟨rfl, _, rfl, u, _, 0, _, rfl, rfl, ht, atI_nat (j := 0) rfl, rfl, _, rfl, ?_⟩
        rw [wd_pc]
        refine ite2 (fun c => absurd c (by decide)) fun _ => ?_
        exact ⟨s6, FL, hF, lF, by rw [ec, eF]; exact (List.append_nil _).symm, by omega⟩
      | keep i j =>
        have ht : SqT K H6 u [.str "keep", .int (i : Int), .int (j : Int)] := SqT.of hst6
        refine ⟨rfl, _, rfl, u, _, 0, _, rfl, rfl, ht, atI_nat (j := 0) rfl, rfl, _, rfl, ?_⟩
        rw [wd_kc]
        refine ite2 (fun c => absurd c (by decide)) fun _ => ?_
        exact ⟨s6, FL, hF, lF, by rw [ec, eF]; exact (List.append_nil _).symm, by omega⟩
      | cut i =>
        obtain ⟨e, ge⟩ : ∃ e, G[i]? = some e := ⟨_, List.getElem?_eq_getElem (oks.2.1 i rfl)⟩
        have ht : SqT K H6 u [.str "cut", .int (i : Int)] := SqT.of hst6
        refine ⟨rfl, _, rfl, u, _, 0, _, rfl, rfl, ht, atI_nat (j := 0) rfl, rfl, _, rfl, ?_⟩
        rw [wd_cc]
        refine ite2 (fun _ => ?_) fun c => absurd rfl c
        refine ⟨_, rfl, _, rfl, u, _, 1, _, rfl, rfl, ht, atI_nat (j := 1) rfl, oa, _, _, _, rfl, rfl, (GX.rs_same s6).sql hoa, atI_nat (get_map _ ge), ?_⟩
        have tl := ts_lst (K := K) (o := .lst (FL.map (·.2) ++ [e.2])) hF
        refine ⟨_, hF, by rw [List.length_map]; omega, same_upd nD2 s6, FL ++ [e], by rw [upd_same, List.map_append]; rfl, fun y hy => ?_, ?_, by rw [List.length_append]; show FL.length + 1 ≤ _; omega⟩
        · rcases List.mem_append.mp hy with h | h
          · exact ln_ts tl (lF y h)
          · rw [List.mem_singleton.mp h]
            exact ln_ts tl ((hG.ts (ts_same s6)) e (List.mem_of_getElem? ge))
        · rw [ec, List.map_append, eF]
          show _ = _ ++ [lnAt (G.map (·.1)) i]
          rw [lnAt_get ge]
          rfl
    · rintro H1 ⟨s1, FL, hF, lF, eF, nF⟩
      rw [refs_len] at nF eF
      rw [List.take_length] at eF
      obtain ⟨al, so⟩ := able_L (fun e : Nat × V => e.1) FL
      refine ⟨D2, FL.map (fun e : Nat × V => e.2), Nat × V, FL, fun e => encL e.1, fun v e => v = e.2 ∧ e ∈ FL, rfl, SqL.of hF, each_ps FL (fun _ h => h), fun v b hb => by rw [hb.1]; exact lF _ hb.2, al, so, fun b _ => Nat.le_trans (dpk b.1) (by decide), fun ys pS hys npS => ?_⟩
      have ey := ps_each hys
      subst ey
      obtain ⟨pF, sF⟩ := sort_L FL
      generalize FL.mergeSort (dataLe false fun e : Nat × V => encL e.1) = LL at pF sF npS
      have eL : LL.map (·.1) = srtN (cutsM (G.map (·.1)) (ps.map (·.2))) := by
        rw [← eF]
        exact srt_eq (pF.map _) (by rw [List.pairwise_map]; exact sF)
      have hL1 : LAt K H1 LL := fun e he => lF e (pF.mem_iff.mp he)
      have lL : LL.length ≤ 100 := by have := pF.length_eq; omega
      have s2 : Same H1 (upd H1 pS (.lst (LL.map (·.2)))) := same_new npS
      have hS2 : upd H1 pS (.lst (LL.map (·.2))) pS = some (.lst (LL.map (·.2))) := upd_same
      have hL2 := hL1.ts (ts_same s2)
      generalize upd H1 pS (.lst (LL.map (·.2))) = H2 at s2 hS2 hL2
      have s02 := same_trans s1 s2
      clear hys pF sF hL1 lF hF eF nF al so
      -- found
      dsimp only [gName]
      refine tseq_intro (fun σ' H' => ∃ (D6 : Addr) (cw : List (Chg × V)), σ' = [some fv, some (.ref r), some (.ref oa), some (.ref sp), some (.ref tp), some (.ref pS), some (.ref D6), none, none, none, none, none, none, none, none] ∧ Same H2 H' ∧ H2 D6 = none ∧ H' D6 = some (.lst (cw.map (·.2))) ∧
        (∀ e ∈ cw, ∀ H4, EX D6 H' H4 → Dp K H4 e.2 (chgD e.1)) ∧ cw.map (·.1) = cutC (srtN (cutsM (G.map (·.1)) (ps.map (·.2)))) ∧ cw.length ≤ 1) ?_ ?_
      · rintro σ' H3 ⟨D6, cw0, rfl, s3, nD6, hD6, hcw0, eC0, lc0⟩
        have s03 := same_trans s02 s3
        have nD60 : H D6 = none := same_none s02 nD6
        clear hS2 hL2 eL lL npS s1 s2 nD2
        have lrf : (refs ps).length = ps.length := refs_len ps
        refine ⟨_, rfl, sp, _, rfl, .inl (SqL.of (s03 _ _ hsp)), _, rfl, by rw [lrf]; omega, by rw [lrf]; omega, fun D8 nD8 => ?_⟩
        refine lc_range (lo := 0) (n := (((refs ps).length : Int)).toNat) (fun m H' => Same H3 H' ∧ H' D8 = some (.lst (((List.range m).filter (keepAt (ps.map (·.2)))).map fun k : Nat => V.int (k : Int)))) ⟨same_new nD8, upd_same⟩ ?_ ?_
        · rintro m H4 hm ⟨s4, hD8⟩
          rw [lrf] at hm
          have hm : m < ps.length := by omega
          obtain ⟨⟨u, s⟩, gs⟩ : ∃ z, ps[m]? = some z := ⟨_, List.getElem?_eq_getElem hm⟩
          have s04 := same_trans s03 s4
          have hst4 : H4 u = some (stepO s) := s04 _ _ (hst _ (List.mem_of_getElem? gs))
          have gs' : (refs ps)[m]? = some (.ref u) := get_map _ gs
          have gss : (ps.map (·.2))[m]? = some s := get_map _ gs
          have ll : (((List.range m).filter (keepAt (ps.map (·.2)))).map fun k : Nat => V.int (k : Int)).length ≤ m := by
            rw [List.length_map]
            exact Nat.le_trans (List.length_filter_le _ _) (by rw [List.length_range]; exact Nat.le_refl _)
          have ef : (List.range (m + 1)).filter (keepAt (ps.map (·.2))) = (List.range m).filter (keepAt (ps.map (·.2))) ++ if isKeep s = true then [m] else [] := by
            rw [List.range_succ, List.filter_append, List.filter_cons, List.filter_nil]
            show _ ++ (if keepAt (ps.map (·.2)) m = true then [m] else []) = _
            unfold keepAt
            rw [gss]
          cases s with
          | put j =>
            have ht : SqT K H4 u [.str "put", .int (j : Int)] := SqT.of hst4
            refine ⟨rfl, _, rfl, _, rfl, sp, _, _, .ref u, rfl, rfl, SqL.of (s04 _ _ hsp), at0 gs', u, _, 0, _, rfl, rfl, ht, atI_nat (j := 0) rfl, rfl, _, rfl, ?_⟩
            rw [wd_pk]
            refine ite2 (fun c => absurd c (by decide)) fun _ => ⟨s4, ?_⟩
            rw [ef, hD8]
            show _ = some (HO.lst (List.map _ (_ ++ [])))
            rw [List.append_nil]
          | cut j =>
            have ht : SqT K H4 u [.str "cut", .int (j : Int)] := SqT.of hst4
            refine ⟨rfl, _, rfl, _, rfl, sp, _, _, .ref u, rfl, rfl, SqL.of (s04 _ _ hsp), at0 gs', u, _, 0, _, rfl, rfl, ht, atI_nat (j := 0) rfl, rfl, _, rfl, ?_⟩
            rw [wd_ck]
            refine ite2 (fun c => absurd c (by decide)) fun _ => ⟨s4, ?_⟩
            rw [ef, hD8]
            show _ = some (HO.lst (List.map _ (_ ++ [])))
            rw [List.append_nil]
          | keep i j =>
            have ht : SqT K H4 u [.str "keep", .int (i : Int), .int (j : Int)] := SqT.of hst4
            refine ⟨rfl, _, rfl, _, rfl, sp, _, _, .ref u, rfl, rfl, SqL.of (s04 _ _ hsp), at0 gs', u, _, 0, _, rfl, rfl, ht, atI_nat (j := 0) rfl, rfl, _, rfl, ?_⟩
            rw [wd_kk]
            refine ite2 (fun _ => ?_) fun c => absurd rfl c
            refine ⟨_, rfl, _, hD8, by omega, same_upd nD8 s4, ?_⟩
            rw [upd_same, ef, List.map_append]
            show some (HO.lst (_ ++ [V.int (0 + (m : Nat))])) = some (HO.lst (_ ++ [V.int (m : Int)]))
            rw [Int.zero_add]
        · rintro H4 ⟨s4, hD8⟩
          have e8 : (((refs ps).length : Int)).toNat = (ps.map (·.2)).length := by rw [lrf, List.length_map]; omega
          rw [e8] at hD8
          have ek := kps_keep (ps.map (·.2)) 0
          rw [show (fun x : Nat => 0 + x) = id from funext fun x => Nat.zero_add x, List.map_id] at ek
          rw [← ek] at hD8
          have lKP := kps_len (ps.map (·.2)) 0
          rw [List.length_map] at lKP
          have hkg := fun x hx => kps_get (all := ps.map (·.2)) (ss := ps.map (·.2)) (o := 0) rfl x hx
          have hga := fun k hk => gaps_at (ln := G.map (·.1)) (ts := ts) (all := ps.map (·.2)) (ss := ps.map (·.2)) (o := 0) (f := none) (p := []) (k := k) rfl (Nat.zero_le _) hk
          have hgl := gapsM_len (ln := G.map (·.1)) (ts := ts) (ss := ps.map (·.2)) (o := 0) (f := none) (p := [])
          generalize kps 0 (ps.map (·.2)) = KP at hD8 lKP hkg hga hgl
          clear ek e8
          -- starts
          refine ⟨_, rfl, by show 1 ≤ sizeLine; omega, fun L nL => ?_⟩
          have sL := same_new (o := .lst [.int (-1)]) nL
          refine ⟨_, rfl, L, D8, _, _, rfl, rfl, upd_same, sL _ _ hD8, by rw [List.length_map]; show 1 + KP.length ≤ _; omega, fun D9 nD9 => ?_⟩
          have s9 := same_new (o := .lst ([.int (-1)] ++ KP.map fun k : Nat => V.int (k : Int))) nD9
          have s39 := same_trans s4 (same_trans sL s9)
          have hD9 : upd (upd H4 L (.lst [.int (-1)])) D9 (.lst ([.int (-1)] ++ KP.map fun k : Nat => V.int (k : Int))) D9 = some (.lst (V.int (-1) :: KP.map fun k : Nat => V.int (k : Int))) := upd_same
          have n69 : D9 ≠ D6 := fun e => by
            have := (same_trans s4 sL) _ _ hD6
            rw [← e, nD9] at this
            cases this
          generalize upd (upd H4 L (.lst [.int (-1)])) D9 (.lst ([.int (-1)] ++ KP.map fun k : Nat => V.int (k : Int))) = H9 at s39 hD9
          have s09 := same_trans s03 s39
          have hD69 := s39 _ _ hD6
          have hcw9 : ∀ e ∈ cw0, ∀ H4, EX D6 H9 H4 → Dp K H4 e.2 (chgD e.1) := fun e he H' x => hcw0 e he H' ((EX.same s39).trans x)
          clear hcw0 hD6 s39 s9 nD9 sL nL hD8 nD8 s4 s03 s3 nD6
          have lst9 : (V.int (-1) :: KP.map fun k : Nat => V.int (k : Int)).length = KP.length + 1 := by rw [List.length_cons, List.length_map]
          have sm : ∀ {H'}, EX D6 H9 H' → Same H H' := fun x b o h => x b o (fun e => by rw [e, nD60] at h; cases h) (s09 _ _ h)
          dsimp only [gName]
          refine ⟨_, rfl, D9, _, rfl, .inl (SqL.of hD9), _, rfl, by rw [lst9]; omega, by rw [lst9]; omega, ?_⟩
          refine for_range (lo := 0) (n := (((V.int (-1) :: KP.map fun k : Nat => V.int (k : Int)).length : Int)).toNat) (fun k σ' H' => ∃ (y7 y10 y11 y12 y13 : Option V) (cw : List (Chg × V)), σ' = [some fv, some (.ref r), some (.ref oa), some (.ref sp), some (.ref tp), some (.ref pS), some (.ref D6), y7, some (.ref D8), some (.ref D9), y10, y11, y12, y13, none] ∧ EX D6 H9 H' ∧ H' D6 = some (.lst (cw.map (·.2))) ∧
            (∀ e ∈ cw, ∀ H4, EX D6 H' H4 → Dp K H4 e.2 (chgD e.1)) ∧ cw.map (·.1) = cutC (srtN (cutsM (G.map (·.1)) (ps.map (·.2)))) ++ ((gapsM (G.map (·.1)) ts (ps.map (·.2)) none []).take k).flatMap (gapC rR) ∧ cw.length ≤ 1 + k)
            ⟨none, none, none, none, none, cw0, rfl, fun _ _ _ h => h, hD69, hcw9, by rw [eC0]; exact (List.append_nil _).symm, lc0⟩ ?_ ?_
          · rintro k σ' H5 hi ⟨y7, y10, y11, y12, y13, cw, rfl, x5, hD5, hcw, eC, lc⟩
            rw [lst9] at hi
            have hk : k ≤ KP.length := by omega
            have e0 : (0 : Int) + (k : Nat) = (k : Int) := Int.zero_add _
            rw [e0]
            have hgk0 := hga k hk
            rw [ite_self, List.nil_append, List.length_map] at hgk0
            obtain ⟨en, hen⟩ : ∃ en, (KP[k]?).getD ps.length = en := ⟨_, rfl⟩
            obtain ⟨b, hb⟩ : ∃ b, KP[k]?.map (lnK (G.map (·.1)) (ps.map (·.2))) = b := ⟨_, rfl⟩
            obtain ⟨f, hf⟩ : ∃ f, (if k = 0 then none else KP[k - 1]?.map (lnK (G.map (·.1)) (ps.map (·.2)))) = f := ⟨_, rfl⟩
            obtain ⟨st1, hst1⟩ : ∃ st1, (if k = 0 then 0 else (KP[k - 1]?).getD 0 + 1) = st1 := ⟨_, rfl⟩
            rw [hen, hb, hf, hst1] at hgk0
            obtain ⟨p, hp⟩ : ∃ p, putsM ts (cutL (ps.map (·.2)) st1 en) = p := ⟨_, rfl⟩
            rw [hp] at hgk0
            have et : ((gapsM (G.map (·.1)) ts (ps.map (·.2)) none []).take (k + 1)).flatMap (gapC rR) = ((gapsM (G.map (·.1)) ts (ps.map (·.2)) none []).take k).flatMap (gapC rR) ++ gapC rR ⟨f, p, b⟩ := by
              rw [List.take_add_one, hgk0, List.flatMap_append]
              simp
            have stv : (V.int (-1) :: KP.map fun k : Nat => V.int (k : Int))[k]? = some (.int ((st1 : Int) - 1)) := by
              rw [← hst1]
              cases k with
              | zero => rfl
              | succ k =>
                rw [if_neg (by omega), List.getElem?_cons_succ, List.getElem?_map, Nat.add_sub_cancel, List.getElem?_eq_getElem (by omega : k < KP.length)]
                show some (V.int _) = some (V.int _)
                congr 2
                show ((KP[k] : Nat) : Int) = ((KP[k] + 1 : Nat) : Int) - 1
                omega
            have kx : ∀ x ∈ KP, ∃ (u : Addr) (i j : Nat) (e : Nat × V), ps[x]? = some (u, KStep.keep i j) ∧ G[i]? = some e ∧ lnK (G.map (·.1)) (ps.map (·.2)) x = e.1 := fun x hx => by
              obtain ⟨i, j, g⟩ := hkg x hx
              obtain ⟨⟨u, s⟩, gu, es⟩ := map_get g
              have es : s = KStep.keep i j := es
              subst es
              have hi := (okS _ (List.mem_of_getElem? g)).1 i j rfl
              refine ⟨u, i, j, G[i], gu, List.getElem?_eq_getElem hi, ?_⟩
              unfold lnK
              rw [g]
              show lnAt _ i = _
              exact lnAt_get (List.getElem?_eq_getElem hi)
            have hs5 := sm x5
            have hsp5 := hs5 _ _ hsp
            have h95 := x5 _ _ n69 hD9
            have enl : k < KP.length → ∃ x, KP[k]? = some x ∧ en = x ∧ x < ps.length := fun h => by
              have e := List.getElem?_eq_getElem h
              refine ⟨_, e, by rw [← hen, e]; rfl, ?_⟩
              obtain ⟨i, j, g⟩ := hkg _ (List.getElem_mem h)
              have := (List.getElem?_eq_some_iff.mp g).1
              rwa [List.length_map] at this
            have enr : ¬ k < KP.length → en = ps.length := fun h => by rw [← hen, List.getElem?_eq_none (by omega)]; rfl
            dsimp only [gName]
            refine tseq_intro (fun σ' H' => H' = H5 ∧ σ' = [some fv, some (.ref r), some (.ref oa), some (.ref sp), some (.ref tp), some (.ref pS), some (.ref D6), some (.int (k : Int)), some (.ref D8), some (.ref D9), some (.int (en : Int)), y11, y12, y13, none]) ?_ ?_
            · intro σ' H' h
              obtain ⟨h1, h2⟩ := h
              rw [h1, h2]
              clear h1 h2 H' σ' enl hst1 hi
              obtain ⟨qs, hqs⟩ : ∃ qs, (ps.take en).drop st1 = qs := ⟨_, rfl⟩
              have qin : ∀ e ∈ qs, e ∈ ps := fun e he => by
                rw [← hqs] at he
                exact List.mem_of_mem_take (List.mem_of_mem_drop he)
              have lqs : qs.length ≤ 100 := by
                rw [← hqs, List.length_drop, List.length_take]
                omega
              have eqs : putsM ts (qs.map (·.2)) = p := by
                rw [← hp, ← hqs, List.map_drop, List.map_take]
                rfl
              have eS : cutV (refs ps) (some ((st1 : Int) - 1 + 1)) (some (en : Int)) = refs qs := by
                rw [show ((st1 : Int) - 1 + 1) = (st1 : Int) by omega, cut_nat, ← hqs]
                unfold refs
                rw [List.map_drop, List.map_take]
              refine ⟨_, rfl, _, rfl, _, rfl, D9, _, _, _, rfl, rfl, SqL.of h95, atI_nat stv, _, _, rfl, rfl, _, rfl, _, rfl, _, rfl, sp, _, rfl, SqL.of hsp5, fun L nL => ?_⟩
              rw [eS]
              refine ⟨L, rfl, ⟨_, SqL.of upd_same⟩, fun D11 nD11 => ?_⟩
              have s6 := same_new (o := .lst (refs qs)) nL
              have hL6 : upd H5 L (.lst (refs qs)) L = some (.lst (refs qs)) := upd_same
              generalize upd H5 L (.lst (refs qs)) = H6 at nD11 s6 hL6
              have hs6 := same_trans hs5 s6
              refine lc_list (xs := refs qs) (fun m H' => Same H6 H' ∧ H' D11 = some (.lst ((putsM ts ((qs.take m).map (·.2))).map V.str))) ⟨same_new nD11, upd_same⟩ ?_ ?_ ?_
              · rintro m H' _ ⟨s, _⟩
                exact SqL.of (s _ _ hL6)
              · rintro m v H7 hv ⟨s7, h11⟩
                obtain ⟨⟨u, s⟩, gs, rfl⟩ := map_get hv
                have hm : m < qs.length := (List.getElem?_eq_some_iff.mp gs).1
                have hin := qin _ (List.mem_of_getElem? gs)
                have hs7 := same_trans hs6 s7
                have hst7 : H7 u = some (stepO s) := hs7 _ _ (hst _ hin)
                have oks := okS s (List.mem_map.mpr ⟨_, hin, rfl⟩)
                have ec : putsM ts ((qs.take (m + 1)).map (·.2)) = putsM ts ((qs.take m).map (·.2)) ++ putsM ts [s] := by
                  rw [List.take_add_one, gs, List.map_append, putsM_app]
                  rfl
                have lpm : (putsM ts ((qs.take m).map (·.2))).length ≤ 100 := by
                  have h := List.length_filterMap_le (fun s => match s with | .put j => some (txAt ts j) | _ => none) ((qs.take m).map (·.2))
                  rw [List.length_map, List.length_take] at h
                  have h' : (putsM ts ((qs.take m).map (·.2))).length ≤ min m qs.length := h
                  omega
                cases s with
                | cut j =>
                  have ht : SqT K H7 u [.str "cut", .int (j : Int)] := SqT.of hst7
                  refine ⟨rfl, _, rfl, u, _, 0, _, rfl, rfl, ht, atI_nat (j := 0) rfl, rfl, _, rfl, ?_⟩
                  rw [wd_cp]
                  refine ite2 (fun c => absurd c (by decide)) fun _ => ⟨s7, ?_⟩
                  rw [ec, h11]
                  exact congrArg (fun l => some (HO.lst (List.map V.str l))) (List.append_nil _).symm
                | keep i j =>
                  have ht : SqT K H7 u [.str "keep", .int (i : Int), .int (j : Int)] := SqT.of hst7
                  refine ⟨rfl, _, rfl, u, _, 0, _, rfl, rfl, ht, atI_nat (j := 0) rfl, rfl, _, rfl, ?_⟩
                  rw [wd_kp]
                  refine ite2 (fun c => absurd c (by decide)) fun _ => ⟨s7, ?_⟩
                  rw [ec, h11]
                  exact congrArg (fun l => some (HO.lst (List.map V.str l))) (List.append_nil _).symm
                | put j =>
                  obtain ⟨t, gt⟩ : ∃ t, ts[j]? = some t := ⟨_, List.getElem?_eq_getElem (oks.2.2 j rfl)⟩
                  have ht : SqT K H7 u [.str "put", .int (j : Int)] := SqT.of hst7
                  refine ⟨rfl, _, rfl, u, _, 0, _, rfl, rfl, ht, atI_nat (j := 0) rfl, rfl, _, rfl, ?_⟩
                  rw [wd_pp]
                  refine ite2 (fun _ => ?_) fun c => absurd rfl c
                  refine ⟨_, rfl, _, rfl, u, _, 1, _, rfl, rfl, ht, atI_nat (j := 1) rfl, tp, _, _, _, rfl, rfl, (GX.rs_same hs7).sql htp, atI_nat (get_map _ gt), ?_⟩
                  refine ⟨_, h11, by rw [List.length_map]; omega, same_upd nD11 s7, ?_⟩
                  rw [upd_same, ec, List.map_append]
                  show _ = some (HO.lst (_ ++ [V.str (txAt ts j)]))
                  rw [txAt_get gt]
              · rintro H7 ⟨s7, h11⟩
                rw [refs_len, List.take_length, eqs] at h11
                have hs7 := same_trans hs6 s7
                have s57 := same_trans s6 s7
                have n116 : D11 ≠ D6 := fun e => by rw [e, s6 _ _ hD5] at nD11; cases nD11
                clear eqs eS lqs qin hqs nD11 hL6
                have h97 := s57 _ _ h95
                dsimp only [gName]
                refine tseq_intro (fun σ' H' => ∃ (ua : Addr) (av : V), σ' = [some fv, some (.ref r), some (.ref oa), some (.ref sp), some (.ref tp), some (.ref pS), some (.ref D6), some (.int (k : Int)), some (.ref D8), some (.ref D9), some (.int (en : Int)), some (.ref D11), some (.ref ua), y13, none] ∧ Same H7 H' ∧ H7 ua = none ∧ H' ua = some (.lst (ovs av f)) ∧ Dp K H' av (oD f)) ?_ ?_
                · rintro σ' H8 ⟨ua, av, rfl, s8, nua, hua, dav⟩
                  have s08 := same_trans hs7 s8
                  refine tseq_intro (fun σ' H' => ∃ (ub : Addr) (bv : V), σ' = [some fv, some (.ref r), some (.ref oa), some (.ref sp), some (.ref tp), some (.ref pS), some (.ref D6), some (.int (k : Int)), some (.ref D8), some (.ref D9), some (.int (en : Int)), some (.ref D11), some (.ref ua), some (.ref ub), none] ∧ Same H8 H' ∧ H8 ub = none ∧ H' ub = some (.lst (ovs bv b)) ∧ Dp K H' bv (oD b)) ?_ ?_
                  · rintro σ' HA ⟨ub, bv, rfl, s9, nub, hub, dbv⟩
                    have s7A := same_trans s8 s9
                    have s5A := same_trans s57 s7A
                    have s0A := same_trans hs5 s5A
                    have hDA := s5A _ _ hD5
                    have xA : EX D6 H9 HA := x5.trans (EX.same s5A)
                    have huaA := s9 _ _ hua
                    have h11A := s7A _ _ h11
                    have davA := o_ts (ts_same s9) dav
                    have nuaD : ua ≠ D6 := fun e => by rw [e, s57 _ _ hD5] at nua; cases nua
                    have nubD : ub ≠ D6 := fun e => by rw [e, (same_trans s57 s8) _ _ hD5] at nub; cases nub
                    have stay : gapC rR ⟨f, p, b⟩ = [] → ∀ (H3 : Hp), Same HA H3 → ∀ z7 z10 z11 z12 z13 : Option V, ∃ (y7 y10 y11 y12 y13 : Option V) (cw : List (Chg × V)), ([some fv, some (.ref r), some (.ref oa), some (.ref sp), some (.ref tp), some (.ref pS), some (.ref D6), z7, some (.ref D8), some (.ref D9), z10, z11, z12, z13, none] : List (Option V)) = [some fv, some (.ref r), some (.ref oa), some (.ref sp), some (.ref tp), some (.ref pS), some (.ref D6), y7, some (.ref D8), some (.ref D9), y10, y11, y12, y13, none] ∧ EX D6 H9 H3 ∧ H3 D6 = some (.lst (cw.map (·.2))) ∧
                        (∀ e ∈ cw, ∀ H4, EX D6 H3 H4 → Dp K H4 e.2 (chgD e.1)) ∧ cw.map (·.1) = cutC (srtN (cutsM (G.map (·.1)) (ps.map (·.2)))) ++ ((gapsM (G.map (·.1)) ts (ps.map (·.2)) none []).take (k + 1)).flatMap (gapC rR) ∧ cw.length ≤ 1 + (k + 1) :=
                      fun g0 H3 s3 z7 z10 z11 z12 z13 => ⟨_, _, _, _, _, cw, rfl, xA.trans (EX.same s3), s3 _ _ hDA, fun e he H4 x4 => hcw e he H4 ((EX.same (same_trans s5A s3)).trans x4), by rw [et, g0, List.append_nil]; exact eC, by omega⟩
                    have fin : ∀ (ch : Chg), gapC rR ⟨f, p, b⟩ = [ch] → ∀ (H3 : Hp) (t3 : Addr), Same HA H3 → (∀ H4, EX D6 H3 H4 → Dp K H4 (.ref t3) (chgD ch)) → ∀ z7 z10 z11 z12 z13 : Option V, ∃ (y7 y10 y11 y12 y13 : Option V) (cw2 : List (Chg × V)), ([some fv, some (.ref r), some (.ref oa), some (.ref sp), some (.ref tp), some (.ref pS), some (.ref D6), z7, some (.ref D8), some (.ref D9), z10, z11, z12, z13, none] : List (Option V)) = [some fv, some (.ref r), some (.ref oa), some (.ref sp), some (.ref tp), some (.ref pS), some (.ref D6), y7, some (.ref D8), some (.ref D9), y10, y11, y12, y13, none] ∧ EX D6 H9 (upd H3 D6 (.lst (cw.map (·.2) ++ [.ref t3]))) ∧ upd H3 D6 (.lst (cw.map (·.2) ++ [.ref t3])) D6 = some (.lst (cw2.map (·.2))) ∧
                        (∀ e ∈ cw2, ∀ H4, EX D6 (upd H3 D6 (.lst (cw.map (·.2) ++ [.ref t3]))) H4 → Dp K H4 e.2 (chgD e.1)) ∧ cw2.map (·.1) = cutC (srtN (cutsM (G.map (·.1)) (ps.map (·.2)))) ++ ((gapsM (G.map (·.1)) ts (ps.map (·.2)) none []).take (k + 1)).flatMap (gapC rR) ∧ cw2.length ≤ 1 + (k + 1) :=
                      fun ch g0 H3 t3 s3 h3 z7 z10 z11 z12 z13 => ⟨_, _, _, _, _, cw ++ [(ch, .ref t3)], rfl, (xA.trans (EX.same s3)).trans EX.upd, by rw [upd_same, List.map_append]; rfl, fun e he H4 x4 => by
                        have x34 : EX D6 H3 H4 := fun b o n h => x4 b o n ((upd_ne n).trans h)
                        rcases List.mem_append.mp he with h | h
                        · exact hcw e h H4 ((EX.same (same_trans s5A s3)).trans x34)
                        · rw [List.mem_singleton.mp h]
                          exact h3 H4 x34, by rw [et, g0, List.map_append, eC, List.append_assoc]; rfl, by rw [List.length_append]; show cw.length + 1 ≤ _; omega⟩
                    refine ⟨_, rfl, D11, _, rfl, .inl (SqL.of h11A), _, _, rfl, rfl, _, rfl, ite2 (fun c => ?_) fun c => ?_⟩
                    · have c := of_decide_eq_true c
                      rw [List.length_map] at c
                      have hz0 : p ≠ [] := fun e => by rw [e] at c; exact absurd c (Int.lt_irrefl _)
                      have eg : gapC rR ⟨f, p, b⟩ = [.lines f.toList b.toList p] := by
                        unfold gapC
                        rw [if_neg hz0]
                      refine ⟨_, rfl, .inl ⟨rfl, _, SqL.of hDA⟩, _, rfl, _, rfl, _, rfl, _, rfl, by show 5 ≤ sizeLine; omega, fun t5 nt5 => ?_⟩
                      have sT := same_new (o := .tup [.str "lines", fv, .ref ua, .ref ub, .ref D11]) nt5
                      refine ⟨D6, cw.map (·.2), _, rfl, rfl, sT _ _ hDA, by rw [List.length_map]; omega, ?_⟩
                      refine fin _ eg _ t5 sT (fun H6 x6 => ?_) _ _ _ _ _
                      have ntD : t5 ≠ D6 := fun e => by rw [e, hDA] at nt5; cases nt5
                      have t6 : TSt K HA H6 := (ts_same sT).trans (ts_but (sT _ _ hDA) x6)
                      exact .tup (SqT.of (x6 _ _ ntD upd_same)) (.cons (.str _) (.cons (GX.Dp.tst t6 _ _ kd_file (GX.Dp.rs (GX.rs_same s0A) _ _ hfv)) (.cons (dp_ov (o_ts t6 davA) (SqL.of (x6 _ _ nuaD (sT _ _ huaA)))) (.cons (dp_ov (o_ts t6 dbv) (SqL.of (x6 _ _ nubD (sT _ _ hub)))) (.cons (dp_txs (SqL.of (x6 _ _ n116 (sT _ _ h11A)))) .nil)))))
                    · have c : ¬ ((0 : Int) < ((p.map V.str).length : Int)) := fun h => c (decide_eq_true h)
                      rw [List.length_map] at c
                      have hz0 : p = [] := List.eq_nil_of_length_eq_zero (by omega)
                      clear et hgk0 hf hb hp enr hen stv
                      cases f with
                      | none =>
                        refine and_dec (p := False) (q := True) (fun R k => ⟨_, rfl, ua, _, rfl, .inl (SqL.of huaA), _, _, rfl, rfl, _, rfl, to_dec ov_n (k _ same_refl)⟩) (fun h => h.elim) fun H3 s3 => ite2 (fun c => absurd c (by decide)) fun _ => ?_
                        exact stay (by unfold gapC; rw [if_pos hz0]) H3 s3 _ _ _ _ _
                      | some i =>
                        obtain ⟨a4, rfl⟩ := ln_ref davA
                        cases b with
                        | none =>
                          refine and_dec (p := True) (q := False) (fun R k => ⟨_, rfl, ua, _, rfl, .inl (SqL.of huaA), _, _, rfl, rfl, _, rfl, to_dec ov_s (k _ same_refl)⟩) (fun _ H3 s3 R k => and_dec (p := False) (q := True) (fun R k => ⟨_, rfl, ub, _, rfl, .inl (SqL.of (s3 _ _ hub)), _, _, rfl, rfl, _, rfl, to_dec ov_n (k _ same_refl)⟩) (fun h => h.elim) fun H4 s4 => to_dec (y := decide False) (by simp) (k _ s4)) fun H3 s3 => ite2 (fun c => absurd c (by simp)) fun _ => ?_
                          exact stay (by unfold gapC; rw [if_pos hz0]) H3 s3 _ _ _ _ _
                        | some j =>
                          obtain ⟨a6, rfl⟩ := ln_ref dbv
                          have hdf : Dp K HA (.ref a4) (encL i) := davA
                          have hdb : Dp K HA (.ref a6) (encL j) := dbv
                          refine and_dec (p := True) (q := ¬ rR i j = true) (fun R k => ⟨_, rfl, ua, _, rfl, .inl (SqL.of huaA), _, _, rfl, rfl, _, rfl, to_dec ov_s (k _ same_refl)⟩) (fun _ H3 s3 R k => and_dec (p := True) (q := ¬ rR i j = true) (fun R k => ⟨_, rfl, ub, _, rfl, .inl (SqL.of (s3 _ _ hub)), _, _, rfl, rfl, _, rfl, to_dec ov_s (k _ same_refl)⟩) (fun _ H4 s4 R k => ?_) fun H4 s4 => to_dec (y := decide (¬ rR i j = true)) (by simp) (k _ s4)) fun H3 s3 => ite2 (fun c => ?_) fun c => ?_
                          · have sA4 := same_trans s3 s4
                            refine ⟨_, rfl, _, rfl, ua, _, 0, .ref a4, rfl, rfl, SqL.of (sA4 _ _ huaA), atI_nat (j := 0) rfl, _, rfl, ub, _, 0, .ref a6, rfl, rfl, SqL.of (sA4 _ _ hub), atI_nat (j := 0) rfl, r, a4, a6, _, i, j, rfl, hRc.rs (GX.rs_same (same_trans s0A sA4)), ln_ts (ts_same sA4) hdf, ln_ts (ts_same sA4) hdb, fun z hz => ?_⟩
                            have ez : z = rR i j := by
                              rw [Bool.eq_iff_iff, hrR]
                              exact hz
                            subst ez
                            exact ⟨_, rfl, to_dec (by simp) (k _ same_refl)⟩
                          · have c := of_decide_eq_true c
                            refine ⟨_, rfl, .inl ⟨rfl, _, SqL.of (s3 _ _ hDA)⟩, _, rfl, _, rfl, ua, _, 0, .ref a4, rfl, rfl, SqL.of (s3 _ _ huaA), atI_nat (j := 0) rfl, _, rfl, ub, _, 0, .ref a6, rfl, rfl, SqL.of (s3 _ _ hub), atI_nat (j := 0) rfl, by show 4 ≤ sizeLine; omega, fun t5 nt5 => ?_⟩
                            have sT := same_new (o := .tup [.str "order", fv, .ref a4, .ref a6]) nt5
                            have sA5 := same_trans s3 sT
                            have ntD : t5 ≠ D6 := fun e => by rw [e, s3 _ _ hDA] at nt5; cases nt5
                            refine ⟨D6, cw.map (·.2), _, rfl, rfl, sA5 _ _ hDA, by rw [List.length_map]; omega, ?_⟩
                            refine fin (.order i j) (by unfold gapC; rw [if_pos hz0]; simp only; rw [if_neg c.2]) _ t5 sA5 (fun H6 x6 => ?_) _ _ _ _ _
                            have t6 : TSt K HA H6 := (ts_same sA5).trans (ts_but (sA5 _ _ hDA) x6)
                            exact .tup (SqT.of (x6 _ _ ntD upd_same)) (.cons (.str _) (.cons (GX.Dp.tst t6 _ _ kd_file (GX.Dp.rs (GX.rs_same s0A) _ _ hfv)) (.cons (ln_ts t6 hdf) (.cons (ln_ts t6 hdb) .nil))))
                          · exact stay (by unfold gapC; rw [if_pos hz0]; simp only; rw [if_pos (by simpa using c)]) H3 s3 _ _ _ _ _
                  · intro N kk
                    refine ⟨_, rfl, _, rfl, sp, _, rfl, .inl (SqL.of (s08 _ _ hsp)), _, _, rfl, rfl, _, rfl, ite2 (fun c => ?_) fun c => ?_⟩
                    · have c := of_decide_eq_true c
                      rw [lrf] at c
                      have hk' : k < KP.length := Classical.byContradiction fun h => by
                        rw [enr h] at c
                        exact absurd c (Int.lt_irrefl _)
                      have gx := List.getElem?_eq_getElem hk'
                      obtain ⟨u, i, j, e, gu, ge, el⟩ := kx _ (List.getElem_mem hk')
                      have een : KP[k] = en := by rw [← hen, gx]; rfl
                      rw [een] at gu el
                      have hb' : b = some e.1 := by rw [← hb, gx, een, ← el]; rfl
                      have ht : SqT K H8 u [.str "keep", .int (i : Int), .int (j : Int)] := SqT.of (s08 _ _ (hst _ (List.mem_of_getElem? gu)))
                      refine ⟨_, rfl, _, rfl, _, rfl, sp, _, _, .ref u, rfl, rfl, SqL.of (s08 _ _ hsp), atI_nat (get_map _ gu), u, _, 1, _, rfl, rfl, ht, atI_nat (j := 1) rfl, oa, _, _, _, rfl, rfl, (GX.rs_same s08).sql hoa, atI_nat (get_map _ ge), by show 1 ≤ sizeLine; omega, fun ub nub => ?_⟩
                      refine kk _ _ ⟨ub, e.2, rfl, same_new nub, nub, by rw [hb', upd_same]; rfl, ?_⟩
                      rw [hb']
                      exact (hG.ts (ts_same (same_trans s08 (same_new nub)))) _ (List.mem_of_getElem? ge)
                    · have c : ¬ ((en : Int) < ((refs ps).length : Int)) := fun h => c (decide_eq_true h)
                      rw [lrf] at c
                      have hk' : ¬ k < KP.length := fun h => by
                        obtain ⟨u, i, j, e, gu, ge, el⟩ := kx _ (List.getElem_mem h)
                        have een : KP[k] = en := by rw [← hen, List.getElem?_eq_getElem h]; rfl
                        rw [een] at gu
                        have := (List.getElem?_eq_some_iff.mp gu).1
                        omega
                      have hb' : b = none := by rw [← hb, List.getElem?_eq_none (by omega)]; rfl
                      refine ⟨Nat.zero_le _, fun ub nub => kk _ _ ⟨ub, .non, rfl, same_new nub, nub, by rw [hb', upd_same]; rfl, ?_⟩⟩
                      rw [hb']
                      exact .non
                · intro N kk
                  refine ⟨_, rfl, _, _, rfl, rfl, _, rfl, ite2 (fun c => ?_) fun c => ?_⟩
                  · have c := of_decide_eq_true c
                    have hk1 : k - 1 < KP.length := by omega
                    have gx := List.getElem?_eq_getElem hk1
                    obtain ⟨u, i, j, e, gu, ge, el⟩ := kx _ (List.getElem_mem hk1)
                    have hf' : f = some e.1 := by
                      rw [← hf, if_neg (by omega), gx, ← el]
                      rfl
                    have sv : (V.int (-1) :: KP.map fun k : Nat => V.int (k : Int))[k]? = some (.int ((KP[k - 1] : Nat) : Int)) := by
                      obtain ⟨k', rfl⟩ : ∃ k', k = k' + 1 := ⟨k - 1, by omega⟩
                      rw [List.getElem?_cons_succ, List.getElem?_map]
                      simp only [Nat.add_sub_cancel] at gx ⊢
                      rw [gx]
                      rfl
                    have ht : SqT K H7 u [.str "keep", .int (i : Int), .int (j : Int)] := SqT.of (hs7 _ _ (hst _ (List.mem_of_getElem? gu)))
                    refine ⟨_, rfl, _, rfl, _, rfl, _, rfl, D9, _, _, _, rfl, rfl, SqL.of h97, atI_nat sv, sp, _, _, .ref u, rfl, rfl, SqL.of (hs7 _ _ hsp), atI_nat (get_map _ gu), u, _, 1, _, rfl, rfl, ht, atI_nat (j := 1) rfl, oa, _, _, _, rfl, rfl, (GX.rs_same hs7).sql hoa, atI_nat (get_map _ ge), by show 1 ≤ sizeLine; omega, fun ua nua => ?_⟩
                    refine kk _ _ ⟨ua, e.2, rfl, same_new nua, nua, by rw [hf', upd_same]; rfl, ?_⟩
                    rw [hf']
                    exact (hG.ts (ts_same (same_trans hs7 (same_new nua)))) _ (List.mem_of_getElem? ge)
                  · have c : ¬ ((0 : Int) < (k : Int)) := fun h => c (decide_eq_true h)
                    have hf' : f = none := by rw [← hf, if_pos (by omega)]
                    refine ⟨Nat.zero_le _, fun ua nua => kk _ _ ⟨ua, .non, rfl, same_new nua, nua, by rw [hf', upd_same]; rfl, ?_⟩⟩
                    rw [hf']
                    exact .non
            · intro N kk
              refine ⟨_, rfl, _, _, rfl, rfl, _, rfl, D9, _, rfl, .inl (SqL.of h95), _, _, rfl, rfl, _, rfl, ite2 (fun c => ?_) fun c => ?_⟩
              · have c := of_decide_eq_true c
                rw [lst9] at c
                obtain ⟨x, gx, ex, lx⟩ := enl (by omega)
                have g1 : (V.int (-1) :: KP.map fun k : Nat => V.int (k : Int))[k + 1]? = some (.int (en : Int)) := by
                  rw [List.getElem?_cons_succ, List.getElem?_map, gx, ex]
                  rfl
                exact ⟨_, rfl, _, rfl, _, _, rfl, rfl, D9, _, _, _, rfl, rfl, SqL.of h95, atI_s g1, kk _ _ ⟨rfl, rfl⟩⟩
              · have c : ¬ ((k : Int) + 1 < ((V.int (-1) :: KP.map fun k : Nat => V.int (k : Int)).length : Int)) := fun h => c (decide_eq_true h)
                rw [lst9] at c
                refine ⟨_, rfl, sp, _, rfl, .inl (SqL.of hsp5), ?_⟩
                rw [lrf, ← enr (by omega)]
                exact kk _ _ ⟨rfl, rfl⟩
          · rintro σ' H5 ⟨y7, y10, y11, y12, y13, cw, rfl, x5, hD5, hcw, eC, lc⟩
            have e9 : (((V.int (-1) :: KP.map fun k : Nat => V.int (k : Int)).length : Int)).toNat = (gapsM (G.map (·.1)) ts (ps.map (·.2)) none []).length := by rw [lst9, hgl]; omega
            rw [e9, List.take_length] at eC
            refine ⟨_, rfl, q _ _ (sm x5) ?_⟩
            unfold chsD wantM
            rw [← eC]
            exact .lst (SqL.of hD5) (dpAll_map fun e he => hcw e he H5 fun _ _ _ h => h)
      · intro N kk
        refine ⟨_, rfl, pS, _, rfl, .inl (SqL.of hS2), _, _, rfl, rfl, _, rfl, ite2 (fun c => ?_) fun c => ?_⟩
        · have c := of_decide_eq_true c
          rw [List.length_map] at c
          refine ⟨_, rfl, _, rfl, by show 3 ≤ sizeLine; omega, fun t nt => ⟨by show 1 ≤ sizeLine; omega, fun D6 nD6 => ?_⟩⟩
          have st := same_new (o := .tup [.str "cut", fv, .ref pS]) nt
          have s6 := same_new (o := .lst [.ref t]) nD6
          have ntD : t ≠ D6 := fun e => by rw [← e, upd_same] at nD6; cases nD6
          refine kk _ _ ⟨D6, [(.cut (LL.map (·.1)), .ref t)], rfl, same_trans st s6, same_none st nD6, upd_same, fun e he H4 x4 => ?_, ?_, Nat.le_refl _⟩
          · rw [List.mem_singleton.mp he]
            have x24 : EX D6 H2 H4 := (EX.same (same_trans st s6)).trans x4
            have t4 : TSt K H2 H4 := (ts_same (same_trans st s6)).trans (ts_but upd_same x4)
            have npD : pS ≠ D6 := fun e => by rw [← e, st _ _ hS2] at nD6; cases nD6
            exact .tup (SqT.of (x4 _ _ ntD ((upd_ne ntD).trans upd_same))) (.cons (.str _) (.cons (GX.Dp.tst t4 _ _ kd_file (GX.Dp.rs (GX.rs_same s02) _ _ hfv)) (.cons (dp_ls (SqL.of (x24 _ _ npD hS2)) (hL2.ts t4)) .nil)))
          · rw [← eL]
            show [Chg.cut (LL.map (·.1))] = cutC (LL.map (·.1))
            unfold cutC
            rw [if_neg (fun e => by
              have h0 : (LL.map (·.1)).length = 0 := by rw [e]; rfl
              rw [List.length_map] at h0
              omega)]
        · have c : ¬ ((0 : Int) < ((LL.map (·.2)).length : Int)) := fun h => c (decide_eq_true h)
          rw [List.length_map] at c
          refine ⟨Nat.zero_le _, fun D6 nD6 => kk _ _ ⟨D6, [], rfl, same_new nD6, nD6, upd_same, (fun _ h => nomatch h), ?_, Nat.zero_le _⟩⟩
          rw [← eL]
          have : LL = [] := List.eq_nil_of_length_eq_zero (by omega)
          rw [this]
          rfl
end
end K12
/-! what draws leave; circles; isinstance(d, dict) -/
namespace GX
open PySem PySem.Spec PyProof.Rows L2 TR QR
variable {X : Cx} {κ : Type} [DecidableEq κ] {T : KT κ}
theorem cr_isiN : CallR X (.builtin "isinstance") (fun xs H Q => ∃ (a : Addr) (es : List (κ × Addr × V)), xs = [.ref a, .ty "dict"] ∧ Rd H a (dNO T X.prog X.w a es) ∧ Q (.bl true) H) := by
  intro pins s σ H xs us Q I r h
  obtain ⟨a, es, rfl, ha, q⟩ := h
  obtain ⟨u1, u2, rfl, r1, r2⟩ := vals2 r
  obtain rfl : u1 = Value.ref a := r1
  obtain rfl : u2 = Value.type "dict" := r2
  obtain ⟨z, l, n, o, ds, ep, us, ho, hx, _⟩ := dn0_of I ha
  exact call_isinstance_yes (Tx := "dict") (T := "dict") ⟨o, ho, hx.1⟩ (by rfl) (by rfl) ⟨.bl true, H, I, rfl, q⟩
end GX
namespace K12
open PySem PySem.Spec PyProof.Rows L2 TR QR K15
open GX (KT kd kdAll RS TSt dNO KeysAt)
open MB
/-- all but lists stays, and tuples -/
structure DT (K : PySem.W.Frag) (H H' : Hp) : Prop where
  t : TSt K H H'
  d : ∀ b o, (∀ xs, o ≠ .lst xs) → H b = some o → H' b = some o
section
variable {P : Program} {w : World} {K : PySem.W.Frag} {H H' : Hp}
theorem DT.dn (s : DT K H H') {r : Addr} {es : List (Nat × Addr × V)} (h : Rd H r (dNO ktL P w r es)) : Rd H' r (dNO ktL P w r es) := h.elim (fun h => .inl (s.d _ _ (fun _ h => nomatch h) h)) fun ⟨o, h⟩ => .inr ⟨o, s.d _ _ (fun _ h => nomatch h) h⟩
theorem TxtsAt.dt {r : Addr} {ks : List Nat} {tx : Nat → Str} (s : DT K H H') (h : TxtsAt P w K H r ks tx) : TxtsAt P w K H' r ks tx := by
  obtain ⟨es, h1, h2, h3, h4⟩ := h
  exact ⟨es, s.dn h1, h2.ts s.t, h3, h4⟩
theorem OnesAt.dt {r : Addr} {ks : List Nat} (s : DT K H H') (h : OnesAt P w K H r ks) : OnesAt P w K H' r ks := by
  obtain ⟨es, h1, h2, h3, h4⟩ := h
  exact ⟨es, s.dn h1, h2.ts s.t, h3, h4⟩
theorem NumsAt.dt {r : Addr} {ks : List Nat} {m : Nat → Nat} (s : DT K H H') (h : NumsAt P w K H r ks m) : NumsAt P w K H' r ks m := by
  obtain ⟨es, h1, h2, h3, h4⟩ := h
  exact ⟨es, s.dn h1, h2.ts s.t, h3, h4⟩
theorem RchAt.dt {r : Addr} {R : Nat → Nat → Prop} (s : DT K H H') (h : RchAt P w K H r R) : RchAt P w K H' r R := by
  obtain ⟨es, h1, h2, h3, h4, h5⟩ := h
  refine ⟨es, s.dn h1, h2.ts s.t, h3, fun e he => ?_, h5⟩
  obtain ⟨d, fs, a1, a2, a3, a4⟩ := h4 e he
  exact ⟨d, fs, a1, s.dn a2, a3.ts s.t, a4⟩
theorem DT.of {p c : Addr} (st : StateAt H p c) (h : ∀ b o, b ≠ p → b ≠ c → H b = some o → H' b = some o) : DT K H H' := ⟨ts_out st h, fun b o n e => by
  obtain ⟨⟨x, hx⟩, ⟨y, hy⟩⟩ := st.some
  exact h b o (fun z => by rw [z, hx] at e; cases e; exact n _ rfl) (fun z => by rw [z, hy] at e; cases e; exact n _ rfl) e⟩
theorem row_stay {p c a : Addr} {F : List (Nat × V)} (st : StateAt H p c) (h : ∀ b o, b ≠ p → b ≠ c → H b = some o → H' b = some o) (ne : F ≠ []) (hF : LAt K H F) (hs : SqL K H a (F.map (·.2))) : SqL K H' a (F.map (·.2)) := by
  obtain ⟨e0, F', rfl⟩ := List.exists_cons_of_ne_nil ne
  obtain ⟨b, eb⟩ := ln_ref (hF e0 List.mem_cons_self)
  have bad : ∀ xs, H a = some (.lst xs) → xs = (e0 :: F').map (·.2) → a ≠ p ∧ a ≠ c := fun xs ha hx => by
    obtain ⟨⟨seed, ms, h1, h2, h3⟩, ne⟩ := st
    refine ⟨fun z => ?_, fun z => ?_⟩
    · rw [z, h1] at ha
      have e := HO.lst.inj (Option.some.inj ha)
      rw [hx] at e
      have l := congrArg (fun l : List V => l[1]?) e
      obtain ⟨e1, F2, rfl⟩ : ∃ e1 F2, F' = e1 :: F2 := by
        cases F' with
        | nil => cases l
        | cons e1 F2 => exact ⟨e1, F2, rfl⟩
      obtain ⟨b2, eb2⟩ := ln_ref (hF e1 (List.mem_cons_of_mem _ List.mem_cons_self))
      have l : some _ = some e1.2 := l
      rw [eb2] at l
      cases l
    · rw [z, h2] at ha
      have e := HO.lst.inj (Option.some.inj ha)
      rw [hx] at e
      cases ms with
      | nil => cases e
      | cons m ms =>
        have l := congrArg (fun l : List V => l[0]?) e
        have l : some _ = some e0.2 := l
        rw [eb] at l
        cases l
  rcases hs with q | q
  · rcases q with q | ⟨o, q⟩
    · obtain ⟨n1, n2⟩ := bad _ q rfl
      exact .inl (.inl (h _ _ n1 n2 q))
    · refine .inl (.inr ⟨o, h _ _ (fun z => ?_) (fun z => ?_) q⟩)
      · obtain ⟨⟨x, hx⟩, _⟩ := st.some
        rw [z, hx] at q
        cases q
      · obtain ⟨_, ⟨x, hx⟩⟩ := st.some
        rw [z, hx] at q
        cases q
  · exact .inr q
theorem EdgesAt.dt {p c r : Addr} {ks : List Nat} {g : Nat → List Nat} (st : StateAt H p c) (h : ∀ b o, b ≠ p → b ≠ c → H b = some o → H' b = some o) (ne : ∀ k ∈ ks, g k ≠ []) (hE : EdgesAt P w K H r ks g) : EdgesAt P w K H' r ks g := by
  obtain ⟨es, h1, h2, h3, h4⟩ := hE
  have s : DT K H H' := DT.of st h
  refine ⟨es, s.dn h1, h2.ts s.t, h3, fun e he => ?_⟩
  obtain ⟨l, F, a1, a2, a3, a4⟩ := h4 e he
  have nF : F ≠ [] := fun e2 => ne e.1 (by rw [← h3]; exact List.mem_map.mpr ⟨e, he, rfl⟩) (by rw [← a4, e2]; rfl)
  exact ⟨l, F, a1, row_stay st h nF a3 a2, a3.ts s.t, a4⟩
theorem GrAt.dt {C x p c : Addr} {n : Nat} {kp ks : List Nat} {g : Nat → List Nat} {tx : Nat → Str} (st : StateAt H p c) (h : ∀ b o, b ≠ p → b ≠ c → H b = some o → H' b = some o) (ne : ∀ k ∈ ks, g k ≠ []) (hG : GrAt P w K C H x n kp ks g tx) : GrAt P w K C H' x n kp ks g tx := by
  have s : DT K H H' := DT.of st h
  obtain ⟨dx, al, ap, ae, ab, at', ar, js, M, h1, h2, h3, h4, h5, h6, h7, h8, h9, js2, M2, h10, h11⟩ := hG.ex
  exact ⟨dx, al, ap, ae, ab, at', ar, js, M, s.d _ _ (fun _ h => nomatch h) h1, h2.dt s, h3.dt s, h4.dt st h ne, h5.dt s, h6.dt s, h7, h8, h9, js2, M2, h10.dt s, h11⟩
end
/-- lines that lie in circles lie in one block with the circle -/
theorem circ_iff {g : Nat → List Nat} {kp : List Nat} {R : List (List Nat)} (h : Rows (rS g) kp R) (k : Nat) : (∃ A ∈ R, k ∈ A ∧ Circ g A k) ↔ k ∈ R.flatten ∧ ∃ j ∈ R.flatten, j ≠ k ∧ TG (fun a b => b ∈ g a) k j ∧ TG (fun a b => b ∈ g a) j k := by
  constructor
  · rintro ⟨A, hA, hk, j, hj, h1, h2, h3⟩
    exact ⟨List.mem_flatten.mpr ⟨A, hA, hk⟩, j, List.mem_flatten.mpr ⟨A, hA, hj⟩, fun e => h1 e.symm, h2, h3⟩
  · rintro ⟨hk, j, hj, h1, h2, h3⟩
    obtain ⟨A, hA, hkA⟩ := List.mem_flatten.mp hk
    obtain ⟨B, hB, hjB⟩ := List.mem_flatten.mp hj
    refine ⟨A, hA, hkA, j, ?_, fun e => h1 e.symm, h2, h3⟩
    refine Classical.byContradiction fun hn => ?_
    have ne : A ≠ B := fun e => hn (e ▸ hjB)
    have key : ∀ {R : List (List Nat)}, R.Pairwise (fun A B => ∀ a ∈ A, ∀ b ∈ B, rS g a b = true) → A ∈ R → B ∈ R → rS g k j = true ∨ rS g j k = true := fun {R} => by
      induction R with
      | nil => intro _ h
               cases h
      | cons Z R ih =>
        intro hp ha hb
        obtain ⟨p1, p2⟩ := List.pairwise_cons.mp hp
        rcases List.mem_cons.mp ha with ha | ha
        · rcases List.mem_cons.mp hb with hb | hb
          · exact absurd (ha.trans hb.symm) ne
          · exact .inl (p1 B hb k (ha ▸ hkA) j hjB)
        · rcases List.mem_cons.mp hb with hb | hb
          · exact .inr (p1 A ha j (hb ▸ hjB) k hkA)
          · exact ih p2 ha hb
    rcases key h.ord hA hB with e | e
    · exact (rS_iff.mp e).2 h3
    · exact (rS_iff.mp e).2 h2
end K12
namespace K12
open PySem PySem.Spec PyProof.Rows L2 TR QR K15
open GX (KT kd kdAll RS TSt dNO KeysAt)
open GxR (TabB TabG Tabbed)
open PySem.W (dataLt dataLe alike alikeAll AllAlike Sortable)
open MB
abbrev sLAW : Stmt := topS 38
abbrev nLAW : List Str := ["script", "state", "lines", "present", "pairs", "graph", "reach", "order", "row", "closed", "one", "ring", "told", "texts", "steps", "most", "file", "other", "line"]
theorem scLAW : FnScope nLAW ["script"] (defScope sLAW) := ⟨rfl, rfl, rfl, by decide +kernel, rfl, by decide +kernel, by decide +kernel⟩
def spLaw (K : PySem.W.Frag) (T1 : Addr) : Sp := fun vs H Q _ => ∃ (a : Addr) (ns : List Int), vs = [.ref a] ∧ SqL K H a (ns.map V.int) ∧ ns.length ≤ 63 ∧ TabG H T1 ∧ ∀ H', Q (.bl true) H'
theorem hash_nd {w : World} : ∀ {es : List (Nat × Addr × V)}, (es.map (·.1)).Nodup → (∀ k ∈ es.map (·.1), k < 16) → (es.map fun e => NestedKey.hash w (GX.keyN (ktL.enc e.1))).Nodup
  | [], _, _ => List.nodup_nil
  | e :: es, nd, h => by
    rw [List.map_cons] at nd h ⊢
    obtain ⟨h1, h2⟩ := List.nodup_cons.mp nd
    refine List.nodup_cons.mpr ⟨fun hm => ?_, hash_nd h2 fun k hk => h k (List.mem_cons_of_mem _ hk)⟩
    obtain ⟨x, hx, ex⟩ := List.mem_map.mp hm
    have hx1 : x.1 ∈ es.map (·.1) := List.mem_map.mpr ⟨x, hx, rfl⟩
    have a1 := h x.1 (List.mem_cons_of_mem _ hx1)
    have a2 := h e.1 List.mem_cons_self
    have e1 : ∀ k, GX.keyN (ktL.enc k) = .tup [GX.keyN nmD, .num 1, .num (k : Int)] := fun k => by
      show GX.keyN (encL k) = _
      unfold encL
      rw [GX.keyN, GX.keyNs, GX.keyNs, GX.keyNs, GX.keyNs, GX.keyN, GX.keyN]
      rfl
    rw [e1, e1] at ex
    have := GX.hash_apart (by omega) (by omega) ex
    exact h1 (this ▸ hx1)
theorem tg_iff (ps : List Pr) (i j : Nat) : TG (fun a b => b ∈ edG ps a) i j ↔ TG (fun a b => (a, b) ∈ ps) i j :=
  ⟨TG.mono fun a b h => mem_sortP.mp (mem_edG.mp h), TG.mono fun a b h => mem_edG.mpr (mem_sortP.mpr h)⟩
theorem same_true {dv : Nat → PyData} {es fs : List (Nat × Addr × V)} (h : es.map (·.1) = fs.map (·.1)) (hp : ∀ k, (dv k).plain = true) : (es.length == fs.length && GX.sameD dv dv es fs) = true := by
  have hl := congrArg List.length h
  rw [List.length_map, List.length_map] at hl
  rw [Bool.and_eq_true]
  refine ⟨by simpa using hl, ?_⟩
  unfold GX.sameD
  rw [List.all_eq_true]
  intro e he
  rw [Bool.and_eq_true]
  refine ⟨?_, PySem.SeqAt.eqv_refl_plain _ (hp _)⟩
  have : e.1 ∈ fs.map (·.1) := h ▸ List.mem_map.mpr ⟨e, he, rfl⟩
  obtain ⟨f, hf, e2⟩ := List.mem_map.mp this
  exact List.any_eq_true.mpr ⟨f, hf, decide_eq_true e2⟩
theorem lay_L (k : Nat) : (encL k).canLay0 = true := by
  have h : nmD.canLay0 = true := by decide +kernel
  unfold encL
  rw [PyData.canLay0, PyData.canLayAll0, PyData.canLayAll0, PyData.canLayAll0, PyData.canLayAll0, PyData.canLay0, PyData.canLay0, h]
  rfl
theorem lay_Ls : ∀ l : List Nat, PyData.canLayAll0 (l.map encL) = true
  | [] => by rw [List.map_nil, PyData.canLayAll0]
  | k :: l => by rw [List.map_cons, PyData.canLayAll0, lay_L, lay_Ls l]; rfl
theorem shaped_L (k : Nat) : SeqAt.shaped (encL k) = true := by
  unfold SeqAt.shaped
  rw [lay_L, decide_eq_true (show (encL k).depth ≤ 64 from Nat.le_trans (ktL.dp k) (by decide))]
  rfl
theorem shaped_Ls (l : List Nat) : SeqAt.shaped (.list (l.map encL)) = true := by
  have h := dep_Ls l
  unfold SeqAt.shaped
  rw [PyData.canLay0, lay_Ls, decide_eq_true (by rw [PyData.depth]; omega)]
  rfl
theorem plain_strs : ∀ ts : List Str, PyData.plainAll (ts.map PyData.str) = true
  | [] => rfl
  | t :: ts => by rw [List.map_cons, PyData.plainAll, plain_strs ts]; rfl
theorem dep_strs : ∀ ts : List Str, PyData.depthAll (ts.map PyData.str) ≤ 1
  | [] => Nat.zero_le _
  | t :: ts => by
    have := dep_strs ts
    rw [List.map_cons, PyData.depthAll, PyData.depth]
    omega
theorem plain_txs (ts : List Str) : (txsD ts).plain = true := by
  unfold txsD
  rw [PyData.plain, plain_strs]
theorem dep_txs (ts : List Str) : (txsD ts).depth ≤ 5 := by
  have := dep_strs ts
  unfold txsD
  rw [PyData.depth]
  omega
theorem plain_chg (c : Chg) : (chgD c).plain = true := by
  have hf : fileD.plain = true := by decide +kernel
  cases c with
  | cut A => simp [chgD, PyData.plain, PyData.plainAll, lsD_plain, hf]
  | lines u d p => simp [chgD, PyData.plain, PyData.plainAll, lsD_plain, plain_txs, hf]
  | order i j => simp [chgD, PyData.plain, PyData.plainAll, plain_L, hf]
theorem dep_chg (c : Chg) : (chgD c).depth ≤ 52 := by
  have hf : fileD.depth ≤ 10 := by decide +kernel
  cases c with
  | cut A =>
    have := lsD_dep A
    simp only [chgD, PyData.depth, PyData.depthAll]
    omega
  | lines u d p =>
    have := lsD_dep u
    have := lsD_dep d
    have := dep_txs p
    simp only [chgD, PyData.depth, PyData.depthAll]
    omega
  | order i j =>
    have := dpk i
    have := dpk j
    simp only [chgD, PyData.depth, PyData.depthAll]
    omega
theorem plain_chgs : ∀ cs : List Chg, PyData.plainAll (cs.map chgD) = true
  | [] => rfl
  | c :: cs => by rw [List.map_cons, PyData.plainAll, plain_chg, plain_chgs cs]; rfl
theorem dep_chgs : ∀ cs : List Chg, PyData.depthAll (cs.map chgD) ≤ 52
  | [] => Nat.zero_le _
  | c :: cs => by
    have := dep_chg c
    have := dep_chgs cs
    rw [List.map_cons, PyData.depthAll]
    omega
theorem chsD_plain (cs : List Chg) : (chsD cs).plain = true := by
  unfold chsD
  rw [PyData.plain, plain_chgs]
theorem chsD_dep (cs : List Chg) : (chsD cs).depth ≤ 60 := by
  have := dep_chgs cs
  unfold chsD
  rw [PyData.depth]
  omega
theorem xsOf_eq {a b : List Nat} (h : ∀ k, k ∈ a ↔ k ∈ b) (tx : Nat → Str) (ln : List Nat) : xsOf a tx ln = xsOf b tx ln := by
  unfold xsOf
  refine List.map_congr_left fun k _ => ?_
  by_cases c : k ∈ a
  · rw [if_pos c, if_pos ((h k).mp c)]
  · rw [if_neg c, if_neg fun e => c ((h k).mpr e)]
/-- an other line with which one lies in a circle -/
noncomputable def ringB (T : Nat → Nat → Prop) (k j : Nat) : Bool := @decide (j ≠ k ∧ T k j ∧ T j k) (Classical.propDecidable _)
theorem ringB_iff {T : Nat → Nat → Prop} {k j : Nat} : ringB T k j = true ↔ j ≠ k ∧ T k j ∧ T j k := by
  unfold ringB
  exact @decide_eq_true_iff _ (Classical.propDecidable _)
theorem ringB_no {T : Nat → Nat → Prop} {k j : Nat} (h : ¬ (j ≠ k ∧ T k j ∧ T j k)) : false = ringB T k j := by
  cases e : ringB T k j with
  | false => rfl
  | true => exact absurd (ringB_iff.mp e) h
section
variable {P : Program} {w : World} {K : PySem.W.Frag} {mg : Str → Option Value} {base : Heap} {C T1 : Addr}
theorem ok_LAW {f fST fGR fED fRE fLK fLB fIC fWI fDU fWA fCH fIN : Addr} {fdST fdGR fdED fdRE fdLK fdLB fdIC fdWI fdDU fdWA fdCH fdIN : FuncData} {oc kV doc pm cdv ct : Value} {od an : Option Addr} {osl : Array (Option Value)}
    (lk : K.lookup f = some ⟨oc, od, .func (PySem.W.fnOf "law" "law" (defArgs sLAW) (defBody sLAW) (defScope sLAW) .none kV doc pm an cdv ct), osl⟩) (hcd : PySem.W.codeIn K cdv "law" = true)
    (GST : FnOk P w K mg base CX0 1 fST fdST ["script"] (spState K)) (bST : Binds K fdST ["script"] []) (gST : mg "_law_state" = some (.ref fST)) (kST : PySem.W.keepIn K (.ref fST) = true)
    (GGR : FnOk P w K mg base CX0 3 fGR fdGR ["state"] (spGR P w K)) (bGR : Binds K fdGR ["state"] []) (gGR : mg "_law_graph" = some (.ref fGR)) (kGR : PySem.W.keepIn K (.ref fGR) = true)
    (GED : FnOk P w K mg base CX0 1 fED fdED ["pairs"] (spED P w K)) (bED : Binds K fdED ["pairs"] []) (gED : mg "_law_edges" = some (.ref fED)) (kED : PySem.W.keepIn K (.ref fED) = true)
    (GRE : FnOk P w K mg base CX0 1 fRE fdRE ["edges"] (spRE P w K)) (bRE : Binds K fdRE ["edges"] []) (gRE : mg "_law_reach" = some (.ref fRE)) (kRE : PySem.W.keepIn K (.ref fRE) = true)
    (GLK : FnOk P w K mg base CX0 3 fLK fdLK ["reach", "present"] (spLK P w K)) (bLK : Binds K fdLK ["reach", "present"] []) (gLK : mg "_law_blocks" = some (.ref fLK)) (kLK : PySem.W.keepIn K (.ref fLK) = true)
    (GLB : FnOk P w K mg base CX0 1 fLB fdLB ["reach", "one", "other"] (spLB P w K)) (bLB : Binds K fdLB ["reach", "one", "other"] []) (gLB : mg "_law_before" = some (.ref fLB)) (kLB : PySem.W.keepIn K (.ref fLB) = true)
    (GIC : FnOk P w K mg base CX0 4 fIC fdIC ["graph"] (spIC P w K C T1)) (bIC : Binds K fdIC ["graph"] []) (gIC : mg "in_circles" = some (.ref fIC)) (kIC : PySem.W.keepIn K (.ref fIC) = true)
    (GWI : FnOk P w K mg base CX0 3 fWI fdWI ["state", "texts"] (spWI K)) (bWI : Binds K fdWI ["state", "texts"] []) (gWI : mg "_law_wish" = some (.ref fWI)) (kWI : PySem.W.keepIn K (.ref fWI) = true)
    (GDU : FnOk P w K mg base CX0 2 fDU fdDU ["one", "other"] (spDU)) (bDU : Binds K fdDU ["one", "other"] []) (gDU : mg "_law_due" = some (.ref fDU)) (kDU : PySem.W.keepIn K (.ref fDU) = true)
    (GWA : FnOk P w K mg base CX0 5 fWA fdWA ["graph", "file", "texts"] (spWA P w K C T1)) (bWA : Binds K fdWA ["graph", "file", "texts"] []) (gWA : mg "wanted" = some (.ref fWA)) (kWA : PySem.W.keepIn K (.ref fWA) = true)
    (GCH : FnOk P w K mg base CX0 3 fCH fdCH ["file", "reach", "order", "steps", "texts"] (spCH P w K)) (bCH : Binds K fdCH ["file", "reach", "order", "steps", "texts"] []) (gCH : mg "_law_changes" = some (.ref fCH)) (kCH : PySem.W.keepIn K (.ref fCH) = true)
    (T : Txt K mg C) (MkG : Mk K C fIN) (GIN : FnOk P w K mg base CX0 3 fIN fdIN ["self", "lines", "present", "edges"] (spIN P w K C)) (bIN : Binds K fdIN ["self", "lines", "present", "edges"] [])
    (m_list : mg "list" = none) (m_sorted : mg "sorted" = none) (m_len : mg "len" = none) (m_isinstance : mg "isinstance" = none) (m_dict : mg "dict" = none) :
    GX.FnC P w K mg base f (PySem.W.fnOf "law" "law" (defArgs sLAW) (defBody sLAW) (defScope sLAW) .none kV doc pm an cdv ct) ["script"] (spLaw K T1) := by
  refine GX.fn_C (k := 6) ⟨rfl, by decide +kernel, by decide +kernel⟩ lk hcd scLAW (fun vs H Q E h => ?_) fun A outer s H vs Q E hgd hr h => ?_
  · obtain ⟨a, ns, rfl, _⟩ := h
    rfl
  · obtain ⟨sa, ns, rfl, hS, hl, hT, q⟩ := h
    have hu := hr.units
    have hu1 := hu_of hr
    have hr1 : Room 1 _ := hr.mono (by decide)
    have hr2 : Room 2 _ := hr.mono (by decide)
    have hr3 : Room 3 _ := hr.mono (by decide)
    have hr4 : Room 4 _ := hr.mono (by decide)
    have hr5 : Room 5 _ := hr.mono (by decide)
    have hu65 : (A.deeper (envOfC "law" (defScope sLAW) s.heap.objs.size f cdv)).units + 65 < cLine := by have := hr.un; omega
    have zl := zl
    refine ⟨_, (pss_cons (ps_set (i := 1) scLAW.nd rfl (.inl rfl) (pe_call GST hr1 (by rfl) gST kST bST .nil pass0 (pa_cons (pv 0) pa_nil)))
      (pss_cons (ps_asg (pe_call GGR hr3 (by rfl) gGR kGR bGR .nil pass0 (pa_cons (pv 1) pa_nil)) (pg_tup (by rfl) (pgs_cons (pg_name (i := 2) scLAW.nd rfl (.inr rfl)) (pgs_cons (pg_name (i := 3) scLAW.nd rfl (.inl rfl)) (pgs_cons (pg_name (i := 4) scLAW.nd rfl (.inl rfl)) pgs_nil)))))
      (pss_cons (ps_set (i := 5) scLAW.nd rfl (.inl rfl) (pe_make MkG GIN hr4 rfl T.mg bIN .nil pass0 (pa_cons (pe_callTy (GX.cr_dictN (T := ktL) hu) (by rfl) m_dict (by decide +kernel) (pa_cons (pv 2) pa_nil)) (pa_cons (pe_callTy (GX.cr_dictN (T := ktL) hu) (by rfl) m_dict (by decide +kernel) (pa_cons (pv 3) pa_nil)) (pa_cons (pe_call GED hr1 (by rfl) gED kED bED .nil pass0 (pa_cons (pv 4) pa_nil)) pa_nil)))))
      (pss_cons (ps_set (i := 6) scLAW.nd rfl (.inr rfl) (pe_call GRE hr1 (by rfl) gRE kRE bRE .nil pass0 (pa_cons (pv 4) pa_nil)))
      (pss_cons (ps_set (i := 7) scLAW.nd rfl (.inl rfl) (pe_lst (pa_nil)))
      (pss_cons (ps_for PassesOwn.never rfl (pi_list (pe_call GLK hr3 (by rfl) gLK kLK bLK .nil pass0 (pa_cons (pv 6) (pa_cons (pe_callTy (GX.cr_listN (T := ktL) rfl) (by rfl) m_list (by decide +kernel) (pa_cons (pv 3) pa_nil)) pa_nil)))) (pg_name (i := 8) scLAW.nd rfl (.inl rfl))
      (pss_one (ps_set (i := 7) scLAW.nd rfl (.inl rfl) (pe_op op_cat (pv 7) (pv 8)))))
      (pss_cons (ps_set (i := 9) scLAW.nd rfl (.inr rfl) (pe_lst (pa_nil)))
      (pss_cons (ps_for PassesOwn.never rfl (pi_list (pv 7)) (pg_name (i := 10) scLAW.nd rfl (.inr rfl))
      (pss_cons (ps_setLc (i := 11) (own := [("other", 17)]) (g := gName 17) (tt := tAnd (tTest (tOp (rNeP K) (tVar 17) (tVar 10))) (tAnd (tB (tCall (spLB P w K) [] E0 (tCons (tVar 6) (tCons (tVar 10) (tCons (tVar 17) tNil))))) (tB (tCall (spLB P w K) [] E0 (tCons (tVar 6) (tCons (tVar 17) (tCons (tVar 10) tNil))))))) (te := tVar 17) rfl scLAW.nd rfl rfl (sw_true rfl rfl rfl (by decide +kernel)) (pi_list (pv 7)) (blkOk_by (N := nLAW) (sc := defScope sLAW) (by decide +kernel)) (fun _ _ _ _ _ => by exact pg_name (i := 17) scLAW.nd rfl (.inl rfl)) (fun _ _ _ _ _ => by exact pts_one (PW.pt (pw_and (pt_cmpR (op_neP hu) (pv 17) (pv 10) (nomark _)) (pw_and (pt_val (pe_call GLB hr1 (by rfl) gLB kLB bLB .nil pass0 (pa_cons (pv 6) (pa_cons (pv 10) (pa_cons (pv 17) pa_nil))))) (pw_and1 (pt_val (pe_call GLB hr1 (by rfl) gLB kLB bLB .nil pass0 (pa_cons (pv 6) (pa_cons (pv 17) (pa_cons (pv 10) pa_nil)))))))))) (fun _ _ _ _ _ => by exact pv 17))
      (pss_one (ps_if (pt_cmpR op_gt (pe_callB call_len_seq (by rfl) m_len PySem.boot_len (pa_cons (pv 11) pa_nil)) (pe_int) (nomark _))
      (pss_one (ps_expr (pe_bm PySem.F.plainAttrs_list PySem.F.slot_list_append PySem.F.type_list_append mt_append (pv 9) (pa_cons (pv 10) pa_nil)))) pss_nil))))
      (pss_cons (ps_set (i := 12) scLAW.nd rfl (.inl rfl) (pe_call GIC hr4 (by rfl) gIC kIC bIC .nil pass0 (pa_cons (pv 5) pa_nil)))
      (pss_cons (ps_if (PW.pt (pw_or (pt_not (pt_val (pe_callB (GX.cr_isiN (T := ktL)) (by rfl) m_isinstance (by decide +kernel) (pa_cons (pv 12) (pa_cons (pe_bltn (v := V.ty "dict") (u := .type "dict") (by rfl) m_dict (by decide +kernel) rfl) pa_nil))))) (pw_or1 (pt_cmpR (op_neP hu) (pe_callB (GX.cr_sortedN (T := ktL) rfl hu) (by rfl) m_sorted (by decide +kernel) (pa_cons (pv 12) pa_nil)) (pe_callB (GX.cr_sortedD hu) (by rfl) m_sorted (by decide +kernel) (pa_cons (pv 9) pa_nil)) (nomark _)))))
      (pss_one (ps_ret (pe_bl))) pss_nil)
      (pss_cons (ps_set (i := 13) scLAW.nd rfl (.inl rfl) (pe_call GWI hr3 (by rfl) gWI kWI bWI .nil pass0 (pa_cons (pv 1) (pa_cons (pe_lc (own := [("line", 18)]) (g := gName 18) (tt := tYes) (te := tOp (GX.rIxN ktL P w K) (tVar 2) (tVar 18)) rfl scLAW.nd (pi_list (pv 7)) (blkOk_by (N := nLAW) (sc := defScope sLAW) (by decide +kernel)) (fun _ _ _ _ _ => by exact pg_name (i := 18) scLAW.nd rfl (.inl rfl)) (fun _ _ _ _ _ => pts_nil) (fun _ _ _ _ _ => by exact pe_ix (GX.ix_N (T := ktL) hu) (pv 2) (pv 18) (fun _ _ => rfl))) pa_nil))))
      (pss_cons (ps_asg (pe_call GDU hr2 (by rfl) gDU kDU bDU .nil pass0 (pa_cons (pe_lc (own := [("line", 18)]) (g := gName 18) (tt := tYes) (te := tIf (tTest (tOp (rInD K) (tVar 18) (tVar 9))) (tC .non) (tOp (GX.rIxN ktL P w K) (tVar 2) (tVar 18))) rfl scLAW.nd (pi_list (pv 7)) (blkOk_by (N := nLAW) (sc := defScope sLAW) (by decide +kernel)) (fun _ _ _ _ _ => by exact pg_name (i := 18) scLAW.nd rfl (.inl rfl)) (fun _ _ _ _ _ => pts_nil) (fun _ _ _ _ _ => by exact pe_ifExp (pt_cmpR (op_inD hu65) (pv 18) (pv 9) (by rfl)) (pe_non) (pe_ix (GX.ix_N (T := ktL) hu) (pv 2) (pv 18) (fun _ _ => rfl)))) (pa_cons (pv 13) pa_nil))) (pg_tup (by rfl) (pgs_cons (pg_name (i := 14) scLAW.nd rfl (.inl rfl)) (pgs_cons (pg_name (i := 15) scLAW.nd rfl (.inl rfl)) pgs_nil))))
      (pss_cons (ps_set (i := 16) scLAW.nd rfl (.inl rfl) (pe_tup (pa_cons (pe_tup (pa_cons (pe_tup (pa_cons (pe_str) (pa_cons (pe_int) (pa_cons (pe_tup (pa_nil)) pa_nil)))) (pa_cons (pe_str) (pa_cons (pe_int) pa_nil)))) (pa_cons (pe_int) (pa_cons (pe_int) pa_nil)))))
      (pss_cons (ps_if (pt_cmpR (op_neP hu) (pe_call GWA hr5 (by rfl) gWA kWA bWA .nil pass0 (pa_cons (pv 5) (pa_cons (pv 16) (pa_cons (pe_callTy call_list_of (by rfl) m_list (by decide +kernel) (pa_cons (pv 13) pa_nil)) pa_nil)))) (pe_call GCH hr3 (by rfl) gCH kCH bCH .nil pass0 (pa_cons (pv 16) (pa_cons (pv 6) (pa_cons (pv 7) (pa_cons (pv 14) (pa_cons (pv 13) pa_nil)))))) (nomark _))
      (pss_one (ps_ret (pe_bl))) pss_nil)
      (pss_one (ps_ret (pe_and (pe_cmpR (GX.op_eqN (T := ktL) hu) (pe_fld (pv 5) rfl) (pv 2) (nomark _)) (pe_and (pe_cmpR (GX.op_eqN (T := ktL) hu) (pe_fld (pv 5) rfl) (pv 3) (nomark _)) (pe_one (pe_cmpR (GX.op_eqN (T := ktL) hu) (pe_fld (pv 5) rfl) (pe_call GED hr1 (by rfl) gED kED bED .nil pass0 (pa_cons (pv 4) pa_nil)) (nomark _))))))))))))))))))))), ?_⟩
    refine ⟨_, rfl, sa, ns, rfl, hS, hl, fun H1 p c s1 np nc st => ?_⟩
    have hT1 := tabG_same hT s1
    refine ⟨_, rfl, p, c, rfl, st, fun H2 t dl dp pl esl esp PS n tx st2 ou ht hn a1 a2 a3 a4 b1 b2 b3 b4 b5 npl1 npl2 pj => ⟨t, _, rfl, ht, rfl, _, _, rfl, _, _, rfl, _, _, rfl, rfl, ?_⟩⟩
    have hT2 : TabG H2 T1 := by
      obtain ⟨⟨x1, e1⟩, ⟨x2, e2⟩⟩ := st.some
      obtain ⟨ps, h, k⟩ := hT1
      exact ⟨ps, ou _ _ (fun e => by rw [e, e1] at h; cases h) (fun e => by rw [e, e2] at h; cases h) h, k⟩
    clear ou st np nc s1 hS ht hT hT1
    have n16 : n ≤ 16 := by omega
    have n10 : n ≤ 10 := by omega
    have ndl : (esl.map (·.1)).Nodup := by rw [a3]; exact List.nodup_range
    have ndp : (esp.map (·.1)).Nodup := b3.imp fun h => Nat.ne_of_lt h
    refine ⟨_, rfl, dl, esl, rfl, .inl a1, a2, hash_nd ndl (fun k hk => by rw [a3] at hk; have := List.mem_range.mp hk; omega), fun d1 nd1 => ?_⟩
    have sA := same_new (o := dNO ktL P w d1 esl) nd1
    refine ⟨_, rfl, dp, esp, rfl, .inl (sA _ _ b1), b2.ts (ts_same sA), hash_nd ndp (fun k hk => by have := b4 k hk; omega), fun d2 nd2 => ?_⟩
    have sB := same_new (o := dNO ktL P w d2 esp) nd2
    have sAB := same_trans sA sB
    have h1 : upd (upd H2 d1 (dNO ktL P w d1 esl)) d2 (dNO ktL P w d2 esp) d1 = some (dNO ktL P w d1 esl) := sB _ _ upd_same
    have h2 : upd (upd H2 d1 (dNO ktL P w d1 esl)) d2 (dNO ktL P w d2 esp) d2 = some (dNO ktL P w d2 esp) := upd_same
    have pA := pj.ts ((sAB _ _ pj.hp).trans pj.hp.symm) (ts_same (K := K) sAB)
    refine ⟨_, rfl, pl, PS, rfl, SqL.of pA.hp, pA.pa, by have := pA.ln; omega, fun H5 de ese s5 nde e1 e2 e3 e4 => fun x dx nx ndx nxx => ?_⟩
    have s6 : Same H5 (upd (upd H5 dx (.own x)) x (.ins C dx [])) := same_trans (same_new ndx) (same_new ((upd_ne (Ne.symm nxx)).trans nx))
    have hx6 : upd (upd H5 dx (.own x)) x (.ins C dx []) x = some (.ins C dx []) := upd_same
    have s26 := same_trans sAB (same_trans s5 s6)
    have s46 := same_trans s5 s6
    have hlt : ∀ k ∈ edK (PS.map (·.1)), k < n := fun k hk => by
      obtain ⟨q, hq, rfl⟩ := (mem_edK _).mp hk
      obtain ⟨e, he, e2⟩ := List.mem_map.mp (mem_sortP.mp hq)
      rw [← e2]
      exact (pj.lt e he).1
    have hlt2 : ∀ k j, j ∈ edG (PS.map (·.1)) k → j < n := fun k j hj => by
      obtain ⟨e, he, e2⟩ := List.mem_map.mp (mem_sortP.mp (mem_edG.mp hj))
      have := (pj.lt e he).2
      rw [e2] at this
      exact this
    have lps : (sortP (PS.map (·.1))).length ≤ 100 := by
      rw [len_sortP, List.length_map]
      have := pj.ln
      omega
    have hg1 : ∀ k, k ∉ edK (PS.map (·.1)) → edG (PS.map (·.1)) k = [] := fun k hk => edG_no hk
    have hg2 : ∀ k ∈ edK (PS.map (·.1)), edG (PS.map (·.1)) k ≠ [] := fun k hk e => by
      obtain ⟨q, hq, rfl⟩ := (mem_edK _).mp hk
      have : q.2 ∈ edG (PS.map (·.1)) q.1 := mem_edG.mpr hq
      rw [e] at this
      cases this
    refine ⟨x, dx, d1, d2, de, esl, esp, ese, n, esp.map (fun e : Nat × Addr × V => e.1), edK (PS.map (fun e : Pr × V => e.1)), edG (PS.map (fun e : Pr × V => e.1)), tx, rfl, hx6, s46 _ _ h1, a2.ts (ts_same s26), a3, a4, s46 _ _ h2, b2.ts (ts_same s26), rfl, ndp, b4, s6 _ _ e1, e2.ts (ts_same s6), e3, nd_edK _, hlt, fun e he => ?_, hg1, hlt2, Nat.le_trans (degs_le _ (nd_edK _) _) lps, fun k => Nat.le_trans edG_len lps, n16, fun H7 ex7 gr7 => ⟨rfl, ?_⟩⟩
    · obtain ⟨l, F, c1, c2, c3, c4⟩ := e4 e he
      exact ⟨l, F, c1, (GX.rs_same s6).sql c2, c3.ts (ts_same s6), c4⟩
    have s57 : Same H5 H7 := fun b o h => ex7 b o (fun e => by rw [e, nx] at h; cases h) (s6 b o h)
    have s27 := same_trans (same_trans sAB s5) s57
    have pB := pj.ts ((s27 _ _ pj.hp).trans pj.hp.symm) (ts_same (K := K) s27)
    refine ⟨_, rfl, pl, PS, n, rfl, SqL.of pB.hp, pB.pa, by have := pB.ln; omega, n16, pB.lt, fun H8 r s8 nr hR => ?_⟩
    have s28 := same_trans s27 s8
    have gr8 := gr7.same s8
    have st8 := st2.same s28
    have hT8 := tabG_same hT2 s28
    have p8 := pj.ts ((s28 _ _ pj.hp).trans pj.hp.symm) (ts_same (K := K) s28)
    have al8 := s28 _ _ a1
    have ak8 := a2.ts (ts_same (K := K) s28)
    have bl8 := s28 _ _ b1
    have bk8 := b2.ts (ts_same (K := K) s28)
    clear s28 pB s27 s57 gr7 ex7 hlt hlt2 lps hg1 hx6 s26 s46 s6 e1 e2 e3 e4 s5 nde nx ndx nxx s8 nr a1 a2 b1 b2 H7 H5 pj st2 pA h1 h2 sAB sA sB nd1 nd2 ndl hT2
    have hrR : ∀ i j, rS (edG (PS.map (·.1))) i j = true ↔ TG (fun a b => (a, b) ∈ PS.map (·.1)) i j ∧ ¬ TG (fun a b => (a, b) ∈ PS.map (·.1)) j i := fun i j => by
      rw [rS_iff, tg_iff, tg_iff]
    have so := so_rS (edG (PS.map (·.1)))
    have lkp : esp.length ≤ 10 := by
      have := nat_nodup_len ndp (m := List.range n) fun y hy => List.mem_range.mpr (b4 y hy)
      rw [List.length_map, List.length_range] at this
      omega
    refine ⟨Nat.zero_le _, fun oA noA => ?_⟩
    have sO := same_new (o := .lst []) noA
    have hoA : upd H8 oA (.lst []) oA = some (.lst []) := upd_same
    have noApc : oA ≠ p ∧ oA ≠ c := by
      obtain ⟨⟨_, e1⟩, ⟨_, e2⟩⟩ := st8.some
      exact ⟨fun e => (by rw [e, e1] at noA; cases noA), fun e => (by rw [e, e2] at noA; cases noA)⟩
    generalize upd H8 oA (.lst []) = H9 at sO hoA
    refine ⟨_, rfl, _, rfl, dp, esp, rfl, .inl (sO _ _ bl8), fun p2 np2 => ?_⟩
    have sP := same_new (o := .lst (esp.map fun e => V.ref e.2.1)) np2
    have eF1 : (esp.map fun e : Nat × Addr × V => (e.1, V.ref e.2.1)).map (·.1) = esp.map (·.1) := by rw [List.map_map]; rfl
    have eF2 : (esp.map fun e : Nat × Addr × V => (e.1, V.ref e.2.1)).map (·.2) = esp.map fun e => V.ref e.2.1 := by rw [List.map_map]; rfl
    have s8P := same_trans sO sP
    refine ⟨r, p2, _, rS (edG (PS.map (·.1))), esp.map fun e => (e.1, V.ref e.2.1), rfl, hR.rs (GX.rs_same s8P), hrR, so, by rw [eF2]; exact SqL.of upd_same, fun e he => ?_, by rw [eF1]; exact ndp, by rw [List.length_map]; exact lkp, fun pd HB FD s10 npd hpd hraw hRD hDr hDp => ?_⟩
    · obtain ⟨y, hy, rfl⟩ := List.mem_map.mp he
      exact ln_ts (ts_same s8P) (bk8 y hy)
    rw [eF1] at hDr
    have s8B := same_trans s8P s10
    have hoB := s10 _ _ (sP _ _ hoA)
    have grB := gr8.same s8B
    have stB := st8.same s8B
    have hTB := tabG_same hT8 s8B
    have pB := p8.ts ((s8B _ _ p8.hp).trans p8.hp.symm) (ts_same (K := K) s8B)
    have alB := s8B _ _ al8
    have akB := ak8.ts (ts_same (K := K) s8B)
    have blB := s8B _ _ bl8
    have bkB := bk8.ts (ts_same (K := K) s8B)
    have hRB := hR.rs (GX.rs_same s8B)
    have npB : ∀ {a : Addr}, HB a = none → a ≠ p ∧ a ≠ c := fun {a} h => by
      obtain ⟨⟨_, e1⟩, ⟨_, e2⟩⟩ := stB.some
      exact ⟨fun e => (by rw [e, e1] at h; cases h), fun e => (by rw [e, e2] at h; cases h)⟩
    clear gr8 st8 hT8 p8 al8 ak8 bl8 bk8 hR s8B s8P sP sO s10 hoA noA np2 npd eF1 eF2
    have lFl : (keysF FD).flatten.length ≤ 10 := by
      rw [hDr.perm.length_eq, List.length_map]
      exact lkp
    have lFD : FD.length ≤ 10 := by
      have h1 := flat_len hDr.ne
      have h3 : (keysF FD).length = FD.length := List.length_map _
      omega
    have hkF : ∀ k ∈ (keysF FD).flatten, k < n := fun k hk => b4 k (hDr.perm.mem_iff.mp hk)
    have ndF : (keysF FD).flatten.Nodup := hDr.perm.nodup_iff.mpr ndp
    have pre : ∀ m, ((keysF (FD.take m)).flatten).length ≤ 10 := fun m => by
      have h : (keysF FD).flatten = (keysF (FD.take m)).flatten ++ (keysF (FD.drop m)).flatten := by
        rw [← List.flatten_append]
        unfold keysF
        rw [← List.map_append, List.take_append_drop]
      have := congrArg List.length h
      rw [List.length_append] at this
      omega
    refine ⟨pd, rfl, ⟨_, SqL.of hpd⟩, ?_⟩
    refine for_list (xs := FD.map fun z => V.ref z.1) (fun m σ' H' => ∃ (y8 : Option V) (oa : Addr) (G : List (Nat × V)), σ' = [some (.ref sa), some (.ref p), some (.ref dl), some (.ref dp), some (.ref pl), some (.ref x), some (.ref r), some (.ref oa), y8, none, none, none, none, none, none, none, none, none, none] ∧ Same HB H' ∧ H' oa = some (.lst (G.map (·.2))) ∧ LAt K H' G ∧ G.map (·.1) = (keysF (FD.take m)).flatten ∧ oa ≠ p ∧ oa ≠ c)
      ⟨none, oA, [], rfl, same_refl, hoB, (fun _ h => nomatch h), rfl, noApc⟩ ?_ ?_ ?_
    · rintro m σ' H' _ ⟨_, _, _, _, s, _⟩
      exact SqL.of (s _ _ hpd)
    · rintro m v σ' HC hv ⟨y8, oa, G, rfl, sC, ho, lG, eG, _⟩
      obtain ⟨z, gz, rfl⟩ := map_get hv
      have hz := List.mem_of_getElem? gz
      have hzC := sC _ _ (hraw z hz)
      have lzC := (hRD.rs (GX.rs_same sC) z hz).2
      have ek : (keysF (FD.take (m + 1))).flatten = (keysF (FD.take m)).flatten ++ z.2.map (·.1) := by
        rw [List.take_add_one, gz]
        show (keysF (FD.take m ++ [z])).flatten = _
        rw [keysF_app, List.flatten_append]
        simp
      have l1 := pre (m + 1)
      rw [ek, List.length_append, ← eG, List.length_map, List.length_map] at l1
      dsimp only [gName]
      refine ⟨_, rfl, _, rfl, oa, z.1, _, _, rfl, rfl, ho, hzC, by rw [List.length_map, List.length_map]; omega, fun o2 no2 => ?_⟩
      have s2 := same_new (o := .lst (G.map (·.2) ++ z.2.map (·.2))) no2
      refine ⟨_, o2, G ++ z.2, rfl, same_trans sC s2, by rw [upd_same, List.map_append], fun e he => ?_, by rw [ek, List.map_append, eG], npB (same_none sC no2)⟩
      rcases List.mem_append.mp he with h | h
      · exact ln_ts (ts_same s2) (lG e h)
      · exact ln_ts (ts_same s2) (lzC e h)
    · rintro σ' HC ⟨y8, oa, G, rfl, sC, ho, lG, eG, hoa⟩
      rw [List.length_map, List.take_length] at eG
      have lG10 : G.length ≤ 10 := by
        have := congrArg List.length eG
        rw [List.length_map] at this
        omega
      have hRC := hRB.rs (GX.rs_same sC)
      clear hpd hraw hRD noApc pre
      -- the lines in circles
      refine ⟨Nat.zero_le _, fun D9 nD9 => ?_⟩
      have s9 := same_new (o := .lst []) nD9
      have hD9 : upd HC D9 (.lst []) D9 = some (.lst []) := upd_same
      generalize upd HC D9 (.lst []) = HE at s9 hD9
      dsimp only [gName]
      refine ⟨_, rfl, oa, rfl, ⟨_, SqL.of (s9 _ _ ho)⟩, ?_⟩
      refine for_list (xs := G.map (·.2)) (fun m σ' H' => ∃ (y10 y11 : Option V) (CL : List (Nat × V)), σ' = [some (.ref sa), some (.ref p), some (.ref dl), some (.ref dp), some (.ref pl), some (.ref x), some (.ref r), some (.ref oa), y8, some (.ref D9), y10, y11, none, none, none, none, none, none, none] ∧ Same HC H' ∧ H' D9 = some (.lst (CL.map (·.2))) ∧ LAt K H' CL ∧
        CL.map (·.1) = ((G.take m).map (·.1)).filter (fun k => (G.map (·.1)).any (ringB (TG fun a b => (a, b) ∈ PS.map (·.1)) k)) ∧ CL.length ≤ m) ⟨none, none, [], rfl, s9, hD9, (fun _ h => nomatch h), rfl, Nat.le_refl _⟩ ?_ ?_ ?_
      · rintro m σ' H' _ ⟨_, _, _, _, s, _⟩
        exact SqL.of (s _ _ ho)
      · rintro m v σ' H3 hv ⟨y10, y11, CL, rfl, s3, h3, l3, e3, n3⟩
        obtain ⟨⟨k, v⟩, ge, rfl⟩ := map_get hv
        have hem := List.mem_of_getElem? ge
        have hm : m < G.length := (List.getElem?_eq_some_iff.mp ge).1
        have dk3 : Dp K H3 v (encL k) := (lG.ts (ts_same s3)) _ hem
        obtain ⟨ka, rfl⟩ := ln_ref dk3
        have ef : ((G.take (m + 1)).map (·.1)).filter (fun k => (G.map (·.1)).any (ringB (TG fun a b => (a, b) ∈ PS.map (·.1)) k)) = ((G.take m).map (·.1)).filter (fun k => (G.map (·.1)).any (ringB (TG fun a b => (a, b) ∈ PS.map (·.1)) k)) ++ if (G.map (·.1)).any (ringB (TG fun a b => (a, b) ∈ PS.map (·.1)) k) = true then [k] else [] := by
          rw [List.take_add_one, ge, List.map_append, List.filter_append]
          show _ ++ List.filter _ [k] = _
          rw [List.filter_cons, List.filter_nil]
        dsimp only [gName]
        refine ⟨_, rfl, oa, rfl, ⟨_, SqL.of (s3 _ _ ho)⟩, fun D nD => ?_⟩
        refine lcF G (ringB (TG fun a b => (a, b) ∈ PS.map (·.1)) k) (SqL.of (s3 _ _ ho)) (by omega) nD (by intro _; rfl) (by intro _; rfl) (fun e he HF R sF kk => ?_) (fun HF sF hr => ?_)
        · have s03 := same_trans s3 sF
          have dj : Dp K HF e.2 (encL e.1) := (lG.ts (ts_same s03)) _ he
          obtain ⟨j, jv⟩ := e
          obtain ⟨ja, rfl⟩ := ln_ref dj
          have dk := ln_ts (ts_same sF) dk3
          have hRF := hRC.rs (GX.rs_same s03)
          have k0 := kk _ same_refl
          refine ⟨_, rfl, _, rfl, encL j, encL k, dj, dk, plain_L _, plain_L _, Nat.le_trans (ktL.dp j) (by decide), _, rfl, ?_⟩
          rw [eqv_L]
          refine ite2 (fun c1 => ?_) (fun c1 => ?_)
          · have c1 : j ≠ k := by simpa using c1
            refine ⟨_, rfl, _, rfl, _, rfl, r, ka, ja, _, k, j, rfl, hRF, dk, dj, fun b1 hb1 => ⟨_, rfl, ite2 (fun c2 => ?_) (fun c2 => ?_)⟩⟩
            · refine ⟨_, rfl, _, rfl, _, rfl, r, ja, ka, _, j, k, rfl, hRF, dj, dk, fun b2 hb2 => ⟨_, rfl, ?_⟩⟩
              refine to_dec ?_ k0
              rw [Bool.eq_iff_iff, ringB_iff]
              exact ⟨fun h => ⟨c1, hb1.mp c2, hb2.mp h⟩, fun h => hb2.mpr h.2.2⟩
            · exact to_dec (ringB_no fun h => c2 (hb1.mpr h.2.1)) k0
          · have c1 : ¬ j ≠ k := by simpa using c1
            exact to_dec (ringB_no fun h => c1 h.1) k0
        · have s03 := same_trans s3 sF
          have h3F := sF _ _ h3
          dsimp only [gName]
          refine ⟨_, rfl, D, _, rfl, .inl (SqL.of hr), _, _, rfl, rfl, _, rfl, ite2 (fun c => ?_) (fun c => ?_)⟩
          · have c := of_decide_eq_true c
            rw [List.length_map] at c
            have ha : (G.map (·.1)).any (ringB (TG fun a b => (a, b) ∈ PS.map (·.1)) k) = true := by
              obtain ⟨e, he⟩ := List.exists_mem_of_length_pos (by omega : 0 < (G.filter fun e => ringB (TG fun a b => (a, b) ∈ PS.map (·.1)) k e.1).length)
              obtain ⟨h1, h2⟩ := List.mem_filter.mp he
              exact List.any_eq_true.mpr ⟨e.1, List.mem_map.mpr ⟨e, h1, rfl⟩, h2⟩
            rw [if_pos ha] at ef
            refine ⟨_, rfl, .inl ⟨rfl, _, SqL.of h3F⟩, _, rfl, D9, CL.map (·.2), _, rfl, rfl, h3F, by rw [List.length_map]; omega, ?_⟩
            have t9 := ts_lst (K := K) (o := .lst (CL.map (·.2) ++ [.ref ka])) h3F
            refine ⟨_, _, CL ++ [(k, .ref ka)], rfl, same_upd nD9 s03, by rw [upd_same, List.map_append]; rfl, fun e he => ?_, by rw [ef, List.map_append, e3]; rfl, by rw [List.length_append]; show CL.length + 1 ≤ _; omega⟩
            rcases List.mem_append.mp he with h | h
            · exact ln_ts t9 (ln_ts (ts_same sF) (l3 e h))
            · rw [List.mem_singleton.mp h]
              exact ln_ts t9 (ln_ts (ts_same sF) dk3)
          · have c : ¬ ((0 : Int) < (((G.filter fun e => ringB (TG fun a b => (a, b) ∈ PS.map (·.1)) k e.1).map (·.2)).length : Int)) := fun h => c (decide_eq_true h)
            rw [List.length_map] at c
            have ha : ¬ (G.map (·.1)).any (ringB (TG fun a b => (a, b) ∈ PS.map (·.1)) k) = true := fun h => by
              obtain ⟨j, hj, h2⟩ := List.any_eq_true.mp h
              obtain ⟨e, he, rfl⟩ := List.mem_map.mp hj
              have := List.length_pos_of_mem (List.mem_filter.mpr ⟨he, h2⟩ : e ∈ G.filter fun e => ringB (TG fun a b => (a, b) ∈ PS.map (·.1)) k e.1)
              omega
            rw [if_neg ha, List.append_nil] at ef
            exact ⟨_, _, CL, rfl, s03, h3F, l3.ts (ts_same sF), by rw [ef]; exact e3, by omega⟩
      · rintro σ' HD ⟨y10, y11, CL, rfl, sD, hD, lC, eC, nC⟩
        rw [List.length_map, List.take_length, eG] at eC
        have sBD := same_trans sC sD
        have grD := grB.same sBD
        have hTD := tabG_same hTB sBD
        have stD := stB.same sBD
        have hoD := sD _ _ ho
        have lGD := lG.ts (ts_same (K := K) sD)
        have alD := sBD _ _ alB
        have akD := akB.ts (ts_same (K := K) sBD)
        have blD := sBD _ _ blB
        have bkD := bkB.ts (ts_same (K := K) sBD)
        have hRD := hRC.rs (GX.rs_same sD)
        have pD := pB.ts ((sBD _ _ pB.hp).trans pB.hp.symm) (ts_same (K := K) sBD)
        have n9pc : D9 ≠ p ∧ D9 ≠ c := by
          obtain ⟨⟨_, e1⟩, ⟨_, e2⟩⟩ := (stB.same sC).some
          exact ⟨fun e => (by rw [e, e1] at nD9; cases nD9), fun e => (by rw [e, e2] at nD9; cases nD9)⟩
        clear grB hTB stB ho lG alB akB blB bkB hRC hRB pB sC sD s9 nD9 hD9 sBD npB
        dsimp only [gName]
        refine ⟨_, rfl, x, n, _, _, _, tx, rfl, ⟨grD, b3, b4, n10⟩, hTD, fun d HF es R' tbF nd hd kd nde hes hB' => ?_⟩
        obtain rfl : keysF FD = R' := rows_eq so ndp hDr hB'.1 hDp hB'.2
        have rsF := tbF.rs hTD
        have notT : ∀ {a : Addr} {o : HO}, HD a = some o → (∀ ps, o ≠ .tbl ps) → a ≠ T1 := fun {a o} h ht e => by
          obtain ⟨ps, h2, _⟩ := hTD
          rw [e, h2] at h
          cases h
          exact ht _ rfl
        have hTF := tbF.tg
        obtain ⟨dx', _, _, _, _, _, _, _, _, hxD, _⟩ := grD.ex
        have grF := grD.rs rsF ((tbF.sm _ _ (notT hxD (fun _ h => nomatch h)) hxD).trans hxD.symm)
        have stF : StateAt HF p c := by
          obtain ⟨⟨o1, e1⟩, ⟨o2, e2⟩⟩ := stD.some
          exact stD.mono (fun o h => tbF.sm _ _ (notT e1 (fun _ h => nomatch h)) h) (fun o h => tbF.sm _ _ (notT e2 (fun _ h => nomatch h)) h)
        have hoF := tbF.sm _ _ (notT hoD (fun _ h => nomatch h)) hoD
        have hDF := tbF.sm _ _ (notT hD (fun _ h => nomatch h)) hD
        have plF := tbF.sm _ _ (notT pD.hp (fun _ h => nomatch h)) pD.hp
        have lGF := lGD.ts rsF.tst
        have lCF := lC.ts rsF.tst
        have alF := rsF.dn (.inl alD)
        have akF := akD.ts rsF.tst
        have blF := rsF.dn (.inl blD)
        have bkF := bkD.ts rsF.tst
        have hRF := hRD.rs rsF
        have pF := pD.ts (plF.trans pD.hp.symm) rsF.tst
        clear grD stD hoD hD lGD lC alD akD blD bkD hRD pD plF hxD rsF tbF notT hTD nd
        -- the lines in circles, twice
        have hmem : ∀ k, k ∈ es.map (·.1) ↔ k ∈ CL.map (·.1) := fun k => by
          rw [hes, circ_iff hDr, eC, List.mem_filter, List.any_eq_true]
          refine and_congr_right fun _ => ?_
          constructor
          · rintro ⟨j, hj, h1, h2, h3⟩
            exact ⟨j, hj, ringB_iff.mpr ⟨h1, (tg_iff _ _ _).mp h2, (tg_iff _ _ _).mp h3⟩⟩
          · rintro ⟨j, hj, h⟩
            obtain ⟨h1, h2, h3⟩ := ringB_iff.mp h
            exact ⟨j, hj, h1, (tg_iff _ _ _).mpr h2, (tg_iff _ _ _).mpr h3⟩
        have ndC : (CL.map (·.1)).Nodup := by
          rw [eC]
          exact ndF.filter _
        have pES : (es.map (·.1)).Perm (CL.map (·.1)) := (List.perm_ext_iff_of_nodup nde ndC).mpr hmem
        dsimp only [gName]
        refine or_dec (p := False) (q := False) (fun R k => ⟨_, rfl, d, es, rfl, .inl hd, _, rfl, to_dec rfl (k _ same_refl)⟩) (fun _ H1 s1 R k => ?_) fun HG sG => ite2 (fun c => absurd c (by simp)) fun _ => ?_
        · obtain ⟨al', so'⟩ := able_L (fun e : Nat × Addr × V => e.1) es
          refine ⟨_, rfl, d, es, rfl, .inl (s1 _ _ hd), kd.ts (ts_same s1), al', so', fun q1 nq1 => ?_⟩
          have s2 := same_new (o := .lst ((GX.sortN ktL es).map fun e => V.ref e.2.1)) nq1
          have sF2 := same_trans s1 s2
          obtain ⟨al2, so2⟩ := able_L (fun e : Nat × V => e.1) CL
          refine ⟨_, rfl, D9, CL.map (fun e : Nat × V => e.2), Nat × V, CL, fun e => encL e.1, fun v e => v = e.2 ∧ e ∈ CL, rfl, SqL.of (sF2 _ _ hDF), each_ps CL (fun _ h => h), fun v b hb => by rw [hb.1]; exact (lCF.ts (ts_same sF2)) _ hb.2, al2, so2, fun b _ => Nat.le_trans (dpk b.1) (by decide), fun ys pS hys npS => ?_⟩
          have ey := ps_each hys
          subst ey
          obtain ⟨pF', sF'⟩ := sort_L CL
          have s3 := same_new (o := .lst ((CL.mergeSort (dataLe false fun e : Nat × V => encL e.1)).map (·.2))) npS
          have sF3 := same_trans sF2 s3
          have d1 := dp_ls (K := K) (H := upd (upd H1 q1 (.lst ((GX.sortN ktL es).map fun e => V.ref e.2.1))) pS (.lst ((CL.mergeSort (dataLe false fun e : Nat × V => encL e.1)).map (·.2)))) (l := q1) (F := (GX.sortN ktL es).map fun e => (e.1, V.ref e.2.1)) (by rw [List.map_map]; exact SqL.of (s3 _ _ upd_same)) (fun e he => by
            obtain ⟨y, hy, rfl⟩ := List.mem_map.mp he
            exact ln_ts (ts_same sF3) (kd y (List.mem_mergeSort.mp hy)))
          have d2 := dp_ls (K := K) (H := upd (upd H1 q1 (.lst ((GX.sortN ktL es).map fun e => V.ref e.2.1))) pS (.lst ((CL.mergeSort (dataLe false fun e : Nat × V => encL e.1)).map (·.2)))) (l := pS) (F := CL.mergeSort (dataLe false fun e : Nat × V => encL e.1)) (SqL.of upd_same) (fun e he => ln_ts (ts_same sF3) (lCF e (pF'.mem_iff.mp he)))
          have e2 : (CL.mergeSort (dataLe false fun e : Nat × V => encL e.1)).map (·.1) = srtN (CL.map (·.1)) := srt_eq (pF'.map _) (by rw [List.pairwise_map]; exact sF')
          have e1 : ((GX.sortN ktL es).map fun e => (e.1, V.ref e.2.1)).map (·.1) = srtN (CL.map (·.1)) := by
            rw [List.map_map]
            refine srt_eq (((List.mergeSort_perm _ _).map _).trans pES) ?_
            rw [List.pairwise_map]
            unfold GX.sortN
            have e3 : (PySem.W.dataLe false fun e : Nat × Addr × V => ktL.enc e.1) = fun p q => decide (p.1 ≤ q.1) := le_L fun e : Nat × Addr × V => e.1
            rw [e3]
            have h4 := List.pairwise_mergeSort (le := fun p q : Nat × Addr × V => decide (p.1 ≤ q.1)) (fun a b c h1 h2 => decide_eq_true (Nat.le_trans (of_decide_eq_true h1) (of_decide_eq_true h2))) (fun a b => by
              rcases Nat.le_total a.1 b.1 with h | h <;> simp [h]) es
            exact h4.imp fun h => of_decide_eq_true h
          rw [e1] at d1
          rw [e2] at d2
          refine ⟨_, _, d1, d2, lsD_plain _, lsD_plain _, Nat.le_trans (lsD_dep _) (by decide), _, rfl, to_dec ?_ (k _ (same_trans s2 s3))⟩
          rw [PySem.SeqAt.eqv_refl_plain _ (lsD_plain _)]
          rfl
        · dsimp only [tNext]
          have eus : (G.map fun e => tx e.1).length = G.length := List.length_map _
          refine ⟨_, rfl, _, rfl, oa, rfl, ⟨_, SqL.of (sG _ _ hoF)⟩, fun D13 nD13 => ?_⟩
          refine lc_list (xs := G.map (·.2)) (fun m H' => Same HG H' ∧ H' D13 = some (.lst (((G.take m).map fun e => tx e.1).map V.str))) ⟨same_new nD13, upd_same⟩ ?_ ?_ ?_
          · rintro m H' _ ⟨s, _⟩
            exact SqL.of (s _ _ (sG _ _ hoF))
          · rintro m v H4 hv ⟨s4, h4⟩
            obtain ⟨⟨k, v⟩, ge, rfl⟩ := map_get hv
            have hem := List.mem_of_getElem? ge
            have hm : m < G.length := (List.getElem?_eq_some_iff.mp ge).1
            have sF4 := same_trans sG s4
            have dk : Dp K H4 v (encL k) := (lGF.ts (ts_same sF4)) _ hem
            obtain ⟨a, rfl⟩ := ln_ref dk
            have hkn : k < n := hkF k (by rw [← eG]; exact List.mem_map.mpr ⟨_, hem, rfl⟩)
            obtain ⟨b, hb⟩ := txts_at a4 (k := k) (by rw [a3]; exact List.mem_range.mpr hkn)
            refine ⟨rfl, _, rfl, _, rfl, dl, a, esl, k, _, rfl, rfl, (GX.rs_same sF4).dn alF, akF.ts (ts_same sF4), dk, hb, ?_⟩
            refine ⟨_, h4, by rw [List.length_map, List.length_map, List.length_take]; omega, same_upd nD13 s4, ?_⟩
            rw [upd_same, List.take_add_one, ge, List.map_append, List.map_append]
            rfl
          · rintro HI ⟨sI, h13⟩
            rw [List.length_map, List.take_length] at h13
            have sFI := same_trans sG sI
            have stI := stF.same sFI
            have n13 : D13 ≠ p ∧ D13 ≠ c := by
              obtain ⟨⟨_, e1⟩, ⟨_, e2⟩⟩ := (stF.same sG).some
              exact ⟨fun e => (by rw [e, e1] at nD13; cases nD13), fun e => (by rw [e, e2] at nD13; cases nD13)⟩
            refine ⟨p, c, D13, G.map (fun e => tx e.1), rfl, stI, h13, n13.1, n13.2, by omega, fun HW tp ts dW ntp htp lts => ?_⟩
            have sD := DT.of (K := K) stI dW.ou
            have grW := (grF.same sFI).dt stI dW.ou hg2
            have hoW := dW.ou _ _ hoa.1 hoa.2 (sFI _ _ hoF)
            have hDW := dW.ou _ _ n9pc.1 n9pc.2 (sFI _ _ hDF)
            have lGW := (lGF.ts (ts_same sFI)).ts sD.t
            have lCW := (lCF.ts (ts_same sFI)).ts sD.t
            have alW := sD.dn ((GX.rs_same sFI).dn alF)
            have akW := (akF.ts (ts_same sFI)).ts sD.t
            have blW := sD.dn ((GX.rs_same sFI).dn blF)
            have bkW := (bkF.ts (ts_same sFI)).ts sD.t
            have hRW := (hRF.rs (GX.rs_same sFI)).dt sD
            have plI := sFI _ _ pF.hp
            have pW := pF.ts ((dW.ou _ _ npl1 npl2 plI).trans pF.hp.symm) ((ts_same (K := K) sFI).trans sD.t)
            have hTW : TabG HW T1 := by
              obtain ⟨⟨x1, e1⟩, ⟨x2, e2⟩⟩ := stI.some
              obtain ⟨ps, h, k⟩ := tabG_same hTF sFI
              exact ⟨ps, dW.ou _ _ (fun e => by rw [e, e1] at h; cases h) (fun e => by rw [e, e2] at h; cases h) h, k⟩
            clear grF stF hoF hDF lGF lCF alF akF blF bkF hRF pF plI hTF sG sI h13 n13 stI dW sD nD13 sFI hd kd eus
            dsimp only [gName]
            -- the law's own steps
            refine ⟨_, rfl, oa, rfl, ⟨_, SqL.of hoW⟩, fun D14 nD14 => ?_⟩
            refine lc_list (xs := G.map (·.2)) (fun m H' => Same HW H' ∧ H' D14 = some (.lst ((xsOf (CL.map (·.1)) tx ((G.take m).map (·.1))).map lnV))) ⟨same_new nD14, upd_same⟩ ?_ ?_ ?_
            · rintro m H' _ ⟨s, _⟩
              exact SqL.of (s _ _ hoW)
            · rintro m v H4 hv ⟨s4, h4⟩
              obtain ⟨⟨k, v⟩, ge, rfl⟩ := map_get hv
              have hem := List.mem_of_getElem? ge
              have hm : m < G.length := (List.getElem?_eq_some_iff.mp ge).1
              have dk : Dp K H4 v (encL k) := (lGW.ts (ts_same s4)) _ hem
              obtain ⟨a, rfl⟩ := ln_ref dk
              have hkn : k < n := hkF k (by rw [← eG]; exact List.mem_map.mpr ⟨_, hem, rfl⟩)
              have ex : (xsOf (CL.map (·.1)) tx ((G.take (m + 1)).map (·.1))).map lnV = (xsOf (CL.map (·.1)) tx ((G.take m).map (·.1))).map lnV ++ [lnV (if k ∈ CL.map (·.1) then none else some (tx k))] := by
                rw [List.take_add_one, ge, List.map_append]
                unfold xsOf
                rw [List.map_append, List.map_append]
                rfl
              have lx : ((xsOf (CL.map (·.1)) tx ((G.take m).map (·.1))).map lnV).length ≤ 10 := by
                unfold xsOf
                rw [List.length_map, List.length_map, List.length_map, List.length_take]
                omega
              refine ⟨rfl, _, rfl, _, rfl, encL k, (CL.map (·.1)).map encL, dk, .lst (SqL.of (s4 _ _ hDW)) (dpAll_L (lCW.ts (ts_same s4))), shaped_L k, shaped_Ls _, _, rfl, ?_⟩
              rw [any_L]
              refine ite2 (fun c => ?_) (fun c => ?_)
              · have c := of_decide_eq_true c
                exact ⟨_, h4, by omega, same_upd nD14 s4, by rw [upd_same, ex, if_pos c]; rfl⟩
              · have c := fun h => c (decide_eq_true h)
                obtain ⟨b, hb⟩ := txts_at a4 (k := k) (by rw [a3]; exact List.mem_range.mpr hkn)
                refine ⟨_, rfl, _, rfl, dl, a, esl, k, _, rfl, rfl, (GX.rs_same s4).dn alW, akW.ts (ts_same s4), dk, hb, ?_⟩
                exact ⟨_, h4, by omega, same_upd nD14 s4, by rw [upd_same, ex, if_neg c]; rfl⟩
            · rintro HX ⟨sX, h14⟩
              rw [List.length_map, List.take_length, eG] at h14
              have lxs : (xsOf (CL.map (·.1)) tx (keysF FD).flatten).length = (keysF FD).flatten.length := by
                unfold xsOf
                exact List.length_map _
              have htpX := sX _ _ htp
              refine ⟨_, rfl, D14, tp, xsOf (CL.map (·.1)) tx (keysF FD).flatten, ts, rfl, h14, htpX, by omega, by omega, fun HY tt sp ps sY ntt htt nsp hsp hst eps => ⟨tt, _, rfl, SqT.of htt, rfl, _, _, rfl, _, _, rfl, rfl, ?_⟩⟩
              have sWY := same_trans sX sY
              -- the file
              refine ⟨Nat.zero_le _, fun t1 n1 => ⟨by show 3 ≤ sizeLine; omega, fun t2 n2 => ⟨by show 3 ≤ sizeLine; omega, fun t3 n3 => ⟨by show 3 ≤ sizeLine; omega, fun t4 n4 => ?_⟩⟩⟩⟩
              have sZ1 := same_new (o := .tup []) n1
              have sZ2 := same_new (o := .tup [.str "label", .int 0, .ref t1]) n2
              have sZ3 := same_new (o := .tup [.ref t2, .str "ann", .int 1]) n3
              have sZ4 := same_new (o := .tup [.ref t3, .int 0, .int 0]) n4
              have sYZ := same_trans sZ1 (same_trans sZ2 (same_trans sZ3 sZ4))
              have e1 := sZ4 _ _ (sZ3 _ _ (sZ2 _ _ (upd_same (H := HY) (a := t1) (o := .tup []))))
              have e2 := sZ4 _ _ (sZ3 _ _ (upd_same (H := upd HY t1 (.tup [])) (a := t2) (o := .tup [.str "label", .int 0, .ref t1])))
              have e3 := sZ4 _ _ (upd_same (H := upd (upd HY t1 (.tup [])) t2 (.tup [.str "label", .int 0, .ref t1])) (a := t3) (o := .tup [.ref t2, .str "ann", .int 1]))
              have hfl : Dp K (upd (upd (upd (upd HY t1 (.tup [])) t2 (.tup [.str "label", .int 0, .ref t1])) t3 (.tup [.ref t2, .str "ann", .int 1])) t4 (.tup [.ref t3, .int 0, .int 0])) (.ref t4) fileD :=
                .tup (SqT.of upd_same) (.cons (.tup (SqT.of e3) (.cons (.tup (SqT.of e2) (.cons (.str _) (.cons (.int _) (.cons (.tup (SqT.of e1) .nil) .nil)))) (.cons (.str _) (.cons (.int _) .nil)))) (.cons (.int _) (.cons (.int _) .nil)))
              generalize upd (upd (upd (upd HY t1 (.tup [])) t2 (.tup [.str "label", .int 0, .ref t1])) t3 (.tup [.ref t2, .str "ann", .int 1])) t4 (.tup [.ref t3, .int 0, .int 0]) = HZ at sYZ hfl
              clear e1 e2 e3 sZ1 sZ2 sZ3 sZ4
              have sWZ := same_trans sWY sYZ
              have grZ := grW.same sWZ
              have hTZ := tabG_same hTW sWZ
              have htpZ := sWZ _ _ htp
              dsimp only [gName]
              -- the program's changes
              refine ⟨_, rfl, _, rfl, _, rfl, tp, _, rfl, .inl (SqL.of htpZ), fun D17 nD17 => ?_⟩
              have s17 := same_new (o := .lst (ts.map V.str)) nD17
              have hT17 := tabG_same hTZ s17
              have sW17 := same_trans sWZ s17
              have sY17 := same_trans sYZ s17
              refine ⟨x, D17, .ref t4, n, _, _, _, tx, ts, rfl, ⟨grZ.same s17, b3, b4, n10⟩, hT17, GX.Dp.rs (GX.rs_same s17) _ _ hfl, upd_same, by omega, fun qw HA R2 cs tbA hB2 hcs dw => ?_⟩
              obtain rfl : keysF FD = R2 := rows_eq so ndp hDr hB2.1 hDp hB2.2
              have rsA := tbA.rs hT17
              have notA : ∀ {a : Addr} {o : HO}, upd HZ D17 (.lst (ts.map V.str)) a = some o → (∀ ps, o ≠ .tbl ps) → a ≠ T1 := fun {a o} h ht e => by
                obtain ⟨ps, h2, _⟩ := hT17
                rw [e, h2] at h
                cases h
                exact ht _ rfl
              have spZ := sY17 _ _ hsp
              have spA := tbA.sm _ _ (notA spZ (fun _ h => nomatch h)) spZ
              have stA : StepsL HA ps := fun y hy => by
                have h := sY17 _ _ (hst y hy)
                exact tbA.sm _ _ (notA h (fun ps e => by obtain ⟨l, hl⟩ := stepO_tup y.2; rw [hl] at e; cases e)) h
              have rsW := (GX.rs_same sW17).trans rsA
              have dfA := GX.Dp.rs ((GX.rs_same s17).trans rsA) _ _ hfl
              have okS := steps_ok (xsOf (CL.map (·.1)) tx (keysF FD).flatten) ts
              rw [← eps, lxs, ← eG, List.length_map] at okS
              have lps : ps.length ≤ 100 := by
                have h := steps_len (xs := xsOf (CL.map (·.1)) tx (keysF FD).flatten) (ys := ts) _ 0 0 (Nat.le_refl _)
                rw [← eps, List.length_map] at h
                omega
              refine ⟨_, rfl, _, rfl, _, rfl, _, rfl, _, rfl, .ref t4, r, oa, sp, tp, _, rS (edG (PS.map (·.1))), G, ts, ps, rfl, dfA, hRW.rs rsW, hrR, rsW.sql (SqL.of hoW), lGW.ts rsW.tst, spA, stA, rsW.sql (SqL.of htp), okS, lps, by omega, fun HF2 qc sF2 dc => ?_⟩
              have ecs : ∀ k, k ∈ cs ↔ k ∈ CL.map (·.1) := fun k => (hcs k).trans ((hes k).symm.trans (hmem k))
              rw [xsOf_eq ecs] at dw
              rw [eG, eps] at dc
              refine ⟨_, _, GX.Dp.rs (GX.rs_same sF2) _ _ dw, dc, chsD_plain _, chsD_plain _, chsD_dep _, _, rfl, ?_⟩
              rw [PySem.SeqAt.eqv_refl_plain _ (chsD_plain _)]
              refine ite2 (fun c => absurd c (by decide)) fun _ => ?_
              -- nothing was changed
              have rsL := rsW.trans (GX.rs_same sF2)
              have grL : GrAt P w K C HF2 x n (esp.map (fun e : Nat × Addr × V => e.1)) (edK (PS.map (fun e : Pr × V => e.1))) (edG (PS.map (fun e : Pr × V => e.1))) tx := by
                have h := grZ.same s17
                obtain ⟨dx', _, _, _, _, _, _, _, _, hx, _⟩ := h.ex
                exact (h.rs rsA ((tbA.sm _ _ (notA hx (fun _ h => nomatch h)) hx).trans hx.symm)).same sF2
              have plZ := sW17 _ _ pW.hp
              have plL := sF2 _ _ (tbA.sm _ _ (notA plZ (fun _ h => nomatch h)) plZ)
              have pL := pW.ts (plL.trans pW.hp.symm) rsL.tst
              obtain ⟨dx', al, ap, ae, _, _, _, _, _, hxL, ⟨esT, t1', t2', t3', t4'⟩, ⟨esP, p1', p2', p3', p4'⟩, ⟨esE, u1, u2, u3, u4⟩, _⟩ := grL.ex
              dsimp only [tNext]
              refine ⟨_, rfl, x, C, dx', _, _, rfl, hxL, T.cl, T.n1, gr_lines, _, rfl, al, dl, esT, esl, fun k => .str (tx k), fun k => .str (tx k), rfl, rfl, t1', rsL.dn alW, t2', akW.ts rsL.tst, fun e he => ⟨by rw [t4' e he]; exact .str _, rfl, by show 0 ≤ 40; omega⟩, fun e he => ⟨by rw [a4 e he]; exact .str _, rfl, by show 0 ≤ 40; omega⟩, _, rfl, ?_⟩
              rw [same_true (t3'.trans a3.symm) (fun k => rfl)]
              refine ite2 (fun _ => ?_) (fun c => absurd rfl c)
              refine ⟨_, rfl, x, C, dx', _, _, rfl, hxL, T.cl, T.n2, gr_present, _, rfl, ap, dp, esP, esp, fun k => .bool true, fun k => .bool true, rfl, rfl, p1', rsL.dn blW, p2', bkW.ts rsL.tst, fun e he => ⟨by rw [p4' e he]; exact .bl _, rfl, by show 0 ≤ 40; omega⟩, fun e he => ⟨by rw [b5 e he]; exact .bl _, rfl, by show 0 ≤ 40; omega⟩, _, rfl, ?_⟩
              rw [same_true p3' (fun k => rfl)]
              refine ite2 (fun _ => ?_) (fun c => absurd rfl c)
              refine ⟨_, rfl, x, C, dx', _, _, rfl, hxL, T.cl, T.n3, gr_edges, _, rfl, pl, PS, rfl, SqL.of pL.hp, pL.pa, by have := pL.ln; omega, fun HQ de2 ese2 sQ nde2 f1 f2 f3 f4 => ?_⟩
              have rsQ := GX.rs_same sQ
              refine ⟨ae, de2, esE, ese2, fun k => lsD (edG (PS.map (·.1)) k), fun k => lsD (edG (PS.map (·.1)) k), rfl, rfl, rsQ.dn u1, .inl f1, u2.ts rsQ.tst, f2, fun e he => ⟨?_, lsD_plain _, lsD_dep _⟩, fun e he => ⟨?_, lsD_plain _, lsD_dep _⟩, ?_⟩
              · obtain ⟨l, F, g1, g2, g3, g4⟩ := u4 e he
                rw [g1]
                have := dp_ls (rsQ.sql g2) (g3.ts rsQ.tst)
                rw [g4] at this
                exact this
              · obtain ⟨l, F, g1, g2, g3, g4⟩ := f4 e he
                rw [g1]
                have := dp_ls g2 g3
                rw [g4] at this
                exact this
              · rw [same_true (u3.trans f3.symm) (fun k => lsD_plain _)]
                exact q _
end
end K12
namespace K12
open PySem PySem.Spec PyProof.Rows L2 TR QR
theorem all_mk {l : PySem.W.OpenLaw} {q : Program} {w : World} {K : PySem.W.Frag} {h : Heap} {mg : Str → Option Value} {fa : Addr} (X : K.In h) (G : h.Ns mainGlobals mg) (hfa : mg "law" = some (.ref fa)) (tabs : GX.AllTabs q K mg h) (hrecT1 : ((recsOf q).any fun e => e.name == ("in_circles" : Str)) = true)
    {fFI fMA fBA fBI fWG fFF fIO fBL fST fD fP fGR fRE fLB fLS fLK fIC fWI fXM fDU fED fKB fSB fSW fIP fCC fGC fGA fWA fCH fLAW : Addr} {odFI anFI odMA anMA odBA anBA odBI anBI odWG anWG odFF anFF odIO anIO odBL anBL odST anST odD anD odP anP odGR anGR odRE anRE odLB anLB odLS anLS odLK anLK odIC anIC odWI anWI odXM anXM odDU anDU odED anED odKB anKB odSB anSB odSW anSW odIP anIP odCC anCC odGC anGC odGA anGA odWA anWA odCH anCH odLAW anLAW : Option Addr} {slFI slMA slBA slBI slWG slFF slIO slBL slST slD slP slGR slRE slLB slLS slLK slIC slWI slXM slDU slED slKB slSB slSW slIP slCC slGC slGA slWA slCH slLAW : Array (Option Value)}
    {ocFI kVFI dcFI pmFI ctFI cdFI ocMA kVMA dcMA pmMA ctMA cdMA ocBA kVBA dcBA pmBA ctBA cdBA ocBI kVBI dcBI pmBI ctBI cdBI ocWG kVWG dcWG pmWG ctWG cdWG ocFF kVFF dcFF pmFF ctFF cdFF ocIO kVIO dcIO pmIO ctIO cdIO ocBL kVBL dcBL pmBL ctBL cdBL ocST kVST dcST pmST ctST cdST ocD kVD dcD pmD ctD cdD ocP kVP dcP pmP ctP cdP ocGR kVGR dcGR pmGR ctGR cdGR ocRE kVRE dcRE pmRE ctRE cdRE ocLB kVLB dcLB pmLB ctLB cdLB ocLS kVLS dcLS pmLS ctLS cdLS ocLK kVLK dcLK pmLK ctLK cdLK ocIC kVIC dcIC pmIC ctIC ocWI kVWI dcWI pmWI ctWI cdWI ocXM kVXM dcXM pmXM ctXM cdXM ocDU kVDU dcDU pmDU ctDU cdDU ocED kVED dcED pmED ctED cdED ocKB kVKB dcKB pmKB ctKB cdKB ocSB kVSB dcSB pmSB ctSB cdSB ocSW kVSW dcSW pmSW ctSW cdSW ocIP kVIP dcIP pmIP ctIP cdIP ocCC kVCC dcCC pmCC ctCC cdCC ocGC kVGC dcGC pmGC ctGC cdGC ocGA kVGA dcGA pmGA ctGA cdGA ocWA kVWA dcWA pmWA ctWA cdWA ocCH kVCH dcCH pmCH ctCH cdCH ocLAW kVLAW dcLAW pmLAW ctLAW cdLAW : Value}
    {cIC T1 : Addr} {eIC : Value} {ddIC : Option Addr} {vsIC : Array Value} {ssIC : Array (Option Value)}
    {kMC : Tok}
    {CG fIN fMB fMS fML fMO fMH fMF : Addr} {odIN anIN odMB anMB odMS anMS odML anML odMO anMO odMH anMH odMF anMF : Option Addr} {slIN slMB slMS slML slMO slMH slMF : Array (Option Value)} {ocIN kVIN dcIN pmIN ctIN cdIN ocMB kVMB dcMB pmMB ctMB cdMB ocMS kVMS dcMS pmMS ctMS cdMS ocML kVML dcML pmML ctML cdML ocMO kVMO dcMO pmMO ctMO cdMO ocMH kVMH dcMH pmMH ctMH cdMH ocMF kVMF dcMF pmMF ctMF cdMF : Value}
    (nCG : PySem.W.nsIn K mainGlobals "FileGraph" = some (some (.ref CG))) (pgCG : PySem.W.plainGet K CG Str.empty = true) (hdCG : PySem.W.hasDictIn K CG = true) (poCG : PySem.W.plainOver K CG = true) (saCG : PySem.W.findIn K (.ref CG) "__setattr__" = some (some (.builtin "object.__setattr__"))) (mkCG : PySem.W.makesIn K CG = true) (kpCG : PySem.W.keepIn K (.ref CG) = true)
    (no_lines : PySem.W.findIn K (.ref CG) "lines" = some none)
    (no_present : PySem.W.findIn K (.ref CG) "present" = some none)
    (no_edges : PySem.W.findIn K (.ref CG) "edges" = some none)
    (no_bits : PySem.W.findIn K (.ref CG) "bits" = some none)
    (no_later : PySem.W.findIn K (.ref CG) "later" = some none)
    (no_earlier : PySem.W.findIn K (.ref CG) "earlier" = some none)
    (aIN : PySem.W.findIn K (.ref CG) "__init__" = some (some (.ref fIN))) (iIN : PySem.W.isFn K (.ref fIN) = true)
    (lIN : K.lookup fIN = some ⟨ocIN, odIN, .func (PySem.W.fnOf "__init__" "FileGraph.__init__" (defArgs (sCls 0)) (defBody (sCls 0)) (defScope (sCls 0)) .none kVIN dcIN pmIN anIN cdIN ctIN), slIN⟩)
    (cIN1 : PySem.W.codeIn K cdIN "FileGraph.__init__" = true) (kIN1 : PySem.W.keepIn K (.ref fIN) = true)
    (aMB : PySem.W.findIn K (.ref CG) "before" = some (some (.ref fMB))) (iMB : PySem.W.isFn K (.ref fMB) = true)
    (lMB : K.lookup fMB = some ⟨ocMB, odMB, .func (PySem.W.fnOf "before" "FileGraph.before" (defArgs (sCls 1)) (defBody (sCls 1)) (defScope (sCls 1)) .none kVMB dcMB pmMB anMB cdMB ctMB), slMB⟩)
    (cMB1 : PySem.W.codeIn K cdMB "FileGraph.before" = true) (kMB1 : PySem.W.keepIn K (.ref fMB) = true)
    (aMS : PySem.W.findIn K (.ref CG) "strictly" = some (some (.ref fMS))) (iMS : PySem.W.isFn K (.ref fMS) = true)
    (lMS : K.lookup fMS = some ⟨ocMS, odMS, .func (PySem.W.fnOf "strictly" "FileGraph.strictly" (defArgs (sCls 2)) (defBody (sCls 2)) (defScope (sCls 2)) .none kVMS dcMS pmMS anMS cdMS ctMS), slMS⟩)
    (cMS1 : PySem.W.codeIn K cdMS "FileGraph.strictly" = true) (kMS1 : PySem.W.keepIn K (.ref fMS) = true)
    (aML : PySem.W.findIn K (.ref CG) "present_lines" = some (some (.ref fML))) (iML : PySem.W.isFn K (.ref fML) = true)
    (lML : K.lookup fML = some ⟨ocML, odML, .func (PySem.W.fnOf "present_lines" "FileGraph.present_lines" (defArgs (sCls 4)) (defBody (sCls 4)) (defScope (sCls 4)) .none kVML dcML pmML anML cdML ctML), slML⟩)
    (cML1 : PySem.W.codeIn K cdML "FileGraph.present_lines" = true) (kML1 : PySem.W.keepIn K (.ref fML) = true)
    (aMO : PySem.W.findIn K (.ref CG) "mask_of" = some (some (.ref fMO))) (iMO : PySem.W.isFn K (.ref fMO) = true)
    (lMO : K.lookup fMO = some ⟨ocMO, odMO, .func (PySem.W.fnOf "mask_of" "FileGraph.mask_of" (defArgs (sCls 5)) (defBody (sCls 5)) (defScope (sCls 5)) .none kVMO dcMO pmMO anMO cdMO ctMO), slMO⟩)
    (cMO1 : PySem.W.codeIn K cdMO "FileGraph.mask_of" = true) (kMO1 : PySem.W.keepIn K (.ref fMO) = true)
    (aMH : PySem.W.findIn K (.ref CG) "mask_behind" = some (some (.ref fMH))) (iMH : PySem.W.isFn K (.ref fMH) = true)
    (lMH : K.lookup fMH = some ⟨ocMH, odMH, .func (PySem.W.fnOf "mask_behind" "FileGraph.mask_behind" (defArgs (sCls 6)) (defBody (sCls 6)) (defScope (sCls 6)) .none kVMH dcMH pmMH anMH cdMH ctMH), slMH⟩)
    (cMH1 : PySem.W.codeIn K cdMH "FileGraph.mask_behind" = true) (kMH1 : PySem.W.keepIn K (.ref fMH) = true)
    (aMF : PySem.W.findIn K (.ref CG) "mask_in_front" = some (some (.ref fMF))) (iMF : PySem.W.isFn K (.ref fMF) = true)
    (lMF : K.lookup fMF = some ⟨ocMF, odMF, .func (PySem.W.fnOf "mask_in_front" "FileGraph.mask_in_front" (defArgs (sCls 7)) (defBody (sCls 7)) (defScope (sCls 7)) .none kVMF dcMF pmMF anMF cdMF ctMF), slMF⟩)
    (cMF1 : PySem.W.codeIn K cdMF "FileGraph.mask_in_front" = true) (kMF1 : PySem.W.keepIn K (.ref fMF) = true)
    (aFI : PySem.W.nsIn K mainGlobals "finished" = some (some (.ref fFI)))
    (lFI : K.lookup fFI = some ⟨ocFI, odFI, .func (PySem.W.fnOf "finished" "finished" (defArgs sFI) (defBody sFI) (defScope sFI) .none kVFI dcFI pmFI anFI cdFI ctFI), slFI⟩)
    (cFI1 : PySem.W.codeIn K cdFI "finished" = true) (kFI1 : PySem.W.keepIn K (.ref fFI) = true)
    (aMA : PySem.W.nsIn K mainGlobals "masks_along" = some (some (.ref fMA)))
    (lMA : K.lookup fMA = some ⟨ocMA, odMA, .func (PySem.W.fnOf "masks_along" "masks_along" (defArgs sMA) (defBody sMA) (defScope sMA) .none kVMA dcMA pmMA anMA cdMA ctMA), slMA⟩)
    (cMA1 : PySem.W.codeIn K cdMA "masks_along" = true) (kMA1 : PySem.W.keepIn K (.ref fMA) = true)
    (aBA : PySem.W.nsIn K mainGlobals "backwards" = some (some (.ref fBA)))
    (lBA : K.lookup fBA = some ⟨ocBA, odBA, .func (PySem.W.fnOf "backwards" "backwards" (defArgs sBA) (defBody sBA) (defScope sBA) .none kVBA dcBA pmBA anBA cdBA ctBA), slBA⟩)
    (cBA1 : PySem.W.codeIn K cdBA "backwards" = true) (kBA1 : PySem.W.keepIn K (.ref fBA) = true)
    (aBI : PySem.W.nsIn K mainGlobals "many_bits" = some (some (.ref fBI)))
    (lBI : K.lookup fBI = some ⟨ocBI, odBI, .func (PySem.W.fnOf "many_bits" "many_bits" (defArgs sBI) (defBody sBI) (defScope sBI) .none kVBI dcBI pmBI anBI cdBI ctBI), slBI⟩)
    (cBI1 : PySem.W.codeIn K cdBI "many_bits" = true) (kBI1 : PySem.W.keepIn K (.ref fBI) = true)
    (aWG : PySem.W.nsIn K mainGlobals "weights" = some (some (.ref fWG)))
    (lWG : K.lookup fWG = some ⟨ocWG, odWG, .func (PySem.W.fnOf "weights" "weights" (defArgs sWG) (defBody sWG) (defScope sWG) .none kVWG dcWG pmWG anWG cdWG ctWG), slWG⟩)
    (cWG1 : PySem.W.codeIn K cdWG "weights" = true) (kWG1 : PySem.W.keepIn K (.ref fWG) = true)
    (aFF : PySem.W.nsIn K mainGlobals "first_free" = some (some (.ref fFF)))
    (lFF : K.lookup fFF = some ⟨ocFF, odFF, .func (PySem.W.fnOf "first_free" "first_free" (defArgs sFF) (defBody sFF) (defScope sFF) .none kVFF dcFF pmFF anFF cdFF ctFF), slFF⟩)
    (cFF1 : PySem.W.codeIn K cdFF "first_free" = true) (kFF1 : PySem.W.keepIn K (.ref fFF) = true)
    (aIO : PySem.W.nsIn K mainGlobals "in_order" = some (some (.ref fIO)))
    (lIO : K.lookup fIO = some ⟨ocIO, odIO, .func (PySem.W.fnOf "in_order" "in_order" (defArgs sIO) (defBody sIO) (defScope sIO) .none kVIO dcIO pmIO anIO cdIO ctIO), slIO⟩)
    (cIO1 : PySem.W.codeIn K cdIO "in_order" = true) (kIO1 : PySem.W.keepIn K (.ref fIO) = true)
    (aBL : PySem.W.nsIn K mainGlobals "blocks" = some (some (.ref fBL)))
    (lBL : K.lookup fBL = some ⟨ocBL, odBL, .func (PySem.W.fnOf "blocks" "blocks" (defArgs sBL) (defBody sBL) (defScope sBL) .none kVBL dcBL pmBL anBL cdBL ctBL), slBL⟩)
    (cBL1 : PySem.W.codeIn K cdBL "blocks" = true) (kBL1 : PySem.W.keepIn K (.ref fBL) = true)
    (aST : PySem.W.nsIn K mainGlobals "_law_state" = some (some (.ref fST)))
    (lST : K.lookup fST = some ⟨ocST, odST, .func (PySem.W.fnOf "_law_state" "_law_state" (defArgs sState) (defBody sState) (defScope sState) .none kVST dcST pmST anST cdST ctST), slST⟩)
    (cST1 : PySem.W.codeIn K cdST "_law_state" = true) (kST1 : PySem.W.keepIn K (.ref fST) = true)
    (aD : PySem.W.nsIn K mainGlobals "_law_draw" = some (some (.ref fD)))
    (lD : K.lookup fD = some ⟨ocD, odD, .func (PySem.W.fnOf "_law_draw" "_law_draw" (defArgs sDraw) (defBody sDraw) (defScope sDraw) .none kVD dcD pmD anD cdD ctD), slD⟩)
    (cD1 : PySem.W.codeIn K cdD "_law_draw" = true) (kD1 : PySem.W.keepIn K (.ref fD) = true)
    (aP : PySem.W.nsIn K mainGlobals "_law_pick" = some (some (.ref fP)))
    (lP : K.lookup fP = some ⟨ocP, odP, .func (PySem.W.fnOf "_law_pick" "_law_pick" (defArgs sPick) (defBody sPick) (defScope sPick) .none kVP dcP pmP anP cdP ctP), slP⟩)
    (cP1 : PySem.W.codeIn K cdP "_law_pick" = true) (kP1 : PySem.W.keepIn K (.ref fP) = true)
    (aGR : PySem.W.nsIn K mainGlobals "_law_graph" = some (some (.ref fGR)))
    (lGR : K.lookup fGR = some ⟨ocGR, odGR, .func (PySem.W.fnOf "_law_graph" "_law_graph" (defArgs sGR) (defBody sGR) (defScope sGR) .none kVGR dcGR pmGR anGR cdGR ctGR), slGR⟩)
    (cGR1 : PySem.W.codeIn K cdGR "_law_graph" = true) (kGR1 : PySem.W.keepIn K (.ref fGR) = true)
    (aRE : PySem.W.nsIn K mainGlobals "_law_reach" = some (some (.ref fRE)))
    (lRE : K.lookup fRE = some ⟨ocRE, odRE, .func (PySem.W.fnOf "_law_reach" "_law_reach" (defArgs sRE) (defBody sRE) (defScope sRE) .none kVRE dcRE pmRE anRE cdRE ctRE), slRE⟩)
    (cRE1 : PySem.W.codeIn K cdRE "_law_reach" = true) (kRE1 : PySem.W.keepIn K (.ref fRE) = true)
    (aLB : PySem.W.nsIn K mainGlobals "_law_before" = some (some (.ref fLB)))
    (lLB : K.lookup fLB = some ⟨ocLB, odLB, .func (PySem.W.fnOf "_law_before" "_law_before" (defArgs sLB) (defBody sLB) (defScope sLB) .none kVLB dcLB pmLB anLB cdLB ctLB), slLB⟩)
    (cLB1 : PySem.W.codeIn K cdLB "_law_before" = true) (kLB1 : PySem.W.keepIn K (.ref fLB) = true)
    (aLS : PySem.W.nsIn K mainGlobals "_law_strictly" = some (some (.ref fLS)))
    (lLS : K.lookup fLS = some ⟨ocLS, odLS, .func (PySem.W.fnOf "_law_strictly" "_law_strictly" (defArgs sLS) (defBody sLS) (defScope sLS) .none kVLS dcLS pmLS anLS cdLS ctLS), slLS⟩)
    (cLS1 : PySem.W.codeIn K cdLS "_law_strictly" = true) (kLS1 : PySem.W.keepIn K (.ref fLS) = true)
    (aLK : PySem.W.nsIn K mainGlobals "_law_blocks" = some (some (.ref fLK)))
    (lLK : K.lookup fLK = some ⟨ocLK, odLK, .func (PySem.W.fnOf "_law_blocks" "_law_blocks" (defArgs sLK) (defBody sLK) (defScope sLK) .none kVLK dcLK pmLK anLK cdLK ctLK), slLK⟩)
    (cLK1 : PySem.W.codeIn K cdLK "_law_blocks" = true) (kLK1 : PySem.W.keepIn K (.ref fLK) = true)
    (aIC : PySem.W.nsIn K mainGlobals "in_circles" = some (some (.ref fIC)))
    (lIC : K.lookup fIC = some ⟨ocIC, odIC, .func (PySem.W.fnOf "in_circles" "in_circles" (defArgs sIC) (defBody sIC) (defScope sIC) .none kVIC dcIC pmIC anIC (.ref cIC) ctIC), slIC⟩)
    (cIC1 : PySem.W.codeIn K (.ref cIC) "in_circles" = true) (kIC1 : PySem.W.keepIn K (.ref fIC) = true)
    (aWI : PySem.W.nsIn K mainGlobals "_law_wish" = some (some (.ref fWI)))
    (lWI : K.lookup fWI = some ⟨ocWI, odWI, .func (PySem.W.fnOf "_law_wish" "_law_wish" (defArgs sWI) (defBody sWI) (defScope sWI) .none kVWI dcWI pmWI anWI cdWI ctWI), slWI⟩)
    (cWI1 : PySem.W.codeIn K cdWI "_law_wish" = true) (kWI1 : PySem.W.keepIn K (.ref fWI) = true)
    (aXM : PySem.W.nsIn K mainGlobals "_law_most" = some (some (.ref fXM)))
    (lXM : K.lookup fXM = some ⟨ocXM, odXM, .func (PySem.W.fnOf "_law_most" "_law_most" (defArgs sXO) (defBody sXO) (defScope sXO) .none kVXM dcXM pmXM anXM cdXM ctXM), slXM⟩)
    (cXM1 : PySem.W.codeIn K cdXM "_law_most" = true) (kXM1 : PySem.W.keepIn K (.ref fXM) = true)
    (aDU : PySem.W.nsIn K mainGlobals "_law_due" = some (some (.ref fDU)))
    (lDU : K.lookup fDU = some ⟨ocDU, odDU, .func (PySem.W.fnOf "_law_due" "_law_due" (defArgs sDU) (defBody sDU) (defScope sDU) .none kVDU dcDU pmDU anDU cdDU ctDU), slDU⟩)
    (cDU1 : PySem.W.codeIn K cdDU "_law_due" = true) (kDU1 : PySem.W.keepIn K (.ref fDU) = true)
    (aED : PySem.W.nsIn K mainGlobals "_law_edges" = some (some (.ref fED)))
    (lED : K.lookup fED = some ⟨ocED, odED, .func (PySem.W.fnOf "_law_edges" "_law_edges" (defArgs sED) (defBody sED) (defScope sED) .none kVED dcED pmED anED cdED ctED), slED⟩)
    (cED1 : PySem.W.codeIn K cdED "_law_edges" = true) (kED1 : PySem.W.keepIn K (.ref fED) = true)
    (aKB : PySem.W.nsIn K mainGlobals "kept_behind" = some (some (.ref fKB)))
    (lKB : K.lookup fKB = some ⟨ocKB, odKB, .func (PySem.W.fnOf "kept_behind" "kept_behind" (defArgs sKB) (defBody sKB) (defScope sKB) .none kVKB dcKB pmKB anKB cdKB ctKB), slKB⟩)
    (cKB1 : PySem.W.codeIn K cdKB "kept_behind" = true) (kKB1 : PySem.W.keepIn K (.ref fKB) = true)
    (aSB : PySem.W.nsIn K mainGlobals "steps_between" = some (some (.ref fSB)))
    (lSB : K.lookup fSB = some ⟨ocSB, odSB, .func (PySem.W.fnOf "steps_between" "steps_between" (defArgs sSB) (defBody sSB) (defScope sSB) .none kVSB dcSB pmSB anSB cdSB ctSB), slSB⟩)
    (cSB1 : PySem.W.codeIn K cdSB "steps_between" = true) (kSB1 : PySem.W.keepIn K (.ref fSB) = true)
    (aSW : PySem.W.nsIn K mainGlobals "shown_order" = some (some (.ref fSW)))
    (lSW : K.lookup fSW = some ⟨ocSW, odSW, .func (PySem.W.fnOf "shown_order" "shown_order" (defArgs sSW) (defBody sSW) (defScope sSW) .none kVSW dcSW pmSW anSW cdSW ctSW), slSW⟩)
    (cSW1 : PySem.W.codeIn K cdSW "shown_order" = true) (kSW1 : PySem.W.keepIn K (.ref fSW) = true)
    (aIP : PySem.W.nsIn K mainGlobals "in_parts" = some (some (.ref fIP)))
    (lIP : K.lookup fIP = some ⟨ocIP, odIP, .func (PySem.W.fnOf "in_parts" "in_parts" (defArgs sIP) (defBody sIP) (defScope sIP) .none kVIP dcIP pmIP anIP cdIP ctIP), slIP⟩)
    (cIP1 : PySem.W.codeIn K cdIP "in_parts" = true) (kIP1 : PySem.W.keepIn K (.ref fIP) = true)
    (aCC : PySem.W.nsIn K mainGlobals "cut_changes" = some (some (.ref fCC)))
    (lCC : K.lookup fCC = some ⟨ocCC, odCC, .func (PySem.W.fnOf "cut_changes" "cut_changes" (defArgs sCC) (defBody sCC) (defScope sCC) .none kVCC dcCC pmCC anCC cdCC ctCC), slCC⟩)
    (cCC1 : PySem.W.codeIn K cdCC "cut_changes" = true) (kCC1 : PySem.W.keepIn K (.ref fCC) = true)
    (aGC : PySem.W.nsIn K mainGlobals "gap_changes" = some (some (.ref fGC)))
    (lGC : K.lookup fGC = some ⟨ocGC, odGC, .func (PySem.W.fnOf "gap_changes" "gap_changes" (defArgs sGC) (defBody sGC) (defScope sGC) .none kVGC dcGC pmGC anGC cdGC ctGC), slGC⟩)
    (cGC1 : PySem.W.codeIn K cdGC "gap_changes" = true) (kGC1 : PySem.W.keepIn K (.ref fGC) = true)
    (aGA : PySem.W.nsIn K mainGlobals "gaps" = some (some (.ref fGA)))
    (lGA : K.lookup fGA = some ⟨ocGA, odGA, .func (PySem.W.fnOf "gaps" "gaps" (defArgs sGA) (defBody sGA) (defScope sGA) .none kVGA dcGA pmGA anGA cdGA ctGA), slGA⟩)
    (cGA1 : PySem.W.codeIn K cdGA "gaps" = true) (kGA1 : PySem.W.keepIn K (.ref fGA) = true)
    (aWA : PySem.W.nsIn K mainGlobals "wanted" = some (some (.ref fWA)))
    (lWA : K.lookup fWA = some ⟨ocWA, odWA, .func (PySem.W.fnOf "wanted" "wanted" (defArgs sWA) (defBody sWA) (defScope sWA) .none kVWA dcWA pmWA anWA cdWA ctWA), slWA⟩)
    (cWA1 : PySem.W.codeIn K cdWA "wanted" = true) (kWA1 : PySem.W.keepIn K (.ref fWA) = true)
    (aCH : PySem.W.nsIn K mainGlobals "_law_changes" = some (some (.ref fCH)))
    (lCH : K.lookup fCH = some ⟨ocCH, odCH, .func (PySem.W.fnOf "_law_changes" "_law_changes" (defArgs sCH) (defBody sCH) (defScope sCH) .none kVCH dcCH pmCH anCH cdCH ctCH), slCH⟩)
    (cCH1 : PySem.W.codeIn K cdCH "_law_changes" = true) (kCH1 : PySem.W.keepIn K (.ref fCH) = true)
    (aLAW : PySem.W.nsIn K mainGlobals "law" = some (some (.ref fLAW)))
    (lLAW : K.lookup fLAW = some ⟨ocLAW, odLAW, .func (PySem.W.fnOf "law" "law" (defArgs sLAW) (defBody sLAW) (defScope sLAW) .none kVLAW dcLAW pmLAW anLAW cdLAW ctLAW), slLAW⟩)
    (cLAW1 : PySem.W.codeIn K cdLAW "law" = true) (kLAW1 : PySem.W.keepIn K (.ref fLAW) = true)
    (tICc : K.lookup cIC = some ⟨eIC, ddIC, .fields vsIC, ssIC⟩) (tICv : vsIC[11]? = some (.ref T1)) (tICh : PySem.W.codeHdIn K cIC T1 = true) (tICn : K.lookup T1 = none)
    (gMC0 : PySem.W.nsIn K mainGlobals "MOST_CUT" = some (some (.int 200 kMC)))
    (z_len : PySem.W.nsIn K mainGlobals "len" = some none)
    (z_range : PySem.W.nsIn K mainGlobals "range" = some none)
    (z_reversed : PySem.W.nsIn K mainGlobals "reversed" = some none)
    (z_max : PySem.W.nsIn K mainGlobals "max" = some none)
    (z_min : PySem.W.nsIn K mainGlobals "min" = some none)
    (z_int : PySem.W.nsIn K mainGlobals "int" = some none)
    (z_abs : PySem.W.nsIn K mainGlobals "abs" = some none)
    (z_list : PySem.W.nsIn K mainGlobals "list" = some none)
    (z_isinstance : PySem.W.nsIn K mainGlobals "isinstance" = some none)
    (z_sorted : PySem.W.nsIn K mainGlobals "sorted" = some none)
    (z_enumerate : PySem.W.nsIn K mainGlobals "enumerate" = some none)
    (z_any : PySem.W.nsIn K mainGlobals "any" = some none)
    (z_dict : PySem.W.nsIn K mainGlobals "dict" = some none)
    (z_sum : PySem.W.nsIn K mainGlobals "sum" = some none)
    : GX.LawC l w K 63 "script" mg fa h := by
  have e := hfa.symm.trans (PySem.W.mg_of X G aLAW)
  cases e
  have FFI := fun_mk (st := sFI) lFI cFI1 kFI1
  have bFI := FFI.binds (ps := ["edges", "lines"]) fun _ _ _ _ _ _ us hl => match us, hl with | [_, _], _ => rfl
  have gFI := PySem.W.mg_of X G aFI
  have FMA := fun_mk (st := sMA) lMA cMA1 kMA1
  have bMA := FMA.binds (ps := ["edges", "bits"]) fun _ _ _ _ _ _ us hl => match us, hl with | [_, _], _ => rfl
  have gMA := PySem.W.mg_of X G aMA
  have FBA := fun_mk (st := sBA) lBA cBA1 kBA1
  have bBA := FBA.binds (ps := ["edges"]) fun _ _ _ _ _ _ us hl => match us, hl with | [_], _ => rfl
  have gBA := PySem.W.mg_of X G aBA
  have FBI := fun_mk (st := sBI) lBI cBI1 kBI1
  have bBI := FBI.binds (ps := ["mask"]) fun _ _ _ _ _ _ us hl => match us, hl with | [_], _ => rfl
  have gBI := PySem.W.mg_of X G aBI
  have FWG := fun_mk (st := sWG) lWG cWG1 kWG1
  have bWG := FWG.binds (ps := ["graph", "lines"]) fun _ _ _ _ _ _ us hl => match us, hl with | [_, _], _ => rfl
  have gWG := PySem.W.mg_of X G aWG
  have FFF := fun_mk (st := sFF) lFF cFF1 kFF1
  have bFF := FFF.binds (ps := ["lines", "front", "mask"]) fun _ _ _ _ _ _ us hl => match us, hl with | [_, _, _], _ => rfl
  have gFF := PySem.W.mg_of X G aFF
  have FIO := fun_mk (st := sIO) lIO cIO1 kIO1
  have bIO := FIO.binds (ps := ["graph", "block"]) fun _ _ _ _ _ _ us hl => match us, hl with | [_, _], _ => rfl
  have gIO := PySem.W.mg_of X G aIO
  have FBL := fun_mk (st := sBL) lBL cBL1 kBL1
  have bBL := FBL.binds (ps := ["graph"]) fun _ _ _ _ _ _ us hl => match us, hl with | [_], _ => rfl
  have gBL := PySem.W.mg_of X G aBL
  have FST := fun_mk (st := sState) lST cST1 kST1
  have bST := FST.binds (ps := ["script"]) fun _ _ _ _ _ _ us hl => match us, hl with | [_], _ => rfl
  have gST := PySem.W.mg_of X G aST
  have FD := fun_mk (st := sDraw) lD cD1 kD1
  have bD := FD.binds (ps := ["state", "many"]) fun _ _ _ _ _ _ us hl => match us, hl with | [_, _], _ => rfl
  have gD := PySem.W.mg_of X G aD
  have FP := fun_mk (st := sPick) lP cP1 kP1
  have bP := FP.binds (ps := ["state", "row"]) fun _ _ _ _ _ _ us hl => match us, hl with | [_, _], _ => rfl
  have gP := PySem.W.mg_of X G aP
  have FGR := fun_mk (st := sGR) lGR cGR1 kGR1
  have bGR := FGR.binds (ps := ["state"]) fun _ _ _ _ _ _ us hl => match us, hl with | [_], _ => rfl
  have gGR := PySem.W.mg_of X G aGR
  have FRE := fun_mk (st := sRE) lRE cRE1 kRE1
  have bRE := FRE.binds (ps := ["edges"]) fun _ _ _ _ _ _ us hl => match us, hl with | [_], _ => rfl
  have gRE := PySem.W.mg_of X G aRE
  have FLB := fun_mk (st := sLB) lLB cLB1 kLB1
  have bLB := FLB.binds (ps := ["reach", "one", "other"]) fun _ _ _ _ _ _ us hl => match us, hl with | [_, _, _], _ => rfl
  have gLB := PySem.W.mg_of X G aLB
  have FLS := fun_mk (st := sLS) lLS cLS1 kLS1
  have bLS := FLS.binds (ps := ["reach", "one", "other"]) fun _ _ _ _ _ _ us hl => match us, hl with | [_, _, _], _ => rfl
  have gLS := PySem.W.mg_of X G aLS
  have FLK := fun_mk (st := sLK) lLK cLK1 kLK1
  have bLK := FLK.binds (ps := ["reach", "present"]) fun _ _ _ _ _ _ us hl => match us, hl with | [_, _], _ => rfl
  have gLK := PySem.W.mg_of X G aLK
  have bIC : Binds K (PySem.W.fnOf "in_circles" "in_circles" (defArgs sIC) (defBody sIC) (defScope sIC) .none kVIC dcIC pmIC anIC (.ref cIC) ctIC) ["graph"] [] := .all fun us hl => match us, hl with | [_], _ => rfl
  have gIC := PySem.W.mg_of X G aIC
  have FWI := fun_mk (st := sWI) lWI cWI1 kWI1
  have bWI := FWI.binds (ps := ["state", "texts"]) fun _ _ _ _ _ _ us hl => match us, hl with | [_, _], _ => rfl
  have gWI := PySem.W.mg_of X G aWI
  have FXM := fun_mk (st := sXO) lXM cXM1 kXM1
  have bXM := FXM.binds (ps := ["one", "other"]) fun _ _ _ _ _ _ us hl => match us, hl with | [_, _], _ => rfl
  have gXM := PySem.W.mg_of X G aXM
  have FDU := fun_mk (st := sDU) lDU cDU1 kDU1
  have bDU := FDU.binds (ps := ["one", "other"]) fun _ _ _ _ _ _ us hl => match us, hl with | [_, _], _ => rfl
  have gDU := PySem.W.mg_of X G aDU
  have FED := fun_mk (st := sED) lED cED1 kED1
  have bED := FED.binds (ps := ["pairs"]) fun _ _ _ _ _ _ us hl => match us, hl with | [_], _ => rfl
  have gED := PySem.W.mg_of X G aED
  have FKB := fun_mk (st := sKB) lKB cKB1 kKB1
  have bKB := FKB.binds (ps := ["one", "other"]) fun _ _ _ _ _ _ us hl => match us, hl with | [_, _], _ => rfl
  have gKB := PySem.W.mg_of X G aKB
  have FSB := fun_mk (st := sSB) lSB cSB1 kSB1
  have bSB := FSB.binds (ps := ["one", "other"]) fun _ _ _ _ _ _ us hl => match us, hl with | [_, _], _ => rfl
  have gSB := PySem.W.mg_of X G aSB
  have FSW := fun_mk (st := sSW) lSW cSW1 kSW1
  have bSW := FSW.binds (ps := ["graph"]) fun _ _ _ _ _ _ us hl => match us, hl with | [_], _ => rfl
  have gSW := PySem.W.mg_of X G aSW
  have FIP := fun_mk (st := sIP) lIP cIP1 kIP1
  have bIP := FIP.binds (ps := ["rows", "size"]) fun _ _ _ _ _ _ us hl => match us, hl with | [_, _], _ => rfl
  have gIP := PySem.W.mg_of X G aIP
  have FCC := fun_mk (st := sCC) lCC cCC1 kCC1
  have bCC := FCC.binds (ps := ["file", "lines"]) fun _ _ _ _ _ _ us hl => match us, hl with | [_, _], _ => rfl
  have gCC := PySem.W.mg_of X G aCC
  have FGC := fun_mk (st := sGC) lGC cGC1 kGC1
  have bGC := FGC.binds (ps := ["graph", "file", "rows"]) fun _ _ _ _ _ _ us hl => match us, hl with | [_, _, _], _ => rfl
  have gGC := PySem.W.mg_of X G aGC
  have FGA := fun_mk (st := sGA) lGA cGA1 kGA1
  have bGA := FGA.binds (ps := ["lines", "texts", "steps"]) fun _ _ _ _ _ _ us hl => match us, hl with | [_, _, _], _ => rfl
  have gGA := PySem.W.mg_of X G aGA
  have FWA := fun_mk (st := sWA) lWA cWA1 kWA1
  have bWA := FWA.binds (ps := ["graph", "file", "texts"]) fun _ _ _ _ _ _ us hl => match us, hl with | [_, _, _], _ => rfl
  have gWA := PySem.W.mg_of X G aWA
  have FCH := fun_mk (st := sCH) lCH cCH1 kCH1
  have bCH := FCH.binds (ps := ["file", "reach", "order", "steps", "texts"]) fun _ _ _ _ _ _ us hl => match us, hl with | [_, _, _, _, _], _ => rfl
  have gCH := PySem.W.mg_of X G aCH
  have gLAW := PySem.W.mg_of X G aLAW
  have gMC := PySem.W.mg_of X G gMC0
  have m_len := PySem.W.mg_none_of X G z_len
  have m_range := PySem.W.mg_none_of X G z_range
  have m_reversed := PySem.W.mg_none_of X G z_reversed
  have m_max := PySem.W.mg_none_of X G z_max
  have m_min := PySem.W.mg_none_of X G z_min
  have m_int := PySem.W.mg_none_of X G z_int
  have m_abs := PySem.W.mg_none_of X G z_abs
  have m_list := PySem.W.mg_none_of X G z_list
  have m_isinstance := PySem.W.mg_none_of X G z_isinstance
  have m_sorted := PySem.W.mg_none_of X G z_sorted
  have m_enumerate := PySem.W.mg_none_of X G z_enumerate
  have m_any := PySem.W.mg_none_of X G z_any
  have m_dict := PySem.W.mg_none_of X G z_dict
  have m_sum := PySem.W.mg_none_of X G z_sum
  have FIN := fun_mk (st := (sCls 0)) lIN cIN1 kIN1
  have bIN := FIN.binds (ps := ["self", "lines", "present", "edges"]) fun _ _ _ _ _ _ us hl => match us, hl with | [_, _, _, _], _ => rfl
  have MIN : Meth K CG "__init__" fIN := ⟨aIN, iIN, kIN1⟩
  have FMB := fun_mk (st := (sCls 1)) lMB cMB1 kMB1
  have bMB := FMB.binds (ps := ["self", "one", "other"]) fun _ _ _ _ _ _ us hl => match us, hl with | [_, _, _], _ => rfl
  have MMB : Meth K CG "before" fMB := ⟨aMB, iMB, kMB1⟩
  have FMS := fun_mk (st := (sCls 2)) lMS cMS1 kMS1
  have bMS := FMS.binds (ps := ["self", "one", "other"]) fun _ _ _ _ _ _ us hl => match us, hl with | [_, _, _], _ => rfl
  have MMS : Meth K CG "strictly" fMS := ⟨aMS, iMS, kMS1⟩
  have FML := fun_mk (st := (sCls 4)) lML cML1 kML1
  have bML := FML.binds (ps := ["self"]) fun _ _ _ _ _ _ us hl => match us, hl with | [_], _ => rfl
  have MML : Meth K CG "present_lines" fML := ⟨aML, iML, kML1⟩
  have FMO := fun_mk (st := (sCls 5)) lMO cMO1 kMO1
  have bMO := FMO.binds (ps := ["self", "lines"]) fun _ _ _ _ _ _ us hl => match us, hl with | [_, _], _ => rfl
  have MMO : Meth K CG "mask_of" fMO := ⟨aMO, iMO, kMO1⟩
  have FMH := fun_mk (st := (sCls 6)) lMH cMH1 kMH1
  have bMH := FMH.binds (ps := ["self", "line"]) fun _ _ _ _ _ _ us hl => match us, hl with | [_, _], _ => rfl
  have MMH : Meth K CG "mask_behind" fMH := ⟨aMH, iMH, kMH1⟩
  have FMF := fun_mk (st := (sCls 7)) lMF cMF1 kMF1
  have bMF := FMF.binds (ps := ["self", "line"]) fun _ _ _ _ _ _ us hl => match us, hl with | [_, _], _ => rfl
  have MMF : Meth K CG "mask_in_front" fMF := ⟨aMF, iMF, kMF1⟩
  have TC : Txt K mg CG := ⟨⟨pgCG, hdCG, poCG, saCG⟩, no_lines, no_present, no_edges, no_bits, no_later, no_earlier, PySem.W.mg_of X G nCG⟩
  have MkG : Mk K CG fIN := ⟨mkCG, aIN, iIN, kpCG⟩
  have emIC : h.get? T1 = some { cls := .none, data := .fields #[] } := tabs "in_circles" fIC hrecT1 gIC cIC T1 _ _ _ _ _ _ lIC rfl rfl tICc tICv
  have all_ : ∀ {P : Addr × Addr → Prop}, P (cIC, T1) →  (∀ p ∈ ([(cIC, T1)] : List (Addr × Addr)), P p) := fun xIC p hp => by
    simp only [List.mem_cons, List.not_mem_nil, or_false] at hp
    rcases hp with rfl
    · exact xIC
  refine ⟨PySem.W.fnOf "law" "law" (defArgs sLAW) (defBody sLAW) (defScope sLAW) .none kVLAW dcLAW pmLAW anLAW cdLAW ctLAW, [(cIC, T1)], spLaw K T1, all_ emIC, all_ tICn, all_ (PySem.W.codeHd_of_K X tICh), fun s v => .of_eq rfl, ?_, ?_⟩
  · intro H a ns hl hbits hH hS
    have qIC := hH (cIC, T1) (by simp)
    exact ⟨a, ns, rfl, hS, hl, ⟨#[], qIC, trivial⟩, fun _ => rfl⟩
  · intro base _ _ hT
    have TBIC := hT (cIC, T1) (by simp)
    have GFI := fun i : Sg => ok_FI (P := l.prog) (w := w) (mg := mg) (base := base) FFI
    have GMA := fun i : Sg => ok_MA (P := l.prog) (w := w) (mg := mg) (base := base) FMA (GFI i) bFI gFI kFI1 m_sorted
    have GBA := fun i : Sg => ok_BA (P := l.prog) (w := w) (mg := mg) (base := base) FBA
    have GIN := fun i : Sg => ok_IN (P := l.prog) (w := w) (base := base) FIN TC (GMA i) bMA gMA kMA1 (GBA i) bBA gBA kBA1 m_list m_sorted m_enumerate
    have GMB := fun i : Sg => ok_MB (P := l.prog) (w := w) (base := base) FMB TC
    have GMS := fun i : Sg => ok_MS (P := l.prog) (w := w) (base := base) FMS TC (GMB i) bMB MMB
    have GML := fun i : Sg => ok_ML (P := l.prog) (w := w) (base := base) FML TC m_sorted
    have GMO := fun i : Sg => ok_MO (P := l.prog) (w := w) (base := base) FMO TC m_sum
    have GMH := fun i : Sg => ok_MH (P := l.prog) (w := w) (base := base) FMH TC
    have GMF := fun i : Sg => ok_MF (P := l.prog) (w := w) (base := base) FMF TC
    have GBI := fun i : Sg => ok_BI (P := l.prog) (w := w) (mg := mg) (base := base) FBI
    have GWG := fun i : Sg => ok_WG (P := l.prog) (w := w) (mg := mg) (base := base) FWG TC MMO (GMO i) bMO MMH (GMH i) bMH MMF (GMF i) bMF (GBI i) bBI gBI kBI1
    have GFF := fun i : Sg => ok_FF (P := l.prog) (w := w) (mg := mg) (base := base) FFF
    have GIO := fun i : Sg => ok_IO (P := l.prog) (w := w) (mg := mg) (base := base) FIO TC MMO (GMO i) bMO MMF (GMF i) bMF (GFF i) bFF gFF kFF1 m_sorted
    have GBL := fun i : Sg => ok_BL (P := l.prog) (w := w) (mg := mg) (base := base) FBL TC MML (GML i) bML (GWG i) bWG gWG kWG1 (GIO i) bIO gIO kIO1 m_len m_sorted m_enumerate
    have GST := ok_state (P := l.prog) (w := w) (mg := mg) (base := base) FST m_abs m_int
    have GD := ok_draw (P := l.prog) (w := w) (mg := mg) (base := base) FD m_len m_int
    have GP := ok_pick (P := l.prog) (w := w) (mg := mg) (base := base) FP GD bD gD kD1 m_len
    have GGR := ok_GR (P := l.prog) (w := w) (mg := mg) (base := base) FGR GD bD gD kD1 GP bP gP kP1 m_len m_range m_sorted
    have GRE := ok_RE (P := l.prog) (w := w) (mg := mg) (base := base) FRE m_len m_range m_list
    have GLB := ok_LB (P := l.prog) (w := w) (mg := mg) (base := base) FLB
    have GLS := ok_LS (P := l.prog) (w := w) (mg := mg) (base := base) FLS GLB bLB gLB kLB1
    have GLK := ok_LK (P := l.prog) (w := w) (mg := mg) (base := base) FLK GLS bLS gLS kLS1 m_len m_range m_min m_list m_sorted
    have GIC := ok_IC (P := l.prog) (w := w) (mg := mg) (base := base) lIC cIC1 TBIC (GBL idS) bBL gBL kBL1 m_any TC MMB (GMB idS) bMB
    have GWI := ok_WI (P := l.prog) (w := w) (mg := mg) (base := base) FWI GD bD gD kD1 GP bP gP kP1
    have GXM := ok_XM (P := l.prog) (w := w) (mg := mg) (base := base) FXM m_len m_range m_max
    have GDU := ok_DU (P := l.prog) (w := w) (mg := mg) (base := base) FDU GXM bXM gXM kXM1 m_len m_range
    have GED := fun i : Sg => ok_ED (P := l.prog) (w := w) (mg := mg) (base := base) FED m_sorted
    have GKB := ok_KB (P := l.prog) (w := w) (mg := mg) (base := base) FKB m_len m_range m_reversed m_max
    have GSB := ok_SB (P := l.prog) (w := w) (mg := mg) (base := base) FSB GKB bKB gKB kKB1 m_len
    have GSW := fun i : Sg => ok_SW (P := l.prog) (w := w) (mg := mg) (base := base) FSW (GBL i) bBL gBL kBL1
    have GIP := ok_IP (P := l.prog) (w := w) (mg := mg) (base := base) FIP m_len m_range
    have GCC := ok_CC (P := l.prog) (w := w) (mg := mg) (base := base) FCC GIP bIP gIP kIP1 m_sorted gMC
    have GGC := ok_GC (P := l.prog) (w := w) (mg := mg) (base := base) FGC TC MMS (GMS idS) bMS
    have GGA := ok_GA (P := l.prog) (w := w) (mg := mg) (base := base) FGA
    have GWA := ok_WA (P := l.prog) (w := w) (mg := mg) (base := base) FWA TC GSB bSB gSB kSB1 (GSW idS) bSW gSW kSW1 GIC bIC gIC kIC1 GCC bCC gCC kCC1 GGC bGC gGC kGC1 GGA bGA gGA kGA1
    have GCH := ok_CH (P := l.prog) (w := w) (mg := mg) (base := base) FCH GLS bLS gLS kLS1 m_len m_range m_sorted
    exact ok_LAW lLAW cLAW1 GST bST gST kST1 GGR bGR gGR kGR1 (GED idS) bED gED kED1 GRE bRE gRE kRE1 GLK bLK gLK kLK1 GLB bLB gLB kLB1 GIC bIC gIC kIC1 GWI bWI gWI kWI1 GDU bDU gDU kDU1 GWA bWA gWA kWA1 GCH bCH gCH kCH1 TC MkG (GIN idS) bIN m_list m_sorted m_len m_isinstance m_dict
end K12
open PySem PySem.W PyProof.Rows
set_option maxRecDepth 100000 in
set_option maxHeartbeats 0 in
theorem PySem.Challenge.cw_quiltward_k18_wanted_changes_holds : PySem.Challenge.rw_quiltward_k18_wanted_changes.Holds := by
  w_on; o_law; k_head; (case hw => w_witness2)
  k_fill
  refine GX.walk_tabsC (l := PySem.Challenge.rw_quiltward_k18_wanted_changes) (n := 63) (x := "script") rfl (by decide) rfl (fun w h Y => PySem.W.kIn_of Y) ?F
  case F =>
    intro w mg fa h Y KX G hmg tabs
    refine' K12.all_mk KX G hmg tabs ?hrecT1 ?nCG ?pgCG ?hdCG ?poCG ?saCG ?mkCG ?kpCG ?no_lines ?no_present ?no_edges ?no_bits ?no_later ?no_earlier ?aIN ?iIN ?lIN ?cIN1 ?kIN1 ?aMB ?iMB ?lMB ?cMB1 ?kMB1 ?aMS ?iMS ?lMS ?cMS1 ?kMS1 ?aML ?iML ?lML ?cML1 ?kML1 ?aMO ?iMO ?lMO ?cMO1 ?kMO1 ?aMH ?iMH ?lMH ?cMH1 ?kMH1 ?aMF ?iMF ?lMF ?cMF1 ?kMF1 ?aFI ?lFI ?cFI1 ?kFI1 ?aMA ?lMA ?cMA1 ?kMA1 ?aBA ?lBA ?cBA1 ?kBA1 ?aBI ?lBI ?cBI1 ?kBI1 ?aWG ?lWG ?cWG1 ?kWG1 ?aFF ?lFF ?cFF1 ?kFF1 ?aIO ?lIO ?cIO1 ?kIO1 ?aBL ?lBL ?cBL1 ?kBL1 ?aST ?lST ?cST1 ?kST1 ?aD ?lD ?cD1 ?kD1 ?aP ?lP ?cP1 ?kP1 ?aGR ?lGR ?cGR1 ?kGR1 ?aRE ?lRE ?cRE1 ?kRE1 ?aLB ?lLB ?cLB1 ?kLB1 ?aLS ?lLS ?cLS1 ?kLS1 ?aLK ?lLK ?cLK1 ?kLK1 ?aIC ?lIC ?cIC1 ?kIC1 ?aWI ?lWI ?cWI1 ?kWI1 ?aXM ?lXM ?cXM1 ?kXM1 ?aDU ?lDU ?cDU1 ?kDU1 ?aED ?lED ?cED1 ?kED1 ?aKB ?lKB ?cKB1 ?kKB1 ?aSB ?lSB ?cSB1 ?kSB1 ?aSW ?lSW ?cSW1 ?kSW1 ?aIP ?lIP ?cIP1 ?kIP1 ?aCC ?lCC ?cCC1 ?kCC1 ?aGC ?lGC ?cGC1 ?kGC1 ?aGA ?lGA ?cGA1 ?kGA1 ?aWA ?lWA ?cWA1 ?kWA1 ?aCH ?lCH ?cCH1 ?kCH1 ?aLAW ?lLAW ?cLAW1 ?kLAW1 ?tICc ?tICv ?tICh ?tICn ?gMC0 ?z_len ?z_range ?z_reversed ?z_max ?z_min ?z_int ?z_abs ?z_list ?z_isinstance ?z_sorted ?z_enumerate ?z_any ?z_dict ?z_sum
    (case hrecT1 => decide +kernel)
    (case nCG => k_is)
    (case pgCG => k_is)
    (case hdCG => k_is)
    (case poCG => k_is)
    (case saCG => k_is)
    (case mkCG => k_is)
    (case kpCG => k_is)
    (case no_lines => k_is)
    (case no_present => k_is)
    (case no_edges => k_is)
    (case no_bits => k_is)
    (case no_later => k_is)
    (case no_earlier => k_is)
    (case aIN => k_is)
    (case iIN => k_is)
    (case lIN => k_is)
    (case cIN1 => k_is)
    (case kIN1 => k_is)
    (case aMB => k_is)
    (case iMB => k_is)
    (case lMB => k_is)
    (case cMB1 => k_is)
    (case kMB1 => k_is)
    (case aMS => k_is)
    (case iMS => k_is)
    (case lMS => k_is)
    (case cMS1 => k_is)
    (case kMS1 => k_is)
    (case aML => k_is)
    (case iML => k_is)
    (case lML => k_is)
    (case cML1 => k_is)
    (case kML1 => k_is)
    (case aMO => k_is)
    (case iMO => k_is)
    (case lMO => k_is)
    (case cMO1 => k_is)
    (case kMO1 => k_is)
    (case aMH => k_is)
    (case iMH => k_is)
    (case lMH => k_is)
    (case cMH1 => k_is)
    (case kMH1 => k_is)
    (case aMF => k_is)
    (case iMF => k_is)
    (case lMF => k_is)
    (case cMF1 => k_is)
    (case kMF1 => k_is)
    (case aFI => k_is)
    (case lFI => k_is)
    (case cFI1 => k_is)
    (case kFI1 => k_is)
    (case aMA => k_is)
    (case lMA => k_is)
    (case cMA1 => k_is)
    (case kMA1 => k_is)
    (case aBA => k_is)
    (case lBA => k_is)
    (case cBA1 => k_is)
    (case kBA1 => k_is)
    (case aBI => k_is)
    (case lBI => k_is)
    (case cBI1 => k_is)
    (case kBI1 => k_is)
    (case aWG => k_is)
    (case lWG => k_is)
    (case cWG1 => k_is)
    (case kWG1 => k_is)
    (case aFF => k_is)
    (case lFF => k_is)
    (case cFF1 => k_is)
    (case kFF1 => k_is)
    (case aIO => k_is)
    (case lIO => k_is)
    (case cIO1 => k_is)
    (case kIO1 => k_is)
    (case aBL => k_is)
    (case lBL => k_is)
    (case cBL1 => k_is)
    (case kBL1 => k_is)
    (case aST => k_is)
    (case lST => k_is)
    (case cST1 => k_is)
    (case kST1 => k_is)
    (case aD => k_is)
    (case lD => k_is)
    (case cD1 => k_is)
    (case kD1 => k_is)
    (case aP => k_is)
    (case lP => k_is)
    (case cP1 => k_is)
    (case kP1 => k_is)
    (case aGR => k_is)
    (case lGR => k_is)
    (case cGR1 => k_is)
    (case kGR1 => k_is)
    (case aRE => k_is)
    (case lRE => k_is)
    (case cRE1 => k_is)
    (case kRE1 => k_is)
    (case aLB => k_is)
    (case lLB => k_is)
    (case cLB1 => k_is)
    (case kLB1 => k_is)
    (case aLS => k_is)
    (case lLS => k_is)
    (case cLS1 => k_is)
    (case kLS1 => k_is)
    (case aLK => k_is)
    (case lLK => k_is)
    (case cLK1 => k_is)
    (case kLK1 => k_is)
    (case aIC => k_is)
    (case lIC => k_is)
    (case cIC1 => k_is)
    (case kIC1 => k_is)
    (case aWI => k_is)
    (case lWI => k_is)
    (case cWI1 => k_is)
    (case kWI1 => k_is)
    (case aXM => k_is)
    (case lXM => k_is)
    (case cXM1 => k_is)
    (case kXM1 => k_is)
    (case aDU => k_is)
    (case lDU => k_is)
    (case cDU1 => k_is)
    (case kDU1 => k_is)
    (case aED => k_is)
    (case lED => k_is)
    (case cED1 => k_is)
    (case kED1 => k_is)
    (case aKB => k_is)
    (case lKB => k_is)
    (case cKB1 => k_is)
    (case kKB1 => k_is)
    (case aSB => k_is)
    (case lSB => k_is)
    (case cSB1 => k_is)
    (case kSB1 => k_is)
    (case aSW => k_is)
    (case lSW => k_is)
    (case cSW1 => k_is)
    (case kSW1 => k_is)
    (case aIP => k_is)
    (case lIP => k_is)
    (case cIP1 => k_is)
    (case kIP1 => k_is)
    (case aCC => k_is)
    (case lCC => k_is)
    (case cCC1 => k_is)
    (case kCC1 => k_is)
    (case aGC => k_is)
    (case lGC => k_is)
    (case cGC1 => k_is)
    (case kGC1 => k_is)
    (case aGA => k_is)
    (case lGA => k_is)
    (case cGA1 => k_is)
    (case kGA1 => k_is)
    (case aWA => k_is)
    (case lWA => k_is)
    (case cWA1 => k_is)
    (case kWA1 => k_is)
    (case aCH => k_is)
    (case lCH => k_is)
    (case cCH1 => k_is)
    (case kCH1 => k_is)
    (case aLAW => k_is)
    (case lLAW => k_is)
    (case cLAW1 => k_is)
    (case kLAW1 => k_is)
    (case tICc => k_is)
    (case tICv => rfl)
    (case tICh => first | rfl | kernel_rfl)
    (case tICn => first | rfl | kernel_rfl)
    (case gMC0 => k_is)
    (case z_len => k_is)
    (case z_range => k_is)
    (case z_reversed => k_is)
    (case z_max => k_is)
    (case z_min => k_is)
    (case z_int => k_is)
    (case z_abs => k_is)
    (case z_list => k_is)
    (case z_isinstance => k_is)
    (case z_sorted => k_is)
    (case z_enumerate => k_is)
    (case z_any => k_is)
    (case z_dict => k_is)
    (case z_sum => k_is)
