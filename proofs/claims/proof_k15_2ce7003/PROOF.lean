import PyProof.Rows.All
import Wide.All
import OpenK.AllK
import Wide.FinOn
import PySem.Challenge.RW_wavehall_k15_whole_whoever_is_refused_co
import HandS.ForMost
import HandS.AnyAll
import HandS.GenList
import HandS.Nested
import HandS.Exc
import HandS.Lambda
import HandS.TupAny
import HandS.Wide
import HandS.IsInst
import HandS.Zip
import HandS.Style
import HandS.Flow
import PyProof.Rows.IntBool
import HandS.Deep
import KE.KRevSl
import HandS.TupSets
import KE.SortData
import PyProof.ZipIter
import HandS.Zip0
import PyProof.TupleOfGen
import PyProof.CollectWalk
import HandS.TupMul
import HandS.Star
import HandS.Head0
import HandS.Head1
import HandS.Head2
import HandS.HeadEnd
import HandS.HeadHook1
import HandS.HeadHook2
import HandS.HeadHook3
import HandS.HeadHook4
import HandS.HeadWalk
import HandS.EndTab
import HandS.ExcInit
import HandS.ExcSuper
import KE.KExcSuper
import KE.KSuperObj
import KE.KSuper
import HandS.FStr
import HandS.ExcField
import HandS.ExcIs
import KE.KIsNot
import KE.DataMinMax
import HandS.Dict
import PyProof.DictTable
import HandS.MakeKwOnly
import KE.KWithOwn
import HandS.SetBool
import HandS.More
import HandS.Conv
import PyProof.Rows.StrMeet
set_option Elab.async false
set_option linter.all false
set_option maxRecDepth 100000
set_option maxHeartbeats 2000000
namespace LG
open PySem PySem.Spec PyProof.Rows L2 GenW GxR
/-- a truth is handed out -/
def YT (a : Addr) (g : Nat) (Post : Bool → Shared → Prop) : Protocol := fun n s₀ v s1 kap =>
  ∃ b, v = .bool b ∧ AllBare s1.gens ∧ s1.heap.NoLimit ∧ s1.heap.IsGen a g ∧
    (b = true → ∀ s' : Shared, s'.heap = s1.heap → s'.os = s1.os → AllBare s'.gens → kap (.send .none) s') ∧
    (b = false → ∀ s' : Shared, s'.heap = s1.heap → s'.os = s1.os → AllBare s'.gens → Post false s')
def RT (Post : Bool → Shared → Prop) (s1 : Shared) : Prop :=
  AllBare s1.gens ∧ ∀ s' : Shared, (∀ b o, s1.heap.get? b = some o → s'.heap.get? b = some o) → s'.os = s1.os → AllBare s'.gens → Post true s'
theorem all_loud {P : Program} {w : World} {A : Around} {R : Result → Shared → Prop} {a : Addr} {g : Nat} {Post : Bool → Shared → Prop} (hh : A.handled = none) (hd : A.depth < recursionLimit)
    (hend : ∀ b s', Post b s' → R (.ok (.ret (.bool b))) s') :
    ∀ (m : Nat) (s : Shared), s.heap.IsGen a g → s.heap.NoLimit →
      (∃ gs, s.gens[g]? = some gs ∧ gs.Goes (model P w) A.in1.in1 (fun n s₀ r s₁ => r = .ok .next ∧ RT Post s₁) (YT a g Post) m (.send .none) (s.setGen g .running)) →
      codeAny (model P w) A (.builtin "all.loop" ⟨[.ref a], []⟩) R s := by
  intro m
  induction m with
  | zero =>
    intro s hg hl ⟨gs, hgs, hgo⟩
    refine codeAny_builtin F.entry_all_loop ?_
    rw [Around.under_plainId F.plain_all_loop _]
    show wpAny _ A.in1 (pyNext (.ref a) >>= _) _ _ s
    refine wpAny_bind (wpAny_pyNext_genexpQ (A := A.in1) (P := fun _ _ s₁ => RT Post s₁) hh hl hd hg hgs hgo (fun v s₁ gs' hb hv => ?_) (fun s₁ hp h' hk => ?_))
    · obtain ⟨b, rfl, hb1, hl1, hg1, ht, hf⟩ := hv
      refine wpAny_bind (wpAny_holding (wpAny_truthy_bool ?_))
      refine wpAny_bind (wpAny_letGo ?_)
      cases b with
      | true => exact (ht rfl s₁ rfl rfl hb1).elim
      | false =>
        simp only [Bool.false_eq_true, if_false]
        refine wpAny_bind (wpAny_rule (wpAny_pure ?_))
        exact hend _ _ (hf rfl _ rfl rfl (allBare_setGen hb1 hb))
    · refine wpAny_bind (wpAny_rule (wpAny_pure ?_))
      exact hend _ _ (hp.2 _ hk rfl (allBare_setGen (s := s₁) hp.1 rfl))
  | succ m ih =>
    intro s hg hl ⟨gs, hgs, hgo⟩
    have hgl : g < s.gens.size := (Array.getElem?_eq_some_iff.mp hgs).1
    refine codeAny_builtin F.entry_all_loop ?_
    rw [Around.under_plainId F.plain_all_loop _]
    show wpAny _ A.in1 (pyNext (.ref a) >>= _) _ _ s
    refine wpAny_bind (wpAny_gsz (n := g + 1) hgl (wpAny_pyNext_genexpQ (A := A.in1) (P := fun _ _ s₁ => RT Post s₁) hh hl hd hg hgs hgo (fun v s₁ gs' hb hv => ?_) (fun s₁ hp h' hk => ?_)))
    · intro hsz
      obtain ⟨b, rfl, hb1, hl1, hg1, ht, hf⟩ := hv
      have hsz1 : g < s₁.gens.size := by
        have q : (s₁.setGen g gs').gens.size = s₁.gens.size := setGen_size _ _ _
        have hsz' : g + 1 ≤ (s₁.setGen g gs').gens.size := hsz
        omega
      refine wpAny_bind (wpAny_holding (wpAny_truthy_bool ?_))
      refine wpAny_bind (wpAny_letGo ?_)
      cases b with
      | true =>
        simp only [if_true]
        refine wpAny_pure ⟨plainId_quiet F.plain_all_loop _, ih _ hg1 hl1 ⟨gs', setGen_at hsz1, ?_⟩⟩
        exact ht rfl _ rfl rfl (allBare_setGen (s := s₁.setGen g gs') (allBare_setGen hb1 hb) rfl)
      | false =>
        simp only [Bool.false_eq_true, if_false]
        refine wpAny_bind (wpAny_rule (wpAny_pure ?_))
        exact hend _ _ (hf rfl _ rfl rfl (allBare_setGen hb1 hb))
    · intro _
      refine wpAny_bind (wpAny_rule (wpAny_pure ?_))
      exact hend _ _ (hp.2 _ hk rfl (allBare_setGen (s := s₁) hp.1 rfl))
/-- the around of a generator expression's own frame -/
theorem over_gen {A : Around} {elt : Expr} {gs : List Comprehension} {sc : Scope} {pos : Pos} {it acc : Value} {env : Env} : A.over (.compLoop (.GeneratorExp elt gs sc pos) 0 it acc env) [] = A.deeper env := by
  obtain ⟨hd, d, fr, gu, u⟩ := A
  simp [Around.over, Around.deeper, marksOver, frameCount, unitsOf, envsOf, guardsOf, pushEnvs, pushGuards, Code.envs, Code.env?, Code.isFrame, Code.guards, Code.isGuard, Code.weight, Code.frames, Code.isCreation, Code.isCaller, Code.cUnits]
theorem over_gen0 {A : Around} {elt : Expr} {gs : List Comprehension} {sc : Scope} {pos : Pos} {it acc : Value} {env : Env} : A.over (.compStart (.GeneratorExp elt gs sc pos) 0 it acc env) [] = A.deeper env := by
  obtain ⟨hd, d, fr, gu, u⟩ := A
  simp [Around.over, Around.deeper, marksOver, frameCount, unitsOf, envsOf, guardsOf, pushEnvs, pushGuards, Code.envs, Code.env?, Code.isFrame, Code.guards, Code.isGuard, Code.weight, Code.frames, Code.isCreation, Code.isCaller, Code.cUnits]
end LG
set_option Elab.async false
set_option linter.all false
set_option maxRecDepth 100000
set_option maxHeartbeats 2000000
namespace LG
open PySem PySem.Spec PyProof.Rows L2 GenW GxR
/-- the turns of a generator expression drawn by all(..) -/
def Turns (J : It) (g : TG) (te : TE) (Fin : Bool → Hp → Prop) (W : Nat → Nat → L2.St → Hp → Prop) : Prop :=
  ∀ i m σ H, W i m σ H → (J.stop i H ∧ Fin true H) ∨
    (J.go i H ∧ ∀ x H', J.yld i H x H' → g x σ H' fun σ2 H2 => te σ2 H2 fun y H3 => ∃ b, y = .bl b ∧ if b = true then ∃ m', m' < m ∧ W (i + 1) m' σ2 H3 else Fin false H3)
section
variable {X : Cx} {Aw : Around} {elt iter tg : Expr} {scope : Scope} {gpos : Pos} {J : It} {fp : List Addr} {it a : Addr} {gn : Nat} {go : Obj} {tn : Nat → Heap → Prop} {g : TG} {te : TE} {Fin : Bool → Hp → Prop} {W : Nat → Nat → L2.St → Hp → Prop} {Post : Bool → Shared → Prop}
theorem seg_loop (hA : X.A = Aw.deeper X.env) (hxe : X.xe = fun _ _ => False) (hc : X.calm = true) (hco : X.env.scope.isCoroutine = false) (hpn : (a, go) ∈ X.pn) (hgo : ∀ h : Heap, h.get? a = some go → h.IsGen a gn)
    (T : Turn X.prog X.w X.K tg J fp it tn) (hg : PG X tg g) (he : PE X elt te) (hW : Turns J g te Fin W)
    (hPost : ∀ b σ H s s', Inv X [] σ H s → Fin b H → (∀ c o, s.heap.get? c = some o → s'.heap.get? c = some o) → s'.os = s.os → AllBare s'.gens → Post b s') :
    ∀ (n i m : Nat) (s₀ s : Shared) (σ : L2.St) (H : Hp), m < n → Inv X [] σ H s → tn i s.heap → (∀ b ∈ fp, FpOk X [] H b) → W i m σ H →
      Seg (model X.prog X.w) Aw (fun n s₀ r s₁ => r = .ok .next ∧ RT Post s₁) (YT a gn Post) n s₀ (.compLoop (.GeneratorExp elt [⟨tg, iter, [], 0⟩] scope gpos) 0 (.ref it) .none X.env)
        ((model X.prog X.w).den (.compLoop (.GeneratorExp elt [⟨tg, iter, [], 0⟩] scope gpos) 0 (.ref it) .none X.env)) [] s := by
  intro n
  induction n with
  | zero => intro i m s₀ s σ H hm; omega
  | succ n ih =>
    intro i m s₀ s σ H hm I ht hf w
    have hov : Aw.over (.compLoop (.GeneratorExp elt [⟨tg, iter, [], 0⟩] scope gpos) 0 (.ref it) .none X.env) [] = X.A := over_gen.trans hA.symm
    show Seg _ Aw _ _ _ s₀ _ ((compTurn (.GeneratorExp elt [⟨tg, iter, [], 0⟩] scope gpos) 0 (.ref it) .none X.env).onRaise (leaving X.env)) [] s
    rw [compTurn_gen, Sem.onRaise_eq_wrap]
    refine seg_bind_wrap (wpAny_standAt ?_)
    rcases hW i m σ H w with ⟨stop, fin⟩ | ⟨goes, step⟩
    · refine seg_bind_wrap ?_
      rw [hov]
      refine thn (T.done X rfl rfl rfl hc i [] s σ H _ I hf ht stop) fun r s1 ⟨hr, I1⟩ => ?_
      subst hr
      exact seg_end (.ok .next) ⟨rfl, I1.bare, fun s' hk ho hb => hPost true σ H s1 s' I1 fin hk ho hb⟩
    · refine seg_bind_wrap ?_
      rw [hov]
      refine thn (T.item X rfl rfl rfl hc i [] s σ H _ I hf ht goes) fun r s1 ⟨u, hr, h1⟩ => ?_
      subst hr
      refine seg_bind_wrap ?_
      rw [hov]
      refine thn h1 fun _ s2 ⟨x, H2, I2, rx, y2, ht2, fr2⟩ => ?_
      have hf2 : ∀ b ∈ fp, FpOk X [] H2 b := fun b hb => ⟨fr2 b hb, (hf b hb).2⟩
      have I2' := I2.pinned hf2 (T.obj _ _ ht2)
      refine seg_bind_wrap ?_
      rw [hov]
      refine wpAny_mono (hg.run _ s2 σ H2 x u _ I2' rx (step x H2 y2)) (fun _ s3 ⟨σ3, H3, I3, q3⟩ => ?_) fun e s' hx => by rw [hxe] at hx; exact hx.elim
      refine seg_bind_wrap ?_
      simp only [List.forIn_nil]
      refine wpAny_pure ?_
      have hy : ∀ v, yieldOut X.env v = yieldValue v := fun v => by simp only [yieldOut, hco, Bool.false_eq_true, if_false]
      simp only [if_true, hy]
      rw [Sem.bind_eq_wrap', Sem.bind_eq_wrap', Sem.wrap_wrap, Sem.wrap_wrap]
      refine seg_wrap ?_
      rw [hov]
      refine wpAny_mono (he.run _ s3 σ3 H3 _ I3 q3) (fun y s4 ⟨yv, H4, I4, r4, b, eb, q4⟩ => ?_) fun e s' hx => by rw [hxe] at hx; exact hx.elim
      subst eb
      obtain rfl : y = Value.bool b := r4
      have pin : ∀ c ∈ fp, ∀ o, s2.heap.get? c = some o → s4.heap.get? c = some o ∧ H4 c = none := fun c hcc o e =>
        let z := I4.pin (c, o) (List.mem_append_right _ (List.mem_append_right _ (mem_pinsAt hcc e)))
        ⟨z.1, z.2.1⟩
      have I5 : Inv X [] σ3 H4 s4 := I4.unpinned
      refine seg_at (seg_yield rfl rfl rfl ⟨b, rfl, I5.bare, I5.nolimit, hgo _ (I5.pin (a, go) (List.mem_append_left _ hpn)).1, fun hb s' h1 h2 h3 => ?_, fun hb s' h1 h2 h3 => ?_⟩)
      · subst hb
        rw [if_pos rfl] at q4
        obtain ⟨m', hm', w'⟩ := q4
        have I6 : Inv X [] σ3 H4 s' := I5.call' (ch := []) h2 (by rw [h1]; exact Un.refl) (by rw [h1]; exact I5.hok) h3 fun b z => by simp at z
        refine seg_again rfl (ih (i + 1) m' s' s' σ3 H4 (by omega) I6 (by rw [h1]; exact T.keep _ _ _ ht2 fun c hcc o e => (pin c hcc o e).1) (fun c hcc => ?_) w')
        obtain ⟨o, e, _⟩ := T.obj _ _ ht2 c hcc
        exact ⟨(pin c hcc o e).2, (hf c hcc).2⟩
      · subst hb
        rw [if_neg Bool.false_ne_true] at q4
        exact hPost false σ3 H4 s4 s' I5 q4 (fun c o e => by rw [h1]; exact e) h2 h3
theorem seg_start (hA : X.A = Aw.deeper X.env) (hxe : X.xe = fun _ _ => False) (hc : X.calm = true) (hco : X.env.scope.isCoroutine = false) (hpn : (a, go) ∈ X.pn) (hgo : ∀ h : Heap, h.get? a = some go → h.IsGen a gn)
    (T : Turn X.prog X.w X.K tg J fp it tn) (hg : PG X tg g) (he : PE X elt te) (hW : Turns J g te Fin W)
    (hPost : ∀ b σ H s s', Inv X [] σ H s → Fin b H → (∀ c o, s.heap.get? c = some o → s'.heap.get? c = some o) → s'.os = s.os → AllBare s'.gens → Post b s')
    (m : Nat) (s₀ s : Shared) (σ : L2.St) (H : Hp) (I : Inv X [] σ H s) (ht : tn 0 s.heap) (hf : ∀ b ∈ fp, FpOk X [] H b) (w : W 0 m σ H) :
    Seg (model X.prog X.w) Aw (fun n s₀ r s₁ => r = .ok .next ∧ RT Post s₁) (YT a gn Post) (m + 1) s₀ (.compStart (.GeneratorExp elt [⟨tg, iter, [], 0⟩] scope gpos) 0 (.ref it) .none X.env)
        ((model X.prog X.w).den (.compStart (.GeneratorExp elt [⟨tg, iter, [], 0⟩] scope gpos) 0 (.ref it) .none X.env)) [] s := by
  have hov : Aw.over (.compStart (.GeneratorExp elt [⟨tg, iter, [], 0⟩] scope gpos) 0 (.ref it) .none X.env) [] = X.A := over_gen0.trans hA.symm
  have loop := seg_loop (iter := iter) (scope := scope) (gpos := gpos) (gn := gn) hA hxe hc hco hpn hgo T hg he hW hPost (m + 1) 0 m s₀ s σ H (Nat.lt_succ_self m) I ht hf w
  show Seg _ Aw _ _ _ s₀ _ ((compStart (.GeneratorExp elt [⟨tg, iter, [], 0⟩] scope gpos) 0 (.ref it) .none X.env).onRaise (leaving X.env)) [] s
  unfold compStart
  rw [Sem.onRaise_eq_wrap]
  show Seg _ Aw _ _ _ s₀ _ ((ask >>= _).wrap _ _ _ _) [] s
  refine seg_bind_wrap (wpAny_askSetting ?_)
  split
  · exact seg_again rfl loop
  · first
      | exact seg_bind_wrap (wpAny_rule (seg_bind_wrap (wpAny_standAt (seg_bind_wrap (T.self _ 0 s _ _ ht (seg_again rfl loop))))))
      | (refine seg_bind_wrap (wpAny_rule ?_); show Seg _ Aw _ _ _ s₀ _ ((standAt iter.pos >>= _).wrap _ _ _ _) [] s; exact seg_bind_wrap (wpAny_standAt (seg_bind_wrap (T.self _ 0 s _ _ ht (seg_again rfl loop)))))
end
end LG
set_option Elab.async false
set_option linter.all false
set_option maxRecDepth 100000
set_option maxHeartbeats 2000000
namespace LG
open PySem PySem.Spec PyProof.Rows L2 GenW GxR NdefX
/-- the generator expression's scope: captured names that the def has -/
structure GSc (env : Env) (scope : Scope) : Prop where
  kind : scope.kind = .function
  co : scope.isCoroutine = false
  cell : ∀ y ∈ scope.names, y.2 ≠ .cell
  dot : scope.names.lookup (".0" : Str) = some NameKind.local
  free : ∀ y ∈ scope.names, y.2 = .free → ∃ c, env.cells.lookup y.1 = some c
/-- the context of the generator expression's frame -/
def gx (X : Cx) (s4 : Shared) (H3 : Hp) (N : List Str) (cenv : Env) (Aw : Around) (fp : List Addr) (pn : List (Addr × Obj)) : Cx where
  prog := X.prog
  w := X.w
  K := X.K
  mg := X.mg
  base := X.base
  A := Aw.deeper cenv
  N := N
  s_0 := s4
  H_0 := H3
  env := cenv
  outer := X.stack
  stack := cenv :: X.stack
  ex := fp
  fn := fun _ => false
  calm := true
  pn := pn
  xe := fun _ _ => False
/-- what an element's rule may lean on -/
structure Inner (X : Cx) (scope : Scope) (N : List Str) (k : Nat) (X' : Cx) : Prop where
  prog : X'.prog = X.prog
  w : X'.w = X.w
  K : X'.K = X.K
  mg : X'.mg = X.mg
  base : X'.base = X.base
  N : X'.N = N
  scope : X'.env.scope = scope
  calm : X'.calm = true
  xe : X'.xe = fun _ _ => False
  room : Room k X'.A
/-- how the captured names' slots lie -/
def Caps (X : Cx) (scope : Scope) (N : List Str) (σ σ' : L2.St) : Prop :=
  σ'.length = N.length ∧ ∀ (i : Nat) (x : Str) (v : V), N[i]? = some x → σ'[i]? = some (some v) → scope.names.lookup x = some .free ∧ ∃ j : Nat, X.N[j]? = some x ∧ σ[j]? = some (some v) ∧ (X.env.kindOf x = some .cell ∨ X.env.kindOf x = some .free)
def tAllG (X : Cx) (P : Addr) (scope : Scope) (N : List Str) (wi : TI) (g : TG) (te : TE) : TE := fun σ H Q => wi σ H fun J H1 => TabG H1 P ∧ ∃ σ', Caps X scope N σ σ' ∧
  ∀ H2, Tabbed P H1 H2 → ∃ W : Nat → Nat → L2.St → Hp → Prop, (∃ m, W 0 m σ' H2) ∧ Turns J g te (fun b H' => Q (.bl b) H') W
section
variable {X : Cx}
theorem pe_allG {c P : Addr} {elt iter tg : Expr} {p pos gpos : Pos} {scope : Scope} {wi : TI} {g : TG} {te : TE} {k : Nat} {N : List Str}
    (hr : Room (k + 1) X.A) (hg0 : Gl X "all") (hm : X.mg "all" = none) (hcalm : X.calm = true) (TB : TabB X.base X.mg c P) (hcode : X.env.code = .ref c) (S : GSc X.env scope) (hi : PI X tg iter wi)
    (hgt : ∀ X', Inner X scope N k X' → PG X' tg g) (hel : ∀ X', Inner X scope N k X' → PE X' elt te)
    (hs : ∀ v, genFold iter X.env v = pure v)
    (he : starEach [.GeneratorExp elt [⟨tg, iter, [], 0⟩] scope gpos] X.env = (false, eval (.GeneratorExp elt [⟨tg, iter, [], 0⟩] scope gpos) X.env) :: starEach [] X.env := by rfl) :
    PE X (.Call (.Name "all" p) [.GeneratorExp elt [⟨tg, iter, [], 0⟩] scope gpos] [] pos) (tAllG X P scope N wi g te) := by
  refine ⟨fun pins s σ H Q I h => ?_⟩
  refine wpAny_Call_Name_kw (ld_blt I hg0 hm (show bootBuiltins "all" = some (.builtin "all") by decide +kernel) ?_)
  refine PyProof.Rows.callWith_builtin1 ?_ he (by rfl)
  rw [he]
  show wpAny _ _ (spliced ((false, eval (.GeneratorExp elt [⟨tg, iter, [], 0⟩] scope gpos) X.env) :: backTo pos (starEach [] X.env))) _ _ s
  refine Calls.spliced_cons ?_
  refine wpAny_GeneratorExp_make S.co (closure_ok S.free) S.cell S.dot S.kind (by have := hr.dp; omega) ?_ hs
  refine thn (hi.run pins s σ H _ I h) fun xv s1 h1 => thn h1 fun itv s2 h2 => ?_
  obtain ⟨it, fp, tn, J, H2, rfl, I2, T, ht2, hf2, hR⟩ := h2
  obtain ⟨⟨ps, hP, htr⟩, σ', hcap, hR⟩ := hR
  have lim2 : s2.heap.NoLimit := I2.nolimit
  have hPs : s2.heap.get? P = some { cls := .none, data := .fields ps } := I2.hok P _ hP
  have cd : PySem.W.CodeHd s2.heap c P := TB.code.keeps fun b u e => I2.bk b u e
  refine ⟨lim2, ?_⟩
  have cont : ∀ (code : Value) (h3 : Heap) (tk : Nat) (ps' : Array Value), Heap.ExtBut P s2.heap h3 → s2.heap.objs.size ≤ h3.objs.size → h3.get? P = some { cls := .none, data := .fields ps' } → (∃ more, ps' = ps ++ more) → TriplesOk ps'.toList →
      wpAny (model X.prog X.w) X.A (builtinsFor X.env.globals X.env.builtins) (fun bi s₄ =>
        ∀ h', h'.Ns s₄.heap.objs.size (fun y => if y = ".0" then some (Value.ref it) else none) → Heap.SameBut s₄.heap.objs.size (s₄.heap.push { cls := .type "frame", data := .dict #[] }) h' →
          (fun a s' => wpAny (model X.prog X.w) X.A (spliced (backTo pos (starEach [] X.env))) (fun x s'' => wpAny (model X.prog X.w) X.A (call (.builtin "all") (a :: x)) (EP X pins σ Q) X.xe s'') X.xe s') (Value.ref h'.objs.size) { s₄ with
            gens := s₄.gens.push (.fresh (.compStart (.GeneratorExp elt [⟨tg, iter, [], 0⟩] scope gpos) 0 (.ref it) .none (genEnv scope (cloFrom X.env.cells scope.names []) s₄.heap.objs.size code bi X.env))),
            toks := s₄.toks + 1 + 1 + 1,
            heap := h'.push { cls := .type "generator", data := .fields #[.int s₄.gens.size 0, .str "<genexpr>" (s₄.toks + 1), .str (X.env.qual ++ "<genexpr>") (s₄.toks + 1 + 1)] } }) X.xe { s2 with heap := h3, toks := tk } := by
    intro code h3 tk ps' hx hsz hP3 hmore ht3
    obtain ⟨bm, ob, e1, e2, e3, e4, e5, e6, e7, e8⟩ := TB.bm
    have keep3 : ∀ b u, b ≠ P → s2.heap.get? b = some u → h3.get? b = some u := fun b u hb e => hx b u hb e
    refine wpAny_builtinsFor (m := X.mg) (by rw [I2.ok.glob]; exact (I2.mod.glob.keeps I2.bk).extBut hx TB.gP) e1 e2 (keep3 _ _ e4 (I2.bk _ _ e5)) e6 e7 e8 ?_
    obtain ⟨more, em⟩ := hmore
    have I4 : Inv X pins σ (upd H2 P (.tbl (ps ++ more))) { s2 with heap := h3, toks := tk } :=
      inv_tab (more := more) (h' := h3) (g' := s2.gens) (d' := s2.drawn) (t' := tk) I2 hP keep3 (by rw [← em]; exact hP3) I2.bare
    have hTab : Tabbed P H2 (upd H2 P (.tbl (ps ++ more))) := ⟨⟨ps ++ more, upd_same, by rw [← em]; exact ht3⟩, fun b hb => upd_ne hb⟩
    obtain ⟨W, ⟨m, w0⟩, hW⟩ := hR _ hTab
    generalize hH3 : upd H2 P (.tbl (ps ++ more)) = H3 at I4 hTab w0
    generalize hs4 : ({ s2 with heap := h3, toks := tk } : Shared) = s4 at I4
    have nP : ∀ b ∈ fp, b ≠ P := fun b hb z => by
      have q := (hf2 b hb).1
      rw [z, hP] at q
      cases q
    have hf4 : ∀ b ∈ fp, FpOk X pins H3 b := fun b hb => ⟨by rw [hTab.2 b (nP b hb)]; exact (hf2 b hb).1, (hf2 b hb).2⟩
    have ht4 : tn 0 s4.heap := T.keep _ _ _ ht2 fun b hb o e => by rw [← hs4]; exact keep3 b o (nP b hb) e
    have lim4 : s4.heap.NoLimit := I4.nolimit
    intro h' hn' hs'
    have hszN : h'.objs.size = s4.heap.objs.size + 1 := by rw [hs'.1, Heap.size_push]
    have keep' : ∀ b o, s4.heap.get? b = some o → h'.get? b = some o := fun b o e => hs'.extBut b o (Nat.ne_of_lt (Heap.lt_size e)) (Heap.get?_push_of_some _ e)
    generalize hgo : ({ cls := .type "generator", data := .fields #[.int s4.gens.size 0, .str "<genexpr>" (s4.toks + 1), .str (X.env.qual ++ "<genexpr>") (s4.toks + 1 + 1)] } : Obj) = go
    have hgen : ∀ h : Heap, h.get? h'.objs.size = some go → h.IsGen h'.objs.size s4.gens.size := fun h e => ⟨go, _, _, e, by rw [← hgo], by rw [← hgo], by rw [← hgo]⟩
    have hfreed : go.data ≠ .freed := by rw [← hgo]; intro z; cases z
    have hpush : (h'.push go).get? h'.objs.size = some go := Heap.get?_push_size _ (by rw [← hgo]; rfl)
    have keep5 : ∀ b o, s4.heap.get? b = some o → (h'.push go).get? b = some o := fun b o e => Heap.get?_push_of_some _ (keep' b o e)
    generalize hcenv : genEnv scope (cloFrom X.env.cells scope.names []) s4.heap.objs.size code builtinsNs X.env = cenv
    have eLoc : cenv.locals = s4.heap.objs.size := by rw [← hcenv]; rfl
    have eScope : cenv.scope = scope := by rw [← hcenv]; rfl
    have eCells : cenv.cells = cloFrom X.env.cells scope.names [] := by rw [← hcenv]; rfl
    have eFrame : cenv.frame = some cenv.locals := by rw [← hcenv]; rfl
    have eGlob : cenv.globals = X.env.globals := by rw [← hcenv]; rfl
    have eBlt : cenv.builtins = builtinsNs := by rw [← hcenv]; rfl
    have cm : ∀ {y : Str} {c : Addr}, cenv.cells.lookup y = some c → X.env.cells.lookup y = some c := fun {y c} e => clo_cm S.free (by rw [← eCells]; exact e)
    -- the generator's own context, whatever wakes it
    have wake : ∀ (Aw : Around), Room k (Aw.deeper cenv) → Aw.frames = some X.stack → ∀ (s6 : Shared), (∀ b o, (h'.push go).get? b = some o → s6.heap.get? b = some o) → s6.os = s4.os → AllBare s6.gens →
        Inv (gx X s4 H3 N cenv Aw fp [(h'.objs.size, go)]) [] σ' H3 s6 := by
      intro Aw hrw hfr s6 hk6 ho6 hb6
      have keep6 : ∀ b o, s4.heap.get? b = some o → s6.heap.get? b = some o := fun b o e => hk6 b o (keep5 b o e)
      have fpl : ∀ b ∈ fp, b < s4.heap.objs.size := fun b hb => by
        obtain ⟨o, e, _⟩ := T.obj _ _ ht4 b hb
        exact Heap.lt_size e
      refine ⟨⟨I4.ok.mod, by show cenv.scope.kind = _; rw [eScope]; exact S.kind, by show cenv.globals = _; rw [eGlob]; exact I4.ok.glob, eBlt, by show s4.heap.objs.size ≤ cenv.locals; rw [eLoc]; exact Nat.le_refl _,
        fun y z c h1 h2 => I4.ok.inj y z c (cm h1) (cm h2), fun y hy => ?_, fun y c hf _ => absurd (show false = true from hf) (by decide), fun _ => hrw.hd, ?_, .inr ⟨rfl, eFrame⟩, fun b hb => ⟨?_, fun y c e => (hf4 b hb).2.2.2.2.1 y c (cm e)⟩, I4.bs, Nat.le_trans I4.ok.bsz I4.sz,
        fun b o e hb => ?_, fun b hb hm => ?_, I4.stack, I4.stkFree⟩, ho6, hb6, Un.kept keep6, ?_, fun y c e => ?_, ?_, fun y c e => I4.freeC y c (cm e), fun q hq => ?_, I4.hok.kept keep6, hcap.1⟩
      · have hy' : scope.names.lookup y = some .cell ∨ scope.names.lookup y = some .free := by
          have z : cenv.scope.names.lookup y = some .cell ∨ cenv.scope.names.lookup y = some .free := hy
          rw [eScope] at z
          exact z
        rcases hy' with z | z
        · exact absurd rfl (S.cell _ (PySem.mem_of_lookup z))
        · obtain ⟨c0, e0⟩ := S.free _ (PySem.mem_of_lookup z) rfl
          exact ⟨c0, by show cenv.cells.lookup y = _; rw [eCells]; exact clo_has S.free (PySem.mem_of_lookup z) e0⟩
      · show (Aw.deeper cenv).frames = some (cenv :: X.stack)
        exact Around.frames_deeper hfr
      · show b ≠ cenv.locals
        rw [eLoc]; exact Nat.ne_of_lt (fpl b hb)
      · rcases (hf4 b hb).2.2.2.1 with z | z
        · exact I4.ok.noex b o e z
        · exact absurd (Nat.lt_of_lt_of_le (Heap.lt_size e) (Nat.le_trans I4.ok.bsz z)) (Nat.lt_irrefl _)
      · rcases List.mem_cons.mp (I4.stkSub b hm) with z | z
        · exact (hf4 b hb).2.1 z
        · exact (hf4 b hb).2.2.1 z
      · refine ⟨_, by show s6.heap.Ns cenv.locals _; rw [eLoc]; exact (hn'.push go).keeps hk6, fun i x v e1 e2 e3 => ?_⟩
        obtain ⟨f1, j, f2, f3, f4⟩ := hcap.2 i x v e1 e2
        obtain ⟨mo, hno, hlo⟩ := I4.loc
        have hvis : Vis X.env.scope x := by
          rcases f4 with z | z
          · exact .inr (.inl z)
          · exact .inr (.inr z)
        obtain ⟨u, ru, l⟩ := hlo j x v f2 f3 hvis
        refine ⟨u, ru, .inr ⟨.inr (by show cenv.scope.names.lookup x = _; rw [eScope]; exact f1), ?_⟩⟩
        rcases l with ⟨l1, _⟩ | ⟨_, c0, l2, l3⟩
        · rcases f4 with z | z
          · rw [z] at l1; cases l1
          · rw [z] at l1; cases l1
        · obtain ⟨oc, hoc, hd⟩ := l3
          exact ⟨c0, by show cenv.cells.lookup x = _; rw [eCells]; exact clo_has S.free (PySem.mem_of_lookup f1) l2, oc, keep6 _ _ hoc, hd⟩
      · obtain ⟨v, o, ho, hd⟩ := I4.cell y c (cm e)
        exact ⟨v, o, keep6 _ _ ho, hd⟩
      · show H3 cenv.locals = none
        rw [eLoc]; exact I4.hok.fresh (Nat.le_refl _)
      · have hq' : q = (h'.objs.size, go) := by
          have z : q ∈ [(h'.objs.size, go)] ++ [] := hq
          simpa using z
        subst hq'
        have ga : s4.heap.objs.size ≤ h'.objs.size := by omega
        refine ⟨hk6 _ _ hpush, I4.hok.fresh ga, by show h'.objs.size ≠ cenv.locals; rw [eLoc]; omega, fun hm => ?_, fun v z => ?_⟩
        · rcases List.mem_cons.mp (I4.stkSub _ hm) with z | z
          · exact absurd (Nat.lt_of_lt_of_le I4.lt ga) (by rw [← z]; exact Nat.lt_irrefl _)
          · exact I4.nofs ga z
        · rw [← hgo] at z; cases z
    refine Calls.spliced_nil ?_
    -- all(..) draws
    refine call_function_tree F.kind_all F.plain_all F.entry_all (F.args_all1 _) ?_
    unfold Builtin.«all»
    refine wpAny_bind (m := oneArg "all" _) (wpAny_pure ?_)
    refine wpAny_bind (wpAny_pyIter_gen (s := { s4 with heap := h'.push go, gens := _, toks := _ }) (hgen _ hpush) ?_)
    refine wpAny_pure ⟨plainId_quiet F.plain_all_loop _, ?_⟩
    have hrw : Room k ((X.A.in1.in1).deeper cenv) := ⟨hr.hd, by have := hr.dp; show X.A.depth + 1 + 3 * k + 5 < _; omega, by have := hr.un; show X.A.units + 1 + 1 + 3 + 16 * k + 200 < _; omega⟩
    have hInner : Inner X scope N k (gx X s4 H3 N cenv (X.A.in1.in1) fp [(h'.objs.size, go)]) := ⟨rfl, rfl, rfl, rfl, rfl, rfl, eScope, rfl, rfl, hrw⟩
    refine all_loud (P := X.prog) (w := X.w) (A := X.A) (a := h'.objs.size) (g := s4.gens.size) (Post := fun b s' => EP X pins σ Q (.bool b) s') hr.hd (by have := hr.dp; show X.A.depth < _; omega) (fun b s' z => z) (m + 1) { s4 with heap := h'.push go, gens := s4.gens.push (.fresh (.compStart (.GeneratorExp elt [⟨tg, iter, [], 0⟩] scope gpos) 0 (.ref it) .none cenv)), toks := s4.toks + 1 + 1 + 1 } (hgen _ hpush) (lim4.keeps keep5) ⟨.fresh (.compStart (.GeneratorExp elt [⟨tg, iter, [], 0⟩] scope gpos) 0 (.ref it) .none cenv), Array.getElem?_push_size .., rfl, ?_⟩
    have fpF : ∀ b ∈ fp, FpOk (gx X s4 H3 N cenv (X.A.in1.in1) fp [(h'.objs.size, go)]) [] H3 b := fun b hb => by
      obtain ⟨o, e, _⟩ := T.obj _ _ ht4 b hb
      have bl := Heap.lt_size e
      refine ⟨(hf4 b hb).1, by show b ≠ cenv.locals; rw [eLoc]; exact Nat.ne_of_lt bl, fun hm => ?_, .inl hb, fun y c z => (hf4 b hb).2.2.2.2.1 y c (cm z), fun q hq => ?_⟩
      · rcases List.mem_cons.mp (I4.stkSub b hm) with z | z
        · exact (hf4 b hb).2.1 z
        · exact (hf4 b hb).2.2.1 z
      · have hq' : q = (h'.objs.size, go) := by
          have z : q ∈ [(h'.objs.size, go)] ++ [] := hq
          simpa using z
        subst hq'
        show h'.objs.size ≠ b
        exact Nat.ne_of_gt (by rw [hszN]; exact Nat.lt_succ_of_lt bl)
    have I6 := wake (X.A.in1.in1) hrw I4.ok.frames ({ s4 with heap := h'.push go, gens := s4.gens.push (.fresh (.compStart (.GeneratorExp elt [⟨tg, iter, [], 0⟩] scope gpos) 0 (.ref it) .none cenv)), toks := s4.toks + 1 + 1 + 1 }.setGen s4.gens.size .running) (fun b o e => e) rfl (allBare_setGen (s := { s4 with heap := h'.push go, gens := s4.gens.push (.fresh (.compStart (.GeneratorExp elt [⟨tg, iter, [], 0⟩] scope gpos) 0 (.ref it) .none cenv)), toks := s4.toks + 1 + 1 + 1 }) (AllBare.push I4.bare rfl) rfl)
    refine seg_start (X := gx X s4 H3 N cenv (X.A.in1.in1) fp [(h'.objs.size, go)]) (Aw := X.A.in1.in1) (go := go) rfl rfl rfl (by show cenv.scope.isCoroutine = false; rw [eScope]; exact S.co) (List.mem_singleton.mpr rfl) hgen T (hgt _ hInner) (hel _ hInner) hW (fun b σ1 H1 sa sb J fin hk ho hb => ?_) m _ _ σ' H3 I6 (T.keep _ _ _ ht4 fun b hb o e => keep5 b o e) fpF w0
    refine ⟨.bl b, H1, I4.call' (ch := fp) (ho.trans J.os) ((show Un (frs X.stack) fp H3 H1 s4.heap sa.heap from J.base).trans (Un.kept hk)) (J.hok.kept hk) hb (fun b hb => ⟨(hf4 b hb).2.2.2.1, (hf4 b hb).2.1, (hf4 b hb).2.2.2.2.1, (hf4 b hb).2.2.2.2.2⟩), rfl, fin⟩
  cases hfc : codeAmong gpos ps.toList with
  | none =>
    refine wpAny_genexprCodeX hcode (cd.code hPs htr) (cd.tab hPs) hfc fun c' h' tk hx hge hlt hco' _ htab' _ => ?_
    obtain ⟨o1, vs, f1, tf, fl, tg', inF, tx, tt, op, _, _, _, _, _, _, _, _, _, htr', _⟩ := hco'
    exact cont _ h' tk _ hx (Nat.le_trans hge (Nat.le_of_lt hlt)) htab'.2 ⟨_, rfl⟩ htr'
  | some cv =>
    refine wpAny_genexprCode_hit hcode (cd.code hPs htr) hfc ?_
    exact cont cv s2.heap s2.toks ps (Heap.ExtBut.refl _ _) (Nat.le_refl _) hPs ⟨#[], by simp⟩ htr
end
end LG
set_option Elab.async false
set_option linter.all false
set_option maxRecDepth 100000
set_option maxHeartbeats 1000000
namespace EL
open PySem PySem.Spec PyProof.Rows L2 GxR LG
inductive D where
  | non | bl (b : Bool) | int (i : Int) | str (x : Str) | tup (ds : List D) | lst (ds : List D) | ref (l : Nat) | scr (ns : List Int) | ty (n : String)
/-- an exception: its class, its field -/
structure Xc where
  cls : Str
  fld : Option (Str × D)
/-- a thing of the store: a list, what is let go, dicts, an instance -/
inductive O where
  | lst (ds : List D) | dead | dK (kvs : List (Key × D)) | dT (kvs : List (List Key × D)) | ins (c : Str) (fs : List (Str × D))
abbrev Sto := List O
/-- the addresses of the store's places; lists in the making, which nobody else sees -/
structure Mu where
  pl : List Addr
  hd : List Addr
def Mu.add (μ : Mu) (p : Addr) : Mu := ⟨μ.pl ++ [p], μ.hd⟩
def Mu.hide (μ : Mu) (p : Addr) : Mu := ⟨μ.pl, p :: μ.hd⟩
abbrev Rho := List (Option D)
/-- what is fixed through the law: the written part, the tables, the script -/
structure G0 where
  P : Program
  w : World
  mg : Str → Option Value
  base : Heap
  K : PySem.W.Frag
  Ps : List Addr
  Ls : List (Addr × Str)
/-- a list of the module's own top -/
def KL (K : PySem.W.Frag) (a : Addr) (xs : List V) : Prop :=
  ∃ (o : Obj) (its : Array Value) (n : Nat), K.lookup a = some o ∧ o.cls = .type "list" ∧ o.dict = none ∧ o.data = .seq its n ∧ its.size ≤ sizeLine ∧ Vals xs its.toList
/-- a list that nobody writes any more -/
def Lz (μ : Mu) (H : Hp) (a : Addr) (vs : List V) : Prop := H a = some (.lst vs) ∧ a ∉ μ.pl ∧ a ∉ μ.hd
/-- .. or may have stood ahead of all: the script -/
def Lq (G : G0) (μ : Mu) (H : Hp) (a : Addr) (vs : List V) : Prop := (Rd H a (.lst vs) ∧ a ∉ μ.pl ∧ a ∉ μ.hd) ∨ KL G.K a vs
theorem Lz.sq {K : PySem.W.Frag} {μ : Mu} {H : Hp} {a : Addr} {vs : List V} (h : Lz μ H a vs) : SqL K H a vs := SqL.of h.1
theorem Lq.sq {G : G0} {μ : Mu} {H : Hp} {a : Addr} {vs : List V} (h : Lq G μ H a vs) : SqL G.K H a vs := h.imp (·.1) id
mutual
inductive Rep (G : G0) (μ : Mu) (H : Hp) : D → V → Prop
  | non : Rep G μ H .non .non
  | bl (b : Bool) : Rep G μ H (.bl b) (.bl b)
  | int (i : Int) : Rep G μ H (.int i) (.int i)
  | str (x : Str) : Rep G μ H (.str x) (.str x)
  | tup {a : Addr} {vs : List V} {ds : List D} (s : H a = some (.tup vs)) (r : Reps G μ H ds vs) : Rep G μ H (.tup ds) (.ref a)
  | lst {a : Addr} {vs : List V} {ds : List D} (s : Lz μ H a vs) (r : Reps G μ H ds vs) : Rep G μ H (.lst ds) (.ref a)
  | ref {l : Nat} {a : Addr} (h : μ.pl[l]? = some a) : Rep G μ H (.ref l) (.ref a)
  | scr {ns : List Int} {a : Addr} (s : Lq G μ H a (ns.map V.int)) : Rep G μ H (.scr ns) (.ref a)
  | ty (n : String) : Rep G μ H (.ty n) (.ty n)
inductive Reps (G : G0) (μ : Mu) (H : Hp) : List D → List V → Prop
  | nil : Reps G μ H [] []
  | cons {d : D} {v : V} {ds : List D} {vs : List V} (h : Rep G μ H d v) (t : Reps G μ H ds vs) : Reps G μ H (d :: ds) (v :: vs)
end
/-- what nobody of ours writes: dicts of exceptions, things told by what is true of them -/
def Fx : HO → Prop
  | .xd _ => True
  | .ext _ => True
  | _ => False
/-- further on: new places, the tuples that stood stand -/
structure Ext (G : G0) (μ : Mu) (H : Hp) (μ' : Mu) (H' : Hp) : Prop where
  pre : ∃ more, μ'.pl = μ.pl ++ more
  hid : μ'.hd = μ.hd
  kept : ∀ a ∈ μ.hd, H' a = H a
  tup : ∀ a vs, H a = some (.tup vs) → H' a = some (.tup vs)
  raw : ∀ a u, H a = some u → a ∉ μ.pl → a ∉ μ.hd → (∃ vs, u = .lst vs ∨ ∃ o, u = .frz o (.lst vs)) → H' a = some u ∧ a ∉ μ'.pl
  xd : ∀ a u, H a = some u → Fx u → H' a = some u
  dom : ∀ a, H' a = none → H a = none
theorem Ext.refl {G : G0} {μ : Mu} {H : Hp} : Ext G μ H μ H := ⟨⟨[], by simp⟩, rfl, fun _ _ => rfl, fun _ _ h => h, fun _ _ h n _ _ => ⟨h, n⟩, fun _ _ h _ => h, fun _ h => h⟩
theorem Ext.trans {G : G0} {μ1 μ2 μ3 : Mu} {H1 H2 H3 : Hp} (a : Ext G μ1 H1 μ2 H2) (b : Ext G μ2 H2 μ3 H3) : Ext G μ1 H1 μ3 H3 := by
  obtain ⟨x, hx⟩ := a.pre
  obtain ⟨y, hy⟩ := b.pre
  exact ⟨⟨x ++ y, by rw [hy, hx, List.append_assoc]⟩, b.hid.trans a.hid, fun c hc => (b.kept c (by rw [a.hid]; exact hc)).trans (a.kept c hc), fun c vs h => b.tup c vs (a.tup c vs h), fun c u h n m q => let ⟨h1, h2⟩ := a.raw c u h n m q; b.raw c u h1 h2 (by rw [a.hid]; exact m) q, fun c u h q => b.xd c u (a.xd c u h q) q, fun c h => a.dom c (b.dom c h)⟩
theorem Ext.lst {G : G0} {μ μ' : Mu} {H H' : Hp} (e : Ext G μ H μ' H') (a : Addr) (vs : List V) (h : Lz μ H a vs) : Lz μ' H' a vs := by
  obtain ⟨h, n, m⟩ := h
  obtain ⟨h1, h2⟩ := e.raw a _ h n m ⟨vs, .inl rfl⟩
  exact ⟨h1, h2, by rw [e.hid]; exact m⟩
theorem Ext.lq {G : G0} {μ μ' : Mu} {H H' : Hp} (e : Ext G μ H μ' H') (a : Addr) (vs : List V) (h : Lq G μ H a vs) : Lq G μ' H' a vs := by
  rcases h with ⟨h | ⟨o, h⟩, n, m⟩ | h
  · obtain ⟨h1, h2⟩ := e.raw a _ h n m ⟨vs, .inl rfl⟩
    exact .inl ⟨.inl h1, h2, by rw [e.hid]; exact m⟩
  · obtain ⟨h1, h2⟩ := e.raw a _ h n m ⟨vs, .inr ⟨o, rfl⟩⟩
    exact .inl ⟨.inr ⟨o, h1⟩, h2, by rw [e.hid]; exact m⟩
  · exact .inr h
theorem Ext.at {G : G0} {μ μ' : Mu} {H H' : Hp} (e : Ext G μ H μ' H') {l : Nat} {a : Addr} (h : μ.pl[l]? = some a) : μ'.pl[l]? = some a := by
  obtain ⟨x, hx⟩ := e.pre
  have hl : l < μ.pl.length := (List.getElem?_eq_some_iff.mp h).1
  rw [hx, List.getElem?_append_left hl]
  exact h
/-- the same, but for what is hidden -/
structure Ext0 (G : G0) (μ : Mu) (H : Hp) (μ' : Mu) (H' : Hp) : Prop where
  at_ : ∀ (l : Nat) (a : Addr), μ.pl[l]? = some a → μ'.pl[l]? = some a
  tup : ∀ a vs, H a = some (.tup vs) → H' a = some (.tup vs)
  lst : ∀ a vs, Lz μ H a vs → Lz μ' H' a vs
  lq : ∀ a vs, Lq G μ H a vs → Lq G μ' H' a vs
theorem Ext.to0 {G : G0} {μ μ' : Mu} {H H' : Hp} (e : Ext G μ H μ' H') : Ext0 G μ H μ' H' := ⟨fun _ _ h => e.at h, e.tup, e.lst, e.lq⟩
mutual
theorem Rep.ext0 {G : G0} {μ μ' : Mu} {H H' : Hp} (e : Ext0 G μ H μ' H') : ∀ {d : D} {v : V}, Rep G μ H d v → Rep G μ' H' d v
  | _, _, .non => .non
  | _, _, .bl b => .bl b
  | _, _, .int i => .int i
  | _, _, .str x => .str x
  | _, _, .tup s r => .tup (e.tup _ _ s) (Reps.ext0 e r)
  | _, _, .ref h => .ref (e.at_ _ _ h)
  | _, _, .scr s => .scr (e.lq _ _ s)
  | _, _, .lst s r => .lst (e.lst _ _ s) (Reps.ext0 e r)
  | _, _, .ty n => .ty n
theorem Reps.ext0 {G : G0} {μ μ' : Mu} {H H' : Hp} (e : Ext0 G μ H μ' H') : ∀ {ds : List D} {vs : List V}, Reps G μ H ds vs → Reps G μ' H' ds vs
  | _, _, .nil => .nil
  | _, _, .cons h t => .cons (Rep.ext0 e h) (Reps.ext0 e t)
end
theorem Rep.ext {G : G0} {μ μ' : Mu} {H H' : Hp} (e : Ext G μ H μ' H') {d : D} {v : V} (r : Rep G μ H d v) : Rep G μ' H' d v := r.ext0 e.to0
theorem Reps.ext {G : G0} {μ μ' : Mu} {H H' : Hp} (e : Ext G μ H μ' H') {ds : List D} {vs : List V} (r : Reps G μ H ds vs) : Reps G μ' H' ds vs := r.ext0 e.to0
section
variable {G : G0} {μ : Mu} {H : Hp}
theorem Reps.length : ∀ {ds : List D} {vs : List V}, Reps G μ H ds vs → ds.length = vs.length
  | _, _, .nil => rfl
  | _, _, .cons _ t => congrArg (· + 1) (Reps.length t)
theorem Reps.get : ∀ {ds : List D} {vs : List V} (i : Nat) {d : D}, Reps G μ H ds vs → ds[i]? = some d → ∃ v, vs[i]? = some v ∧ Rep G μ H d v
  | _, _, _, _, .nil, e => by simp at e
  | _, _, 0, _, .cons h _, e => by simp at e; subst e; exact ⟨_, rfl, h⟩
  | _, _, i + 1, d, .cons _ t, e => by
    obtain ⟨v, h1, h2⟩ := Reps.get (ds := _) i (d := d) t (by simpa using e)
    exact ⟨v, by simpa using h1, h2⟩
theorem Reps.get' : ∀ {ds : List D} {vs : List V} (i : Nat) {v : V}, Reps G μ H ds vs → vs[i]? = some v → ∃ d, ds[i]? = some d ∧ Rep G μ H d v
  | _, _, _, _, .nil, e => by simp at e
  | _, _, 0, _, .cons h _, e => by simp at e; subst e; exact ⟨_, rfl, h⟩
  | _, _, i + 1, v, .cons _ t, e => by
    obtain ⟨d, h1, h2⟩ := Reps.get' (vs := _) i (v := v) t (by simpa using e)
    exact ⟨d, by simpa using h1, h2⟩
theorem Reps.append : ∀ {ds es : List D} {vs ws : List V}, Reps G μ H ds vs → Reps G μ H es ws → Reps G μ H (ds ++ es) (vs ++ ws)
  | _, _, _, _, .nil, s => s
  | _, _, _, _, .cons h t, s => .cons h (Reps.append t s)
theorem Reps.drop : ∀ {ds : List D} {vs : List V} (n : Nat), Reps G μ H ds vs → Reps G μ H (ds.drop n) (vs.drop n)
  | _, _, 0, r => r
  | _, _, _ + 1, .nil => .nil
  | _, _, n + 1, .cons _ t => Reps.drop n t
theorem Reps.take : ∀ {ds : List D} {vs : List V} (n : Nat), Reps G μ H ds vs → Reps G μ H (ds.take n) (vs.take n)
  | _, _, 0, _ => .nil
  | _, _, _ + 1, .nil => .nil
  | _, _, n + 1, .cons h t => .cons h (Reps.take n t)
theorem Reps.set {d : D} {v : V} (r : Rep G μ H d v) : ∀ {ds : List D} {vs : List V} (i : Nat), Reps G μ H ds vs → Reps G μ H (ds.set i d) (vs.set i v)
  | _, _, _, .nil => .nil
  | _, _, 0, .cons _ t => .cons r t
  | _, _, i + 1, .cons h t => .cons h (Reps.set r i t)
theorem Reps.ints : ∀ ns : List Int, Reps G μ H (ns.map D.int) (ns.map V.int)
  | [] => .nil
  | i :: r => .cons (.int i) (Reps.ints r)
end
/-- values of dicts, fields -/
def RKs (G : G0) (μ : Mu) (H : Hp) {α : Type} (ds : List (α × D)) (vs : List (α × V)) : Prop := ds.map (·.1) = vs.map (·.1) ∧ Reps G μ H (ds.map (·.2)) (vs.map (·.2))
theorem RKs.ext0 {G : G0} {μ μ' : Mu} {H H' : Hp} {α : Type} {ds : List (α × D)} {vs : List (α × V)} (e : Ext0 G μ H μ' H') (h : RKs G μ H ds vs) : RKs G μ' H' ds vs := ⟨h.1, h.2.ext0 e⟩
theorem RKs.ext {G : G0} {μ μ' : Mu} {H H' : Hp} {α : Type} {ds : List (α × D)} {vs : List (α × V)} (e : Ext G μ H μ' H') (h : RKs G μ H ds vs) : RKs G μ' H' ds vs := ⟨h.1, h.2.ext e⟩
def ORep (G : G0) (μ : Mu) (H : Hp) (o : O) (a : Addr) : Prop := match o with
  | .lst ds => ∃ vs, H a = some (.lst vs) ∧ Reps G μ H ds vs
  | .dead => H a ≠ none
  | .dK kvs => ∃ vs, H a = some (.dK vs) ∧ RKs G μ H kvs vs
  | .dT kvs => ∃ vs, H a = some (.dT vs) ∧ RKs G μ H kvs vs
  | .ins c fs => ∃ C dx vs, G.mg c = some (.ref C) ∧ H a = some (.ins C dx vs) ∧ RKs G μ H fs vs
/-- what a place of ours may hold: nothing that others lean on -/
def Own : HO → Prop
  | .lst _ => True
  | .dK _ => True
  | .dT _ => True
  | .ins _ _ _ => True
  | _ => False
structure StR (G : G0) (μ : Mu) (st : Sto) (H : Hp) : Prop where
  len : μ.pl.length = st.length
  obj : ∀ (l : Nat) (o : O) (a : Addr), st[l]? = some o → μ.pl[l]? = some a → ORep G μ H o a
  own : ∀ a ∈ μ.pl, ∃ u, H a = some u ∧ Own u
  nd : μ.pl.Nodup
  dis : ∀ a ∈ μ.hd, a ∉ μ.pl ∧ ∃ vs, H a = some (.lst vs)
  tab : ∀ P ∈ G.Ps, TabG H P
  lab : ∀ p ∈ G.Ls, LamX.TabS H p.1 p.2
  dj : ∀ p ∈ G.Ls, p.1 ∉ G.Ps
theorem fx_own {u : HO} (h : Fx u) : ¬ Own u := by cases u <;> first | exact h.elim | exact fun z => z
theorem tabS_keep {H H' : Hp} {P : Addr} {q : Str} (t : LamX.TabS H P q) (h1 : ∀ ps, H P = some (.tbl ps) → H' P = some (.tbl ps)) (h2 : ∀ a u, H a = some u → Fx u → H' a = some u) : LamX.TabS H' P q := by
  obtain ⟨ps, e1, e2, e3⟩ := t
  refine ⟨ps, h1 _ e1, e2, fun pos cv hc => ?_⟩
  obtain ⟨c, z, e⟩ := e3 pos cv hc
  exact ⟨c, z, h2 c _ e trivial⟩
theorem tabS_new {H : Hp} {p P : Addr} {o : HO} {q : Str} (hp : H p = none) (t : LamX.TabS H P q) : LamX.TabS (upd H p o) P q :=
  tabS_keep t (fun _ e => by rw [upd_ne (ne_of_none e hp)]; exact e) fun _ _ e _ => by rw [upd_ne (ne_of_none e hp)]; exact e
theorem tabS_own {H : Hp} {p P : Addr} {o u : HO} {q : Str} (hp : H p = some u) (hu : Own u) (t : LamX.TabS H P q) : LamX.TabS (upd H p o) P q :=
  tabS_keep t (fun _ e => by rw [upd_ne (fun z : P = p => by rw [z, hp] at e; cases e; exact hu)]; exact e) fun a v e f => by
    rw [upd_ne (fun z : a = p => by rw [z, hp] at e; cases e; exact fx_own f hu)]; exact e
section
variable {G : G0} {μ μ' : Mu} {st : Sto} {H H' : Hp}
theorem StR.at (S : StR G μ st H) {l : Nat} {o : O} (h : st[l]? = some o) : ∃ a, μ.pl[l]? = some a ∧ ORep G μ H o a := by
  have hl : l < μ.pl.length := by rw [S.len]; exact (List.getElem?_eq_some_iff.mp h).1
  exact ⟨μ.pl[l], by simp [hl], S.obj l o _ h (by simp [hl])⟩
theorem StR.tracked (S : StR G μ st H) {a : Addr} (h : a ∈ μ.pl) : H a ≠ none := by
  obtain ⟨u, e, _⟩ := S.own a h
  rw [e]; intro z; cases z
theorem StR.hid_ne (S : StR G μ st H) {a p : Addr} (h : a ∈ μ.hd) (hp : H p = none) : a ≠ p := fun z => by
  obtain ⟨_, vs, e⟩ := S.dis a h
  rw [z, hp] at e; cases e
theorem ORep.ext0 {o : O} {a : Addr} (e : Ext0 G μ H μ' H') (hs : ∀ x, H a = some x → H' a = some x) (h : ORep G μ H o a) : ORep G μ' H' o a := by
  cases o with
  | lst ds =>
    obtain ⟨vs, h1, h2⟩ := h
    exact ⟨vs, hs _ h1, h2.ext0 e⟩
  | dead =>
    intro z
    have h : H a ≠ none := h
    cases q : H a with
    | none => exact h q
    | some x => rw [hs x q] at z; cases z
  | dK ds =>
    obtain ⟨vs, h1, h2⟩ := h
    exact ⟨vs, hs _ h1, h2.ext0 e⟩
  | dT ds =>
    obtain ⟨vs, h1, h2⟩ := h
    exact ⟨vs, hs _ h1, h2.ext0 e⟩
  | ins c fs =>
    obtain ⟨C, dx, vs, h0, h1, h2⟩ := h
    exact ⟨C, dx, vs, h0, hs _ h1, h2.ext0 e⟩
theorem ORep.ext {o : O} {a : Addr} (e : Ext G μ H μ' H') (hs : ∀ x, H a = some x → H' a = some x) (h : ORep G μ H o a) : ORep G μ' H' o a := h.ext0 e.to0 hs
/-- a fresh address is none of ours -/
theorem sqT_new {p : Addr} {o : HO} (hp : H p = none) {b : Addr} {vs : List V} (h : H b = some (.tup vs)) : upd H p o b = some (.tup vs) := by
  rw [upd_ne (ne_of_none h hp)]; exact h
theorem rd_new {p a : Addr} {o u : HO} (hp : H p = none) (h : Rd H a u) : Rd (upd H p o) a u := by
  rcases h with h | ⟨ob, h⟩
  · exact .inl (by rw [upd_ne (ne_of_none h hp)]; exact h)
  · exact .inr ⟨ob, by rw [upd_ne (ne_of_none h hp)]; exact h⟩
theorem rd_ne {p a : Addr} {u : HO} (hp : H p = none) (h : Rd H a u) : a ≠ p := by
  rcases h with h | ⟨ob, h⟩
  · exact ne_of_none h hp
  · exact ne_of_none h hp
theorem xd_new {p : Addr} {o u : HO} (hp : H p = none) {b : Addr} (h : H b = some u) : upd H p o b = some u := by
  rw [upd_ne (ne_of_none h hp)]; exact h
theorem dom_upd {p : Addr} {o : HO} (b : Addr) (h : upd H p o b = none) : H b = none := by
  by_cases e : b = p
  · rw [e, upd_same] at h; cases h
  · rw [upd_ne e] at h; exact h
theorem Ext.new (S : StR G μ st H) {p : Addr} {o : HO} (hp : H p = none) : Ext G μ H μ (upd H p o) := ⟨⟨[], by simp⟩, rfl, fun a ha => upd_ne (S.hid_ne ha hp), fun _ _ h => sqT_new hp h, fun _ _ h n _ _ => ⟨by rw [upd_ne (ne_of_none h hp)]; exact h, n⟩, fun _ _ h _ => xd_new hp h, dom_upd⟩
theorem Ext.newAt (S : StR G μ st H) {p : Addr} {o : HO} (hp : H p = none) : Ext G μ H (μ.add p) (upd H p o) := ⟨⟨[p], rfl⟩, rfl, fun a ha => upd_ne (S.hid_ne ha hp), fun _ _ h => sqT_new hp h, fun a _ h n _ _ => ⟨by rw [upd_ne (ne_of_none h hp)]; exact h, fun z => by
  rcases List.mem_append.mp z with z | z
  · exact n z
  · simp at z; subst z; rw [hp] at h; cases h⟩, fun _ _ h _ => xd_new hp h, dom_upd⟩
theorem tabG_new {p P : Addr} {o : HO} (hp : H p = none) (h : TabG H P) : TabG (upd H p o) P := by
  obtain ⟨ps, h1, h2⟩ := h
  exact ⟨ps, by rw [upd_ne (ne_of_none h1 hp)]; exact h1, h2⟩
/-- something new that no place tells of: a tuple, a list that is not written -/
theorem StR.newT (S : StR G μ st H) {p : Addr} {o : HO} (hp : H p = none) : StR G μ st (upd H p o) where
  len := S.len
  obj := fun l ob a h1 h2 => (S.obj l ob a h1 h2).ext (Ext.new S hp) fun x hx => by rw [upd_ne (ne_of_none hx hp)]; exact hx
  own := fun a ha => by
    obtain ⟨u, e, w⟩ := S.own a ha
    exact ⟨u, by rw [upd_ne (ne_of_none e hp)]; exact e, w⟩
  nd := S.nd
  dis := fun a ha => by
    obtain ⟨h1, vs, h2⟩ := S.dis a ha
    exact ⟨h1, vs, by rw [upd_ne (S.hid_ne ha hp)]; exact h2⟩
  tab := fun P hP => tabG_new hp (S.tab P hP)
  lab := fun p h => tabS_new hp (S.lab p h)
  dj := S.dj
/-- a new place -/
theorem StR.newO (S : StR G μ st H) {p : Addr} {ho : HO} {o : O} (hp : H p = none) (hw : Own ho) (r : ORep G (μ.add p) (upd H p ho) o p) : StR G (μ.add p) (st ++ [o]) (upd H p ho) where
  len := by simp [Mu.add, S.len]
  obj := fun l ob a h1 h2 => by
    have h2 : (μ.pl ++ [p])[l]? = some a := h2
    by_cases hl : l < st.length
    · rw [List.getElem?_append_left hl] at h1
      rw [List.getElem?_append_left (by rw [S.len]; exact hl)] at h2
      exact (S.obj l ob a h1 h2).ext (Ext.newAt S hp) fun x hx => by rw [upd_ne (ne_of_none hx hp)]; exact hx
    · rw [List.getElem?_append_right (by omega)] at h1
      rw [List.getElem?_append_right (by rw [S.len]; omega)] at h2
      have e1 : l - st.length = 0 := by
        have := (List.getElem?_eq_some_iff.mp h1).1
        simp at this; omega
      have e2 : l - μ.pl.length = 0 := by rw [S.len]; exact e1
      rw [e1] at h1; rw [e2] at h2
      simp at h1 h2
      subst h1; subst h2
      exact r
  own := fun a ha => by
    rcases List.mem_append.mp ha with z | z
    · obtain ⟨u, e, w⟩ := S.own a z
      exact ⟨u, by rw [upd_ne (ne_of_none e hp)]; exact e, w⟩
    · simp at z; subst z; exact ⟨ho, upd_same, hw⟩
  nd := by
    show (μ.pl ++ [p]).Nodup
    rw [List.nodup_append]
    refine ⟨S.nd, by simp, fun a ha b hb => ?_⟩
    simp at hb
    subst hb
    intro e
    subst e
    exact S.tracked ha hp
  dis := fun a ha => by
    obtain ⟨h1, vs, h2⟩ := S.dis a ha
    refine ⟨fun z => ?_, vs, by rw [upd_ne (S.hid_ne ha hp)]; exact h2⟩
    rcases List.mem_append.mp z with z | z
    · exact h1 z
    · simp at z; exact S.hid_ne ha hp z
  tab := fun P hP => tabG_new hp (S.tab P hP)
  lab := fun p h => tabS_new hp (S.lab p h)
  dj := S.dj
/-- a new list -/
theorem StR.newL (S : StR G μ st H) {p : Addr} {ds : List D} {vs : List V} (hp : H p = none) (r : Reps G μ H ds vs) : StR G (μ.add p) (st ++ [.lst ds]) (upd H p (.lst vs)) :=
  S.newO hp trivial ⟨vs, upd_same, r.ext (Ext.newAt S hp)⟩
/-- a place is written -/
theorem own_ne {p b : Addr} {u v : HO} (hp : H p = some u) (hu : Own u) (hb : H b = some v) (hv : ¬ Own v) : b ≠ p := fun e => by
  subst e
  rw [hp] at hb
  cases hb
  exact hv hu
theorem sqT_own {p : Addr} {u y : HO} (hp : H p = some u) (hu : Own u) {b : Addr} {vs : List V} (h : H b = some (.tup vs)) : upd H p y b = some (.tup vs) := by
  rw [upd_ne (own_ne hp hu h (fun z => z))]; exact h
theorem Ext.own (S : StR G μ st H) {p : Addr} {u y : HO} (hm : p ∈ μ.pl) (hp : H p = some u) (hu : Own u) : Ext G μ H μ (upd H p y) :=
  ⟨⟨[], by simp⟩, rfl, fun a ha => upd_ne (fun z : a = p => (S.dis a ha).1 (by rw [z]; exact hm)), fun _ _ h => sqT_own hp hu h, fun a _ h n _ _ => ⟨by rw [upd_ne (fun z : a = p => n (by rw [z]; exact hm))]; exact h, n⟩, fun _ _ h q => by rw [upd_ne (own_ne hp hu h (fx_own q))]; exact h, dom_upd⟩
theorem nd_get {μ : List Addr} (hn : μ.Nodup) {i j : Nat} {a : Addr} (h1 : μ[i]? = some a) (h2 : μ[j]? = some a) : i = j := by
  obtain ⟨h1, e1⟩ := List.getElem?_eq_some_iff.mp h1
  obtain ⟨h2, e2⟩ := List.getElem?_eq_some_iff.mp h2
  exact (List.getElem_inj hn).mp (e1.trans e2.symm)
theorem StR.setO (S : StR G μ st H) {l : Nat} {p : Addr} {y : HO} {o : O} (hl : μ.pl[l]? = some p) (hy : Own y) (r : ORep G μ (upd H p y) o p) : StR G μ (st.set l o) (upd H p y) := by
  have hm : p ∈ μ.pl := List.mem_of_getElem? hl
  obtain ⟨u, hp, hu⟩ := S.own p hm
  refine ⟨by simp [S.len], fun k ob a h1 h2 => ?_, fun a ha => ?_, S.nd, fun a ha => ?_, fun P hP => ?_, fun q hq => tabS_own hp hu (S.lab q hq), S.dj⟩
  · by_cases hk : k = l
    · subst hk
      rw [hl] at h2; cases h2
      have hlt : k < st.length := by rw [← S.len]; exact (List.getElem?_eq_some_iff.mp hl).1
      rw [List.getElem?_set_self hlt] at h1
      cases h1
      exact r
    · rw [List.getElem?_set_ne (Ne.symm hk)] at h1
      have ne : a ≠ p := fun e => by subst e; exact hk (nd_get S.nd h2 hl)
      exact (S.obj k ob a h1 h2).ext (Ext.own S hm hp hu) fun x hx => by rw [upd_ne ne]; exact hx
  · by_cases e : a = p
    · subst e; exact ⟨y, upd_same, hy⟩
    · obtain ⟨v, h1, h2⟩ := S.own a ha
      exact ⟨v, by rw [upd_ne e]; exact h1, h2⟩
  · obtain ⟨h1, vs, h2⟩ := S.dis a ha
    exact ⟨h1, vs, by rw [upd_ne (fun z : a = p => h1 (by rw [z]; exact hm))]; exact h2⟩
  · obtain ⟨ps, h1, h2⟩ := S.tab P hP
    exact ⟨ps, by rw [upd_ne (own_ne hp hu h1 (fun z => z))]; exact h1, h2⟩
theorem Ext.set (S : StR G μ st H) {l : Nat} {p : Addr} {y : HO} (hl : μ.pl[l]? = some p) : Ext G μ H μ (upd H p y) := by
  have hm : p ∈ μ.pl := List.mem_of_getElem? hl
  obtain ⟨u, hp, hu⟩ := S.own p hm
  exact Ext.own S hm hp hu
theorem StR.setL (S : StR G μ st H) {l : Nat} {p : Addr} {ds : List D} {vs : List V} (hl : μ.pl[l]? = some p) (r : Reps G μ H ds vs) : StR G μ (st.set l (.lst ds)) (upd H p (.lst vs)) :=
  S.setO hl trivial ⟨vs, upd_same, r.ext (Ext.set S hl)⟩
/-- a place is let go -/
theorem StR.drop (S : StR G μ st H) {l : Nat} : StR G μ (st.set l .dead) H where
  len := by simp [S.len]
  obj := fun k ob a h1 h2 => by
    by_cases hk : k = l
    · subst hk
      have hlt : k < st.length := by rw [← S.len]; exact (List.getElem?_eq_some_iff.mp h2).1
      rw [List.getElem?_set_self hlt] at h1
      cases h1
      exact S.tracked (List.mem_of_getElem? h2)
    · rw [List.getElem?_set_ne (Ne.symm hk)] at h1
      exact S.obj k ob a h1 h2
  own := S.own
  nd := S.nd
  dis := S.dis
  tab := S.tab
  lab := S.lab
  dj := S.dj
/-- a table has grown -/
theorem sqT_tab {P : Addr} (hP : TabG H P) (t : Tabbed P H H') {b : Addr} {vs : List V} (h : H b = some (.tup vs)) : H' b = some (.tup vs) := by
  obtain ⟨ps, hp, _⟩ := hP
  rw [t.2 b (ne_of h hp (by intro z; cases z))]; exact h
theorem Ext.tabbed (S : StR G μ st H) {P : Addr} (hP : TabG H P) (t : Tabbed P H H') : Ext G μ H μ H' := ⟨⟨[], by simp⟩, rfl, fun a ha => by
  obtain ⟨ps, hp, _⟩ := hP
  obtain ⟨_, vs, e⟩ := S.dis a ha
  exact t.2 a (fun z => by rw [z, hp] at e; cases e), fun _ _ h => sqT_tab hP t h, fun a u h n _ q => ⟨by
  obtain ⟨ps, hp, _⟩ := hP
  have ne : a ≠ P := fun z => by
    subst z; rw [h] at hp; cases hp
    obtain ⟨vs, q | ⟨o, q⟩⟩ := q
    · cases q
    · cases q
  rw [t.2 a ne]; exact h, n⟩, fun a u h q => by
  obtain ⟨ps, hp, _⟩ := hP
  rw [t.2 a (ne_of h hp (by intro z; subst z; exact q))]; exact h, fun a h => by
  by_cases e : a = P
  · obtain ⟨ps, hp, _⟩ := t.1
    rw [e, hp] at h; cases h
  · rw [t.2 a e] at h; exact h⟩
theorem StR.tabbed (S : StR G μ st H) {P : Addr} (hm : P ∈ G.Ps) (hP : TabG H P) (t : Tabbed P H H') : StR G μ st H' where
  len := S.len
  obj := fun l ob a h1 h2 => (S.obj l ob a h1 h2).ext (Ext.tabbed S hP t) fun x hx => by
    obtain ⟨ps, hp, _⟩ := hP
    obtain ⟨u, e, w⟩ := S.own a (List.mem_of_getElem? h2)
    have ne : a ≠ P := fun z => by subst z; rw [e] at hp; cases hp; exact w
    rw [t.2 a ne]; exact hx
  own := fun a ha => by
    obtain ⟨ps, hp, _⟩ := hP
    obtain ⟨u, e, w⟩ := S.own a ha
    have ne : a ≠ P := fun z => by subst z; rw [e] at hp; cases hp; exact w
    exact ⟨u, by rw [t.2 a ne]; exact e, w⟩
  nd := S.nd
  dis := fun a ha => by
    obtain ⟨ps, hp, _⟩ := hP
    obtain ⟨h1, vs, e⟩ := S.dis a ha
    exact ⟨h1, vs, by rw [t.2 a (fun z => by rw [z, hp] at e; cases e)]; exact e⟩
  tab := fun Q hQ => by
    by_cases e : Q = P
    · subst e; exact t.1
    · obtain ⟨ps, h1, h2⟩ := S.tab Q hQ
      exact ⟨ps, by rw [t.2 Q e]; exact h1, h2⟩
  lab := fun q hq => by
    obtain ⟨ps, hp, _⟩ := hP
    exact tabS_keep (S.lab q hq) (fun _ e => by rw [t.2 _ (fun z : q.1 = P => S.dj q hq (by rw [z]; exact hm))]; exact e) fun a u e f => by
      rw [t.2 a (ne_of e hp (by intro z; subst z; exact f))]; exact e
  dj := S.dj
theorem StR.hide (S : StR G μ st H) {p : Addr} (hp : H p = none) : StR G (μ.hide p) st (upd H p (.lst [])) := by
  have x0 : Ext0 G μ H (μ.hide p) (upd H p (.lst [])) := ⟨fun _ _ h => h, fun _ _ h => sqT_new hp h, fun a vs h => ⟨by rw [upd_ne (ne_of_none h.1 hp)]; exact h.1, h.2.1, fun z => by
    rcases List.mem_cons.mp z with z | z
    · exact ne_of_none h.1 hp z
    · exact h.2.2 z⟩, fun a vs h => h.imp (fun h => ⟨rd_new hp h.1, h.2.1, fun z => by
    rcases List.mem_cons.mp z with z | z
    · exact rd_ne hp h.1 z
    · exact h.2.2 z⟩) id⟩
  refine ⟨S.len, fun l o a h1 h2 => (S.obj l o a h1 h2).ext0 x0 fun x hx => by rw [upd_ne (ne_of_none hx hp)]; exact hx, fun a ha => ?_, S.nd, fun a ha => ?_, fun P hP => tabG_new hp (S.tab P hP), fun p h => tabS_new hp (S.lab p h), S.dj⟩
  · obtain ⟨u, e, w⟩ := S.own a ha
    exact ⟨u, by rw [upd_ne (ne_of_none e hp)]; exact e, w⟩
  · rcases List.mem_cons.mp ha with z | z
    · subst z; exact ⟨fun z => S.tracked z hp, [], upd_same⟩
    · obtain ⟨h1, vs, h2⟩ := S.dis a z
      exact ⟨h1, vs, by rw [upd_ne (S.hid_ne z hp)]; exact h2⟩
theorem Ext0.hide {p : Addr} (hp : H p = none) : Ext0 G μ H (μ.hide p) (upd H p (.lst [])) := ⟨fun _ _ h => h, fun _ _ h => sqT_new hp h, fun a vs h => ⟨by rw [upd_ne (ne_of_none h.1 hp)]; exact h.1, h.2.1, fun z => by
    rcases List.mem_cons.mp z with z | z
    · exact ne_of_none h.1 hp z
    · exact h.2.2 z⟩, fun a vs h => h.imp (fun h => ⟨rd_new hp h.1, h.2.1, fun z => by
    rcases List.mem_cons.mp z with z | z
    · exact rd_ne hp h.1 z
    · exact h.2.2 z⟩) id⟩
theorem Ext0.bare {μ : Mu} {hd : List Addr} {p : Addr} (e : μ.hd = p :: hd) : Ext0 G μ H ⟨μ.pl, hd⟩ H := ⟨fun _ _ h => h, fun _ _ h => h, fun a vs h => ⟨h.1, h.2.1, fun z => h.2.2 (by rw [e]; exact List.mem_cons_of_mem _ z)⟩, fun a vs h => h.imp (fun h => ⟨h.1, h.2.1, fun z => h.2.2 (by rw [e]; exact List.mem_cons_of_mem _ z)⟩) id⟩
theorem StR.bare (S : StR G μ st H) {hd : List Addr} {p : Addr} (e : μ.hd = p :: hd) : StR G ⟨μ.pl, hd⟩ st H :=
  ⟨S.len, fun l o a h1 h2 => (S.obj l o a h1 h2).ext0 (Ext0.bare e) fun _ h => h, S.own, S.nd, fun a ha => S.dis a (by rw [e]; exact List.mem_cons_of_mem _ ha), S.tab, S.lab, S.dj⟩
theorem Ext.bare {p : Addr} (hn : p ∉ μ.hd) (hp : H p = none) (x : Ext G (μ.hide p) (upd H p (.lst [])) μ' H') (ex : ∀ a ∈ μ.hd, H' a = H a) : Ext G μ H ⟨μ'.pl, μ.hd⟩ H' where
  pre := x.pre
  hid := rfl
  kept := ex
  tup := fun a vs h => x.tup a vs (sqT_new hp h)
  raw := fun a u h n m q => by
    have ne : a ≠ p := ne_of_none h hp
    exact x.raw a u (by rw [upd_ne ne]; exact h) n (fun z => by
      rcases List.mem_cons.mp z with z | z
      · exact ne z
      · exact m z) q
  xd := fun a u h q => x.xd a u (xd_new hp h) q
  dom := fun a h => dom_upd a (x.dom a h)
/-- what is hidden is written -/
theorem Ext0.hset {p : Addr} {y : HO} {xs : List V} (hm : p ∈ μ.hd) (hp : H p = some (.lst xs)) : Ext0 G μ H μ (upd H p y) := ⟨fun _ _ h => h, fun b vs h => by
  rw [upd_ne (ne_of h hp (by intro z; cases z))]; exact h, fun a vs h => ⟨by
    have ne : a ≠ p := fun z => h.2.2 (by rw [z]; exact hm)
    rw [upd_ne ne]; exact h.1, h.2⟩, fun a vs h => h.imp (fun h => ⟨by
    have ne : a ≠ p := fun z => h.2.2 (by rw [z]; exact hm)
    rcases h.1 with h | ⟨ob, h⟩
    · exact .inl (by rw [upd_ne ne]; exact h)
    · exact .inr ⟨ob, by rw [upd_ne ne]; exact h⟩, h.2⟩) id⟩
theorem StR.hset (S : StR G μ st H) {p : Addr} {ys : List V} (hm : p ∈ μ.hd) : StR G μ st (upd H p (.lst ys)) := by
  obtain ⟨h1, xs, hp⟩ := S.dis p hm
  refine ⟨S.len, fun l o a q1 q2 => (S.obj l o a q1 q2).ext0 (Ext0.hset hm hp) fun x hx => ?_, fun a ha => ?_, S.nd, fun a ha => ?_, fun P hP => ?_, fun q hq => tabS_own hp trivial (S.lab q hq), S.dj⟩
  · rw [upd_ne (fun z : a = p => h1 (by rw [← z]; exact List.mem_of_getElem? q2))]; exact hx
  · obtain ⟨u, e, w⟩ := S.own a ha
    exact ⟨u, by rw [upd_ne (fun z : a = p => h1 (by rw [← z]; exact ha))]; exact e, w⟩
  · by_cases z : a = p
    · subst z; exact ⟨h1, ys, upd_same⟩
    · obtain ⟨q1, vs, q2⟩ := S.dis a ha
      exact ⟨q1, vs, by rw [upd_ne z]; exact q2⟩
  · obtain ⟨ps, e, w⟩ := S.tab P hP
    exact ⟨ps, by rw [upd_ne (ne_of e hp (by intro z; cases z))]; exact e, w⟩
end
/-- the slots' values -/
structure EnvR (G : G0) (μ : Mu) (H : Hp) (ρ : Rho) (σ : L2.St) : Prop where
  len : σ.length = ρ.length
  get : ∀ (i : Nat) (d : D), ρ[i]? = some (some d) → ∃ v, σ[i]? = some (some v) ∧ Rep G μ H d v
theorem EnvR.ext {G : G0} {μ μ' : Mu} {H H' : Hp} {ρ : Rho} {σ : L2.St} (E : EnvR G μ H ρ σ) (e : Ext G μ H μ' H') : EnvR G μ' H' ρ σ :=
  ⟨E.len, fun i d h => let ⟨v, h1, h2⟩ := E.get i d h; ⟨v, h1, h2.ext e⟩⟩
theorem EnvR.ext0 {G : G0} {μ μ' : Mu} {H H' : Hp} {ρ : Rho} {σ : L2.St} (E : EnvR G μ H ρ σ) (e : Ext0 G μ H μ' H') : EnvR G μ' H' ρ σ :=
  ⟨E.len, fun i d h => let ⟨v, h1, h2⟩ := E.get i d h; ⟨v, h1, h2.ext0 e⟩⟩
theorem EnvR.set {G : G0} {μ : Mu} {H : Hp} {ρ : Rho} {σ : L2.St} (E : EnvR G μ H ρ σ) {i : Nat} {d : D} {v : V} (r : Rep G μ H d v) : EnvR G μ H (ρ.set i (some d)) (σ.set i (some v)) :=
  ⟨by simp [E.len], fun j e h => by
    by_cases hj : j = i
    · subst hj
      have hl : j < ρ.length := by
        have := (List.getElem?_eq_some_iff.mp h).1
        simpa using this
      rw [List.getElem?_set_self hl] at h
      cases h
      exact ⟨v, by rw [List.getElem?_set_self (by rw [E.len]; exact hl)], r⟩
    · rw [List.getElem?_set_ne (Ne.symm hj)] at h
      obtain ⟨w, h1, h2⟩ := E.get j e h
      exact ⟨w, by rw [List.getElem?_set_ne (Ne.symm hj)]; exact h1, h2⟩⟩
abbrev FE := Rho → Sto → Option (D × Sto)
abbrev FT := Rho → Sto → Option (Bool × Sto)
abbrev FA := Rho → Sto → Option (List D × Sto)
inductive Fl where
  | nx | rt (d : D) | bk | ct | ex (x : Xc)
/-- an exception as it lies: its class, its dict -/
def XRep (G : G0) (μ : Mu) (H : Hp) (x : Xc) (cls : Value) (d : Option Addr) : Prop := (∃ C, cls = .ref C ∧ G.mg x.cls = some (.ref C)) ∧ match x.fld with
  | none => True
  | some (f, e) => ∃ dd fs v, d = some dd ∧ H dd = some (.xd fs) ∧ fs.lookup f = some v ∧ Rep G μ H e v
theorem XRep.ext {G : G0} {μ μ' : Mu} {H H' : Hp} {x : Xc} {cls : Value} {d : Option Addr} (e : Ext G μ H μ' H') (h : XRep G μ H x cls d) : XRep G μ' H' x cls d := by
  refine ⟨h.1, ?_⟩
  have h := h.2
  cases q : x.fld with
  | none => trivial
  | some p =>
    rw [q] at h
    obtain ⟨dd, fs, v, h1, h2, h3, h4⟩ := h
    exact ⟨dd, fs, v, h1, e.xd _ _ h2 trivial, h3, h4.ext e⟩
abbrev FS := Rho → Sto → Option (Fl × Rho × Sto)
/-- what is wanted of a value and of what stands behind it -/
def After (G : G0) (μ : Mu) (H : Hp) (d : D) (st' : Sto) (Q : VK) : Prop := ∀ μ' H' v, Ext G μ H μ' H' → StR G μ' st' H' → Rep G μ' H' d v → Q v H'
def lift (G : G0) (f : FE) : TE := fun σ H Q => ∃ ρ μ st d st', EnvR G μ H ρ σ ∧ StR G μ st H ∧ f ρ st = some (d, st') ∧ After G μ H d st' Q
def liftT (G : G0) (f : FT) : TT := fun σ H Q => ∃ ρ μ st b st', EnvR G μ H ρ σ ∧ StR G μ st H ∧ f ρ st = some (b, st') ∧ ∀ μ' H', Ext G μ H μ' H' → StR G μ' st' H' → Q b H'
def liftA (G : G0) (f : FA) : TA := fun σ H Q => ∃ ρ μ st ds st', EnvR G μ H ρ σ ∧ StR G μ st H ∧ f ρ st = some (ds, st') ∧ ∀ μ' H' vs, Ext G μ H μ' H' → StR G μ' st' H' → Reps G μ' H' ds vs → Q vs H'
def endS (G : G0) (W : WX) (μ' : Mu) (H' : Hp) (E : Ends) (fl : Fl) (ρ' : Rho) : Prop := match fl with
  | .ex x => ∀ cls d σ', XRep G μ' H' x cls d → EnvR G μ' H' ρ' σ' → W cls d σ' H'
  | .nx => ∀ σ', EnvR G μ' H' ρ' σ' → E.nx σ' H'
  | .bk => ∀ σ', EnvR G μ' H' ρ' σ' → E.bk σ' H'
  | .ct => ∀ σ', EnvR G μ' H' ρ' σ' → E.ct σ' H'
  | .rt d => ∀ v, Rep G μ' H' d v → E.rt v H'
def liftS (G : G0) (W : WX) (f : FS) : TS := fun E σ H => ∃ ρ μ st fl ρ' st', EnvR G μ H ρ σ ∧ StR G μ st H ∧ f ρ st = some (fl, ρ', st') ∧ ∀ μ' H', Ext G μ H μ' H' → StR G μ' st' H' → endS G W μ' H' E fl ρ'
theorem PE.imp {X : Cx} {e : Expr} {t t' : TE} (h : PE X e t) (i : ∀ σ H Q, t' σ H Q → t σ H Q) : PE X e t' := ⟨fun pins s σ H Q I q => h.run pins s σ H Q I (i σ H Q q)⟩
theorem PT.imp {X : Cx} {e : Expr} {t t' : TT} (h : PT X e t) (i : ∀ σ H Q, t' σ H Q → t σ H Q) : PT X e t' := ⟨fun pins s σ H Q I q => h.run pins s σ H Q I (i σ H Q q)⟩
theorem PW.imp {X : Cx} {e : Expr} {t t' : TT} (h : PW X e t) (i : ∀ σ H Q, t' σ H Q → t σ H Q) : PW X e t' := ⟨fun wh pins s σ H Q I q => h.run wh pins s σ H Q I (i σ H Q q)⟩
theorem PA.imp {X : Cx} {e : List Expr} {t t' : TA} (h : PA X e t) (i : ∀ σ H Q, t' σ H Q → t σ H Q) : PA X e t' := ⟨fun pos pins s σ H Q I q => h.run pos pins s σ H Q I (i σ H Q q)⟩
theorem PS.imp {X : Cx} {e : Stmt} {t t' : TS} (h : PS X e t) (i : ∀ E σ H, t' E σ H → t E σ H) : PS X e t' := ⟨fun pins s σ H E I q => h.run pins s σ H E I (i E σ H q)⟩
theorem PSs.imp {X : Cx} {e : List Stmt} {t t' : TS} (h : PSs X e t) (i : ∀ E σ H, t' E σ H → t E σ H) : PSs X e t' := ⟨fun pins s σ H E I q => h.run pins s σ H E I (i E σ H q)⟩
theorem PG.imp {X : Cx} {e : Expr} {t t' : TG} (h : PG X e t) (i : ∀ v σ H Q, t' v σ H Q → t v σ H Q) : PG X e t' := ⟨fun pins s σ H v u Q I r q => h.run pins s σ H v u Q I r (i v σ H Q q)⟩
theorem OpR.imp {X : Cx} {f : Value → Value → Sem Value} {r r' : R2} (h : OpR X f r) (i : ∀ x y H Q, r' x y H Q → r x y H Q) : OpR X f r' := fun pins s σ H x y v u Q I rx ry q => h pins s σ H x y v u Q I rx ry (i x y H Q q)
theorem PI.imp {X : Cx} {tg e : Expr} {t t' : TI} (h : PI X tg e t) (i : ∀ σ H R, t' σ H R → t σ H R) : PI X tg e t' := ⟨fun pins s σ H R I q => h.run pins s σ H R I (i σ H R q)⟩
end EL
set_option Elab.async false
set_option linter.all false
set_option maxRecDepth 100000
set_option maxHeartbeats 1000000
namespace EL
open PySem PySem.Spec PyProof.Rows L2 GxR LG
/-- the context lies over the same written part -/
structure On (G : G0) (X : Cx) : Prop where
  prog : X.prog = G.P
  w : X.w = G.w
  mg : X.mg = G.mg
  base : X.base = G.base
  K : X.K = G.K
  calm : X.calm = true
section
variable {G : G0} {X : Cx} {pos : Pos} {a b c e : Expr} {fa fb fc : FE}
theorem After.trans {μ μ1 : Mu} {H H1 : Hp} {d : D} {st : Sto} {Q : VK} (x : Ext G μ H μ1 H1) (k : After G μ H d st Q) : After G μ1 H1 d st Q := fun μ' H' v y S R => k μ' H' v (x.trans y) S R
def fC (d : D) : FE := fun _ st => some (d, st)
theorem de_int {i : Int} {j : Nat} : PE X (.Constant (.int i) j pos) (lift G (fC (.int i))) := PE.imp pe_int fun σ H Q ⟨ρ, μ, st, d, st', E, S, e, k⟩ => by cases e; exact k μ H _ .refl S (.int i)
theorem de_bl {i : Bool} {j : Nat} : PE X (.Constant (.bool i) j pos) (lift G (fC (.bl i))) := PE.imp pe_bl fun σ H Q ⟨ρ, μ, st, d, st', E, S, e, k⟩ => by cases e; exact k μ H _ .refl S (.bl i)
theorem de_non {j : Nat} : PE X (.Constant .none j pos) (lift G (fC .non)) := PE.imp pe_non fun σ H Q ⟨ρ, μ, st, d, st', E, S, e, k⟩ => by cases e; exact k μ H _ .refl S .non
theorem de_str {i : Str} {j : Nat} : PE X (.Constant (.str i) j pos) (lift G (fC (.str i))) := PE.imp pe_str fun σ H Q ⟨ρ, μ, st, d, st', E, S, e, k⟩ => by cases e; exact k μ H _ .refl S (.str i)
def fV (i : Nat) : FE := fun ρ st => match ρ[i]? with
  | some (some d) => some (d, st)
  | _ => none
theorem de_var (i : Nat) {x : Str} (hN : X.N[i]? = some x) (hv : Vis X.env.scope x) (hd : (x == ("__debug__" : Str)) = false := by decide) (hcd : (x == ("__classdict__" : Str)) = false := by decide) : PE X (.Name x pos) (lift G (fV i)) :=
  PE.imp (pe_var hN hv hd hcd) fun σ H Q ⟨ρ, μ, st, d, st', E, S, e, k⟩ => by
    unfold fV at e
    split at e
    · rename_i d' h
      cases e
      obtain ⟨v, h1, h2⟩ := E.get i _ h
      exact ⟨v, h1, k μ H v .refl S h2⟩
    · cases e
/-- a module's constant: a number -/
theorem de_gint {x : Str} {i : Int} {t : Tok} (hg : Gl X x) (hm : X.mg x = some (.int i t)) (hd : (x == ("__debug__" : Str)) = false := by decide) : PE X (.Name x pos) (lift G (fC (.int i))) :=
  PE.imp (pe_glob (v := .int i) hg hm ⟨t, rfl⟩ hd) fun σ H Q ⟨ρ, μ, st, d, st', E, S, e, k⟩ => by cases e; exact k μ H _ .refl S (.int i)
def rD (G : G0) (h : D → D → Sto → Option (D × Sto)) : R2 := fun x y H Q => ∃ μ st c d z st', StR G μ st H ∧ Rep G μ H c x ∧ Rep G μ H d y ∧ h c d st = some (z, st') ∧ After G μ H z st' Q
def fOp (h : D → D → Sto → Option (D × Sto)) (fa fb : FE) : FE := fun ρ st => (fa ρ st).bind fun p => (fb ρ p.2).bind fun q => h p.1 q.1 q.2
theorem op_core {h : D → D → Sto → Option (D × Sto)} {σ : L2.St} {H : Hp} {Q : VK} (q : lift G (fOp h fa fb) σ H Q) : tOp (rD G h) (lift G fa) (lift G fb) σ H Q := by
  obtain ⟨ρ, μ, st, d, st', E, S, e, k⟩ := q
  unfold fOp at e
  cases e1 : fa ρ st with
  | none => rw [e1] at e; cases e
  | some p =>
    rw [e1] at e
    simp only [Option.bind_some] at e
    cases e2 : fb ρ p.2 with
    | none => rw [e2] at e; cases e
    | some q =>
      rw [e2] at e
      simp only [Option.bind_some] at e
      exact ⟨ρ, μ, st, p.1, p.2, E, S, e1, fun μ1 H1 v X1 S1 R1 => ⟨ρ, μ1, p.2, q.1, q.2, E.ext X1, S1, e2, fun μ2 H2 w X2 S2 R2 => ⟨μ2, q.2, p.1, q.1, d, st', S2, R1.ext X2, R2, e, (k.trans X1).trans X2⟩⟩⟩
theorem de_op {op : Operator} {h : D → D → Sto → Option (D × Sto)} (ho : OpR X (binaryOp op) (rD G h)) (ha : PE X a (lift G fa)) (hb : PE X b (lift G fb)) : PE X (.BinOp a op b pos) (lift G (fOp h fa fb)) :=
  PE.imp (pe_op ho ha hb) fun _ _ _ => op_core
theorem de_cmp {op : CmpOp} {h : D → D → Sto → Option (D × Sto)} (ho : OpR X (compareOp op) (rD G h)) (ha : PE X a (lift G fa)) (hb : PE X b (lift G fb)) (hm : behindInMarks op b = false) : PE X (.Compare a [op] [b] pos) (lift G (fOp h fa fb)) :=
  PE.imp (pe_cmpR ho ha hb hm) fun _ _ _ => op_core
theorem de_ix {h : D → D → Sto → Option (D × Sto)} (ho : IxR X (rD G h)) (ha : PE X a (lift G fa)) (hb : PE X b (lift G fb)) (hs : PlainIx b) : PE X (.Subscript a b pos) (lift G (fOp h fa fb)) :=
  PE.imp (pe_ix ho ha hb hs) fun _ _ _ => op_core
def fChain (h h' : D → D → Sto → Option (D × Sto)) (fa fb fc : FE) : FE := fun ρ st => (fa ρ st).bind fun p => (fb ρ p.2).bind fun q => (h p.1 q.1 q.2).bind fun r => match r.1 with
  | .bl true => (fc ρ r.2).bind fun z => h' q.1 z.1 z.2
  | .bl false => some (.bl false, r.2)
  | _ => none
theorem de_chain {op op' : CmpOp} {h h' : D → D → Sto → Option (D × Sto)} (ho : OpR X (compareOp op) (rD G h)) (ho' : OpR X (compareOp op') (rD G h')) (ha : PE X a (lift G fa)) (hb : PE X b (lift G fb)) (hc : PE X c (lift G fc))
    (hm : lastMarks [op, op'] [b, c] = false := by with_unfolding_all rfl) : PE X (.Compare a [op, op'] [b, c] pos) (lift G (fChain h h' fa fb fc)) :=
  PE.imp (pe_chain ho ho' ha hb hc hm) fun σ H Q ⟨ρ, μ, st, d, st', E, S, e, k⟩ => by
    unfold fChain at e
    obtain ⟨p, e1, e⟩ := Option.bind_eq_some_iff.mp e
    obtain ⟨q, e2, e⟩ := Option.bind_eq_some_iff.mp e
    obtain ⟨r, e3, e⟩ := Option.bind_eq_some_iff.mp e
    refine ⟨ρ, μ, st, p.1, p.2, E, S, e1, fun μ1 H1 v X1 S1 R1 => ⟨ρ, μ1, p.2, q.1, q.2, E.ext X1, S1, e2, fun μ2 H2 w X2 S2 R2 => ⟨μ2, q.2, p.1, q.1, r.1, r.2, S2, R1.ext X2, R2, e3, fun μ3 H3 u X3 S3 R3 => ?_⟩⟩⟩
    obtain ⟨rd, rs⟩ := r
    cases rd with
    | bl t =>
      cases R3
      refine ⟨t, rfl, ?_⟩
      cases t with
      | true =>
        rw [if_pos rfl]
        obtain ⟨z, e4, e⟩ := Option.bind_eq_some_iff.mp e
        exact ⟨ρ, μ3, rs, z.1, z.2, E.ext (X1.trans (X2.trans X3)), S3, e4, fun μ4 H4 u4 X4 S4 R4 => ⟨μ4, z.2, q.1, z.1, d, st', S4, R2.ext (X3.trans X4), R4, e, (((k.trans X1).trans X2).trans X3).trans X4⟩⟩
      | false =>
        rw [if_neg Bool.false_ne_true]
        cases e
        exact k μ3 H3 _ (X1.trans (X2.trans X3)) S3 (.bl false)
    | non => cases e
    | int _ => cases e
    | str _ => cases e
    | tup _ => cases e
    | ref _ => cases e
    | lst _ => cases e
    | scr _ => cases e
    | ty _ => cases e
def asB : D → Option Bool
  | .bl b => some b
  | _ => none
theorem asB_rep {μ : Mu} {H : Hp} {d : D} {v : V} {b : Bool} (h : asB d = some b) (r : Rep G μ H d v) : v = .bl b := by
  cases d with
  | bl x => cases h; cases r; rfl
  | _ => cases h
def fAnd (fa fb : FE) : FE := fun ρ st => (fa ρ st).bind fun p => (asB p.1).bind fun k => if k = true then fb ρ p.2 else some (.bl false, p.2)
def fOr (fa fb : FE) : FE := fun ρ st => (fa ρ st).bind fun p => (asB p.1).bind fun k => if k = true then some (.bl true, p.2) else fb ρ p.2
def fNot (fa : FE) : FE := fun ρ st => (fa ρ st).bind fun p => (asB p.1).bind fun k => some (.bl (!k), p.2)
theorem de_one {op : BoolOp} (h : PE X a (lift G fa)) : PE X (.BoolOp op [a] pos) (lift G fa) := pe_one h
theorem de_and {rest : List Expr} (ha : PE X a (lift G fa)) (hb : PE X (.BoolOp .And (b :: rest) pos) (lift G fb)) : PE X (.BoolOp .And (a :: b :: rest) pos) (lift G (fAnd fa fb)) :=
  PE.imp (pe_and ha hb) fun σ H Q ⟨ρ, μ, st, d, st', E, S, e, k⟩ => by
    unfold fAnd at e
    obtain ⟨p, e1, e⟩ := Option.bind_eq_some_iff.mp e
    obtain ⟨t, e2, e⟩ := Option.bind_eq_some_iff.mp e
    refine ⟨ρ, μ, st, p.1, p.2, E, S, e1, fun μ1 H1 v X1 S1 R1 => ⟨t, asB_rep e2 R1, ?_⟩⟩
    cases t with
    | true => rw [if_pos rfl] at e ⊢; exact ⟨ρ, μ1, p.2, d, st', E.ext X1, S1, e, k.trans X1⟩
    | false => rw [if_neg Bool.false_ne_true] at e ⊢; cases e; exact k μ1 H1 _ X1 S1 (.bl false)
theorem de_not (ha : PE X a (lift G fa)) : PE X (.UnaryOp .Not a pos) (lift G (fNot fa)) :=
  PE.imp (pe_not ha) fun σ H Q ⟨ρ, μ, st, d, st', E, S, e, k⟩ => by
    unfold fNot at e
    obtain ⟨p, e1, e⟩ := Option.bind_eq_some_iff.mp e
    obtain ⟨t, e2, e⟩ := Option.bind_eq_some_iff.mp e
    cases e
    exact ⟨ρ, μ, st, p.1, p.2, E, S, e1, fun μ1 H1 v X1 S1 R1 => ⟨t, asB_rep e2 R1, k μ1 H1 _ X1 S1 (.bl _)⟩⟩
def fTst (fa : FE) : FT := fun ρ st => (fa ρ st).bind fun p => (asB p.1).bind fun k => some (k, p.2)
theorem dt_val (h : PE X e (lift G fa)) (he : ∀ whole, isTrue e X.env whole = (do let v ← whole; standAt e.pos; holding [v] (truthy v)) := by intro _; rfl) : PT X e (liftT G (fTst fa)) :=
  PT.imp (pt_val h he) fun σ H Q ⟨ρ, μ, st, d, st', E, S, e, k⟩ => by
    unfold fTst at e
    obtain ⟨p, e1, e⟩ := Option.bind_eq_some_iff.mp e
    obtain ⟨t, e2, e⟩ := Option.bind_eq_some_iff.mp e
    cases e
    exact ⟨ρ, μ, st, p.1, p.2, E, S, e1, fun μ1 H1 v X1 S1 R1 => ⟨_, asB_rep e2 R1, k μ1 H1 X1 S1⟩⟩
variable {ta tb : FT}
theorem dt_cmp {op : CmpOp} {h : D → D → Sto → Option (D × Sto)} (ho : OpR X (compareOp op) (rD G h)) (ha : PE X a (lift G fa)) (hb : PE X b (lift G fb)) (hm : behindInMarks op b = false) : PT X (.Compare a [op] [b] pos) (liftT G (fTst (fOp h fa fb))) :=
  PT.imp (pt_cmpR ho ha hb hm) fun σ H Q ⟨ρ, μ, st, d, st', E, S, e, k⟩ => by
    unfold fTst at e
    obtain ⟨p, e1, e⟩ := Option.bind_eq_some_iff.mp e
    obtain ⟨t, e2, e⟩ := Option.bind_eq_some_iff.mp e
    cases e
    exact op_core ⟨ρ, μ, st, p.1, p.2, E, S, e1, fun μ1 H1 v X1 S1 R1 => ⟨_, asB_rep e2 R1, k μ1 H1 X1 S1⟩⟩
theorem chain_core {h h' : D → D → Sto → Option (D × Sto)} {σ : L2.St} {H : Hp} {Q : VK} (q : lift G (fChain h h' fa fb fc) σ H Q) : tChain (rD G h) (rD G h') (lift G fa) (lift G fb) (lift G fc) σ H Q := by
  obtain ⟨ρ, μ, st, d, st', E, S, e, k⟩ := q
  unfold fChain at e
  obtain ⟨p, e1, e⟩ := Option.bind_eq_some_iff.mp e
  obtain ⟨q, e2, e⟩ := Option.bind_eq_some_iff.mp e
  obtain ⟨r, e3, e⟩ := Option.bind_eq_some_iff.mp e
  refine ⟨ρ, μ, st, p.1, p.2, E, S, e1, fun μ1 H1 v X1 S1 R1 => ⟨ρ, μ1, p.2, q.1, q.2, E.ext X1, S1, e2, fun μ2 H2 w X2 S2 R2 => ⟨μ2, q.2, p.1, q.1, r.1, r.2, S2, R1.ext X2, R2, e3, fun μ3 H3 u X3 S3 R3 => ?_⟩⟩⟩
  obtain ⟨rd, rs⟩ := r
  cases rd with
  | bl t =>
    cases R3
    refine ⟨t, rfl, ?_⟩
    cases t with
    | true =>
      rw [if_pos rfl]
      obtain ⟨z, e4, e⟩ := Option.bind_eq_some_iff.mp e
      exact ⟨ρ, μ3, rs, z.1, z.2, E.ext (X1.trans (X2.trans X3)), S3, e4, fun μ4 H4 u4 X4 S4 R4 => ⟨μ4, z.2, q.1, z.1, d, st', S4, R2.ext (X3.trans X4), R4, e, (((k.trans X1).trans X2).trans X3).trans X4⟩⟩
    | false =>
      rw [if_neg Bool.false_ne_true]
      cases e
      exact k μ3 H3 _ (X1.trans (X2.trans X3)) S3 (.bl false)
  | _ => cases e
theorem dt_chain {op op' : CmpOp} {h h' : D → D → Sto → Option (D × Sto)} (ho : OpR X (compareOp op) (rD G h)) (ho' : OpR X (compareOp op') (rD G h')) (ha : PE X a (lift G fa)) (hb : PE X b (lift G fb)) (hc : PE X c (lift G fc))
    (hm : lastMarks [op, op'] [b, c] = false := by with_unfolding_all rfl) : PT X (.Compare a [op, op'] [b, c] pos) (liftT G (fTst (fChain h h' fa fb fc))) :=
  PT.imp (pt_chain ho ho' ha hb hc hm) fun σ H Q ⟨ρ, μ, st, d, st', E, S, e, k⟩ => by
    unfold fTst at e
    obtain ⟨p, e1, e⟩ := Option.bind_eq_some_iff.mp e
    obtain ⟨t, e2, e⟩ := Option.bind_eq_some_iff.mp e
    cases e
    exact chain_core ⟨ρ, μ, st, p.1, p.2, E, S, e1, fun μ1 H1 v X1 S1 R1 => ⟨_, asB_rep e2 R1, k μ1 H1 X1 S1⟩⟩
def fTAnd (ta tb : FT) : FT := fun ρ st => (ta ρ st).bind fun p => if p.1 = true then tb ρ p.2 else some (false, p.2)
def fTOr (ta tb : FT) : FT := fun ρ st => (ta ρ st).bind fun p => if p.1 = true then some (true, p.2) else tb ρ p.2
def fTNot (ta : FT) : FT := fun ρ st => (ta ρ st).bind fun p => some (!p.1, p.2)
theorem dw_and1 (ha : PT X a (liftT G ta)) : PW X (.BoolOp .And [a] pos) (liftT G ta) := pw_and1 ha
theorem dw_or1 (ha : PT X a (liftT G ta)) : PW X (.BoolOp .Or [a] pos) (liftT G ta) := pw_or1 ha
theorem dw_and {rest : List Expr} (ha : PT X a (liftT G ta)) (hb : PW X (.BoolOp .And (b :: rest) pos) (liftT G tb)) : PW X (.BoolOp .And (a :: b :: rest) pos) (liftT G (fTAnd ta tb)) :=
  PW.imp (pw_and ha hb) fun σ H Q ⟨ρ, μ, st, d, st', E, S, e, k⟩ => by
    unfold fTAnd at e
    obtain ⟨p, e1, e⟩ := Option.bind_eq_some_iff.mp e
    refine ⟨ρ, μ, st, p.1, p.2, E, S, e1, fun μ1 H1 X1 S1 => ?_⟩
    cases hp : p.1 with
    | true => rw [hp] at e; rw [if_pos rfl] at e ⊢; exact ⟨ρ, μ1, p.2, d, st', E.ext X1, S1, e, fun μ2 H2 X2 S2 => k μ2 H2 (X1.trans X2) S2⟩
    | false => rw [hp] at e; rw [if_neg Bool.false_ne_true] at e ⊢; cases e; exact k μ1 H1 X1 S1
theorem dw_or {rest : List Expr} (ha : PT X a (liftT G ta)) (hb : PW X (.BoolOp .Or (b :: rest) pos) (liftT G tb)) : PW X (.BoolOp .Or (a :: b :: rest) pos) (liftT G (fTOr ta tb)) :=
  PW.imp (pw_or ha hb) fun σ H Q ⟨ρ, μ, st, d, st', E, S, e, k⟩ => by
    unfold fTOr at e
    obtain ⟨p, e1, e⟩ := Option.bind_eq_some_iff.mp e
    refine ⟨ρ, μ, st, p.1, p.2, E, S, e1, fun μ1 H1 X1 S1 => ?_⟩
    cases hp : p.1 with
    | true => rw [hp] at e; rw [if_pos rfl] at e ⊢; cases e; exact k μ1 H1 X1 S1
    | false => rw [hp] at e; rw [if_neg Bool.false_ne_true] at e ⊢; exact ⟨ρ, μ1, p.2, d, st', E.ext X1, S1, e, fun μ2 H2 X2 S2 => k μ2 H2 (X1.trans X2) S2⟩
theorem dt_not (ha : PT X a (liftT G ta)) : PT X (.UnaryOp .Not a pos) (liftT G (fTNot ta)) :=
  PT.imp (pt_not ha) fun σ H Q ⟨ρ, μ, st, d, st', E, S, e, k⟩ => by
    unfold fTNot at e
    obtain ⟨p, e1, e⟩ := Option.bind_eq_some_iff.mp e
    cases e
    exact ⟨ρ, μ, st, p.1, p.2, E, S, e1, fun μ1 H1 X1 S1 => k μ1 H1 X1 S1⟩
def fIf (ta : FT) (fa fb : FE) : FE := fun ρ st => (ta ρ st).bind fun p => if p.1 = true then fa ρ p.2 else fb ρ p.2
variable {es : List Expr} {fr : FA}
def fNil : FA := fun _ st => some ([], st)
def fCons (fa : FE) (fr : FA) : FA := fun ρ st => (fa ρ st).bind fun p => (fr ρ p.2).bind fun q => some (p.1 :: q.1, q.2)
theorem da_nil : PA X [] (liftA G fNil) := PA.imp pa_nil fun σ H Q ⟨ρ, μ, st, d, st', E, S, e, k⟩ => by cases e; exact k μ H _ .refl S .nil
theorem da_cons (ha : PE X e (lift G fa)) (hr : PA X es (liftA G fr)) (hs : starEach (e :: es) X.env = (false, eval e X.env) :: starEach es X.env := by rfl) : PA X (e :: es) (liftA G (fCons fa fr)) :=
  PA.imp (pa_cons ha hr hs) fun σ H Q ⟨ρ, μ, st, d, st', E, S, e, k⟩ => by
    unfold fCons at e
    obtain ⟨p, e1, e⟩ := Option.bind_eq_some_iff.mp e
    obtain ⟨q, e2, e⟩ := Option.bind_eq_some_iff.mp e
    cases e
    exact ⟨ρ, μ, st, p.1, p.2, E, S, e1, fun μ1 H1 v X1 S1 R1 => ⟨ρ, μ1, p.2, q.1, q.2, E.ext X1, S1, e2, fun μ2 H2 vs X2 S2 R2 => k μ2 H2 _ (X1.trans X2) S2 (.cons (R1.ext X2) R2)⟩⟩
def fTup (fr : FA) : FE := fun ρ st => (fr ρ st).bind fun p => if p.1.length ≤ sizeLine then some (.tup p.1, p.2) else none
def fLst (fr : FA) : FE := fun ρ st => (fr ρ st).bind fun p => if p.1.length ≤ sizeLine then some (.ref p.2.length, p.2 ++ [.lst p.1]) else none
theorem rep_newL {μ : Mu} {st : Sto} {H : Hp} {p : Addr} {ds : List D} {vs : List V} (S : StR G μ st H) : Rep G (μ.add p) (upd H p (.lst vs)) (.ref st.length) (.ref p) := .ref (by show (μ.pl ++ [p])[st.length]? = some p; rw [← S.len]; simp)
theorem de_tup {j : Nat} (h : PA X es (liftA G fr)) : PE X (.Tuple es j pos) (lift G (fTup fr)) :=
  PE.imp (pe_tup h) fun σ H Q ⟨ρ, μ, st, d, st', E, S, e, k⟩ => by
    unfold fTup at e
    obtain ⟨p, e1, e⟩ := Option.bind_eq_some_iff.mp e
    split at e
    · rename_i hz
      cases e
      refine ⟨ρ, μ, st, p.1, p.2, E, S, e1, fun μ1 H1 vs X1 S1 R1 => ⟨by rw [← R1.length]; exact hz, fun q hq => ?_⟩⟩
      exact k μ1 _ _ (X1.trans (Ext.new S1 hq)) (S1.newT hq) (.tup upd_same (R1.ext (Ext.new S1 hq)))
    · cases e
theorem de_lst (h : PA X es (liftA G fr)) : PE X (.List es pos) (lift G (fLst fr)) :=
  PE.imp (pe_lst h) fun σ H Q ⟨ρ, μ, st, d, st', E, S, e, k⟩ => by
    unfold fLst at e
    obtain ⟨p, e1, e⟩ := Option.bind_eq_some_iff.mp e
    split at e
    · rename_i hz
      cases e
      refine ⟨ρ, μ, st, p.1, p.2, E, S, e1, fun μ1 H1 vs X1 S1 R1 => ⟨by rw [← R1.length]; exact hz, fun q hq => ?_⟩⟩
      exact k _ _ _ (X1.trans (Ext.newAt S1 hq)) (S1.newL hq R1) (rep_newL (ds := p.1) S1)
    · cases e
/-- a list that is not written later: by value -/
def fLz (fr : FA) : FE := fun ρ st => (fr ρ st).bind fun p => if p.1.length ≤ sizeLine then some (.lst p.1, p.2) else none
theorem rep_newZ {μ : Mu} {st : Sto} {H : Hp} {q : Addr} {ds : List D} {vs : List V} (S : StR G μ st H) (hq : H q = none) (R : Reps G μ H ds vs) : Rep G μ (upd H q (.lst vs)) (.lst ds) (.ref q) :=
  .lst ⟨upd_same, fun z => S.tracked z hq, fun z => S.hid_ne z hq rfl⟩ (R.ext (Ext.new S hq))
theorem de_lz (h : PA X es (liftA G fr)) : PE X (.List es pos) (lift G (fLz fr)) :=
  PE.imp (pe_lst h) fun σ H Q ⟨ρ, μ, st, d, st', E, S, e, k⟩ => by
    unfold fLz at e
    obtain ⟨p, e1, e⟩ := Option.bind_eq_some_iff.mp e
    split at e
    · rename_i hz
      cases e
      refine ⟨ρ, μ, st, p.1, p.2, E, S, e1, fun μ1 H1 vs X1 S1 R1 => ⟨by rw [← R1.length]; exact hz, fun q hq => ?_⟩⟩
      exact k _ _ _ (X1.trans (Ext.new S1 hq)) (S1.newT hq) (rep_newZ S1 hq R1)
    · cases e
/-- a list, wherever it stands -/
def listOf (d : D) (st : Sto) : Option (List D) := match d with
  | .lst ds => some ds
  | .ref l => match st[l]? with
    | some (.lst ds) => some ds
    | _ => none
  | _ => none
theorem list_rep {μ : Mu} {st : Sto} {H : Hp} {d : D} {ds : List D} {v : V} (S : StR G μ st H) (R : Rep G μ H d v) (e : listOf d st = some ds) : ∃ a vs, v = .ref a ∧ SqL G.K H a vs ∧ Reps G μ H ds vs := by
  cases R with
  | lst s r => cases e; exact ⟨_, _, rfl, s.sq, r⟩
  | ref h =>
    unfold listOf at e
    simp only at e
    split at e
    · rename_i hl
      cases e
      obtain ⟨vs, h1, h2⟩ := S.obj _ _ _ hl h
      exact ⟨_, vs, rfl, SqL.of h1, h2⟩
    · cases e
  | _ => cases e
/-- truth of any value -/
def truD (d : D) (st : Sto) : Option Bool := match d with
  | .non => some false
  | .bl b => some b
  | .int i => some (i != 0)
  | .tup ds => some (!ds.isEmpty)
  | .lst ds => some (!ds.isEmpty)
  | .ref l => match st[l]? with
    | some (.lst ds) => some (!ds.isEmpty)
    | some (.dK kvs) => some (!kvs.isEmpty)
    | _ => none
  | _ => none
theorem reps_empty {μ : Mu} {H : Hp} {ds : List D} {vs : List V} (R : Reps G μ H ds vs) : ds.isEmpty = vs.isEmpty := by cases R <;> rfl
theorem tru_rep {μ : Mu} {st : Sto} {H : Hp} {d : D} {b : Bool} {v : V} (S : StR G μ st H) (R : Rep G μ H d v) (e : truD d st = some b) : TruV G.K v H b := by
  cases R with
  | non => cases e; rfl
  | bl b => cases e; rfl
  | int i => cases e; rfl
  | str x => cases e
  | tup s r => cases e; exact .inr (.inl ⟨_, SqT.of s, by rw [reps_empty r]⟩)
  | lst s r => cases e; exact .inl ⟨_, s.sq, by rw [reps_empty r]⟩
  | ty n => cases e
  | scr s => cases e
  | ref h =>
    unfold truD at e
    simp only at e
    split at e
    · rename_i hl
      cases e
      obtain ⟨vs, h1, h2⟩ := S.obj _ _ _ hl h
      exact .inl ⟨_, SqL.of h1, by rw [reps_empty h2]⟩
    · rename_i hl
      cases e
      obtain ⟨vs, h1, h2⟩ := S.obj _ _ _ hl h
      refine .inr (.inr ⟨_, h1, ?_⟩)
      have := reps_empty h2.2
      simpa using congrArg not this
    · cases e
def fTru (fa : FE) : FT := fun ρ st => (fa ρ st).bind fun p => (truD p.1 p.2).bind fun k => some (k, p.2)
theorem dt_tru (o : On G X) (h : PE X e (lift G fa)) (he : ∀ whole, isTrue e X.env whole = (do let v ← whole; standAt e.pos; holding [v] (truthy v)) := by intro _; rfl) : PT X e (liftT G (fTru fa)) :=
  PT.imp (pt_truth h he) fun σ H Q ⟨ρ, μ, st, d, st', E, S, e, k⟩ => by
    unfold fTru at e
    obtain ⟨p, e1, e⟩ := Option.bind_eq_some_iff.mp e
    obtain ⟨t, e2, e⟩ := Option.bind_eq_some_iff.mp e
    cases e
    exact ⟨ρ, μ, st, p.1, p.2, E, S, e1, fun μ1 H1 v X1 S1 R1 => ⟨_, by rw [o.K]; exact tru_rep S1 R1 e2, k μ1 H1 X1 S1⟩⟩
end
end EL
set_option Elab.async false
set_option linter.all false
set_option maxRecDepth 100000
set_option maxHeartbeats 1000000
namespace EL
open PySem PySem.Spec PyProof.Rows L2 GxR LG
section
variable {G : G0} {W : WX} {X : Cx} {pos : Pos} {a b c e : Expr} {fa fb fc : FE} {ta tb : FT}
def sSeq (s1 s2 : FS) : FS := fun ρ st => (s1 ρ st).bind fun p => match p.1 with
  | .nx => s2 p.2.1 p.2.2
  | f => some (f, p.2.1, p.2.2)
def sNext : FS := fun ρ st => some (.nx, ρ, st)
def sSet (i : Nat) (fa : FE) : FS := fun ρ st => (fa ρ st).bind fun p => some (.nx, ρ.set i (some p.1), p.2)
def sExpr (fa : FE) : FS := fun ρ st => (fa ρ st).bind fun p => some (.nx, ρ, p.2)
def sRet (fa : FE) : FS := fun ρ st => (fa ρ st).bind fun p => some (.rt p.1, ρ, p.2)
def sIf (ta : FT) (s1 s2 : FS) : FS := fun ρ st => (ta ρ st).bind fun p => if p.1 = true then s1 ρ p.2 else s2 ρ p.2
variable {st1 : Stmt} {rest body orelse : List Stmt} {s1 s2 : FS}
theorem ds_nil : PSs X [] (liftS G W sNext) := PSs.imp pss_nil fun D σ H ⟨ρ, μ, st, fl, ρ', st', E, S, e, k⟩ => by
  cases e
  exact k μ H .refl S σ E
theorem ds_cons (h1 : PS X st1 (liftS G W s1)) (h2 : PSs X rest (liftS G W s2)) : PSs X (st1 :: rest) (liftS G W (sSeq s1 s2)) :=
  PSs.imp (pss_cons h1 h2) fun D σ H ⟨ρ, μ, st, fl, ρ', st', E, S, e, k⟩ => by
    unfold sSeq at e
    obtain ⟨⟨f1, ρ1, sto1⟩, e1, e⟩ := Option.bind_eq_some_iff.mp e
    refine ⟨ρ, μ, st, f1, ρ1, sto1, E, S, e1, fun μ1 H1 X1 S1 => ?_⟩
    cases f1 with
    | nx => exact fun σ1 E1 => ⟨ρ1, μ1, sto1, fl, ρ', st', E1, S1, e, fun μ2 H2 X2 S2 => k μ2 H2 (X1.trans X2) S2⟩
    | rt d => cases e; exact k μ1 H1 X1 S1
    | bk => cases e; exact k μ1 H1 X1 S1
    | ct => cases e; exact k μ1 H1 X1 S1
    | ex x => cases e; exact k μ1 H1 X1 S1
theorem ds_one (h1 : PS X st1 (liftS G W s1)) : PSs X [st1] (liftS G W s1) := pss_one h1
theorem ds_set {i : Nat} {x : Str} {pos' : Pos} (hN : X.N.Nodup) (hi : X.N[i]? = some x) (hx : Loc X.env.scope x) (he : PE X e (lift G fa)) (hs : swapsWith e (some (.Name x pos')) pos.line X.env = pure false := by rfl)
    (hf : X.fn x = true ∨ X.env.scope.names.lookup x = some .local := by first | exact .inl rfl | exact .inr rfl | assumption) : PS X (.Assign [.Name x pos'] e pos) (liftS G W (sSet i fa)) :=
  PS.imp (ps_set hN hi hx he hs hf) fun D σ H ⟨ρ, μ, st, fl, ρ', st', E, S, e, k⟩ => by
    unfold sSet at e
    obtain ⟨p, e1, e⟩ := Option.bind_eq_some_iff.mp e
    cases e
    exact ⟨ρ, μ, st, p.1, p.2, E, S, e1, fun μ1 H1 v X1 S1 R1 => k μ1 H1 X1 S1 _ ((E.ext X1).set R1)⟩
theorem ds_expr (he : PE X e (lift G fa)) (hs : swapsWith e none pos.line X.env = pure false := by rfl) : PS X (.Expr e pos) (liftS G W (sExpr fa)) :=
  PS.imp (ps_expr he hs) fun D σ H ⟨ρ, μ, st, fl, ρ', st', E, S, e, k⟩ => by
    unfold sExpr at e
    obtain ⟨p, e1, e⟩ := Option.bind_eq_some_iff.mp e
    cases e
    exact ⟨ρ, μ, st, p.1, p.2, E, S, e1, fun μ1 H1 v X1 S1 R1 => k μ1 H1 X1 S1 σ (E.ext X1)⟩
theorem ds_ret (he : PE X e (lift G fa)) : PS X (.Return (some e) pos) (liftS G W (sRet fa)) :=
  PS.imp (ps_ret he) fun D σ H ⟨ρ, μ, st, fl, ρ', st', E, S, e, k⟩ => by
    unfold sRet at e
    obtain ⟨p, e1, e⟩ := Option.bind_eq_some_iff.mp e
    cases e
    exact ⟨ρ, μ, st, p.1, p.2, E, S, e1, fun μ1 H1 v X1 S1 R1 => k μ1 H1 X1 S1 v R1⟩
theorem ds_if (hc : PT X c (liftT G ta)) (ha : PSs X body (liftS G W s1)) (hb : PSs X orelse (liftS G W s2)) : PS X (.If c body orelse pos) (liftS G W (sIf ta s1 s2)) :=
  PS.imp (ps_if hc ha hb) fun D σ H ⟨ρ, μ, st, fl, ρ', st', E, S, e, k⟩ => by
    unfold sIf at e
    obtain ⟨p, e1, e⟩ := Option.bind_eq_some_iff.mp e
    refine ⟨ρ, μ, st, p.1, p.2, E, S, e1, fun μ1 H1 X1 S1 => ?_⟩
    cases hp : p.1 with
    | true => rw [hp] at e; rw [if_pos rfl] at e ⊢; exact ⟨ρ, μ1, p.2, fl, ρ', st', E.ext X1, S1, e, fun μ2 H2 X2 S2 => k μ2 H2 (X1.trans X2) S2⟩
    | false => rw [hp] at e; rw [if_neg Bool.false_ne_true] at e ⊢; exact ⟨ρ, μ1, p.2, fl, ρ', st', E.ext X1, S1, e, fun μ2 H2 X2 S2 => k μ2 H2 (X1.trans X2) S2⟩
inductive Tg where
  | one (i : Nat) | many (is : List Nat) | pr (i j k : Nat)
def gMany : List Nat → TGs
  | [] => gNil
  | i :: is => gCons (gName i) (gMany is)
def gOf (K : PySem.W.Frag) : Tg → TG
  | .one i => gName i
  | .many is => gTup K is.length (gMany is)
  | .pr i j k => gTup K 2 (gCons (gName i) (gCons (gTup K 2 (gMany [j, k])) gNil))
def setM : Rho → List Nat → List D → Rho
  | ρ, i :: is, d :: ds => setM (ρ.set i (some d)) is ds
  | ρ, _, _ => ρ
def tgD : Tg → D → Rho → Option Rho
  | .one i, d, ρ => some (ρ.set i (some d))
  | .many is, .tup ds, ρ => if ds.length = is.length then some (setM ρ is ds) else none
  | .pr i j k, .tup [d, .tup [e, f]], ρ => some (((ρ.set i (some d)).set j (some e)).set k (some f))
  | .pr _ _ _, _, _ => none
  | .many _, _, _ => none
def Tg.ins : Tg → List Nat
  | .one i => [i]
  | .many is => is
  | .pr i j k => [i, j, k]
theorem wipe_set_in {vs : List Nat} {i : Nat} (h : i ∈ vs) : ∀ (σ : L2.St) (x : Option V), wipe (σ.set i x) vs = wipe σ vs := by
  induction vs with
  | nil => simp at h
  | cons v vs ih =>
    intro σ x
    unfold wipe
    by_cases hv : i ∈ vs
    · rw [ih hv]
    · have e : i = v := by
        rcases List.mem_cons.mp h with h | h
        · exact h
        · exact absurd h hv
      subst e
      have q : ∀ (us : List Nat) (σ : L2.St), i ∉ us → wipe (σ.set i x) us = (wipe σ us).set i x := by
        intro us
        induction us with
        | nil => intro σ _; rfl
        | cons u us ih2 =>
          intro σ hu
          unfold wipe
          rw [ih2 σ (fun z => hu (List.mem_cons_of_mem _ z))]
          rw [List.set_comm _ _ (fun z => hu (by rw [z]; exact List.mem_cons_self))]
      rw [q vs σ hv, List.set_set]
theorem gMany_ok {μ : Mu} {H : Hp} {vs' : List Nat} : ∀ (is : List Nat) (ds : List D) (vs : List V) (ρ : Rho) (σ : L2.St) (Q : L2.St → Hp → Prop), Reps G μ H ds vs → EnvR G μ H ρ σ → ds.length = is.length →
    (∀ σ', EnvR G μ H (setM ρ is ds) σ' → ((∀ i ∈ is, i ∈ vs') → wipe σ' vs' = wipe σ vs') → Q σ' H) → gMany is vs σ H Q
  | [], [], _, ρ, σ, Q, .nil, E, _, k => ⟨rfl, k σ E fun _ => rfl⟩
  | i :: is, d :: ds, _, ρ, σ, Q, .cons (v := v) h t, E, hl, k => ⟨v, _, rfl, gMany_ok is ds _ (ρ.set i (some d)) (σ.set i (some v)) Q t (E.set h) (by simpa using hl) fun σ' E' w => k σ' E' fun hi => by
      rw [w fun j hj => hi j (List.mem_cons_of_mem _ hj), wipe_set_in (hi i List.mem_cons_self)]⟩
theorem gOf_ok {μ : Mu} {H : Hp} {vs' : List Nat} {tg : Tg} {d : D} {v : V} {ρ ρ' : Rho} {σ : L2.St} {Q : L2.St → Hp → Prop} (R : Rep G μ H d v) (E : EnvR G μ H ρ σ) (e : tgD tg d ρ = some ρ')
    (k : ∀ σ', EnvR G μ H ρ' σ' → ((∀ i ∈ tg.ins, i ∈ vs') → wipe σ' vs' = wipe σ vs') → Q σ' H) : gOf G.K tg v σ H Q := by
  cases tg with
  | one i =>
    cases e
    exact k _ (E.set R) fun hi => wipe_set_in (hi i (by simp [Tg.ins])) _ _
  | many is =>
    cases d with
    | tup ds =>
      have e' : (if ds.length = is.length then some (setM ρ is ds) else none) = some ρ' := e
      split at e'
      · rename_i hl
        cases e'
        cases R with
        | tup s r => exact ⟨_, _, rfl, SqT.of s, by rw [← r.length]; exact hl, gMany_ok is ds _ ρ σ Q r E hl k⟩
      · cases e'
    | _ => cases e
  | pr i j k' =>
    have hd : ∃ x y z, d = .tup [x, .tup [y, z]] ∧ ρ' = ((ρ.set i (some x)).set j (some y)).set k' (some z) := by
      unfold tgD at e
      split at e
      · rename_i h; cases h
      · rename_i h; cases h
      · rename_i h; cases h; cases e; exact ⟨_, _, _, rfl, rfl⟩
      · cases e
      · cases e
    obtain ⟨x, y, z, rfl, rfl⟩ := hd
    cases R with
    | tup s r =>
      cases r with
      | cons r1 r =>
        cases r with
        | cons r2 r3 =>
          cases r3
          cases r2 with
          | tup s2 q =>
            cases q with
            | cons q1 q =>
              cases q with
              | cons q2 q3 =>
                cases q3
                refine ⟨_, _, rfl, SqT.of s, rfl, _, _, rfl, _, _, rfl, _, _, rfl, SqT.of s2, rfl, _, _, rfl, _, _, rfl, rfl, rfl, k _ (((E.set r1).set q1).set q2) fun hi => ?_⟩
                rw [wipe_set_in (hi k' (by simp [Tg.ins])), wipe_set_in (hi j (by simp [Tg.ins])), wipe_set_in (hi i (by simp [Tg.ins]))]
theorem dg_name {i : Nat} {x : Str} (hN : X.N.Nodup) (hi : X.N[i]? = some x) (hx : Loc X.env.scope x) (hf : X.fn x = true ∨ X.env.scope.names.lookup x = some .local := by first | exact .inl rfl | exact .inr rfl | assumption) :
    PG X (.Name x pos) (gOf G.K (.one i)) := pg_name hN hi hx hf
theorem dgs_nil : PGs X [] (gMany []) := pgs_nil
theorem dgs_cons {es : List Expr} {i : Nat} {is : List Nat} {x : Str} (hN : X.N.Nodup) (hi : X.N[i]? = some x) (hx : Loc X.env.scope x) (h2 : PGs X es (gMany is))
    (hf : X.fn x = true ∨ X.env.scope.names.lookup x = some .local := by first | exact .inl rfl | exact .inr rfl | assumption)
    (ha : (assignEach (.Name x pos :: es) X.env).map (·.2) = assign (.Name x pos) X.env :: (assignEach es X.env).map (·.2) := by rfl) : PGs X (.Name x pos :: es) (gMany (i :: is)) := pgs_cons (pg_name hN hi hx hf) h2
theorem dg_tup {es : List Expr} {k : Nat} {is : List Nat} (o : On G X) (h : PGs X es (gMany is)) (hn : (assignEach es X.env).length = is.length := by rfl) (hst : (assignEach es X.env).findIdx? (·.1) = none := by rfl) : PG X (.Tuple es k pos) (gOf G.K (.many is)) := by
  show PG X _ (gTup G.K is.length (gMany is))
  rw [← o.K]
  exact pg_tup o.calm h hn hst
end
end EL
set_option Elab.async false
set_option linter.all false
set_option maxRecDepth 100000
set_option maxHeartbeats 1000000
namespace EL
open PySem PySem.Spec PyProof.Rows L2 GxR LG
section
variable {G : G0} {W : WX} {X : Cx} {pos : Pos} {a b c e tgt : Expr} {fa fb fc : FE} {ta tb : FT}
abbrev Src := List (Nat × List D)
def Intact (s : Src) (st : Sto) : Prop := ∀ p ∈ s, st[p.1]? = some (.lst p.2)
theorem Intact.nil {st : Sto} : Intact [] st := fun _ h => by simp at h
abbrev FI := Rho → Sto → Option (List D × Src × Sto)
/-- J hands out the items, while the source stands -/
def Feeds (G : G0) (J : It) (μ : Mu) (H : Hp) (items : List D) (src : Src) : Prop := ∀ μ' st' H' (i : Nat), Ext0 G μ H μ' H' → StR G μ' st' H' → Intact src st' →
  (i < items.length → J.go i H' ∧ ∀ x H'', J.yld i H' x H'' → ∃ d, items[i]? = some d ∧ Rep G μ' H'' d x ∧ StR G μ' st' H'' ∧ Ext G μ' H' μ' H'') ∧ (i = items.length → J.stop i H')
def liftI (G : G0) (f : FI) : TI := fun σ H R => ∃ ρ μ st items src st', EnvR G μ H ρ σ ∧ StR G μ st H ∧ f ρ st = some (items, src, st') ∧ ∀ μ' H' J, Ext G μ H μ' H' → StR G μ' st' H' → Feeds G J μ' H' items src → R J H'
theorem PI.or {w1 w2 : TI} (h1 : PI X tgt e w1) (h2 : PI X tgt e w2) : PI X tgt e (fun σ H R => w1 σ H R ∨ w2 σ H R) := ⟨fun pins s σ H R I h => by
  rcases h with h | h
  · exact h1.run pins s σ H R I h
  · exact h2.run pins s σ H R I h⟩
def signs (x : Str) : List D := x.cps.toList.map fun c => .str ⟨#[c]⟩
def iSeq (fa : FE) : FI := fun ρ st => (fa ρ st).bind fun p => match p.1 with
  | .tup ds => some (ds, [], p.2)
  | .ref l => match p.2[l]? with
    | some (.lst ds) => some (ds, [(l, ds)], p.2)
    | _ => none
  | .lst ds => some (ds, [], p.2)
  | .str x => some (signs x, [], p.2)
  | _ => none
theorem feeds_list {μ : Mu} {H : Hp} {l : Nat} {a : Addr} {ds : List D} (ha : μ.pl[l]? = some a) : Feeds G (Itl G.K a) μ H ds [(l, ds)] := by
  intro μ' st' H' i x S hi
  have hi' : st'[l]? = some (.lst ds) := hi (l, ds) (by simp)
  obtain ⟨vs, h1, h2⟩ := S.obj l _ a hi' (x.at_ _ _ ha)
  refine ⟨fun hl => ?_, fun hl => ⟨vs, SqL.of h1, by rw [← h2.length, hl]; exact Nat.le_refl _⟩⟩
  have hv : i < vs.length := by rw [← h2.length]; exact hl
  refine ⟨⟨vs, vs[i], SqL.of h1, by simp [hv]⟩, fun y H'' hy => ?_⟩
  obtain ⟨rfl, hy⟩ := hy
  obtain ⟨d, e1, e2⟩ := h2.get' i (hy vs (SqL.of h1))
  exact ⟨d, e1, e2, S, .refl⟩
theorem feeds_lz {μ : Mu} {H : Hp} {a : Addr} {ds : List D} {vs : List V} (s : Lz μ H a vs) (r : Reps G μ H ds vs) : Feeds G (Itl G.K a) μ H ds [] := by
  intro μ' st' H' i x S _
  have s' : SqL G.K H' a vs := (x.lst _ _ s).sq
  have r' := r.ext0 x
  refine ⟨fun hl => ?_, fun hl => ⟨vs, s', by rw [← r'.length, hl]; exact Nat.le_refl _⟩⟩
  have hv : i < vs.length := by rw [← r'.length]; exact hl
  refine ⟨⟨vs, vs[i], s', by simp [hv]⟩, fun y H'' hy => ?_⟩
  obtain ⟨rfl, hy⟩ := hy
  obtain ⟨d, e1, e2⟩ := r'.get' i (hy vs s')
  exact ⟨d, e1, e2, S, .refl⟩
theorem feeds_tup {μ : Mu} {H : Hp} {a : Addr} {ds : List D} {vs : List V} (s : H a = some (.tup vs)) (r : Reps G μ H ds vs) : Feeds G (Itt G.K a) μ H ds [] := by
  intro μ' st' H' i x S _
  have s' : SqT G.K H' a vs := SqT.of (x.tup _ _ s)
  have r' := r.ext0 x
  refine ⟨fun hl => ?_, fun hl => ⟨vs, s', by rw [← r'.length, hl]; exact Nat.le_refl _⟩⟩
  have hv : i < vs.length := by rw [← r'.length]; exact hl
  refine ⟨⟨vs, vs[i], s', by simp [hv]⟩, fun y H'' hy => ?_⟩
  obtain ⟨rfl, hy⟩ := hy
  obtain ⟨d, e1, e2⟩ := r'.get' i (hy vs s')
  exact ⟨d, e1, e2, S, .refl⟩
theorem feeds_str {μ : Mu} {H : Hp} {x : Str} : Feeds G (Its x) μ H (signs x) [] := by
  intro μ' st' H' i ex S _
  have len : (signs x).length = x.cps.size := by simp [signs]
  refine ⟨fun hl => ⟨by rw [len] at hl; exact hl, fun y H'' hy => ?_⟩, fun hl => by rw [len] at hl; exact Nat.le_of_eq hl.symm⟩
  obtain ⟨rfl, c, hc, rfl⟩ := hy
  refine ⟨.str ⟨#[c]⟩, ?_, .str _, S, .refl⟩
  unfold signs
  rw [List.getElem?_map, Array.getElem?_toList, hc]
  rfl
theorem di_seq (o : On G X) (h : PE X e (lift G fa)) : PI X tgt e (liftI G (iSeq fa)) := by
  refine PI.imp (PI.or (pi_list h) (PI.or (pi_tup h) (pi_str h))) fun σ H R ⟨ρ, μ, st, items, src, st', E, S, e, k⟩ => ?_
  unfold iSeq at e
  obtain ⟨⟨d, s1⟩, e1, e⟩ := Option.bind_eq_some_iff.mp e
  cases d with
  | tup ds =>
    cases e
    refine .inr (.inl ⟨ρ, μ, st, _, _, E, S, e1, fun μ1 H1 v X1 S1 R1 => ?_⟩)
    cases R1 with
    | tup s r => exact ⟨_, rfl, ⟨_, by rw [o.K]; exact SqT.of s⟩, k μ1 H1 _ X1 S1 (by rw [o.K]; exact feeds_tup s r)⟩
  | lst ds =>
    cases e
    refine .inl ⟨ρ, μ, st, _, _, E, S, e1, fun μ1 H1 v X1 S1 R1 => ?_⟩
    cases R1 with
    | lst s r => exact ⟨_, rfl, ⟨_, by rw [o.K]; exact s.sq⟩, k μ1 H1 _ X1 S1 (by rw [o.K]; exact feeds_lz s r)⟩
  | str x =>
    cases e
    refine .inr (.inr ⟨ρ, μ, st, _, _, E, S, e1, fun μ1 H1 v X1 S1 R1 => ?_⟩)
    cases R1
    exact ⟨x, rfl, k μ1 H1 _ X1 S1 feeds_str⟩
  | ref l =>
    simp only at e
    split at e
    · rename_i ds hl
      cases e
      refine .inl ⟨ρ, μ, st, _, _, E, S, e1, fun μ1 H1 v X1 S1 R1 => ?_⟩
      cases R1 with
      | ref ha =>
        obtain ⟨vs, h1, _⟩ := S1.obj l _ _ hl ha
        exact ⟨_, rfl, ⟨vs, SqL.of h1⟩, k μ1 H1 _ X1 S1 (by rw [o.K]; exact feeds_list ha)⟩
    · cases e
  | _ => cases e
/-- range(n), range(a, b) -/
def rangeD (lo : Int) (n : Nat) : List D := (List.range n).map fun i => .int (lo + (i : Nat))
theorem feeds_range {μ : Mu} {H : Hp} (lo : Int) (n : Nat) : Feeds G (Itr lo n) μ H (rangeD lo n) [] := by
  intro μ' st' H' i ex S _
  have len : (rangeD lo n).length = n := by simp [rangeD]
  refine ⟨fun hl => ⟨by rw [len] at hl; exact hl, fun y H'' hy => ?_⟩, fun hl => by rw [len] at hl; exact Nat.le_of_eq hl.symm⟩
  obtain ⟨rfl, rfl⟩ := hy
  rw [len] at hl
  refine ⟨.int (lo + (i : Nat)), ?_, .int _, S, .refl⟩
  unfold rangeD
  rw [List.getElem?_map, List.getElem?_range hl]
  rfl
variable {fr : FA}
def iRange1 (fr : FA) : FI := fun ρ st => (fr ρ st).bind fun p => match p.1 with
  | [.int j] => if -(2 ^ 62) ≤ j ∧ j < 2 ^ 62 then some (rangeD 0 j.toNat, [], p.2) else none
  | _ => none
def iRange2 (fr : FA) : FI := fun ρ st => (fr ρ st).bind fun p => match p.1 with
  | [.int i, .int j] => if (-(2 ^ 62) ≤ i ∧ i < 2 ^ 62) ∧ -(2 ^ 62) ≤ j ∧ j < 2 ^ 62 then some (rangeD i (j - i).toNat, [], p.2) else none
  | _ => none
theorem di_range1 {p : Pos} (hg : Gl X "range") (hm : X.mg "range" = none) (ha : PA X [a] (liftA G fr)) (hs : starEach [a] X.env = [(false, eval a X.env)] := by rfl) : PI X tgt (.Call (.Name "range" p) [a] [] pos) (liftI G (iRange1 fr)) :=
  PI.imp (pi_range1 hg hm ha hs) fun σ H R ⟨ρ, μ, st, items, src, st', E, S, e, k⟩ => by
    unfold iRange1 at e
    obtain ⟨⟨ds, s1⟩, e1, e⟩ := Option.bind_eq_some_iff.mp e
    refine ⟨ρ, μ, st, ds, s1, E, S, e1, fun μ1 H1 vs X1 S1 R1 => ?_⟩
    simp only at e
    split at e
    · rename_i j
      split at e
      · rename_i hj
        cases e
        cases R1 with
        | cons h t => cases h; cases t; exact ⟨j, rfl, hj.1, hj.2, k μ1 H1 _ X1 S1 (feeds_range 0 _)⟩
      · cases e
    · cases e
theorem di_range2 {p : Pos} (hg : Gl X "range") (hm : X.mg "range" = none) (ha : PA X [a, b] (liftA G fr)) (hs : starEach [a, b] X.env = [(false, eval a X.env), (false, eval b X.env)] := by rfl) (hs2 : starEach [b] X.env = [(false, eval b X.env)] := by rfl) :
    PI X tgt (.Call (.Name "range" p) [a, b] [] pos) (liftI G (iRange2 fr)) :=
  PI.imp (pi_range2 hg hm ha hs hs2) fun σ H R ⟨ρ, μ, st, items, src, st', E, S, e, k⟩ => by
    unfold iRange2 at e
    obtain ⟨⟨ds, s1⟩, e1, e⟩ := Option.bind_eq_some_iff.mp e
    refine ⟨ρ, μ, st, ds, s1, E, S, e1, fun μ1 H1 vs X1 S1 R1 => ?_⟩
    simp only at e
    split at e
    · rename_i i j
      split at e
      · rename_i hj
        cases e
        cases R1 with
        | cons h t => cases h; cases t with
          | cons h t => cases h; cases t; exact ⟨i, j, rfl, ⟨hj.1.1, hj.1.2, hj.2.1, hj.2.2⟩, k μ1 H1 _ X1 S1 (feeds_range i _)⟩
      · cases e
    · cases e
open Classical in
noncomputable def forD (tg : Tg) (b : FS) (src : Src) : List D → Rho → Sto → Option (Fl × Rho × Sto)
  | [], ρ, st => if Intact src st then some (.nx, ρ, st) else none
  | d :: ds, ρ, st => if Intact src st then (tgD tg d ρ).bind fun ρ1 => (b ρ1 st).bind fun q => match q.1 with
      | .nx => forD tg b src ds q.2.1 q.2.2
      | .ct => forD tg b src ds q.2.1 q.2.2
      | .bk => some (.nx, q.2.1, q.2.2)
      | .rt r => some (.rt r, q.2.1, q.2.2)
      | .ex x => some (.ex x, q.2.1, q.2.2)
    else none
noncomputable def sFor (fi : FI) (tg : Tg) (b : FS) : FS := fun ρ st => (fi ρ st).bind fun p => forD tg b p.2.1 p.1 ρ p.2.2
variable {body : List Stmt} {sb : FS} {fi : FI} {iter : Expr} {tg : Tg}
theorem ds_for (hp : PassesOwn (model X.prog X.w) X.A X.env X.xe) (o : On G X) (hi : PI X tgt iter (liftI G fi)) (hg : PG X tgt (gOf G.K tg)) (hb : PSs X body (liftS G W sb))
    (hs : ∀ x, foldedSetIterable iter X.env x = pure x := by intro _; rfl) : PS X (.For tgt iter body [] pos) (liftS G W (sFor fi tg sb)) :=
  PS.imp (ps_for hp o.calm hi hg hb hs) fun D0 σ H ⟨ρ, μ, st, fl, ρ', st', E, S, e, k⟩ => by
    unfold sFor at e
    obtain ⟨⟨items, src, s1⟩, e1, e⟩ := Option.bind_eq_some_iff.mp e
    refine ⟨ρ, μ, st, items, src, s1, E, S, e1, fun μ1 H1 J X1 S1 F => ?_⟩
    refine ⟨fun i m σ2 H2 => m = items.length - i ∧ i ≤ items.length ∧ ∃ ρ2 μ2 st2, EnvR G μ2 H2 ρ2 σ2 ∧ StR G μ2 st2 H2 ∧ Ext G μ1 H1 μ2 H2 ∧ forD tg sb src (items.drop i) ρ2 st2 = some (fl, ρ', st'),
      ⟨items.length, by simp, Nat.zero_le _, ρ, μ1, s1, E.ext X1, S1, .refl, by simpa using e⟩, ?_⟩
    rintro i m σ2 H2 ⟨rfl, hi2, ρ2, μ2, st2, E2, S2, X2, e2⟩
    by_cases hlt : i < items.length
    · have hd : items.drop i = items[i] :: items.drop (i + 1) := List.drop_eq_getElem_cons hlt
      rw [hd] at e2
      unfold forD at e2
      split at e2
      · rename_i hin
        obtain ⟨ρ3, e3, e2⟩ := Option.bind_eq_some_iff.mp e2
        obtain ⟨⟨f4, ρ4, st4⟩, e4, e2⟩ := Option.bind_eq_some_iff.mp e2
        obtain ⟨go, yl⟩ := (F μ2 st2 H2 i X2.to0 S2 hin).1 hlt
        refine .inr ⟨go, fun σ5 H5 => ∃ ρ5 μ5 st5, EnvR G μ5 H5 ρ5 σ5 ∧ StR G μ5 st5 H5 ∧ Ext G μ1 H1 μ5 H5 ∧ forD tg sb src (items.drop (i + 1)) ρ5 st5 = some (fl, ρ', st'), fun σ5 H5 h5 => ⟨items.length - (i + 1), by omega, rfl, hlt, h5⟩, fun x H3 hy => ?_⟩
        obtain ⟨d, ed, Rd, S3, X3⟩ := yl x H3 hy
        have ed' : d = items[i] := by
          rw [List.getElem?_eq_getElem hlt] at ed
          exact (Option.some.inj ed).symm
        subst ed'
        refine gOf_ok (vs' := []) Rd (E2.ext X3) e3 fun σ6 E6 _ => ?_
        refine ⟨ρ3, μ2, st2, f4, ρ4, st4, E6, S3, e4, fun μ7 H7 X7 S7 => ?_⟩
        have X17 : Ext G μ1 H1 μ7 H7 := X2.trans (X3.trans X7)
        cases f4 with
        | nx => exact fun σ7 E7 => ⟨ρ4, μ7, st4, E7, S7, X17, e2⟩
        | ct => exact fun σ7 E7 => ⟨ρ4, μ7, st4, E7, S7, X17, e2⟩
        | bk => cases e2; exact k μ7 H7 (X1.trans X17) S7
        | rt d => cases e2; exact k μ7 H7 (X1.trans X17) S7
        | ex x => cases e2; exact k μ7 H7 (X1.trans X17) S7
      · cases e2
    · have hi3 : i = items.length := by omega
      rw [hi3, List.drop_length] at e2
      unfold forD at e2
      split at e2
      · rename_i hin
        have stop := (F μ2 _ H2 i X2.to0 S2 hin).2 hi3
        cases e2
        exact .inl ⟨stop, k μ2 H2 (X1.trans X2) S2 σ2 E2⟩
      · cases e2
end
end EL
set_option Elab.async false
set_option linter.all false
set_option maxRecDepth 100000
set_option maxHeartbeats 1000000
namespace EL
open PySem PySem.Spec PyProof.Rows L2 GxR LG RZ
section
variable {G : G0} {W : WX} {X : Cx} {pos : Pos} {a b c e tgt : Expr} {fa fb fc : FE} {ta tb : FT} {fr : FA} {fi : FI} {iter : Expr} {tg : Tg}
def srcOf (d : D) (ds : List D) : Src := match d with
  | .ref l => [(l, ds)]
  | _ => []
/-- a list as it stands later, while its source stands -/
theorem live {μ : Mu} {st : Sto} {H : Hp} {d : D} {a : Addr} {ds : List D} (S : StR G μ st H) (R : Rep G μ H d (.ref a)) (e : listOf d st = some ds) :
    ∀ μ' st' H', Ext0 G μ H μ' H' → StR G μ' st' H' → Intact (srcOf d ds) st' → ∃ vs, SqL G.K H' a vs ∧ Reps G μ' H' ds vs := by
  intro μ' st' H' x S' hi
  cases R with
  | lst s r => cases e; exact ⟨_, (x.lst _ _ s).sq, r.ext0 x⟩
  | ref h =>
    have hi' := hi (_, ds) List.mem_cons_self
    obtain ⟨vs, h1, h2⟩ := S'.obj _ _ a hi' (x.at_ _ _ h)
    exact ⟨vs, SqL.of h1, h2⟩
  | tup s r => cases e
  | scr s => cases e
theorem intact_app {s t : Src} {st : Sto} : Intact (s ++ t) st ↔ Intact s st ∧ Intact t st := by
  constructor
  · intro h
    exact ⟨fun p hp => h p (List.mem_append_left _ hp), fun p hp => h p (List.mem_append_right _ hp)⟩
  · rintro ⟨h1, h2⟩ p hp
    rcases List.mem_append.mp hp with q | q
    · exact h1 p q
    · exact h2 p q
def wipeD (ρ : Rho) : List Nat → Rho
  | [] => ρ
  | v :: vs => (wipeD ρ vs).set v none
theorem wipe_get (σ : L2.St) : ∀ (vs : List Nat) (i : Nat), (wipe σ vs)[i]? = if i ∈ vs then (σ[i]?).map (fun _ => none) else σ[i]?
  | [], i => by simp [wipe]
  | v :: vs, i => by
    unfold wipe
    rw [List.getElem?_set]
    have ih := wipe_get σ vs i
    by_cases h : v = i
    · subst h
      rw [if_pos rfl]
      have hl := wipe_length σ vs
      by_cases hl2 : v < σ.length
      · simp [hl, hl2]
      · simp [hl, hl2]
    · rw [if_neg h, ih]
      by_cases hm : i ∈ vs
      · simp [hm]
      · simp [hm, Ne.symm h]
theorem wipe_idem (σ : L2.St) (vs : List Nat) : wipe (wipe σ vs) vs = wipe σ vs := by
  apply List.ext_getElem?
  intro i
  rw [wipe_get, wipe_get]
  by_cases h : i ∈ vs
  · simp only [h, if_true]
    cases σ[i]? <;> rfl
  · simp [h]
theorem wipeD_length (ρ : Rho) : ∀ vs : List Nat, (wipeD ρ vs).length = ρ.length
  | [] => rfl
  | v :: vs => by unfold wipeD; rw [List.length_set, wipeD_length ρ vs]
theorem wipeD_some {ρ : Rho} {i : Nat} {x : D} : ∀ {vs : List Nat}, (wipeD ρ vs)[i]? = some (some x) → ρ[i]? = some (some x) ∧ i ∉ vs
  | [], h => ⟨h, by simp⟩
  | v :: vs, h => by
    unfold wipeD at h
    rw [List.getElem?_set] at h
    split at h
    · split at h <;> cases h
    · rename_i hne
      obtain ⟨h1, h2⟩ := wipeD_some h
      exact ⟨h1, by simp [h2, Ne.symm hne]⟩
theorem EnvR.wipe {μ : Mu} {H : Hp} {ρ : Rho} {σ : L2.St} (E : EnvR G μ H ρ σ) (vs : List Nat) : EnvR G μ H (wipeD ρ vs) (L2.wipe σ vs) :=
  ⟨by rw [wipe_length, wipeD_length]; exact E.len, fun i d h => by
    obtain ⟨h1, h2⟩ := wipeD_some h
    obtain ⟨v, q1, q2⟩ := E.get i d h1
    exact ⟨v, by rw [wipe_get, if_neg h2]; exact q1, q2⟩⟩
open Classical in
noncomputable def lcD (tg : Tg) (tt : FT) (fe : FE) (l : Nat) (src : Src) (ρ : Rho) : List D → Sto → Option Sto
  | [], st => if Intact src st then some st else none
  | d :: ds, st => if Intact src st then (tgD tg d ρ).bind fun ρ1 => (tt ρ1 st).bind fun b => if b.1 = true then (fe ρ1 b.2).bind fun y => match y.2[l]? with
        | some (.lst acc) => if acc.length < sizeLine then lcD tg tt fe l src ρ ds (y.2.set l (.lst (acc ++ [y.1]))) else none
        | _ => none
      else lcD tg tt fe l src ρ ds b.2
    else none
noncomputable def fLc (fi : FI) (tg : Tg) (tt : FT) (fe : FE) (vs : List Nat) : FE := fun ρ st => (fi ρ st).bind fun p => (lcD tg tt fe p.2.2.length p.2.1 (wipeD ρ vs) p.1 (p.2.2 ++ [.lst []])).bind fun st' => some (.ref p.2.2.length, st')
def fYes : FT := fun _ st => some (true, st)
theorem lc_data {tt : FT} {fe : FE} {vs : List Nat} (hin : ∀ i ∈ tg.ins, i ∈ vs) {σ : L2.St} {H : Hp} {Q : VK} (q : lift G (fLc fi tg tt fe vs) σ H Q) : tLc (liftI G fi) (gOf G.K tg) (liftT G tt) (lift G fe) vs σ H Q := by
  obtain ⟨ρ, μ, st, d, st', E, S, e, k⟩ := q
  unfold fLc at e
  obtain ⟨⟨items, src, s1⟩, e1, e⟩ := Option.bind_eq_some_iff.mp e
  obtain ⟨sf, e2, e⟩ := Option.bind_eq_some_iff.mp e
  obtain ⟨rfl, rfl⟩ : D.ref s1.length = d ∧ sf = st' := by
    have q := Option.some.inj e
    exact ⟨congrArg Prod.fst q, congrArg Prod.snd q⟩
  refine ⟨ρ, μ, st, items, src, s1, E, S, e1, fun μ1 H1 J X1 S1 F Da hD => ?_⟩
  have XD : Ext G μ1 H1 (μ1.add Da) (upd H1 Da (.lst [])) := Ext.newAt S1 hD
  have atD : (μ1.add Da).pl[s1.length]? = some Da := by show (μ1.pl ++ [Da])[s1.length]? = some Da; rw [← S1.len]; simp
  refine ⟨fun i m H2 => m = items.length - i ∧ i ≤ items.length ∧ ∃ μ2 st2, StR G μ2 st2 H2 ∧ Ext G (μ1.add Da) (upd H1 Da (.lst [])) μ2 H2 ∧ lcD tg tt fe s1.length src (wipeD ρ vs) (items.drop i) st2 = some sf,
    ⟨items.length, by simp, Nat.zero_le _, μ1.add Da, _, S1.newL hD .nil, .refl, by simpa using e2⟩, ?_⟩
  rintro i m H2 ⟨rfl, hi2, μ2, st2, S2, X2, e3⟩
  have X12 : Ext G μ1 H1 μ2 H2 := XD.trans X2
  by_cases hlt : i < items.length
  · have hd : items.drop i = items[i] :: items.drop (i + 1) := List.drop_eq_getElem_cons hlt
    rw [hd] at e3
    unfold lcD at e3
    split at e3
    · rename_i hin2
      obtain ⟨ρ3, e4, e3⟩ := Option.bind_eq_some_iff.mp e3
      obtain ⟨⟨tb, s5⟩, e5, e3⟩ := Option.bind_eq_some_iff.mp e3
      obtain ⟨go, yl⟩ := (F μ2 st2 H2 i X12.to0 S2 hin2).1 hlt
      refine .inr ⟨go, fun H5 => ∃ μ5 st5, StR G μ5 st5 H5 ∧ Ext G (μ1.add Da) (upd H1 Da (.lst [])) μ5 H5 ∧ lcD tg tt fe s1.length src (wipeD ρ vs) (items.drop (i + 1)) st5 = some sf, fun H5 h5 => ⟨items.length - (i + 1), by omega, rfl, hlt, h5⟩, fun x H3 hy => ?_⟩
      obtain ⟨dd, ed, Rd, S3, X3⟩ := yl x H3 hy
      have ed' : dd = items[i] := by
        rw [List.getElem?_eq_getElem hlt] at ed
        exact (Option.some.inj ed).symm
      subst ed'
      have E3 : EnvR G μ2 H3 (wipeD ρ vs) (L2.wipe σ vs) := (E.ext (X1.trans (X12.trans X3))).wipe vs
      refine gOf_ok (vs' := vs) Rd E3 e4 fun σ6 E6 hw => ⟨(hw hin).trans (wipe_idem σ vs), ?_⟩
      refine ⟨ρ3, μ2, st2, tb, s5, E6, S3, e5, fun μ7 H7 X7 S7 => ?_⟩
      cases tb with
      | true =>
        rw [if_pos rfl] at e3 ⊢
        obtain ⟨⟨y, s8⟩, e8, e3⟩ := Option.bind_eq_some_iff.mp e3
        refine ⟨ρ3, μ7, s5, y, s8, E6.ext X7, S7, e8, fun μ9 H9 v X9 S9 R9 => ?_⟩
        simp only at e3
        split at e3
        · rename_i acc hacc
          split at e3
          · rename_i hz
            have XA : Ext G (μ1.add Da) (upd H1 Da (.lst [])) μ9 H9 := X2.trans (X3.trans (X7.trans X9))
            have hDa := XA.at atD
            obtain ⟨accV, h1, h2⟩ := S9.obj _ _ _ hacc hDa
            refine ⟨accV, h1, by rw [← h2.length]; exact hz, μ9, _, S9.setL hDa (h2.append (.cons R9 .nil)), XA.trans (Ext.set S9 hDa), e3⟩
          · cases e3
        · cases e3
      | false =>
        rw [if_neg Bool.false_ne_true] at e3 ⊢
        exact ⟨μ7, s5, S7, X2.trans (X3.trans X7), e3⟩
    · cases e3
  · have hi3 : i = items.length := by omega
    rw [hi3, List.drop_length] at e3
    unfold lcD at e3
    split at e3
    · rename_i hin2
      have stop := (F μ2 _ H2 i X12.to0 S2 hin2).2 hi3
      cases e3
      exact .inl ⟨stop, k μ2 H2 _ (X1.trans X12) S2 (.ref (X2.at atD))⟩
    · cases e3
open Classical in
/-- by value -/
noncomputable def lcZ (tg : Tg) (tt : FT) (fe : FE) (src : Src) (ρ : Rho) : List D → Sto → Option (List D × Sto)
  | [], st => if Intact src st then some ([], st) else none
  | d :: ds, st => if Intact src st then (tgD tg d ρ).bind fun ρ1 => (tt ρ1 st).bind fun b => if b.1 = true then (fe ρ1 b.2).bind fun y => (lcZ tg tt fe src ρ ds y.2).bind fun r => some (y.1 :: r.1, r.2)
      else lcZ tg tt fe src ρ ds b.2
    else none
noncomputable def fLcZ (fi : FI) (tg : Tg) (tt : FT) (fe : FE) (vs : List Nat) : FE := fun ρ st => (fi ρ st).bind fun p => (lcZ tg tt fe p.2.1 (wipeD ρ vs) p.1 p.2.2).bind fun r => if r.1.length ≤ sizeLine then some (.lst r.1, r.2) else none
theorem Ext.step {μ1 μ2 μ3 : Mu} {H1 H2 H3 : Hp} {Da : Addr} {hd : List Addr} (x : Ext G μ1 H1 ⟨μ2.pl, hd⟩ H2) (e : μ2.hd = Da :: hd) (hD : H1 Da = none) (y : Ext G μ2 H2 μ3 H3) : Ext G μ1 H1 ⟨μ3.pl, hd⟩ H3 := by
  obtain ⟨m1, p1⟩ := x.pre
  obtain ⟨m2, p2⟩ := y.pre
  refine ⟨⟨m1 ++ m2, by rw [p2]; show μ2.pl ++ m2 = _; rw [show μ2.pl = μ1.pl ++ m1 from p1, List.append_assoc]⟩, x.hid, fun a ha => ?_, fun a vs h => y.tup a vs (x.tup a vs h), fun a u h n m q => ?_, fun a u h q => y.xd a u (x.xd a u h q) q, fun a h => x.dom a (y.dom a h)⟩
  · have := x.hid
    simp only at this
    rw [y.kept a (by rw [e, this]; exact List.mem_cons_of_mem _ ha)]
    exact x.kept a ha
  · obtain ⟨h1, h2⟩ := x.raw a u h n m q
    refine y.raw a u h1 h2 (fun z => ?_) q
    have := x.hid
    simp only at this
    rw [e] at z
    rcases List.mem_cons.mp z with z | z
    · exact ne_of_none h hD z
    · rw [this] at z; exact m z
theorem Ext.stepSet {μ1 : Mu} {pl hd : List Addr} {H1 H2 : Hp} {Da : Addr} {xs ys : List V} (x : Ext G μ1 H1 ⟨pl, hd⟩ H2) (hD : H1 Da = none) (h2 : H2 Da = some (.lst xs)) (nd : Da ∉ μ1.hd) : Ext G μ1 H1 ⟨pl, hd⟩ (upd H2 Da (.lst ys)) := by
  refine ⟨x.pre, x.hid, fun a ha => ?_, fun b vs h => ?_, fun a u h n m q => ?_, fun a u h f => ?_, fun a h => x.dom a (dom_upd a h)⟩
  · rw [upd_ne (fun z : a = Da => nd (by rw [← z]; exact ha))]; exact x.kept a ha
  · have := x.tup b vs h
    rw [upd_ne (ne_of this h2 (by intro z; cases z))]; exact this
  · obtain ⟨h1, h3⟩ := x.raw a u h n m q
    exact ⟨by rw [upd_ne (ne_of_none h hD)]; exact h1, h3⟩
  · have := x.xd a u h f
    rw [upd_ne (ne_of this h2 (by intro z; subst z; exact f))]; exact this
theorem lcZ_data {tt : FT} {fe : FE} {vs : List Nat} (hin : ∀ i ∈ tg.ins, i ∈ vs) {σ : L2.St} {H : Hp} {Q : VK} (q : lift G (fLcZ fi tg tt fe vs) σ H Q) : tLc (liftI G fi) (gOf G.K tg) (liftT G tt) (lift G fe) vs σ H Q := by
  obtain ⟨ρ, μ, st, d, st', E, S, e, k⟩ := q
  unfold fLcZ at e
  obtain ⟨⟨items, src, s1⟩, e1, e⟩ := Option.bind_eq_some_iff.mp e
  obtain ⟨⟨ds, sf⟩, e2, e⟩ := Option.bind_eq_some_iff.mp e
  simp only at e
  split at e
  · rename_i hz
    obtain ⟨rfl, rfl⟩ : D.lst ds = d ∧ sf = st' := by
      have q := Option.some.inj e
      exact ⟨congrArg Prod.fst q, congrArg Prod.snd q⟩
    refine ⟨ρ, μ, st, items, src, s1, E, S, e1, fun μ1 H1 J X1 S1 F Da hD => ?_⟩
    have nD : Da ∉ μ1.hd := fun z => S1.hid_ne z hD rfl
    refine ⟨fun i m H2 => m = items.length - i ∧ i ≤ items.length ∧ ∃ μ2 st2 acc accV r, StR G μ2 st2 H2 ∧ Ext G μ1 H1 ⟨μ2.pl, μ1.hd⟩ H2 ∧ μ2.hd = Da :: μ1.hd ∧ H2 Da = some (.lst accV) ∧ Reps G μ2 H2 acc accV ∧ lcZ tg tt fe src (wipeD ρ vs) (items.drop i) st2 = some (r, sf) ∧ acc ++ r = ds,
      ⟨items.length, by simp, Nat.zero_le _, μ1.hide Da, s1, [], [], ds, S1.hide hD, Ext.bare nD hD .refl fun a ha => upd_ne (S1.hid_ne ha hD), rfl, upd_same, .nil, by simpa using e2, rfl⟩, ?_⟩
    rintro i m H2 ⟨rfl, hi2, μ2, st2, acc, accV, r, S2, X2, h2, hDa, RA, e3, er⟩
    have X2' : Ext0 G μ1 H1 μ2 H2 := by
      refine ⟨X2.to0.at_, X2.to0.tup, fun a vs h => ?_, fun a vs h => ?_⟩
      · obtain ⟨q1, q2, q3⟩ := X2.to0.lst a vs h
        refine ⟨q1, q2, fun z => ?_⟩
        rw [h2] at z
        rcases List.mem_cons.mp z with z | z
        · exact ne_of_none h.1 hD z
        · exact q3 z
      · have q := X2.to0.lq a vs h
        rcases h with ⟨h, _⟩ | h
        · rcases q with ⟨q1, q2, q3⟩ | q
          · refine .inl ⟨q1, q2, fun z => ?_⟩
            rw [h2] at z
            rcases List.mem_cons.mp z with z | z
            · exact rd_ne hD h z
            · exact q3 z
          · exact .inr q
        · exact .inr h
    by_cases hlt : i < items.length
    · have hd : items.drop i = items[i] :: items.drop (i + 1) := List.drop_eq_getElem_cons hlt
      rw [hd] at e3
      unfold lcZ at e3
      split at e3
      · rename_i hin2
        obtain ⟨ρ3, e4, e3⟩ := Option.bind_eq_some_iff.mp e3
        obtain ⟨⟨tb, s5⟩, e5, e3⟩ := Option.bind_eq_some_iff.mp e3
        obtain ⟨go, yl⟩ := (F μ2 st2 H2 i X2' S2 hin2).1 hlt
        refine .inr ⟨go, fun H5 => ∃ μ5 st5 acc accV r, StR G μ5 st5 H5 ∧ Ext G μ1 H1 ⟨μ5.pl, μ1.hd⟩ H5 ∧ μ5.hd = Da :: μ1.hd ∧ H5 Da = some (.lst accV) ∧ Reps G μ5 H5 acc accV ∧ lcZ tg tt fe src (wipeD ρ vs) (items.drop (i + 1)) st5 = some (r, sf) ∧ acc ++ r = ds, fun H5 h5 => ⟨items.length - (i + 1), by omega, rfl, hlt, h5⟩, fun x H3 hy => ?_⟩
        obtain ⟨dd, ed, Rd, S3, X3⟩ := yl x H3 hy
        have ed' : dd = items[i] := by
          rw [List.getElem?_eq_getElem hlt] at ed
          exact (Option.some.inj ed).symm
        subst ed'
        have E3 : EnvR G μ2 H3 (wipeD ρ vs) (L2.wipe σ vs) := (((E.ext X1).ext0 X2').ext X3).wipe vs
        refine gOf_ok (vs' := vs) Rd E3 e4 fun σ6 E6 hw => ⟨(hw hin).trans (wipe_idem σ vs), ?_⟩
        refine ⟨ρ3, μ2, st2, tb, s5, E6, S3, e5, fun μ7 H7 X7 S7 => ?_⟩
        have mD : Da ∈ μ2.hd := by rw [h2]; exact List.mem_cons_self
        cases tb with
        | true =>
          rw [if_pos rfl] at e3
          show lift G fe σ6 H7 _
          obtain ⟨⟨y, s8⟩, e8, e3⟩ := Option.bind_eq_some_iff.mp e3
          obtain ⟨⟨r', sf'⟩, e9, e3⟩ := Option.bind_eq_some_iff.mp e3
          obtain ⟨rfl, rfl⟩ : y :: r' = r ∧ sf' = sf := by
            have q := Option.some.inj e3
            exact ⟨congrArg Prod.fst q, congrArg Prod.snd q⟩
          refine ⟨ρ3, μ7, s5, y, s8, E6.ext X7, S7, e8, fun μ9 H9 v X9 S9 R9 => ?_⟩
          have X29 : Ext G μ2 H2 μ9 H9 := X3.trans (X7.trans X9)
          have h9 : H9 Da = some (.lst accV) := (X29.kept Da mD).trans hDa
          have m9 : Da ∈ μ9.hd := by rw [X29.hid]; exact mD
          have R' := (RA.ext X29).append (.cons R9 .nil)
          refine ⟨accV, h9, ?_, μ9, s8, acc ++ [y], accV ++ [v], r', S9.hset m9, (X2.step h2 hD X29).stepSet hD h9 nD, by rw [X29.hid]; exact h2, upd_same, R'.ext0 (Ext0.hset m9 h9), e9, by rw [List.append_assoc]; exact er⟩
          rw [← RA.length]
          have : (acc ++ y :: r').length ≤ sizeLine := by rw [er]; exact hz
          simp at this
          omega
        | false =>
          rw [if_neg Bool.false_ne_true] at e3
          have X27 : Ext G μ2 H2 μ7 H7 := X3.trans X7
          exact ⟨μ7, s5, acc, accV, r, S7, X2.step h2 hD X27, by rw [X27.hid]; exact h2, (X27.kept Da mD).trans hDa, RA.ext X27, e3, er⟩
      · cases e3
    · have hi3 : i = items.length := by omega
      rw [hi3, List.drop_length] at e3
      unfold lcZ at e3
      split at e3
      · rename_i hin2
        have stop := (F μ2 _ H2 i X2' S2 hin2).2 hi3
        obtain ⟨rfl, rfl⟩ : ([] : List D) = r ∧ st2 = sf := by
          have q := Option.some.inj e3
          exact ⟨congrArg Prod.fst q, congrArg Prod.snd q⟩
        rw [List.append_nil] at er
        subst er
        have mD : Da ∈ μ2.hd := by rw [h2]; exact List.mem_cons_self
        exact .inl ⟨stop, k ⟨μ2.pl, μ1.hd⟩ H2 _ (X1.trans X2) (S2.bare h2) (.lst ⟨hDa, (S2.dis Da mD).1, nD⟩ (RA.ext0 (Ext0.bare h2)))⟩
      · cases e3
  · cases e
theorem tYes_of {σ : L2.St} {H : Hp} {Q : Bool → Hp → Prop} (q : liftT G fYes σ H Q) : tYes σ H Q := by
  obtain ⟨ρ, μ, st, b, st', E, S, e, k⟩ := q
  cases e
  exact k μ H .refl S
theorem dts_nil : PTs X [] (liftT G fYes) := ⟨fun pins s σ H Q I h => pts_nil.run pins s σ H Q I (tYes_of h)⟩
theorem dts_one (h : PT X c (liftT G ta)) : PTs X [c] (liftT G ta) := pts_one h
theorem de_lcZ {elt : Expr} {ifs : List Expr} {scope : Scope} {own : List (Str × Nat)} {tt : FT} {fe : FE} (o : On G X) (hN : X.N.Nodup) (hi : PI X tgt iter (liftI G fi)) (ok : BlkOk X.N X.env.scope scope own)
    (hg : ∀ (s : Shared) (H : Hp) (C : Addr) (cl : List (Str × Addr)) (fp : List Addr), PG (X.blk s H scope (compEnvC scope cl C X.env) fp) tgt (gOf G.K tg)) (ht : ∀ (s : Shared) (H : Hp) (C : Addr) (cl : List (Str × Addr)) (fp : List Addr), PTs (X.blk s H scope (compEnvC scope cl C X.env) fp) ifs (liftT G tt))
    (he : ∀ (s : Shared) (H : Hp) (C : Addr) (cl : List (Str × Addr)) (fp : List Addr), PE (X.blk s H scope (compEnvC scope cl C X.env) fp) elt (lift G fe)) (hin : ∀ i ∈ tg.ins, i ∈ own.map (·.2) := by decide) (hs : ∀ x, foldedSetIterable iter X.env x = pure x := by intro _; rfl) :
    PE X (.ListComp elt [⟨tgt, iter, ifs, 0⟩] scope pos) (lift G (fLcZ fi tg tt fe (own.map (·.2)))) :=
  PE.imp (pe_lc o.calm hN hi ok hg ht he hs) fun _ _ _ => lcZ_data hin
theorem On.blk (o : On G X) {s : Shared} {H : Hp} {scope : Scope} {cenv : Env} {fp : List Addr} : On G (X.blk s H scope cenv fp) := ⟨o.prog, o.w, o.mg, o.base, o.K, o.calm⟩
/-- y = [..] -/
theorem ds_setLc {i : Nat} {y : Str} {py spos : Pos} {elt : Expr} {ifs : List Expr} {scope : Scope} {own : List (Str × Nat)} {tt : FT} {fe : FE} (o : On G X) (hN : X.N.Nodup) (hy : X.N[i]? = some y) (hyl : X.env.scope.names.lookup y = some .local)
    (hsw : swapsWith (.ListComp elt [⟨tgt, iter, ifs, 0⟩] scope pos) (some (.Name y py)) spos.line X.env = pure true) (hi : PI X tgt iter (liftI G fi)) (ok : BlkOk X.N X.env.scope scope own)
    (hg : ∀ (s : Shared) (H : Hp) (C : Addr) (cl : List (Str × Addr)) (fp : List Addr), PG (X.blk s H scope (compEnvC scope cl C X.env) fp) tgt (gOf G.K tg)) (ht : ∀ (s : Shared) (H : Hp) (C : Addr) (cl : List (Str × Addr)) (fp : List Addr), PTs (X.blk s H scope (compEnvC scope cl C X.env) fp) ifs (liftT G tt))
    (he : ∀ (s : Shared) (H : Hp) (C : Addr) (cl : List (Str × Addr)) (fp : List Addr), PE (X.blk s H scope (compEnvC scope cl C X.env) fp) elt (lift G fe)) (hin : ∀ i ∈ tg.ins, i ∈ own.map (·.2) := by decide) (hs : ∀ x, foldedSetIterable iter X.env x = pure x := by intro _; rfl) :
    PS X (.Assign [.Name y py] (.ListComp elt [⟨tgt, iter, ifs, 0⟩] scope pos) spos) (liftS G W (sSet i (fLc fi tg tt fe (own.map (·.2))))) :=
  PS.imp (ps_setLc o.calm hN hy hyl hsw hi ok hg ht he hs) fun D0 σ H ⟨ρ, μ, st, fl, ρ', st', E, S, e, k⟩ => by
    unfold sSet at e
    obtain ⟨p, e1, e⟩ := Option.bind_eq_some_iff.mp e
    cases e
    exact lc_data hin ⟨ρ, μ, st, p.1, p.2, E, S, e1, fun μ1 H1 v X1 S1 R1 => k μ1 H1 X1 S1 _ ((E.ext X1).set R1)⟩
/-- y = [..], by value -/
theorem ds_setLcZ {i : Nat} {y : Str} {py spos : Pos} {elt : Expr} {ifs : List Expr} {scope : Scope} {own : List (Str × Nat)} {tt : FT} {fe : FE} (o : On G X) (hN : X.N.Nodup) (hy : X.N[i]? = some y) (hyl : X.env.scope.names.lookup y = some .local)
    (hsw : swapsWith (.ListComp elt [⟨tgt, iter, ifs, 0⟩] scope pos) (some (.Name y py)) spos.line X.env = pure true) (hi : PI X tgt iter (liftI G fi)) (ok : BlkOk X.N X.env.scope scope own)
    (hg : ∀ (s : Shared) (H : Hp) (C : Addr) (cl : List (Str × Addr)) (fp : List Addr), PG (X.blk s H scope (compEnvC scope cl C X.env) fp) tgt (gOf G.K tg)) (ht : ∀ (s : Shared) (H : Hp) (C : Addr) (cl : List (Str × Addr)) (fp : List Addr), PTs (X.blk s H scope (compEnvC scope cl C X.env) fp) ifs (liftT G tt))
    (he : ∀ (s : Shared) (H : Hp) (C : Addr) (cl : List (Str × Addr)) (fp : List Addr), PE (X.blk s H scope (compEnvC scope cl C X.env) fp) elt (lift G fe)) (hin : ∀ i ∈ tg.ins, i ∈ own.map (·.2) := by decide) (hs : ∀ x, foldedSetIterable iter X.env x = pure x := by intro _; rfl) :
    PS X (.Assign [.Name y py] (.ListComp elt [⟨tgt, iter, ifs, 0⟩] scope pos) spos) (liftS G W (sSet i (fLcZ fi tg tt fe (own.map (·.2))))) :=
  PS.imp (ps_setLc o.calm hN hy hyl hsw hi ok hg ht he hs) fun D0 σ H ⟨ρ, μ, st, fl, ρ', st', E, S, e, k⟩ => by
    unfold sSet at e
    obtain ⟨p, e1, e⟩ := Option.bind_eq_some_iff.mp e
    cases e
    exact lcZ_data hin ⟨ρ, μ, st, p.1, p.2, E, S, e1, fun μ1 H1 v X1 S1 R1 => k μ1 H1 X1 S1 _ ((E.ext X1).set R1)⟩
open Classical in
noncomputable def allD (tg : Tg) (fe : FE) (src : Src) : List D → Rho → Sto → Option (Bool × Sto)
  | [], _, st => if Intact src st then some (true, st) else none
  | d :: ds, ρ, st => if Intact src st then (tgD tg d ρ).bind fun ρ1 => (fe ρ1 st).bind fun y => (asB y.1).bind fun b => if b = true then allD tg fe src ds ρ1 y.2 else some (false, y.2) else none
def capD (cap : List (Option Nat)) (ρ : Rho) : Rho := cap.map fun o => o.bind fun j => (ρ[j]?).join
def capS (cap : List (Option Nat)) (σ : L2.St) : L2.St := cap.map fun o => o.bind fun j => (σ[j]?).join
noncomputable def fAllG (fi : FI) (tg : Tg) (fe : FE) (cap : List (Option Nat)) : FE := fun ρ st => (fi ρ st).bind fun p => (allD tg fe p.2.1 p.1 (capD cap ρ) p.2.2).bind fun q => some (.bl q.1, q.2)
theorem On.inner (o : On G X) {scope : Scope} {N : List Str} {k : Nat} {X' : Cx} (h : Inner X scope N k X') : On G X' := ⟨h.prog.trans o.prog, h.w.trans o.w, h.mg.trans o.mg, h.base.trans o.base, h.K.trans o.K, h.calm⟩
theorem de_all {cc P : Addr} {elt : Expr} {p gpos : Pos} {scope : Scope} {fe : FE} {k : Nat} {N : List Str} {cap : List (Option Nat)} (o : On G X) (hP : P ∈ G.Ps)
    (hr : Room (k + 1) X.A) (hg0 : Gl X "all") (hm : G.mg "all" = none) (TB : TabB G.base G.mg cc P) (hcode : X.env.code = .ref cc) (S : GSc X.env scope) (hi : PI X tgt iter (liftI G fi))
    (hcl : cap.length = N.length) (hcap : ∀ (i : Nat) (x : Str) (j : Nat), N[i]? = some x → cap[i]? = some (some j) → scope.names.lookup x = some .free ∧ X.N[j]? = some x ∧ (X.env.kindOf x = some .cell ∨ X.env.kindOf x = some .free))
    (hgt : ∀ X', Inner X scope N k X' → PG X' tgt (gOf G.K tg)) (hel : ∀ X', Inner X scope N k X' → PE X' elt (lift G fe))
    (hs : ∀ v, genFold iter X.env v = pure v := by intro _; rfl)
    (he : starEach [.GeneratorExp elt [⟨tgt, iter, [], 0⟩] scope gpos] X.env = (false, eval (.GeneratorExp elt [⟨tgt, iter, [], 0⟩] scope gpos) X.env) :: starEach [] X.env := by rfl) :
    PE X (.Call (.Name "all" p) [.GeneratorExp elt [⟨tgt, iter, [], 0⟩] scope gpos] [] pos) (lift G (fAllG fi tg fe cap)) := by
  refine PE.imp (pe_allG (P := P) hr hg0 (by rw [o.mg]; exact hm) o.calm (by rw [o.base, o.mg]; exact TB) hcode S hi hgt hel hs he) fun σ H Q ⟨ρ, μ, st, d, st', E, Sx, e, kk⟩ => ?_
  unfold fAllG at e
  obtain ⟨⟨items, src, s1⟩, e1, e⟩ := Option.bind_eq_some_iff.mp e
  obtain ⟨⟨res, sf⟩, e2, e⟩ := Option.bind_eq_some_iff.mp e
  obtain ⟨rfl, rfl⟩ : D.bl res = d ∧ sf = st' := by
    have q := Option.some.inj e
    exact ⟨congrArg Prod.fst q, congrArg Prod.snd q⟩
  refine ⟨ρ, μ, st, items, src, s1, E, Sx, e1, fun μ1 H1 J X1 S1 F => ⟨S1.tab P hP, capS cap σ, ⟨by simp [capS, hcl], fun i x v h1 h2 => ?_⟩, fun H2 tb => ?_⟩⟩
  · unfold capS at h2
    rw [List.getElem?_map] at h2
    cases hc : cap[i]? with
    | none => rw [hc] at h2; cases h2
    | some oj =>
      rw [hc] at h2
      cases oj with
      | none => simp at h2
      | some j =>
        obtain ⟨q1, q2, q3⟩ := hcap i x j h1 hc
        refine ⟨q1, j, q2, ?_, q3⟩
        simp only [Option.map_some, Option.bind_some, Option.some.injEq] at h2
        cases hj : σ[j]? with
        | none => rw [hj] at h2; cases h2
        | some w => rw [hj] at h2; simp at h2; rw [h2]
  · have hT := S1.tab P hP
    have S2 := S1.tabbed hP hT tb
    have X2 : Ext G μ1 H1 μ1 H2 := Ext.tabbed S1 hT tb
    have E0 : EnvR G μ1 H2 (capD cap ρ) (capS cap σ) := ⟨by simp [capS, capD], fun i dd h => by
      unfold capD at h
      rw [List.getElem?_map] at h
      cases hc : cap[i]? with
      | none => rw [hc] at h; cases h
      | some oj =>
        rw [hc] at h
        cases oj with
        | none => simp at h
        | some j =>
          simp only [Option.map_some, Option.bind_some, Option.some.injEq] at h
          cases hj : ρ[j]? with
          | none => rw [hj] at h; cases h
          | some w =>
            rw [hj] at h
            simp at h
            subst h
            obtain ⟨v, v1, v2⟩ := E.get j dd hj
            refine ⟨v, ?_, v2.ext (X1.trans X2)⟩
            unfold capS
            rw [List.getElem?_map, hc]
            simp [v1]⟩
    refine ⟨fun i m σ3 H3 => m = items.length - i ∧ i ≤ items.length ∧ ∃ ρ3 μ3 st3, EnvR G μ3 H3 ρ3 σ3 ∧ StR G μ3 st3 H3 ∧ Ext G μ1 H1 μ3 H3 ∧ allD tg fe src (items.drop i) ρ3 st3 = some (res, sf),
      ⟨items.length, by simp, Nat.zero_le _, capD cap ρ, μ1, s1, E0, S2, X2, by simpa using e2⟩, ?_⟩
    rintro i m σ3 H3 ⟨rfl, hi2, ρ3, μ3, st3, E3, S3, X3, e3⟩
    by_cases hlt : i < items.length
    · have hd : items.drop i = items[i] :: items.drop (i + 1) := List.drop_eq_getElem_cons hlt
      rw [hd] at e3
      unfold allD at e3
      split at e3
      · rename_i hin
        obtain ⟨ρ4, e4, e3⟩ := Option.bind_eq_some_iff.mp e3
        obtain ⟨⟨y, s5⟩, e5, e3⟩ := Option.bind_eq_some_iff.mp e3
        obtain ⟨t, e6, e3⟩ := Option.bind_eq_some_iff.mp e3
        obtain ⟨go, yl⟩ := (F μ3 st3 H3 i X3.to0 S3 hin).1 hlt
        refine .inr ⟨go, fun x H4 hy => ?_⟩
        obtain ⟨dd, ed, Rd, S4, X4⟩ := yl x H4 hy
        have ed' : dd = items[i] := by
          rw [List.getElem?_eq_getElem hlt] at ed
          exact (Option.some.inj ed).symm
        subst ed'
        refine gOf_ok (vs' := []) Rd (E3.ext X4) e4 fun σ6 E6 _ => ?_
        refine ⟨ρ4, μ3, st3, y, s5, E6, S4, e5, fun μ7 H7 v X7 S7 R7 => ⟨t, asB_rep e6 R7, ?_⟩⟩
        cases t with
        | true =>
          rw [if_pos rfl] at e3 ⊢
          exact ⟨items.length - (i + 1), by omega, rfl, hlt, ρ4, μ7, s5, E6.ext X7, S7, X3.trans (X4.trans X7), e3⟩
        | false =>
          rw [if_neg Bool.false_ne_true] at e3 ⊢
          cases e3
          exact kk μ7 H7 _ (X1.trans (X3.trans (X4.trans X7))) S7 (.bl false)
      · cases e3
    · have hi3 : i = items.length := by omega
      rw [hi3, List.drop_length] at e3
      unfold allD at e3
      split at e3
      · rename_i hin
        have stop := (F μ3 _ H3 i X3.to0 S3 hin).2 hi3
        cases e3
        exact .inl ⟨stop, kk μ3 H3 _ (X1.trans X3) S3 (.bl true)⟩
      · cases e3
end
end EL
set_option Elab.async false
set_option linter.all false
set_option maxRecDepth 100000
set_option maxHeartbeats 1000000
namespace EL
open PySem PySem.Spec PyProof.Rows L2 GxR LG
section
variable {G : G0} {W : WX} {X : Cx} {pos : Pos} {a b c e tgt : Expr} {es : List Expr} {fa fb fc : FE} {ta tb : FT} {fr : FA}
abbrev HA := List D → Sto → Option (D × Sto)
def rDA (G : G0) (h : HA) : List V → Hp → VK → Prop := fun vs H Q => ∃ μ st ds z st', StR G μ st H ∧ Reps G μ H ds vs ∧ h ds st = some (z, st') ∧ After G μ H z st' Q
def fCall (h : HA) (fr : FA) : FE := fun ρ st => (fr ρ st).bind fun p => h p.1 p.2
theorem call_core {h : HA} {σ : L2.St} {H : Hp} {Q : VK} (q : lift G (fCall h fr) σ H Q) : tCB (rDA G h) (liftA G fr) σ H Q := by
  obtain ⟨ρ, μ, st, d, st', E, S, e, k⟩ := q
  unfold fCall at e
  obtain ⟨p, e1, e⟩ := Option.bind_eq_some_iff.mp e
  exact ⟨ρ, μ, st, p.1, p.2, E, S, e1, fun μ1 H1 vs X1 S1 R1 => ⟨μ1, p.2, p.1, d, st', S1, R1, e, k.trans X1⟩⟩
theorem de_callB {id : String} {x : Str} {p : Pos} {h : HA} (o : On G X) (hc : CallR X (.builtin id) (rDA G h)) (hg : Gl X x) (hm : G.mg x = none) (hv : bootBuiltins x = some (.builtin id)) (ha : PA X (e :: es) (liftA G fr)) (hn : x ≠ "__name__" := by decide) (hdb : (x == ("__debug__" : Str)) = false := by decide)
    (he : starEach (e :: es) X.env = (false, eval e X.env) :: starEach es X.env := by rfl) (hpl : (backTo pos (starEach es X.env)).any (·.1) = false := by rfl) : PE X (.Call (.Name x p) (e :: es) [] pos) (lift G (fCall h fr)) :=
  PE.imp (pe_callB hc hg (by rw [o.mg]; exact hm) hv ha hn hdb he hpl) fun _ _ _ => call_core
theorem de_callTy {T : String} {x : Str} {p : Pos} {h : HA} (o : On G X) (hc : CallR X (.type T) (rDA G h)) (hg : Gl X x) (hm : G.mg x = none) (hv : bootBuiltins x = some (.type T)) (ha : PA X (e :: es) (liftA G fr)) (hn : x ≠ "__name__" := by decide) (hdb : (x == ("__debug__" : Str)) = false := by decide)
    (he : starEach (e :: es) X.env = (false, eval e X.env) :: starEach es X.env := by rfl) (hpl : (backTo pos (starEach es X.env)).any (·.1) = false := by rfl) : PE X (.Call (.Name x p) (e :: es) [] pos) (lift G (fCall h fr)) :=
  PE.imp (pe_callTy hc hg (by rw [o.mg]; exact hm) hv ha hn hdb he hpl) fun _ _ _ => call_core
/-- a built-in class as a value -/
theorem de_ty {T : String} {x : Str} (o : On G X) (hg : Gl X x) (hm : G.mg x = none) (hv : bootBuiltins x = some (.type T)) (hn : x ≠ "__name__" := by decide) (hd : (x == ("__debug__" : Str)) = false := by decide) : PE X (.Name x pos) (lift G (fC (.ty T))) :=
  PE.imp (pe_bltn (v := .ty T) hg (by rw [o.mg]; exact hm) hv rfl hn hd) fun σ H Q ⟨ρ, μ, st, d, st', E, S, e, k⟩ => by cases e; exact k μ H _ .refl S (.ty T)
def spD (G : G0) (n : Nat) (fn : HA) : Sp := fun vs H Q _ => ∃ μ st ds d st', ds.length = n ∧ StR G μ st H ∧ Reps G μ H ds vs ∧ fn ds st = some (d, st') ∧ After G μ H d st' Q
def fFn (n : Nat) (fn : HA) (fr : FA) : FE := fun ρ st => (fr ρ st).bind fun p => if p.1.length = n then fn p.1 p.2 else none
/-- how a def is called: its promise, and where it stands -/
structure Def (G : G0) (k : Nat) (x : Str) (n : Nat) (fn : HA) : Prop where
  ex : ∃ (f : Addr) (fd : FuncData) (ps : List Str), ps.length = n ∧ FnOk G.P G.w G.K G.mg G.base CX0 k f fd ps (spD G n fn) ∧ G.mg x = some (.ref f) ∧ PySem.W.keepIn G.K (.ref f) = true ∧ Binds G.K fd ps []
theorem Def.mono {j k : Nat} {x : Str} {n : Nat} {fn : HA} (F : Def G j x n fn) (h : j ≤ k) : Def G k x n fn := by
  obtain ⟨f, fd, ps, h1, h2, h3⟩ := F.ex
  exact ⟨f, fd, ps, h1, h2.mono h, h3⟩
theorem de_call {k n : Nat} {x : Str} {fn : HA} {p : Pos} (o : On G X) (F : Def G k x n fn) (hr : Room k X.A) (hg : Gl X x) (ha : PA X (e :: es) (liftA G fr)) (hdb : (x == ("__debug__" : Str)) = false := by decide)
    (he : starEach (e :: es) X.env = (false, eval e X.env) :: starEach es X.env := by rfl) (hpl : (backTo pos (starEach es X.env)).any (·.1) = false := by rfl) : PE X (.Call (.Name x p) (e :: es) [] pos) (lift G (fFn n fn fr)) := by
  obtain ⟨f, fd, ps, hl, F, hm, hk, hb⟩ := F.ex
  have F' : FnOk X.prog X.w X.K X.mg X.base CX0 k f fd ps (spD G n fn) := by rw [o.prog, o.w, o.K, o.mg, o.base]; exact F
  refine PE.imp (pe_call F' hr hg (by rw [o.mg]; exact hm) (by rw [o.K]; exact hk) (by rw [o.K]; exact hb) .nil pass0 ha hdb he hpl) fun σ H Q ⟨ρ, μ, st, d, st', E, S, e, kk⟩ => ?_
  unfold fFn at e
  obtain ⟨p, e1, e⟩ := Option.bind_eq_some_iff.mp e
  split at e
  · rename_i hz
    exact ⟨ρ, μ, st, p.1, p.2, E, S, e1, fun μ1 H1 vs X1 S1 R1 => ⟨μ1, p.2, p.1, d, st', hz, S1, by rw [List.append_nil]; exact R1, e, kk.trans X1⟩⟩
  · cases e
/-- a def's body as a function -/
def runD (N : Nat) (sb : FS) : HA := fun ds st => (sb (ds.map some ++ List.replicate (N - ds.length) none) st).bind fun p => match p.1 with
  | .rt d => some (d, p.2.2)
  | .nx => some (.non, p.2.2)
  | _ => none
theorem env_start {μ : Mu} {H : Hp} {N : List Str} {ds : List D} {vs : List V} (r : Reps G μ H ds vs) : EnvR G μ H (ds.map some ++ List.replicate (N.length - ds.length) none) (start N vs) := by
  have len := r.length
  refine ⟨by unfold L2.start; simp [len], fun i d h => ?_⟩
  by_cases hi : i < ds.length
  · rw [List.getElem?_append_left (by simpa using hi), List.getElem?_map] at h
    cases hd : ds[i]? with
    | none => rw [hd] at h; cases h
    | some d' =>
      rw [hd] at h
      cases h
      obtain ⟨v, h1, h2⟩ := r.get i hd
      refine ⟨v, ?_, h2⟩
      unfold L2.start
      rw [List.getElem?_append_left (by simp; omega), List.getElem?_map, h1]
      rfl
  · rw [List.getElem?_append_right (by simpa using hi), List.getElem?_replicate] at h
    split at h <;> cases h
/-- the context of a def's body -/
abbrev bodyCx (G : G0) (N : List Str) (qual : Str) (scope : Scope) (f : Addr) (cdv : Value) (A : Around) (outer : List Env) (s : Shared) (H : Hp) : Cx := (cxOf CX0 G.P G.w G.K G.mg G.base N qual scope f cdv A outer s H E0).nox
theorem On.body {N : List Str} {qual : Str} {scope : Scope} {f : Addr} {cdv : Value} {A : Around} {outer : List Env} {s : Shared} {H : Hp} : On G (bodyCx G N qual scope f cdv A outer s H) := ⟨rfl, rfl, rfl, rfl, rfl, rfl⟩
theorem fn_data {k : Nat} {f : Addr} {name qual : Str} {params : Arguments} {body : List Stmt} {scope : Scope} {kV doc pm cdv ct oc : Value} {an od : Option Addr} {osl : Array (Option Value)} {N ps : List Str} {sb : FS}
    (lk : G.K.lookup f = some ⟨oc, od, .func (PySem.W.fnOf name qual params body scope .none kV doc pm an cdv ct), osl⟩) (hcd : PySem.W.codeIn G.K cdv qual = true) (S : FnScope N ps scope)
    (hbody : ∀ (A : Around) (outer : List Env) (s : Shared) (H : Hp), Room k (A.deeper (envOfC qual scope s.heap.objs.size f cdv)) → PSs (bodyCx G N qual scope f cdv A outer s H) body (liftS G W sb)) :
    FnOk G.P G.w G.K G.mg G.base CX0 (k + 1) f (PySem.W.fnOf name qual params body scope .none kV doc pm an cdv ct) ps (spD G ps.length (runD N.length sb)) := by
  refine fn_of lk hcd S (fun vs H Q E h => ?_) fun A outer s H vs Q E hr hsp => ?_
  · obtain ⟨μ, st, ds, d, st', hl, _, r, _⟩ := h
    rw [← r.length]; exact hl
  · obtain ⟨μ, st, ds, d, st', hl, Sx, r, e, k2⟩ := hsp
    unfold runD at e
    obtain ⟨⟨fl, ρ', s1⟩, e1, e⟩ := Option.bind_eq_some_iff.mp e
    refine ⟨_, (show PSs (bodyCx G N qual scope f cdv A outer s H) body (liftS G W sb) from hbody A outer s H hr).nox, ?_⟩
    refine ⟨_, μ, st, fl, ρ', s1, env_start r, Sx, e1, fun μ1 H1 X1 S1 => ?_⟩
    cases fl with
    | rt dd => cases e; exact fun v Rv => k2 μ1 H1 v X1 S1 Rv
    | nx => cases e; exact fun σ' _ => k2 μ1 H1 .non X1 S1 .non
    | bk => cases e
    | ct => cases e
    | ex x => cases e
theorem def_of {k : Nat} {f : Addr} {name qual : Str} {params : Arguments} {body : List Stmt} {scope : Scope} {kV doc pm cdv ct oc : Value} {an od : Option Addr} {osl : Array (Option Value)} {N ps : List Str} {sb : FS}
    (lk : G.K.lookup f = some ⟨oc, od, .func (PySem.W.fnOf name qual params body scope .none kV doc pm an cdv ct), osl⟩) (hcd : PySem.W.codeIn G.K cdv qual = true) (S : FnScope N ps scope)
    (hm : G.mg name = some (.ref f)) (hk : PySem.W.keepIn G.K (.ref f) = true)
    (hb : ∀ us : List Value, us.length = ps.length → bindArgs (PySem.W.fnOf name qual params body scope .none kV doc pm an cdv ct) ⟨us, []⟩ = pure (ps.zip us))
    (hbody : ∀ (A : Around) (outer : List Env) (s : Shared) (H : Hp), Room k (A.deeper (envOfC qual scope s.heap.objs.size f cdv)) → PSs (bodyCx G N qual scope f cdv A outer s H) body (liftS G W sb)) : Def G (k + 1) name ps.length (runD N.length sb) :=
  ⟨f, _, ps, rfl, fn_data lk hcd S hbody, hm, hk, .all hb⟩
end
end EL
set_option Elab.async false
set_option linter.all false
set_option maxRecDepth 100000
set_option maxHeartbeats 1000000
namespace EL
open PySem PySem.Spec PyProof.Rows L2 GxR LG
def bI (b : Bool) : Int := if b = true then 1 else 0
theorem neg_bool {prog : Program} {w : World} {A : Around} {E : Value → Shared → Prop} {s : Shared} {b : Bool} {Q : Value → Shared → Prop} (h : Q (.int (-(bI b)) s.toks) { s with toks := s.toks + 1 }) : wpAny (model prog w) A (unaryOp .USub (.bool b)) Q E s :=
  unaryOp_gives (op := .USub) (PySem.typeIs_bool s b) rfl F.slot_bool_neg F.entry_int_neg (F.args_int_neg_1 _) (.of_eq rfl : Gives (Builtin.«int.__neg__» ⟨[.bool b], []⟩) (.int (-(bI b)))) h
section
variable {X : Cx}
theorem op_addB : OpR X (binaryOp .Add) (fun x y H Q => ∃ k j, x = .bl k ∧ y = .int j ∧ Q (.int (bI k + j)) H) := by
  intro pins s σ H x y v u Q I rx ry h
  obtain ⟨k, j, rfl, rfl, q⟩ := h
  obtain ⟨t, rfl⟩ := ry
  cases rx
  exact IntBool.add_bool_int ⟨.int (bI k + j), H, I.tok _, ⟨_, rfl⟩, q⟩
theorem op_subB : OpR X (binaryOp .Sub) (fun x y H Q => ∃ k j, x = .bl k ∧ y = .int j ∧ Q (.int (bI k - j)) H) := by
  intro pins s σ H x y v u Q I rx ry h
  obtain ⟨k, j, rfl, rfl, q⟩ := h
  obtain ⟨t, rfl⟩ := ry
  cases rx
  exact IntBool.sub_bool_int ⟨.int (bI k - j), H, I.tok _, ⟨_, rfl⟩, q⟩
theorem un_negB : UnR X (unaryOp .USub) (fun x H Q => (∃ i, x = .int i ∧ Q (.int (-i)) H) ∨ ∃ k, x = .bl k ∧ Q (.int (-(bI k))) H) := by
  intro pins s σ H x v Q I rx h
  rcases h with ⟨i, rfl, q⟩ | ⟨k, rfl, q⟩
  · exact un_neg pins s σ H _ v Q I rx ⟨i, rfl, q⟩
  · cases rx
    exact neg_bool ⟨.int (-(bI k)), H, I.tok _, ⟨_, rfl⟩, q⟩
end
end EL
set_option Elab.async false
set_option linter.all false
set_option maxRecDepth 100000
set_option maxHeartbeats 1000000
namespace EL
open PySem PySem.Spec PyProof.Rows L2 GxR LG
section
variable {G : G0} {X : Cx}
def addD : D → D → Sto → Option (D × Sto)
  | .int i, .int j, st => some (.int (i + j), st)
  | .str x, .str y, st => if x.length + y.length ≤ sizeLine then some (.str (x ++ y), st) else none
  | .tup xs, .tup ys, st => if xs.length + ys.length ≤ sizeLine then some (.tup (xs ++ ys), st) else none
  | .bl b, .int j, st => some (.int (bI b + j), st)
  | c, d, st => match listOf c st, listOf d st with
    | some xs, some ys => if xs.length + ys.length ≤ sizeLine then some (.lst (xs ++ ys), st) else none
    | _, _ => none
theorem list_rep' {μ : Mu} {st : Sto} {H : Hp} {d : D} {ds : List D} {v : V} (S : StR G μ st H) (R : Rep G μ H d v) (e : listOf d st = some ds) : ∃ a vs, v = .ref a ∧ H a = some (.lst vs) ∧ Reps G μ H ds vs := by
  cases R with
  | lst s r => cases e; exact ⟨_, _, rfl, s.1, r⟩
  | ref h =>
    unfold listOf at e
    simp only at e
    split at e
    · rename_i hl
      cases e
      obtain ⟨vs, h1, h2⟩ := S.obj _ _ _ hl h
      exact ⟨_, vs, rfl, h1, h2⟩
    · cases e
  | _ => cases e
theorem do_add (o : On G X) : OpR X (binaryOp .Add) (rD G addD) := by
  refine OpR.imp (op_add.or (op_add_str.or (op_cat.or (op_catA.or op_addB)))) fun x y H Q ⟨μ, st, c, d, z, st', S, Rc, Rd, e, k⟩ => ?_
  unfold addD at e
  split at e
  · cases e; cases Rc; cases Rd
    exact .inl ⟨_, _, rfl, rfl, k μ H _ .refl S (.int _)⟩
  · split at e
    · rename_i hz
      cases e; cases Rc; cases Rd
      exact .inr (.inl ⟨_, _, rfl, rfl, hz, k μ H _ .refl S (.str _)⟩)
    · cases e
  · split at e
    · rename_i hz
      cases e
      cases Rc with
      | tup s r => cases Rd with
        | tup s' r' =>
          refine .inr (.inr (.inr (.inl ⟨_, _, _, _, rfl, rfl, by rw [o.K]; exact SqT.of s, by rw [o.K]; exact SqT.of s', by rw [← r.length, ← r'.length]; exact hz, fun h => ?_, fun _ h => ?_, fun _ _ p hp => ?_⟩)))
          · subst h; cases r; exact k μ H _ .refl S (.tup s' r')
          · subst h; cases r'; rw [List.append_nil] at k; exact k μ H _ .refl S (.tup s r)
          · exact k μ _ _ (Ext.new S hp) (S.newT hp) (.tup upd_same ((r.append r').ext (Ext.new S hp)))
    · cases e
  · cases e; cases Rc; cases Rd
    exact .inr (.inr (.inr (.inr ⟨_, _, rfl, rfl, k μ H _ .refl S (.int _)⟩)))
  · split at e
    · rename_i hx hy
      split at e
      · rename_i hz
        cases e
        obtain ⟨a, us, rfl, u1, u2⟩ := list_rep' S Rc hx
        obtain ⟨b, ws, rfl, w1, w2⟩ := list_rep' S Rd hy
        refine .inr (.inr (.inl ⟨_, _, us, ws, rfl, rfl, u1, w1, by rw [← u2.length, ← w2.length]; exact hz, fun p hp => ?_⟩))
        exact k _ _ _ (Ext.new S hp) (S.newT hp) (rep_newZ S hp (u2.append w2))
      · cases e
    · cases e
def intOp (f : Int → Int → Option D) : D → D → Sto → Option (D × Sto)
  | .int i, .int j, st => (f i j).map fun d => (d, st)
  | _, _, _ => none
theorem intOp_ok {g : Value → Value → Sem Value} {C : Int → Int → Prop} {h : Int → Int → V} {f : Int → Int → Option D} (ho : OpR X g (rI C h)) (hf : ∀ i j d, f i j = some d → C i j ∧ ∀ μ H, Rep G μ H d (h i j)) : OpR X g (rD G (intOp f)) :=
  OpR.imp ho fun x y H Q ⟨μ, st, c, d, z, st', S, Rc, Rd, e, k⟩ => by
    unfold intOp at e
    split at e
    · rename_i i j
      obtain ⟨dd, e1, e2⟩ := Option.map_eq_some_iff.mp e
      cases e2; cases Rc; cases Rd
      obtain ⟨h1, h2⟩ := hf i j _ e1
      exact ⟨i, j, rfl, rfl, h1, k μ H _ .refl S (h2 μ H)⟩
    · cases e
def subD : D → D → Sto → Option (D × Sto)
  | .int i, .int j, st => some (.int (i - j), st)
  | .bl b, .int j, st => some (.int (bI b - j), st)
  | _, _, _ => none
theorem do_sub : OpR X (binaryOp .Sub) (rD G subD) := by
  refine OpR.imp (op_sub.or op_subB) fun x y H Q ⟨μ, st, c, d, z, st', S, Rc, Rd, e, k⟩ => ?_
  unfold subD at e
  split at e
  · cases e; cases Rc; cases Rd
    exact .inl ⟨_, _, rfl, rfl, k μ H _ .refl S (.int _)⟩
  · cases e; cases Rc; cases Rd
    exact .inr ⟨_, _, rfl, rfl, k μ H _ .refl S (.int _)⟩
  · cases e
/-- together less than a million bits -/
def mulD := intOp fun i j => if i.natAbs.log2 + j.natAbs.log2 < 1000000 then some (.int (i * j)) else none
theorem do_mul : OpR X (binaryOp .Mult) (rD G mulD) := intOp_ok op_mulW fun i j d e => by
  split at e
  · rename_i h; cases e; exact ⟨h, fun _ _ => .int _⟩
  · cases e
def fdivD := intOp fun i j => if 0 < j ∧ j.natAbs.log2 < 9000 then some (.int (i / j)) else none
theorem do_fdiv : OpR X (binaryOp .FloorDiv) (rD G fdivD) := intOp_ok op_fdivW fun i j d e => by
  split at e
  · rename_i h; cases e; exact ⟨h, fun _ _ => .int _⟩
  · cases e
def modD := intOp fun i j => if 0 < j then some (.int (i % j)) else none
theorem do_mod : OpR X (binaryOp .Mod) (rD G modD) := intOp_ok op_mod fun i j d e => by
  split at e
  · rename_i h; cases e; exact ⟨h, fun _ _ => .int _⟩
  · cases e
def powD := intOp fun i j => if 0 ≤ j ∧ j ≤ 1000000 ∧ i.natAbs < 2 ^ 64 then some (.int (i ^ j.toNat)) else none
theorem do_pow : OpR X (binaryOp .Pow) (rD G powD) := intOp_ok op_pow fun i j d e => by
  split at e
  · rename_i h; cases e; exact ⟨h, fun _ _ => .int _⟩
  · cases e
def ordD (f : Int → Int → Bool) (g : List Nat → List Nat → Bool) : D → D → Sto → Option (D × Sto)
  | .int i, .int j, st => some (.bl (f i j), st)
  | .str x, .str y, st => some (.bl (g x.cps.toList y.cps.toList), st)
  | _, _, _ => none
def ltD := ordD (fun i j => decide (i < j)) fun x y => decide (x < y)
def leD := ordD (fun i j => decide (i ≤ j)) fun x y => !decide (y < x)
def gtD := ordD (fun i j => decide (j < i)) fun x y => decide (y < x)
def geD := ordD (fun i j => decide (j ≤ i)) fun x y => !decide (x < y)
theorem ord_ok {op : CmpOp} {f : Int → Int → Bool} {g : List Nat → List Nat → Bool} (h1 : OpR X (compareOp op) (rI0 fun i j => .bl (f i j)))
    (h2 : OpR X (compareOp op) (fun x y H Q => ∃ i j, x = .str i ∧ y = .str j ∧ Q (.bl (g i.cps.toList j.cps.toList)) H)) : OpR X (compareOp op) (rD G (ordD f g)) :=
  OpR.imp (h1.or h2) fun x y H Q ⟨μ, st, c, d, z, st', S, Rc, Rd, e, k⟩ => by
    unfold ordD at e
    split at e
    · cases e; cases Rc; cases Rd
      exact .inl ⟨_, _, rfl, rfl, k μ H _ .refl S (.bl _)⟩
    · cases e; cases Rc; cases Rd
      exact .inr ⟨_, _, rfl, rfl, k μ H _ .refl S (.bl _)⟩
    · cases e
theorem do_lt : OpR X (compareOp .Lt) (rD G ltD) := ord_ok op_lt op_lt_str
theorem do_le : OpR X (compareOp .LtE) (rD G leD) := ord_ok op_le op_le_str
theorem do_gt : OpR X (compareOp .Gt) (rD G gtD) := ord_ok op_gt op_gt_str
theorem do_ge : OpR X (compareOp .GtE) (rD G geD) := ord_ok op_ge op_ge_str
mutual
def eqB : D → D → Bool
  | .non, .non => true
  | .bl a, .bl b => a == b
  | .bl a, .int j => bI a == j
  | .int i, .bl b => i == bI b
  | .int i, .int j => i == j
  | .str x, .str y => x == y
  | .lst xs, .lst ys => eqBs xs ys
  | .tup xs, .tup ys => eqBs xs ys
  | _, _ => false
def eqBs : List D → List D → Bool
  | [], [] => true
  | x :: xs, y :: ys => eqB x y && eqBs xs ys
  | _, _ => false
end
mutual
/-- data of at most this depth -/
def okB : Nat → D → Bool
  | _, .non => true
  | _, .bl _ => true
  | _, .int _ => true
  | _, .str x => PyData.strOk x
  | n + 1, .tup ds => okBs n ds
  | n + 1, .lst ds => okBs n ds
  | _, _ => false
def okBs : Nat → List D → Bool
  | _, [] => true
  | n, d :: ds => okB n d && okBs n ds
end
mutual
def pd : D → PyData
  | .bl b => .bool b
  | .int i => .int i
  | .str x => .str x
  | .tup ds => .tuple (pds ds)
  | .lst ds => .list (pds ds)
  | _ => .none
def pds : List D → List PyData
  | [] => []
  | d :: ds => pd d :: pds ds
end
mutual
theorem pd_ok {μ : Mu} {H : Hp} : ∀ {n : Nat} {d : D} {v : V}, okB n d = true → Rep G μ H d v → Dp G.K H v (pd d)
  | _, .non, _, _, .non => .non
  | _, .bl b, _, _, .bl _ => .bl b
  | _, .int i, _, _, .int _ => .int i
  | _, .str x, _, _, .str _ => .str x
  | n + 1, .tup ds, _, h, .tup s r => .tup (SqT.of s) (pds_ok (n := n) (by unfold okB at h; exact h) r)
  | 0, .tup ds, _, h, .tup s r => by unfold okB at h; cases h
  | n + 1, .lst ds, _, h, .lst s r => .lst s.sq (pds_ok (n := n) (by unfold okB at h; exact h) r)
  | 0, .lst ds, _, h, .lst s r => by unfold okB at h; cases h
  | n, .ref _, _, h, _ => by cases n <;> (unfold okB at h; cases h)
  | n, .scr _, _, h, _ => by cases n <;> (unfold okB at h; cases h)
  | n, .ty _, _, h, _ => by cases n <;> (unfold okB at h; cases h)
theorem pds_ok {μ : Mu} {H : Hp} : ∀ {n : Nat} {ds : List D} {vs : List V}, okBs n ds = true → Reps G μ H ds vs → DpAll G.K H vs (pds ds)
  | _, [], _, _, .nil => .nil
  | n, d :: ds, _, h, .cons r t => by
    unfold okBs at h
    obtain ⟨h1, h2⟩ := Bool.and_eq_true_iff.mp h
    exact .cons (pd_ok h1 r) (pds_ok h2 t)
end
mutual
theorem ok_shape : ∀ {n : Nat} {d : D}, okB n d = true → (pd d).canLay0 = true ∧ (pd d).depth ≤ n
  | _, .non, _ => by simp [pd, PyData.canLay0, PyData.depth]
  | _, .bl b, _ => by simp [pd, PyData.canLay0, PyData.depth]
  | _, .int i, _ => by simp [pd, PyData.canLay0, PyData.depth]
  | _, .str x, h => by
    have h : PyData.strOk x = true := by unfold okB at h; exact h
    simp [pd, PyData.canLay0, PyData.depth, h]
  | n + 1, .tup ds, h => by
    obtain ⟨h1, h2⟩ := oks_shape (n := n) (ds := ds) (by unfold okB at h; exact h)
    simp only [pd, PyData.canLay0, PyData.depth]
    exact ⟨h1, by omega⟩
  | n + 1, .lst ds, h => by
    obtain ⟨h1, h2⟩ := oks_shape (n := n) (ds := ds) (by unfold okB at h; exact h)
    simp only [pd, PyData.canLay0, PyData.depth]
    exact ⟨h1, by omega⟩
  | 0, .tup ds, h => by unfold okB at h; cases h
  | 0, .lst ds, h => by unfold okB at h; cases h
  | n, .ref _, h => by cases n <;> (unfold okB at h; cases h)
  | n, .scr _, h => by cases n <;> (unfold okB at h; cases h)
  | n, .ty _, h => by cases n <;> (unfold okB at h; cases h)
theorem oks_shape : ∀ {n : Nat} {ds : List D}, okBs n ds = true → PyData.canLayAll0 (pds ds) = true ∧ PyData.depthAll (pds ds) ≤ n
  | _, [], _ => by simp [pds, PyData.canLayAll0, PyData.depthAll]
  | n, d :: ds, h => by
    unfold okBs at h
    obtain ⟨h1, h2⟩ := Bool.and_eq_true_iff.mp h
    obtain ⟨a1, a2⟩ := ok_shape h1
    obtain ⟨b1, b2⟩ := oks_shape h2
    simp only [pds, PyData.canLayAll0, PyData.depthAll, a1, b1, Bool.and_self]
    exact ⟨trivial, by omega⟩
end
mutual
theorem eqv_ok : ∀ {n m : Nat} {c d : D}, okB n c = true → okB m d = true → PyData.eqv (pd c) (pd d) = eqB c d
  | n, m, c, d, h1, h2 => by
    cases c with
    | ref _ => cases n <;> (unfold okB at h1; cases h1)
    | scr _ => cases n <;> (unfold okB at h1; cases h1)
    | ty _ => cases n <;> (unfold okB at h1; cases h1)
    | tup xs => cases n with
      | zero => unfold okB at h1; cases h1
      | succ n => cases d with
        | ref _ => cases m <;> (unfold okB at h2; cases h2)
        | scr _ => cases m <;> (unfold okB at h2; cases h2)
        | ty _ => cases m <;> (unfold okB at h2; cases h2)
        | tup ys => cases m with
          | zero => unfold okB at h2; cases h2
          | succ m =>
            have := eqvs_ok (n := n) (m := m) (cs := xs) (ds := ys) (by unfold okB at h1; exact h1) (by unfold okB at h2; exact h2)
            simp only [pd, PyData.eqv, eqB]; exact this
        | _ => simp [pd, PyData.eqv, eqB]
    | lst xs => cases n with
      | zero => unfold okB at h1; cases h1
      | succ n => cases d with
        | ref _ => cases m <;> (unfold okB at h2; cases h2)
        | scr _ => cases m <;> (unfold okB at h2; cases h2)
        | ty _ => cases m <;> (unfold okB at h2; cases h2)
        | lst ys => cases m with
          | zero => unfold okB at h2; cases h2
          | succ m =>
            have := eqvs_ok (n := n) (m := m) (cs := xs) (ds := ys) (by unfold okB at h1; exact h1) (by unfold okB at h2; exact h2)
            simp only [pd, PyData.eqv, eqB]; exact this
        | _ => simp [pd, PyData.eqv, eqB]
    | _ => cases d with
      | ref _ => cases m <;> (unfold okB at h2; cases h2)
      | scr _ => cases m <;> (unfold okB at h2; cases h2)
      | ty _ => cases m <;> (unfold okB at h2; cases h2)
      | _ => simp [pd, PyData.eqv, eqB, bI]
theorem eqvs_ok : ∀ {n m : Nat} {cs ds : List D}, okBs n cs = true → okBs m ds = true → PyData.eqvAll (pds cs) (pds ds) = eqBs cs ds
  | _, _, [], [], _, _ => by simp [pds, PyData.eqvAll, eqBs]
  | _, _, [], _ :: _, _, _ => by simp [pds, PyData.eqvAll, eqBs]
  | _, _, _ :: _, [], _, _ => by simp [pds, PyData.eqvAll, eqBs]
  | n, m, c :: cs, d :: ds, h1, h2 => by
    unfold okBs at h1 h2
    obtain ⟨a1, a2⟩ := Bool.and_eq_true_iff.mp h1
    obtain ⟨b1, b2⟩ := Bool.and_eq_true_iff.mp h2
    simp only [pds, PyData.eqvAll, eqBs, eqv_ok a1 b1, eqvs_ok a2 b2]
end
/-- a list of the store by its value -/
def byVal (d : D) (st : Sto) : D := match listOf d st with
  | some ds => .lst ds
  | none => d
theorem val_ok {μ : Mu} {st : Sto} {H : Hp} {d : D} {v : V} (S : StR G μ st H) (R : Rep G μ H d v) (h : okB 60 (byVal d st) = true) : Dp G.K H v (pd (byVal d st)) := by
  unfold byVal at h ⊢
  cases hl : listOf d st with
  | none => rw [hl] at h; exact pd_ok h R
  | some ds =>
    rw [hl] at h
    obtain ⟨a, vs, rfl, h1, h2⟩ := list_rep S R hl
    exact .lst h1 (pds_ok (n := 59) (by simp only at h; unfold okB at h; exact h) h2)
def eqW (neg : Bool) : D → D → Sto → Option (D × Sto) := fun c d st => if okB 60 (byVal c st) = true ∧ okB 60 (byVal d st) = true then some (.bl (if neg = true then !eqB (byVal c st) (byVal d st) else eqB (byVal c st) (byVal d st)), st) else none
def eqD := eqW false
def neD := eqW true
theorem shaped_ok {d : D} (h : okB 60 d = true) : SeqAt.shaped (pd d) = true := by
  obtain ⟨h1, h2⟩ := ok_shape h
  unfold SeqAt.shaped
  rw [h1]
  simp
  omega
theorem do_eq (o : On G X) {k : Nat} (hr : Room k X.A) : OpR X (compareOp .Eq) (rD G eqD) := OpR.imp (op_eqD hr.units) fun x y H Q ⟨μ, st, c, d, z, st', S, Rc, Rd, e, k⟩ => by
  unfold eqD eqW at e
  split at e
  · rename_i hs
    cases e
    refine ⟨_, _, by rw [o.K]; exact val_ok S Rc hs.1, by rw [o.K]; exact val_ok S Rd hs.2, shaped_ok hs.1, shaped_ok hs.2, ?_⟩
    rw [eqv_ok hs.1 hs.2]
    exact k μ H _ .refl S (.bl _)
  · cases e
theorem do_ne (o : On G X) {k : Nat} (hr : Room k X.A) : OpR X (compareOp .NotEq) (rD G neD) := OpR.imp (op_neD hr.units) fun x y H Q ⟨μ, st, c, d, z, st', S, Rc, Rd, e, k⟩ => by
  unfold neD eqW at e
  split at e
  · rename_i hs
    cases e
    refine ⟨_, _, by rw [o.K]; exact val_ok S Rc hs.1, by rw [o.K]; exact val_ok S Rd hs.2, shaped_ok hs.1, shaped_ok hs.2, ?_⟩
    rw [eqv_ok hs.1 hs.2]
    exact k μ H _ .refl S (.bl _)
  · cases e
def ixD : D → D → Sto → Option (D × Sto)
  | .tup ds, .int i, st => (atI ds i).map fun d => (d, st)
  | .str x, .int i, st => if x.length ≤ sizeLine then (atI x.cps.toList i).map fun c => (.str ⟨#[c]⟩, st) else none
  | .scr ns, .int i, st => (atI ns i).map fun n => (.int n, st)
  | c, .int i, st => (listOf c st).bind fun ds => (atI ds i).map fun d => (d, st)
  | _, _, _ => none
theorem atI_reps {μ : Mu} {H : Hp} {ds : List D} {vs : List V} {i : Int} {d : D} (r : Reps G μ H ds vs) (h : atI ds i = some d) : ∃ v, atI vs i = some v ∧ Rep G μ H d v := by
  unfold atI at h ⊢
  obtain ⟨j, e1, e2⟩ := Option.bind_eq_some_iff.mp h
  obtain ⟨v, h1, h2⟩ := r.get j e2
  exact ⟨v, by rw [← r.length, e1]; exact h1, h2⟩
end
section
variable {G : G0}
theorem IxR.imp {X : Cx} {r r' : R2} (h : IxR X r) (i : ∀ x y H Q, r' x y H Q → r x y H Q) : IxR X r' := fun va sl pins s σ H x y v u Q I rx ry q => h va sl pins s σ H x y v u Q I rx ry (i x y H Q q)
theorem do_ix {X : Cx} (o : On G X) : IxR X (rD G ixD) := by
  refine IxR.imp ix_seq fun x y H Q ⟨μ, st, c, d, z, st', S, Rc, Rd, e, k⟩ => ?_
  unfold ixD at e
  split at e
  · obtain ⟨dd, e1, e2⟩ := Option.map_eq_some_iff.mp e
    cases e2; cases Rd
    cases Rc with
    | tup s r =>
      obtain ⟨v, h1, h2⟩ := atI_reps r e1
      exact .inr (.inl ⟨_, _, _, v, rfl, rfl, by rw [o.K]; exact SqT.of s, h1, k μ H _ .refl S h2⟩)
  · split at e
    · rename_i hz
      obtain ⟨cc, e1, e2⟩ := Option.map_eq_some_iff.mp e
      cases e2; cases Rc; cases Rd
      exact .inr (.inr ⟨_, _, cc, rfl, rfl, hz, e1, k μ H _ .refl S (.str _)⟩)
    · cases e
  · rename_i ns i
    obtain ⟨n, e1, e2⟩ := Option.map_eq_some_iff.mp e
    cases e2; cases Rd
    cases Rc with
    | scr q =>
      refine .inl ⟨_, _, i, .int n, rfl, rfl, by rw [o.K]; exact q.sq, ?_, k μ H _ .refl S (.int n)⟩
      unfold atI at e1 ⊢
      obtain ⟨j, f1, f2⟩ := Option.bind_eq_some_iff.mp e1
      rw [List.length_map, f1]
      show (ns.map V.int)[j]? = _
      rw [List.getElem?_map, f2]
      rfl
  · obtain ⟨ds, e0, e⟩ := Option.bind_eq_some_iff.mp e
    obtain ⟨dd, e1, e2⟩ := Option.map_eq_some_iff.mp e
    cases e2; cases Rd
    obtain ⟨a, vs, rfl, h1, h2⟩ := list_rep S Rc e0
    obtain ⟨v, g1, g2⟩ := atI_reps h2 e1
    exact .inl ⟨_, _, _, v, rfl, rfl, by rw [o.K]; exact h1, g1, k μ H _ .refl S g2⟩
  · cases e
end
end EL
set_option Elab.async false
set_option linter.all false
set_option maxRecDepth 100000
set_option maxHeartbeats 1000000
namespace EL
open PySem PySem.Spec PyProof.Rows L2 GxR LG
section
variable {G : G0} {X : Cx} {pos : Pos} {a b c e tgt : Expr} {es : List Expr} {fa fb fc : FE} {ta tb : FT} {fr : FA}
theorem CallR.imp {f : Value} {r r' : List V → Hp → VK → Prop} (h : CallR X f r) (i : ∀ xs H Q, r' xs H Q → r xs H Q) : CallR X f r' := fun pins s σ H xs us Q I v q => h pins s σ H xs us Q I v (i xs H Q q)
theorem SlR.imp {r r' : V → Option Int → Option Int → Hp → VK → Prop} (h : SlR X r) (i : ∀ x l u H Q, r' x l u H Q → r x l u H Q) : SlR X r' := fun pins s σ H x v vl vu lo hi sl Q I rx hs pl pu q => h pins s σ H x v vl vu lo hi sl Q I rx hs pl pu (i x lo hi H Q q)
def fNeg (fa : FE) : FE := fun ρ st => (fa ρ st).bind fun p => match p.1 with
  | .int i => some (.int (-i), p.2)
  | .bl b => some (.int (-(bI b)), p.2)
  | _ => none
theorem de_neg (ha : PE X a (lift G fa)) : PE X (.UnaryOp .USub a pos) (lift G (fNeg fa)) :=
  PE.imp (pe_un un_negB ha) fun σ H Q ⟨ρ, μ, st, d, st', E, S, e, k⟩ => by
    unfold fNeg at e
    obtain ⟨⟨d1, s1⟩, e1, e⟩ := Option.bind_eq_some_iff.mp e
    simp only at e
    split at e
    · cases e
      refine ⟨ρ, μ, st, _, _, E, S, e1, fun μ1 H1 v X1 S1 R1 => ?_⟩
      cases R1
      exact .inl ⟨_, rfl, k μ1 H1 _ X1 S1 (.int _)⟩
    · cases e
      refine ⟨ρ, μ, st, _, _, E, S, e1, fun μ1 H1 v X1 S1 R1 => ?_⟩
      cases R1
      exact .inr ⟨_, rfl, k μ1 H1 _ X1 S1 (.int _)⟩
    · cases e
def cutD (ds : List D) (lo hi : Option Int) : List D := (ds.drop (HT.sIx ds.length 0 lo)).take (HT.sIx ds.length ds.length hi - HT.sIx ds.length 0 lo)
theorem Reps.cut {μ : Mu} {H : Hp} {ds : List D} {vs : List V} (r : Reps G μ H ds vs) (lo hi : Option Int) : Reps G μ H (cutD ds lo hi) (cutV vs lo hi) := by
  unfold cutD cutV
  rw [← r.length]
  exact (r.drop _).take _
def sliceD : D → Option Int → Option Int → Sto → Option (D × Sto)
  | .tup ds, lo, hi, st => some (.tup (cutD ds lo hi), st)
  | .str z, lo, hi, st => if z.length ≤ sizeLine then some (.str (cutS z lo hi), st) else none
  | c, lo, hi, st => (listOf c st).map fun ds => (.lst (cutD ds lo hi), st)
theorem cutD_all {ds : List D} {lo hi : Option Int} (h : HT.sIx ds.length 0 lo = 0 ∧ HT.sIx ds.length ds.length hi = ds.length) : cutD ds lo hi = ds := by
  unfold cutD
  rw [h.1, h.2]
  simp
abbrev FO := Rho → Sto → Option (Option Int × Sto)
def liftO (G : G0) (f : FO) : TO := fun σ H Q => ∃ ρ μ st d st', EnvR G μ H ρ σ ∧ StR G μ st H ∧ f ρ st = some (d, st') ∧ ∀ μ' H', Ext G μ H μ' H' → StR G μ' st' H' → Q d H'
def oNone : FO := fun _ st => some (none, st)
def oSome (fa : FE) : FO := fun ρ st => (fa ρ st).bind fun p => match p.1 with
  | .int i => some (some i, p.2)
  | _ => none
theorem PO.imp {e : Option Expr} {t t' : TO} (h : PO X e t) (i : ∀ σ H Q, t' σ H Q → t σ H Q) : PO X e t' := ⟨fun pins s σ H Q I q => h.run pins s σ H Q I (i σ H Q q)⟩
theorem dp_none : PO X none (liftO G oNone) := PO.imp po_none fun σ H Q ⟨ρ, μ, st, d, st', E, S, e, k⟩ => by cases e; exact k μ H .refl S
theorem dp_some (h : PE X e (lift G fa)) : PO X (some e) (liftO G (oSome fa)) := PO.imp (po_some h) fun σ H Q ⟨ρ, μ, st, d, st', E, S, e, k⟩ => by
  unfold oSome at e
  obtain ⟨⟨d1, s1⟩, e1, e⟩ := Option.bind_eq_some_iff.mp e
  simp only at e
  split at e
  · cases e
    refine ⟨ρ, μ, st, _, _, E, S, e1, fun μ1 H1 v X1 S1 R1 => ?_⟩
    cases R1
    exact ⟨_, rfl, k μ1 H1 X1 S1⟩
  · cases e
def fSl (fa : FE) (fl fu : FO) : FE := fun ρ st => (fa ρ st).bind fun p => (fl ρ p.2).bind fun l => (fu ρ l.2).bind fun u => sliceD p.1 l.1 u.1 u.2
theorem do_slice (o : On G X) : SlR X (fun x lo hi H Q => ∃ μ st d z st', StR G μ st H ∧ Rep G μ H d x ∧ sliceD d lo hi st = some (z, st') ∧ After G μ H z st' Q) := by
  refine SlR.imp (sl_list.or (sl_tupA.or sl_str)) fun x lo hi H Q ⟨μ, st, d, z, st', S, R, e, k⟩ => ?_
  unfold sliceD at e
  split at e
  · cases e
    cases R with
    | tup s r =>
      refine .inr (.inl ⟨_, _, rfl, by rw [o.K]; exact SqT.of s, fun h => ?_, fun _ p hp => ?_⟩)
      · rw [← r.length] at h
        rw [cutD_all h] at k
        exact k μ H _ .refl S (.tup s r)
      · exact k μ _ _ (Ext.new S hp) (S.newT hp) (.tup upd_same ((r.cut lo hi).ext (Ext.new S hp)))
  · split at e
    · rename_i hz
      cases e
      cases R
      exact .inr (.inr ⟨_, rfl, hz, k μ H _ .refl S (.str _)⟩)
    · cases e
  · obtain ⟨ds, e1, e2⟩ := Option.map_eq_some_iff.mp e
    cases e2
    obtain ⟨a, vs, rfl, h1, h2⟩ := list_rep S R e1
    exact .inl ⟨_, vs, rfl, by rw [o.K]; exact h1, fun p hp => k _ _ _ (Ext.new S hp) (S.newT hp) (rep_newZ S hp (h2.cut lo hi))⟩
theorem de_slice {lo hi : Option Expr} {p2 : Pos} {fl fu : FO} (o : On G X) (he : PE X e (lift G fa)) (hl : PO X lo (liftO G fl)) (hu : PO X hi (liftO G fu)) : PE X (.Subscript e (.Slice lo hi none p2) pos) (lift G (fSl fa fl fu)) :=
  PE.imp (pe_slice (do_slice o) he hl hu) fun σ H Q ⟨ρ, μ, st, d, st', E, S, e, k⟩ => by
    unfold fSl at e
    obtain ⟨p, e1, e⟩ := Option.bind_eq_some_iff.mp e
    obtain ⟨l, e2, e⟩ := Option.bind_eq_some_iff.mp e
    obtain ⟨u, e3, e⟩ := Option.bind_eq_some_iff.mp e
    exact ⟨ρ, μ, st, p.1, p.2, E, S, e1, fun μ1 H1 v X1 S1 R1 => ⟨ρ, μ1, p.2, l.1, l.2, E.ext X1, S1, e2, fun μ2 H2 X2 S2 => ⟨ρ, μ2, l.2, u.1, u.2, E.ext (X1.trans X2), S2, e3, fun μ3 H3 X3 S3 =>
      ⟨μ3, u.2, p.1, d, st', S3, R1.ext (X2.trans X3), e, ((k.trans X1).trans X2).trans X3⟩⟩⟩⟩
def flatD : D → Bool
  | .non => true | .bl _ => true | .int _ => true | .str _ => true
  | _ => false
theorem flat_rep {μ : Mu} {H : Hp} {d : D} {v : V} (h : flatD d = true) (r : Rep G μ H d v) : flatV v = true := by
  cases r <;> first | rfl | cases h
theorem eq_flat {μ : Mu} {H : Hp} {c d : D} {x y : V} (h1 : flatD c = true) (h2 : flatD d = true) (r1 : Rep G μ H c x) (r2 : Rep G μ H d y) : eqV x y = eqB c d := by
  cases r1 with
  | tup _ _ => cases h1
  | lst _ _ => cases h1
  | ref _ => cases h1
  | scr _ => cases h1
  | ty _ => cases h1
  | _ => cases r2 with
    | tup _ _ => cases h2
    | lst _ _ => cases h2
    | ref _ => cases h2
    | scr _ => cases h2
    | ty _ => cases h2
    | _ => simp [eqV, eqB, bI]
theorem flats_rep {μ : Mu} {H : Hp} : ∀ {ds : List D} {vs : List V}, ds.all flatD = true → Reps G μ H ds vs → vs.all flatV = true
  | _, _, _, .nil => rfl
  | _, _, h, .cons r t => by
    simp only [List.all_cons, Bool.and_eq_true] at h ⊢
    exact ⟨flat_rep h.1 r, flats_rep h.2 t⟩
theorem any_flat {μ : Mu} {H : Hp} {c : D} {x : V} (h1 : flatD c = true) (r1 : Rep G μ H c x) : ∀ {ds : List D} {vs : List V}, ds.all flatD = true → Reps G μ H ds vs → (vs.any fun y => eqV y x) = ds.any fun y => eqB y c
  | _, _, _, .nil => rfl
  | _, _, h, .cons r t => by
    simp only [List.all_cons, Bool.and_eq_true] at h
    simp only [List.any_cons, eq_flat h.1 h1 r r1, any_flat h1 r1 h.2 t]
theorem any_pd {n m : Nat} {c : D} (hc : okB n c = true) : ∀ {ds : List D}, okBs m ds = true → ((pds ds).any fun z => PyData.eqv z (pd c)) = ds.any fun y => eqB y c
  | [], _ => by simp [pds]
  | d :: ds, h => by
    unfold okBs at h
    obtain ⟨h1, h2⟩ := Bool.and_eq_true_iff.mp h
    simp only [pds, List.any_cons, eqv_ok h1 hc, any_pd hc h2]
def nB (neg b : Bool) : Bool := if neg = true then !b else b
def inW (neg : Bool) : D → D → Sto → Option (D × Sto) := fun c d st => match d with
  | .str z => match c with
    | .str x => match x.cps.toList with
      | [ch] => some (.bl (nB neg (decide (ch ∈ z.cps.toList))), st)
      | _ => none
    | _ => none
  | .tup ds => if flatD c = true ∧ ds.all flatD = true then some (.bl (nB neg (ds.any fun y => eqB y c)), st) else none
  | d => (listOf d st).bind fun ds => if okB 60 (byVal c st) = true ∧ okBs 59 ds = true then some (.bl (nB neg (ds.any fun y => eqB y (byVal c st))), st) else none
theorem str_one {x : Str} {ch : Nat} (h : x.cps.toList = [ch]) : x = ⟨#[ch]⟩ := TL.ext_tl h
theorem do_in (o : On G X) {k : Nat} (hr : Room k X.A) : OpR X (compareOp .In) (rD G (inW false)) := OpR.imp (op_in_sign.or (op_in_seq.or (op_inD (by have := hr.un; omega)))) fun x y H Q ⟨μ, st, c, d, z, st', S, Rc, Rd, e, k⟩ => by
  unfold inW at e
  split at e
  · split at e
    · split at e
      · rename_i hc
        cases e; cases Rc; cases Rd
        exact .inl ⟨_, _, by rw [str_one hc], rfl, k μ H _ .refl S (.bl _)⟩
      · cases e
    · cases e
  · split at e
    · rename_i hf
      cases e
      cases Rd with
      | tup s r =>
        refine .inr (.inl ⟨_, _, rfl, .inr (by rw [o.K]; exact SqT.of s), flat_rep hf.1 Rc, flats_rep hf.2 r, ?_⟩)
        rw [if_neg Bool.false_ne_true]
        unfold inV
        rw [any_flat hf.1 Rc hf.2 r]
        exact k μ H _ .refl S (.bl _)
    · cases e
  · obtain ⟨ds, e1, e⟩ := Option.bind_eq_some_iff.mp e
    split at e
    · rename_i hf
      cases e
      obtain ⟨a, vs, rfl, h1, h2⟩ := list_rep S Rd e1
      refine .inr (.inr ⟨pd (byVal c _), pds ds, by rw [o.K]; exact val_ok S Rc hf.1, by rw [o.K]; exact .lst h1 (pds_ok hf.2 h2), shaped_ok hf.1, shaped_ok (d := .lst ds) (by unfold okB; exact hf.2), ?_⟩)
      rw [any_pd hf.1 hf.2]
      exact k μ H _ .refl S (.bl _)
    · cases e
theorem do_notin (o : On G X) {k : Nat} (hr : Room k X.A) : OpR X (compareOp .NotIn) (rD G (inW true)) := OpR.imp (op_notIn_sign.or (op_notIn_seq.or (op_notInD (by have := hr.un; omega)))) fun x y H Q ⟨μ, st, c, d, z, st', S, Rc, Rd, e, k⟩ => by
  unfold inW at e
  split at e
  · split at e
    · split at e
      · rename_i hc
        cases e; cases Rc; cases Rd
        exact .inl ⟨_, _, by rw [str_one hc], rfl, k μ H _ .refl S (.bl _)⟩
      · cases e
    · cases e
  · split at e
    · rename_i hf
      cases e
      cases Rd with
      | tup s r =>
        refine .inr (.inl ⟨_, _, rfl, .inr (by rw [o.K]; exact SqT.of s), flat_rep hf.1 Rc, flats_rep hf.2 r, ?_⟩)
        rw [if_pos rfl]
        unfold inV
        rw [any_flat hf.1 Rc hf.2 r]
        exact k μ H _ .refl S (.bl _)
    · cases e
  · obtain ⟨ds, e1, e⟩ := Option.bind_eq_some_iff.mp e
    split at e
    · rename_i hf
      cases e
      obtain ⟨a, vs, rfl, h1, h2⟩ := list_rep S Rd e1
      refine .inr (.inr ⟨pd (byVal c _), pds ds, by rw [o.K]; exact val_ok S Rc hf.1, by rw [o.K]; exact .lst h1 (pds_ok hf.2 h2), shaped_ok hf.1, shaped_ok (d := .lst ds) (by unfold okB; exact hf.2), ?_⟩)
      rw [any_pd hf.1 hf.2]
      exact k μ H _ .refl S (.bl _)
    · cases e
def lenD : HA
  | [.tup ds], st => some (.int ds.length, st)
  | [.str x], st => if x.length ≤ sizeLine then some (.int x.length, st) else none
  | [.scr ns], st => some (.int ns.length, st)
  | [c], st => (listOf c st).map fun ds => (.int ds.length, st)
  | _, _ => none
theorem dc_len (o : On G X) : CallR X (.builtin "len") (rDA G lenD) := by
  refine CallR.imp (call_len_seq.or call_len_str) fun xs H Q ⟨μ, st, ds, z, st', S, R, e, k⟩ => ?_
  unfold lenD at e
  split at e
  · cases e
    cases R with
    | cons r t => cases t; cases r with
      | tup s r => exact .inl ⟨_, _, rfl, .inr (by rw [o.K]; exact SqT.of s), by rw [← r.length]; exact k μ H _ .refl S (.int _)⟩
  · split at e
    · rename_i hz
      cases e
      cases R with
      | cons r t => cases t; cases r; exact .inr ⟨_, rfl, hz, k μ H _ .refl S (.int _)⟩
    · cases e
  · cases e
    cases R with
    | cons r t => cases t; cases r with
      | scr s => exact .inl ⟨_, _, rfl, .inl (by rw [o.K]; exact s.sq), by rw [List.length_map]; exact k μ H _ .refl S (.int _)⟩
  · obtain ⟨ds, e1, e2⟩ := Option.map_eq_some_iff.mp e
    cases e2
    cases R with
    | cons r t =>
      cases t
      obtain ⟨a, vs, rfl, h1, h2⟩ := list_rep S r e1
      exact .inl ⟨_, vs, rfl, .inl (by rw [o.K]; exact h1), by rw [← h2.length]; exact k μ H _ .refl S (.int _)⟩
  · cases e
def tyN (d : D) (st : Sto) : Option String := match d with
  | .non => some "NoneType"
  | .bl _ => some "bool"
  | .int _ => some "int"
  | .str _ => some "str"
  | .tup _ => some "tuple"
  | .lst _ => some "list"
  | .ref l => match st[l]? with
    | some (.lst _) => some "list"
    | _ => none
  | _ => none
theorem tyN_ok {μ : Mu} {st : Sto} {H : Hp} {d : D} {v : V} {t : String} (S : StR G μ st H) (R : Rep G μ H d v) (h : tyN d st = some t) : TyX G.K H v (.type t) := by
  cases d with
  | non => cases h; cases R; exact .base .non
  | bl b => cases h; cases R; exact .base (.bl b)
  | int i => cases h; cases R; exact .base (.int i)
  | str x => cases h; cases R; exact .base (.str x)
  | tup ds =>
    cases h
    cases R with
    | tup s r =>
      exact .base (.tup s)
  | ref l =>
    unfold tyN at h
    simp only at h
    split at h
    · rename_i hl
      cases h
      cases R with
      | ref ha =>
        obtain ⟨vs, h1, _⟩ := S.obj _ _ _ hl ha
        exact .base (.lst h1)
    · cases h
  | lst ds =>
    cases h
    cases R with
    | lst s r => exact .base (.lst s.1)
  | scr _ => cases h
  | ty n => cases h
def isiD : HA
  | [x, .ty T], st => (tyN x st).bind fun t => (kitB t T).map fun b => (.bl b, st)
  | _, _ => none
theorem dc_isi (o : On G X) : CallR X (.builtin "isinstance") (rDA G isiD) := by
  refine CallR.imp call_isi fun xs H Q ⟨μ, st, ds, z, st', S, R, e, k⟩ => ?_
  unfold isiD at e
  split at e
  · rename_i x T
    obtain ⟨t, e1, e⟩ := Option.bind_eq_some_iff.mp e
    obtain ⟨b, e2, e3⟩ := Option.map_eq_some_iff.mp e
    cases e3
    cases R with
    | cons r tl => cases tl with
      | cons r2 tl =>
        cases tl; cases r2
        exact ⟨_, _, .type t, .type T, b, rfl, .ty T, by rw [o.K]; exact tyN_ok S r e1, kit_ty e2, k μ H _ .refl S (.bl b)⟩
  · cases e
def kits (t : String) : List String → Option Bool
  | [] => some false
  | T :: r => (kitB t T).bind fun b => (kits t r).map fun c => b || c
def fIsiT (Ts : List String) (fa : FE) : FE := fun ρ st => (fa ρ st).bind fun p => (tyN p.1 p.2).bind fun t => (kits t Ts).map fun b => (.bl b, p.2)
def absD : HA
  | [.int i], st => some (.int (if i < 0 then -i else i), st)
  | _, _ => none
theorem dc_abs : CallR X (.builtin "abs") (rDA G absD) := CallR.imp call_abs fun xs H Q ⟨μ, st, ds, z, st', S, R, e, k⟩ => by
  unfold absD at e
  split at e
  · cases e
    cases R with
    | cons r t => cases t; cases r; exact ⟨_, rfl, k μ H _ .refl S (.int _)⟩
  · cases e
def maxD : HA
  | [.int i, .int j], st => some (.int (if j > i then j else i), st)
  | _, _ => none
theorem dc_max (o : On G X) : CallR X (.builtin "max") (rDA G maxD) := CallR.imp (call_max2 o.calm) fun xs H Q ⟨μ, st, ds, z, st', S, R, e, k⟩ => by
  unfold maxD at e
  split at e
  · cases e
    cases R with
    | cons r t => cases r; cases t with
      | cons r t => cases t; cases r; exact ⟨_, _, rfl, k μ H _ .refl S (.int _)⟩
  · cases e
def minD : HA
  | [.int i, .int j], st => some (.int (if j < i then j else i), st)
  | _, _ => none
theorem dc_min (o : On G X) : CallR X (.builtin "min") (rDA G minD) := CallR.imp (call_min2 o.calm) fun xs H Q ⟨μ, st, ds, z, st', S, R, e, k⟩ => by
  unfold minD at e
  split at e
  · cases e
    cases R with
    | cons r t => cases r; cases t with
      | cons r t => cases t; cases r; exact ⟨_, _, rfl, k μ H _ .refl S (.int _)⟩
  · cases e
def seqD (c : D) (st : Sto) : Option (List D) := match c with
  | .tup ds => some ds
  | c => listOf c st
theorem seq_rep {μ : Mu} {st : Sto} {H : Hp} {d : D} {ds : List D} {v : V} (S : StR G μ st H) (R : Rep G μ H d v) (e : seqD d st = some ds) : ∃ a vs, v = .ref a ∧ (SqL G.K H a vs ∨ SqT G.K H a vs) ∧ Reps G μ H ds vs := by
  unfold seqD at e
  split at e
  · cases e
    cases R with
    | tup s r => exact ⟨_, _, rfl, .inr (SqT.of s), r⟩
  · obtain ⟨a, vs, h1, h2, h3⟩ := list_rep S R e
    exact ⟨a, vs, h1, .inl h2, h3⟩
/-- list(x): to be written | by value -/
def listD : HA
  | [c], st => (seqD c st).map fun ds => (.ref st.length, st ++ [.lst ds])
  | _, _ => none
def listZ : HA
  | [c], st => (seqD c st).map fun ds => (.lst ds, st)
  | _, _ => none
theorem dc_listZ (o : On G X) : CallR X (.type "list") (rDA G listZ) := CallR.imp call_list_of fun xs H Q ⟨μ, st, ds, z, st', S, R, e, k⟩ => by
  unfold listZ at e
  split at e
  · obtain ⟨ds, e1, e2⟩ := Option.map_eq_some_iff.mp e
    cases e2
    cases R with
    | cons r t =>
      cases t
      obtain ⟨a, vs, rfl, h1, h2⟩ := seq_rep S r e1
      exact ⟨_, _, rfl, by rw [o.K]; exact h1, fun p hp => k _ _ _ (Ext.new S hp) (S.newT hp) (rep_newZ S hp h2)⟩
  · cases e
def tupleD : HA
  | [.tup ds], st => some (.tup ds, st)
  | [c], st => (listOf c st).map fun ds => (.tup ds, st)
  | _, _ => none
theorem dc_tuple (o : On G X) : CallR X (.type "tuple") (rDA G tupleD) := CallR.imp call_tuple_of fun xs H Q ⟨μ, st, ds, z, st', S, R, e, k⟩ => by
  unfold tupleD at e
  split at e
  · cases e
    cases R with
    | cons r t => cases t; cases r with
      | tup s r => exact ⟨_, _, rfl, .inr ⟨by rw [o.K]; exact SqT.of s, k μ H _ .refl S (.tup s r)⟩⟩
  · obtain ⟨ds, e1, e2⟩ := Option.map_eq_some_iff.mp e
    cases e2
    cases R with
    | cons r t =>
      cases t
      obtain ⟨a, vs, rfl, h1, h2⟩ := list_rep S r e1
      exact ⟨_, vs, rfl, .inl ⟨by rw [o.K]; exact h1, fun p hp => k μ _ _ (Ext.new S hp) (S.newT hp) (.tup upd_same (h2.ext (Ext.new S hp)))⟩⟩
  · cases e
def fApp (fo fa : FE) : FE := fun ρ st => (fo ρ st).bind fun p => (fa ρ p.2).bind fun q => match p.1 with
  | .ref l => match p.2[l]?, q.2[l]? with
    | some (.lst _), some (.lst ds) => if ds.length < sizeLine then some (.non, q.2.set l (.lst (ds ++ [q.1]))) else none
    | _, _ => none
  | _ => none
theorem de_append {fo : FE} {apos : Pos} (o : On G X) (ho : PE X b (lift G fo)) (ha : PE X a (lift G fa)) (hst : starEach [a] X.env = (false, eval a X.env) :: starEach [] X.env := by rfl)
    (hb : attributeBase b "append" X.env (eval b X.env) = eval b X.env := by rfl) (hl : (apos.endLine == pos.line) = true := by rfl) (hpl : (backTo pos (starEach [] X.env)).any (·.1) = false := by rfl)
    (hfew : ((backTo pos (starEach [a] X.env)).all (fun x => !x.1) && (backToKw pos (keywordEach [] X.env)).all (fun x => x.1.isSome) && decide ([a].length + ([] : List Keyword).length + (if ([] : List Keyword).isEmpty then 0 else 1) < 30)) = true := by rfl) : PE X (.Call (.Attribute b "append" apos) [a] [] pos) (lift G (fApp fo fa)) :=
  PE.imp (pe_bm PySem.F.plainAttrs_list PySem.F.slot_list_append PySem.F.type_list_append mt_append ho (pa_cons ha pa_nil hst) hb hfew hl hst hpl) fun σ H Q ⟨ρ, μ, st, d, st', E, S, e, k⟩ => by
    unfold fApp at e
    obtain ⟨⟨x, s1⟩, e1, e⟩ := Option.bind_eq_some_iff.mp e
    obtain ⟨⟨y, s2⟩, e2, e⟩ := Option.bind_eq_some_iff.mp e
    simp only at e
    split at e
    · rename_i l
      split at e
      · rename_i d1 ds h1 h2
        split at e
        · rename_i hz
          cases e
          refine ⟨ρ, μ, st, _, s1, E, S, e1, fun μ1 H1 v X1 S1 R1 => ?_⟩
          cases R1 with
          | ref hp =>
            obtain ⟨us, u1, _⟩ := S1.obj _ _ _ h1 hp
            refine ⟨.inl ⟨rfl, _, SqL.of u1⟩, ⟨ρ, μ1, s1, y, s2, E.ext X1, S1, e2, fun μ2 H2 w X2 S2 R2 => ?_⟩⟩
            obtain ⟨ws, w1, w2⟩ := S2.obj _ _ _ h2 (X2.at hp)
            exact ⟨_, ws, w, rfl, rfl, w1, by rw [← w2.length]; exact hz, k μ2 _ _ (X1.trans (X2.trans (Ext.set S2 (X2.at hp)))) (S2.setL (X2.at hp) (w2.append (.cons R2 .nil))) .non⟩
        · cases e
      · cases e
    · cases e
end
end EL
set_option Elab.async false
set_option linter.all false
set_option maxRecDepth 100000
set_option maxHeartbeats 1000000
namespace EL
open PySem PySem.Spec PyProof.Rows L2 GxR LG
section
variable {G : G0} {W : WX} {X : Cx} {pos : Pos} {a b c e tgt : Expr} {es : List Expr} {fa fb fc : FE} {ta tb : FT} {fr : FA}
def fUpper (fa : FE) : FE := fun ρ st => (fa ρ st).bind fun p => match p.1 with
  | .str x => if x.length ≤ 5592405 then some (.str (Txt.upper x), p.2) else none
  | _ => none
def putIx (d i v : D) (st : Sto) : Option Sto := match d, i with
  | .ref l, .int k => match st[l]? with
    | some (.lst ds) => (ixN ds.length k).map fun j => st.set l (.lst (ds.set j v))
    | _ => none
  | _, _ => none
theorem putIx_ok {μ : Mu} {st st' : Sto} {H : Hp} {d i w : D} {o j v : V} {Q : Hp → Prop} (S : StR G μ st H) (Ro : Rep G μ H d o) (Ri : Rep G μ H i j) (Rv : Rep G μ H w v) (e : putIx d i w st = some st')
    (k : ∀ H', Ext G μ H μ H' → StR G μ st' H' → Q H') : rSetL o j v H Q := by
  unfold putIx at e
  split at e
  · rename_i l kk
    split at e
    · rename_i ds hl
      obtain ⟨jj, e1, e2⟩ := Option.map_eq_some_iff.mp e
      subst e2
      cases Ri
      cases Ro with
      | ref ha =>
        obtain ⟨vs, h1, h2⟩ := S.obj _ _ _ hl ha
        exact ⟨_, vs, kk, jj, rfl, rfl, h1, by rw [← h2.length]; exact e1, k _ (Ext.set S ha) (S.setL ha (h2.set Rv jj))⟩
    · cases e
  · cases e
def sPut (fa fo fi : FE) : FS := fun ρ st => (fa ρ st).bind fun p => (fo ρ p.2).bind fun q => (fi ρ q.2).bind fun r => (putIx q.1 r.1 p.1 r.2).map fun st' => (.nx, ρ, st')
theorem ds_put {fo fi : FE} {p1 : Pos} (he : PE X e (lift G fa)) (ho : PE X a (lift G fo)) (hi : PE X b (lift G fi)) (hg : PG X (.Subscript a b p1) (gSub (lift G fo) (lift G fi) rSetL))
    (hs : swapsWithSole [.Subscript a b p1] e pos.line X.env = pure false := by rfl) (hw : swappedStores [.Subscript a b p1] e X.env = pure none := by rfl) : PS X (.Assign [.Subscript a b p1] e pos) (liftS G W (sPut fa fo fi)) :=
  PS.imp (ps_asg he hg hs hw) fun D0 σ H ⟨ρ, μ, st, fl, ρ', st', E, S, e, k⟩ => by
    unfold sPut at e
    obtain ⟨p, e1, e⟩ := Option.bind_eq_some_iff.mp e
    obtain ⟨q, e2, e⟩ := Option.bind_eq_some_iff.mp e
    obtain ⟨r, e3, e⟩ := Option.bind_eq_some_iff.mp e
    obtain ⟨s', e4, e5⟩ := Option.map_eq_some_iff.mp e
    cases e5
    exact ⟨ρ, μ, st, p.1, p.2, E, S, e1, fun μ1 H1 v X1 S1 R1 => ⟨ρ, μ1, p.2, q.1, q.2, E.ext X1, S1, e2, fun μ2 H2 w X2 S2 R2 => ⟨ρ, μ2, q.2, r.1, r.2, E.ext (X1.trans X2), S2, e3, fun μ3 H3 u X3 S3 R3 =>
      putIx_ok S3 (R2.ext X3) R3 (R1.ext (X2.trans X3)) e4 fun H4 X4 S4 => k μ3 H4 (X1.trans (X2.trans (X3.trans X4))) S4 σ (E.ext (X1.trans (X2.trans (X3.trans X4))))⟩⟩⟩
/-- a[i], b[j] = x, y -/
def sPut2 (fr : FA) (fo fi fo' fi' : FE) : FS := fun ρ st => (fr ρ st).bind fun p => match p.1 with
  | [x, y] => (fo ρ p.2).bind fun q => (fi ρ q.2).bind fun r => (putIx q.1 r.1 x r.2).bind fun s1 => (fo' ρ s1).bind fun q' => (fi' ρ q'.2).bind fun r' => (putIx q'.1 r'.1 y r'.2).map fun st' => (.nx, ρ, st')
  | _ => none
/-- names in a row, by a tuple's items -/
def sUnp (tg : Tg) (fa : FE) : FS := fun ρ st => (fa ρ st).bind fun p => (tgD tg p.1 ρ).map fun ρ' => (.nx, ρ', p.2)
theorem ds_unp {tg : Tg} (he : PE X e (lift G fa)) (hg : PG X tgt (gOf G.K tg)) (hs : swapsWithSole [tgt] e pos.line X.env = pure false := by rfl) (hw : swappedStores [tgt] e X.env = pure none := by rfl) (h1 : (assignEach [tgt] X.env).map (·.2) = [assign tgt X.env] := by rfl) : PS X (.Assign [tgt] e pos) (liftS G W (sUnp tg fa)) :=
  PS.imp (ps_asg he hg hs hw h1) fun D0 σ H ⟨ρ, μ, st, fl, ρ', st', E, S, e, k⟩ => by
    unfold sUnp at e
    obtain ⟨p, e1, e⟩ := Option.bind_eq_some_iff.mp e
    obtain ⟨ρ1, e2, e3⟩ := Option.map_eq_some_iff.mp e
    cases e3
    exact ⟨ρ, μ, st, p.1, p.2, E, S, e1, fun μ1 H1 v X1 S1 R1 => gOf_ok (vs' := []) R1 (E.ext X1) e2 fun σ' E' _ => k μ1 H1 X1 S1 σ' E'⟩
/-- names in a row, each its own value -/
def sPar (is : List Nat) (fr : FA) : FS := fun ρ st => (fr ρ st).bind fun p => if p.1.length = is.length then some (.nx, setM ρ is p.1, p.2) else none
theorem ds_par2 {i j : Nat} {x y : Str} {px py pt : Pos} {kt k2 : Nat} {pt2 : Pos} (o : On G X) (hN : X.N.Nodup) (hi : X.N[i]? = some x) (hj : X.N[j]? = some y) (hij : i ≠ j)
    (hx : X.env.scope.names.lookup x = some .local) (hy : X.env.scope.names.lookup y = some .local) (ha : PA X [a, b] (liftA G fr))
    (hw : swappedStores [.Tuple [.Name x px, .Name y py] kt pt] (.Tuple [a, b] k2 pt2) X.env = pure (some [x, y]) := by rfl)
    (hs : swapsWithSole [.Tuple [.Name x px, .Name y py] kt pt] (.Tuple [a, b] k2 pt2) pos.line X.env = pure false := by rfl) :
    PS X (.Assign [.Tuple [.Name x px, .Name y py] kt pt] (.Tuple [a, b] k2 pt2) pos) (liftS G W (sPar [i, j] fr)) :=
  PS.imp (ps_par o.calm hN hi hj hij hx hy ha hw hs) fun D0 σ H ⟨ρ, μ, st, fl, ρ', st', E, S, e, k⟩ => by
    unfold sPar at e
    obtain ⟨⟨ds, s0⟩, e1, e⟩ := Option.bind_eq_some_iff.mp e
    split at e
    · rename_i hl
      cases e
      refine ⟨ρ, μ, st, ds, _, E, S, e1, fun μ1 H1 vs X1 S1 R1 => ?_⟩
      match ds, hl, R1 with
      | [d1, d2], _, .cons r1 (.cons r2 .nil) => exact ⟨_, _, rfl, k μ1 H1 X1 S1 _ (((E.ext X1).set r1).set r2)⟩
    · cases e
end
end EL
set_option Elab.async false
set_option linter.all false
set_option maxRecDepth 100000
set_option maxHeartbeats 1000000
namespace EL
open PySem PySem.Spec PyProof.Rows L2 GxR LG
end EL
set_option Elab.async false
set_option linter.all false
set_option maxRecDepth 100000
set_option maxHeartbeats 1000000
namespace SX
open PySem PySem.Spec PyProof.Rows L2
def tkey (e : Int × Value) : Str := match e.2 with
  | .str k _ => k
  | _ => ⟨#[]⟩
def TEl (w : World) (e : Int × Value) : Prop := ∃ k tk, e.2 = Value.str k tk ∧ e.1 = hashStr w k
/-- a set whose members are the texts of l -/
structure TRows (w : World) (l : List Str) (es : Array (Int × Value)) (t : SetTable) : Prop where
  el : ∀ e ∈ es.toList, TEl w e
  nd : (es.toList.map tkey).Nodup
  mem : ∀ k, k ∈ es.toList.map tkey ↔ k ∈ l
  few : es.size < scanBound
  fits : t.fits es.size = true
  ris : Ris t.place.toList
  led : w.params.followText "set-order" = true ∨ t.led = true
def TSet (w : World) (h : Heap) (a : Addr) (l : List Str) : Prop := ∃ o es ep t, h.get? a = some o ∧ o.ExactSet ∧ o.data = .set es ep t ∧ TRows w l es t
section
variable {P : Program} {w : World} {h h' : Heap} {a : Addr} {l : List Str}
theorem TSet.keep (R : TSet w h a l) (k : ∀ o, h.get? a = some o → h'.get? a = some o) : TSet w h' a l := by
  obtain ⟨o, es, ep, t, ho, r⟩ := R
  exact ⟨o, es, ep, t, k o ho, r⟩
theorem TRows.push {es es' : Array (Int × Value)} {t t' : SetTable} {k : Str} {tk : Tok} (R : TRows w l es t) (hk : k ∉ es.toList.map tkey) (pm : es'.toList.Perm ((hashStr w k, Value.str k tk) :: es.toList)) (hb : es.size + 1 < scanBound) (hf : t'.fits es'.size = true) (hr : Ris t'.place.toList) (hl : w.params.followText "set-order" = true ∨ t'.led = true) :
    TRows w (k :: l) es' t' where
  el e he := by
    rcases List.mem_cons.mp (pm.mem_iff.mp he) with z | z
    · rw [z]; exact ⟨k, tk, rfl, rfl⟩
    · exact R.el e z
  nd := (pm.map tkey).nodup_iff.mpr (List.nodup_cons.mpr ⟨hk, R.nd⟩)
  mem j := by
    rw [(pm.map tkey).mem_iff]
    show j ∈ k :: es.toList.map tkey ↔ _
    rw [List.mem_cons, List.mem_cons, R.mem j]
  few := by rw [← Array.length_toList, pm.length_eq, List.length_cons, Array.length_toList]; exact hb
  fits := hf
  ris := hr
  led := hl
end
end SX
set_option Elab.async false
set_option linter.all false
set_option maxRecDepth 100000
set_option maxHeartbeats 3200000
set_option Elab.async false
set_option linter.all false
set_option maxRecDepth 100000
set_option maxHeartbeats 1000000
namespace SX
open PySem PySem.Spec PyProof.Rows L2
abbrev leS (x y : Str) : Bool := decide (x.cps.toList ≤ y.cps.toList)
theorem leS_tr (a b c : Str) (h1 : leS a b = true) (h2 : leS b c = true) : leS a c = true := by
  simp only [leS, decide_eq_true_eq] at *; exact List.le_trans h1 h2
theorem leS_tot (a b : Str) : (leS a b || leS b a) = true := by
  simp only [leS, Bool.or_eq_true, decide_eq_true_eq]; exact List.le_total _ _
theorem leS_anti {a b : Str} (h1 : leS a b = true) (h2 : leS b a = true) : a = b := by
  simp only [leS, decide_eq_true_eq] at *
  have : a.cps.toList = b.cps.toList := List.le_antisymm h1 h2
  cases a; cases b; simp_all
theorem srt_uniq {α : Type} {le : α → α → Prop} (anti : ∀ a b, le a b → le b a → a = b) : ∀ {l m : List α}, l.Pairwise le → m.Pairwise le → l.Perm m → l = m
  | [], m, _, _, p => (List.nil_perm.mp p).symm
  | x :: l, [], _, _, p => by have := p.length_eq; simp at this
  | x :: l, y :: m, h1, h2, p => by
    obtain ⟨a1, b1⟩ := List.pairwise_cons.mp h1
    obtain ⟨a2, b2⟩ := List.pairwise_cons.mp h2
    have e : x = y := by
      rcases List.mem_cons.mp (p.mem_iff.mp List.mem_cons_self) with z | z
      · exact z
      · rcases List.mem_cons.mp (p.mem_iff.mpr (List.mem_cons_self (a := y) (l := m))) with z' | z'
        · exact z'.symm
        · exact anti _ _ (a1 _ z') (a2 _ z)
    subst e
    rw [srt_uniq anti b1 b2 ((List.perm_cons x).mp p)]
end SX
set_option Elab.async false
set_option linter.all false
set_option maxRecDepth 100000
set_option maxHeartbeats 1000000
namespace EL
open PySem PySem.Spec PyProof.Rows L2 GxR LG
end EL
set_option Elab.async false
set_option linter.all false
set_option maxRecDepth 100000
set_option maxHeartbeats 1000000
namespace EL
open PySem PySem.Spec PyProof.Rows L2 GxR LG
mutual
/-- nothing of the store is named in it -/
def pureB : D → Bool
  | .ref _ => false
  | .tup ds => pureL ds
  | .lst ds => pureL ds
  | _ => true
def pureL : List D → Bool
  | [] => true
  | d :: ds => pureB d && pureL ds
end
theorem pureL_iff : ∀ {ds : List D}, pureL ds = true ↔ ∀ d ∈ ds, pureB d = true
  | [] => by simp [pureL]
  | d :: ds => by simp [pureL, pureL_iff (ds := ds)]
def pureO : O → Bool
  | .lst ds => pureL ds
  | .dead => true
  | .dK kvs => pureL (kvs.map (·.2))
  | .dT kvs => pureL (kvs.map (·.2))
  | .ins _ fs => pureL (fs.map (·.2))
section
variable {G : G0} {μ μ' : Mu} {H H0 : Hp}
theorem lz_down (hp : ∀ a, a ∉ μ'.pl → a ∉ μ.pl) (hh : μ'.hd = μ.hd) {a : Addr} {vs : List V} (h : Lz μ' H a vs) : Lz μ H a vs := ⟨h.1, hp _ h.2.1, by rw [← hh]; exact h.2.2⟩
theorem lq_down (hp : ∀ a, a ∉ μ'.pl → a ∉ μ.pl) (hh : μ'.hd = μ.hd) {a : Addr} {vs : List V} (h : Lq G μ' H a vs) : Lq G μ H a vs := h.imp (fun h => ⟨h.1, hp _ h.2.1, by rw [← hh]; exact h.2.2⟩) id
mutual
theorem Rep.pure (hp : ∀ a, a ∉ μ'.pl → a ∉ μ.pl) (hh : μ'.hd = μ.hd) : ∀ {d : D} {v : V}, pureB d = true → Rep G μ' H d v → Rep G μ H d v
  | _, _, _, .non => .non
  | _, _, _, .bl b => .bl b
  | _, _, _, .int i => .int i
  | _, _, _, .str x => .str x
  | _, _, q, .tup s r => .tup s (Reps.pure hp hh (by unfold pureB at q; exact q) r)
  | _, _, q, .lst s r => .lst (lz_down hp hh s) (Reps.pure hp hh (by unfold pureB at q; exact q) r)
  | _, _, q, .ref h => by unfold pureB at q; cases q
  | _, _, _, .scr s => .scr (lq_down hp hh s)
  | _, _, _, .ty n => .ty n
theorem Reps.pure (hp : ∀ a, a ∉ μ'.pl → a ∉ μ.pl) (hh : μ'.hd = μ.hd) : ∀ {ds : List D} {vs : List V}, pureL ds = true → Reps G μ' H ds vs → Reps G μ H ds vs
  | _, _, _, .nil => .nil
  | _, _, q, .cons h t => by
    unfold pureL at q
    obtain ⟨q1, q2⟩ := Bool.and_eq_true_iff.mp q
    exact .cons (Rep.pure hp hh q1 h) (Reps.pure hp hh q2 t)
end
mutual
/-- what named only places that stood ahead -/
theorem Rep.down (hp : ∀ a, a ∉ μ'.pl → a ∉ μ.pl) (hh : μ'.hd = μ.hd) (ha : ∀ (l : Nat) (a : Addr), μ.pl[l]? = some a → μ'.pl[l]? = some a) : ∀ {d : D} {v v0 : V}, Rep G μ H0 d v0 → Rep G μ' H d v → Rep G μ H d v
  | _, _, _, _, .non => .non
  | _, _, _, _, .bl b => .bl b
  | _, _, _, _, .int i => .int i
  | _, _, _, _, .str x => .str x
  | _, _, _, .tup _ r0, .tup s r => .tup s (Reps.down hp hh ha r0 r)
  | _, _, _, .lst _ r0, .lst s r => .lst (lz_down hp hh s) (Reps.down hp hh ha r0 r)
  | _, _, _, .ref h0, .ref h => by
    have e := ha _ _ h0
    rw [h] at e
    cases e
    exact .ref h0
  | _, _, _, _, .scr s => .scr (lq_down hp hh s)
  | _, _, _, _, .ty n => .ty n
theorem Reps.down (hp : ∀ a, a ∉ μ'.pl → a ∉ μ.pl) (hh : μ'.hd = μ.hd) (ha : ∀ (l : Nat) (a : Addr), μ.pl[l]? = some a → μ'.pl[l]? = some a) : ∀ {ds : List D} {vs vs0 : List V}, Reps G μ H0 ds vs0 → Reps G μ' H ds vs → Reps G μ H ds vs
  | _, _, _, _, .nil => .nil
  | _, _, _, .cons h0 t0, .cons h t => .cons (Rep.down hp hh ha h0 h) (Reps.down hp hh ha t0 t)
end
theorem ORep.down (hp : ∀ a, a ∉ μ'.pl → a ∉ μ.pl) (hh : μ'.hd = μ.hd) (ha : ∀ (l : Nat) (a : Addr), μ.pl[l]? = some a → μ'.pl[l]? = some a) {o : O} {a a0 : Addr} (h0 : ORep G μ H0 o a0) (h : ORep G μ' H o a) : ORep G μ H o a := by
  cases o with
  | lst ds => obtain ⟨_, _, r0⟩ := h0; obtain ⟨vs, e, r⟩ := h; exact ⟨vs, e, r0.down hp hh ha r⟩
  | dead => exact h
  | dK ds => obtain ⟨_, _, r0⟩ := h0; obtain ⟨vs, e, r⟩ := h; exact ⟨vs, e, r.1, r0.2.down hp hh ha r.2⟩
  | dT ds => obtain ⟨_, _, r0⟩ := h0; obtain ⟨vs, e, r⟩ := h; exact ⟨vs, e, r.1, r0.2.down hp hh ha r.2⟩
  | ins c fs => obtain ⟨_, _, _, _, _, r0⟩ := h0; obtain ⟨C, dx, vs, m, e, r⟩ := h; exact ⟨C, dx, vs, m, e, r.1, r0.2.down hp hh ha r.2⟩
theorem ORep.pure (hp : ∀ a, a ∉ μ'.pl → a ∉ μ.pl) (hh : μ'.hd = μ.hd) {o : O} {a : Addr} (q : pureO o = true) (h : ORep G μ' H o a) : ORep G μ H o a := by
  cases o with
  | lst ds => obtain ⟨vs, e, r⟩ := h; exact ⟨vs, e, r.pure hp hh q⟩
  | dead => exact h
  | dK ds => obtain ⟨vs, e, r⟩ := h; exact ⟨vs, e, r.1, r.2.pure hp hh q⟩
  | dT ds => obtain ⟨vs, e, r⟩ := h; exact ⟨vs, e, r.1, r.2.pure hp hh q⟩
  | ins c fs => obtain ⟨C, dx, vs, m, e, r⟩ := h; exact ⟨C, dx, vs, m, e, r.1, r.2.pure hp hh q⟩
end
/-- a value told by value: n places stood ahead -/
def seal1 (n : Nat) (st : Sto) (d : D) : Option D := match d with
  | .ref l => if l < n then some (.ref l) else match st[l]? with
    | some (.lst ds) => if pureL ds = true then some (.lst ds) else none
    | _ => none
  | d => if pureB d = true then some d else none
def seals (n : Nat) (st : Sto) : List D → Option (List D)
  | [] => some []
  | d :: ds => (seal1 n st d).bind fun e => (seals n st ds).map (e :: ·)
def sealD (n : Nat) (st : Sto) (d : D) : Option D := match d with
  | .tup ds => (seals n st ds).map .tup
  | d => seal1 n st d
/-- what stood stands, or is plain data -/
def Calm (st st' : Sto) : Prop := ∀ (l : Nat) (o : O), l < st.length → st'[l]? = some o → st[l]? = some o ∨ pureO o = true
open Classical in
noncomputable def letGo (n : Nat) (st : Sto) (p : D × Sto) : Option (D × Sto) := if Calm st p.2 ∧ st.length = n then (sealD n p.2 p.1).map fun d => (d, p.2.take n) else none
noncomputable def sealFn (fn : HA) : HA := fun ds st => (fn ds st).bind fun p => letGo st.length st p
section
variable {G : G0} {μ μ' : Mu} {st st' : Sto} {H H' : Hp}
theorem seal1_rep (x : Ext G μ H μ' H') (S : StR G μ st H) (S' : StR G μ' st' H') {d d2 : D} {v : V} (e : seal1 st.length st' d = some d2) (R : Rep G μ' H' d v) : Rep G μ H' d2 v := by
  obtain ⟨more, hm⟩ := x.pre
  have hp : ∀ a, a ∉ μ'.pl → a ∉ μ.pl := fun a h z => h (by rw [hm]; exact List.mem_append_left _ z)
  unfold seal1 at e
  split at e
  · rename_i l
    cases R with
    | @ref _ a h =>
      split at e
      · rename_i hl
        cases e
        refine .ref ?_
        rw [hm, List.getElem?_append_left (by rw [S.len]; exact hl)] at h
        exact h
      · rename_i hl
        split at e
        · rename_i ds hs
          split at e
          · rename_i hq
            cases e
            obtain ⟨vs, e1, r⟩ := S'.obj _ _ _ hs h
            refine .lst ⟨e1, fun z => ?_, fun z => ?_⟩ (r.pure hp x.hid hq)
            · obtain ⟨i, hi⟩ := List.mem_iff_getElem?.mp z
              have := nd_get S'.nd h (x.at hi)
              subst this
              have := (List.getElem?_eq_some_iff.mp hi).1
              rw [S.len] at this
              exact hl this
            · exact (S'.dis a (by rw [x.hid]; exact z)).1 (List.mem_of_getElem? h)
          · cases e
        · cases e
  · split at e
    · rename_i hq
      cases e
      exact R.pure hp x.hid hq
    · cases e
theorem seals_rep (x : Ext G μ H μ' H') (S : StR G μ st H) (S' : StR G μ' st' H') : ∀ {ds es : List D} {vs : List V}, seals st.length st' ds = some es → Reps G μ' H' ds vs → Reps G μ H' es vs
  | _, _, _, e, .nil => by cases e; exact .nil
  | _, _, _, e, .cons h t => by
    unfold seals at e
    obtain ⟨d, e1, e⟩ := Option.bind_eq_some_iff.mp e
    obtain ⟨r, e2, rfl⟩ := Option.map_eq_some_iff.mp e
    exact .cons (seal1_rep x S S' e1 h) (seals_rep x S S' e2 t)
theorem seal_rep (x : Ext G μ H μ' H') (S : StR G μ st H) (S' : StR G μ' st' H') {d d2 : D} {v : V} (e : sealD st.length st' d = some d2) (R : Rep G μ' H' d v) : Rep G μ H' d2 v := by
  unfold sealD at e
  split at e
  · obtain ⟨es, e1, rfl⟩ := Option.map_eq_some_iff.mp e
    cases R with
    | tup s r => exact .tup s (seals_rep x S S' e1 r)
  · exact seal1_rep x S S' e R
theorem letGo_ext (x : Ext G μ H μ' H') : Ext G μ H μ H' :=
  ⟨⟨[], by simp⟩, rfl, x.kept, x.tup, fun a u h n m q => ⟨(x.raw a u h n m q).1, n⟩, x.xd, x.dom⟩
theorem letGo_st (x : Ext G μ H μ' H') (S : StR G μ st H) (S' : StR G μ' st' H') (c : Calm st st') : StR G μ (st'.take st.length) H' := by
  obtain ⟨more, hm⟩ := x.pre
  have hp : ∀ a, a ∉ μ'.pl → a ∉ μ.pl := fun a h z => h (by rw [hm]; exact List.mem_append_left _ z)
  have hle : st.length ≤ st'.length := by
    rw [← S.len, ← S'.len, hm]; simp
  refine ⟨by rw [S.len, List.length_take]; omega, fun l o a h1 h2 => ?_, fun a ha => S'.own a (by rw [hm]; exact List.mem_append_left _ ha), S.nd, fun a ha => ?_, S'.tab, S'.lab, S'.dj⟩
  · have hl : l < st.length := by rw [← S.len]; exact (List.getElem?_eq_some_iff.mp h2).1
    rw [List.getElem?_take_of_lt hl] at h1
    have r := S'.obj l o a h1 (x.at h2)
    rcases c l o hl h1 with q | q
    · exact ORep.down hp x.hid (fun _ _ h => x.at h) (S.obj l o a q h2) r
    · exact r.pure hp x.hid q
  · obtain ⟨h1, h2⟩ := S'.dis a (by rw [x.hid]; exact ha)
    exact ⟨hp _ h1, h2⟩
theorem Def.seal {k : Nat} {x : Str} {n : Nat} {fn : HA} (F : Def G k x n fn) : Def G k x n (sealFn fn) := by
  obtain ⟨f, fd, ps, h1, h2, h3⟩ := F.ex
  refine ⟨f, fd, ps, h1, h2.imp fun vs H Q E ⟨μ, st, ds, d2, st2, hn, S, R, e, k⟩ => ?_, h3⟩
  unfold sealFn at e
  obtain ⟨⟨d, st'⟩, e1, e⟩ := Option.bind_eq_some_iff.mp e
  unfold letGo at e
  split at e
  · rename_i hc
    obtain ⟨d3, e2, e3⟩ := Option.map_eq_some_iff.mp e
    cases e3
    refine ⟨μ, st, ds, d, st', hn, S, R, e1, fun μ' H' v X1 S1 R1 => k μ H' v (letGo_ext X1) (letGo_st X1 S S1 hc.1) (seal_rep X1 S S1 e2 R1)⟩
  · cases e
end
end EL
set_option Elab.async false
set_option linter.all false
set_option maxRecDepth 100000
set_option maxHeartbeats 1000000
namespace ZN
open PySem
open PySem.Sem (wp)
/-- an iterator over a tuple (true) or a list -/
def It (b : Bool) (h : Heap) (it l : Addr) (k : Nat) : Prop := if b = true then h.IsTupleIter it l k else h.IsListIter it l k
def Sq (b : Bool) (h : Heap) (l : Addr) (u : Array Value) : Prop := if b = true then h.IsTuple l u else h.IsList l u
abbrev Row (h : Heap) (T : Addr) (xs : List Value) : Prop := h.get? T = some { cls := .type "tuple", data := .seq xs.toArray }
theorem It.at {b : Bool} {h h' : Heap} {it l : Addr} {k : Nat} (t : It b h it l k) (e : ∀ o, h.get? it = some o → h'.get? it = some o) : It b h' it l k := by
  cases b with
  | true => exact Heap.IsTupleIter.at t e
  | false => exact Heap.IsListIter.at t e
theorem Sq.at {b : Bool} {h h' : Heap} {l : Addr} {u : Array Value} (t : Sq b h l u) (e : ∀ o, h.get? l = some o → h'.get? l = some o) : Sq b h' l u := by
  cases b with
  | true => obtain ⟨o, h1, r⟩ := t; exact ⟨o, e o h1, r⟩
  | false => obtain ⟨o, h1, r⟩ := t; exact ⟨o, e o h1, r⟩
theorem nd_ne {L : List Addr} (h : L.Nodup) (i j : Nat) {a b : Addr} (h1 : L[i]? = some a) (h2 : L[j]? = some b) (n : i ≠ j) : a ≠ b := fun e => by
  subst e
  obtain ⟨l1, e1⟩ := List.getElem?_eq_some_iff.mp h1
  obtain ⟨l2, e2⟩ := List.getElem?_eq_some_iff.mp h2
  exact n ((List.getElem_inj h).mp (e1.trans e2.symm))
theorem no_ne {L : List Addr} {l : Addr} (h : l ∉ L) (i : Nat) {a : Addr} (h1 : L[i]? = some a) : l ≠ a := fun e => h (by rw [e]; exact List.mem_of_getElem? h1)
section
variable {prog : Program} {w : World} {A : Around} {E : Value → Shared → Prop} {s : Shared}
theorem it_item {b : Bool} {it l : Addr} {k : Nat} {u : Array Value} {x : Value} {Q : Value → Shared → Prop} (t : It b s.heap it l k) (q : Sq b s.heap l u) (e : u[k]? = some x)
    (hQ : ∀ h', It b h' it l (k + 1) → Heap.SameBut it s.heap h' → Q x { s with heap := h' }) : wpAny (model prog w) A (Builtin.SmallTypes.nextOf (.ref it)) Q E s := by
  cases b with
  | true => exact RZ.nextOf_tuple_item t q e hQ
  | false => exact wpAny_nextOf_list_item t q e hQ
theorem it_end {b : Bool} {it l : Addr} {k : Nat} {u : Array Value} {Q : Value → Shared → Prop} (hh : A.handled = none) (t : It b s.heap it l k) (q : Sq b s.heap l u) (e : u[k]? = none)
    (hE : ∀ h' e, Heap.ExtBut it s.heap h' → (∃ o, h'.get? e = some o ∧ o.cls = .type "StopIteration") → E (.ref e) { s with heap := h' }) : wpAny (model prog w) A (Builtin.SmallTypes.nextOf (.ref it)) Q E s := by
  cases b with
  | true => exact RZ.nextOf_tuple_end hh t q e hE
  | false => exact wpAny_nextOf_list_end hh t q e hE
theorem next2_item {z TI TO i1 l1 i2 l2 : Addr} {k : Nat} {b1 b2 : Bool} {u1 u2 : Array Value} {x1 a1 x2 a2 : Value} {Q : Value → Shared → Prop} (hd : List.Nodup [z, TI, TO, i1, i2]) (m1 : l1 ∉ [z, TI, TO, i1, i2]) (m2 : l2 ∉ [z, TI, TO, i1, i2]) (zz : IsZip s.heap z TI TO .none) (ti : Row s.heap TI [.ref i1, .ref i2]) (to : Row s.heap TO [a1, a2])
    (t1 : It b1 s.heap i1 l1 k) (q1 : Sq b1 s.heap l1 u1) (t2 : It b2 s.heap i2 l2 k) (q2 : Sq b2 s.heap l2 u2)
    (e1 : u1[k]? = some x1) (e2 : u2[k]? = some x2)
    (hQ : ∀ h', IsZip h' z TI TO (rawInt s.heap.objs.size) → Row h' TO [x1, x2] → It b1 h' i1 l1 (k + 1) → It b2 h' i2 l2 (k + 1) → Row h' s.heap.objs.size [x1, x2] → h'.objs.size = s.heap.objs.size + 1 →
      (∀ c o, c ≠ z → c ≠ TO → c ≠ i1 → c ≠ i2 → s.heap.get? c = some o → h'.get? c = some o) → Q (.ref s.heap.objs.size) { s with heap := h' }) :
    wpAny (model prog w) A (Builtin.«zip.__next__» ⟨[.ref z], []⟩) (fun fin s' => ∃ v, fin = .done (.ret v) ∧ Q v s') E s := by
  show wpAny _ _ (field (.ref z) 2 >>= _) _ _ _
  refine wpAny_bind (wpAny_field zz rfl (x := .bool false) rfl ?_)
  show wpAny _ _ (field (.ref z) 3 >>= _) _ _ _
  refine wpAny_bind (wpAny_field zz rfl (x := .ref TI) rfl ?_)
  refine wpAny_bind (wpAny_seqItems ti rfl ?_)
  show wpAny _ _ (Builtin.SmallTypes.ownedTupleIsFree (.ref z) >>= _) _ _ _
  refine wpAny_bind ?_
  unfold Builtin.SmallTypes.ownedTupleIsFree
  refine wpAny_bind (wpAny_field zz rfl (x := .none) rfl (wpAny_pure ?_))
  simp only [if_true]
  refine wpAny_bind (wpAny_rule ?_)
  refine wpAny_bind (wpAny_field zz rfl (x := .ref TO) rfl ?_)
  refine wpAny_bind (wpAny_setField_rec zz (by simp) fun g0 z0 s0 => ?_)
  replace z0 : IsZip g0 z TI TO .ellipsis := z0
  have K0 : ∀ c o, c ≠ z → s.heap.get? c = some o → g0.get? c = some o := fun c o c1 e => s0.extBut _ _ c1 e
  have to0 : Row g0 TO [a1, a2] := K0 _ _ (nd_ne hd 2 0 rfl rfl (by decide)) to
  refine wpAny_bind ?_
  simp only [List.zipIdx_cons, List.zipIdx_nil, List.forIn_cons, List.forIn_nil]
  refine wpAny_bind (wpAny_bind (wpAny_onRaise ?_))
  show wpAny _ _ (Builtin.SmallTypes.nextOf (.ref i1) >>= _) _ _ _
  refine wpAny_bind (it_item (t1.at (fun o e => K0 _ o (nd_ne hd 3 0 rfl rfl (by decide)) e)) (q1.at (fun o e => K0 _ o (no_ne m1 0 rfl) e)) e1 fun f1 r1 v1 => wpAny_pure ?_)
  have tp1 : Row f1 TO [a1, a2] := v1.extBut _ _ (nd_ne hd 2 3 rfl rfl (by decide)) to0
  refine wpAny_bind (wpAny_seqItems tp1 rfl ?_)
  refine wpAny_bind (wpAny_updateSeq tp1 rfl ?_)
  obtain ⟨g1, hg1⟩ : ∃ g : Heap, g = f1.update TO (Obj.mapSeq (·.setIfInBounds 0 x1)) := ⟨_, rfl⟩
  have s1 : Heap.SameBut TO f1 g1 := by rw [hg1]; exact Heap.SameBut.update ..
  have to1 : Row g1 TO [x1, a2] := by
    rw [hg1]
    unfold Row
    rw [Heap.get?_update_self _ tp1 rfl]
    simp [Obj.mapSeq]
  rw [← hg1]
  have y1 : It b1 g1 i1 l1 (k + 1) := r1.at fun o e => s1.extBut _ _ (nd_ne hd 3 2 rfl rfl (by decide)) e
  have K1 : ∀ c o, c ≠ z → c ≠ TO → c ≠ i1 → s.heap.get? c = some o → g1.get? c = some o := fun c o c1 c2 c3 e => s1.extBut _ _ c2 (v1.extBut _ _ c3 (K0 c o c1 e))
  have z1 : IsZip g1 z TI TO .ellipsis := s1.extBut _ _ (nd_ne hd 0 2 rfl rfl (by decide)) (v1.extBut _ _ (nd_ne hd 0 3 rfl rfl (by decide)) z0)
  have n1 : g1.objs.size = g0.objs.size := s1.1.trans v1.1
  refine wpAny_bind (wpAny_letGo (wpAny_pure ?_))
  refine wpAny_bind (wpAny_bind (wpAny_onRaise ?_))
  show wpAny _ _ (Builtin.SmallTypes.nextOf (.ref i2) >>= _) _ _ _
  refine wpAny_bind (it_item (t2.at (fun o e => K1 _ o (nd_ne hd 4 0 rfl rfl (by decide)) (nd_ne hd 4 2 rfl rfl (by decide)) (nd_ne hd 4 3 rfl rfl (by decide)) e)) (q2.at (fun o e => K1 _ o (no_ne m2 0 rfl) (no_ne m2 2 rfl) (no_ne m2 3 rfl) e)) e2 fun f2 r2 v2 => wpAny_pure ?_)
  have tp2 : Row f2 TO [x1, a2] := v2.extBut _ _ (nd_ne hd 2 4 rfl rfl (by decide)) to1
  refine wpAny_bind (wpAny_seqItems tp2 rfl ?_)
  refine wpAny_bind (wpAny_updateSeq tp2 rfl ?_)
  obtain ⟨g2, hg2⟩ : ∃ g : Heap, g = f2.update TO (Obj.mapSeq (·.setIfInBounds 1 x2)) := ⟨_, rfl⟩
  have s2 : Heap.SameBut TO f2 g2 := by rw [hg2]; exact Heap.SameBut.update ..
  have to2 : Row g2 TO [x1, x2] := by
    rw [hg2]
    unfold Row
    rw [Heap.get?_update_self _ tp2 rfl]
    simp [Obj.mapSeq]
  rw [← hg2]
  have y2 : It b2 g2 i2 l2 (k + 1) := r2.at fun o e => s2.extBut _ _ (nd_ne hd 4 2 rfl rfl (by decide)) e
  have K2 : ∀ c o, c ≠ z → c ≠ TO → c ≠ i1 → c ≠ i2 → s.heap.get? c = some o → g2.get? c = some o := fun c o c1 c2 c3 c4 e => s2.extBut _ _ c2 (v2.extBut _ _ c4 (K1 c o c1 c2 c3 e))
  have z2 : IsZip g2 z TI TO .ellipsis := s2.extBut _ _ (nd_ne hd 0 2 rfl rfl (by decide)) (v2.extBut _ _ (nd_ne hd 0 4 rfl rfl (by decide)) z1)
  have n2 : g2.objs.size = g1.objs.size := s2.1.trans v2.1
  refine wpAny_bind (wpAny_letGo (wpAny_pure ?_))
  replace y1 : It b1 g2 i1 l1 (k + 1) := y1.at fun o e => s2.extBut _ _ (nd_ne hd 3 2 rfl rfl (by decide)) (v2.extBut _ _ (nd_ne hd 3 4 rfl rfl (by decide)) e)
  refine wpAny_pure ?_
  refine wpAny_bind (wpAny_seqItems to2 rfl ?_)
  refine wpAny_bind (wpAny_newTuple ?_)
  have sz : g2.objs.size = s.heap.objs.size := by rw [n2, n1, s0.1]
  have zl : z < g2.objs.size := Heap.lt_size z2
  show wpAny _ _ (Builtin.SmallTypes.ownedTupleHandOut (.ref z) (.ref g2.objs.size) >>= _) _ _ _
  refine wpAny_bind ?_
  unfold Builtin.SmallTypes.ownedTupleHandOut
  have zp : IsZip (g2.push { cls := .type "tuple", data := .seq #[x1, x2] }) z TI TO .ellipsis := Heap.get?_push_of_some _ z2
  refine wpAny_bind (wpAny_setField_rec zp (by simp) fun p1 zq sq => ?_)
  replace zq : IsZip p1 z TI TO (rawInt g2.objs.size) := zq
  refine wpAny_setField_rec zq (by simp) fun p2 zr sr => ?_
  replace zr : IsZip p2 z TI TO (rawInt g2.objs.size) := zr
  have up : ∀ c o, c ≠ z → g2.get? c = some o → p2.get? c = some o := fun c o c1 e => sr.extBut _ _ c1 (sq.extBut _ _ c1 (Heap.get?_push_of_some _ e))
  have new : Row p2 g2.objs.size [x1, x2] := sr.extBut _ _ (Nat.ne_of_gt zl) (sq.extBut _ _ (Nat.ne_of_gt zl) (Heap.get?_push_size _ rfl))
  have s2 : p2.objs.size = g2.objs.size + 1 := by rw [sr.1, sq.1, Heap.size_push]
  rw [sz] at zr new s2
  refine wpAny_pure ⟨_, rfl, ?_⟩
  show Q (.ref g2.objs.size) _
  rw [sz]
  exact hQ p2 zr (up _ _ (nd_ne hd 2 0 rfl rfl (by decide)) to2) (y1.at fun o e => up _ o (nd_ne hd 3 0 rfl rfl (by decide)) e) (y2.at fun o e => up _ o (nd_ne hd 4 0 rfl rfl (by decide)) e) new s2 fun c o c1 c2 c3 c4 e => up c o c1 (K2 c o c1 c2 c3 c4 e)
theorem next2_end {z TI TO i1 l1 i2 l2 : Addr} {k : Nat} {b1 b2 : Bool} {u1 u2 : Array Value} {a1 a2 : Value} {Q : Fin → Shared → Prop} (hh : A.handled = none) (hd : List.Nodup [z, TI, TO, i1, i2]) (m1 : l1 ∉ [z, TI, TO, i1, i2]) (m2 : l2 ∉ [z, TI, TO, i1, i2]) (zz : IsZip s.heap z TI TO .none) (ti : Row s.heap TI [.ref i1, .ref i2]) (to : Row s.heap TO [a1, a2])
    (t1 : It b1 s.heap i1 l1 k) (q1 : Sq b1 s.heap l1 u1) (t2 : It b2 s.heap i2 l2 k) (q2 : Sq b2 s.heap l2 u2)
    (out : u1[k]? = none ∨ u2[k]? = none)
    (hE : ∀ h' e, (∀ c o, c ≠ z → c ≠ TO → c ≠ i1 → c ≠ i2 → s.heap.get? c = some o → h'.get? c = some o) → (∃ o, h'.get? e = some o ∧ o.cls = .type "StopIteration") → E (.ref e) { s with heap := h' }) :
    wpAny (model prog w) A (Builtin.«zip.__next__» ⟨[.ref z], []⟩) Q E s := by
  show wpAny _ _ (field (.ref z) 2 >>= _) _ _ _
  refine wpAny_bind (wpAny_field zz rfl (x := .bool false) rfl ?_)
  show wpAny _ _ (field (.ref z) 3 >>= _) _ _ _
  refine wpAny_bind (wpAny_field zz rfl (x := .ref TI) rfl ?_)
  refine wpAny_bind (wpAny_seqItems ti rfl ?_)
  show wpAny _ _ (Builtin.SmallTypes.ownedTupleIsFree (.ref z) >>= _) _ _ _
  refine wpAny_bind ?_
  unfold Builtin.SmallTypes.ownedTupleIsFree
  refine wpAny_bind (wpAny_field zz rfl (x := .none) rfl (wpAny_pure ?_))
  simp only [if_true]
  refine wpAny_bind (wpAny_rule ?_)
  refine wpAny_bind (wpAny_field zz rfl (x := .ref TO) rfl ?_)
  refine wpAny_bind (wpAny_setField_rec zz (by simp) fun g0 z0 s0 => ?_)
  replace z0 : IsZip g0 z TI TO .ellipsis := z0
  have K0 : ∀ c o, c ≠ z → s.heap.get? c = some o → g0.get? c = some o := fun c o c1 e => s0.extBut _ _ c1 e
  have to0 : Row g0 TO [a1, a2] := K0 _ _ (nd_ne hd 2 0 rfl rfl (by decide)) to
  refine wpAny_bind ?_
  simp only [List.zipIdx_cons, List.zipIdx_nil, List.forIn_cons, List.forIn_nil]
  by_cases w1 : u1[k]? = none
  · refine wpAny_bind (wpAny_bind (wpAny_onRaise ?_))
    show wpAny _ _ (Builtin.SmallTypes.nextOf (.ref i1) >>= _) _ _ _
    refine wpAny_bind (it_end hh (t1.at (fun o e => K0 _ o (nd_ne hd 3 0 rfl rfl (by decide)) e)) (q1.at (fun o e => K0 _ o (no_ne m1 0 rfl) e)) w1 fun f e hs he => ?_)
    obtain ⟨oe, hoe, hce⟩ := he
    have zf : IsZip f z TI TO .ellipsis := hs _ _ (nd_ne hd 0 3 rfl rfl (by decide)) z0
    have ez : e ≠ z := fun x => by subst x; rw [zf] at hoe; cases hoe; simp at hce
    exact wpAny_setField_rec zf (by simp) fun f' _ hs' => hE f' e (fun c o c1 c2 c3 c4 x => hs'.extBut _ _ c1 (hs _ _ c3 (K0 c o c1 x))) ⟨oe, hs'.extBut _ _ ez hoe, hce⟩
  obtain ⟨x1, e1⟩ := Option.ne_none_iff_exists'.mp w1
  refine wpAny_bind (wpAny_bind (wpAny_onRaise ?_))
  show wpAny _ _ (Builtin.SmallTypes.nextOf (.ref i1) >>= _) _ _ _
  refine wpAny_bind (it_item (t1.at (fun o e => K0 _ o (nd_ne hd 3 0 rfl rfl (by decide)) e)) (q1.at (fun o e => K0 _ o (no_ne m1 0 rfl) e)) e1 fun f1 r1 v1 => wpAny_pure ?_)
  have tp1 : Row f1 TO [a1, a2] := v1.extBut _ _ (nd_ne hd 2 3 rfl rfl (by decide)) to0
  refine wpAny_bind (wpAny_seqItems tp1 rfl ?_)
  refine wpAny_bind (wpAny_updateSeq tp1 rfl ?_)
  obtain ⟨g1, hg1⟩ : ∃ g : Heap, g = f1.update TO (Obj.mapSeq (·.setIfInBounds 0 x1)) := ⟨_, rfl⟩
  have s1 : Heap.SameBut TO f1 g1 := by rw [hg1]; exact Heap.SameBut.update ..
  have to1 : Row g1 TO [x1, a2] := by
    rw [hg1]
    unfold Row
    rw [Heap.get?_update_self _ tp1 rfl]
    simp [Obj.mapSeq]
  rw [← hg1]
  have y1 : It b1 g1 i1 l1 (k + 1) := r1.at fun o e => s1.extBut _ _ (nd_ne hd 3 2 rfl rfl (by decide)) e
  have K1 : ∀ c o, c ≠ z → c ≠ TO → c ≠ i1 → s.heap.get? c = some o → g1.get? c = some o := fun c o c1 c2 c3 e => s1.extBut _ _ c2 (v1.extBut _ _ c3 (K0 c o c1 e))
  have z1 : IsZip g1 z TI TO .ellipsis := s1.extBut _ _ (nd_ne hd 0 2 rfl rfl (by decide)) (v1.extBut _ _ (nd_ne hd 0 3 rfl rfl (by decide)) z0)
  have n1 : g1.objs.size = g0.objs.size := s1.1.trans v1.1
  refine wpAny_bind (wpAny_letGo (wpAny_pure ?_))
  by_cases w2 : u2[k]? = none
  · refine wpAny_bind (wpAny_bind (wpAny_onRaise ?_))
    show wpAny _ _ (Builtin.SmallTypes.nextOf (.ref i2) >>= _) _ _ _
    refine wpAny_bind (it_end hh (t2.at (fun o e => K1 _ o (nd_ne hd 4 0 rfl rfl (by decide)) (nd_ne hd 4 2 rfl rfl (by decide)) (nd_ne hd 4 3 rfl rfl (by decide)) e)) (q2.at (fun o e => K1 _ o (no_ne m2 0 rfl) (no_ne m2 2 rfl) (no_ne m2 3 rfl) e)) w2 fun f e hs he => ?_)
    obtain ⟨oe, hoe, hce⟩ := he
    have zf : IsZip f z TI TO .ellipsis := hs _ _ (nd_ne hd 0 4 rfl rfl (by decide)) z1
    have ez : e ≠ z := fun x => by subst x; rw [zf] at hoe; cases hoe; simp at hce
    exact wpAny_setField_rec zf (by simp) fun f' _ hs' => hE f' e (fun c o c1 c2 c3 c4 x => hs'.extBut _ _ c1 (hs _ _ c4 (K1 c o c1 c2 c3 x))) ⟨oe, hs'.extBut _ _ ez hoe, hce⟩
  exact absurd out (by simp [w1, w2])
end
end ZN
set_option Elab.async false
set_option linter.all false
set_option maxRecDepth 100000
set_option maxHeartbeats 1000000
namespace ZN
open PySem
open PySem.Sem (wp)
/-- the iterator that is made -/
abbrev itO (b : Bool) (l : Addr) : Obj := { cls := .type (if b = true then "tuple_iterator" else "list_iterator"), data := .fields #[.ref l, .int 0 0] }
theorem tyCall2 (a b : Value) : checkTypeCall "zip" ⟨[a, b], []⟩ = pure () := F.typeCall_zip_2 a b
theorem nwCall2 (a b : Value) : checkBuiltinCall "zip.__new__" ⟨[.type "zip", a, b], []⟩ = pure () := F.newCall_zip_2 a b
theorem oArgs2 (a b c : Value) : argsOk "object.__init__" ⟨[a, b, c], []⟩ := F.args_object_init_3 a b c
def madeTL (h : Heap) (l1 l2 : Addr) : Heap := (((((h).push (itO true l1)).push (itO false l2)).push { cls := .type "tuple", data := .seq #[.ref h.objs.size, .ref (h.objs.size + 1)] }).push { cls := .type "tuple", data := .seq #[.none, .none] }).push { cls := .type "zip", data := .fields #[.none, .bool false, .bool false, .ref (h.objs.size + 2), .ref (h.objs.size + 3)] }
theorem newTL (l1 l2 : Addr) (u1 u2 : Array Value) :
    Meets (Builtin.«zip.__new__» ⟨[.type "zip", .ref l1, .ref l2], []⟩) (fun _ R s => s.heap.IsTuple l1 u1 ∧ s.heap.IsList l2 u2 ∧
      R (.ok (.ret (.ref (s.heap.objs.size + 4)))) { s with heap := madeTL s.heap l1 l2 }) :=
  .of_wp fun prog w A R s h => by
    obtain ⟨hp, g, d, tk, os⟩ := s
    obtain ⟨q1, q2, h⟩ := h
    have hsub := sub_zip
    have Q1 : Heap.IsTuple (Shared.heap ⟨hp, g, d, tk, os⟩) l1 u1 := q1
    have Q2 : Heap.IsList (Shared.heap ⟨(hp).push { cls := .type "tuple_iterator", data := .fields #[.ref l1, .int 0 0] }, g, d, tk, os⟩) l2 u2 := (Heap.IsList.push q2 _)
    wp_walk using wpAny_pyIter_tuple Q1, wpAny_pyIter_list Q2
    refine ⟨_, rfl, ?_⟩
    unfold madeTL at h
    simp only [Heap.size_push]
    exact h
section
variable {prog : Program} {w : World} {A : Around} {E : Value → Shared → Prop} {s : Shared}
theorem callTL {l1 l2 : Addr} {u1 u2 : Array Value} {Q : Value → Shared → Prop} (q1 : Sq true s.heap l1 u1) (q2 : Sq false s.heap l2 u2)
    (h : ∀ h', IsZip h' (s.heap.objs.size + 4) (s.heap.objs.size + 2) (s.heap.objs.size + 3) .none → Row h' (s.heap.objs.size + 2) [.ref s.heap.objs.size, .ref (s.heap.objs.size + 1)] →
      Row h' (s.heap.objs.size + 3) [.none, .none] → It true h' s.heap.objs.size l1 0 → It false h' (s.heap.objs.size + 1) l2 0 → h'.objs.size = s.heap.objs.size + 5 →
      (∀ c o, s.heap.get? c = some o → h'.get? c = some o) → Q (.ref (s.heap.objs.size + 4)) { s with heap := h' }) :
    wpAny (model prog w) A (call (.type "zip") [.ref l1, .ref l2]) Q E s := by
  refine callType_new F.called_zip (by decide) (tyCall2 _ _) (nwCall2 _ _) (fun obj => oArgs2 obj _ _) F.entry_zip_new
    (newTL l1 l2 u1 u2) ⟨q1, q2, ?_⟩
  have sz : ∀ (h : Heap) (o : Obj), (h.push o).objs.size = h.objs.size + 1 := fun h o => Heap.size_push ..
  have up : ∀ (h : Heap) (o : Obj) (c : Addr) (x : Obj), h.get? c = some x → (h.push o).get? c = some x := fun h o c x e => Heap.get?_push_of_some _ e
  have at_ : ∀ (h : Heap) (o : Obj) (c : Addr), o.isFreed = false → h.objs.size = c → (h.push o).get? c = some o := fun h o c f e => by subst e; exact Heap.get?_push_size _ f
  refine ⟨?_, h _ ?_ ?_ ?_ ?_ ?_ ?_ ?_⟩
  · exact ⟨_, at_ _ _ _ rfl (by simp only [sz]), rfl⟩
  · exact at_ _ _ _ rfl (by simp only [sz])
  · exact up _ _ _ _ (up _ _ _ _ (at_ _ _ _ rfl (by simp only [sz])))
  · exact up _ _ _ _ (at_ _ _ _ rfl (by simp only [sz]))
  · exact ⟨_, (up _ _ _ _ (up _ _ _ _ (up _ _ _ _ (up _ _ _ _ (at_ _ _ _ rfl (by simp only [sz])))))), rfl, rfl⟩
  · exact ⟨_, (up _ _ _ _ (up _ _ _ _ (up _ _ _ _ (at_ _ _ _ rfl (by simp only [sz]))))), rfl, rfl⟩
  · unfold madeTL; simp only [sz]
  · intro c o x; exact (up _ _ _ _ (up _ _ _ _ (up _ _ _ _ (up _ _ _ _ (up _ _ _ _ x)))))
end
def madeLT (h : Heap) (l1 l2 : Addr) : Heap := (((((h).push (itO false l1)).push (itO true l2)).push { cls := .type "tuple", data := .seq #[.ref h.objs.size, .ref (h.objs.size + 1)] }).push { cls := .type "tuple", data := .seq #[.none, .none] }).push { cls := .type "zip", data := .fields #[.none, .bool false, .bool false, .ref (h.objs.size + 2), .ref (h.objs.size + 3)] }
theorem newLT (l1 l2 : Addr) (u1 u2 : Array Value) :
    Meets (Builtin.«zip.__new__» ⟨[.type "zip", .ref l1, .ref l2], []⟩) (fun _ R s => s.heap.IsList l1 u1 ∧ s.heap.IsTuple l2 u2 ∧
      R (.ok (.ret (.ref (s.heap.objs.size + 4)))) { s with heap := madeLT s.heap l1 l2 }) :=
  .of_wp fun prog w A R s h => by
    obtain ⟨hp, g, d, tk, os⟩ := s
    obtain ⟨q1, q2, h⟩ := h
    have hsub := sub_zip
    have Q1 : Heap.IsList (Shared.heap ⟨hp, g, d, tk, os⟩) l1 u1 := q1
    have Q2 : Heap.IsTuple (Shared.heap ⟨(hp).push { cls := .type "list_iterator", data := .fields #[.ref l1, .int 0 0] }, g, d, tk, os⟩) l2 u2 := (Heap.IsTuple.push q2 _)
    wp_walk using wpAny_pyIter_list Q1, wpAny_pyIter_tuple Q2
    refine ⟨_, rfl, ?_⟩
    unfold madeLT at h
    simp only [Heap.size_push]
    exact h
section
variable {prog : Program} {w : World} {A : Around} {E : Value → Shared → Prop} {s : Shared}
theorem callLT {l1 l2 : Addr} {u1 u2 : Array Value} {Q : Value → Shared → Prop} (q1 : Sq false s.heap l1 u1) (q2 : Sq true s.heap l2 u2)
    (h : ∀ h', IsZip h' (s.heap.objs.size + 4) (s.heap.objs.size + 2) (s.heap.objs.size + 3) .none → Row h' (s.heap.objs.size + 2) [.ref s.heap.objs.size, .ref (s.heap.objs.size + 1)] →
      Row h' (s.heap.objs.size + 3) [.none, .none] → It false h' s.heap.objs.size l1 0 → It true h' (s.heap.objs.size + 1) l2 0 → h'.objs.size = s.heap.objs.size + 5 →
      (∀ c o, s.heap.get? c = some o → h'.get? c = some o) → Q (.ref (s.heap.objs.size + 4)) { s with heap := h' }) :
    wpAny (model prog w) A (call (.type "zip") [.ref l1, .ref l2]) Q E s := by
  refine callType_new F.called_zip (by decide) (tyCall2 _ _) (nwCall2 _ _) (fun obj => oArgs2 obj _ _) F.entry_zip_new
    (newLT l1 l2 u1 u2) ⟨q1, q2, ?_⟩
  have sz : ∀ (h : Heap) (o : Obj), (h.push o).objs.size = h.objs.size + 1 := fun h o => Heap.size_push ..
  have up : ∀ (h : Heap) (o : Obj) (c : Addr) (x : Obj), h.get? c = some x → (h.push o).get? c = some x := fun h o c x e => Heap.get?_push_of_some _ e
  have at_ : ∀ (h : Heap) (o : Obj) (c : Addr), o.isFreed = false → h.objs.size = c → (h.push o).get? c = some o := fun h o c f e => by subst e; exact Heap.get?_push_size _ f
  refine ⟨?_, h _ ?_ ?_ ?_ ?_ ?_ ?_ ?_⟩
  · exact ⟨_, at_ _ _ _ rfl (by simp only [sz]), rfl⟩
  · exact at_ _ _ _ rfl (by simp only [sz])
  · exact up _ _ _ _ (up _ _ _ _ (at_ _ _ _ rfl (by simp only [sz])))
  · exact up _ _ _ _ (at_ _ _ _ rfl (by simp only [sz]))
  · exact ⟨_, (up _ _ _ _ (up _ _ _ _ (up _ _ _ _ (up _ _ _ _ (at_ _ _ _ rfl (by simp only [sz])))))), rfl, rfl⟩
  · exact ⟨_, (up _ _ _ _ (up _ _ _ _ (up _ _ _ _ (at_ _ _ _ rfl (by simp only [sz]))))), rfl, rfl⟩
  · unfold madeLT; simp only [sz]
  · intro c o x; exact (up _ _ _ _ (up _ _ _ _ (up _ _ _ _ (up _ _ _ _ (up _ _ _ _ x)))))
end
section
variable {prog : Program} {w : World} {A : Around} {E : Value → Shared → Prop} {s : Shared}
/-- zip(x, y), each of either kind -/
theorem call2 {b1 b2 : Bool} {l1 l2 : Addr} {u1 u2 : Array Value} {Q : Value → Shared → Prop} (q1 : Sq b1 s.heap l1 u1) (q2 : Sq b2 s.heap l2 u2)
    (h : ∀ h', IsZip h' (s.heap.objs.size + 4) (s.heap.objs.size + 2) (s.heap.objs.size + 3) .none → Row h' (s.heap.objs.size + 2) [.ref s.heap.objs.size, .ref (s.heap.objs.size + 1)] →
      Row h' (s.heap.objs.size + 3) [.none, .none] → It b1 h' s.heap.objs.size l1 0 → It b2 h' (s.heap.objs.size + 1) l2 0 → h'.objs.size = s.heap.objs.size + 5 →
      (∀ c o, s.heap.get? c = some o → h'.get? c = some o) → Q (.ref (s.heap.objs.size + 4)) { s with heap := h' }) :
    wpAny (model prog w) A (call (.type "zip") [.ref l1, .ref l2]) Q E s := by
  cases b1 with
  | true => cases b2 with
    | true => exact RZ.call_zipT q1 q2 h
    | false => exact callTL q1 q2 h
  | false => cases b2 with
    | true => exact callLT q1 q2 h
    | false => exact call_zip_2 q1 q2 h
end
end ZN
set_option Elab.async false
set_option linter.all false
set_option maxRecDepth 100000
set_option maxHeartbeats 1000000
namespace ZN
open PySem PySem.Spec PyProof.Rows L2
def SqK (b : Bool) (K : PySem.W.Frag) (H : Hp) (a : Addr) (xs : List V) : Prop := if b = true then SqT K H a xs else SqL K H a xs
section
variable {X : Cx} {pins : List (Addr × Obj)} {σ : L2.St} {H : Hp} {s : Shared} {b : Bool} {a : Addr} {xs ys : List V}
theorem sqk_ok (I : Inv X pins σ H s) (h : SqK b X.K H a xs) : ∃ its : List Value, Vals xs its ∧ Sq b s.heap a its.toArray := by
  cases b with
  | true => obtain ⟨its, r, p, _⟩ := I.tuple h; exact ⟨its, r, p⟩
  | false => obtain ⟨its, r, p, _⟩ := I.list h; exact ⟨its, r, p.isList⟩
theorem sqk_inj (I : Inv X pins σ H s) (h : SqK b X.K H a xs) (h' : SqK b X.K H a ys) : xs = ys := by
  cases b with
  | true => exact I.tuple_inj h h'
  | false => exact I.list_inj h h'
theorem Sq.lt {h : Heap} {l : Addr} {u : Array Value} (q : Sq b h l u) : l < h.objs.size := by
  cases b with
  | true => obtain ⟨o, e, _⟩ := q; exact Heap.lt_size e
  | false => obtain ⟨o, e, _⟩ := q; exact Heap.lt_size e
theorem It.obj {h : Heap} {it l : Addr} {k : Nat} (t : ZN.It b h it l k) : ∃ o, h.get? it = some o ∧ ∀ v, o.data ≠ .cell v := by
  cases b with
  | true => obtain ⟨o, e, _, d⟩ := t; exact ⟨o, e, fun v q => by rw [d] at q; cases q⟩
  | false => obtain ⟨o, e, _, d⟩ := t; exact ⟨o, e, fun v q => by rw [d] at q; cases q⟩
end
/-- the sequences as they stand at each turn, the items in new tuples -/
def Itz2 (K : PySem.W.Frag) (b1 b2 : Bool) (a1 a2 : Addr) : L2.It :=
  ⟨fun i H => ∃ (p1 p2 : List V) (x1 x2 : V), SqK b1 K H a1 p1 ∧ SqK b2 K H a2 p2 ∧ p1[i]? = some x1 ∧ p2[i]? = some x2,
    fun i H v H' => ∃ (T : Addr) (x1 x2 : V), v = .ref T ∧ H T = none ∧ H' = upd H T (.tup [x1, x2]) ∧ (∀ p, SqK b1 K H a1 p → p[i]? = some x1) ∧ (∀ p, SqK b2 K H a2 p → p[i]? = some x2),
    fun i H => ∃ (p1 p2 : List V), SqK b1 K H a1 p1 ∧ SqK b2 K H a2 p2 ∧ (p1.length ≤ i ∨ p2.length ≤ i)⟩
theorem turn2 {P : Program} {w : World} {K : PySem.W.Frag} {elts : List Expr} {kk : Nat} {tpos : Pos} {b1 b2 : Bool} {a1 a2 z TI TO i1 i2 : Addr} (hd : List.Nodup [z, TI, TO, i1, i2]) (m1 : a1 ∉ [z, TI, TO, i1, i2]) (m2 : a2 ∉ [z, TI, TO, i1, i2]) :
    Turn P w K (.Tuple elts kk tpos) (Itz2 K b1 b2 a1 a2) [z, TI, TO, i1, i2] z (fun i h => IsZip h z TI TO .none ∧ Row h TI [.ref i1, .ref i2] ∧ (∃ x1 x2, Row h TO [x1, x2]) ∧ ZN.It b1 h i1 a1 i ∧ ZN.It b2 h i2 a2 i) where
  mem := by simp
  obj := fun i h st c hc => by
    obtain ⟨zz, ti, ⟨y1, y2, to⟩, t1, t2⟩ := st
    have e' : c = z ∨ c = TI ∨ c = TO ∨ c = i1 ∨ c = i2 := by simpa using hc
    rcases e' with q | q | q | q | q
    · rw [q]; exact ⟨_, zz, fun v q => nomatch q⟩
    · rw [q]; exact ⟨_, ti, fun v q => nomatch q⟩
    · rw [q]; exact ⟨_, to, fun v q => nomatch q⟩
    · rw [q]; exact t1.obj
    · rw [q]; exact t2.obj
  keep := fun i h h' st k => by
    obtain ⟨zz, ti, ⟨y1, y2, to⟩, t1, t2⟩ := st
    exact ⟨k z (by simp) _ zz, k TI (by simp) _ ti, ⟨y1, y2, k TO (by simp) _ to⟩, t1.at fun o q => k i1 (by simp) o q, t2.at fun o q => k i2 (by simp) o q⟩
  item := by
    intro X hP hw hK hc i pins s σ H E I hf st hg
    subst hP hw hK
    obtain ⟨zz, ti, ⟨y1, y2, to⟩, t1, t2⟩ := st
    obtain ⟨p1, p2, x1, x2, s1, s2, g1, g2⟩ := hg
    obtain ⟨w1, rv1, q1⟩ := sqk_ok I s1
    obtain ⟨u1, hu1, ru1⟩ := rv1.get g1
    obtain ⟨w2, rv2, q2⟩ := sqk_ok I s2
    obtain ⟨u2, hu2, ru2⟩ := rv2.get g2
    have zl : z < s.heap.objs.size := Heap.lt_size zz
    have hT : s.TypeIs (.ref z) "zip" := ⟨_, zz, rfl⟩
    unfold pyNext
    refine wpAny_bind (wpAny_attempt (wpAny_callSpecial?_slot (name := Str.ofString "__next__") hT F.slot_zip_next (wpAny_call_entry F.slot_zip_next hT F.entry_zip_next
      (next2_item hd m1 m2 zz ti to t1 q1 t2 q2 (x1 := u1) (x2 := u2) (by simpa using hu1) (by simpa using hu2) fun h' z' TO' v1 v2 new hsz hk => wpAny_pure ?_) (F.args_zip_next_1 _))))
    refine ⟨_, rfl, wpAny_letOwnedTupleGo_zip (s := { s with heap := h' }) z' fun h'' z'' sb => ?_⟩
    have new2 : h''.get? s.heap.objs.size = some { cls := .type "tuple", data := .seq #[u1, u2] } := (sb.2 _ (Nat.ne_of_gt zl)).trans new
    have newO : ObjOk X.prog X.w (upd H s.heap.objs.size (.tup [x1, x2])) h'' s.heap.objs.size (.tup [x1, x2]) :=
      ⟨by show 2 ≤ sizeLine; decide, [u1, u2], .cons ru1 (.cons ru2 .nil), ⟨_, new2, rfl, _, rfl⟩⟩
    have I1 : Inv X pins σ (upd H s.heap.objs.size (.tup [x1, x2])) { s with heap := h'' } :=
      I.turnedNew (t' := s.toks) (ch := [z, TI, TO, i1, i2]) (fun c o hb q => (sb.2 c (fun q' => hb (by simp [q']))).trans (hk c o (fun q' => hb (by simp [q'])) (fun q' => hb (by simp [q'])) (fun q' => hb (by simp [q'])) (fun q' => hb (by simp [q'])) q)) hf (Nat.le_refl _) newO
    refine ⟨.ref s.heap.objs.size, _, I1, rfl, ⟨_, x1, x2, rfl, I.hok.fresh (Nat.le_refl _), rfl, fun l hl => by rw [sqk_inj I hl s1]; exact g1, fun l hl => by rw [sqk_inj I hl s2]; exact g2⟩, ⟨z'', ?_, ⟨u1, u2, ?_⟩, ?_, ?_⟩, fun c hcm => ?_⟩
    · exact (sb.2 _ (nd_ne hd 1 0 rfl rfl (by decide))).trans (hk _ _ (nd_ne hd 1 0 rfl rfl (by decide)) (nd_ne hd 1 2 rfl rfl (by decide)) (nd_ne hd 1 3 rfl rfl (by decide)) (nd_ne hd 1 4 rfl rfl (by decide)) ti)
    · exact (sb.2 _ (nd_ne hd 2 0 rfl rfl (by decide))).trans TO'
    · exact v1.at fun o q => (sb.2 _ (nd_ne hd 3 0 rfl rfl (by decide))).trans q
    · exact v2.at fun o q => (sb.2 _ (nd_ne hd 4 0 rfl rfl (by decide))).trans q
    · have hlt : c < s.heap.objs.size := by
        have e' : c = z ∨ c = TI ∨ c = TO ∨ c = i1 ∨ c = i2 := by simpa using hcm
        rcases e' with q | q | q | q | q
        · rw [q]; exact zl
        · rw [q]; exact Heap.lt_size ti
        · rw [q]; exact Heap.lt_size to
        · rw [q]; obtain ⟨_, e1, _⟩ := t1.obj; exact Heap.lt_size e1
        · rw [q]; obtain ⟨_, e1, _⟩ := t2.obj; exact Heap.lt_size e1
      rw [upd_ne (Nat.ne_of_lt hlt)]
      exact (hf c hcm).1
  done := by
    intro X hP hw hK hc i pins s σ H E I hf st hg
    subst hP hw hK
    obtain ⟨zz, ti, ⟨y1, y2, to⟩, t1, t2⟩ := st
    obtain ⟨p1, p2, s1, s2, hend⟩ := hg
    obtain ⟨w1, rv1, q1⟩ := sqk_ok I s1
    have n1 := rv1.length
    obtain ⟨w2, rv2, q2⟩ := sqk_ok I s2
    have n2 := rv2.length
    have out : w1.toArray[i]? = none ∨ w2.toArray[i]? = none := by
      rcases hend with q | q
      · exact .inl (by simp; omega)
      · exact .inr ((by simp; omega))
    have hT : s.TypeIs (.ref z) "zip" := ⟨_, zz, rfl⟩
    unfold pyNext
    refine wpAny_bind (wpAny_attempt (wpAny_callSpecial?_slot (name := Str.ofString "__next__") hT F.slot_zip_next (wpAny_call_entry F.slot_zip_next hT F.entry_zip_next
      (next2_end (I.ok.hd hc) hd m1 m2 zz ti to t1 q1 t2 q2 out fun h' e hk he => ?_) (F.args_zip_next_1 _))))
    obtain ⟨o, ho, hcl⟩ := he
    refine wpAny_bind (wpAny_isInstance (T := "StopIteration") (b := true) ⟨o, ho, hcl⟩ isSubtype_stop ?_)
    exact wpAny_pure ⟨rfl, I.turnedL (t' := s.toks) (ch := [z, TI, TO, i1, i2]) (fun c o hb q => hk c o (fun q' => hb (by simp [q'])) (fun q' => hb (by simp [q'])) (fun q' => hb (by simp [q'])) (fun q' => hb (by simp [q'])) q) hf⟩
  self := fun A i s Q E st h => wpAny_pyIter_zip st.1 h
theorem apart2 (I : Nat) : List.Nodup [I + 4, I + 2, I + 3, I, I + 1] := by
  simp
theorem away2 (I l : Nat) (h : l < I) : l ∉ [I + 4, I + 2, I + 3, I, I + 1] := by
  simp
  omega
def iZ2 (K : PySem.W.Frag) (ta : TA) : TI := fun σ H R => ta σ H fun vs H1 => ∃ (b1 b2 : Bool) (a1 a2 : Addr) (p1 p2 : List V), vs = [.ref a1, .ref a2] ∧ SqK b1 K H1 a1 p1 ∧ SqK b2 K H1 a2 p2 ∧ R (Itz2 K b1 b2 a1 a2) H1
theorem pi_z2 {X : Cx} {e1 e2 : Expr} {ta : TA} {p pos tpos : Pos} {elts : List Expr} {kk : Nat} (hg : Gl X "zip") (hm : X.mg "zip" = none) (ha : PA X [e1, e2] ta)
    (hs : starEach [e1, e2] X.env = (false, eval e1 X.env) :: starEach [e2] X.env := by rfl) (hpl : (backTo pos (starEach [e2] X.env)).any (·.1) = false := by rfl) :
    PI X (.Tuple elts kk tpos) (.Call (.Name "zip" p) [e1, e2] [] pos) (iZ2 X.K ta) := by
  refine ⟨fun pins s σ H R I h => ?_⟩
  refine Call_ (ld_blt I hg hm PyProof.Rows.boot_zip (PyProof.Rows.callWith_type1 (thn (ha.run pos pins s σ H _ I h) fun us s1 ⟨vs, H1, I1, r1, q1⟩ => ?_) hs hpl))
  obtain ⟨b1, b2, a1, a2, p1, p2, ex, k1, k2, q⟩ := q1
  subst ex
  cases r1 with
  | cons r rr => cases rr with
    | cons r' rr =>
      cases rr
      cases r; cases r'
      obtain ⟨w1, rv1, c1⟩ := sqk_ok I1 k1
      obtain ⟨w2, rv2, c2⟩ := sqk_ok I1 k2
      have fresh : ∀ c, c ∈ [s1.heap.objs.size + 4, s1.heap.objs.size + 2, s1.heap.objs.size + 3, s1.heap.objs.size, s1.heap.objs.size + 1] → FpOk X pins H1 c := fun c hcm => by
        have hle : s1.heap.objs.size ≤ c := by
          simp at hcm
          omega
        exact I1.fpOk hle (I1.hok.fresh hle)
      refine call2 c1 c2 fun h' hz hTI hTO h1 h2 hsz hk => wpAny_pyIter_zip hz ?_
      have I2 : Inv X pins σ H1 { s1 with heap := h' } := I1.kept (t' := s1.toks) hk
      exact ⟨s1.heap.objs.size + 4, [s1.heap.objs.size + 4, s1.heap.objs.size + 2, s1.heap.objs.size + 3, s1.heap.objs.size, s1.heap.objs.size + 1], _, _, H1, rfl, I2, turn2 (apart2 _) (away2 _ _ c1.lt) (away2 _ _ c2.lt), ⟨hz, hTI, ⟨_, _, hTO⟩, h1, h2⟩, fresh, q⟩
end ZN
namespace EL
open PySem PySem.Spec PyProof.Rows L2 GxR LG ZN
section
variable {G : G0} {X : Cx} {pos : Pos} {fr : FA}
/-- a tuple (true) or a list -/
def sqOf (d : D) (st : Sto) : Option (Bool × List D) := match d with
  | .tup ds => some (true, ds)
  | d => (listOf d st).map fun ds => (false, ds)
theorem sq_live {μ : Mu} {st : Sto} {H : Hp} {d : D} {v : V} {b : Bool} {ds : List D} (S : StR G μ st H) (R : Rep G μ H d v) (e : sqOf d st = some (b, ds)) : ∃ a, v = .ref a ∧
    ∀ μ' st' H', Ext0 G μ H μ' H' → StR G μ' st' H' → Intact (srcOf d ds) st' → ∃ vs, SqK b G.K H' a vs ∧ Reps G μ' H' ds vs := by
  unfold sqOf at e
  split at e
  · cases e
    cases R with
    | tup s r => exact ⟨_, rfl, fun μ' st' H' x S' _ => ⟨_, show SqT G.K H' _ _ from SqT.of (x.tup _ _ s), r.ext0 x⟩⟩
  · obtain ⟨es, e1, e2⟩ := Option.map_eq_some_iff.mp e
    cases e2
    obtain ⟨a, vs, rfl, h1, h2⟩ := list_rep S R e1
    exact ⟨a, rfl, live S R e1⟩
def iZip2 (fr : FA) : FI := fun ρ st => (fr ρ st).bind fun p => match p.1 with
  | [x, y] => (sqOf x p.2).bind fun a => (sqOf y p.2).bind fun b => some (List.zipWith (fun x y => .tup [x, y]) a.2 b.2, srcOf x a.2 ++ srcOf y b.2, p.2)
  | _ => none
theorem zip_at {xs ys : List D} {i : Nat} {x y : D} (h1 : xs[i]? = some x) (h2 : ys[i]? = some y) : (List.zipWith (fun x y => D.tup [x, y]) xs ys)[i]? = some (.tup [x, y]) := by
  rw [List.getElem?_zipWith, h1, h2]
theorem src_now {d : D} {st : Sto} {ds : List D} (h : listOf d st = some ds) : Intact (srcOf d ds) st := by
  intro p hp
  unfold srcOf at hp
  split at hp
  · simp at hp; subst hp
    unfold listOf at h
    simp only at h
    split at h
    · rename_i hl; cases h; exact hl
    · cases h
  · simp at hp
theorem src_sq {d : D} {st : Sto} {b : Bool} {ds : List D} (h : sqOf d st = some (b, ds)) : Intact (srcOf d ds) st := by
  unfold sqOf at h
  split at h
  · cases h; exact fun p hp => by simp [srcOf] at hp
  · obtain ⟨es, e1, e2⟩ := Option.map_eq_some_iff.mp h
    cases e2
    exact src_now e1
theorem di_zip2 {e e2 : Expr} {p tpos : Pos} {elts : List Expr} {kk : Nat} (o : On G X) (hg : Gl X "zip") (hm : G.mg "zip" = none) (ha : PA X [e, e2] (liftA G fr))
    (hs : starEach [e, e2] X.env = (false, eval e X.env) :: starEach [e2] X.env := by rfl) (hpl : (backTo pos (starEach [e2] X.env)).any (·.1) = false := by rfl) :
    PI X (.Tuple elts kk tpos) (.Call (.Name "zip" p) [e, e2] [] pos) (liftI G (iZip2 fr)) := by
  refine PI.imp (pi_z2 hg (by rw [o.mg]; exact hm) ha hs hpl) fun σ H R ⟨ρ, μ, st, items, src, st', E, S, e, k⟩ => ?_
  unfold iZip2 at e
  obtain ⟨⟨ds, s1⟩, e1, e⟩ := Option.bind_eq_some_iff.mp e
  refine ⟨ρ, μ, st, ds, s1, E, S, e1, fun μ1 H1 vs X1 S1 R1 => ?_⟩
  simp only at e
  split at e
  · rename_i x y
    obtain ⟨⟨b1, xs⟩, f1, e⟩ := Option.bind_eq_some_iff.mp e
    obtain ⟨⟨b2, ys⟩, f2, e⟩ := Option.bind_eq_some_iff.mp e
    cases e
    cases R1 with
    | cons r1 t => cases t with
      | cons r2 t =>
        cases t
        obtain ⟨a1, rfl, L1⟩ := sq_live S1 r1 f1
        obtain ⟨a2, rfl, L2⟩ := sq_live S1 r2 f2
        obtain ⟨us, u1, u2⟩ := L1 μ1 _ H1 Ext.refl.to0 S1 (src_sq f1)
        obtain ⟨ws, w1, w2⟩ := L2 μ1 _ H1 Ext.refl.to0 S1 (src_sq f2)
        refine ⟨b1, b2, a1, a2, us, ws, rfl, by rw [o.K]; exact u1, by rw [o.K]; exact w1, k μ1 H1 _ X1 S1 ?_⟩
        rw [o.K]
        intro μ' st' H' i x S hin
        obtain ⟨hin1, hin2⟩ := intact_app.mp hin
        obtain ⟨vs1, h1, h2⟩ := L1 μ' st' H' x S hin1
        obtain ⟨vs2, g1, g2⟩ := L2 μ' st' H' x S hin2
        have len1 : xs.length = vs1.length := h2.length
        have len2 : ys.length = vs2.length := g2.length
        simp only [List.length_zipWith]
        refine ⟨fun hl => ?_, fun hl => ⟨vs1, vs2, h1, g1, by omega⟩⟩
        have hv : i < vs1.length := by omega
        have hw : i < vs2.length := by omega
        refine ⟨⟨vs1, vs2, vs1[i], vs2[i], h1, g1, by simp [hv], by simp [hw]⟩, fun y H'' hy => ?_⟩
        obtain ⟨T, x1, x2, rfl, nT, rfl, q1, q2⟩ := hy
        obtain ⟨d1, z1, r1⟩ := h2.get' i (q1 vs1 h1)
        obtain ⟨d2, z2, r2⟩ := g2.get' i (q2 vs2 g1)
        exact ⟨_, zip_at z1 z2, .tup upd_same (.cons (r1.ext (Ext.new S nT)) (.cons (r2.ext (Ext.new S nT)) .nil)), S.newT nT, Ext.new S nT⟩
  · cases e
end
end EL
set_option Elab.async false
set_option linter.all false
set_option maxRecDepth 100000
set_option maxHeartbeats 1000000
namespace ZN
open PySem PySem.Spec PyProof.Rows L2
open AutoSeq1 (wpAny_loadPart')
theorem newEnT (l : Addr) (u : Array Value) (n : Nat) (dct : Option Addr) (sl : Array (Option Value)) :
    Meets (Builtin.«enumerate.__new__» ⟨[.type "enumerate", .ref l], []⟩) (fun _ R s => s.heap.get? l = some { cls := .type "tuple", dict := dct, data := .seq u n, slots := sl } ∧
      R (.ok (.ret (.ref (s.heap.push (itO true l)).objs.size)))
        { s with heap := (s.heap.push (itO true l)).push { cls := .type "enumerate", data := .fields #[.none, .bool false, .ref s.heap.objs.size, rawInt 0, .none, .none] } }) :=
  .of_wp fun prog w A R s h => by
    obtain ⟨hp, g, d, tk, os⟩ := s
    obtain ⟨at_, h⟩ := h
    have hsub := sub_enumerate
    have hT : Heap.IsTuple (Shared.heap ⟨hp, g, d, tk, os⟩) l u := ⟨_, at_, rfl, n, rfl⟩
    wp_walk using wpAny_loadPart' at_
    refine wpAny_stack_any fun st => wpAny_pure ?_
    split
    · rename_i c _ _ _ _ _
      cases (c == Value.type "enumerate")
      · wp_walk using wpAny_loadPart' at_, wpAny_pyIter_tuple hT
        exact ⟨_, rfl, h⟩
      · wp_walk using wpAny_loadPart' at_, wpAny_pyIter_tuple hT
        exact ⟨_, rfl, h⟩
    · wp_walk using wpAny_loadPart' at_, wpAny_pyIter_tuple hT
      exact ⟨_, rfl, h⟩
section
variable {prog : Program} {w : World} {A : Around} {E : Value → Shared → Prop} {s : Shared}
theorem callEn {b : Bool} {l : Addr} {u : Array Value} {Q : Value → Shared → Prop} (q : Sq b s.heap l u)
    (h : ∀ h', IsEnum h' (s.heap.objs.size + 1) s.heap.objs.size 0 .none → It b h' s.heap.objs.size l 0 → h'.objs.size = s.heap.objs.size + 2 →
      (∀ b o, s.heap.get? b = some o → h'.get? b = some o) → Q (.ref (s.heap.objs.size + 1)) { s with heap := h' }) :
    wpAny (model prog w) A (call (.type "enumerate") [.ref l]) Q E s := by
  cases b with
  | false => exact call_enumerate_list q h
  | true =>
    obtain ⟨⟨c, dct, dt, sl⟩, hl, hc, n, hd⟩ := q
    replace hc : c = .type "tuple" := hc
    replace hd : dt = .seq u n := hd
    subst hc hd
    refine callType_new F.called_enumerate (by decide) (F.typeCall_enumerate_1 _) (F.newCall_enumerate_1 _) (fun obj => F.args_object_init_2 obj _) F.entry_enumerate_new (newEnT l u n dct sl) ⟨hl, ?_⟩
    have hz : (s.heap.push (itO true l)).objs.size = s.heap.objs.size + 1 := Heap.size_push ..
    show _ ∧ _
    rw [hz]
    have he : IsEnum ((s.heap.push (itO true l)).push { cls := .type "enumerate", data := .fields #[.none, .bool false, .ref s.heap.objs.size, rawInt 0, .none, .none] }) (s.heap.objs.size + 1) s.heap.objs.size 0 .none := by
      have := Heap.get?_push_size (s.heap.push (itO true l)) (o := { cls := .type "enumerate", data := .fields #[.none, .bool false, .ref s.heap.objs.size, rawInt 0, .none, .none] }) rfl
      rw [hz] at this; exact this
    exact ⟨⟨_, he, rfl⟩, h _ he ⟨_, Heap.get?_push_of_some _ (Heap.get?_push_size _ rfl), rfl, rfl⟩ (by rw [Heap.size_push, hz]) fun b o x => Heap.get?_push_of_some _ (Heap.get?_push_of_some _ x)⟩
theorem draws {b : Bool} (hh : A.handled = none) (it l : Addr) (hne : l ≠ it) (u : Array Value) : Draws prog w A it [it, l] u.size (fun i v => u[i]? = some v) (fun i h => It b h it l i ∧ Sq b h l u) where
  live := fun _ _ st => let ⟨o, ho, _⟩ := st.1.obj; ⟨o, ho⟩
  frame := fun _ _ _ st hk => ⟨st.1.at fun o e => hk it (by simp) o e, st.2.at fun o e => hk l (by simp) o e⟩
  item := fun i s Q E hi st hQ => by
    refine it_item st.1 st.2 (x := u[i]) (by simp [hi]) fun h' t' hs' => ?_
    exact hQ _ h' s.toks (by simp [hi]) ⟨t', st.2.at fun o e => hs'.extBut _ _ hne e⟩ hs'
  done := fun s Q E st hE => it_end hh st.1 st.2 (by simp) hE
end
def Ite (K : PySem.W.Frag) (b : Bool) (a : Addr) : L2.It :=
  ⟨fun i H => ∃ (xs : List V) (x : V), SqK b K H a xs ∧ xs[i]? = some x,
    fun i H v H' => ∃ (T : Addr) (x : V), v = .ref T ∧ H T = none ∧ H' = upd H T (.tup [.int (i : Nat), x]) ∧ ∀ xs, SqK b K H a xs → xs[i]? = some x,
    fun i H => ∃ xs : List V, SqK b K H a xs ∧ xs.length = i⟩
theorem turnEn {P : Program} {w : World} {K : PySem.W.Frag} {elts : List Expr} {kk : Nat} {tpos : Pos} (b : Bool) (a e it : Addr) (hae : a ≠ e) (hai : a ≠ it) :
    Turn P w K (.Tuple elts kk tpos) (Ite K b a) [e, it] e (fun i h => (∃ old, IsEnum h e it ((i : Nat) : Int) old) ∧ It b h it a i ∧ e ≠ it) where
  mem := by simp
  obj := fun i h st c hc => by
    obtain ⟨⟨old, he⟩, t, _⟩ := st
    have e' : c = e ∨ c = it := by simpa using hc
    rcases e' with z | z
    · rw [z]; exact ⟨_, he, fun v q => nomatch q⟩
    · rw [z]; exact t.obj
  keep := fun i h h' st k => let ⟨⟨old, he⟩, t, hne⟩ := st; ⟨⟨old, k e (by simp) _ he⟩, t.at fun o q => k it (by simp) o q, hne⟩
  item := by
    intro X hP hw hK hc i pins s σ H E I hf st hg
    subst hP hw hK
    obtain ⟨⟨old, he⟩, t, hne⟩ := st
    obtain ⟨xs, x, hq, hx⟩ := hg
    obtain ⟨its, rv, p⟩ := sqk_ok I hq
    obtain ⟨u, hu, ru⟩ := rv.get hx
    have hel : e < s.heap.objs.size := Heap.lt_size he
    have hil : it < s.heap.objs.size := by obtain ⟨_, q, _⟩ := t.obj; exact Heap.lt_size q
    have hlt : i < its.toArray.size := by
      have := (List.getElem?_eq_some_iff.mp hu).1
      simpa using this
    refine wpAny_pyNext_enum_itemD (draws (A := X.A.in1) (b := b) (show X.A.in1.handled = none from I.ok.hd hc) it a hai its.toArray) he ⟨t, p⟩ hlt hne (by simp; exact ⟨hne, Ne.symm hae⟩) fun x' h' tk hp' ho st' hT hsz hk => ?_
    obtain rfl : x' = u := by
      have : its.toArray[i]? = some u := by simpa using hu
      rw [this] at hp'; exact (Option.some.inj hp').symm
    refine ⟨_, rfl, wpAny_letOwnedTupleGo_enum (s := { s with heap := h', toks := tk + 1 }) ho fun h'' he' sb => ?_⟩
    have hT2 : h''.get? s.heap.objs.size = some { cls := .type "tuple", data := .seq #[.int i tk, x'] } := (sb.2 _ (Nat.ne_of_gt hel)).trans hT
    have new : ObjOk X.prog X.w (upd H s.heap.objs.size (.tup [.int (i : Nat), x])) h'' s.heap.objs.size (.tup [.int (i : Nat), x]) :=
      ⟨by show 2 ≤ sizeLine; decide, [.int i tk, x'], .cons ⟨_, rfl⟩ (.cons ru .nil), ⟨_, hT2, rfl, _, rfl⟩⟩
    have I1 : Inv X pins σ (upd H s.heap.objs.size (.tup [.int (i : Nat), x])) { s with heap := h'', toks := tk + 1 } :=
      I.turnedNew (ch := [e, it]) (fun c ob hb q => (sb.2 c (fun z => hb (by simp [z]))).trans (hk c ob (fun z => hb (by simp [z])) (fun z => hb (by simp [z])) q)) hf (Nat.le_refl _) new
    refine ⟨.ref s.heap.objs.size, _, I1, rfl, ⟨_, x, rfl, I.hok.fresh (Nat.le_refl _), rfl, fun ys hy => by rw [sqk_inj I hy hq]; exact hx⟩, ⟨⟨x', ?_⟩, st'.1.at fun o q => (sb.2 it (Ne.symm hne)).trans q, hne⟩, fun c hb => ?_⟩
    · have e1 : ((i + 1 : Nat) : Int) = (i : Int) + 1 := by omega
      rw [e1]; exact he'
    · have hb' : c < s.heap.objs.size := by
        have e' : c = e ∨ c = it := by simpa using hb
        rcases e' with z | z
        · rw [z]; exact hel
        · rw [z]; exact hil
      rw [upd_ne (Nat.ne_of_lt hb')]
      exact (hf c hb).1
  done := by
    intro X hP hw hK hc i pins s σ H E I hf st hg
    subst hP hw hK
    obtain ⟨⟨old, he⟩, t, hne⟩ := st
    obtain ⟨xs, hq, hx⟩ := hg
    obtain ⟨its, rv, p⟩ := sqk_ok I hq
    obtain ⟨f0, f1, f2, f3, f4, f5⟩ := hf it (by simp)
    have hl := rv.length
    have hn : its.toArray.size = i := by simp; omega
    subst hn
    exact wpAny_pyNext_enum_endD (draws (A := X.A.in1) (b := b) (show X.A.in1.handled = none from I.ok.hd hc) it a hai its.toArray) he ⟨t, p⟩ fun h' eb => ⟨rfl, I.turned (t' := s.toks) (fun c o hb q => eb c o hb q) f0 f1 f3 f4 f5⟩
  self := fun A i s Q E st h => let ⟨⟨_, he⟩, _⟩ := st; wpAny_pyIter_enum he h
def iEn (K : PySem.W.Frag) (ta : TA) : TI := fun σ H R => ta σ H fun vs H1 => ∃ (b : Bool) (a : Addr) (xs : List V), vs = [.ref a] ∧ SqK b K H1 a xs ∧ R (Ite K b a) H1
theorem pi_en {X : Cx} {e : Expr} {ta : TA} {p pos tpos : Pos} {elts : List Expr} {kk : Nat} (hg : Gl X "enumerate") (hm : X.mg "enumerate" = none) (ha : PA X [e] ta) (hs : starEach [e] X.env = [(false, eval e X.env)] := by rfl) :
    PI X (.Tuple elts kk tpos) (.Call (.Name "enumerate" p) [e] [] pos) (iEn X.K ta) := by
  refine ⟨fun pins s σ H R I h => ?_⟩
  refine Call_ (ld_blt I hg hm boot_enumerate (PyProof.Rows.callWith_type1 (thn (ha.run pos pins s σ H _ I h) fun us s1 ⟨vs, H1, I1, r1, q1⟩ => ?_) hs rfl))
  obtain ⟨b, a, xs, ex, hq, q⟩ := q1
  subst ex
  cases r1 with
  | cons r rr =>
    cases rr
    cases r
    obtain ⟨its, rv, p'⟩ := sqk_ok I1 hq
    have lt := p'.lt
    refine callEn p' fun h' he t hsz hk => wpAny_pyIter_enum he ?_
    have I2 : Inv X pins σ H1 { s1 with heap := h' } := I1.kept (t' := s1.toks) hk
    refine ⟨s1.heap.objs.size + 1, [s1.heap.objs.size + 1, s1.heap.objs.size], _, _, H1, rfl, I2, turnEn b a (s1.heap.objs.size + 1) s1.heap.objs.size (Nat.ne_of_lt (Nat.lt_succ_of_lt lt)) (Nat.ne_of_lt lt), ⟨⟨.none, he⟩, t, Nat.succ_ne_self _⟩, fun c hb => ?_, q⟩
    have e' : c = s1.heap.objs.size + 1 ∨ c = s1.heap.objs.size := by simpa using hb
    have hle : s1.heap.objs.size ≤ c := by
      rcases e' with z | z
      · exact Nat.le_trans (Nat.le_succ _) (Nat.le_of_eq z.symm)
      · exact Nat.le_of_eq z.symm
    exact I1.fpOk hle (I1.hok.fresh hle)
end ZN
namespace EL
open PySem PySem.Spec PyProof.Rows L2 GxR LG ZN
section
variable {G : G0} {X : Cx} {pos : Pos} {fr : FA}
def enumD (ds : List D) : List D := ds.mapIdx fun i d => .tup [.int (i : Nat), d]
def iEnum (fr : FA) : FI := fun ρ st => (fr ρ st).bind fun p => match p.1 with
  | [x] => (sqOf x p.2).bind fun a => some (enumD a.2, srcOf x a.2, p.2)
  | _ => none
theorem di_enum {e : Expr} {p tpos : Pos} {elts : List Expr} {kk : Nat} (o : On G X) (hg : Gl X "enumerate") (hm : G.mg "enumerate" = none) (ha : PA X [e] (liftA G fr)) (hs : starEach [e] X.env = [(false, eval e X.env)] := by rfl) :
    PI X (.Tuple elts kk tpos) (.Call (.Name "enumerate" p) [e] [] pos) (liftI G (iEnum fr)) := by
  refine PI.imp (pi_en hg (by rw [o.mg]; exact hm) ha hs) fun σ H R ⟨ρ, μ, st, items, src, st', E, S, e, k⟩ => ?_
  unfold iEnum at e
  obtain ⟨⟨ds, s1⟩, e1, e⟩ := Option.bind_eq_some_iff.mp e
  refine ⟨ρ, μ, st, ds, s1, E, S, e1, fun μ1 H1 vs X1 S1 R1 => ?_⟩
  simp only at e
  split at e
  · obtain ⟨⟨b, xs⟩, f1, e⟩ := Option.bind_eq_some_iff.mp e
    cases e
    cases R1 with
    | cons r1 t =>
      cases t
      obtain ⟨a1, rfl, L1⟩ := sq_live S1 r1 f1
      obtain ⟨us, u1, u2⟩ := L1 μ1 _ H1 Ext.refl.to0 S1 (src_sq f1)
      refine ⟨b, a1, us, rfl, by rw [o.K]; exact u1, k μ1 H1 _ X1 S1 ?_⟩
      rw [o.K]
      intro μ' st' H' i x S hin
      obtain ⟨vs1, h1, h2⟩ := L1 μ' st' H' x S hin
      have len1 : xs.length = vs1.length := h2.length
      have len : (enumD xs).length = xs.length := by simp [enumD]
      simp only [len]
      refine ⟨fun hl => ?_, fun hl => ⟨vs1, h1, by omega⟩⟩
      have hv : i < vs1.length := by omega
      refine ⟨⟨vs1, vs1[i], h1, by simp [hv]⟩, fun y H'' hy => ?_⟩
      obtain ⟨T, x1, rfl, nT, rfl, q1⟩ := hy
      obtain ⟨d1, z1, r1⟩ := h2.get' i (q1 vs1 h1)
      refine ⟨.tup [.int (i : Nat), d1], ?_, .tup upd_same (.cons (.int _) (.cons (r1.ext (Ext.new S nT)) .nil)), S.newT nT, Ext.new S nT⟩
      unfold enumD
      rw [List.getElem?_mapIdx, z1]
      rfl
  · cases e
end
end EL
set_option Elab.async false
set_option linter.all false
set_option maxRecDepth 100000
set_option maxHeartbeats 1000000
namespace EL
open PySem PySem.Spec PyProof.Rows L2 GxR LG
/-- a context with its names and its scope -/
structure Here (G : G0) (X : Cx) (Ns : List Str) (scp : Scope) : Prop where
  on : On G X
  N : X.N = Ns
  sc : X.env.scope = scp
  nd : Ns.Nodup
section
variable {G : G0} {W : WX} {X : Cx} {N : List Str} {sc : Scope} {pos : Pos} {a b c e tgt : Expr} {es : List Expr} {fa fb fc : FE} {ta tb : FT} {fr : FA}
theorem Here.gl (o : Here G X N sc) {x : Str} (h : sc.names.lookup x = some .globalImplicit) : Gl X x := by
  show X.env.scope.names.lookup x = _
  rw [o.sc]; exact h
theorem Here.ix (o : Here G X N sc) {i : Nat} {x : Str} (h : N[i]? = some x) : X.N[i]? = some x := by rw [o.N]; exact h
theorem Here.ndX (o : Here G X N sc) : X.N.Nodup := by rw [o.N]; exact o.nd
theorem x_var (o : Here G X N sc) (i : Nat) {x : Str} (hN : N[i]? = some x := by rfl) (hv : Vis sc x := by first | exact Or.inl rfl | exact Or.inr (Or.inl rfl) | exact Or.inr (Or.inr rfl)) (hd : (x == ("__debug__" : Str)) = false := by decide)
    (hcd : (x == ("__classdict__" : Str)) = false := by decide) : PE X (.Name x pos) (lift G (fV i)) := de_var i (o.ix hN) (by rw [o.sc]; exact hv) hd hcd
theorem x_gint (o : Here G X N sc) {x : Str} {i : Int} (hm : ∃ t, G.mg x = some (.int i t)) (hg : sc.names.lookup x = some .globalImplicit := by rfl) (hd : (x == ("__debug__" : Str)) = false := by decide) : PE X (.Name x pos) (lift G (fC (.int i))) :=
  let ⟨_, hm⟩ := hm; de_gint (o.gl hg) (by rw [o.on.mg]; exact hm) hd
theorem x_ty (o : Here G X N sc) {T : String} {x : Str} (hm : G.mg x = none) (hv : bootBuiltins x = some (.type T)) (hg : sc.names.lookup x = some .globalImplicit := by rfl) (hn : x ≠ "__name__" := by decide) (hd : (x == ("__debug__" : Str)) = false := by decide) : PE X (.Name x pos) (lift G (fC (.ty T))) :=
  de_ty o.on (o.gl hg) hm hv hn hd
theorem x_add (o : Here G X N sc) (ha : PE X a (lift G fa)) (hb : PE X b (lift G fb)) : PE X (.BinOp a .Add b pos) (lift G (fOp addD fa fb)) := de_op (do_add o.on) ha hb
theorem x_sub (o : Here G X N sc) (ha : PE X a (lift G fa)) (hb : PE X b (lift G fb)) : PE X (.BinOp a .Sub b pos) (lift G (fOp subD fa fb)) := de_op do_sub ha hb
theorem x_mul (o : Here G X N sc) (ha : PE X a (lift G fa)) (hb : PE X b (lift G fb)) : PE X (.BinOp a .Mult b pos) (lift G (fOp mulD fa fb)) := de_op do_mul ha hb
theorem x_fdiv (o : Here G X N sc) (ha : PE X a (lift G fa)) (hb : PE X b (lift G fb)) : PE X (.BinOp a .FloorDiv b pos) (lift G (fOp fdivD fa fb)) := de_op do_fdiv ha hb
theorem x_mod (o : Here G X N sc) (ha : PE X a (lift G fa)) (hb : PE X b (lift G fb)) : PE X (.BinOp a .Mod b pos) (lift G (fOp modD fa fb)) := de_op do_mod ha hb
theorem x_pow (o : Here G X N sc) (ha : PE X a (lift G fa)) (hb : PE X b (lift G fb)) : PE X (.BinOp a .Pow b pos) (lift G (fOp powD fa fb)) := de_op do_pow ha hb
theorem x_ix (o : Here G X N sc) (ha : PE X a (lift G fa)) (hb : PE X b (lift G fb)) (hs : PlainIx b := by exact fun _ _ => rfl) : PE X (.Subscript a b pos) (lift G (fOp ixD fa fb)) := de_ix (do_ix o.on) ha hb hs
theorem x_slice (o : Here G X N sc) {lo hi : Option Expr} {p2 : Pos} {fl fu : FO} (he : PE X e (lift G fa)) (hl : PO X lo (liftO G fl)) (hu : PO X hi (liftO G fu)) : PE X (.Subscript e (.Slice lo hi none p2) pos) (lift G (fSl fa fl fu)) := de_slice o.on he hl hu
/-- built-in functions by their names -/
theorem x_bi (o : Here G X N sc) {id : String} {x : Str} {p : Pos} {h : HA} (hc : CallR X (.builtin id) (rDA G h)) (hm : G.mg x = none) (hv : bootBuiltins x = some (.builtin id)) (ha : PA X (e :: es) (liftA G fr)) (hg : sc.names.lookup x = some .globalImplicit := by rfl)
    (hn : x ≠ "__name__" := by decide) (hdb : (x == ("__debug__" : Str)) = false := by decide)
    (he : starEach (e :: es) X.env = (false, eval e X.env) :: starEach es X.env := by rfl) (hpl : (backTo pos (starEach es X.env)).any (·.1) = false := by rfl) : PE X (.Call (.Name x p) (e :: es) [] pos) (lift G (fCall h fr)) := de_callB o.on hc (o.gl hg) hm hv ha hn hdb he hpl
theorem x_bt (o : Here G X N sc) {T : String} {x : Str} {p : Pos} {h : HA} (hc : CallR X (.type T) (rDA G h)) (hm : G.mg x = none) (hv : bootBuiltins x = some (.type T)) (ha : PA X (e :: es) (liftA G fr)) (hg : sc.names.lookup x = some .globalImplicit := by rfl)
    (hn : x ≠ "__name__" := by decide) (hdb : (x == ("__debug__" : Str)) = false := by decide)
    (he : starEach (e :: es) X.env = (false, eval e X.env) :: starEach es X.env := by rfl) (hpl : (backTo pos (starEach es X.env)).any (·.1) = false := by rfl) : PE X (.Call (.Name x p) (e :: es) [] pos) (lift G (fCall h fr)) := de_callTy o.on hc (o.gl hg) hm hv ha hn hdb he hpl
theorem x_call (o : Here G X N sc) {k n : Nat} {x : Str} {fn : HA} {p : Pos} (F : Def G k x n fn) (hr : Room k X.A) (ha : PA X (e :: es) (liftA G fr)) (hg : sc.names.lookup x = some .globalImplicit := by rfl) (hdb : (x == ("__debug__" : Str)) = false := by decide)
    (he : starEach (e :: es) X.env = (false, eval e X.env) :: starEach es X.env := by rfl) (hpl : (backTo pos (starEach es X.env)).any (·.1) = false := by rfl) : PE X (.Call (.Name x p) (e :: es) [] pos) (lift G (fFn n fn fr)) := de_call o.on F hr (o.gl hg) ha hdb he hpl
theorem x_set (o : Here G X N sc) (i : Nat) {x : Str} {pos' : Pos} (he : PE X e (lift G fa)) (hi : N[i]? = some x := by rfl) (hx : Loc sc x := by first | exact Or.inl rfl | exact Or.inr rfl) (hs : swapsWith e (some (.Name x pos')) pos.line X.env = pure false := by rfl)
    (hf : X.fn x = true ∨ X.env.scope.names.lookup x = some .local := by first | exact .inl rfl | exact .inr rfl | assumption) : PS X (.Assign [.Name x pos'] e pos) (liftS G W (sSet i fa)) := ds_set o.ndX (o.ix hi) (by rw [o.sc]; exact hx) he hs hf
theorem x_tg1 (o : Here G X N sc) (i : Nat) {x : Str} (hi : N[i]? = some x := by rfl) (hx : Loc sc x := by first | exact Or.inl rfl | exact Or.inr rfl) (hf : X.fn x = true ∨ sc.names.lookup x = some .local := by first | exact .inr rfl | exact .inl rfl) : PG X (.Name x pos) (gOf G.K (.one i)) :=
  dg_name o.ndX (o.ix hi) (by rw [o.sc]; exact hx) (by rw [o.sc]; exact hf)
theorem x_tgs (o : Here G X N sc) (i : Nat) {is : List Nat} {x : Str} (h2 : PGs X es (gMany is)) (hi : N[i]? = some x := by rfl) (hx : Loc sc x := by first | exact Or.inl rfl | exact Or.inr rfl) (hf : X.fn x = true ∨ sc.names.lookup x = some .local := by first | exact .inr rfl | exact .inl rfl)
    (ha : (assignEach (.Name x pos :: es) X.env).map (·.2) = assign (.Name x pos) X.env :: (assignEach es X.env).map (·.2) := by rfl) : PGs X (.Name x pos :: es) (gMany (i :: is)) := dgs_cons o.ndX (o.ix hi) (by rw [o.sc]; exact hx) h2 (by rw [o.sc]; exact hf) ha
theorem x_tgm (o : Here G X N sc) {k : Nat} {is : List Nat} (h : PGs X es (gMany is)) (hn : (assignEach es X.env).length = is.length := by rfl) (hst : (assignEach es X.env).findIdx? (·.1) = none := by rfl) : PG X (.Tuple es k pos) (gOf G.K (.many is)) := dg_tup o.on h hn hst
theorem x_par2 (o : Here G X N sc) (i j : Nat) {x y : Str} {px py pt : Pos} {kt k2 : Nat} {pt2 : Pos} (ha : PA X [a, b] (liftA G fr)) (hi : N[i]? = some x := by rfl) (hj : N[j]? = some y := by rfl) (hij : i ≠ j := by decide)
    (hx : sc.names.lookup x = some .local := by rfl) (hy : sc.names.lookup y = some .local := by rfl)
    (hw : swappedStores [.Tuple [.Name x px, .Name y py] kt pt] (.Tuple [a, b] k2 pt2) X.env = pure (some [x, y]) := by rfl)
    (hs : swapsWithSole [.Tuple [.Name x px, .Name y py] kt pt] (.Tuple [a, b] k2 pt2) pos.line X.env = pure false := by rfl) :
    PS X (.Assign [.Tuple [.Name x px, .Name y py] kt pt] (.Tuple [a, b] k2 pt2) pos) (liftS G W (sPar [i, j] fr)) := ds_par2 o.on o.ndX (o.ix hi) (o.ix hj) hij (by rw [o.sc]; exact hx) (by rw [o.sc]; exact hy) ha hw hs
variable {fi : FI} {iter : Expr} {tg : Tg} {body : List Stmt} {sb : FS}
theorem x_for (o : Here G X N sc) (hi : PI X tgt iter (liftI G fi)) (hg : PG X tgt (gOf G.K tg)) (hb : PSs X body (liftS G W sb)) (hp : PassesOwn (model X.prog X.w) X.A X.env X.xe := by exact PassesOwn.never)
    (hs : ∀ x, foldedSetIterable iter X.env x = pure x := by intro _; rfl) : PS X (.For tgt iter body [] pos) (liftS G W (sFor fi tg sb)) := ds_for hp o.on hi hg hb hs
theorem x_in (o : Here G X N sc) (h : PE X e (lift G fa)) : PI X tgt e (liftI G (iSeq fa)) := di_seq o.on h
theorem x_rng1 (o : Here G X N sc) {p : Pos} (hm : G.mg "range" = none) (ha : PA X [a] (liftA G fr)) (hg : sc.names.lookup ("range" : Str) = some NameKind.globalImplicit := by rfl) (hs : starEach [a] X.env = [(false, eval a X.env)] := by rfl) : PI X tgt (.Call (.Name "range" p) [a] [] pos) (liftI G (iRange1 fr)) := di_range1 (o.gl hg) (by rw [o.on.mg]; exact hm) ha hs
theorem x_rng2 (o : Here G X N sc) {p : Pos} (hm : G.mg "range" = none) (ha : PA X [a, b] (liftA G fr)) (hg : sc.names.lookup ("range" : Str) = some NameKind.globalImplicit := by rfl) (hs : starEach [a, b] X.env = [(false, eval a X.env), (false, eval b X.env)] := by rfl) (hs2 : starEach [b] X.env = [(false, eval b X.env)] := by rfl) :
    PI X tgt (.Call (.Name "range" p) [a, b] [] pos) (liftI G (iRange2 fr)) := di_range2 (o.gl hg) (by rw [o.on.mg]; exact hm) ha hs hs2
theorem x_zip2 (o : Here G X N sc) {e2 : Expr} {p tpos : Pos} {elts : List Expr} {kk : Nat} (hm : G.mg "zip" = none) (ha : PA X [e, e2] (liftA G fr)) (hg : sc.names.lookup ("zip" : Str) = some NameKind.globalImplicit := by rfl)
    (hs : starEach [e, e2] X.env = (false, eval e X.env) :: starEach [e2] X.env := by rfl) (hpl : (backTo pos (starEach [e2] X.env)).any (·.1) = false := by rfl) : PI X (.Tuple elts kk tpos) (.Call (.Name "zip" p) [e, e2] [] pos) (liftI G (iZip2 fr)) := di_zip2 o.on (o.gl hg) hm ha hs hpl
theorem x_enum (o : Here G X N sc) {p tpos : Pos} {elts : List Expr} {kk : Nat} (hm : G.mg "enumerate" = none) (ha : PA X [e] (liftA G fr)) (hg : sc.names.lookup ("enumerate" : Str) = some NameKind.globalImplicit := by rfl)
    (hs : starEach [e] X.env = [(false, eval e X.env)] := by rfl) : PI X (.Tuple elts kk tpos) (.Call (.Name "enumerate" p) [e] [] pos) (liftI G (iEnum fr)) := di_enum o.on (o.gl hg) hm ha hs
def reS (scope sc : Scope) : Scope := { scope with names := scope.names.map fun (n, k) => if (k == NameKind.free && sc.kind == .function && sc.names.lookup n == some .cell) then (n, NameKind.cell) else (n, k) }
theorem Here.blk (o : Here G X N sc) {s : Shared} {H : Hp} {scope : Scope} {cl : List (Str × Addr)} {C : Addr} {fp : List Addr} : Here G (X.blk s H scope (compEnvC scope cl C X.env) fp) N (reS scope sc) := ⟨o.on.blk, o.N, by rw [← o.sc]; rfl, o.nd⟩
theorem x_setLc (o : Here G X N sc) (i : Nat) {y : Str} {py spos : Pos} {elt : Expr} {ifs : List Expr} {scope : Scope} (own : List (Str × Nat)) {tt : FT} {fe : FE} (hi : PI X tgt iter (liftI G fi))
    (hg : ∀ X', Here G X' N (reS scope sc) → X'.A = X.A → PG X' tgt (gOf G.K tg)) (ht : ∀ X', Here G X' N (reS scope sc) → X'.A = X.A → PTs X' ifs (liftT G tt)) (he : ∀ X', Here G X' N (reS scope sc) → X'.A = X.A → PE X' elt (lift G fe))
    (hsw : swapsWith (.ListComp elt [⟨tgt, iter, ifs, 0⟩] scope pos) (some (.Name y py)) spos.line X.env = pure true := by exact sw_true rfl rfl rfl (by decide +kernel))
    (hy : N[i]? = some y := by rfl) (hyl : sc.names.lookup y = some .local := by rfl)
    (ok : BlkOk N sc scope own := by exact blkOk_by (by decide +kernel)) (hin : ∀ i ∈ tg.ins, i ∈ own.map (·.2) := by decide) (hs : ∀ x, foldedSetIterable iter X.env x = pure x := by intro _; rfl) :
    PS X (.Assign [.Name y py] (.ListComp elt [⟨tgt, iter, ifs, 0⟩] scope pos) spos) (liftS G W (sSet i (fLc fi tg tt fe (own.map (·.2))))) :=
  ds_setLc o.on o.ndX (o.ix hy) (by rw [o.sc]; exact hyl) hsw hi (by rw [o.N, o.sc]; exact ok) (fun _ _ _ _ _ => hg _ o.blk rfl) (fun _ _ _ _ _ => ht _ o.blk rfl) (fun _ _ _ _ _ => he _ o.blk rfl) hin hs
theorem x_lcZ (o : Here G X N sc) {elt : Expr} {ifs : List Expr} {scope : Scope} (own : List (Str × Nat)) {tt : FT} {fe : FE} (hi : PI X tgt iter (liftI G fi))
    (hg : ∀ X', Here G X' N (reS scope sc) → X'.A = X.A → PG X' tgt (gOf G.K tg)) (ht : ∀ X', Here G X' N (reS scope sc) → X'.A = X.A → PTs X' ifs (liftT G tt)) (he : ∀ X', Here G X' N (reS scope sc) → X'.A = X.A → PE X' elt (lift G fe))
    (ok : BlkOk N sc scope own := by exact blkOk_by (by decide +kernel)) (hin : ∀ i ∈ tg.ins, i ∈ own.map (·.2) := by decide) (hs : ∀ x, foldedSetIterable iter X.env x = pure x := by intro _; rfl) :
    PE X (.ListComp elt [⟨tgt, iter, ifs, 0⟩] scope pos) (lift G (fLcZ fi tg tt fe (own.map (·.2)))) :=
  de_lcZ o.on o.ndX hi (by rw [o.N, o.sc]; exact ok) (fun _ _ _ _ _ => hg _ o.blk rfl) (fun _ _ _ _ _ => ht _ o.blk rfl) (fun _ _ _ _ _ => he _ o.blk rfl) hin hs
theorem x_setLcZ (o : Here G X N sc) (i : Nat) {y : Str} {py spos : Pos} {elt : Expr} {ifs : List Expr} {scope : Scope} (own : List (Str × Nat)) {tt : FT} {fe : FE} (hi : PI X tgt iter (liftI G fi))
    (hg : ∀ X', Here G X' N (reS scope sc) → X'.A = X.A → PG X' tgt (gOf G.K tg)) (ht : ∀ X', Here G X' N (reS scope sc) → X'.A = X.A → PTs X' ifs (liftT G tt)) (he : ∀ X', Here G X' N (reS scope sc) → X'.A = X.A → PE X' elt (lift G fe))
    (hsw : swapsWith (.ListComp elt [⟨tgt, iter, ifs, 0⟩] scope pos) (some (.Name y py)) spos.line X.env = pure true := by exact sw_true rfl rfl rfl (by decide +kernel))
    (hy : N[i]? = some y := by rfl) (hyl : sc.names.lookup y = some .local := by rfl)
    (ok : BlkOk N sc scope own := by exact blkOk_by (by decide +kernel)) (hin : ∀ i ∈ tg.ins, i ∈ own.map (·.2) := by decide) (hs : ∀ x, foldedSetIterable iter X.env x = pure x := by intro _; rfl) :
    PS X (.Assign [.Name y py] (.ListComp elt [⟨tgt, iter, ifs, 0⟩] scope pos) spos) (liftS G W (sSet i (fLcZ fi tg tt fe (own.map (·.2))))) :=
  ds_setLcZ o.on o.ndX (o.ix hy) (by rw [o.sc]; exact hyl) hsw hi (by rw [o.N, o.sc]; exact ok) (fun _ _ _ _ _ => hg _ o.blk rfl) (fun _ _ _ _ _ => ht _ o.blk rfl) (fun _ _ _ _ _ => he _ o.blk rfl) hin hs
theorem x_all (o : Here G X N sc) {cc P : Addr} {elt : Expr} {p gpos : Pos} {scope : Scope} {fe : FE} {k : Nat} (N' : List Str) (cap : List (Option Nat)) (hP : P ∈ G.Ps)
    (hr : Room (k + 1) X.A) (hm : G.mg "all" = none) (TB : TabB G.base G.mg cc P) (hcode : X.env.code = .ref cc) (hi : PI X tgt iter (liftI G fi))
    (hgt : ∀ X', Here G X' N' scope → Room k X'.A → PG X' tgt (gOf G.K tg)) (hel : ∀ X', Here G X' N' scope → Room k X'.A → PE X' elt (lift G fe))
    (S : GSc X.env scope) (hnd : N'.Nodup := by decide) (hcl : cap.length = N'.length := by rfl)
    (hcap : ∀ (i : Nat) (x : Str) (j : Nat), N'[i]? = some x → cap[i]? = some (some j) → scope.names.lookup x = some .free ∧ N[j]? = some x ∧ (sc.names.lookup x = some .cell ∨ sc.names.lookup x = some .free))
    (hg : sc.names.lookup ("all" : Str) = some NameKind.globalImplicit := by rfl)
    (hs : ∀ v, genFold iter X.env v = pure v := by intro _; rfl)
    (he : starEach [.GeneratorExp elt [⟨tgt, iter, [], 0⟩] scope gpos] X.env = (false, eval (.GeneratorExp elt [⟨tgt, iter, [], 0⟩] scope gpos) X.env) :: starEach [] X.env := by rfl) :
    PE X (.Call (.Name "all" p) [.GeneratorExp elt [⟨tgt, iter, [], 0⟩] scope gpos] [] pos) (lift G (fAllG fi tg fe cap)) :=
  de_all o.on hP hr (o.gl hg) hm TB hcode S hi hcl (fun i x j h1 h2 => by
    obtain ⟨q1, q2, q3⟩ := hcap i x j h1 h2
    refine ⟨q1, o.ix q2, ?_⟩
    show X.env.scope.names.lookup x = _ ∨ X.env.scope.names.lookup x = _
    rw [o.sc]; exact q3) (fun X' h => hgt X' ⟨o.on.inner h, h.N, h.scope, hnd⟩ h.room) (fun X' h => hel X' ⟨o.on.inner h, h.N, h.scope, hnd⟩ h.room) hs he
end
end EL
namespace EL
open PySem PySem.Spec PyProof.Rows L2 GxR LG
/-- a def of the text as the top has left it -/
structure FnAt (G : G0) (name : Str) (st : Stmt) (cdv : Value) : Prop where
  ex : ∃ (f : Addr) (oc : Value) (od : Option Addr) (kV doc pm : Value) (an : Option Addr) (ct : Value) (osl : Array (Option Value)),
    G.K.lookup f = some ⟨oc, od, .func (PySem.W.fnOf name name (defArgs st) (defBody st) (defScope st) .none kV doc pm an cdv ct), osl⟩ ∧ PySem.W.codeIn G.K cdv name = true ∧ G.mg name = some (.ref f) ∧ PySem.W.keepIn G.K (.ref f) = true
section
variable {G : G0}
theorem def_at {k : Nat} {name : Str} {st : Stmt} {cdv : Value} {N ps : List Str} {sb : FS} (F : FnAt G name st cdv) (S : FnScope N ps (defScope st))
    (hb : ∀ (kV doc pm : Value) (an : Option Addr) (ct : Value) (us : List Value), us.length = ps.length → bindArgs (PySem.W.fnOf name name (defArgs st) (defBody st) (defScope st) .none kV doc pm an cdv ct) ⟨us, []⟩ = pure (ps.zip us))
    (hbody : ∀ (f : Addr) (A : Around) (outer : List Env) (s : Shared) (H : Hp), Here G (bodyCx G N name (defScope st) f cdv A outer s H) N (defScope st) → Room k (bodyCx G N name (defScope st) f cdv A outer s H).A →
      (∀ x : Str, (defScope st).names.lookup x = some .cell → ∃ c, (bodyCx G N name (defScope st) f cdv A outer s H).env.cells.lookup x = some c) → PSs (bodyCx G N name (defScope st) f cdv A outer s H) (defBody st) (liftS G W sb)) : Def G (k + 1) name ps.length (runD N.length sb) := by
  obtain ⟨f, oc, od, kV, doc, pm, an, ct, osl, lk, hcd, hm, hk⟩ := F.ex
  refine def_of (W := W) lk hcd S hm hk (hb kV doc pm an ct) fun A outer s H hr => ?_
  exact hbody f A outer s H ⟨On.body, rfl, rfl, S.nd⟩ hr fun x h => cell_has h
theorem gsc_by {X : Cx} {N : List Str} {sc scope : Scope} (o : Here G X N sc) (hc : ∀ x : Str, sc.names.lookup x = some .cell → ∃ c, X.env.cells.lookup x = some c)
    (h : ((scope.kind == .function) && !scope.isCoroutine && scope.names.all (fun y => y.2 != .cell) && (scope.names.lookup (".0" : Str) == some NameKind.local) && scope.names.all fun y => y.2 != .free || (sc.names.lookup y.1 == some .cell)) = true) : GSc X.env scope := by
  simp only [Bool.and_eq_true, List.all_eq_true] at h
  obtain ⟨⟨⟨⟨h1, h2⟩, h3⟩, h4⟩, h5⟩ := h
  refine ⟨eq_of_beq h1, by simpa using h2, fun y hy => by simpa using h3 y hy, eq_of_beq h4, fun y hy e => ?_⟩
  have q := h5 y hy
  rw [e] at q
  have q2 : (sc.names.lookup y.1 == some NameKind.cell) = true := by simpa using q
  exact hc y.1 (eq_of_beq q2)
end
end EL
namespace EL
open PySem PySem.Spec PyProof.Rows L2 GxR LG
end EL
namespace EL
open PySem PySem.Spec PyProof.Rows L2 GxR LG
theorem fn_at {G : G0} {k : Nat} {f : Addr} {name : Str} {st : Stmt} {kV doc pm cdv ct oc : Value} {an od : Option Addr} {osl : Array (Option Value)} {N ps : List Str} {sb : FS}
    (lk : G.K.lookup f = some ⟨oc, od, .func (PySem.W.fnOf name name (defArgs st) (defBody st) (defScope st) .none kV doc pm an cdv ct), osl⟩) (hcd : PySem.W.codeIn G.K cdv name = true) (S : FnScope N ps (defScope st))
    (hbody : ∀ (f : Addr) (A : Around) (outer : List Env) (s : Shared) (H : Hp), Here G (bodyCx G N name (defScope st) f cdv A outer s H) N (defScope st) → Room k (bodyCx G N name (defScope st) f cdv A outer s H).A →
      (∀ x : Str, (defScope st).names.lookup x = some .cell → ∃ c, (bodyCx G N name (defScope st) f cdv A outer s H).env.cells.lookup x = some c) → PSs (bodyCx G N name (defScope st) f cdv A outer s H) (defBody st) (liftS G W sb)) :
    FnOk G.P G.w G.K G.mg G.base CX0 (k + 1) f (PySem.W.fnOf name name (defArgs st) (defBody st) (defScope st) .none kV doc pm an cdv ct) ps (spD G ps.length (runD N.length sb)) :=
  fn_data lk hcd S fun A outer s H hr => hbody f A outer s H ⟨On.body, rfl, rfl, S.nd⟩ hr fun x h => cell_has h
end EL
set_option Elab.async false
set_option linter.all false
set_option maxRecDepth 100000
set_option maxHeartbeats 1000000
namespace EL
open PySem PySem.Spec PyProof.Rows L2 GxR LG
section
variable {G : G0} {W : WX} {X : Cx} {pos : Pos} {a b e : Expr} {fa fb : FE}
def sNever : FS := fun _ _ => none
theorem ds_never {s : Stmt} : PS X s (liftS G W sNever) := ⟨fun pins s σ H E I q => by
  obtain ⟨ρ, μ, st, fl, ρ', st', _, _, e, _⟩ := q
  cases e⟩
def noneB : D → Bool
  | .non => true
  | _ => false
def isW (neg : Bool) : D → D → Sto → Option (D × Sto) := fun c d st => match d with
  | .non => some (.bl (if neg = true then !noneB c else noneB c), st)
  | _ => none
theorem rep_none {μ : Mu} {H : Hp} {c : D} {x : V} (R : Rep G μ H c x) : decide (x = .non) = noneB c := by
  cases R <;> simp [noneB]
theorem do_is : OpR X (compareOp .Is) (rD G (isW false)) := OpR.imp op_isN fun x y H Q ⟨μ, st, c, d, z, st', S, Rc, Rd, e, k⟩ => by
  unfold isW at e
  split at e
  · cases e; cases Rd
    refine ⟨rfl, ?_⟩
    rw [rep_none Rc]
    exact k μ H _ .refl S (.bl _)
  · cases e
theorem do_isnot : OpR X (compareOp .IsNot) (rD G (isW true)) := OpR.imp op_notN fun x y H Q ⟨μ, st, c, d, z, st', S, Rc, Rd, e, k⟩ => by
  unfold isW at e
  split at e
  · cases e; cases Rd
    refine ⟨rfl, ?_⟩
    rw [rep_none Rc]
    exact k μ H _ .refl S (.bl _)
  · cases e
end
end EL
set_option Elab.async false
set_option linter.all false
set_option maxRecDepth 100000
set_option maxHeartbeats 1000000
namespace EL
open PySem PySem.Spec PyProof.Rows L2 GxR LG
section
variable {G : G0} {W : WX} {X : Cx} {pos : Pos} {c : Expr} {body : List Stmt} {ta : FT} {sb : FS}
def intsD : List D → Option (List Int)
  | [] => some []
  | .int x :: r => (intsD r).map (x :: ·)
  | _ :: _ => none
theorem intsD_eq : ∀ {ds : List D} {xs : List Int}, intsD ds = some xs → ds = xs.map D.int
  | [], xs, h => by cases h; rfl
  | d :: ds, xs, h => by
    cases d with
    | int x =>
      simp only [intsD] at h
      obtain ⟨ys, h1, rfl⟩ := Option.map_eq_some_iff.mp h
      rw [intsD_eq h1]; rfl
    | _ => cases h
theorem ints_of_reps {μ : Mu} {H : Hp} : ∀ {xs : List Int} {vs : List V}, Reps G μ H (xs.map D.int) vs → vs = xs.map V.int
  | [], _, .nil => rfl
  | x :: xs, _, .cons h t => by cases h; rw [ints_of_reps t]; rfl
def sumD : HA
  | [c], st => (listOf c st).bind fun ds => (intsD ds).map fun ns => (.int ns.sum, st)
  | _, _ => none
theorem dc_sum (o : On G X) : CallR X (.builtin "sum") (rDA G sumD) := CallR.imp (cr_sum o.calm) fun xs H Q ⟨μ, st, ds, z, st', S, R, e, k⟩ => by
  unfold sumD at e
  split at e
  · obtain ⟨ds, e0, e⟩ := Option.bind_eq_some_iff.mp e
    obtain ⟨ns, e1, e2⟩ := Option.map_eq_some_iff.mp e
    cases e2
    cases R with
    | cons r t =>
      cases t
      obtain ⟨a, vs, rfl, h1, h2⟩ := list_rep S r e0
      have h3 := intsD_eq e1
      subst h3
      have h4 := ints_of_reps h2
      subst h4
      exact ⟨_, ns, rfl, by rw [o.K]; exact h1, k μ H _ .refl S (.int _)⟩
  · cases e
end
end EL
set_option Elab.async false
set_option linter.all false
set_option maxRecDepth 100000
set_option maxHeartbeats 4000000
namespace LG
open PySem PySem.Spec PyProof.Rows L2 GenW GxR NdefX
end LG
set_option Elab.async false
set_option linter.all false
set_option maxRecDepth 100000
set_option maxHeartbeats 1000000
namespace EL
open PySem PySem.Spec PyProof.Rows L2 GxR LG RZ
end EL
set_option Elab.async false
set_option linter.all false
set_option maxRecDepth 100000
set_option maxHeartbeats 1000000
namespace ZN
open PySem PySem.Spec PyProof.Rows L2
open AutoSeq1 (wpAny_loadPart')
theorem mul_zero (l : Addr) (u : Array Value) (n : Nat) (dd : Option Addr) (sl : Array (Option Value)) (t : Tok) (hu : u.isEmpty = false) :
    Meets (Builtin.«tuple.__mul__» ⟨[.ref l, .int 0 t], []⟩) (fun _ R s => s.heap.get? l = some { cls := .type "tuple", dict := dd, data := .seq u n, slots := sl } ∧
      R (.ok (.ret (.ref s.heap.objs.size))) { s with heap := s.heap.push { cls := Value.type "tuple", data := Data.seq #[] } }) :=
  .of_wp fun prog w A R s h => by
    obtain ⟨hp, g, d, tk, os⟩ := s
    obtain ⟨hl, h⟩ := h
    have f1 := AutoSeq1.idx_int
    have c1 : (u.isEmpty || (0 : Int) == 1) = false := by simp [hu]
    have c2 : (decide ((0 : Int) ≤ 0) || u.isEmpty) = true := by simp
    wp_walk using wpAny_loadPart' hl
    repeat (first
      | (refine wpAny_ite_false (decide_eq_false (by rw [c1]; exact Bool.false_ne_true)) ?_; wp_walk using wpAny_loadPart' hl)
      | (refine wpAny_ite_true (decide_eq_true c2) ?_; wp_walk using wpAny_loadPart' hl)
      | (refine wpAny_ite_false (decide_eq_false (by decide)) ?_; wp_walk using wpAny_loadPart' hl))
    exact ⟨_, rfl, h⟩
end ZN
namespace EL
open PySem PySem.Spec PyProof.Rows L2 GxR LG ZN
section
variable {G : G0} {W : WX} {X : Cx} {pos : Pos} {a b e : Expr} {es : List Expr} {fa fb fo : FE} {fr : FA}
def fStar (fa : FE) (fr : FA) : FA := fun ρ st => (fa ρ st).bind fun p => (seqD p.1 p.2).bind fun xs => (fr ρ p.2).bind fun q => some (xs ++ q.1, q.2)
theorem da_star {p : Pos} (o : On G X) (ha : PE X e (lift G fa)) (hr : PA X es (liftA G fr)) (hs : starEach (.Starred e p :: es) X.env = (true, eval e X.env) :: starEach es X.env := by rfl) : PA X (.Starred e p :: es) (liftA G (fStar fa fr)) :=
  PA.imp (StX.pa_star ha hr hs) fun σ H Q ⟨ρ, μ, st, d, st', E, S, e, k⟩ => by
    unfold fStar at e
    obtain ⟨p, e1, e⟩ := Option.bind_eq_some_iff.mp e
    obtain ⟨xs, e2, e⟩ := Option.bind_eq_some_iff.mp e
    obtain ⟨q, e3, e⟩ := Option.bind_eq_some_iff.mp e
    cases e
    refine ⟨ρ, μ, st, p.1, p.2, E, S, e1, fun μ1 H1 v X1 S1 R1 => ?_⟩
    obtain ⟨a, vs, rfl, h1, h2⟩ := seq_rep S1 R1 e2
    exact ⟨a, vs, rfl, by rw [o.K]; exact h1.symm, ρ, μ1, p.2, q.1, q.2, E.ext X1, S1, e3, fun μ2 H2 ws X2 S2 R2 => k μ2 H2 _ (X1.trans X2) S2 ((h2.ext X2).append R2)⟩
def isB (neg : Bool) : D → D → Sto → Option (D × Sto) := fun c d st => match c, d with
  | .bl x, .bl y => some (.bl (nB neg (decide (x = y))), st)
  | c, .non => some (.bl (nB neg (noneB c)), st)
  | _, _ => none
theorem do_isB : OpR X (compareOp .Is) (rD G (isB false)) := OpR.imp ((do_is (G := G)).or op_isBl) fun x y H Q ⟨μ, st, c, d, z, st', S, Rc, Rd, e, k⟩ => by
  unfold isB at e
  split at e
  · cases e; cases Rc; cases Rd
    exact .inr ⟨_, _, rfl, rfl, k μ H _ .refl S (.bl _)⟩
  · exact .inl ⟨μ, st, _, _, z, st', S, Rc, Rd, e, k⟩
  · cases e
theorem do_isnB : OpR X (compareOp .IsNot) (rD G (isB true)) := OpR.imp ((do_isnot (G := G)).or op_notBl) fun x y H Q ⟨μ, st, c, d, z, st', S, Rc, Rd, e, k⟩ => by
  unfold isB at e
  split at e
  · cases e; cases Rc; cases Rd
    exact .inr ⟨_, _, rfl, rfl, k μ H _ .refl S (.bl _)⟩
  · exact .inl ⟨μ, st, _, _, z, st', S, Rc, Rd, e, k⟩
  · cases e
end
end EL
set_option Elab.async false
set_option linter.all false
set_option maxRecDepth 100000
set_option maxHeartbeats 1000000
namespace EL
open PySem PySem.Spec PyProof.Rows L2 GxR LG ZN
section
variable {G : G0} {W : WX} {X : Cx} {pos : Pos} {a b e : Expr} {es : List Expr} {fa fb fo : FE} {fr : FA}
theorem opR_ip {op : Operator} {r : R2} (h : OpR X (inplaceOp op) r) : PIp X op r := fun pins s σ H x y v u Q I rx ry q => h pins s σ H x y v u Q I rx ry q
def imulD := intOp fun i j => if (-(2 ^ 64) < i ∧ i < 2 ^ 64) ∨ (-(2 ^ 64) < j ∧ j < 2 ^ 64) then some (.int (i * j)) else none
theorem rD_int {f : Int → Int → Option D} {x y : V} {H : Hp} {Q : VK} (q : rD G (intOp f) x y H Q) : ∃ i j z, x = .int i ∧ y = .int j ∧ f i j = some z ∧ ∃ μ st, StR G μ st H ∧ After G μ H z st Q := by
  obtain ⟨μ, st, c, d, z, st', S, Rc, Rd, e, k⟩ := q
  unfold intOp at e
  split at e
  · obtain ⟨w, e1, e2⟩ := Option.map_eq_some_iff.mp e
    cases e2; cases Rc; cases Rd
    exact ⟨_, _, _, rfl, rfl, e1, μ, _, S, k⟩
  · cases e
theorem dip_mul : PIp X .Mult (rD G imulD) := opR_ip (OpR.imp iop_mul fun x y H Q q => by
  obtain ⟨i, j, z, rfl, rfl, e, μ, st, S, k⟩ := rD_int q
  split at e
  · rename_i h
    cases e
    exact ⟨i, j, rfl, rfl, h, k μ H _ .refl S (.int _)⟩
  · cases e)
def sAug (i : Nat) (h : D → D → Sto → Option (D × Sto)) (fa : FE) : FS := fun ρ st => match ρ[i]? with
  | some (some x) => (fa ρ st).bind fun p => (h x p.1 p.2).bind fun z => some (.nx, ρ.set i (some z.1), z.2)
  | _ => none
theorem ds_aug {i : Nat} {x : Str} {op : Operator} {h : D → D → Sto → Option (D × Sto)} {pos' : Pos} (hN : X.N.Nodup) (hi : X.N[i]? = some x) (hx : Loc X.env.scope x) (he : PE X e (lift G fa)) (ho : PIp X op (rD G h))
    (hf : X.fn x = true ∨ X.env.scope.names.lookup x = some .local := by first | exact .inl rfl | exact .inr rfl | assumption) : PS X (.AugAssign (.Name x pos') op e pos) (liftS G W (sAug i h fa)) :=
  PS.imp (ps_aug hN hi hx he ho hf) fun D0 σ H ⟨ρ, μ, st, fl, ρ', st', E, S, e, k⟩ => by
    unfold sAug at e
    split at e
    · rename_i xd hxd
      obtain ⟨p, e1, e⟩ := Option.bind_eq_some_iff.mp e
      obtain ⟨z, e2, e⟩ := Option.bind_eq_some_iff.mp e
      cases e
      obtain ⟨v, hv, Rv⟩ := E.get i xd hxd
      refine ⟨v, hv, ρ, μ, st, p.1, p.2, E, S, e1, fun μ1 H1 w X1 S1 R1 => ⟨μ1, p.2, xd, p.1, z.1, z.2, S1, Rv.ext X1, R1, e2, fun μ2 H2 u X2 S2 R2 => ?_⟩⟩
      exact k μ2 H2 (X1.trans X2) S2 _ ((E.ext (X1.trans X2)).set R2)
    · cases e
theorem Reps.erase {μ : Mu} {H : Hp} : ∀ {ds : List D} {vs : List V} (i : Nat), Reps G μ H ds vs → Reps G μ H (ds.eraseIdx i) (vs.eraseIdx i)
  | _, _, _, .nil => .nil
  | _, _, 0, .cons _ t => t
  | _, _, i + 1, .cons h t => .cons h (Reps.erase i t)
variable {N : List Str} {sc : Scope}
theorem x_aug (o : Here G X N sc) (i : Nat) {x : Str} {op : Operator} {h : D → D → Sto → Option (D × Sto)} {pos' : Pos} (he : PE X e (lift G fa)) (ho : PIp X op (rD G h)) (hi : N[i]? = some x := by rfl) (hx : Loc sc x := by first | exact Or.inl rfl | exact Or.inr rfl)
    (hf : X.fn x = true ∨ X.env.scope.names.lookup x = some .local := by first | exact .inl rfl | exact .inr rfl | assumption) : PS X (.AugAssign (.Name x pos') op e pos) (liftS G W (sAug i h fa)) := ds_aug o.ndX (o.ix hi) (by rw [o.sc]; exact hx) he ho hf
/-- the captured names, by a look -/
theorem cap_ok {N N' : List Str} {sc scope : Scope} {cap : List (Option Nat)}
    (h : ((List.range cap.length).all fun i => match cap[i]?, N'[i]? with
      | some (some j), some x => (scope.names.lookup x == some .free) && ((N[j]? == some x) && ((sc.names.lookup x == some .cell) || (sc.names.lookup x == some .free)))
      | _, _ => true) = true) :
    ∀ (i : Nat) (x : Str) (j : Nat), N'[i]? = some x → cap[i]? = some (some j) → scope.names.lookup x = some .free ∧ N[j]? = some x ∧ (sc.names.lookup x = some .cell ∨ sc.names.lookup x = some .free) := by
  intro i x j h1 h2
  have hi : i < cap.length := (List.getElem?_eq_some_iff.mp h2).1
  have q := List.all_eq_true.mp h i (List.mem_range.mpr hi)
  rw [h1, h2] at q
  simp only [Bool.and_eq_true, Bool.or_eq_true, beq_iff_eq] at q
  exact q
end
end EL
set_option Elab.async false
set_option linter.all false
set_option maxRecDepth 100000
set_option maxHeartbeats 1000000
namespace EL
open PySem PySem.Spec PyProof.Rows L2 GxR LG
/-- what the law is asked: any script of at most 63 ints, each of at most a million bits -/
def spLaw (K : PySem.W.Frag) (cs : List (Addr × Addr)) : Sp := fun vs H Q _ => ∃ (a : Addr) (ns : List Int), vs = [.ref a] ∧ SqL K H a (ns.map V.int) ∧ ns.length ≤ 63 ∧ (∀ z ∈ ns, Builtin.Int.intBits z ≤ 1048576) ∧ (∀ p ∈ cs, H p.2 = some (.tbl #[])) ∧ ∀ H', Q (.bl true) H'
theorem law_fn {P : Program} {w : World} {K : PySem.W.Frag} {mg : Str → Option Value} {base : Heap} {k : Nat} {fa : Addr} {fd : FuncData} {cs : List (Addr × Addr)} {tg : List Addr} {tl : List (Addr × Str)} (hg : ∀ P ∈ tg, P ∈ cs.map (·.2)) (hl0 : ∀ p ∈ tl, p.1 ∈ cs.map (·.2)) (hd : ∀ p ∈ tl, p.1 ∉ tg)
    (h : ∀ (a : Addr) (ns : List Int), ns.length ≤ 63 → (∀ z ∈ ns, Builtin.Int.intBits z ≤ 1048576) → ∃ fn st', FnOk P w K mg base CX0 k fa fd ["script"] (spD ⟨P, w, mg, base, K, tg, tl⟩ 1 fn) ∧ fn [.scr ns] [] = some (.bl true, st')) :
    FnOk P w K mg base CX0 k fa fd ["script"] (spLaw K cs) := by
  refine ⟨fun vs H Q E hs => ?_, fun A outer s H args us vs Q E hr e0 hb r hs => ?_⟩
  · obtain ⟨a, ns, rfl, _⟩ := hs
    rfl
  · obtain ⟨a, ns, rfl, hS, hl, hbits, ht, q⟩ := hs
    obtain ⟨fn, st', F, e⟩ := h a ns hl hbits
    refine F.run A outer s H args us [.ref a] Q E hr e0 hb r ⟨⟨[], []⟩, [], [.scr ns], .bl true, st', rfl, ?_, .cons (.scr ?_) .nil, e, fun μ' H' v _ _ R => ?_⟩
    · refine ⟨rfl, fun l o b h1 => by simp at h1, fun a ha => by simp at ha, List.nodup_nil, fun a ha => by simp at ha, fun P hP => ?_, fun q hq => ?_, hd⟩
      · obtain ⟨p, hp, rfl⟩ := List.mem_map.mp (hg P hP)
        exact ⟨#[], ht p hp, trivial⟩
      · obtain ⟨p, hp, e⟩ := List.mem_map.mp (hl0 q hq)
        exact LamX.TabS.nil (by rw [← e]; exact ht p hp)
    · rcases hS with z | z
      · exact .inl ⟨z, by simp, by simp⟩
      · exact .inr z
    · cases R
      exact q H'
/-- a def of the head's facts -/
theorem fnAt_of {G : G0} {name : Str} {st : Stmt} {h : Heap} (X : G.K.In h) (Gs : h.Ns mainGlobals G.mg) {fd : FuncData} (F : FunD G.K name name (defArgs st) (defBody st) (defScope st) [] [] (He.ga G.K name) fd) (hg : (He.Fa.glo name).ok G.K = true) : ∃ cdv, FnAt G name st cdv ∧ fd.code = cdv := by
  obtain ⟨oc, od, dV, kV, doc, pm, an, cdv, ct, osl, rfl, lk, hcd, hd, hk⟩ := F.ex
  rcases hd with ⟨_, rfl⟩ | ⟨z, _⟩
  · exact ⟨cdv, ⟨_, oc, od, kV, doc, pm, an, ct, osl, lk, hcd, He.glo_ok X Gs hg, F.kp⟩, rfl⟩
  · exact absurd rfl z
theorem fnAt_tab {G : G0} {name : Str} {st : Stmt} {h : Heap} (X : G.K.In h) (Gs : h.Ns mainGlobals G.mg) {fd : FuncData} (F : FunD G.K name name (defArgs st) (defBody st) (defScope st) [] [] (He.ga G.K name) fd) (hg : (He.Fa.glo name).ok G.K = true) : FnAt G name st (.ref (He.cT G.K (name, none)).1) := by
  obtain ⟨oc, od, dV, kV, doc, pm, an, cdv, ct, osl, rfl, lk, hcd, hd, hk⟩ := F.ex
  rcases hd with ⟨_, rfl⟩ | ⟨z, _⟩
  · obtain ⟨c, rfl⟩ := He.codeIn_ref hcd
    have e : He.codeOf G.K (name, none) = c := He.codeOf_eq lk rfl
    have e2 : (He.cT G.K (name, none)).1 = c := e
    rw [e2]
    exact ⟨_, oc, od, kV, doc, pm, an, ct, osl, lk, hcd, He.glo_ok X Gs hg, F.kp⟩
  · exact absurd rfl z
theorem fn_atD {G : G0} {W : WX} {k : Nat} {f : Addr} {fd : FuncData} {name : Str} {st : Stmt} {N ps : List Str} {sb : FS} (D : FunD G.K name name (defArgs st) (defBody st) (defScope st) [] [] f fd) (S : FnScope N ps (defScope st))
    (hbody : ∀ (cdv : Value) (f : Addr) (A : Around) (outer : List Env) (s : Shared) (H : Hp), Here G (bodyCx G N name (defScope st) f cdv A outer s H) N (defScope st) → Room k (bodyCx G N name (defScope st) f cdv A outer s H).A →
      (∀ x : Str, (defScope st).names.lookup x = some .cell → ∃ c, (bodyCx G N name (defScope st) f cdv A outer s H).env.cells.lookup x = some c) → PSs (bodyCx G N name (defScope st) f cdv A outer s H) (defBody st) (liftS G W sb)) :
    FnOk G.P G.w G.K G.mg G.base CX0 (k + 1) f fd ps (spD G ps.length (runD N.length sb)) := by
  obtain ⟨oc, od, dV, kV, doc, pm, an, cdv, ct, osl, rfl, lk, hcd, hd, hk⟩ := D.ex
  rcases hd with ⟨_, rfl⟩ | ⟨z, _⟩
  · exact fn_at lk hcd S (hbody cdv)
  · exact absurd rfl z
theorem tabB_of {base : Heap} {mg : Str → Option Value} {c P : Addr} (t : LamX.TabB base mg c P) : GxR.TabB base mg c P := ⟨t.code, t.bm, t.gP⟩
end EL
set_option Elab.async false
set_option linter.all false
set_option maxRecDepth 100000
set_option maxHeartbeats 1000000
namespace EL
open PySem PySem.Spec PyProof.Rows L2 GxR LG
/-- the context of an own exception's __init__: it closes over its class -/
def iniCx (G : G0) (x qual : Str) (scope : Scope) (f : Addr) (cd : Value) (cc : Addr) (A : Around) (outer : List Env) (s : Shared) (H : Hp) : Cx :=
  let env : Env := PySem.W.envX qual scope s.heap.objs.size f cd [("__class__", cc)]
  ⟨G.P, G.w, G.K, G.mg, G.base, A.deeper env, ["self", x], s, H, env, outer, env :: outer, [], fun _ => false, true, [], fun _ _ => False⟩
section
variable {G : G0} {x qual : Str} {scope : Scope} {f cc : Addr} {cd : Value} {A : Around} {outer : List Env} {s : Shared} {H : Hp}
theorem On.ini : On G (iniCx G x qual scope f cd cc A outer s H) := ⟨rfl, rfl, rfl, rfl, rfl, rfl⟩
end
end EL
set_option Elab.async false
set_option linter.all false
set_option maxRecDepth 100000
set_option maxHeartbeats 1000000
namespace EL
open PySem PySem.Spec PyProof.Rows L2 GxR LG
end EL
set_option Elab.async false
set_option linter.all false
set_option maxRecDepth 100000
set_option maxHeartbeats 1000000
namespace EL
open PySem PySem.Spec PyProof.Rows L2 GxR LG
end EL
set_option Elab.async false
set_option linter.all false
set_option maxRecDepth 100000
set_option maxHeartbeats 1000000
namespace EL
open PySem PySem.Spec PyProof.Rows L2 GxR LG
end EL
set_option Elab.async false
set_option linter.all false
set_option maxRecDepth 100000
set_option maxHeartbeats 1000000
namespace EL
open PySem PySem.Spec PyProof.Rows L2 GxR LG
end EL
set_option Elab.async false
set_option linter.all false
set_option maxRecDepth 100000
set_option maxHeartbeats 1000000
namespace EL
open PySem PySem.Spec PyProof.Rows L2 GxR LG
/-- one such __init__ -/
structure IniD where
  c : Str
  qual : Str
  params : Arguments
  body : List Stmt
  scope : Scope
  fld : Str
abbrev IniW : Type := Option (Str × Str × Arguments × FuncBody × Scope × Addr × List Str × Addr × Value)
def iniW (K : PySem.W.Frag) (d : IniD) : IniW := match K.lookup (He.fAd K (d.c, some "__init__")) with
  | some ob => (match ob.data with
    | .func fd => some (fd.name, fd.qualname, fd.params, fd.body, fd.scope, fd.globals, fd.closure.map (·.1), fd.builtins, fd.defaults)
    | _ => none)
  | none => none
def IniD.val (d : IniD) : IniW := some ("__init__", d.qual, d.params, .stmts d.body, d.scope, mainGlobals, ["__class__"], builtinsNs, .none)
abbrev AlY : Type := He.AlX × List IniW
def asY (g : Addr → Option Obj) (n : Nat) : List Addr := cStatics :: He.asD g n
def obsY (n : Nat) (fa : List He.Fa) (fn : List He.DefD) (tf : List He.Defn) (inis : List IniD) (ex : PySem.W.Frag → Bool) (g : Addr → Option Obj) : AlY :=
  ((He.obsT fa fn [] (He.frT g (asY g n)), ex (He.frT g (asY g n)) && He.tabsB g tf (He.frT g (asY g n))), inis.map fun d => iniW (He.frT g (asY g n)) d)
structure SaysY (fa : List He.Fa) (fn : List He.DefD) (tf : List He.Defn) (inis : List IniD) (ex : PySem.W.Frag → Bool) (w : World) (h : Heap) (K : PySem.W.Frag) : Prop where
  x : He.SaysX fa fn [] tf ex w h K
  ini : inis.map (fun d => iniW K d) = inis.map IniD.val
theorem saysY_of {n : Nat} {fa : List He.Fa} {fn : List He.DefD} {tf : List He.Defn} {inis : List IniD} {ex : PySem.W.Frag → Bool} {w : World} {h : Heap} (e : obsY n fa fn tf inis ex h.get? = (He.valX fn [] w, inis.map IniD.val)) :
    SaysY fa fn tf inis ex w h (He.frT h.get? (asY h.get? n)) := by
  have e0 := congrArg (fun z : AlY => z.1) e
  have e3 := congrArg (fun z : AlY => z.2) e
  have e1 : He.obsT fa fn [] (He.frT h.get? (asY h.get? n)) = He.valT fn [] w := congrArg (fun z : He.AlX => z.1) e0
  have e2 : (ex (He.frT h.get? (asY h.get? n)) && He.tabsB h.get? tf (He.frT h.get? (asY h.get? n))) = true := congrArg (fun z : He.AlX => z.2) e0
  obtain ⟨h1, h2⟩ := Bool.and_eq_true_iff.mp e2
  have key : ∀ p ∈ tf, PySem.W.codeHdIn (He.frT h.get? (asY h.get? n)) (He.cT (He.frT h.get? (asY h.get? n)) p).1 (He.cT (He.frT h.get? (asY h.get? n)) p).2 = true ∧ ∃ o, h.get? (He.cT (He.frT h.get? (asY h.get? n)) p).2 = some o ∧ He.emptyTab o = true := fun p hp => by
    obtain ⟨q1, q2⟩ := Bool.and_eq_true_iff.mp (List.all_eq_true.mp h2 p hp)
    refine ⟨q1, ?_⟩
    split at q2
    · rename_i o ho
      exact ⟨o, ho, q2⟩
    · cases q2
  refine ⟨⟨e1, h1, fun p hp => (key p hp).1, fun p hp => ?_, fun p hp => ?_⟩, e3⟩
  · obtain ⟨_, o, q, z⟩ := key p hp
    exact He.frT_none q z
  · obtain ⟨_, o, q, z⟩ := key p hp
    rw [q, He.emptyTab_eq z]
def hookY (n : Nat) (fa : List He.Fa) (fn : List He.DefD) (tf : List He.Defn) (inis : List IniD) (ex : PySem.W.Frag → Bool) : PySem.W.Hook where
  α := AlY
  obs := fun s => obsY n fa fn tf inis ex s.heap.get?
  val := fun w => (He.valX fn [] w, inis.map IniD.val)
  says := fun w h => ∃ K : PySem.W.Frag, K.In h ∧ SaysY fa fn tf inis ex w h K
  of := fun _ _ e => ⟨_, He.frT_in, saysY_of e⟩
  keeps := fun _ _ _ ⟨K, hK, c⟩ k => ⟨K, PySem.W.Frag.In.keeps hK k, ⟨⟨c.x.t, c.x.more, c.x.hd, c.x.out, fun p hp => k _ _ (c.x.empty p hp)⟩, c.ini⟩⟩
theorem obsY_eq {n : Nat} {fa : List He.Fa} {fn : List He.DefD} {tf : List He.Defn} {inis : List IniD} {ex : PySem.W.Frag → Bool} {g : Addr → Option Obj} {s : Shared} (h : ∀ a, g a = s.heap.get? a) : obsY n fa fn tf inis ex g = (hookY n fa fn tf inis ex).obs s := by
  have e : g = s.heap.get? := funext h
  subst e
  rfl
theorem SaysY.at {fa : List He.Fa} {fn : List He.DefD} {tf : List He.Defn} {inis : List IniD} {ex : PySem.W.Frag → Bool} {w : World} {h : Heap} {K : PySem.W.Frag} (c : SaysY fa fn tf inis ex w h K) (i : Nat) {d : IniD} (hd : inis[i]? = some d := by rfl) : iniW K d = d.val := by
  have e2 : (inis.map fun d => iniW K d)[i]? = (inis.map IniD.val)[i]? := by rw [c.ini]
  rw [List.getElem?_map, List.getElem?_map, hd] at e2
  exact Option.some.inj e2
end EL
set_option Elab.async false
set_option linter.all false
set_option maxRecDepth 100000
set_option maxHeartbeats 1000000
namespace EL
open PySem PySem.Spec PyProof.Rows L2 GxR LG
open PySem.W (AlikeAll min_tuple_data max_tuple_data minD_ints maxD_ints)
def least (i : Int) (l : List Int) : Int := l.foldl min i
def most (i : Int) (l : List Int) : Int := l.foldl max i
end EL
set_option Elab.async false
set_option linter.all false
set_option maxRecDepth 100000
set_option maxHeartbeats 1000000
namespace EL
open PySem PySem.Spec PyProof.Rows L2 GxR LG
def key1 : D → Option Key
  | .int i => some (.inl i)
  | .str x => some (.inr x)
  | _ => none
def keysD : List D → Option (List Key)
  | [] => some []
  | d :: ds => (key1 d).bind fun k => (keysD ds).bind fun ks => some (k :: ks)
def keyOf : D → Option (List Key)
  | .tup ds => keysD ds
  | _ => none
def dictOf : D → Sto → Option (Nat × List (List Key × D))
  | .ref l, st => match st[l]? with
    | some (.dT kvs) => some (l, kvs)
    | _ => none
  | _, _ => none
def valD {κ : Type} [DecidableEq κ] (kvs : List (κ × D)) (k : κ) : Option D := (kvs.find? fun kv => decide (kv.1 = k)).map (·.2)
def putD {κ : Type} [DecidableEq κ] (kvs : List (κ × D)) (k : κ) (v : D) : List (κ × D) :=
  if (kvs.any fun kv => decide (kv.1 = k)) = true then kvs.map (fun kv => if kv.1 = k then (kv.1, v) else kv) else kvs ++ [(k, v)]
section
variable {G : G0} {X : Cx} {μ : Mu} {H : Hp} {st : Sto}
theorem key1_rep {d : D} {v : V} {k : Key} (R : Rep G μ H d v) (e : key1 d = some k) : v = kV k := by
  cases d with
  | int i => cases e; cases R; rfl
  | str x => cases e; cases R; rfl
  | _ => cases e
theorem val_rep {κ : Type} [DecidableEq κ] : ∀ {kvs : List (κ × D)} {vs : List (κ × V)} (k : κ), RKs G μ H kvs vs → (∃ d v, valD kvs k = some d ∧ valV vs k = some v ∧ Rep G μ H d v) ∨ (valD kvs k = none ∧ valV vs k = none)
  | [], [], k, _ => .inr ⟨rfl, rfl⟩
  | [], _ :: _, k, h => by have := h.1; simp at this
  | _ :: _, [], k, h => by have := h.1; simp at this
  | (a, d) :: kvs, (b, v) :: vs, k, h => by
    obtain ⟨h1, h2⟩ := h
    simp only [List.map_cons, List.cons.injEq] at h1 h2
    obtain ⟨rfl, h1⟩ := h1
    cases h2 with
    | cons r t =>
      by_cases e : a = k
      · exact .inl ⟨d, v, by simp [valD, e], by simp [valV, e], r⟩
      · have ih := val_rep (kvs := kvs) (vs := vs) k ⟨h1, t⟩
        have e1 : valD ((a, d) :: kvs) k = valD kvs k := by simp [valD, e]
        have e2 : valV ((a, v) :: vs) k = valV vs k := by simp [valV, e]
        rw [e1, e2]
        exact ih
theorem put_rep {κ : Type} [DecidableEq κ] {kvs : List (κ × D)} {vs : List (κ × V)} {k : κ} {d : D} {v : V} (h : RKs G μ H kvs vs) (r : Rep G μ H d v) : RKs G μ H (putD kvs k d) (putK vs k v) := by
  obtain ⟨h1, h2⟩ := h
  have an : (kvs.any fun kv => decide (kv.1 = k)) = (vs.any fun kv => decide (kv.1 = k)) := by
    have e1 : (kvs.any fun kv => decide (kv.1 = k)) = (kvs.map (·.1)).any fun x => decide (x = k) := by rw [List.any_map]; rfl
    have e2 : (vs.any fun kv => decide (kv.1 = k)) = (vs.map (·.1)).any fun x => decide (x = k) := by rw [List.any_map]; rfl
    rw [e1, e2, h1]
  unfold putD putK
  rw [an]
  split
  · have key : ∀ (kvs : List (κ × D)) (vs : List (κ × V)), kvs.map (·.1) = vs.map (·.1) → Reps G μ H (kvs.map (·.2)) (vs.map (·.2)) → RKs G μ H (kvs.map fun kv => if kv.1 = k then (kv.1, d) else kv) (vs.map fun kv => if kv.1 = k then (kv.1, v) else kv) := by
      intro kvs
      induction kvs with
      | nil =>
        intro vs q1 q2
        cases vs with
        | nil => exact ⟨rfl, .nil⟩
        | cons x l => simp at q1
      | cons x kvs ih =>
        intro vs q1 q2
        cases vs with
        | nil => simp at q1
        | cons y vs =>
          simp only [List.map_cons, List.cons.injEq] at q1 q2
          cases q2 with
          | cons q2 q3 =>
            obtain ⟨z1, z2⟩ := ih vs q1.2 q3
            refine ⟨?_, ?_⟩
            · simp only [List.map_cons, z1]
              congr 1
              rw [q1.1]
              split <;> simp [q1.1]
            · simp only [List.map_cons]
              refine .cons ?_ z2
              rw [q1.1]
              split
              · exact r
              · exact q2
    exact key kvs vs h1 h2
  · refine ⟨by simp [h1], ?_⟩
    simp only [List.map_append, List.map_cons, List.map_nil]
    exact h2.append (.cons r .nil)
def getT : D → D → Sto → Option (D × Sto) := fun c d st => (dictOf c st).bind fun p => (keyOf d).bind fun k => (valD p.2 k).bind fun v => some (v, st)
end
end EL
set_option Elab.async false
set_option linter.all false
set_option maxRecDepth 100000
set_option maxHeartbeats 1000000
namespace EL
open PySem PySem.Spec PyProof.Rows L2 GxR LG
end EL
set_option Elab.async false
set_option linter.all false
set_option maxRecDepth 100000
set_option maxHeartbeats 1000000
namespace EL
open PySem PySem.Spec PyProof.Rows L2 GxR LG
def insOf (c : Str) : D → Sto → Option (Nat × List (Str × D))
  | .ref l, st => match st[l]? with
    | some (.ins c' fs) => if c' = c then some (l, fs) else none
    | _ => none
  | _, _ => none
def putFD (f : Str) (v : D) : List (Str × D) → List (Str × D)
  | [] => [(f, v)]
  | (g, x) :: r => if g = f then (g, v) :: r else (g, x) :: putFD f v r
section
variable {G : G0} {X : Cx} {μ : Mu} {H : Hp} {st : Sto}
/-- a class: its fields are none of its own attributes -/
structure ClsF (G : G0) (c : Str) (fs : List Str) : Prop where
  ex : ∃ C, G.mg c = some (.ref C) ∧ Cls G.K C ∧ ∀ f ∈ fs, NoAttr G.K C f
theorem ins_rep {c : Str} {d : D} {v : V} {l : Nat} {fs : List (Str × D)} (S : StR G μ st H) (R : Rep G μ H d v) (e : insOf c d st = some (l, fs)) : d = .ref l ∧ st[l]? = some (.ins c fs) ∧ ∃ a C dx vs, v = .ref a ∧ μ.pl[l]? = some a ∧ G.mg c = some (.ref C) ∧ H a = some (.ins C dx vs) ∧ RKs G μ H fs vs := by
  unfold insOf at e
  split at e
  · split at e
    · rename_i c' kk hl
      split at e
      · rename_i hc
        cases e
        subst hc
        cases R with
        | ref h =>
          obtain ⟨C, dx, vs, h0, h1, h2⟩ := S.obj _ _ _ hl h
          exact ⟨rfl, hl, _, C, dx, vs, rfl, h, h0, h1, h2⟩
      · cases e
    · cases e
  · cases e
theorem look_rep : ∀ {fs : List (Str × D)} {vs : List (Str × V)} (f : Str), RKs G μ H fs vs → (∃ d v, fs.lookup f = some d ∧ vs.lookup f = some v ∧ Rep G μ H d v) ∨ (fs.lookup f = none ∧ vs.lookup f = none)
  | [], [], f, _ => .inr ⟨rfl, rfl⟩
  | [], _ :: _, f, h => by have := h.1; simp at this
  | _ :: _, [], f, h => by have := h.1; simp at this
  | (a, d) :: fs, (b, v) :: vs, f, h => by
    obtain ⟨h1, h2⟩ := h
    simp only [List.map_cons, List.cons.injEq] at h1 h2
    obtain ⟨rfl, h1⟩ := h1
    cases h2 with
    | cons r t =>
      by_cases e : f = a
      · subst e
        exact .inl ⟨d, v, by simp, by simp, r⟩
      · have ih := look_rep (fs := fs) (vs := vs) f ⟨h1, t⟩
        have be : (f == a) = false := beq_false_of_ne e
        have e1 : ((a, d) :: fs).lookup f = fs.lookup f := by simp only [List.lookup, be]
        have e2 : ((a, v) :: vs).lookup f = vs.lookup f := by simp only [List.lookup, be]
        rw [e1, e2]
        exact ih
theorem putF_rep {f : Str} {d : D} {v : V} (r : Rep G μ H d v) : ∀ {fs : List (Str × D)} {vs : List (Str × V)}, RKs G μ H fs vs → RKs G μ H (putFD f d fs) (putF f v vs)
  | [], [], _ => ⟨rfl, .cons r .nil⟩
  | [], _ :: _, h => by have := h.1; simp at this
  | _ :: _, [], h => by have := h.1; simp at this
  | (a, x) :: fs, (b, y) :: vs, h => by
    obtain ⟨h1, h2⟩ := h
    simp only [List.map_cons, List.cons.injEq] at h1 h2
    obtain ⟨rfl, h1⟩ := h1
    cases h2 with
    | cons r1 t =>
      unfold putFD putF
      by_cases e : a = f
      · rw [if_pos e, if_pos e]
        exact ⟨by simp [h1], .cons r t⟩
      · rw [if_neg e, if_neg e]
        obtain ⟨z1, z2⟩ := putF_rep r (fs := fs) (vs := vs) ⟨h1, t⟩
        exact ⟨by simp only [List.map_cons, z1], .cons r1 z2⟩
def fFld (c f : Str) (fa : FE) : FE := fun ρ st => (fa ρ st).bind fun p => (insOf c p.1 p.2).bind fun q => (q.2.lookup f).bind fun v => some (v, p.2)
theorem de_fld {c f : Str} {fs : List Str} {e : Expr} {fa : FE} {pos : Pos} (o : On G X) (K : ClsF G c fs) (hf : f ∈ fs) (he : PE X e (lift G fa)) (hb : attributeBase e f X.env (eval e X.env) = eval e X.env := by rfl) : PE X (.Attribute e f pos) (lift G (fFld c f fa)) := by
  obtain ⟨C0, hC0, cl, na⟩ := K.ex
  refine PE.imp (pe_fld he hb) fun σ H Q ⟨ρ, μ, st, d, st', E, S, e, kk⟩ => ?_
  unfold fFld at e
  obtain ⟨p, e1, e⟩ := Option.bind_eq_some_iff.mp e
  obtain ⟨⟨l, gs⟩, e2, e⟩ := Option.bind_eq_some_iff.mp e
  obtain ⟨v, e3, e4⟩ := Option.bind_eq_some_iff.mp e
  cases e4
  refine ⟨ρ, μ, st, p.1, p.2, E, S, e1, fun μ1 H1 x X1 S1 R1 => ?_⟩
  obtain ⟨_, _, a, C, dx, vs, rfl, _, hC, ha, rk⟩ := ins_rep S1 R1 e2
  rw [hC0] at hC
  cases hC
  rcases look_rep f rk with ⟨d', v', q1, q2, q3⟩ | ⟨q1, _⟩
  · have q1 : gs.lookup f = some d' := q1
    rw [q1] at e3
    cases e3
    exact ⟨a, C0, dx, vs, v', rfl, ha, by rw [o.K]; exact cl, by rw [o.K]; exact na f hf, q2, kk μ1 H1 _ X1 S1 q3⟩
  · have q1 : gs.lookup f = none := q1
    rw [q1] at e3
    cases e3
def sFldT (c f : Str) (fv fo : FE) : FS := fun ρ st => (fv ρ st).bind fun p => (fo ρ p.2).bind fun q => (insOf c q.1 q.2).bind fun z => if z.2.length < 1000 then some (.nx, ρ, q.2.set z.1 (.ins c (putFD f p.1 z.2))) else none
theorem ds_fld {c f : Str} {fs : List Str} {a e : Expr} {fv fo : FE} {p1 pos : Pos} {W : WX} (o : On G X) (K : ClsF G c fs) (hf : f ∈ fs) (hv : PE X e (lift G fv)) (ho : PE X a (lift G fo)) (hs : swapsWith e (some (.Attribute a f p1)) pos.line X.env = pure false := by rfl) :
    PS X (.Assign [.Attribute a f p1] e pos) (liftS G W (sFldT c f fv fo)) := by
  obtain ⟨C0, hC0, cl, na⟩ := K.ex
  refine PS.imp (ps_fld ho hv hs) fun D0 σ H ⟨ρ, μ, st, fl, ρ', st', E, S, e, kk⟩ => ?_
  unfold sFldT at e
  obtain ⟨p, e1, e⟩ := Option.bind_eq_some_iff.mp e
  obtain ⟨q, e2, e⟩ := Option.bind_eq_some_iff.mp e
  obtain ⟨⟨l, gs⟩, e3, e⟩ := Option.bind_eq_some_iff.mp e
  split at e
  · rename_i hz
    cases e
    refine ⟨ρ, μ, st, p.1, p.2, E, S, e1, fun μ1 H1 v X1 S1 R1 => ⟨ρ, μ1, p.2, q.1, q.2, E.ext X1, S1, e2, fun μ2 H2 x X2 S2 R2 => ?_⟩⟩
    obtain ⟨_, _, aa, C, dx, vs, rfl, hpl, hC, ha, rk⟩ := ins_rep S2 R2 e3
    have hC' := hC
    rw [hC0] at hC'
    cases hC'
    have X4 : Ext G μ2 H2 μ2 (upd H2 aa (.ins C0 dx (putF f v vs))) := Ext.own S2 (List.mem_of_getElem? hpl) ha trivial
    have S4 := S2.setO (o := .ins c (putFD f p.1 gs)) hpl (y := .ins C0 dx (putF f v vs)) trivial ⟨C0, dx, _, hC, upd_same, (putF_rep (R1.ext X2) rk).ext X4⟩
    refine ⟨aa, C0, dx, vs, rfl, ha, by rw [o.K]; exact cl, by rw [o.K]; exact na f hf, ?_, kk μ2 _ (X1.trans (X2.trans X4)) S4 σ (E.ext (X1.trans (X2.trans X4)))⟩
    have hz : gs.length < 1000 := hz
    have : gs.length = vs.length := by have := congrArg List.length rk.1; simpa using this
    omega
  · cases e
structure DefM (G : G0) (k : Nat) (c m : Str) (n : Nat) (fn : HA) : Prop where
  ex : ∃ (C f : Addr) (fd : FuncData) (ps : List Str), ps.length = n ∧ FnOk G.P G.w G.K G.mg G.base CX0 k f fd ps (spD G n fn) ∧ G.mg c = some (.ref C) ∧ Cls G.K C ∧ Meth G.K C m f ∧ Binds G.K fd ps []
def fMeth (c m : Str) (n : Nat) (fn : HA) (fo : FE) (fr : FA) : FE := fun ρ st => (fo ρ st).bind fun p => (insOf c p.1 p.2).bind fun z => if z.2.lookup m = none then (fr ρ p.2).bind fun q => if (p.1 :: q.1).length = n then fn (p.1 :: q.1) q.2 else none else none
theorem de_meth {k n : Nat} {c m : Str} {fn : HA} {a e : Expr} {es : List Expr} {fo : FE} {fr : FA} {apos pos : Pos} {pl : Sem Bool} (o : On G X) (F : DefM G k c m n fn) (hr : Room k X.A) (ho : PE X a (lift G fo)) (ha : PA X (e :: es) (liftA G fr))
    (hst : starEach (e :: es) X.env = (false, eval e X.env) :: starEach es X.env := by rfl) (hpl : (backTo pos (starEach es X.env)).any (·.1) = false := by rfl)
    (ht : eval (.Call (.Attribute a m apos) (e :: es) [] pos) X.env = (do
      let ov ← eval a X.env
      standAt apos.atName
      let (f, first) ← holding [ov] (getMethod ov m pl)
      callWith pos f first (backTo pos (starEach (e :: es) X.env)) (backToKw pos (keywordEach [] X.env))) := by rfl) : PE X (.Call (.Attribute a m apos) (e :: es) [] pos) (lift G (fMeth c m n fn fo fr)) := by
  obtain ⟨C, f, fd, ps, hl, F, hC, cl, me, hb⟩ := F.ex
  have F' : FnOk X.prog X.w X.K X.mg X.base CX0 k f fd ps (spD G n fn) := by rw [o.prog, o.w, o.K, o.mg, o.base]; exact F
  refine PE.imp (pe_meth ho (by rw [o.K]; exact cl) (by rw [o.K]; exact me) F' hr (by rw [o.K]; exact hb) .nil pass0 ha hst hpl ht) fun σ H Q ⟨ρ, μ, st, d, st', E, S, e, kk⟩ => ?_
  unfold fMeth at e
  obtain ⟨p, e1, e⟩ := Option.bind_eq_some_iff.mp e
  obtain ⟨⟨l, gs⟩, e2, e⟩ := Option.bind_eq_some_iff.mp e
  split at e
  · rename_i hn
    obtain ⟨q, e3, e⟩ := Option.bind_eq_some_iff.mp e
    split at e
    · rename_i hz
      refine ⟨ρ, μ, st, p.1, p.2, E, S, e1, fun μ1 H1 x X1 S1 R1 => ?_⟩
      obtain ⟨_, _, aa, C', dx, vs, rfl, _, hC', ha', rk⟩ := ins_rep S1 R1 e2
      rw [hC] at hC'
      cases hC'
      refine ⟨aa, dx, vs, rfl, ha', ?_, ρ, μ1, p.2, q.1, q.2, E.ext X1, S1, e3, fun μ2 H2 ws X2 S2 R2 => ⟨μ2, q.2, p.1 :: q.1, d, st', hz, S2, by rw [List.append_nil]; exact .cons (R1.ext X2) R2, e, kk.trans (X1.trans X2)⟩⟩
      rcases look_rep m rk with ⟨d', v', q1, q2, q3⟩ | ⟨_, q2⟩
      · have q1 : gs.lookup m = some d' := q1
        have hn : gs.lookup m = none := hn
        rw [hn] at q1
        cases q1
      · exact q2
    · cases e
  · cases e
structure DefI (G : G0) (k : Nat) (c : Str) (n : Nat) (fn : HA) : Prop where
  ex : ∃ (C f : Addr) (fd : FuncData) (ps : List Str), ps.length = n ∧ FnOk G.P G.w G.K G.mg G.base CX0 k f fd ps (spD G n fn) ∧ G.mg c = some (.ref C) ∧ Mk G.K C f ∧ Binds G.K fd ps []
def fMake (c : Str) (n : Nat) (fn : HA) (fr : FA) : FE := fun ρ st => (fr ρ st).bind fun p => if p.1.length + 1 = n then (fn (.ref p.2.length :: p.1) (p.2 ++ [.ins c []])).bind fun q => match q.1 with
  | .non => some (.ref p.2.length, q.2)
  | _ => none
  else none
theorem de_make {k n : Nat} {c : Str} {fn : HA} {e : Expr} {es : List Expr} {fr : FA} {p0 pos : Pos} (o : On G X) (F : DefI G k c n fn) (hr : Room (k + 1) X.A) (hg : Gl X c) (ha : PA X (e :: es) (liftA G fr)) (hdb : (c == ("__debug__" : Str)) = false := by decide)
    (he : starEach (e :: es) X.env = (false, eval e X.env) :: starEach es X.env := by rfl) (hpl : (backTo pos (starEach es X.env)).any (·.1) = false := by rfl) : PE X (.Call (.Name c p0) (e :: es) [] pos) (lift G (fMake c n fn fr)) := by
  obtain ⟨C, f, fd, ps, hl, F, hC, mk, hb⟩ := F.ex
  have F' : FnOk X.prog X.w X.K X.mg X.base CX0 k f fd ps (spD G n fn) := by rw [o.prog, o.w, o.K, o.mg, o.base]; exact F
  refine PE.imp (pe_make (by rw [o.K]; exact mk) F' hr hg (by rw [o.mg]; exact hC) (by rw [o.K]; exact hb) .nil pass0 ha hdb he hpl) fun σ H Q ⟨ρ, μ, st, d, st', E, S, e, kk⟩ => ?_
  unfold fMake at e
  obtain ⟨p, e1, e⟩ := Option.bind_eq_some_iff.mp e
  split at e
  · rename_i hz
    obtain ⟨q, e2, e⟩ := Option.bind_eq_some_iff.mp e
    split at e
    · rename_i hq
      cases e
      refine ⟨ρ, μ, st, p.1, p.2, E, S, e1, fun μ1 H1 vs X1 S1 R1 => fun x dx hx hdx ne => ?_⟩
      have X2 : Ext G μ1 H1 μ1 (upd H1 dx (.own x)) := Ext.new S1 hdx
      have S2 : StR G μ1 p.2 (upd H1 dx (.own x)) := S1.newT hdx
      have hx2 : upd H1 dx (.own x) x = none := by rw [upd_ne (Ne.symm ne)]; exact hx
      have X3 : Ext G μ1 (upd H1 dx (.own x)) (μ1.add x) (upd (upd H1 dx (.own x)) x (.ins C dx [])) := Ext.newAt S2 hx2
      have S3 : StR G (μ1.add x) (p.2 ++ [.ins c []]) (upd (upd H1 dx (.own x)) x (.ins C dx [])) := S2.newO hx2 trivial ⟨C, dx, [], hC, upd_same, rfl, .nil⟩
      have at0 : (μ1.add x).pl[p.2.length]? = some x := by
        show (μ1.pl ++ [x])[p.2.length]? = some x
        rw [← S1.len]
        simp
      refine ⟨μ1.add x, p.2 ++ [.ins c []], .ref p.2.length :: p.1, .non, q.2, by simp; omega, S3, by rw [List.append_nil]; exact .cons (.ref at0) (R1.ext (X2.trans X3)), ?_, fun μ' H' v X4 S4 R4 => ?_⟩
      · rw [e2, ← hq]
      · cases R4
        exact ⟨rfl, kk μ' H' _ (X1.trans (X2.trans (X3.trans X4))) S4 (.ref (X4.at at0))⟩
    · cases e
  · cases e
end
end EL
set_option Elab.async false
set_option linter.all false
set_option maxRecDepth 100000
set_option maxHeartbeats 2000000
set_option Elab.async false
set_option linter.all false
set_option maxRecDepth 100000
set_option maxHeartbeats 1000000
namespace EL
open PySem PySem.Spec PyProof.Rows L2 GxR LG
end EL
set_option Elab.async false
set_option linter.all false
set_option maxRecDepth 100000
set_option maxHeartbeats 1000000
namespace EL
open PySem PySem.Spec PyProof.Rows L2 GxR LG
/-- a method m of the class c -/
structure MeAt (G : G0) (c m qual : Str) (st : Stmt) (cdv : Value) : Prop where
  ex : ∃ (C f : Addr) (oc : Value) (od : Option Addr) (kV doc pm : Value) (an : Option Addr) (ct : Value) (osl : Array (Option Value)),
    G.K.lookup f = some ⟨oc, od, .func (PySem.W.fnOf m qual (defArgs st) (defBody st) (defScope st) .none kV doc pm an cdv ct), osl⟩ ∧ PySem.W.codeIn G.K cdv qual = true ∧ G.mg c = some (.ref C) ∧ Cls G.K C ∧ Meth G.K C m f
/-- the __init__ of the class c -/
structure InAt (G : G0) (c qual : Str) (st : Stmt) (cdv : Value) : Prop where
  ex : ∃ (C f : Addr) (oc : Value) (od : Option Addr) (kV doc pm : Value) (an : Option Addr) (ct : Value) (osl : Array (Option Value)),
    G.K.lookup f = some ⟨oc, od, .func (PySem.W.fnOf "__init__" qual (defArgs st) (defBody st) (defScope st) .none kV doc pm an cdv ct), osl⟩ ∧ PySem.W.codeIn G.K cdv qual = true ∧ G.mg c = some (.ref C) ∧ Mk G.K C f
section
variable {G : G0} {W : WX}
theorem meth_at {k : Nat} {c m qual : Str} {st : Stmt} {cdv : Value} {N ps : List Str} {sb : FS} (F : MeAt G c m qual st cdv) (S : FnScope N ps (defScope st))
    (hb : ∀ (kV doc pm : Value) (an : Option Addr) (ct : Value) (us : List Value), us.length = ps.length → bindArgs (PySem.W.fnOf m qual (defArgs st) (defBody st) (defScope st) .none kV doc pm an cdv ct) ⟨us, []⟩ = pure (ps.zip us))
    (hbody : ∀ (f : Addr) (A : Around) (outer : List Env) (s : Shared) (H : Hp), Here G (bodyCx G N qual (defScope st) f cdv A outer s H) N (defScope st) → Room k (bodyCx G N qual (defScope st) f cdv A outer s H).A →
      (∀ x : Str, (defScope st).names.lookup x = some .cell → ∃ c, (bodyCx G N qual (defScope st) f cdv A outer s H).env.cells.lookup x = some c) → PSs (bodyCx G N qual (defScope st) f cdv A outer s H) (defBody st) (liftS G W sb)) : DefM G (k + 1) c m ps.length (runD N.length sb) := by
  obtain ⟨C, f, oc, od, kV, doc, pm, an, ct, osl, lk, hcd, hm, cl, me⟩ := F.ex
  exact ⟨C, f, _, ps, rfl, fn_data lk hcd S fun A outer s H hr => hbody f A outer s H ⟨On.body, rfl, rfl, S.nd⟩ hr fun x h => cell_has h, hm, cl, me, .all (hb kV doc pm an ct)⟩
theorem init_at {k : Nat} {c qual : Str} {st : Stmt} {cdv : Value} {N ps : List Str} {sb : FS} (F : InAt G c qual st cdv) (S : FnScope N ps (defScope st))
    (hb : ∀ (kV doc pm : Value) (an : Option Addr) (ct : Value) (us : List Value), us.length = ps.length → bindArgs (PySem.W.fnOf "__init__" qual (defArgs st) (defBody st) (defScope st) .none kV doc pm an cdv ct) ⟨us, []⟩ = pure (ps.zip us))
    (hbody : ∀ (f : Addr) (A : Around) (outer : List Env) (s : Shared) (H : Hp), Here G (bodyCx G N qual (defScope st) f cdv A outer s H) N (defScope st) → Room k (bodyCx G N qual (defScope st) f cdv A outer s H).A →
      (∀ x : Str, (defScope st).names.lookup x = some .cell → ∃ c, (bodyCx G N qual (defScope st) f cdv A outer s H).env.cells.lookup x = some c) → PSs (bodyCx G N qual (defScope st) f cdv A outer s H) (defBody st) (liftS G W sb)) : DefI G (k + 1) c ps.length (runD N.length sb) := by
  obtain ⟨C, f, oc, od, kV, doc, pm, an, ct, osl, lk, hcd, hm, mk⟩ := F.ex
  exact ⟨C, f, _, ps, rfl, fn_data lk hcd S fun A outer s H hr => hbody f A outer s H ⟨On.body, rfl, rfl, S.nd⟩ hr fun x h => cell_has h, hm, mk, .all (hb kV doc pm an ct)⟩
theorem seal_fn {P : Program} {k : Nat} {f : Addr} {fd : FuncData} {ps : List Str} {n : Nat} {fn : HA} (F : FnOk G.P G.w G.K G.mg G.base CX0 k f fd ps (spD G n fn)) : FnOk G.P G.w G.K G.mg G.base CX0 k f fd ps (spD G n (sealFn fn)) :=
  F.imp fun vs H Q E ⟨μ, st, ds, d2, st2, hn, S, R, e, k⟩ => by
    unfold sealFn at e
    obtain ⟨⟨d, st'⟩, e1, e⟩ := Option.bind_eq_some_iff.mp e
    unfold letGo at e
    split at e
    · rename_i hc
      obtain ⟨z, e2, e3⟩ := Option.map_eq_some_iff.mp e
      cases e3
      exact ⟨μ, st, ds, d, st', hn, S, R, e1, fun μ' H' v x S' R' => k μ H' v (letGo_ext x) (letGo_st x S S' hc.1) (seal_rep x S S' e2 R')⟩
    · cases e
theorem DefM.seal {k : Nat} {c m : Str} {n : Nat} {fn : HA} (F : DefM G k c m n fn) : DefM G k c m n (sealFn fn) := by
  obtain ⟨C, f, fd, ps, h1, h2, h3⟩ := F.ex
  exact ⟨C, f, fd, ps, h1, seal_fn (P := G.P) h2, h3⟩
theorem DefI.seal {k : Nat} {c : Str} {n : Nat} {fn : HA} (F : DefI G k c n fn) : DefI G k c n (sealFn fn) := by
  obtain ⟨C, f, fd, ps, h1, h2, h3⟩ := F.ex
  exact ⟨C, f, fd, ps, h1, seal_fn (P := G.P) h2, h3⟩
theorem meAt_of {c m qual : Str} {st : Stmt} {h : Heap} (X : G.K.In h) (Gs : h.Ns mainGlobals G.mg) {fd : FuncData} (F : FunD G.K m qual (defArgs st) (defBody st) (defScope st) [] [] (He.fAd G.K (c, some m)) fd) (hg : (He.Fa.glo c).ok G.K = true) (hc : (He.Fa.cls c).ok G.K = true) (hm : (He.Fa.meth c m).ok G.K = true) : ∃ cdv, MeAt G c m qual st cdv ∧ fd.code = cdv := by
  obtain ⟨oc, od, dV, kV, doc, pm, an, cdv, ct, osl, rfl, lk, hcd, hd, hk⟩ := F.ex
  rcases hd with ⟨_, rfl⟩ | ⟨z, _⟩
  · exact ⟨cdv, ⟨He.ga G.K c, _, oc, od, kV, doc, pm, an, ct, osl, lk, hcd, He.glo_ok X Gs hg, He.cls_ok hc, He.meth_ok hm⟩, rfl⟩
  · exact absurd rfl z
theorem inAt_of {c qual : Str} {st : Stmt} {h : Heap} (X : G.K.In h) (Gs : h.Ns mainGlobals G.mg) {fd : FuncData} (F : FunD G.K "__init__" qual (defArgs st) (defBody st) (defScope st) [] [] (He.fAd G.K (c, some "__init__")) fd) (hg : (He.Fa.glo c).ok G.K = true) (hm : (He.Fa.mkr c).ok G.K = true) : ∃ cdv, InAt G c qual st cdv ∧ fd.code = cdv := by
  obtain ⟨oc, od, dV, kV, doc, pm, an, cdv, ct, osl, rfl, lk, hcd, hd, hk⟩ := F.ex
  rcases hd with ⟨_, rfl⟩ | ⟨z, _⟩
  · exact ⟨cdv, ⟨He.ga G.K c, _, oc, od, kV, doc, pm, an, ct, osl, lk, hcd, He.glo_ok X Gs hg, He.mkr_ok hm⟩, rfl⟩
  · exact absurd rfl z
theorem clsF_of {c : Str} {fs : List Str} {h : Heap} (X : G.K.In h) (Gs : h.Ns mainGlobals G.mg) (hg : (He.Fa.glo c).ok G.K = true) (hc : (He.Fa.cls c).ok G.K = true) (hf : ∀ f ∈ fs, (He.Fa.noat c f).ok G.K = true) : ClsF G c fs := ⟨He.ga G.K c, He.glo_ok X Gs hg, He.cls_ok hc, fun f h => He.noat_ok (hf f h)⟩
end
section
variable {G : G0} {X : Cx} {N : List Str} {sc : Scope}
theorem x_fld (o : Here G X N sc) {c f : Str} {fs : List Str} {e : Expr} {fa : FE} {pos : Pos} (K : ClsF G c fs) (he : PE X e (lift G fa)) (hf : f ∈ fs := by simp) (hb : attributeBase e f X.env (eval e X.env) = eval e X.env := by rfl) : PE X (.Attribute e f pos) (lift G (fFld c f fa)) := de_fld o.on K hf he hb
theorem x_sfld (o : Here G X N sc) {c f : Str} {fs : List Str} {a e : Expr} {fv fo : FE} {p1 pos : Pos} {W : WX} (K : ClsF G c fs) (hv : PE X e (lift G fv)) (ho : PE X a (lift G fo)) (hf : f ∈ fs := by simp) (hs : swapsWith e (some (.Attribute a f p1)) pos.line X.env = pure false := by rfl) :
    PS X (.Assign [.Attribute a f p1] e pos) (liftS G W (sFldT c f fv fo)) := ds_fld o.on K hf hv ho hs
theorem x_make (o : Here G X N sc) {k n : Nat} {c : Str} {fn : HA} {e : Expr} {es : List Expr} {fr : FA} {p0 pos : Pos} (F : DefI G k c n fn) (hr : Room (k + 1) X.A) (ha : PA X (e :: es) (liftA G fr)) (hg : sc.names.lookup c = some .globalImplicit := by rfl) (hdb : (c == ("__debug__" : Str)) = false := by decide)
    (he : starEach (e :: es) X.env = (false, eval e X.env) :: starEach es X.env := by rfl) (hpl : (backTo pos (starEach es X.env)).any (·.1) = false := by rfl) : PE X (.Call (.Name c p0) (e :: es) [] pos) (lift G (fMake c n fn fr)) := de_make o.on F hr (o.gl hg) ha hdb he hpl
def methOf (s : Stmt) (m : Str) : Stmt := match s with
  | .ClassDef _ _ _ body _ _ _ _ _ _ _ => (body.find? fun s => match s with | .FunctionDef n .. => n == m | _ => false).getD (.Pass ⟨0, 0, 0, 0⟩)
  | s => s
end
end EL
set_option Elab.async false
set_option linter.all false
set_option maxRecDepth 100000
set_option maxHeartbeats 0
namespace K15
open PySem PySem.Spec PyProof.Rows L2 GxR LG EL
def top (i : Nat) : Stmt := PySem.Challenge.pw_wavehall_k15_whole_whoever_is_refused_co.main.body.getD i (.Pass ⟨0, 0, 0, 0⟩)
abbrev st_is_number : Stmt := top 3
abbrev st_is_whole : Stmt := top 4
abbrev st_is_leak : Stmt := top 36
abbrev st_Board____init__ : Stmt := methOf (top 51) "__init__"
abbrev st_are_prices : Stmt := top 55
abbrev st_House____init__ : Stmt := methOf (top 59) "__init__"
abbrev st_is_name : Stmt := top 5
abbrev st_is_tuple_of : Stmt := top 6
abbrev st_is_place : Stmt := top 33
abbrev st_is_need : Stmt := top 35
abbrev st_is_power : Stmt := top 34
abbrev st_check_power : Stmt := top 56
abbrev st_check_parts : Stmt := top 57
abbrev st_Deed____init__ : Stmt := methOf (top 58) "__init__"
abbrev st_Deed____enter__ : Stmt := methOf (top 58) "__enter__"
abbrev st_Deed____exit__ : Stmt := methOf (top 58) "__exit__"
abbrev st_House__station : Stmt := methOf (top 59) "station"
abbrev st_Licence____init__ : Stmt := methOf (top 50) "__init__"
abbrev st_Board__give : Stmt := methOf (top 51) "give"
abbrev st_House__check_station : Stmt := methOf (top 59) "check_station"
abbrev st_House__check_hours : Stmt := methOf (top 59) "check_hours"
abbrev st_Board__band_of : Stmt := methOf (top 51) "band_of"
abbrev st_House__check_free : Stmt := methOf (top 59) "check_free"
abbrev st_seat : Stmt := top 37
abbrev st_spread : Stmt := top 38
abbrev st_ear : Stmt := top 40
abbrev st_ears_of : Stmt := top 41
abbrev st_gap : Stmt := top 39
abbrev st_hears : Stmt := top 42
abbrev st_first_unheard : Stmt := top 43
abbrev st_all_heard : Stmt := top 44
abbrev st_retuned : Stmt := top 45
abbrev st_Board__tuning_in : Stmt := methOf (top 51) "tuning_in"
abbrev st_House__least_band : Stmt := methOf (top 59) "least_band"
abbrev st_House__ask : Stmt := methOf (top 59) "ask"
abbrev st_House__stations : Stmt := methOf (top 59) "stations"
abbrev st_Board__hours_of : Stmt := methOf (top 51) "hours_of"
abbrev st_House__licences : Stmt := methOf (top 59) "licences"
abbrev st_House__sending : Stmt := methOf (top 59) "sending"
abbrev st_House__owed : Stmt := methOf (top 59) "owed"
abbrev st__law_bag : Stmt := top 61
abbrev st__law_take : Stmt := top 62
abbrev st__law_of : Stmt := top 63
abbrev st__law_stations : Stmt := top 64
abbrev st_is_heard : Stmt := top 46
abbrev st_unheard : Stmt := top 47
abbrev st__law_least : Stmt := top 65
abbrev st_law : Stmt := top 66
def dd_is_number : He.DefD := ⟨("is_number", none), "is_number", "is_number", defArgs st_is_number, defBody st_is_number, defScope st_is_number, [], []⟩
def dd_is_whole : He.DefD := ⟨("is_whole", none), "is_whole", "is_whole", defArgs st_is_whole, defBody st_is_whole, defScope st_is_whole, [], []⟩
def dd_is_leak : He.DefD := ⟨("is_leak", none), "is_leak", "is_leak", defArgs st_is_leak, defBody st_is_leak, defScope st_is_leak, [], []⟩
def dd_Board____init__ : He.DefD := ⟨("Board", some "__init__"), "__init__", "Board.__init__", defArgs st_Board____init__, defBody st_Board____init__, defScope st_Board____init__, [], []⟩
def dd_are_prices : He.DefD := ⟨("are_prices", none), "are_prices", "are_prices", defArgs st_are_prices, defBody st_are_prices, defScope st_are_prices, [], []⟩
def dd_House____init__ : He.DefD := ⟨("House", some "__init__"), "__init__", "House.__init__", defArgs st_House____init__, defBody st_House____init__, defScope st_House____init__, [], [("leak", He.Dv.int 20)]⟩
def dd_is_name : He.DefD := ⟨("is_name", none), "is_name", "is_name", defArgs st_is_name, defBody st_is_name, defScope st_is_name, [], []⟩
def dd_is_tuple_of : He.DefD := ⟨("is_tuple_of", none), "is_tuple_of", "is_tuple_of", defArgs st_is_tuple_of, defBody st_is_tuple_of, defScope st_is_tuple_of, [], []⟩
def dd_is_place : He.DefD := ⟨("is_place", none), "is_place", "is_place", defArgs st_is_place, defBody st_is_place, defScope st_is_place, [], []⟩
def dd_is_need : He.DefD := ⟨("is_need", none), "is_need", "is_need", defArgs st_is_need, defBody st_is_need, defScope st_is_need, [], []⟩
def dd_is_power : He.DefD := ⟨("is_power", none), "is_power", "is_power", defArgs st_is_power, defBody st_is_power, defScope st_is_power, [], []⟩
def dd_check_power : He.DefD := ⟨("check_power", none), "check_power", "check_power", defArgs st_check_power, defBody st_check_power, defScope st_check_power, [], []⟩
def dd_check_parts : He.DefD := ⟨("check_parts", none), "check_parts", "check_parts", defArgs st_check_parts, defBody st_check_parts, defScope st_check_parts, [], []⟩
def dd_Deed____init__ : He.DefD := ⟨("Deed", some "__init__"), "__init__", "Deed.__init__", defArgs st_Deed____init__, defBody st_Deed____init__, defScope st_Deed____init__, [], []⟩
def dd_Deed____enter__ : He.DefD := ⟨("Deed", some "__enter__"), "__enter__", "Deed.__enter__", defArgs st_Deed____enter__, defBody st_Deed____enter__, defScope st_Deed____enter__, [], []⟩
def dd_Deed____exit__ : He.DefD := ⟨("Deed", some "__exit__"), "__exit__", "Deed.__exit__", defArgs st_Deed____exit__, defBody st_Deed____exit__, defScope st_Deed____exit__, [], []⟩
def dd_House__station : He.DefD := ⟨("House", some "station"), "station", "House.station", defArgs st_House__station, defBody st_House__station, defScope st_House__station, [], []⟩
def dd_Licence____init__ : He.DefD := ⟨("Licence", some "__init__"), "__init__", "Licence.__init__", defArgs st_Licence____init__, defBody st_Licence____init__, defScope st_Licence____init__, [], []⟩
def dd_Board__give : He.DefD := ⟨("Board", some "give"), "give", "Board.give", defArgs st_Board__give, defBody st_Board__give, defScope st_Board__give, [], []⟩
def dd_House__check_station : He.DefD := ⟨("House", some "check_station"), "check_station", "House.check_station", defArgs st_House__check_station, defBody st_House__check_station, defScope st_House__check_station, [], []⟩
def dd_House__check_hours : He.DefD := ⟨("House", some "check_hours"), "check_hours", "House.check_hours", defArgs st_House__check_hours, defBody st_House__check_hours, defScope st_House__check_hours, [], []⟩
def dd_Board__band_of : He.DefD := ⟨("Board", some "band_of"), "band_of", "Board.band_of", defArgs st_Board__band_of, defBody st_Board__band_of, defScope st_Board__band_of, [], []⟩
def dd_House__check_free : He.DefD := ⟨("House", some "check_free"), "check_free", "House.check_free", defArgs st_House__check_free, defBody st_House__check_free, defScope st_House__check_free, [], []⟩
def dd_seat : He.DefD := ⟨("seat", none), "seat", "seat", defArgs st_seat, defBody st_seat, defScope st_seat, [], []⟩
def dd_spread : He.DefD := ⟨("spread", none), "spread", "spread", defArgs st_spread, defBody st_spread, defScope st_spread, [], []⟩
def dd_ear : He.DefD := ⟨("ear", none), "ear", "ear", defArgs st_ear, defBody st_ear, defScope st_ear, [], []⟩
def dd_ears_of : He.DefD := ⟨("ears_of", none), "ears_of", "ears_of", defArgs st_ears_of, defBody st_ears_of, defScope st_ears_of, [], []⟩
def dd_gap : He.DefD := ⟨("gap", none), "gap", "gap", defArgs st_gap, defBody st_gap, defScope st_gap, [], []⟩
def dd_hears : He.DefD := ⟨("hears", none), "hears", "hears", defArgs st_hears, defBody st_hears, defScope st_hears, [], []⟩
def dd_first_unheard : He.DefD := ⟨("first_unheard", none), "first_unheard", "first_unheard", defArgs st_first_unheard, defBody st_first_unheard, defScope st_first_unheard, [], []⟩
def dd_all_heard : He.DefD := ⟨("all_heard", none), "all_heard", "all_heard", defArgs st_all_heard, defBody st_all_heard, defScope st_all_heard, [], []⟩
def dd_retuned : He.DefD := ⟨("retuned", none), "retuned", "retuned", defArgs st_retuned, defBody st_retuned, defScope st_retuned, [], []⟩
def dd_Board__tuning_in : He.DefD := ⟨("Board", some "tuning_in"), "tuning_in", "Board.tuning_in", defArgs st_Board__tuning_in, defBody st_Board__tuning_in, defScope st_Board__tuning_in, [], []⟩
def dd_House__least_band : He.DefD := ⟨("House", some "least_band"), "least_band", "House.least_band", defArgs st_House__least_band, defBody st_House__least_band, defScope st_House__least_band, [], []⟩
def dd_House__ask : He.DefD := ⟨("House", some "ask"), "ask", "House.ask", defArgs st_House__ask, defBody st_House__ask, defScope st_House__ask, [], []⟩
def dd_House__stations : He.DefD := ⟨("House", some "stations"), "stations", "House.stations", defArgs st_House__stations, defBody st_House__stations, defScope st_House__stations, [], []⟩
def dd_Board__hours_of : He.DefD := ⟨("Board", some "hours_of"), "hours_of", "Board.hours_of", defArgs st_Board__hours_of, defBody st_Board__hours_of, defScope st_Board__hours_of, [], []⟩
def dd_House__licences : He.DefD := ⟨("House", some "licences"), "licences", "House.licences", defArgs st_House__licences, defBody st_House__licences, defScope st_House__licences, [], []⟩
def dd_House__sending : He.DefD := ⟨("House", some "sending"), "sending", "House.sending", defArgs st_House__sending, defBody st_House__sending, defScope st_House__sending, [], []⟩
def dd_House__owed : He.DefD := ⟨("House", some "owed"), "owed", "House.owed", defArgs st_House__owed, defBody st_House__owed, defScope st_House__owed, [], []⟩
def dd__law_bag : He.DefD := ⟨("_law_bag", none), "_law_bag", "_law_bag", defArgs st__law_bag, defBody st__law_bag, defScope st__law_bag, [], []⟩
def dd__law_take : He.DefD := ⟨("_law_take", none), "_law_take", "_law_take", defArgs st__law_take, defBody st__law_take, defScope st__law_take, [], []⟩
def dd__law_of : He.DefD := ⟨("_law_of", none), "_law_of", "_law_of", defArgs st__law_of, defBody st__law_of, defScope st__law_of, [], []⟩
def dd__law_stations : He.DefD := ⟨("_law_stations", none), "_law_stations", "_law_stations", defArgs st__law_stations, defBody st__law_stations, defScope st__law_stations, [], []⟩
def dd_is_heard : He.DefD := ⟨("is_heard", none), "is_heard", "is_heard", defArgs st_is_heard, defBody st_is_heard, defScope st_is_heard, [], []⟩
def dd_unheard : He.DefD := ⟨("unheard", none), "unheard", "unheard", defArgs st_unheard, defBody st_unheard, defScope st_unheard, [], []⟩
def dd__law_least : He.DefD := ⟨("_law_least", none), "_law_least", "_law_least", defArgs st__law_least, defBody st__law_least, defScope st__law_least, [], []⟩
def dd_law : He.DefD := ⟨("law", none), "law", "law", defArgs st_law, defBody st_law, defScope st_law, [], []⟩
def fnL : List He.DefD := [dd_is_number, dd_is_whole, dd_is_leak, dd_Board____init__, dd_are_prices, dd_House____init__, dd_is_name, dd_is_tuple_of, dd_is_place, dd_is_need, dd_is_power, dd_check_power, dd_check_parts, dd_Deed____init__, dd_Deed____enter__, dd_Deed____exit__, dd_House__station, dd_Licence____init__, dd_Board__give, dd_House__check_station, dd_House__check_hours, dd_Board__band_of, dd_House__check_free, dd_seat, dd_spread, dd_ear, dd_ears_of, dd_gap, dd_hears, dd_first_unheard, dd_all_heard, dd_retuned, dd_Board__tuning_in, dd_House__least_band, dd_House__ask, dd_House__stations, dd_Board__hours_of, dd_House__licences, dd_House__sending, dd_House__owed, dd__law_bag, dd__law_take, dd__law_of, dd__law_stations, dd_is_heard, dd_unheard, dd__law_least, dd_law]
def faL : List He.Fa := [.glo "is_number", .glo "is_whole", .glo "is_leak", .mkr "Board", .glo "are_prices", .mkr "House", .glo "is_name", .glo "is_tuple_of", .glo "is_place", .glo "is_need", .glo "is_power", .glo "check_power", .glo "check_parts", .mkr "Deed", .meth "Deed" "__enter__", .meth "Deed" "__exit__", .meth "House" "station", .mkr "Licence", .meth "Board" "give", .meth "House" "check_station", .meth "House" "check_hours", .meth "Board" "band_of", .meth "House" "check_free", .glo "seat", .glo "spread", .glo "ear", .glo "ears_of", .glo "gap", .glo "hears", .glo "first_unheard", .glo "all_heard", .glo "retuned", .meth "Board" "tuning_in", .meth "House" "least_band", .meth "House" "ask", .meth "House" "stations", .meth "Board" "hours_of", .meth "House" "licences", .meth "House" "sending", .meth "House" "owed", .glo "_law_bag", .glo "_law_take", .glo "_law_of", .glo "_law_stations", .glo "is_heard", .glo "unheard", .glo "_law_least", .glo "law", .free "abs", .free "all", .free "bool", .free "dict", .free "enumerate", .free "int", .free "isinstance", .free "len", .free "list", .free "max", .free "min", .free "range", .free "sorted", .free "str", .free "sum", .free "tuple", .free "zip", .int "APART" 2, .int "FARTHEST" 1000, .int "LAST_BAND" 9, .int "LAST_HOUR" 999, .int "LONGEST" 23, .int "MOST_LEAK" 1000, .int "MOST_NEED" 1000, .int "MOST_POWER" 1000000, .int "MOST_PRICE" 1000, .int "MOST_STATIONS" 8, .int "NAME_LENGTH" 8, .int "SILENCE" 0, .glo "Board", .cls "Board", .glo "House", .cls "House", .glo "Deed", .cls "Deed", .glo "Licence", .cls "Licence", .noat "Board" "given", .noat "Board" "rows", .noat "Deed" "house", .noat "House" "busy", .noat "House" "prices", .noat "House" "leak", .noat "House" "hour", .noat "House" "members", .noat "House" "powers", .noat "House" "debts", .noat "House" "board", .noat "Licence" "name", .noat "Licence" "band", .noat "Licence" "price", .noat "Licence" "first", .noat "Licence" "last"]
def tgL : List He.Defn := [("are_prices", none), ("is_name", none), ("is_place", none), ("House", some "least_band")]
def tfL : List He.Defn := [("are_prices", none), ("is_name", none), ("is_place", none), ("House", some "least_band")]
def inL : List IniD := []
def exs (K : PySem.W.Frag) : List Bool := []
def exL (K : PySem.W.Frag) : Bool := (exs K).all id
abbrev RR : PySem.W.OpenRow := PySem.W.OpenLaw.row PySem.Challenge.rw_wavehall_k15_whole_whoever_is_refused_co
abbrev hkL : PySem.W.Hook := hookY 4 faL fnL tfL inL exL
def obL (s : PySem.W.SharedT) : AlY := obsY 4 faL fnL tfL inL exL (HandSHeadRun.getT s)
theorem ob_eq (s : PySem.W.SharedT) : obL s = hkL.obs s.abs := obsY_eq (HandSHeadRun.getT_eq s)
def looseL : List PySem.Str := (["_wall", "NAME_LENGTH", "is_number", "is_whole", "is_name", "is_tuple_of", "copied", "WaveError", "ToldError", "NoPrices", "NoLeak", "NoName"] : List PySem.Str) ++ (["NoPlace", "NoPower", "NoNeed", "NoHours", "NoHour", "Taken", "AskedError", "NoStation", "Busy", "Full", "MOST_STATIONS", "FARTHEST"] : List PySem.Str) ++ (["MOST_POWER", "MOST_NEED", "MOST_LEAK", "LAST_BAND", "SILENCE", "APART", "is_place", "is_power", "is_need", "is_leak", "seat", "spread"] : List PySem.Str) ++ (["gap", "ear", "ears_of", "hears", "first_unheard", "all_heard", "retuned", "is_heard", "unheard", "LAST_HOUR", "Licence", "Board"] : List PySem.Str) ++ (["MOST_PRICE", "LONGEST", "are_prices", "check_power", "check_parts", "Deed", "House", "_law_bag", "_law_take", "_law_of", "_law_stations", "_law_least"] : List PySem.Str)
theorem runL (w : World) : HandSHeadRun.RunEq RR (PySem.W.view RR.prog [66]) hkL obL 20000 looseL w := by
  intro os
  kernel_rfl
end K15
set_option Elab.async false
set_option linter.all false
set_option maxRecDepth 100000
set_option maxHeartbeats 1000000
namespace EL
open PySem PySem.Spec PyProof.Rows L2 GxR LG
open PySem.W (EachIs AllAlike Sortable dataLe sorted_data)
def SortOk (ds : List D) : Prop := okBs 59 ds = true ∧ AllAlike (ds.map pd) ∧ Sortable (ds.map pd) ∧ ds.length ≤ sizeLine
open Classical in
noncomputable def sortedZ : HA
  | [d], st => (listOf d st).bind fun ds => if SortOk ds then some (.lst (ds.mergeSort (dataLe false pd)), st) else none
  | _, _ => none
section
variable {G : G0} {X : Cx} {μ : Mu} {H : Hp}
theorem each_reps : ∀ {ds : List D} {ws : List V} {us : List Value}, Reps G μ H ds ws → Vals ws us → EachIs (fun v b => ∃ x, RelV x v ∧ Rep G μ H b x) us ds
  | [], _, _, .nil, .nil => .nil
  | _ :: _, _, _, .cons r t, .cons a b => .cons ⟨_, a, r⟩ (each_reps t b)
theorem reps_each : ∀ {ds : List D} {us : List Value}, EachIs (fun v b => ∃ x, RelV x v ∧ Rep G μ H b x) us ds → ∃ ws, Vals ws us ∧ Reps G μ H ds ws
  | [], _, .nil => ⟨[], .nil, .nil⟩
  | _ :: _, _, .cons ⟨x, r1, r2⟩ t => by
    obtain ⟨ws, h1, h2⟩ := reps_each t
    exact ⟨x :: ws, .cons r1 h1, .cons r2 h2⟩
theorem each_reads {pins : List (Addr × Obj)} {σ : L2.St} {s : Shared} {n : Nat} (o : On G X) (I : Inv X pins σ H s) : ∀ {ds : List D} {ws : List V} {us : List Value}, okBs n ds = true → Reps G μ H ds ws → Vals ws us → EachIs (fun v b => ∃ as, Reads s.heap v (pd b) as) us ds
  | [], _, _, _, .nil, .nil => .nil
  | d :: ds, _, _, h, .cons r t, .cons a b => by
    unfold okBs at h
    obtain ⟨h1, h2⟩ := Bool.and_eq_true_iff.mp h
    exact .cons (Dp.reads I _ _ _ (by rw [o.K]; exact pd_ok h1 r) a) (each_reads o I h2 t b)
theorem okBs_at {n : Nat} : ∀ {ds : List D}, okBs n ds = true → ∀ d ∈ ds, okB n d = true
  | [], _, _, h => by cases h
  | x :: ds, h, d, hd => by
    unfold okBs at h
    obtain ⟨h1, h2⟩ := Bool.and_eq_true_iff.mp h
    rcases List.mem_cons.mp hd with rfl | hd
    · exact h1
    · exact okBs_at h2 d hd
theorem dc_sorted {k : Nat} (o : On G X) (hr : Room k X.A) : CallR X (.builtin "sorted") (rDA G sortedZ) := fun pins s σ H vs us Q I r ⟨μ, st, ds, z, st', S, R, e, kk⟩ => by
  unfold sortedZ at e
  split at e
  · obtain ⟨xs, e1, e⟩ := Option.bind_eq_some_iff.mp e
    split at e
    · rename_i hok
      cases e
      cases R with
      | cons R1 t =>
        cases t
        obtain ⟨a, ws, rfl, hs, rp⟩ := list_rep S R1 e1
        obtain ⟨its, rv, hl, hz⟩ := I.list (X := X) (by rw [o.K]; exact hs)
        obtain ⟨h1, h2, h3, h4⟩ := hok
        have un := hr.un
        rw [Vals.ref1 r]
        refine sorted_data (R := fun v b => ∃ x, RelV x v ∧ Rep G μ H b x) (bs := xs) (enc := pd) (vs := its) hl.isList (each_reps rp rv) (each_reads o I h1 rp rv) h2 h3 h4 (fun b hb => ?_) fun out ho he => ?_
        · have := (ok_shape (okBs_at h1 b hb)).2
          omega
        · obtain ⟨ep, he'⟩ := PyProof.Rows.sortedAll_at s.heap its out.toArray
          obtain ⟨zs, v1, r1⟩ := reps_each he
          have hn : H (s.heap.objs.size + 1) = none := I.hok.fresh (Nat.le_succ _)
          have hlen : zs.length ≤ sizeLine := by rw [← r1.length, (List.mergeSort_perm xs _).length_eq]; exact h4
          refine ⟨.ref _, upd H (s.heap.objs.size + 1) (.lst zs), I.laid (t' := s.toks) (fun _ _ => PyProof.Rows.sortedAll_old) (Nat.le_succ _) ⟨hlen, out, ep, v1, he'⟩, rfl, ?_⟩
          exact kk μ _ _ (Ext.new S hn) (S.newT hn) (.lst ⟨upd_same, fun z => S.tracked z hn, fun z => S.hid_ne z hn rfl⟩ (r1.ext (Ext.new S hn)))
    · cases e
  · cases e
end
end EL
set_option Elab.async false
set_option linter.all false
set_option maxRecDepth 100000
set_option maxHeartbeats 1000000
namespace EL
open PySem PySem.Spec PyProof.Rows L2 GxR LG
def dictK : D → Sto → Option (Nat × List (Key × D))
  | .ref l, st => match st[l]? with
    | some (.dK kvs) => some (l, kvs)
    | _ => none
  | _, _ => none
section
variable {G : G0} {X : Cx} {μ : Mu} {H : Hp} {st : Sto}
theorem dictK_rep {d : D} {v : V} {l : Nat} {kvs : List (Key × D)} (S : StR G μ st H) (R : Rep G μ H d v) (e : dictK d st = some (l, kvs)) : d = .ref l ∧ st[l]? = some (.dK kvs) ∧ ∃ a vs, v = .ref a ∧ μ.pl[l]? = some a ∧ H a = some (.dK vs) ∧ RKs G μ H kvs vs := by
  unfold dictK at e
  split at e
  · split at e
    · rename_i kk hl
      cases e
      cases R with
      | ref h =>
        obtain ⟨vs, h1, h2⟩ := S.obj _ _ _ hl h
        exact ⟨rfl, hl, _, vs, rfl, h, h1, h2⟩
    · cases e
  · cases e
def inK (neg : Bool) : D → D → Sto → Option (D × Sto) := fun c d st => (key1 c).bind fun k => (dictK d st).bind fun p => some (.bl (nB neg (valD p.2 k).isSome), st)
theorem some_rep {kvs : List (Key × D)} {vs : List (Key × V)} (k : Key) (rk : RKs G μ H kvs vs) : (valV vs k).isSome = (valD kvs k).isSome := by
  rcases val_rep k rk with ⟨_, _, q1, q2, _⟩ | ⟨q1, q2⟩ <;> rw [q1, q2] <;> rfl
theorem do_inK (o : On G X) {k : Nat} (hr : Room k X.A) : OpR X (compareOp .In) (rD G (inK false)) := fun pins s σ H x y v u Q I rx ry ⟨μ, st, c, d, z, st', S, Rc, Rd, e, kk⟩ => by
  unfold inK at e
  obtain ⟨ks, e1, e⟩ := Option.bind_eq_some_iff.mp e
  obtain ⟨⟨l, kvs⟩, e2, e3⟩ := Option.bind_eq_some_iff.mp e
  cases e3
  have ex := key1_rep Rc e1
  obtain ⟨_, _, a, vs, rfl, _, ha, rk⟩ := dictK_rep S Rd e2
  obtain rfl : u = Value.ref a := ry
  have un := hr.units
  subst ex
  refine d_in (o := valV vs ks) (by omega) I (.k ha) rx fun s' J => ⟨.bl (valV vs ks).isSome, H, J, rfl, ?_⟩
  rw [some_rep ks rk]
  exact kk μ H _ .refl S (.bl _)
theorem do_notinK (o : On G X) {k : Nat} (hr : Room k X.A) : OpR X (compareOp .NotIn) (rD G (inK true)) := fun pins s σ H x y v u Q I rx ry ⟨μ, st, c, d, z, st', S, Rc, Rd, e, kk⟩ => by
  unfold inK at e
  obtain ⟨ks, e1, e⟩ := Option.bind_eq_some_iff.mp e
  obtain ⟨⟨l, kvs⟩, e2, e3⟩ := Option.bind_eq_some_iff.mp e
  cases e3
  have ex := key1_rep Rc e1
  obtain ⟨_, _, a, vs, rfl, _, ha, rk⟩ := dictK_rep S Rd e2
  obtain rfl : u = Value.ref a := ry
  have un := hr.units
  subst ex
  refine d_notIn (o := valV vs ks) (by omega) I (.k ha) rx fun s' J => ⟨.bl (!(valV vs ks).isSome), H, J, rfl, ?_⟩
  rw [some_rep ks rk]
  exact kk μ H _ .refl S (.bl _)
def fDNewK : FE := fun _ st => some (.ref st.length, st ++ [.dK []])
theorem de_dnewK {pos : Pos} : PE X (.Dict [] [] pos) (lift G fDNewK) := PE.imp pe_dnewK fun σ H Q ⟨ρ, μ, st, d, st', E, S, e, k⟩ => by
  cases e
  intro p hp
  refine k (μ.add p) _ _ (Ext.newAt S hp) (S.newO hp trivial ⟨[], upd_same, rfl, .nil⟩) (.ref ?_)
  show (μ.pl ++ [p])[st.length]? = some p
  rw [← S.len]
  simp
def getK : D → D → Sto → Option (D × Sto) := fun c d st => (dictK c st).bind fun p => (key1 d).bind fun k => (valD p.2 k).bind fun v => some (v, st)
theorem de_getK {a b : Expr} {fa fb : FE} {pos : Pos} {k : Nat} (hr : Room k X.A) (ha : PE X a (lift G fa)) (hb : PE X b (lift G fb)) (hs : NoSl b) : PE X (.Subscript a b pos) (lift G (fOp getK fa fb)) := by
  have un := hr.units
  refine PE.imp (pe_dget (by omega) ha hb hs) fun σ H Q ⟨ρ, μ, st, d, st', E, S, e, kk⟩ => ?_
  unfold fOp at e
  obtain ⟨p, e1, e⟩ := Option.bind_eq_some_iff.mp e
  obtain ⟨q, e2, e⟩ := Option.bind_eq_some_iff.mp e
  unfold getK at e
  obtain ⟨⟨l, kvs⟩, e3, e⟩ := Option.bind_eq_some_iff.mp e
  obtain ⟨ks, e4, e⟩ := Option.bind_eq_some_iff.mp e
  obtain ⟨v, e5, e6⟩ := Option.bind_eq_some_iff.mp e
  cases e6
  refine ⟨ρ, μ, st, p.1, p.2, E, S, e1, fun μ1 H1 x X1 S1 R1 => ⟨ρ, μ1, p.2, q.1, q.2, E.ext X1, S1, e2, fun μ2 H2 y X2 S2 R2 => ?_⟩⟩
  have ey := key1_rep R2 e4
  obtain ⟨_, _, aa, vs, rfl, _, ha2, rk⟩ := dictK_rep S2 (R1.ext X2) e3
  subst ey
  rcases val_rep ks rk with ⟨d', v', q1, q2, q3⟩ | ⟨q1, _⟩
  · have q1 : valD kvs ks = some d' := q1
    rw [q1] at e5
    cases e5
    exact ⟨aa, v', rfl, by rw [← q2]; exact .k ha2, kk μ2 H2 _ (X1.trans X2) S2 q3⟩
  · have q1 : valD kvs ks = none := q1
    rw [q1] at e5
    cases e5
def sDPutK (fv fo fi : FE) : FS := fun ρ st => (fv ρ st).bind fun p => (fo ρ p.2).bind fun q => (fi ρ q.2).bind fun r => (dictK q.1 r.2).bind fun z => (key1 r.1).bind fun k => if z.2.length < sizeLine then some (.nx, ρ, r.2.set z.1 (.dK (putD z.2 k p.1))) else none
theorem rk_len {α : Type} {kvs : List (α × D)} {vs : List (α × V)} (rk : RKs G μ H kvs vs) : kvs.length = vs.length := by have := congrArg List.length rk.1; simpa using this
theorem ds_dputK {a b e : Expr} {fv fo fi : FE} {p1 pos : Pos} {k : Nat} {W : WX} (hr : Room k X.A) (hv : PE X e (lift G fv)) (ho : PE X a (lift G fo)) (hi : PE X b (lift G fi)) (hs : swapsWith e (some (.Subscript a b p1)) pos.line X.env = pure false := by rfl) :
    PS X (.Assign [.Subscript a b p1] e pos) (liftS G W (sDPutK fv fo fi)) := by
  have un := hr.units
  refine PS.imp (ps_dput (by omega) ho hi hv hs) fun D0 σ H ⟨ρ, μ, st, fl, ρ', st', E, S, e, kk⟩ => ?_
  unfold sDPutK at e
  obtain ⟨p, e1, e⟩ := Option.bind_eq_some_iff.mp e
  obtain ⟨q, e2, e⟩ := Option.bind_eq_some_iff.mp e
  obtain ⟨r, e3, e⟩ := Option.bind_eq_some_iff.mp e
  obtain ⟨⟨l, kvs⟩, e4, e⟩ := Option.bind_eq_some_iff.mp e
  obtain ⟨ks, e5, e⟩ := Option.bind_eq_some_iff.mp e
  split at e
  · rename_i hz
    cases e
    refine ⟨ρ, μ, st, p.1, p.2, E, S, e1, fun μ1 H1 v X1 S1 R1 => ⟨ρ, μ1, p.2, q.1, q.2, E.ext X1, S1, e2, fun μ2 H2 w X2 S2 R2 => ⟨ρ, μ2, q.2, r.1, r.2, E.ext (X1.trans X2), S2, e3, fun μ3 H3 u X3 S3 R3 => ?_⟩⟩⟩
    have eu := key1_rep R3 e5
    obtain ⟨_, hl, aa, vs, rfl, hpl, ha2, rk⟩ := dictK_rep S3 (R2.ext X3) e4
    subst eu
    have hm : aa ∈ μ3.pl := List.mem_of_getElem? hpl
    have X4 : Ext G μ3 H3 μ3 (upd H3 aa (.dK (putK vs ks v))) := Ext.own S3 hm ha2 trivial
    have S4 := S3.setO (o := .dK (putD kvs ks p.1)) hpl (y := .dK (putK vs ks v)) trivial ⟨_, upd_same, (put_rep rk (R1.ext (X2.trans X3))).ext X4⟩
    refine ⟨aa, _, rfl, .k ha2 ?_, kk μ3 _ (X1.trans (X2.trans (X3.trans X4))) S4 σ (E.ext (X1.trans (X2.trans (X3.trans X4))))⟩
    have hz : kvs.length < sizeLine := hz
    rw [← rk_len rk]
    exact hz
  · cases e
/-- d[y] op= i -/
def sDAugK (sg : Bool) (fv fo fi : FE) : FS := fun ρ st => (fo ρ st).bind fun p => (fi ρ p.2).bind fun q => (dictK p.1 q.2).bind fun z => (key1 q.1).bind fun k => (valD z.2 k).bind fun v => (fv ρ q.2).bind fun r => match v, r.1 with
  | .int i, .int j => (dictK p.1 r.2).bind fun z2 => if z2.2.length < sizeLine then some (.nx, ρ, r.2.set z2.1 (.dK (putD z2.2 k (.int (if sg = true then i + j else i - j))))) else none
  | _, _ => none
theorem daug_core {fv fo fi : FE} {W : WX} {sg : Bool} {D0 : Ends} {σ : L2.St} {H : Hp} (h : liftS G W (sDAugK sg fv fo fi) D0 σ H) : sDAug (lift G fo) (lift G fi) (lift G fv) (fun x y H Q => ∃ i j, x = .int i ∧ y = .int j ∧ Q (.int (if sg = true then i + j else i - j)) H) D0 σ H := by
  obtain ⟨ρ, μ, st, fl, ρ', st', E, S, e, kk⟩ := h
  unfold sDAugK at e
  obtain ⟨p, e1, e⟩ := Option.bind_eq_some_iff.mp e
  obtain ⟨q, e2, e⟩ := Option.bind_eq_some_iff.mp e
  obtain ⟨⟨l, kvs⟩, e3, e⟩ := Option.bind_eq_some_iff.mp e
  obtain ⟨ks, e4, e⟩ := Option.bind_eq_some_iff.mp e
  obtain ⟨v, e5, e⟩ := Option.bind_eq_some_iff.mp e
  obtain ⟨r, e6, e⟩ := Option.bind_eq_some_iff.mp e
  split at e
  · rename_i i j er _
    obtain ⟨⟨l2, kv2⟩, e7, e⟩ := Option.bind_eq_some_iff.mp e
    split at e
    · rename_i hz
      cases e
      refine ⟨ρ, μ, st, p.1, p.2, E, S, e1, fun μ1 H1 x X1 S1 R1 => ⟨ρ, μ1, p.2, q.1, q.2, E.ext X1, S1, e2, fun μ2 H2 y X2 S2 R2 => ?_⟩⟩
      have ey := key1_rep R2 e4
      obtain ⟨_, _, aa, vs, rfl, _, ha2, rk⟩ := dictK_rep S2 (R1.ext X2) e3
      subst ey
      rcases val_rep ks rk with ⟨d', v', q1, q2, q3⟩ | ⟨q1, _⟩
      · have q1 : valD kvs ks = some d' := q1
        rw [q1] at e5
        cases e5
        refine ⟨aa, v', rfl, by rw [← q2]; exact .k ha2, ρ, μ2, q.2, r.1, r.2, (E.ext X1).ext X2, S2, e6, fun μ3 H3 y3 X3 S3 R3 => ?_⟩
        rw [er] at R3
        cases R3
        cases q3
        refine ⟨i, j, rfl, rfl, ?_⟩
        obtain ⟨_, hl, a2, ws, ea, hpl, ha3, rk3⟩ := dictK_rep S3 ((R1.ext X2).ext X3) e7
        cases ea
        have hm : aa ∈ μ3.pl := List.mem_of_getElem? hpl
        have X4 : Ext G μ3 H3 μ3 (upd H3 aa (.dK (putK ws ks (.int (if sg = true then i + j else i - j))))) := Ext.own S3 hm ha3 trivial
        have S4 := S3.setO (o := .dK (putD kv2 ks (.int (if sg = true then i + j else i - j)))) hpl (y := .dK (putK ws ks (.int (if sg = true then i + j else i - j)))) trivial ⟨_, upd_same, (put_rep rk3 (.int _)).ext X4⟩
        refine ⟨_, .k ha3 ?_, kk μ3 _ (X1.trans (X2.trans (X3.trans X4))) S4 σ (E.ext (X1.trans (X2.trans (X3.trans X4))))⟩
        have hz : kv2.length < sizeLine := hz
        rw [← rk_len rk3]
        exact hz
      · have q1 : valD kvs ks = none := q1
        rw [q1] at e5
        cases e5
    · cases e
  · cases e
theorem ds_daugP {a b e : Expr} {fv fo fi : FE} {p1 pos : Pos} {k : Nat} {W : WX} (hr : Room k X.A) (hv : PE X e (lift G fv)) (ho : PE X a (lift G fo)) (hi : PE X b (lift G fi))
    (hs : ∀ ov iv new, augStore b ov iv new = (do holding [new, ov, iv] (setItem ov iv new); release [new, ov, iv] []; pure .next)) : PS X (.AugAssign (.Subscript a b p1) .Add e pos) (liftS G W (sDAugK true fv fo fi)) := by
  have un := hr.units
  exact PS.imp (ps_daug (by omega) ho hi hv in_add hs) fun D0 σ H q => daug_core q
def getNK : D → D → Sto → Option (D × Sto) := fun c d st => (dictK c st).bind fun p => (key1 d).bind fun k => some ((valD p.2 k).getD .non, st)
def fDGet1K (fo fe : FE) : FE := fun ρ st => (fo ρ st).bind fun p => (dictK p.1 p.2).bind fun _ => (fe ρ p.2).bind fun q => getNK p.1 q.1 q.2
theorem de_get1K {a b : Expr} {fa fb : FE} {apos pos : Pos} {k : Nat} (hr : Room k X.A) (ha : PE X a (lift G fa)) (hb : PE X b (lift G fb)) (m : M1 X a "get" apos b pos) : PE X (.Call (.Attribute a "get" apos) [b] [] pos) (lift G (fDGet1K fa fb)) := by
  have un := hr.units
  refine PE.imp (pe_dget1 (by omega) ha hb m) fun σ H Q ⟨ρ, μ, st, d, st', E, S, e, kk⟩ => ?_
  unfold fDGet1K at e
  obtain ⟨p, e1, e⟩ := Option.bind_eq_some_iff.mp e
  obtain ⟨⟨l0, kv0⟩, e0, e⟩ := Option.bind_eq_some_iff.mp e
  obtain ⟨q, e2, e⟩ := Option.bind_eq_some_iff.mp e
  unfold getNK at e
  obtain ⟨⟨l, kvs⟩, e3, e⟩ := Option.bind_eq_some_iff.mp e
  obtain ⟨ks, e4, e5⟩ := Option.bind_eq_some_iff.mp e
  cases e5
  refine ⟨ρ, μ, st, p.1, p.2, E, S, e1, fun μ1 H1 x X1 S1 R1 => ?_⟩
  obtain ⟨_, _, a0, vs0, rfl, _, ha0, rk0⟩ := dictK_rep S1 R1 e0
  refine ⟨a0, rfl, .inl ⟨vs0, .inl ha0⟩, ρ, μ1, p.2, q.1, q.2, E.ext X1, S1, e2, fun μ2 H2 y X2 S2 R2 => ?_⟩
  have ey := key1_rep R2 e4
  obtain ⟨_, _, aa, vs, h1, _, ha2, rk⟩ := dictK_rep S2 (R1.ext X2) e3
  cases h1
  subst ey
  refine ⟨valV vs ks, .k ha2, ?_⟩
  rcases val_rep ks rk with ⟨d', v', q1, q2, q3⟩ | ⟨q1, q2⟩
  · have q1 : valD kvs ks = some d' := q1
    rw [q1] at kk
    rw [q2]
    exact kk μ2 H2 _ (X1.trans X2) S2 q3
  · have q1 : valD kvs ks = none := q1
    rw [q1] at kk
    rw [q2]
    exact kk μ2 H2 _ (X1.trans X2) S2 .non
end
end EL
set_option Elab.async false
set_option linter.all false
set_option maxRecDepth 100000
set_option maxHeartbeats 1000000
namespace EL
open PySem PySem.Spec PyProof.Rows L2 GxR LG
section
variable {G : G0} {X : Cx} {μ : Mu} {H : Hp} {st : Sto}
theorem de_meth0 {k n : Nat} {c m : Str} {fn : HA} {a : Expr} {fo : FE} {apos pos : Pos} {pl : Sem Bool} (o : On G X) (F : DefM G k c m n fn) (hr : Room k X.A) (ho : PE X a (lift G fo))
    (ht : eval (.Call (.Attribute a m apos) [] [] pos) X.env = (do
      let ov ← eval a X.env
      standAt apos.atName
      let (f, first) ← holding [ov] (getMethod ov m pl)
      callWith pos f first (backTo pos (starEach [] X.env)) (backToKw pos (keywordEach [] X.env))) := by rfl) : PE X (.Call (.Attribute a m apos) [] [] pos) (lift G (fMeth c m n fn fo fNil)) := by
  obtain ⟨C, f, fd, ps, hl, F, hC, cl, me, hb⟩ := F.ex
  have F' : FnOk X.prog X.w X.K X.mg X.base CX0 k f fd ps (spD G n fn) := by rw [o.prog, o.w, o.K, o.mg, o.base]; exact F
  refine PE.imp (pe_meth0 ho (by rw [o.K]; exact cl) (by rw [o.K]; exact me) F' hr (by rw [o.K]; exact hb) .nil pass0 ht) fun σ H Q ⟨ρ, μ, st, d, st', E, S, e, kk⟩ => ?_
  unfold fMeth at e
  obtain ⟨p, e1, e⟩ := Option.bind_eq_some_iff.mp e
  obtain ⟨⟨l, gs⟩, e2, e⟩ := Option.bind_eq_some_iff.mp e
  split at e
  · rename_i hn
    obtain ⟨q, e3, e⟩ := Option.bind_eq_some_iff.mp e
    cases e3
    split at e
    · rename_i hz
      refine ⟨ρ, μ, st, p.1, p.2, E, S, e1, fun μ1 H1 x X1 S1 R1 => ?_⟩
      obtain ⟨_, _, aa, C', dx, vs, rfl, _, hC', ha', rk⟩ := ins_rep S1 R1 e2
      rw [hC] at hC'
      cases hC'
      refine ⟨aa, dx, vs, rfl, ha', ?_, ⟨μ1, p.2, [p.1], d, st', hz, S1, by rw [List.append_nil]; exact .cons R1 .nil, e, kk.trans X1⟩⟩
      rcases look_rep m rk with ⟨d', v', q1, q2, q3⟩ | ⟨_, q2⟩
      · have q1 : gs.lookup m = some d' := q1
        have hn : gs.lookup m = none := hn
        rw [hn] at q1
        cases q1
      · exact q2
    · cases e
  · cases e
/-- a new instance, as its __init__ finds it -/
theorem made_rep {c : Str} {C x dx : Addr} {H1 : Hp} {μ1 : Mu} {s1 : Sto} (hC : G.mg c = some (.ref C)) (S1 : StR G μ1 s1 H1) (hx : H1 x = none) (hdx : H1 dx = none) (ne : dx ≠ x) :
    Ext G μ1 H1 (μ1.add x) (upd (upd H1 dx (.own x)) x (.ins C dx [])) ∧ StR G (μ1.add x) (s1 ++ [.ins c []]) (upd (upd H1 dx (.own x)) x (.ins C dx [])) ∧ (μ1.add x).pl[s1.length]? = some x := by
  have X2 : Ext G μ1 H1 μ1 (upd H1 dx (.own x)) := Ext.new S1 hdx
  have S2 : StR G μ1 s1 (upd H1 dx (.own x)) := S1.newT hdx
  have hx2 : upd H1 dx (.own x) x = none := by rw [upd_ne (Ne.symm ne)]; exact hx
  refine ⟨X2.trans (Ext.newAt S2 hx2), S2.newO hx2 trivial ⟨C, dx, [], hC, upd_same, rfl, .nil⟩, ?_⟩
  show (μ1.pl ++ [x])[s1.length]? = some x
  rw [← S1.len]
  simp
theorem de_make0 {k n : Nat} {c : Str} {fn : HA} {p0 pos : Pos} (o : On G X) (F : DefI G k c n fn) (hr : Room (k + 1) X.A) (hg : Gl X c) (hdb : (c == ("__debug__" : Str)) = false := by decide) : PE X (.Call (.Name c p0) [] [] pos) (lift G (fMake c n fn fNil)) := by
  obtain ⟨C, f, fd, ps, hl, F, hC, mk, hb⟩ := F.ex
  have F' : FnOk X.prog X.w X.K X.mg X.base CX0 k f fd ps (spD G n fn) := by rw [o.prog, o.w, o.K, o.mg, o.base]; exact F
  refine PE.imp (pe_make0 (by rw [o.K]; exact mk) F' hr hg (by rw [o.mg]; exact hC) (by rw [o.K]; exact hb) .nil pass0 hdb) fun σ H Q ⟨ρ, μ, st, d, st', E, S, e, kk⟩ => ?_
  unfold fMake at e
  obtain ⟨p, e1, e⟩ := Option.bind_eq_some_iff.mp e
  cases e1
  split at e
  · rename_i hz
    obtain ⟨q, e2, e⟩ := Option.bind_eq_some_iff.mp e
    split at e
    · rename_i hq
      cases e
      intro x dx hx hdx ne
      obtain ⟨X3, S3, at0⟩ := made_rep hC S hx hdx ne
      refine ⟨μ.add x, st ++ [.ins c []], [.ref st.length], .non, q.2, by simpa using hz, S3, .cons (.ref at0) .nil, ?_, fun μ' H' v X4 S4 R4 => ?_⟩
      · rw [e2, ← hq]
      · cases R4
        exact ⟨rfl, kk μ' H' _ (X3.trans X4) S4 (.ref (X4.at at0))⟩
    · cases e
  · cases e
structure DefIK (G : G0) (k : Nat) (c : Str) (n : Nat) (ks : List Str) (fn : HA) : Prop where
  ex : ∃ (C f : Addr) (fd : FuncData) (ps : List Str) (g : List Value → List Value → List Value) (gV : List V → List V → List V), FnOk G.P G.w G.K G.mg G.base CX0 k f fd ps (spD G (n + 1 + ks.length) fn) ∧ G.mg c = some (.ref C) ∧ Mk G.K C f ∧ KBn G.K fd ps (n + 1) ks g gV ∧ ∀ vs zs, gV vs zs = vs ++ zs
def fMakeK (c : Str) (n m : Nat) (fn : HA) (fr fk : FA) : FE := fun ρ st => (fr ρ st).bind fun p => (fk ρ p.2).bind fun q => if p.1.length = n ∧ q.1.length = m then (fn (.ref q.2.length :: (p.1 ++ q.1)) (q.2 ++ [.ins c []])).bind fun r => match r.1 with
  | .non => some (.ref q.2.length, r.2)
  | _ => none
  else none
theorem PK.imp {kws : List Keyword} {t t' : TA} (h : PK X kws t) (i : ∀ σ H Q, t' σ H Q → t σ H Q) : PK X kws t' := ⟨fun pos pins s σ H Q I q => h.run pos pins s σ H Q I (i σ H Q q)⟩
theorem dk_nil : PK X [] (liftA G fNil) := PK.imp pk_nil fun σ H Q ⟨ρ, μ, st, d, st', E, S, e, k⟩ => by cases e; exact k μ H _ .refl S .nil
theorem dk_cons {e : Expr} {kws : List Keyword} {fa : FE} {fr : FA} {nm : Option Str} {kpos : Pos} (ha : PE X e (lift G fa)) (hr : PK X kws (liftA G fr)) : PK X (⟨nm, e, kpos⟩ :: kws) (liftA G (fCons fa fr)) :=
  PK.imp (pk_cons ha hr) fun σ H Q ⟨ρ, μ, st, d, st', E, S, e, k⟩ => by
    unfold fCons at e
    obtain ⟨p, e1, e⟩ := Option.bind_eq_some_iff.mp e
    obtain ⟨q, e2, e⟩ := Option.bind_eq_some_iff.mp e
    cases e
    exact ⟨ρ, μ, st, p.1, p.2, E, S, e1, fun μ1 H1 v X1 S1 R1 => ⟨ρ, μ1, p.2, q.1, q.2, E.ext X1, S1, e2, fun μ2 H2 vs X2 S2 R2 => k μ2 H2 _ (X1.trans X2) S2 (.cons (R1.ext X2) R2)⟩⟩
theorem de_makeK {k n : Nat} {c : Str} {ks : List Str} {fn : HA} {e : Expr} {es : List Expr} {kws : List Keyword} {fr fk : FA} {p0 pos : Pos} (o : On G X) (F : DefIK G k c n ks fn) (hr : Room (k + 1) X.A) (hg : Gl X c) (ha : PA X (e :: es) (liftA G fr)) (hkw : PK X kws (liftA G fk))
    (hall : (backToKw pos (keywordEach kws X.env)).all (·.1.isSome) = true := by rfl) (hks : (backToKw pos (keywordEach kws X.env)).filterMap (·.1) = ks := by rfl) (hdb : (c == ("__debug__" : Str)) = false := by decide)
    (he : starEach (e :: es) X.env = (false, eval e X.env) :: starEach es X.env := by rfl) (hpl : ((backTo pos (starEach (e :: es) X.env)).any (·.1) || (backToKw pos (keywordEach kws X.env)).any (·.1.isNone)) = false := by rfl) : PE X (.Call (.Name c p0) (e :: es) kws pos) (lift G (fMakeK c n ks.length fn fr fk)) := by
  obtain ⟨C, f, fd, ps, g, gV, F, hC, mk, hb, hg2⟩ := F.ex
  have F' : FnOk X.prog X.w X.K X.mg X.base CX0 k f fd ps (spD G (n + 1 + ks.length) fn) := by rw [o.prog, o.w, o.K, o.mg, o.base]; exact F
  refine PE.imp (pe_makeK (by rw [o.K]; exact mk) F' hr hg (by rw [o.mg]; exact hC) (by rw [o.K]; exact hb) pass0 ha hkw hall hks hdb he hpl) fun σ H Q ⟨ρ, μ, st, d, st', E, S, e, kk⟩ => ?_
  unfold fMakeK at e
  obtain ⟨p, e1, e⟩ := Option.bind_eq_some_iff.mp e
  obtain ⟨r, e2, e⟩ := Option.bind_eq_some_iff.mp e
  split at e
  · rename_i hz
    obtain ⟨q, e3, e⟩ := Option.bind_eq_some_iff.mp e
    split at e
    · rename_i hq
      cases e
      refine ⟨ρ, μ, st, p.1, p.2, E, S, e1, fun μ1 H1 vs X1 S1 R1 => ⟨ρ, μ1, p.2, r.1, r.2, E.ext X1, S1, e2, fun μ2 H2 zs X2 S2 R2 => ⟨by rw [← R1.length]; exact hz.1, by rw [← R2.length]; exact hz.2, fun x dx hx hdx ne => ?_⟩⟩⟩
      obtain ⟨X3, S3, at0⟩ := made_rep hC S2 hx hdx ne
      refine ⟨μ2.add x, r.2 ++ [.ins c []], .ref r.2.length :: (p.1 ++ r.1), .non, q.2, by simp [hz.1, hz.2]; omega, S3, ?_, ?_, fun μ' H' v X4 S4 R4 => ?_⟩
      · rw [hg2]
        exact .cons (.ref at0) (((R1.ext X2).ext X3).append (R2.ext X3))
      · rw [e3, ← hq]
      · cases R4
        exact ⟨rfl, kk μ' H' _ (X1.trans (X2.trans (X3.trans X4))) S4 (.ref (X4.at at0))⟩
    · cases e
  · cases e
end
end EL
set_option Elab.async false
set_option linter.all false
set_option maxRecDepth 100000
set_option maxHeartbeats 1000000
namespace EL
open PySem PySem.Spec PyProof.Rows L2 GxR LG
/-- an __exit__(self, *told) that does not look at what it is told -/
structure DefXt (G : G0) (k : Nat) (c : Str) (fx : HA) : Prop where
  ex : ∃ (C f : Addr), FnR G.P G.w G.K G.mg G.base CX0 k f (fun vs H Q _ => ∃ v rest μ st d z st', vs = v :: rest ∧ rest.length ≤ sizeLine ∧ StR G μ st H ∧ Rep G μ H d v ∧ fx [d] st = some (z, st') ∧ After G μ H z st' Q) ∧ G.mg c = some (.ref C) ∧ Meth G.K C "__exit__" f
def sWith (c : Str) (fe fx : HA) (fo : FE) (fb : FS) : FS := fun ρ st => (fo ρ st).bind fun p => (insOf c p.1 p.2).bind fun _ => (fe [p.1] p.2).bind fun q => (fb ρ q.2).bind fun r => match r.1 with
  | .ex _ => none
  | fl => (fx [p.1] r.2.2).bind fun z => some (fl, r.2.1, z.2)
/-- the ends of the body -/
def bodyE (G : G0) (μ : Mu) (H : Hp) (fl : Fl) (ρ : Rho) (st : Sto) : Ends where
  nx := fun σ' H' => fl = .nx ∧ ∃ μ', Ext G μ H μ' H' ∧ StR G μ' st H' ∧ EnvR G μ' H' ρ σ'
  bk := fun σ' H' => fl = .bk ∧ ∃ μ', Ext G μ H μ' H' ∧ StR G μ' st H' ∧ EnvR G μ' H' ρ σ'
  ct := fun σ' H' => fl = .ct ∧ ∃ μ', Ext G μ H μ' H' ∧ StR G μ' st H' ∧ EnvR G μ' H' ρ σ'
  rt := fun v H' => ∃ d, fl = .rt d ∧ ∃ μ', Ext G μ H μ' H' ∧ StR G μ' st H' ∧ Rep G μ' H' d v
section
variable {G : G0} {X : Cx}
theorem bodyE_end {W : WX} {μ μ' : Mu} {H H' : Hp} {fl : Fl} {ρ : Rho} {st : Sto} (hn : ∀ x, fl ≠ .ex x) (x : Ext G μ H μ' H') (S : StR G μ' st H') : endS G W μ' H' (bodyE G μ H fl ρ st) fl ρ := by
  cases fl with
  | nx => exact fun σ' E => ⟨rfl, μ', x, S, E⟩
  | bk => exact fun σ' E => ⟨rfl, μ', x, S, E⟩
  | ct => exact fun σ' E => ⟨rfl, μ', x, S, E⟩
  | rt d => exact fun v R => ⟨d, rfl, μ', x, S, R⟩
  | ex e => exact absurd rfl (hn e)
theorem with_split {c : Str} {fe fx : HA} {fo : FE} {fb : FS} {ρ ρ' : Rho} {st st' : Sto} {fl : Fl} (e : sWith c fe fx fo fb ρ st = some (fl, ρ', st')) : ∃ p l gs q s3 z, fo ρ st = some p ∧ insOf c p.1 p.2 = some (l, gs) ∧ fe [p.1] p.2 = some q ∧ fb ρ q.2 = some (fl, ρ', s3) ∧ (∀ x, fl ≠ .ex x) ∧ fx [p.1] s3 = some (z, st') := by
  unfold sWith at e
  obtain ⟨p, e1, e⟩ := Option.bind_eq_some_iff.mp e
  obtain ⟨⟨l, gs⟩, e2, e⟩ := Option.bind_eq_some_iff.mp e
  obtain ⟨q, e3, e⟩ := Option.bind_eq_some_iff.mp e
  obtain ⟨⟨f, ρ1, s3⟩, e4, e⟩ := Option.bind_eq_some_iff.mp e
  refine ⟨p, l, gs, q, s3, ?_⟩
  cases f with
  | ex x => cases e
  | _ =>
    obtain ⟨z, e5, e6⟩ := Option.bind_eq_some_iff.mp e
    cases e6
    exact ⟨z.1, e1, e2, e3, e4, (fun _ w => by cases w), e5⟩
theorem ds_with {c : Str} {fe fx : HA} {fo : FE} {fb : FS} {k : Nat} {ctx : Expr} {body : List Stmt} {pos : Pos} {W W' : WX} (o : On G X) (Fe : DefM G k c "__enter__" 1 fe) (Fx : DefXt G k c fx) (hr : Room k X.A) (ho : PE X ctx (lift G fo)) (hb : PSs X.nox body (liftS G W' fb)) :
    PS X (.With [⟨ctx, none⟩] body pos) (liftS G W (sWith c fe fx fo fb)) := by
  refine ⟨fun pins s σ H D I ⟨ρ, μ, st, fl, ρ', st', E, S, e, kk⟩ => ?_⟩
  obtain ⟨p, l, gs, q, s3, z, e1, e2, e3, e4, hn, e5⟩ := with_split e
  obtain ⟨C, f, fd, ps, hl, Ff, hC, cl, me, hbi⟩ := Fe.ex
  obtain ⟨C', f', Fg, hC', me'⟩ := Fx.ex
  rw [hC] at hC'
  cases hC'
  have F' : FnOk X.prog X.w X.K X.mg X.base CX0 k f fd ps (spD G 1 fe) := by rw [o.prog, o.w, o.K, o.mg, o.base]; exact Ff
  have G' := Fg
  rw [← o.prog, ← o.w, ← o.K, ← o.mg, ← o.base] at G'
  refine PySem.W.kw_exec0 (thn (ho.run pins s σ H (fun v H1 => ∃ μ1, Ext G μ H μ1 H1 ∧ StR G μ1 p.2 H1 ∧ Rep G μ1 H1 p.1 v) I ⟨ρ, μ, st, p.1, p.2, E, S, e1, fun μ1 H1 v X1 S1 R1 => ⟨μ1, X1, S1, R1⟩⟩) fun v s1 ⟨x, H1, I1, rx, μ1, X1, S1, R1⟩ => ?_)
  obtain ⟨_, _, a, C2, dx, vs, rfl, _, hC2, ha, rk⟩ := ins_rep S1 R1 e2
  rw [hC] at hC2
  cases hC2
  obtain rfl : v = Value.ref a := rx
  obtain ⟨mA, O, _⟩ := ins_get I1.hok ha
  obtain ⟨od, J, _⟩ := O.look
  refine PySem.W.kw_core0 I1.kIn J (by rw [o.K]; exact me.at_) (by rw [o.K]; exact me.fn) (by rw [o.K]; exact me'.at_) (by rw [o.K]; exact me'.fn) ?_
  refine thn (run_fn (us := [.ref a]) (vs := [.ref a]) (Q := fun _ H2 => ∃ μ2, Ext G μ1 H1 μ2 H2 ∧ StR G μ2 q.2 H2) F' hr (by rw [o.K]; exact hbi) .nil (E := fun _ _ _ => False) pass0 I1 (.cons rfl .nil) ⟨μ1, p.2, [p.1], q.1, q.2, rfl, S1, by rw [List.append_nil]; exact .cons R1 .nil, e3, fun μ2 H2 v X2 S2 R2 => ⟨μ2, X2, S2⟩⟩) fun v2 s2 ⟨y, H2, I2, ry, μ2, X2, S2⟩ => ?_
  refine wpAny_mono (hb.run pins s2 σ H2 (bodyE G μ2 H2 fl ρ' s3) (I2.wish _) ⟨ρ, μ2, q.2, fl, ρ', s3, (E.ext X1).ext X2, S2, e4, fun μ3 H3 X3 S3 => bodyE_end hn X3 S3⟩) (fun g s4 zz => ?_) fun _ _ z => z.elim
  have zz' : SP X pins (bodyE G μ2 H2 fl ρ' s3) g s4 := zz.unwish
  have out : ∀ {σ3 : L2.St} {H3 : Hp} {μ3 : Mu}, Inv X pins σ3 H3 s4 → Ext G μ2 H2 μ3 H3 → StR G μ3 s3 H3 → (∀ μ4 H4, Ext G μ3 H3 μ4 H4 → StR G μ4 st' H4 → ∀ s5, Inv X pins σ3 H4 s5 → SP X pins D g s5) → wpAny (model X.prog X.w) X.A (call (.ref f') [.ref a, .none, .none, .none]) (fun _ s5 => SP X pins D g s5) X.xe s4 := by
    intro σ3 H3 μ3 I3 X3 S3 fin
    refine thn (wpAny_call (run_fnR (us := [.ref a, .none, .none, .none]) (vs := [.ref a, .non, .non, .non]) (E := fun _ _ _ => False) (Q := fun _ H4 => ∃ μ4, Ext G μ3 H3 μ4 H4 ∧ StR G μ4 st' H4) G' hr pass0 I3 (.cons rfl (.cons rfl (.cons rfl (.cons rfl .nil)))) ⟨_, _, μ3, s3, p.1, z, st', rfl, by rw [sizeLine_eq]; simp, S3, (R1.ext X2).ext X3, e5, fun μ4 H4 v X4 S4 R4 => ⟨μ4, X4, S4⟩⟩)) fun v5 s5 ⟨y5, H5, I5, ry5, μ4, X4, S4⟩ => ?_
    exact fin μ4 H5 X4 S4 s5 I5
  cases g with
  | next =>
    obtain ⟨σ3, H3, I3, rfl, μ3, X3, S3, E3⟩ := zz'
    exact out I3 X3 S3 fun μ4 H4 X4 S4 s5 I5 => ⟨σ3, H4, I5, kk μ4 H4 (X1.trans (X2.trans (X3.trans X4))) S4 σ3 (E3.ext X4)⟩
  | brk =>
    obtain ⟨σ3, H3, I3, rfl, μ3, X3, S3, E3⟩ := zz'
    exact out I3 X3 S3 fun μ4 H4 X4 S4 s5 I5 => ⟨σ3, H4, I5, kk μ4 H4 (X1.trans (X2.trans (X3.trans X4))) S4 σ3 (E3.ext X4)⟩
  | cont =>
    obtain ⟨σ3, H3, I3, rfl, μ3, X3, S3, E3⟩ := zz'
    exact out I3 X3 S3 fun μ4 H4 X4 S4 s5 I5 => ⟨σ3, H4, I5, kk μ4 H4 (X1.trans (X2.trans (X3.trans X4))) S4 σ3 (E3.ext X4)⟩
  | ret u =>
    obtain ⟨v3, σ3, H3, I3, rv, d, rfl, μ3, X3, S3, R3⟩ := zz'
    exact out I3 X3 S3 fun μ4 H4 X4 S4 s5 I5 => ⟨v3, σ3, H4, I5, rv, kk μ4 H4 (X1.trans (X2.trans (X3.trans X4))) S4 v3 (R3.ext X4)⟩
theorem exit_at {k : Nat} {c qual pv : Str} {st : Stmt} {cdv : Value} {sb : FS} {W : WX} (F : MeAt G c "__exit__" qual st cdv) (S : FnScope [("self" : Str), pv] [("self" : Str), pv] (defScope st))
    (hb : ∀ (kV doc pm : Value) (an : Option Addr) (ct : Value) (us rest : List Value), us.length = [("self" : Str)].length → bindArgs (PySem.W.fnOf "__exit__" qual (defArgs st) (defBody st) (defScope st) .none kV doc pm an cdv ct) ⟨us ++ rest, []⟩ = (newTuple rest >>= fun t => pure ([("self" : Str)].zip us ++ [(pv, t)])))
    (hbody : ∀ (f : Addr) (A : Around) (outer : List Env) (s : Shared) (H : Hp), Here G (bodyCx G [("self" : Str), pv] qual (defScope st) f cdv A outer s H) [("self" : Str), pv] (defScope st) → Room k (bodyCx G [("self" : Str), pv] qual (defScope st) f cdv A outer s H).A →
      PSs (bodyCx G [("self" : Str), pv] qual (defScope st) f cdv A outer s H) (defBody st) (liftS G W sb)) : DefXt G (k + 1) c (runD 2 sb) := by
  obtain ⟨C, f, oc, od, kV, doc, pm, an, ct, osl, lk, hcd, hm, cl, me⟩ := F.ex
  refine ⟨C, f, ?_, hm, me⟩
  have base := StX.fn_star (P := G.P) (w := G.w) (mg := G.mg) (base := G.base) (CX := CX0) (k := k) (N := [("self" : Str), pv]) (ps := [("self" : Str)]) (pv := pv) lk hcd S StX.cxUp_none (hb kV doc pm an ct)
    (sp := fun vs H Q _ => ∃ v p μ st d z st', vs = [v, .ref p] ∧ StR G μ st H ∧ Rep G μ H d v ∧ runD 2 sb [d] st = some (z, st') ∧ After G μ H z st' Q)
    fun A outer s H vs Q E hr ⟨v, p, μ, st0, d, z, st', ev, Sx, R, e, k2⟩ => by
      subst ev
      unfold runD at e
      obtain ⟨⟨fl, ρ', s1⟩, e1, e⟩ := Option.bind_eq_some_iff.mp e
      refine ⟨_, (show PSs (bodyCx G [("self" : Str), pv] qual (defScope st) f cdv A outer s H) (defBody st) (liftS G W sb) from hbody f A outer s H ⟨On.body, rfl, rfl, S.nd⟩ hr).nox, ?_⟩
      refine ⟨_, μ, st0, fl, ρ', s1, ⟨rfl, fun i x hx => ?_⟩, Sx, e1, fun μ1 H1 X1 S1 => ?_⟩
      · match i, hx with
        | 0, hx =>
          have : x = d := by
            have h : some (some d) = some (some x) := hx
            cases h
            rfl
          subst this
          exact ⟨v, rfl, R⟩
        | 1, hx =>
          have h : some (none : Option D) = some (some x) := hx
          cases h
        | n + 2, hx =>
          have h : (none : Option (Option D)) = some (some x) := hx
          cases h
      · cases fl with
        | rt dd => cases e; exact fun v Rv => k2 μ1 H1 v X1 S1 Rv
        | nx => cases e; exact fun σ' _ => k2 μ1 H1 .non X1 S1 .non
        | bk => cases e
        | ct => cases e
        | ex x => cases e
  intro A outer s H us vs Q E hr e0 r ⟨v, rest, μ, st0, d, z, st', ev, hz, Sx, R, e, k2⟩
  refine base A outer s H us vs Q E hr e0 r ⟨[v], rest, ev, rfl, hz, fun p hp => ⟨v, p, μ, st0, d, z, st', rfl, Sx.newT hp, R.ext (Ext.new Sx hp), e, fun μ1 H1 v1 X1 S1 R1 => k2 μ1 H1 v1 ((Ext.new Sx hp).trans X1) S1 R1⟩⟩
theorem Here.nox {N : List Str} {sc : Scope} (o : Here G X N sc) : Here G X.nox N sc := ⟨⟨o.on.prog, o.on.w, o.on.mg, o.on.base, o.on.K, o.on.calm⟩, o.N, o.sc, o.nd⟩
end
end EL
set_option Elab.async false
set_option linter.all false
set_option maxRecDepth 100000
set_option maxHeartbeats 1000000
namespace EL
open PySem PySem.Spec PyProof.Rows L2 GxR LG
section
variable {X : Cx} {pins : List (Addr × Obj)} {σ : L2.St} {H : Hp} {s : Shared}
theorem addT_ok {E : Value → Shared → Prop} {D b : Addr} {L : List (Addr × List Int)} {k : List Int} {Q : Value → Shared → Prop} (I : Inv X pins σ H s) (hD : H D = some (SetTO X.prog X.w D L)) (hL : ∀ p ∈ L, SqT X.K H p.1 (p.2.map V.int)) (hb : SqT X.K H b (k.map V.int)) (few : L.length + 1 < 64) (hu : X.A.units + 10 < cLine)
    (h : ∀ L' s', (k ∈ L.map (·.2) → L' = L) → (k ∉ L.map (·.2) → L'.Perm ((b, k) :: L)) → Inv X pins σ (upd H D (SetTO X.prog X.w D L')) s' → Q .none s') : wpAny (model X.prog X.w) X.A (call (.builtin "set.add") [.ref D, .ref b]) Q E s := by
  have R0 : SetT0 X.prog X.w s.heap D L := (I.hok D _ hD).1
  obtain ⟨es, ep, t, R⟩ := R0.full fun p hp => I.isT (hL p hp)
  have hx := I.isT hb
  obtain ⟨o, ho, hex, hd⟩ := R.ob
  refine wpAny_call_entry F.slot_set_add ⟨o, ho, hex.1⟩ F.entry_set_add ?_ (F.args_set_add_2 _ _)
  unfold Builtin.«set.add» Builtin.Frozenset.oneOther Builtin.Frozenset.addrOf setAdd
  simp only [List.isEmpty_nil, bind_assoc]
  refine wpAny_bind (wpAny_pure (wpAny_bind (wpAny_pure (wpAny_bind (wpAny_holding (wpAny_bind (wpAny_pyHash_tuple (by show X.A.units + _ < _; omega) hx ?_)))))))
  refine add_at (s := { s with toks := s.toks + (k.length + 1) }) R hx (by show X.A.units + _ < _; omega) few fun bb h' L' es' ep' t' sb R' c1 c2 => ?_
  show wpAny _ _ (ret Value.none) _ _ _
  have he : ∃ u, h'.get? D = some u := by
    obtain ⟨o', ho', _⟩ := R'.ob
    exact ⟨o', ho'⟩
  exact wpAny_pure ⟨_, rfl, h L' _ c1 c2 (I.write (e := D) (t' := s.toks + (k.length + 1)) (by rw [hD]; trivial) (.inl rfl) (fun b u hb hu => (sb.2 b hb).trans hu) he (setTO_new R'.t0))⟩
end
end EL
set_option Elab.async false
set_option linter.all false
set_option maxRecDepth 100000
set_option maxHeartbeats 2000000
namespace EL
open PySem PySem.Spec PyProof.Rows L2 GxR LG
open PpSet (eval_SetComp newSet_ok compLoopS_any codeAny_compStart_set)
/-- the set at D before anything is put in -/
abbrev set0 (X : Cx) (D : Addr) : HO := SetTO X.prog X.w D []
/-- what one turn does to the set at D: y is put in -/
def PutT (X : Cx) (D : Addr) (Nx : Hp → Prop) (y : V) (H : Hp) : Prop := ∃ (b : Addr) (k : List Int) (L : List (Addr × List Int)), y = .ref b ∧ SqT X.K H b (k.map V.int) ∧ H D = some (SetTO X.prog X.w D L) ∧ (∀ p ∈ L, SqT X.K H p.1 (p.2.map V.int)) ∧ L.length + 1 < 64 ∧
  ∀ L', (∃ h, SetT0 X.prog X.w h D L) → (k ∈ L.map (·.2) → L' = L) → (k ∉ L.map (·.2) → L'.Perm ((b, k) :: L)) → Nx (upd H D (SetTO X.prog X.w D L'))
def tScT (X : Cx) (wi : TI) (g : TG) (te : TE) (vs : List Nat) : TE := fun σ H Q => wi σ H fun J H1 => ∀ D, H1 D = none → ∃ W : Nat → Nat → Hp → Prop, (∃ m, W 0 m (upd H1 D (set0 X D))) ∧ ∀ i m H2, W i m H2 →
  (J.stop i H2 ∧ Q (.ref D) H2) ∨ (J.go i H2 ∧ ∃ Nx : Hp → Prop, (∀ H3, Nx H3 → ∃ m', m' < m ∧ W (i + 1) m' H3) ∧ ∀ x H3, J.yld i H2 x H3 → g x (wipe σ vs) H3 fun σ2 H4 => wipe σ2 vs = wipe σ vs ∧ te σ2 H4 (PutT X D Nx))
section
variable {X : Cx}
theorem pe_scT {elt tg iter : Expr} {scope : Scope} {own : List (PySem.Str × Nat)} {pos : Pos} {wi : TI} {g : TG} {te : TE} (hcalm : X.calm = true) (hnd : X.N.Nodup) (hun : X.A.units + 10 < cLine) (hit : PI X tg iter wi) (bk : BlkOk X.N X.env.scope scope own)
    (htg : ∀ (s : Shared) (H : Hp) (C : Addr) (cl : List (PySem.Str × Addr)) (fp : List Addr), PG (X.blk s H scope (compEnvC scope cl C X.env) fp) tg g)
    (hel : ∀ (s : Shared) (H : Hp) (C : Addr) (cl : List (PySem.Str × Addr)) (fp : List Addr), PE (X.blk s H scope (compEnvC scope cl C X.env) fp) elt te) (hfo : ∀ x, foldedSetIterable iter X.env x = pure x := by intro _; rfl) :
    PE X (.SetComp elt [⟨tg, iter, [], 0⟩] scope pos) (tScT X wi g te (own.map (·.2))) := by
  refine ⟨fun pins sa σ Ha Q Ia want => ?_⟩
  rw [eval_SetComp]
  have freeN : ∀ y ∈ scope.names, y.2 = .free → ∃ c, X.env.cells.lookup y.1 = some c := fun y hy e => Ia.ok.has _ (bk.free y hy e)
  refine wpAny_comprehension_free (use := none) rfl hfo (closure_ok freeN) bk.kind (fun y hy e => (bk.uniq y hy).trans (congrArg some e)) (thn (hit.run pins sa σ Ha _ Ia want) fun xv sb hx => thn hx fun itv sc hc => ?_)
  obtain ⟨it, fp, tn, J, Hc, rfl, Ic, T, stc, fc, more⟩ := hc
  refine newSet_ok (newEnv_comp ?_)
  -- the new, empty set
  generalize eD : sc.heap.objs.size = D
  have nD : Hc D = none := Ic.hok.fresh (Nat.le_of_eq eD)
  obtain ⟨W, ⟨m0, w0⟩, turn⟩ := more D nD
  generalize esd : ({ sc with heap := sc.heap.push { cls := .type "set", dict := none, data := .set #[] 0 (.fresh 0 0 (!X.w.params.followText "set-order")) } } : Shared) = sd
  have hpd : sd.heap = sc.heap.push { cls := .type "set", dict := none, data := .set #[] 0 (.fresh 0 0 (!X.w.params.followText "set-order")) } := by rw [← esd]
  have Id : Inv X pins σ (upd Hc D (set0 X D)) sd := by
    rw [← esd]
    refine Ic.laid (t' := sc.toks) (fun c u q => Heap.get?_push_of_some _ q) (Nat.le_of_eq eD) ?_
    rw [← eD]
    exact setTO_new (setTR_fresh (Heap.get?_push_size _ rfl)).t0
  have fpl : ∀ c ∈ fp, c < sc.heap.objs.size := fun c hc => let ⟨_, q, _⟩ := T.obj _ _ stc c hc; Heap.lt_size q
  have fd : ∀ c ∈ fp, FpOk X pins (upd Hc D (set0 X D)) c ∧ c < sd.heap.objs.size := fun c hc => by
    have lt := fpl c hc
    refine ⟨⟨?_, (fc c hc).2⟩, by rw [hpd, Heap.size_push]; exact Nat.lt_succ_of_lt lt⟩
    rw [upd_ne (Nat.ne_of_lt (eD ▸ lt))]; exact (fc c hc).1
  have std : tn 0 sd.heap := T.keep _ _ _ stc fun c _ u q => by rw [hpd]; exact Heap.get?_push_of_some _ q
  have Ie := block_start Id bk hnd fd
  have rg := htg sd (upd Hc D (set0 X D)) sd.heap.objs.size (cellsFrom (sd.heap.objs.size + 1) scope.names (cloFrom X.env.cells scope.names [])) fp
  have re := hel sd (upd Hc D (set0 X D)) sd.heap.objs.size (cellsFrom (sd.heap.objs.size + 1) scope.names (cloFrom X.env.cells scope.names [])) fp
  show codeAny _ _ (.compStart (.SetComp elt [⟨tg, iter, [], 0⟩] scope pos) 0 (.ref it) (.ref D) (compEnvC scope (cellsFrom (sd.heap.objs.size + 1) scope.names (cloFrom X.env.cells scope.names [])) sd.heap.objs.size X.env)) (compPost (model X.prog X.w) X.A X.xe none (EP X pins σ Q) (.ref D) sd.heap.objs.size) { sd with heap := pushCells (sd.heap.push { cls := .type "dict", data := .dict #[] }) scope.names }
  have nf : ∀ c ∈ fp, (upd Hc D (set0 X D)) c = none := fun c hc => (fd c hc).1.1
  generalize ece : compEnvC scope (cellsFrom (sd.heap.objs.size + 1) scope.names (cloFrom X.env.cells scope.names [])) sd.heap.objs.size X.env = ce at Ie rg re ⊢
  have lce : ce.locals = sd.heap.objs.size := by rw [← ece]; rfl
  generalize eHd : upd Hc D (set0 X D) = Hd at Id Ie rg re w0 nf fd
  generalize ese : ({ sd with heap := pushCells (sd.heap.push { cls := .type "dict", data := .dict #[] }) scope.names } : Shared) = se at Ie ⊢
  have ste : tn 0 se.heap := T.keep _ _ _ std fun c _ u q => by rw [← ese]; exact pushCells_keeps _ _ _ _ (Heap.get?_push_of_some _ q)
  have fpx : ∀ {ρ : L2.St} {Hx : Hp} {sx : Shared}, Inv (X.blk sd Hd scope ce fp) [] ρ Hx sx → (∀ c ∈ fp, Hx c = none) → ∀ c ∈ fp, FpOk (X.blk sd Hd scope ce fp) [] Hx c := fun {ρ Hx sx} Ix nx c hc =>
    ⟨nx c hc, (Ix.ok.exf c hc).1, Ix.ok.exfs c hc, .inl hc, fun y d q => (Ix.ok.exf c hc).2 y d q, fun p hp => by
      have : p ∈ ([] : List (Addr × Obj)) ++ [] := hp
      simp at this⟩
  have loop : codeAny (model X.prog X.w) X.A (.compLoop (.SetComp elt [⟨tg, iter, [], 0⟩] scope pos) 0 (.ref it) (.ref D) ce) (compPost (model X.prog X.w) X.A X.xe none (EP X pins σ Q) (.ref D) sd.heap.objs.size) se := by
    refine compLoopS_any (fun n sx => ∃ i Hx, Inv (X.blk sd Hd scope ce fp) [] (wipe σ (own.map (·.2))) Hx sx ∧ tn i sx.heap ∧ (∀ c ∈ fp, Hx c = none) ∧ W i n Hx) ?_ m0 ⟨0, Hd, Ie, ste, nf, w0⟩
    rintro n s1 ⟨i, H1, I1, st1, n1, w1⟩
    rcases turn i n H1 w1 with ⟨stop, qq⟩ | ⟨go, Nx, hNx, step⟩
    · refine thnF (T.done (X.blk sd Hd scope ce fp) rfl rfl rfl hcalm i [] s1 _ H1 (fun _ _ => False) I1 (fpx I1 n1) st1 stop) fun r s2 ⟨hr, I2⟩ => ?_
      subst hr
      have I3 : Inv X pins σ H1 s2 := Id.call' (ch := fp) I2.os I2.base I2.hok I2.bare fun c hc => let z := (fd c hc).1.2; ⟨z.2.2.1, z.1, z.2.2.2.1, z.2.2.2.2⟩
      have nC : H1 sd.heap.objs.size = none := by rw [← lce]; exact I2.free
      obtain ⟨mm, hns, _⟩ := I2.loc
      have hns : s2.heap.Ns ce.locals mm := hns
      rw [lce] at hns
      obtain ⟨f0, f1, f2, f3, f4, f5⟩ := Id.fpOk (Nat.le_refl _) nC
      exact ⟨mm, hns, fun h'' sbut => ⟨.ref D, H1, I3.turned (t' := s2.toks) (fun c u hc q => (sbut.2 c hc).trans q) f0 f1 f3 f4 f5, rfl, qq⟩⟩
    · refine thnF (T.item (X.blk sd Hd scope ce fp) rfl rfl rfl hcalm i [] s1 _ H1 (fun _ _ => False) I1 (fpx I1 n1) st1 go) fun r s2 ⟨u, hr, h2⟩ => ?_
      subst hr
      refine thnF h2 fun _ s3 ⟨x, H3, I3, r3, y3, st3, n3⟩ => ?_
      refine thnF (rg.run _ s3 _ H3 x u _ (I3.pinned (fpx I3 n3) (T.obj _ _ st3)) r3 (step x H3 y3)) fun _ s4 ⟨σ4, H4, I4, hw, q4⟩ => ?_
      rw [List.forIn_nil]
      refine wpAny_pure ?_
      rw [if_pos rfl]
      refine thnF (re.run _ s4 σ4 H4 _ I4 q4) fun z s5 ⟨yv, H5, I5, r5, bb, kk, L, ey, hb5, hD5, hL5, hfew, nx⟩ => ?_
      subst ey
      obtain rfl : z = Value.ref bb := r5
      refine addT_ok (X := X.blk sd Hd scope ce fp) I5 hD5 hL5 hb5 hfew hun fun L' s6 c1 c2 I6 => ?_
      obtain ⟨m', hm, w'⟩ := hNx _ (nx L' ⟨_, (I5.hok D _ hD5).1⟩ c1 c2)
      have pin : ∀ c ∈ fp, ∀ u, s3.heap.get? c = some u → s6.heap.get? c = some u ∧ upd H5 D (SetTO X.prog X.w D L') c = none := fun c hc u q =>
        let z := I6.pin (c, u) (List.mem_append_right _ (List.mem_append_right _ (mem_pinsAt hc q)))
        ⟨z.1, z.2.1⟩
      refine ⟨m', hm, i + 1, _, (I6.unpinned (pins := [])).weak (by rw [← hw, wipe_length]) (fun j v e => ?_), T.keep _ _ _ st3 fun c hc u q => (pin c hc u q).1, fun c hc => ?_, w'⟩
      · rw [← hw] at e
        exact (wipe_some e).1
      · obtain ⟨u, q, _⟩ := T.obj _ _ st3 c hc
        exact (pin c hc u q).2
  exact codeAny_compStart_set loop (T.self X.A 0 _ _ _ ste loop)
end
end EL
set_option Elab.async false
set_option linter.all false
set_option maxRecDepth 100000
set_option maxHeartbeats 1000000
namespace EL
open PySem PySem.Spec PyProof.Rows L2 GxR LG
abbrev Ts := List (List Int)
/-- each once -/
def ddT : Ts → Ts
  | [] => []
  | t :: ts => if t ∈ ddT ts then ddT ts else t :: ddT ts
theorem ddT_mem (ts : Ts) (t : List Int) : t ∈ ddT ts ↔ t ∈ ts := by
  induction ts with
  | nil => rfl
  | cons x ts ih =>
    unfold ddT
    split
    · rename_i h
      rw [ih]
      exact ⟨fun z => List.mem_cons_of_mem _ z, fun z => by
        rcases List.mem_cons.mp z with rfl | z
        · exact ih.mp (by assumption)
        · exact z⟩
    · rw [List.mem_cons, List.mem_cons, ih]
theorem ddT_nodup (ts : Ts) : (ddT ts).Nodup := by
  induction ts with
  | nil => exact List.nodup_nil
  | cons x ts ih =>
    unfold ddT
    split
    · exact ih
    · rename_i h
      exact List.nodup_cons.mpr ⟨h, ih⟩
def leT (a b : List Int) : Bool := decide (TS.code 64 a ≤ TS.code 64 b)
def sortT (ts : Ts) : Ts := (ddT ts).mergeSort leT
theorem sortT_mem {ts : Ts} {t : List Int} : t ∈ sortT ts ↔ t ∈ ts := by
  unfold sortT
  rw [(List.mergeSort_perm _ _).mem_iff, ddT_mem]
structure BdOk (n : Nat) (ts : Ts) : Prop where
  pos : 1 ≤ n
  all : ∀ t ∈ ts, t.length = n ∧ TS.Bd 64 t
theorem code_bd : ∀ {t : List Int}, TS.Bd 64 t → 0 ≤ TS.code 64 t ∧ TS.code 64 t < 64 ^ t.length
  | [], _ => by simp [TS.code]
  | x :: t, h => by
    obtain ⟨h1, h2⟩ := code_bd (t := t) fun m hm => h m (List.mem_cons_of_mem _ hm)
    obtain ⟨x1, x2⟩ := h x List.mem_cons_self
    unfold TS.code
    have p : (0 : Int) < 64 ^ t.length := Int.pow_pos (by decide)
    have m1 : 0 ≤ x * 64 ^ t.length := Int.mul_nonneg x1 (Int.le_of_lt p)
    refine ⟨by omega, ?_⟩
    have e : (64 : Int) ^ (x :: t).length = 64 * 64 ^ t.length := by rw [List.length_cons, Int.pow_succ, Int.mul_comm]
    rw [e]
    have m2 : x * 64 ^ t.length ≤ 63 * 64 ^ t.length := Int.mul_le_mul_of_nonneg_right (by omega) (Int.le_of_lt p)
    omega
theorem code_inj : ∀ {a b : List Int}, a.length = b.length → TS.Bd 64 a → TS.Bd 64 b → TS.code 64 a = TS.code 64 b → a = b
  | [], [], _, _, _, _ => rfl
  | [], _ :: _, h, _, _, _ => by simp at h
  | _ :: _, [], h, _, _, _ => by simp at h
  | x :: a, y :: b, hl, ha, hb, e => by
    have hl' : a.length = b.length := by simpa using hl
    have ha' : TS.Bd 64 a := fun m hm => ha m (List.mem_cons_of_mem _ hm)
    have hb' : TS.Bd 64 b := fun m hm => hb m (List.mem_cons_of_mem _ hm)
    obtain ⟨a1, a2⟩ := code_bd ha'
    obtain ⟨b1, b2⟩ := code_bd hb'
    unfold TS.code at e
    rw [hl'] at e a2
    have p : (0 : Int) < 64 ^ b.length := Int.pow_pos (by decide)
    have ex : x = y := by
      generalize (64 : Int) ^ b.length = P at *
      generalize TS.code 64 a = A at *
      generalize TS.code 64 b = B at *
      rcases Int.lt_trichotomy x y with h | h | h
      · have : (x + 1) * P ≤ y * P := Int.mul_le_mul_of_nonneg_right (by omega) (Int.le_of_lt p)
        rw [Int.add_mul] at this
        omega
      · exact h
      · have : (y + 1) * P ≤ x * P := Int.mul_le_mul_of_nonneg_right (by omega) (Int.le_of_lt p)
        rw [Int.add_mul] at this
        omega
    subst ex
    rw [code_inj hl' ha' hb' (by omega)]
/-- whatever stands in order and once each is it -/
theorem sortT_uniq {n : Nat} {ts ks : Ts} (B : BdOk n ts) (nd : ks.Nodup) (hm : ∀ k, k ∈ ks ↔ k ∈ ts) (hp : ks.Pairwise fun a b => TS.code 64 a ≤ TS.code 64 b) : ks = sortT ts := by
  have pm : ks.Perm (ddT ts) := (List.perm_ext_iff_of_nodup nd (ddT_nodup ts)).mpr fun k => (hm k).trans (ddT_mem ts k).symm
  have sp : (sortT ts).Pairwise fun a b => TS.code 64 a ≤ TS.code 64 b := by
    have := List.pairwise_mergeSort (le := leT) (fun a b c h1 h2 => decide_eq_true (Int.le_trans (of_decide_eq_true h1) (of_decide_eq_true h2))) (fun a b => by
      rcases Int.le_total (TS.code 64 a) (TS.code 64 b) with h | h
      · simp [leT, h]
      · simp [leT, h]) (ddT ts)
    exact this.imp fun h => of_decide_eq_true h
  refine List.Perm.eq_of_pairwise (fun a b ha hb h1 h2 => ?_) hp sp (pm.trans (List.mergeSort_perm _ _).symm)
  have A := B.all a ((hm a).mp ha)
  have Bb := B.all b (sortT_mem.mp hb)
  exact code_inj (A.1.trans Bb.1.symm) A.2 Bb.2 (by omega)
end EL
set_option Elab.async false
set_option linter.all false
set_option maxRecDepth 100000
set_option maxHeartbeats 1000000
namespace EL
open PySem PySem.Spec PyProof.Rows L2 GxR LG
def intsOf1 : D → Option (List Int)
  | .tup ds => intsD ds
  | _ => none
def keysT : List D → Option Ts
  | [] => some []
  | d :: ds => (intsOf1 d).bind fun t => (keysT ds).bind fun ts => some (t :: ts)
abbrev tupI (t : List Int) : D := .tup (t.map D.int)
open Classical in
noncomputable def fSortTs (fi : FI) (tg : Tg) (fe : FE) (vs : List Nat) : FE := fun ρ st => (fi ρ st).bind fun p => (lcZ tg fYes fe p.2.1 (wipeD ρ vs) p.1 p.2.2).bind fun r => (keysT r.1).bind fun ts => if ts.length < 60 ∧ ∃ n, BdOk n ts then some (.lst ((sortT ts).map tupI), r.2) else none
section
variable {G : G0} {X : Cx} {μ μ' μ1 : Mu} {H H' H1 : Hp} {st : Sto}
theorem ext0_set {p : Addr} {u : Heap → Prop} {o : HO} (hp : H p = some (.ext u)) : Ext0 G μ H μ (upd H p o) := ⟨fun _ _ h => h, fun b vs h => by
  rw [upd_ne (ne_of h hp (by intro z; cases z))]; exact h, fun a vs h => ⟨by rw [upd_ne (ne_of h.1 hp (by intro z; cases z))]; exact h.1, h.2⟩, fun a vs h => h.imp (fun h => ⟨by
    rcases h.1 with h | ⟨ob, h⟩
    · exact .inl (by rw [upd_ne (ne_of h hp (by intro z; cases z))]; exact h)
    · exact .inr ⟨ob, by rw [upd_ne (ne_of h hp (by intro z; cases z))]; exact h⟩, h.2⟩) id⟩
theorem str_set (S : StR G μ st H) {p : Addr} {u v : Heap → Prop} (hp : H p = some (.ext u)) (nc : ∀ q, HO.ext u ≠ LamX.CodeO p q) : StR G μ st (upd H p (.ext v)) := by
  have npl : p ∉ μ.pl := fun z => by
    obtain ⟨w, e, hw⟩ := S.own p z
    rw [hp] at e; cases e; exact hw
  have ne : ∀ {a}, a ∈ μ.pl → a ≠ p := fun ha z => npl (by rw [← z]; exact ha)
  refine ⟨S.len, fun l o a q1 q2 => (S.obj l o a q1 q2).ext0 (ext0_set hp) fun x hx => by rw [upd_ne (ne (List.mem_of_getElem? q2))]; exact hx, fun a ha => ?_, S.nd, fun a ha => ?_, fun P hP => ?_, fun q hq => ?_, S.dj⟩
  · obtain ⟨w, e, hw⟩ := S.own a ha
    exact ⟨w, by rw [upd_ne (ne ha)]; exact e, hw⟩
  · obtain ⟨h1, vs, h2⟩ := S.dis a ha
    exact ⟨h1, vs, by rw [upd_ne (ne_of h2 hp (by intro z; cases z))]; exact h2⟩
  · obtain ⟨ps, e, w⟩ := S.tab P hP
    exact ⟨ps, by rw [upd_ne (ne_of e hp (by intro z; cases z))]; exact e, w⟩
  · obtain ⟨ps, e1, e2, e3⟩ := S.lab q hq
    refine ⟨ps, by rw [upd_ne (ne_of e1 hp (by intro z; cases z))]; exact e1, e2, fun pos cv hc => ?_⟩
    obtain ⟨c, z, e⟩ := e3 pos cv hc
    refine ⟨c, z, ?_⟩
    rw [upd_ne (fun w : c = p => by subst w; rw [hp] at e; exact nc _ (Option.some.inj e))]
    exact e
theorem ext_set (x : Ext G μ1 H1 μ H) (S1 : StR G μ1 st H1) {p : Addr} {v : HO} (h1 : H1 p = none) : Ext G μ1 H1 μ (upd H p v) := by
  refine ⟨x.pre, x.hid, fun a ha => ?_, fun b vs h => ?_, fun a w h n m q => ?_, fun a w h f => ?_, fun a h => x.dom a (dom_upd a h)⟩
  · rw [upd_ne (S1.hid_ne ha h1)]; exact x.kept a ha
  · rw [upd_ne (ne_of_none h h1)]; exact x.tup b vs h
  · obtain ⟨q1, q2⟩ := x.raw a w h n m q
    exact ⟨by rw [upd_ne (ne_of_none h h1)]; exact q1, q2⟩
  · rw [upd_ne (ne_of_none h h1)]; exact x.xd a w h f
theorem set_code {P : Program} {w : World} {D : Addr} {L : List (Addr × List Int)} (h : ∃ h, SetT0 P w h D L) (q : Str) : SetTO P w D L ≠ LamX.CodeO D q := fun z => by
  obtain ⟨h, s⟩ := h
  have e : (fun h => SetT0 P w h D L) = fun h : Heap => ∃ (oc : Obj) (vs : Array Value) (t : Tok), h.get? D = some oc ∧ oc.data = .fields vs ∧ vs[1]? = some (.str q t) := HO.ext.inj z
  obtain ⟨oc, vs, t, h1, h2, _⟩ := (congrFun e h).mp s
  obtain ⟨es, ep, tt, ⟨o, h3, _, h4⟩, _⟩ := s.ex
  rw [h1] at h3
  cases h3
  rw [h2] at h4
  cases h4
theorem key_rep1 {d : D} {v : V} {t : List Int} (R : Rep G μ H d v) (e : intsOf1 d = some t) : ∃ b, v = .ref b ∧ H b = some (.tup (t.map V.int)) := by
  cases d with
  | tup ds =>
    have e1 := intsD_eq (show intsD ds = some t from e)
    subst e1
    cases R with
    | tup s r =>
      have e2 := ints_of_reps r
      subst e2
      exact ⟨_, rfl, s⟩
  | _ => cases e
theorem reps_tups : ∀ {L : List (Addr × List Int)}, (∀ p ∈ L, H p.1 = some (.tup (p.2.map V.int))) → Reps G μ H ((L.map (·.2)).map tupI) (L.map fun q => V.ref q.1)
  | [], _ => .nil
  | p :: L, h => .cons (.tup (h p List.mem_cons_self) (Reps.ints p.2)) (reps_tups fun q hq => h q (List.mem_cons_of_mem _ hq))
theorem sortTs_data {fi : FI} {tg : Tg} {fe : FE} {vs : List Nat} (o : On G X) (hin : ∀ i ∈ tg.ins, i ∈ vs) {σ : L2.St} {H : Hp} {Q : VK} (q : lift G (fSortTs fi tg fe vs) σ H Q) : tScT X (liftI G fi) (gOf G.K tg) (lift G fe) vs σ H (fun v H1 => rSortedT X.K X.prog X.w [v] H1 Q) := by
  obtain ⟨ρ, μ, st, d, st', E, S, e, k⟩ := q
  unfold fSortTs at e
  obtain ⟨⟨items, src, s1⟩, e1, e⟩ := Option.bind_eq_some_iff.mp e
  obtain ⟨⟨ds, sf⟩, e2, e⟩ := Option.bind_eq_some_iff.mp e
  obtain ⟨ts, e0, e⟩ := Option.bind_eq_some_iff.mp e
  split at e
  · rename_i hz
    obtain ⟨hz, nn, hB⟩ := hz
    obtain ⟨rfl, rfl⟩ : D.lst ((sortT ts).map tupI) = d ∧ sf = st' := by
      have q := Option.some.inj e
      exact ⟨congrArg Prod.fst q, congrArg Prod.snd q⟩
    refine ⟨ρ, μ, st, items, src, s1, E, S, e1, fun μ1 H1 J X1 S1 F Da hD => ?_⟩
    have n0 : set0 X Da = SetTO X.prog X.w Da [] := rfl
    refine ⟨fun i m H2 => m = items.length - i ∧ i ≤ items.length ∧ ∃ μ2 st2 acc L r rs, StR G μ2 st2 H2 ∧ Ext G μ1 H1 μ2 H2 ∧ H2 Da = some (SetTO X.prog X.w Da L) ∧ (∀ p ∈ L, H2 p.1 = some (.tup (p.2.map V.int))) ∧ (∀ k, k ∈ L.map (·.2) ↔ k ∈ acc) ∧ L.length ≤ acc.length ∧ lcZ tg fYes fe src (wipeD ρ vs) (items.drop i) st2 = some (r, sf) ∧ keysT r = some rs ∧ acc ++ rs = ts,
      ⟨items.length, by simp, Nat.zero_le _, μ1, s1, [], [], ds, ts, S1.newT hD, Ext.new S1 hD, upd_same, (fun p hp => by cases hp), (fun k => Iff.rfl), Nat.le_refl _, by simpa using e2, e0, rfl⟩, ?_⟩
    rintro i m H2 ⟨rfl, hi2, μ2, st2, acc, L, r, rs, S2, X2, hDa, hT, hM, hLe, e3, e4, er⟩
    by_cases hlt : i < items.length
    · have hd : items.drop i = items[i] :: items.drop (i + 1) := List.drop_eq_getElem_cons hlt
      rw [hd] at e3
      unfold lcZ at e3
      split at e3
      · rename_i hin2
        obtain ⟨ρ3, e5, e3⟩ := Option.bind_eq_some_iff.mp e3
        obtain ⟨⟨tb, s5⟩, e6, e3⟩ := Option.bind_eq_some_iff.mp e3
        cases e6
        rw [if_pos rfl] at e3
        obtain ⟨⟨y, s8⟩, e8, e3⟩ := Option.bind_eq_some_iff.mp e3
        obtain ⟨⟨r', sf'⟩, e9, e3⟩ := Option.bind_eq_some_iff.mp e3
        obtain ⟨rfl, rfl⟩ : y :: r' = r ∧ sf' = sf := by
          have q := Option.some.inj e3
          exact ⟨congrArg Prod.fst q, congrArg Prod.snd q⟩
        unfold keysT at e4
        obtain ⟨t, f1, e4⟩ := Option.bind_eq_some_iff.mp e4
        obtain ⟨rt, f2, f3⟩ := Option.bind_eq_some_iff.mp e4
        cases f3
        obtain ⟨go, yl⟩ := (F μ2 st2 H2 i X2.to0 S2 hin2).1 hlt
        refine .inr ⟨go, fun H5 => ∃ μ5 st5 acc L r rs, StR G μ5 st5 H5 ∧ Ext G μ1 H1 μ5 H5 ∧ H5 Da = some (SetTO X.prog X.w Da L) ∧ (∀ p ∈ L, H5 p.1 = some (.tup (p.2.map V.int))) ∧ (∀ k, k ∈ L.map (·.2) ↔ k ∈ acc) ∧ L.length ≤ acc.length ∧ lcZ tg fYes fe src (wipeD ρ vs) (items.drop (i + 1)) st5 = some (r, sf') ∧ keysT r = some rs ∧ acc ++ rs = ts, fun H5 h5 => ⟨items.length - (i + 1), by omega, rfl, hlt, h5⟩, fun x H3 hy => ?_⟩
        obtain ⟨dd, ed, Rd, S3, X3⟩ := yl x H3 hy
        have ed' : dd = items[i] := by
          rw [List.getElem?_eq_getElem hlt] at ed
          exact (Option.some.inj ed).symm
        subst ed'
        have E3 : EnvR G μ2 H3 (wipeD ρ vs) (L2.wipe σ vs) := (E.ext (X1.trans (X2.trans X3))).wipe vs
        refine gOf_ok (vs' := vs) Rd E3 e5 fun σ6 E6 hw => ⟨(hw hin).trans (wipe_idem σ vs), ?_⟩
        refine ⟨ρ3, μ2, st2, y, s8, E6, S3, e8, fun μ9 H9 v X9 S9 R9 => ?_⟩
        obtain ⟨b, rfl, hb⟩ := key_rep1 R9 f1
        have X29 : Ext G μ2 H2 μ9 H9 := X3.trans X9
        have h9 : H9 Da = some (SetTO X.prog X.w Da L) := X29.xd _ _ hDa trivial
        have hT9 : ∀ p ∈ L, H9 p.1 = some (.tup (p.2.map V.int)) := fun p hp => X29.tup _ _ (hT p hp)
        have hlen : (acc ++ t :: rt).length < 60 := by rw [er]; exact hz
        simp at hlen
        refine ⟨b, t, L, rfl, SqT.of hb, h9, fun p hp => SqT.of (hT9 p hp), by omega, fun L' ne c1 c2 => ?_⟩
        have tk : ∀ {c : Addr} {xs : List V}, H9 c = some (.tup xs) → upd H9 Da (SetTO X.prog X.w Da L') c = some (.tup xs) := fun {c xs} hc => by
          rw [upd_ne (ne_of hc h9 (by intro z; cases z))]; exact hc
        refine ⟨μ9, s8, acc ++ [t], L', r', rt, str_set S9 h9 (set_code ne), ext_set (X2.trans X29) S1 hD, upd_same, fun p hp => ?_, fun kk => ?_, ?_, e9, f2, by rw [List.append_assoc]; exact er⟩
        · rcases Classical.em (t ∈ L.map (·.2)) with z | z
          · rw [c1 z] at hp
            exact tk (hT9 p hp)
          · rcases List.mem_cons.mp ((c2 z).mem_iff.mp hp) with rfl | hp
            · exact tk hb
            · exact tk (hT9 p hp)
        · rw [List.mem_append, List.mem_singleton, ← hM kk]
          rcases Classical.em (t ∈ L.map (·.2)) with z | z
          · rw [c1 z]
            exact ⟨.inl, fun w => w.elim id fun w => by rw [w]; exact z⟩
          · rw [((c2 z).map (·.2)).mem_iff, List.map_cons, List.mem_cons]
            exact Or.comm
        · rw [List.length_append, List.length_singleton]
          rcases Classical.em (t ∈ L.map (·.2)) with z | z
          · rw [c1 z]; omega
          · rw [(c2 z).length_eq, List.length_cons]; omega
      · cases e3
    · have hi3 : i = items.length := by omega
      rw [hi3, List.drop_length] at e3
      unfold lcZ at e3
      split at e3
      · rename_i hin2
        have stop := (F μ2 _ H2 i X2.to0 S2 hin2).2 hi3
        obtain ⟨rfl, rfl⟩ : ([] : List D) = r ∧ st2 = sf := by
          have q := Option.some.inj e3
          exact ⟨congrArg Prod.fst q, congrArg Prod.snd q⟩
        cases e4
        rw [List.append_nil] at er
        subst er
        refine .inl ⟨stop, Da, L, nn, 64, rfl, hDa, fun p hp => SqT.of (hT p hp), hB.pos, fun p hp => hB.all p.2 ((hM p.2).mp (List.mem_map_of_mem (f := (·.2)) hp)), fun L' p pm nd _ pw hp => ?_⟩
        have eu : L'.map (·.2) = sortT acc := sortT_uniq hB nd (fun k => ((pm.map (·.2)).mem_iff).trans (hM k)) (List.pairwise_map.mpr pw)
        rw [← eu] at k
        exact k μ2 _ _ (X1.trans (X2.trans (Ext.new S2 hp))) (S2.newT hp) (rep_newZ S2 hp (reps_tups fun q hq => hT q (pm.mem_iff.mp hq)))
      · cases e3
  · cases e
theorem de_sortTs {k : Nat} {elt tgt iter : Expr} {scope : Scope} {own : List (Str × Nat)} {fi : FI} {tg : Tg} {fe : FE} {p1 pos spos : Pos} (o : On G X) (hr : Room k X.A) (hN : X.N.Nodup) (g1 : Gl X "sorted") (h1 : G.mg "sorted" = none) (hi : PI X tgt iter (liftI G fi)) (ok : BlkOk X.N X.env.scope scope own)
    (hg : ∀ (s : Shared) (H : Hp) (C : Addr) (cl : List (Str × Addr)) (fp : List Addr), PG (X.blk s H scope (compEnvC scope cl C X.env) fp) tgt (gOf G.K tg))
    (he : ∀ (s : Shared) (H : Hp) (C : Addr) (cl : List (Str × Addr)) (fp : List Addr), PE (X.blk s H scope (compEnvC scope cl C X.env) fp) elt (lift G fe)) (hin : ∀ i ∈ tg.ins, i ∈ own.map (·.2) := by decide) (hs : ∀ x, foldedSetIterable iter X.env x = pure x := by intro _; rfl)
    (hs2 : starEach [.SetComp elt [⟨tgt, iter, [], 0⟩] scope spos] X.env = (false, eval (.SetComp elt [⟨tgt, iter, [], 0⟩] scope spos) X.env) :: starEach [] X.env := by rfl) (hp2 : (backTo pos (starEach [] X.env)).any (·.1) = false := by rfl) :
    PE X (.Call (.Name "sorted" p1) [.SetComp elt [⟨tgt, iter, [], 0⟩] scope spos] [] pos) (lift G (fSortTs fi tg fe (own.map (·.2)))) := by
  have un := hr.un
  have q1 := pe_scT (pos := spos) o.calm hN (by omega) hi ok hg he hs
  have q2 := pe_callB (p := p1) (pos := pos) (cr_sortedT o.calm) g1 (by rw [o.mg]; exact h1) (by kernel_rfl) (pa_cons q1 pa_nil hs2) (by decide) (by decide) hs2 hp2
  exact PE.imp q2 fun σ H Q q => sortTs_data o hin q
end
end EL
set_option Elab.async false
set_option linter.all false
set_option maxRecDepth 100000
set_option maxHeartbeats 1000000
namespace EL
open PySem PySem.Spec PyProof.Rows L2 GxR LG
def pairsK : List D → Option (List (Key × D))
  | [] => some []
  | .tup [k, v] :: ds => (key1 k).bind fun q => (pairsK ds).bind fun r => some ((q, v) :: r)
  | _ :: _ => none
def mergeD (kvs more : List (Key × D)) : List (Key × D) := more.foldl (fun acc kv => putD acc kv.1 kv.2) kvs
def dictZ : HA
  | [d], st => (listOf d st).bind fun ds => (pairsK ds).bind fun kvs => some (.ref st.length, st ++ [.dK (mergeD [] kvs)])
  | _, _ => none
section
variable {G : G0} {X : Cx} {μ : Mu} {H : Hp}
theorem pairs_rep : ∀ {ds : List D} {vs : List V} {kvs : List (Key × D)}, Reps G μ H ds vs → pairsK ds = some kvs → ∃ (ps : List Addr) (kw : List (Key × V)), vs = ps.map V.ref ∧ Paired (fun p kv => H p = some (.tup [kV kv.1, kv.2])) ps kw ∧ RKs G μ H kvs kw
  | [], _, _, .nil, e => by cases e; exact ⟨[], [], rfl, .nil, rfl, .nil⟩
  | d :: ds, _, kvs, .cons r t, e => by
    unfold pairsK at e
    split at e
    · cases ‹d :: ds = []›
    · rename_i k v ds' heq
      cases heq
      obtain ⟨q, e1, e⟩ := Option.bind_eq_some_iff.mp e
      obtain ⟨rr, e2, e3⟩ := Option.bind_eq_some_iff.mp e
      cases e3
      obtain ⟨ps, kw, h1, h2, h3, h4⟩ := pairs_rep t e2
      cases r with
      | tup s r2 =>
        cases r2 with
        | cons rk r3 => cases r3 with
          | cons rv r4 =>
            cases r4
            rw [key1_rep rk e1] at s
            exact ⟨_ :: ps, (q, _) :: kw, by rw [h1]; rfl, .cons s h2, by simp [h3], .cons rv h4⟩
    · cases e
theorem merge_rep : ∀ {more : List (Key × D)} {mv : List (Key × V)} {kvs : List (Key × D)} {vs : List (Key × V)}, RKs G μ H more mv → RKs G μ H kvs vs → RKs G μ H (mergeD kvs more) (mergeK vs mv)
  | [], [], _, _, _, h => h
  | [], _ :: _, _, _, h, _ => by have := h.1; simp at this
  | _ :: _, [], _, _, h, _ => by have := h.1; simp at this
  | (a, d) :: more, (b, v) :: mv, kvs, vs, h, h0 => by
    obtain ⟨h1, h2⟩ := h
    simp only [List.map_cons, List.cons.injEq] at h1 h2
    obtain ⟨rfl, h1⟩ := h1
    cases h2 with
    | cons r t => exact merge_rep (more := more) (mv := mv) ⟨h1, t⟩ (put_rep h0 r)
theorem paired_imp {α β : Type} {P Q : α → β → Prop} (i : ∀ a b, P a b → Q a b) : ∀ {as : List α} {bs : List β}, Paired P as bs → Paired Q as bs
  | _, _, .nil => .nil
  | _, _, .cons h t => .cons (i _ _ h) (paired_imp i t)
theorem dc_dictZ (o : On G X) : CallR X (.type "dict") (rDA G dictZ) := CallR.imp (call_dictP o.calm) fun xs H Q ⟨μ, st, ds, z, st', S, R, e, k⟩ => by
  unfold dictZ at e
  split at e
  · obtain ⟨ys, e1, e⟩ := Option.bind_eq_some_iff.mp e
    obtain ⟨kvs, e2, e3⟩ := Option.bind_eq_some_iff.mp e
    cases e3
    cases R with
    | cons r t =>
      cases t
      obtain ⟨a, vs, rfl, h1, h2⟩ := list_rep S r e1
      obtain ⟨ps, kw, rfl, h3, h4⟩ := pairs_rep h2 e2
      refine ⟨a, ps, kw, rfl, by rw [o.K]; exact h1, paired_imp (fun p kv h => SqT.of h) h3, fun p hp => ?_⟩
      refine k (μ.add p) _ _ (Ext.newAt S hp) (S.newO hp trivial ⟨_, upd_same, (merge_rep h4 ⟨rfl, .nil⟩).ext (Ext.newAt S hp)⟩) (.ref ?_)
      show (μ.pl ++ [p])[st.length]? = some p
      rw [← S.len]
      simp
  · cases e
end
end EL
set_option Elab.async false
set_option linter.all false
set_option maxRecDepth 100000
set_option maxHeartbeats 1000000
namespace EL
open PySem PySem.Spec PyProof.Rows L2 GxR LG
section
variable {G : G0} {W : WX}
theorem meAt_tab {c m qual : Str} {st : Stmt} {h : Heap} (X : G.K.In h) (Gs : h.Ns mainGlobals G.mg) {fd : FuncData} (F : FunD G.K m qual (defArgs st) (defBody st) (defScope st) [] [] (He.fAd G.K (c, some m)) fd) (hg : (He.Fa.glo c).ok G.K = true) (hc : (He.Fa.cls c).ok G.K = true) (hm : (He.Fa.meth c m).ok G.K = true) : MeAt G c m qual st (.ref (He.cT G.K (c, some m)).1) := by
  obtain ⟨oc, od, dV, kV, doc, pm, an, cdv, ct, osl, rfl, lk, hcd, hd, hk⟩ := F.ex
  rcases hd with ⟨_, rfl⟩ | ⟨z, _⟩
  · obtain ⟨a, rfl⟩ := He.codeIn_ref hcd
    have e : He.codeOf G.K (c, some m) = a := He.codeOf_eq lk rfl
    have e2 : (He.cT G.K (c, some m)).1 = a := e
    rw [e2]
    exact ⟨He.ga G.K c, _, oc, od, kV, doc, pm, an, ct, osl, lk, hcd, He.glo_ok X Gs hg, He.cls_ok hc, He.meth_ok hm⟩
  · exact absurd rfl z
/-- the __init__ of the class c, with keyword-only parameters -/
structure InAtK (G : G0) (c qual : Str) (st : Stmt) (kws : List (Str × V)) (cdv : Value) : Prop where
  ex : ∃ (C f : Addr) (fd : FuncData), FunD G.K "__init__" qual (defArgs st) (defBody st) (defScope st) [] kws f fd ∧ fd.code = cdv ∧ G.mg c = some (.ref C) ∧ Mk G.K C f
theorem inAtK_of {c qual : Str} {st : Stmt} {kws : List (Str × V)} {h : Heap} (X : G.K.In h) (Gs : h.Ns mainGlobals G.mg) {fd : FuncData} (F : FunD G.K "__init__" qual (defArgs st) (defBody st) (defScope st) [] kws (He.fAd G.K (c, some "__init__")) fd) (hg : (He.Fa.glo c).ok G.K = true) (hm : (He.Fa.mkr c).ok G.K = true) : ∃ cdv, InAtK G c qual st kws cdv :=
  ⟨fd.code, He.ga G.K c, _, fd, F, rfl, He.glo_ok X Gs hg, He.mkr_ok hm⟩
theorem init_atK {k n : Nat} {c qual : Str} {st : Stmt} {kws : List (Str × V)} {cdv : Value} {N ps ks : List Str} {sb : FS} (F : InAtK G c qual st kws cdv) (S : FnScope N ps (defScope st)) (hk : kws ≠ []) (hps : ps.length = n + 1 + ks.length)
    (hb : ∀ (D : Addr) (doc pm : Value) (an : Option Addr) (cdv ct : Value) (us ws : List Value), us.length = n + 1 → ws.length = ks.length → bindArgs (PySem.W.fnOf "__init__" qual (defArgs st) (defBody st) (defScope st) .none (.ref D) doc pm an cdv ct) ⟨us, ks.zip ws⟩ = pure (ps.zip (us ++ ws)))
    (hbody : ∀ (f : Addr) (A : Around) (outer : List Env) (s : Shared) (H : Hp), Here G (bodyCx G N qual (defScope st) f cdv A outer s H) N (defScope st) → Room k (bodyCx G N qual (defScope st) f cdv A outer s H).A →
      (∀ x : Str, (defScope st).names.lookup x = some .cell → ∃ c, (bodyCx G N qual (defScope st) f cdv A outer s H).env.cells.lookup x = some c) → PSs (bodyCx G N qual (defScope st) f cdv A outer s H) (defBody st) (liftS G W sb)) : DefIK G (k + 1) c n ks (runD N.length sb) := by
  obtain ⟨C, f, fd, Fd, ecd, hm, mk⟩ := F.ex
  obtain ⟨mv, hB⟩ := FunD.kbinds0 Fd (ps := ps) (n + 1) ks [] (fun us _ zs => us ++ zs) hk (by simp) (fun r1 _ r3 => r1.append r3) fun D doc pm an cd ct us mv ws l1 _ l3 => hb D doc pm an cd ct us ws l1 l3
  refine ⟨C, f, fd, ps, _, _, ?_, hm, mk, hB, fun _ _ => rfl⟩
  obtain ⟨oc, od, dV, kV, doc, pm, an, cd, ct, osl, rfl, lk, hcd, hd, hkk⟩ := Fd.ex
  rcases hd with ⟨_, rfl⟩ | ⟨z, _⟩
  · have e : cd = cdv := ecd
    subst e
    rw [← hps]
    exact fn_data lk hcd S fun A outer s H hr => hbody f A outer s H ⟨On.body, rfl, rfl, S.nd⟩ hr fun x h => cell_has h
  · exact absurd rfl z
theorem DefIK.seal {k n : Nat} {c : Str} {ks : List Str} {fn : HA} (F : DefIK G k c n ks fn) : DefIK G k c n ks (sealFn fn) := by
  obtain ⟨C, f, fd, ps, g, gV, h1, h3⟩ := F.ex
  exact ⟨C, f, fd, ps, g, gV, seal_fn (P := G.P) h1, h3⟩
section
variable {X : Cx} {N : List Str} {sc : Scope} {pos : Pos}
theorem x_make0 (o : Here G X N sc) {k n : Nat} {c : Str} {fn : HA} {p0 : Pos} (F : DefI G k c n fn) (hr : Room (k + 1) X.A) (hg : sc.names.lookup c = some .globalImplicit := by rfl) (hdb : (c == ("__debug__" : Str)) = false := by decide) : PE X (.Call (.Name c p0) [] [] pos) (lift G (fMake c n fn fNil)) := de_make0 o.on F hr (o.gl hg) hdb
theorem x_makeK (o : Here G X N sc) {k n : Nat} {c : Str} {ks : List Str} {fn : HA} {e : Expr} {es : List Expr} {kws : List Keyword} {fr fk : FA} {p0 : Pos} (F : DefIK G k c n ks fn) (hr : Room (k + 1) X.A) (ha : PA X (e :: es) (liftA G fr)) (hkw : PK X kws (liftA G fk)) (hg : sc.names.lookup c = some .globalImplicit := by rfl)
    (hall : (backToKw pos (keywordEach kws X.env)).all (·.1.isSome) = true := by rfl) (hks : (backToKw pos (keywordEach kws X.env)).filterMap (·.1) = ks := by rfl) (hdb : (c == ("__debug__" : Str)) = false := by decide)
    (he : starEach (e :: es) X.env = (false, eval e X.env) :: starEach es X.env := by rfl) (hpl : ((backTo pos (starEach (e :: es) X.env)).any (·.1) || (backToKw pos (keywordEach kws X.env)).any (·.1.isNone)) = false := by rfl) : PE X (.Call (.Name c p0) (e :: es) kws pos) (lift G (fMakeK c n ks.length fn fr fk)) := de_makeK o.on F hr (o.gl hg) ha hkw hall hks hdb he hpl
theorem x_sortTs (o : Here G X N sc) {k : Nat} {elt tgt iter : Expr} {scope : Scope} (own : List (Str × Nat)) {fi : FI} {tg : Tg} {fe : FE} {p1 spos : Pos} (hr : Room k X.A) (h1 : G.mg "sorted" = none) (hi : PI X tgt iter (liftI G fi))
    (hg : ∀ X', Here G X' N (reS scope sc) → X'.A = X.A → PG X' tgt (gOf G.K tg)) (he : ∀ X', Here G X' N (reS scope sc) → X'.A = X.A → PE X' elt (lift G fe)) (hgl : sc.names.lookup ("sorted" : Str) = some NameKind.globalImplicit := by rfl)
    (ok : BlkOk N sc scope own := by exact blkOk_by (by decide +kernel)) (hin : ∀ i ∈ tg.ins, i ∈ own.map (·.2) := by decide) (hs : ∀ x, foldedSetIterable iter X.env x = pure x := by intro _; rfl)
    (hs2 : starEach [.SetComp elt [⟨tgt, iter, [], 0⟩] scope spos] X.env = (false, eval (.SetComp elt [⟨tgt, iter, [], 0⟩] scope spos) X.env) :: starEach [] X.env := by rfl) (hp2 : (backTo pos (starEach [] X.env)).any (·.1) = false := by rfl) :
    PE X (.Call (.Name "sorted" p1) [.SetComp elt [⟨tgt, iter, [], 0⟩] scope spos] [] pos) (lift G (fSortTs fi tg fe (own.map (·.2)))) :=
  de_sortTs o.on hr o.ndX (o.gl hgl) h1 hi (by rw [o.N, o.sc]; exact ok) (fun _ _ _ _ _ => hg _ o.blk rfl) (fun _ _ _ _ _ => he _ o.blk rfl) hin hs hs2 hp2
end
end
end EL
set_option Elab.async false
set_option linter.all false
set_option maxRecDepth 100000
set_option maxHeartbeats 1000000
namespace EL
open PySem PySem.Spec PyProof.Rows L2 GxR LG
def rgT : D → D → Sto → Option (D × Sto)
  | .int i, .int j, st => if (0 ≤ i ∧ i ≤ 16777216) ∧ 0 ≤ j ∧ j ≤ 16777216 then some (.tup (rangeD i (j - i).toNat), st) else none
  | _, _, _ => none
section
variable {G : G0} {X : Cx} {N : List Str} {sc : Scope} {a b : Expr} {fa fb : FE} {μ : Mu} {H : Hp} {pos pos2 p p2 : Pos}
theorem reps_rg (i : Int) : ∀ (n : Nat), Reps G μ H ((List.range n).map fun k : Nat => D.int (i + (k : Nat))) ((List.range n).map fun k : Nat => V.int (i + (k : Nat))) := by
  intro n
  have : ∀ l : List Nat, Reps G μ H (l.map fun k : Nat => D.int (i + (k : Nat))) (l.map fun k : Nat => V.int (i + (k : Nat))) := by
    intro l
    induction l with
    | nil => exact .nil
    | cons k l ih => exact .cons (.int _) ih
  exact this _
theorem x_tupRg (o : Here G X N sc) (hm : G.mg "tuple" = none) (hm2 : G.mg "range" = none) (ha : PE X a (lift G fa)) (hb : PE X b (lift G fb)) (hg : sc.names.lookup ("tuple" : Str) = some NameKind.globalImplicit := by rfl) (hg2 : sc.names.lookup ("range" : Str) = some NameKind.globalImplicit := by rfl)
    (n1 : starEach [a, b] X.env = (false, eval a X.env) :: starEach [b] X.env := by rfl) (n2 : starEach [b] X.env = (false, eval b X.env) :: starEach [] X.env := by rfl) (hp : (backTo pos2 (starEach [b] X.env)).any (·.1) = false := by rfl)
    (n3 : starEach [.Call (.Name "range" p2) [a, b] [] pos2] X.env = (false, eval (.Call (.Name "range" p2) [a, b] [] pos2) X.env) :: starEach [] X.env := by rfl) :
    PE X (.Call (.Name "tuple" p) [.Call (.Name "range" p2) [a, b] [] pos2] [] pos) (lift G (fOp rgT fa fb)) :=
  PE.imp (pe_tupRg o.on.calm (o.gl hg) (by rw [o.on.mg]; exact hm) (prg_2 (o.gl hg2) (by rw [o.on.mg]; exact hm2) ha hb n1 n2 hp) n3) fun σ H Q q => by
    obtain ⟨ρ, μ, st, c, c', E, S, e1, k1⟩ := op_core q
    refine ⟨ρ, μ, st, c, c', E, S, e1, fun μ1 H1 v X1 S1 R1 => ?_⟩
    obtain ⟨ρ', μ', st', d, d', E', S', e2, k2⟩ := k1 μ1 H1 v X1 S1 R1
    refine ⟨ρ', μ', st', d, d', E', S', e2, fun μ2 H2 w X2 S2 R2 => ?_⟩
    obtain ⟨μ3, s3, x, y, z, s4, S3, Rx, Ry, e3, k3⟩ := k2 μ2 H2 w X2 S2 R2
    unfold rgT at e3
    split at e3
    · rename_i i j
      split at e3
      · rename_i h
        cases e3
        cases Rx
        cases Ry
        refine ⟨i, j, rfl, rfl, RgOk.of_le h.1.1 h.2.2 h.1.2 h.2.1, fun q hq => ?_⟩
        exact k3 μ3 _ _ (Ext.new S3 hq) (S3.newT hq) (.tup upd_same (reps_rg i _))
      · cases e3
    · cases e3
def strK : List (Key × D) → Option (List Str)
  | [] => some []
  | (Sum.inr x, _) :: l => (strK l).bind fun r => some (x :: r)
  | _ :: _ => none
theorem strK_eq : ∀ {kvs : List (Key × D)} {ks : List Str}, strK kvs = some ks → kvs.map (·.1) = ks.map Sum.inr
  | [], _, e => by cases e; rfl
  | (Sum.inr x, d) :: l, ks, e => by
    unfold strK at e
    obtain ⟨r, e1, e2⟩ := Option.bind_eq_some_iff.mp e
    cases e2
    simp only [List.map_cons, strK_eq e1]
  | (Sum.inl _, _) :: _, _, e => by cases e
noncomputable def sortK : HA
  | [d], st => (dictK d st).bind fun q => (strK q.2).bind fun ks => if ks.length < 64 then some (.lst ((ks.mergeSort SX.leS).map D.str), st) else none
  | _, _ => none
theorem rise_pw : ∀ (r : List Str) (p : Str), risingS p r = true → (p :: r).Pairwise (fun a b => SX.leS a b = true)
  | [], p, _ => List.pairwise_singleton _ _
  | x :: r, p, h => by
    have h : (!ltCps x.cps.toList p.cps.toList && risingS x r) = true := h
    obtain ⟨h1, h2⟩ := Bool.and_eq_true_iff.mp h
    have ih := rise_pw r x h2
    have le : SX.leS p x = true := by
      rw [ltCps_eq] at h1
      refine decide_eq_true (List.not_lt.mp fun z => ?_)
      rw [decide_eq_true z] at h1
      cases h1
    refine List.pairwise_cons.mpr ⟨fun y hy => ?_, ih⟩
    rcases List.mem_cons.mp hy with rfl | hy
    · exact le
    · exact SX.leS_tr _ _ _ le (List.rel_of_pairwise_cons ih hy)
theorem srtS_eq {ys ks : List Str} (hp : ys.Perm ks) (hs : sortedS ys = true) : ys = ks.mergeSort SX.leS := by
  refine SX.srt_uniq (le := fun a b => SX.leS a b = true) (fun a b => SX.leS_anti) ?_ (List.pairwise_mergeSort SX.leS_tr SX.leS_tot ks) (hp.trans (List.mergeSort_perm ks SX.leS).symm)
  cases ys with
  | nil => exact .nil
  | cons x r => exact rise_pw r x hs
theorem reps_strs (xs : List Str) : Reps G μ H (xs.map D.str) (xs.map V.str) := by
  induction xs with
  | nil => exact .nil
  | cons k l ih => exact .cons (.str _) ih
theorem dc_sortK (o : On G X) : CallR X (.builtin "sorted") (rDA G sortK) := CallR.imp (call_sortedD o.calm) fun xs H Q ⟨μ, st, ds, z, st', S, R, e, k⟩ => by
  unfold sortK at e
  split at e
  · obtain ⟨⟨l, kvs⟩, e1, e⟩ := Option.bind_eq_some_iff.mp e
    obtain ⟨ks, e2, e⟩ := Option.bind_eq_some_iff.mp e
    split at e
    · rename_i h64
      cases e
      cases R with
      | cons R1 t =>
        cases t
        obtain ⟨_, _, a, vs, rfl, _, ha, rk⟩ := dictK_rep S R1 e1
        refine ⟨a, vs, ks, rfl, ?_, ?_, h64, fun ys p hp hs hn => ?_⟩
        · exact .inl ha
        · rw [← rk.1]; exact strK_eq e2
        · rw [← srtS_eq hp hs] at k
          exact k μ _ _ (Ext.new S hn) (S.newT hn) (.lst ⟨upd_same, fun z => S.tracked z hn, fun z => S.hid_ne z hn rfl⟩ (reps_strs ys))
    · cases e
  · cases e
end
end EL
set_option Elab.async false
set_option linter.all false
set_option maxRecDepth 100000
set_option maxHeartbeats 1000000
namespace EL
open PySem PySem.Spec PyProof.Rows L2 GxR LG
end EL
set_option Elab.async false
set_option linter.all false
set_option maxRecDepth 100000
set_option maxHeartbeats 3200000
namespace EL
open PySem PySem.Spec PyProof.Rows L2 GxR LG
end EL
set_option Elab.async false
set_option linter.all false
set_option maxRecDepth 100000
set_option maxHeartbeats 4000000
namespace FW
open PySem PySem.Spec PyProof.Rows L2 GxR LG EL
noncomputable def sb_is_name : FS :=
    (sSeq (sIf (fTOr (fTNot (fTst (fCall isiD (fCons (fV 0) (fCons (fC (.ty "str")) fNil))))) (fTNot (fTst (fChain leD leD (fC (.int 1)) (fCall lenD (fCons (fV 0) fNil)) (fC (.int 8)))))) (sRet (fC (.bl false))) sNext)
    (sRet (fAllG (iSeq (fV 0)) (.one 0) (fChain leD leD (fC (.str "a")) (fV 0) (fC (.str "z"))) [none])))
noncomputable def fn_is_name : HA := sealFn (runD 1 sb_is_name)
noncomputable def sb_is_tuple_of : FS :=
    (sRet (fAnd (fCall isiD (fCons (fV 0) (fCons (fC (.ty "tuple")) fNil))) (fOp eqD (fCall lenD (fCons (fV 0) fNil)) (fV 1))))
noncomputable def fn_is_tuple_of : HA := sealFn (runD 2 sb_is_tuple_of)
noncomputable def sb_is_number : FS :=
    (sRet (fAnd (fCall isiD (fCons (fV 0) (fCons (fC (.ty "int")) fNil))) (fNot (fCall isiD (fCons (fV 0) (fCons (fC (.ty "bool")) fNil))))))
noncomputable def fn_is_number : HA := sealFn (runD 1 sb_is_number)
noncomputable def sb_is_whole : FS :=
    (sRet (fAnd (fFn 1 fn_is_number (fCons (fV 0) fNil)) (fChain leD leD (fV 1) (fV 0) (fV 2))))
noncomputable def fn_is_whole : HA := sealFn (runD 3 sb_is_whole)
noncomputable def sb_is_place : FS :=
    (sRet (fAnd (fFn 2 fn_is_tuple_of (fCons (fV 0) (fCons (fC (.int 2)) fNil))) (fAllG (iSeq (fV 0)) (.one 0) (fFn 3 fn_is_whole (fCons (fV 0) (fCons (fNeg (fC (.int 1000))) (fCons (fC (.int 1000)) fNil)))) [none])))
noncomputable def fn_is_place : HA := sealFn (runD 1 sb_is_place)
noncomputable def sb_is_power : FS :=
    (sRet (fFn 3 fn_is_whole (fCons (fV 0) (fCons (fC (.int 1)) (fCons (fC (.int 1000000)) fNil)))))
noncomputable def fn_is_power : HA := sealFn (runD 1 sb_is_power)
noncomputable def sb_is_need : FS :=
    (sRet (fFn 3 fn_is_whole (fCons (fV 0) (fCons (fC (.int 1)) (fCons (fC (.int 1000)) fNil)))))
noncomputable def fn_is_need : HA := sealFn (runD 1 sb_is_need)
noncomputable def sb_is_leak : FS :=
    (sRet (fFn 3 fn_is_whole (fCons (fV 0) (fCons (fC (.int 1)) (fCons (fC (.int 1000)) fNil)))))
noncomputable def fn_is_leak : HA := sealFn (runD 1 sb_is_leak)
noncomputable def sb__law_bag : FS :=
    (sSeq (sSet 2 (fC (.int 0)))
    (sSeq (sIf (fTst (fOp ltD (fV 1) (fCall lenD (fCons (fV 0) fNil)))) (sSet 2 (fCall absD (fCons (fOp ixD (fV 0) (fV 1)) fNil))) sNext)
    (sSeq (sIf (fTst (fOp ltD (fV 2) (fOp powD (fC (.int 10)) (fC (.int 18))))) (sRet (fLst (fCons (fC (.int 0)) (fCons (fOp addD (fC (.int 1)) (fOp modD (fOp addD (fOp mulD (fV 2) (fC (.int 7919))) (fOp mulD (fC (.int 104729)) (fV 1))) (fC (.int 2147483646)))) fNil)))) sNext)
    (sRet (fLst (fCons (fV 2) (fCons (fOp addD (fC (.int 1)) (fOp modD (fOp addD (fV 2) (fV 1)) (fC (.int 2147483646)))) fNil)))))))
noncomputable def fn__law_bag : HA := runD 3 sb__law_bag
noncomputable def sb__law_take : FS :=
    (sSeq (sIf (fTst (fOp gtD (fOp ixD (fV 0) (fC (.int 0))) (fC (.int 0)))) (sSeq (sSet 2 (fOp modD (fOp ixD (fV 0) (fC (.int 0))) (fV 1)))
    (sSeq (sPut (fOp fdivD (fOp ixD (fV 0) (fC (.int 0))) (fV 1)) (fV 0) (fC (.int 0)))
    (sRet (fV 2)))) sNext)
    (sSeq (sPut (fOp modD (fOp mulD (fOp ixD (fV 0) (fC (.int 1))) (fC (.int 48271))) (fC (.int 2147483647))) (fV 0) (fC (.int 1)))
    (sRet (fOp modD (fOp fdivD (fOp modD (fOp mulD (fOp ixD (fV 0) (fC (.int 1))) (fOp ixD (fV 0) (fC (.int 1)))) (fC (.int 2147483629))) (fC (.int 64))) (fV 1)))))
noncomputable def fn__law_take : HA := sealFn (runD 3 sb__law_take)
noncomputable def sb__law_stations : FS :=
    (sSeq (sSet 2 (fLst fNil))
    (sSeq (sSet 3 (fOp ixD (fLz (fCons (fC (.int 4)) (fCons (fC (.int 12)) (fCons (fC (.int 60)) (fCons (fC (.int 1000)) fNil))))) (fFn 2 fn__law_take (fCons (fV 0) (fCons (fC (.int 4)) fNil)))))
    (sSeq (sFor (iSeq (fSl (fLz (fCons (fC (.str "ann")) (fCons (fC (.str "bo")) (fCons (fC (.str "cy")) (fCons (fC (.str "dee")) (fCons (fC (.str "eli")) (fCons (fC (.str "fay")) (fCons (fC (.str "gus")) (fCons (fC (.str "hal")) fNil))))))))) oNone (oSome (fOp addD (fC (.int 1)) (fFn 2 fn__law_take (fCons (fV 0) (fCons (fV 1) fNil))))))) (.one 4) (sSeq (sPar [5, 6] (fCons (fOp subD (fFn 2 fn__law_take (fCons (fV 0) (fCons (fOp addD (fOp mulD (fC (.int 2)) (fV 3)) (fC (.int 1))) fNil))) (fV 3)) (fCons (fOp subD (fFn 2 fn__law_take (fCons (fV 0) (fCons (fOp addD (fOp mulD (fC (.int 2)) (fV 3)) (fC (.int 1))) fNil))) (fV 3)) fNil)))
    (sSeq (sSet 7 (fOp addD (fC (.int 1)) (fOp fdivD (fV 3) (fC (.int 3)))))
    (sSeq (sSet 8 (fTup (fCons (fCall maxD (fCons (fNeg (fC (.int 1000))) (fCons (fOp subD (fV 5) (fFn 2 fn__law_take (fCons (fV 0) (fCons (fV 7) fNil)))) fNil))) (fCons (fCall minD (fCons (fC (.int 1000)) (fCons (fOp addD (fV 6) (fFn 2 fn__law_take (fCons (fV 0) (fCons (fV 7) fNil)))) fNil))) fNil))))
    (sSeq (sSet 9 (fOp ixD (fLz (fCons (fC (.int 1)) (fCons (fC (.int 100)) (fCons (fOp addD (fC (.int 1)) (fFn 2 fn__law_take (fCons (fV 0) (fCons (fC (.int 1000)) fNil)))) (fCons (fOp addD (fC (.int 1)) (fFn 2 fn__law_take (fCons (fV 0) (fCons (fC (.int 1000000)) fNil)))) fNil))))) (fFn 2 fn__law_take (fCons (fV 0) (fCons (fC (.int 4)) fNil)))))
    (sSeq (sSet 10 (fOp addD (fC (.int 1)) (fFn 2 fn__law_take (fCons (fV 0) (fCons (fOp ixD (fLz (fCons (fC (.int 2)) (fCons (fC (.int 10)) (fCons (fC (.int 1000)) fNil)))) (fFn 2 fn__law_take (fCons (fV 0) (fCons (fC (.int 3)) fNil)))) fNil)))))
    (sExpr (fApp (fV 2) (fTup (fCons (fV 4) (fCons (fTup (fCons (fV 5) (fCons (fV 6) fNil))) (fCons (fV 9) (fCons (fV 8) (fCons (fV 10) fNil))))))))))))))
    (sRet (fCall tupleD (fCons (fV 2) fNil))))))
noncomputable def fn__law_stations : HA := sealFn (runD 11 sb__law_stations)
noncomputable def sb__law_of : FS :=
    (sRet (fOp ixD (fV 1) (fFn 2 fn__law_take (fCons (fV 0) (fCons (fCall lenD (fCons (fV 1) fNil)) fNil)))))
noncomputable def fn__law_of : HA := sealFn (runD 2 sb__law_of)
noncomputable def sb_seat : FS :=
    (sSeq (sFor (iEnum (fCons (fV 0) fNil)) (.many [2, 3]) (sIf (fTst (fOp eqD (fOp ixD (fV 3) (fC (.int 0))) (fV 1))) (sRet (fV 2)) sNext))
    sNever)
noncomputable def fn_seat : HA := sealFn (runD 4 sb_seat)
noncomputable def sb_spread : FS :=
    (sSeq (sSet 2 (fOp subD (fOp ixD (fV 1) (fC (.int 0))) (fOp ixD (fV 0) (fC (.int 0)))))
    (sSeq (sSet 3 (fOp subD (fOp ixD (fV 1) (fC (.int 1))) (fOp ixD (fV 0) (fC (.int 1)))))
    (sRet (fOp addD (fOp addD (fOp mulD (fV 2) (fV 2)) (fOp mulD (fV 3) (fV 3))) (fC (.int 1))))))
noncomputable def fn_spread : HA := sealFn (runD 4 sb_spread)
noncomputable def sb_ear : FS :=
    (sSeq (sUnp (.many [2, 3]) (fV 0))
    (sSeq (sUnp (.many [4, 5]) (fSl (fOp ixD (fV 2) (fV 1)) (oSome (fC (.int 3))) oNone))
    (sSeq (sSet 6 (fLcZ (iSeq (fV 2)) (.one 11) fYes (fFn 2 fn_spread (fCons (fOp ixD (fV 11) (fC (.int 1))) (fCons (fV 4) fNil))) [11]))
    (sSeq (sSet 7 (fC (.int 1)))
    (sSeq (sFor (iSeq (fV 6)) (.one 8) (sAug 7 imulD (fV 8)))
    (sSeq (sSet 9 (fLcZ (iZip2 (fCons (fV 2) (fCons (fV 6) fNil))) (.many [11, 8]) fYes (fOp mulD (fOp ixD (fV 11) (fC (.int 2))) (fOp fdivD (fV 7) (fV 8))) [11, 8]))
    (sSeq (sSet 10 (fLc (iSeq (fV 9)) (.one 12) fYes (fTup (fCons (fOp mulD (fOp mulD (fV 5) (fV 3)) (fV 12)) (fCons (fOp mulD (fV 5) (fV 12)) (fCons (fC (.int 0)) fNil)))) [12]))
    (sSeq (sPut (fTup (fCons (fC (.int 0)) (fCons (fC (.int 0)) (fCons (fC (.int 0)) fNil)))) (fV 10) (fV 1))
    (sRet (fTup (fCons (fOp mulD (fV 3) (fOp ixD (fV 9) (fV 1))) (fCons (fV 10) fNil))))))))))))
noncomputable def fn_ear : HA := sealFn (runD 13 sb_ear)
noncomputable def sb_gap : FS :=
    (sSeq (sIf (fTst (fOp (inW false) (fC (.int 0)) (fTup (fCons (fV 0) (fCons (fV 1) fNil))))) (sRet (fC (.int 2))) sNext)
    (sRet (fCall minD (fCons (fCall absD (fCons (fOp subD (fV 0) (fV 1)) fNil)) (fCons (fC (.int 2)) fNil)))))
noncomputable def fn_gap : HA := sealFn (runD 2 sb_gap)
noncomputable def sb_hears : FS :=
    (sSeq (sUnp (.many [3, 4]) (fV 0))
    (sRet (fOp geD (fV 3) (fCall sumD (fCons (fLcZ (iZip2 (fCons (fV 4) (fCons (fV 2) fNil))) (.many [5, 6]) fYes (fOp ixD (fV 5) (fFn 2 fn_gap (fCons (fV 1) (fCons (fV 6) fNil)))) [5, 6]) fNil)))))
noncomputable def fn_hears : HA := sealFn (runD 7 sb_hears)
noncomputable def sb_is_heard : FS :=
    (sSeq (sSet 3 (fFn 2 fn_seat (fCons (fOp ixD (fV 0) (fC (.int 0))) (fCons (fV 2) fNil))))
    (sRet (fAnd (fOp neD (fOp ixD (fV 1) (fV 3)) (fC (.int 0))) (fFn 3 fn_hears (fCons (fFn 2 fn_ear (fCons (fV 0) (fCons (fV 3) fNil))) (fCons (fOp ixD (fV 1) (fV 3)) (fCons (fV 1) fNil)))))))
noncomputable def fn_is_heard : HA := sealFn (runD 4 sb_is_heard)
end FW
set_option Elab.async false
set_option linter.all false
set_option maxRecDepth 100000
set_option maxHeartbeats 4000000
namespace FW
open PySem PySem.Spec PyProof.Rows L2 GxR LG EL
noncomputable def sb_unheard : FS :=
    (sSeq (sSet 2 (fOp ixD (fV 0) (fC (.int 0))))
    (sRet (fLcZ (iZip2 (fCons (fV 2) (fCons (fV 1) fNil))) (.many [3, 4]) (fTAnd (fTst (fOp neD (fV 4) (fC (.int 0)))) (fTNot (fTst (fFn 3 fn_is_heard (fCons (fV 0) (fCons (fV 1) (fCons (fOp ixD (fV 3) (fC (.int 0))) fNil))))))) (fOp ixD (fV 3) (fC (.int 0))) [3, 4])))
noncomputable def fn_unheard : HA := sealFn (runD 5 sb_unheard)
noncomputable def sb_ears_of : FS :=
    (sRet (fLcZ (iRange1 (fCons (fCall lenD (fCons (fOp ixD (fV 0) (fC (.int 0))) fNil)) fNil)) (.one 1) fYes (fFn 2 fn_ear (fCons (fV 0) (fCons (fV 1) fNil))) [1]))
noncomputable def fn_ears_of : HA := sealFn (runD 2 sb_ears_of)
noncomputable def sb_first_unheard : FS :=
    (sSeq (sFor (iEnum (fCons (fV 1) fNil)) (.many [2, 3]) (sIf (fTAnd (fTst (fOp neD (fV 3) (fC (.int 0)))) (fTNot (fTst (fFn 3 fn_hears (fCons (fOp ixD (fV 0) (fV 2)) (fCons (fV 3) (fCons (fV 1) fNil))))))) (sRet (fV 2)) sNext))
    (sRet (fC .non)))
noncomputable def fn_first_unheard : HA := sealFn (runD 4 sb_first_unheard)
noncomputable def sb_all_heard : FS :=
    (sRet (fOp (isB false) (fFn 2 fn_first_unheard (fCons (fV 0) (fCons (fV 1) fNil))) (fC .non)))
noncomputable def fn_all_heard : HA := sealFn (runD 2 sb_all_heard)
end FW
set_option Elab.async false
set_option linter.all false
set_option maxRecDepth 100000
set_option maxHeartbeats 4000000
namespace FW
open PySem PySem.Spec PyProof.Rows L2 GxR LG EL
end FW
set_option Elab.async false
set_option linter.all false
set_option maxRecDepth 100000
set_option maxHeartbeats 4000000
namespace FW
open PySem PySem.Spec PyProof.Rows L2 GxR LG EL
end FW
set_option Elab.async false
set_option linter.all false
set_option maxRecDepth 100000
set_option maxHeartbeats 4000000
namespace FW
open PySem PySem.Spec PyProof.Rows L2 GxR LG EL
end FW
set_option Elab.async false
set_option linter.all false
set_option maxRecDepth 100000
set_option maxHeartbeats 4000000
namespace FW
open PySem PySem.Spec PyProof.Rows L2 GxR LG EL
noncomputable def sb_retuned : FS :=
    (sRet (fOp addD (fOp addD (fSl (fV 0) oNone (oSome (fV 1))) (fTup (fCons (fV 2) fNil))) (fSl (fV 0) (oSome (fOp addD (fV 1) (fC (.int 1)))) oNone)))
noncomputable def fn_retuned : HA := sealFn (runD 3 sb_retuned)
end FW
set_option Elab.async false
set_option linter.all false
set_option maxRecDepth 100000
set_option maxHeartbeats 4000000
namespace FW
open PySem PySem.Spec PyProof.Rows L2 GxR LG EL
noncomputable def sb_Board____init__ : FS :=
    (sSeq (sFldT "Board" "given" (fLst fNil) (fV 0))
    (sFldT "Board" "rows" (fLcZ (iRange1 (fCons (fOp addD (fC (.int 999)) (fC (.int 1))) fNil)) (.one 1) fYes fDNewK [1]) (fV 0)))
noncomputable def fn_Board____init__ : HA := runD 2 sb_Board____init__
noncomputable def sb_are_prices : FS :=
    (sSeq (sIf (fTOr (fTNot (fTst (fCall isiD (fCons (fV 0) (fCons (fC (.ty "tuple")) fNil))))) (fTNot (fTst (fChain leD leD (fC (.int 1)) (fCall lenD (fCons (fV 0) fNil)) (fC (.int 9)))))) (sRet (fC (.bl false))) sNext)
    (sRet (fAllG (iSeq (fV 0)) (.one 0) (fFn 3 fn_is_whole (fCons (fV 0) (fCons (fC (.int 0)) (fCons (fC (.int 1000)) fNil)))) [none])))
noncomputable def fn_are_prices : HA := sealFn (runD 1 sb_are_prices)
noncomputable def sb_House____init__ : FS :=
    (sSeq (sIf (fTNot (fTst (fFn 1 fn_are_prices (fCons (fV 1) fNil)))) sNever sNext)
    (sSeq (sIf (fTNot (fTst (fFn 1 fn_is_leak (fCons (fV 2) fNil)))) sNever sNext)
    (sSeq (sFldT "House" "busy" (fC (.bl false)) (fV 0))
    (sSeq (sFldT "House" "prices" (fV 1) (fV 0))
    (sSeq (sFldT "House" "leak" (fV 2) (fV 0))
    (sSeq (sFldT "House" "hour" (fC (.int 0)) (fV 0))
    (sSeq (sFldT "House" "members" (fTup fNil) (fV 0))
    (sSeq (sFldT "House" "powers" fDNewK (fV 0))
    (sSeq (sFldT "House" "debts" fDNewK (fV 0))
    (sFldT "House" "board" (fMake "Board" 1 fn_Board____init__ fNil) (fV 0)))))))))))
noncomputable def fn_House____init__ : HA := runD 3 sb_House____init__
noncomputable def sb_check_power : FS :=
    (sIf (fTNot (fTst (fFn 1 fn_is_power (fCons (fV 0) fNil)))) sNever sNext)
noncomputable def fn_check_power : HA := sealFn (runD 1 sb_check_power)
noncomputable def sb_check_parts : FS :=
    (sSeq (sIf (fTNot (fTst (fFn 1 fn_is_place (fCons (fV 0) fNil)))) sNever sNext)
    (sSeq (sIf (fTNot (fTst (fFn 1 fn_is_place (fCons (fV 2) fNil)))) sNever sNext)
    (sSeq (sExpr (fFn 1 fn_check_power (fCons (fV 1) fNil)))
    (sIf (fTNot (fTst (fFn 1 fn_is_need (fCons (fV 3) fNil)))) sNever sNext))))
noncomputable def fn_check_parts : HA := sealFn (runD 4 sb_check_parts)
noncomputable def sb_Deed____init__ : FS :=
    (sFldT "Deed" "house" (fV 1) (fV 0))
noncomputable def fn_Deed____init__ : HA := runD 2 sb_Deed____init__
noncomputable def sb_Deed____enter__ : FS :=
    (sFldT "House" "busy" (fC (.bl true)) (fFld "Deed" "house" (fV 0)))
noncomputable def fn_Deed____enter__ : HA := runD 1 sb_Deed____enter__
noncomputable def sb_Deed____exit__ : FS :=
    (sFldT "House" "busy" (fC (.bl false)) (fFld "Deed" "house" (fV 0)))
noncomputable def fn_Deed____exit__ : HA := runD 2 sb_Deed____exit__
noncomputable def sb_House__station : FS :=
    (sWith "Deed" fn_Deed____enter__ fn_Deed____exit__ (fMake "Deed" 2 fn_Deed____init__ (fCons (fV 0) fNil)) (sSeq (sIf (fTNot (fTst (fFn 1 fn_is_name (fCons (fV 1) fNil)))) sNever sNext)
    (sSeq (sIf (fTst (fOp (inK false) (fV 1) (fFld "House" "debts" (fV 0)))) sNever sNext)
    (sSeq (sExpr (fFn 4 fn_check_parts (fCons (fV 2) (fCons (fV 3) (fCons (fV 4) (fCons (fV 5) fNil))))))
    (sSeq (sIf (fTst (fOp eqD (fCall lenD (fCons (fFld "House" "members" (fV 0)) fNil)) (fC (.int 8)))) sNever sNext)
    (sSeq (sFldT "House" "members" (fCall tupleD (fCons (fCall sortedZ (fCons (fLz (fStar (fFld "House" "members" (fV 0)) (fCons (fTup (fCons (fV 1) (fCons (fV 2) (fCons (fV 3) (fCons (fV 4) (fCons (fV 5) fNil)))))) fNil))) fNil)) fNil)) (fV 0))
    (sSeq (sDPutK (fV 3) (fFld "House" "powers" (fV 0)) (fV 1))
    (sDPutK (fC (.int 0)) (fFld "House" "debts" (fV 0)) (fV 1)))))))))
noncomputable def fn_House__station : HA := runD 6 sb_House__station
noncomputable def sb_Licence____init__ : FS :=
    (sSeq (sFldT "Licence" "name" (fV 1) (fV 0))
    (sSeq (sFldT "Licence" "band" (fV 2) (fV 0))
    (sSeq (sFldT "Licence" "price" (fV 3) (fV 0))
    (sSeq (sFldT "Licence" "first" (fV 4) (fV 0))
    (sFldT "Licence" "last" (fV 5) (fV 0))))))
noncomputable def fn_Licence____init__ : HA := runD 6 sb_Licence____init__
noncomputable def sb_Board__give : FS :=
    (sSeq (sSet 2 (fCall lenD (fCons (fFld "Board" "given" (fV 0)) fNil)))
    (sSeq (sExpr (fApp (fFld "Board" "given" (fV 0)) (fV 1)))
    (sSeq (sFor (iRange2 (fCons (fFld "Licence" "first" (fV 1)) (fCons (fOp addD (fFld "Licence" "last" (fV 1)) (fC (.int 1))) fNil))) (.one 3) (sDPutK (fV 2) (fOp ixD (fFld "Board" "rows" (fV 0)) (fV 3)) (fFld "Licence" "name" (fV 1))))
    (sRet (fV 2)))))
noncomputable def fn_Board__give : HA := runD 4 sb_Board__give
noncomputable def sb_House__check_station : FS :=
    (sIf (fTOr (fTNot (fTst (fFn 1 fn_is_name (fCons (fV 1) fNil)))) (fTst (fOp (inK true) (fV 1) (fFld "House" "debts" (fV 0))))) sNever sNext)
noncomputable def fn_House__check_station : HA := sealFn (runD 2 sb_House__check_station)
noncomputable def sb_House__check_hours : FS :=
    (sIf (fTOr (fTNot (fTst (fFn 3 fn_is_whole (fCons (fV 1) (fCons (fFld "House" "hour" (fV 0)) (fCons (fC (.int 999)) fNil)))))) (fTNot (fTst (fFn 3 fn_is_whole (fCons (fV 2) (fCons (fV 1) (fCons (fCall minD (fCons (fOp addD (fV 1) (fC (.int 23))) (fCons (fC (.int 999)) fNil))) fNil))))))) sNever sNext)
noncomputable def fn_House__check_hours : HA := sealFn (runD 3 sb_House__check_hours)
noncomputable def sb_Board__band_of : FS :=
    (sSeq (sSet 3 (fDGet1K (fOp ixD (fFld "Board" "rows" (fV 0)) (fV 2)) (fV 1)))
    (sSeq (sIf (fTst (fOp (isB false) (fV 3) (fC .non))) (sRet (fC (.int 0))) sNext)
    (sRet (fFld "Licence" "band" (fOp ixD (fFld "Board" "given" (fV 0)) (fV 3))))))
noncomputable def fn_Board__band_of : HA := sealFn (runD 4 sb_Board__band_of)
noncomputable def sb_House__check_free : FS :=
    (sFor (iRange2 (fCons (fV 2) (fCons (fOp addD (fV 3) (fC (.int 1))) fNil))) (.one 4) (sIf (fTst (fOp neD (fMeth "Board" "band_of" 3 fn_Board__band_of (fFld "House" "board" (fV 0)) (fCons (fV 1) (fCons (fV 4) fNil))) (fC (.int 0)))) sNever sNext))
noncomputable def fn_House__check_free : HA := sealFn (runD 5 sb_House__check_free)
noncomputable def sb_Board__tuning_in : FS :=
    (sRet (fCall tupleD (fCons (fLcZ (iSeq (fV 1)) (.one 3) fYes (fMeth "Board" "band_of" 3 fn_Board__band_of (fV 0) (fCons (fOp ixD (fV 3) (fC (.int 0))) (fCons (fV 2) fNil))) [3]) fNil)))
noncomputable def fn_Board__tuning_in : HA := sealFn (runD 4 sb_Board__tuning_in)
noncomputable def sb_House__least_band : FS :=
    (sSeq (sSet 4 (fFn 1 fn_ears_of (fCons (fTup (fCons (fFld "House" "members" (fV 0)) (fCons (fFld "House" "leak" (fV 0)) fNil))) fNil)))
    (sSeq (sSet 5 (fFn 2 fn_seat (fCons (fFld "House" "members" (fV 0)) (fCons (fV 1) fNil))))
    (sSeq (sSet 6 (fSortTs (iRange2 (fCons (fV 2) (fCons (fOp addD (fV 3) (fC (.int 1))) fNil))) (.one 8) (fMeth "Board" "tuning_in" 3 fn_Board__tuning_in (fFld "House" "board" (fV 0)) (fCons (fFld "House" "members" (fV 0)) (fCons (fV 8) fNil))) [8]))
    (sSeq (sFor (iRange2 (fCons (fC (.int 1)) (fCons (fOp addD (fCall lenD (fCons (fFld "House" "prices" (fV 0)) fNil)) (fC (.int 1))) fNil))) (.one 7) (sIf (fTst (fAllG (iSeq (fV 6)) (.one 0) (fFn 2 fn_all_heard (fCons (fV 1) (fCons (fFn 3 fn_retuned (fCons (fV 0) (fCons (fV 2) (fCons (fV 3) fNil)))) fNil))) [none, some 4, some 5, some 7])) (sRet (fV 7)) sNext))
    (sRet (fC .non))))))
noncomputable def fn_House__least_band : HA := sealFn (runD 9 sb_House__least_band)
noncomputable def sb_House__ask : FS :=
    (sWith "Deed" fn_Deed____enter__ fn_Deed____exit__ (fMake "Deed" 2 fn_Deed____init__ (fCons (fV 0) fNil)) (sSeq (sExpr (fMeth "House" "check_station" 2 fn_House__check_station (fV 0) (fCons (fV 1) fNil)))
    (sSeq (sExpr (fMeth "House" "check_hours" 3 fn_House__check_hours (fV 0) (fCons (fV 2) (fCons (fV 3) fNil))))
    (sSeq (sExpr (fMeth "House" "check_free" 4 fn_House__check_free (fV 0) (fCons (fV 1) (fCons (fV 2) (fCons (fV 3) fNil)))))
    (sSeq (sSet 4 (fMeth "House" "least_band" 4 fn_House__least_band (fV 0) (fCons (fV 1) (fCons (fV 2) (fCons (fV 3) fNil)))))
    (sSeq (sIf (fTst (fOp (isB false) (fV 4) (fC .non))) (sRet (fC .non)) sNext)
    (sSeq (sSet 5 (fOp ixD (fFld "House" "prices" (fV 0)) (fOp subD (fV 4) (fC (.int 1)))))
    (sSeq (sSet 6 (fMeth "Board" "give" 2 fn_Board__give (fFld "House" "board" (fV 0)) (fCons (fMake "Licence" 6 fn_Licence____init__ (fCons (fV 1) (fCons (fV 4) (fCons (fV 5) (fCons (fV 2) (fCons (fV 3) fNil)))))) fNil)))
    (sSeq (sSet 7 (fOp mulD (fV 5) (fOp addD (fOp subD (fV 3) (fV 2)) (fC (.int 1)))))
    (sSeq (sDAugK true (fV 7) (fFld "House" "debts" (fV 0)) (fV 1))
    (sRet (fTup (fCons (fV 6) (fCons (fV 4) (fCons (fV 7) fNil)))))))))))))))
noncomputable def fn_House__ask : HA := runD 8 sb_House__ask
noncomputable def sb_House__stations : FS :=
    (sRet (fCall listZ (fCons (fFld "House" "members" (fV 0)) fNil)))
noncomputable def fn_House__stations : HA := sealFn (runD 1 sb_House__stations)
noncomputable def sb_House__sending : FS :=
    (sSeq (sIf (fTNot (fTst (fFn 3 fn_is_whole (fCons (fV 1) (fCons (fC (.int 0)) (fCons (fC (.int 999)) fNil)))))) sNever sNext)
    (sSeq (sSet 2 (fMeth "Board" "tuning_in" 3 fn_Board__tuning_in (fFld "House" "board" (fV 0)) (fCons (fFld "House" "members" (fV 0)) (fCons (fV 1) fNil))))
    (sRet (fLcZ (iZip2 (fCons (fFld "House" "members" (fV 0)) (fCons (fV 2) fNil))) (.many [3, 4]) (fTst (fOp neD (fV 4) (fC (.int 0)))) (fTup (fCons (fOp ixD (fV 3) (fC (.int 0))) (fCons (fV 4) fNil))) [3, 4]))))
noncomputable def fn_House__sending : HA := sealFn (runD 5 sb_House__sending)
end FW
set_option Elab.async false
set_option linter.all false
set_option maxRecDepth 100000
set_option maxHeartbeats 4000000
namespace FW
open PySem PySem.Spec PyProof.Rows L2 GxR LG EL
noncomputable def sb_Board__hours_of : FS :=
    (sSeq (sSet 4 (fOp ixD (fFld "Board" "given" (fV 0)) (fV 1)))
    (sSeq (sSet 5 (fCall maxD (fCons (fV 2) (fCons (fFld "Licence" "first" (fV 4)) fNil))))
    (sSeq (sSet 6 (fCall minD (fCons (fV 3) (fCons (fFld "Licence" "last" (fV 4)) fNil))))
    (sRet (fLcZ (iRange2 (fCons (fV 5) (fCons (fOp addD (fV 6) (fC (.int 1))) fNil))) (.one 7) (fTst (fOp eqD (fDGet1K (fOp ixD (fFld "Board" "rows" (fV 0)) (fV 7)) (fFld "Licence" "name" (fV 4))) (fV 1))) (fV 7) [7])))))
noncomputable def fn_Board__hours_of : HA := sealFn (runD 8 sb_Board__hours_of)
noncomputable def sb_House__licences : FS :=
    (sSeq (sSet 1 (fLst fNil))
    (sSeq (sFor (iEnum (fCons (fFld "Board" "given" (fFld "House" "board" (fV 0))) fNil)) (.many [2, 3]) (sSeq (sSet 4 (fMeth "Board" "hours_of" 4 fn_Board__hours_of (fFld "House" "board" (fV 0)) (fCons (fV 2) (fCons (fC (.int 0)) (fCons (fC (.int 999)) fNil)))))
    (sIf (fTru (fV 4)) (sExpr (fApp (fV 1) (fTup (fCons (fV 2) (fCons (fFld "Licence" "name" (fV 3)) (fCons (fFld "Licence" "band" (fV 3)) (fCons (fCall tupleD (fCons (fV 4) fNil)) fNil))))))) sNext)))
    (sRet (fV 1))))
noncomputable def fn_House__licences : HA := sealFn (runD 5 sb_House__licences)
noncomputable def sb_House__owed : FS :=
    (sSeq (sExpr (fMeth "House" "check_station" 2 fn_House__check_station (fV 0) (fCons (fV 1) fNil)))
    (sRet (fOp getK (fFld "House" "debts" (fV 0)) (fV 1))))
noncomputable def fn_House__owed : HA := sealFn (runD 2 sb_House__owed)
noncomputable def sb__law_least : FS :=
    (sSeq (sSet 6 (fCall dictZ (fCons (fLcZ (iSeq (fMeth "House" "stations" 1 fn_House__stations (fV 0) fNil)) (.one 12) fYes (fTup (fCons (fOp ixD (fV 12) (fC (.int 0))) (fCons (fV 12) fNil))) [12]) fNil)))
    (sSeq (sFor (iRange2 (fCons (fC (.int 1)) (fCons (fOp addD (fV 2) (fC (.int 1))) fNil))) (.one 7) (sSeq (sSet 8 (fLz fNil))
    (sSeq (sFor (iRange2 (fCons (fV 4) (fCons (fOp addD (fV 5) (fC (.int 1))) fNil))) (.one 9) (sSeq (sSet 10 (fCall dictZ (fCons (fMeth "House" "sending" 2 fn_House__sending (fV 0) (fCons (fV 9) fNil)) fNil)))
    (sSeq (sDPutK (fV 7) (fV 10) (fV 3))
    (sSeq (sSet 11 (fCall tupleD (fCons (fLcZ (iSeq (fCall sortK (fCons (fV 10) fNil))) (.one 13) fYes (fOp getK (fV 6) (fV 13)) [13]) fNil)))
    (sSet 8 (fOp addD (fV 8) (fFn 2 fn_unheard (fCons (fTup (fCons (fV 11) (fCons (fV 1) fNil))) (fCons (fCall tupleD (fCons (fLcZ (iSeq (fV 11)) (.one 12) fYes (fOp getK (fV 10) (fOp ixD (fV 12) (fC (.int 0)))) [12]) fNil)) fNil)))))))))
    (sIf (fTst (fOp eqD (fV 8) (fLz fNil))) (sRet (fV 7)) sNext))))
    (sRet (fC .non))))
noncomputable def fn__law_least : HA := sealFn (runD 14 sb__law_least)
end FW
set_option Elab.async false
set_option linter.all false
set_option maxRecDepth 100000
set_option maxHeartbeats 4000000
namespace K15
open PySem PySem.Spec PyProof.Rows L2 GxR LG EL FW
/-- the built-ins' names are not taken; the module's numbers -/
structure T0 (G : G0) : Prop where
  b_abs : G.mg "abs" = none
  b_all : G.mg "all" = none
  b_bool : G.mg "bool" = none
  b_dict : G.mg "dict" = none
  b_enumerate : G.mg "enumerate" = none
  b_int : G.mg "int" = none
  b_isinstance : G.mg "isinstance" = none
  b_len : G.mg "len" = none
  b_list : G.mg "list" = none
  b_max : G.mg "max" = none
  b_min : G.mg "min" = none
  b_range : G.mg "range" = none
  b_sorted : G.mg "sorted" = none
  b_str : G.mg "str" = none
  b_sum : G.mg "sum" = none
  b_tuple : G.mg "tuple" = none
  b_zip : G.mg "zip" = none
  c_APART : ∃ t, G.mg "APART" = some (.int 2 t)
  c_FARTHEST : ∃ t, G.mg "FARTHEST" = some (.int 1000 t)
  c_LAST_BAND : ∃ t, G.mg "LAST_BAND" = some (.int 9 t)
  c_LAST_HOUR : ∃ t, G.mg "LAST_HOUR" = some (.int 999 t)
  c_LONGEST : ∃ t, G.mg "LONGEST" = some (.int 23 t)
  c_MOST_LEAK : ∃ t, G.mg "MOST_LEAK" = some (.int 1000 t)
  c_MOST_NEED : ∃ t, G.mg "MOST_NEED" = some (.int 1000 t)
  c_MOST_POWER : ∃ t, G.mg "MOST_POWER" = some (.int 1000000 t)
  c_MOST_PRICE : ∃ t, G.mg "MOST_PRICE" = some (.int 1000 t)
  c_MOST_STATIONS : ∃ t, G.mg "MOST_STATIONS" = some (.int 8 t)
  c_NAME_LENGTH : ∃ t, G.mg "NAME_LENGTH" = some (.int 8 t)
  c_SILENCE : ∃ t, G.mg "SILENCE" = some (.int 0 t)
  k_Board : ClsF G "Board" ["given", "rows"]
  k_Deed : ClsF G "Deed" ["house"]
  k_House : ClsF G "House" ["busy", "prices", "leak", "hour", "members", "powers", "debts", "board"]
  k_Licence : ClsF G "Licence" ["name", "band", "price", "first", "last"]
variable {G : G0}
abbrev W0 : WX := fun _ _ _ _ => False
theorem sc_is_number : FnScope ["thing"] ["thing"] (defScope st_is_number) := ⟨rfl, rfl, rfl, by decide +kernel, rfl, by decide +kernel, by decide +kernel⟩
theorem d_is_number {cdv : Value} (T : T0 G) (F : FnAt G "is_number" st_is_number cdv)  : Def G 1 "is_number" 1 fn_is_number :=
  (def_at (W := W0) (k := 0) (sb := sb_is_number) F sc_is_number (fun _ _ _ _ _ us hl => match us, hl with | [_], _ => rfl) fun f A outer s H o hr hcell =>
    (ds_one (ds_ret (de_and (x_bi o (dc_isi o.on) T.b_isinstance (by decide +kernel) (da_cons (x_var o 0) (da_cons (x_ty o T.b_int (by decide +kernel)) da_nil))) (de_one (de_not (x_bi o (dc_isi o.on) T.b_isinstance (by decide +kernel) (da_cons (x_var o 0) (da_cons (x_ty o T.b_bool (by decide +kernel)) da_nil))))))))).seal
theorem sc_is_whole : FnScope ["thing", "low", "high"] ["thing", "low", "high"] (defScope st_is_whole) := ⟨rfl, rfl, rfl, by decide +kernel, rfl, by decide +kernel, by decide +kernel⟩
theorem d_is_whole {cdv : Value} (T : T0 G) (F : FnAt G "is_whole" st_is_whole cdv) (d_is_number : Def G 1 "is_number" 1 (fn_is_number)) : Def G 2 "is_whole" 3 fn_is_whole :=
  (def_at (W := W0) (k := 1) (sb := sb_is_whole) F sc_is_whole (fun _ _ _ _ _ us hl => match us, hl with | [_, _, _], _ => rfl) fun f A outer s H o hr hcell =>
    (ds_one (ds_ret (de_and (x_call o d_is_number (hr.mono (by decide)) (da_cons (x_var o 0) da_nil)) (de_one (de_chain do_le do_le (x_var o 1) (x_var o 0) (x_var o 2))))))).seal
theorem sc_is_leak : FnScope ["thing"] ["thing"] (defScope st_is_leak) := ⟨rfl, rfl, rfl, by decide +kernel, rfl, by decide +kernel, by decide +kernel⟩
theorem d_is_leak {cdv : Value} (T : T0 G) (F : FnAt G "is_leak" st_is_leak cdv) (d_is_whole : Def G 2 "is_whole" 3 (fn_is_whole)) : Def G 3 "is_leak" 1 fn_is_leak :=
  (def_at (W := W0) (k := 2) (sb := sb_is_leak) F sc_is_leak (fun _ _ _ _ _ us hl => match us, hl with | [_], _ => rfl) fun f A outer s H o hr hcell =>
    (ds_one (ds_ret (x_call o d_is_whole (hr.mono (by decide)) (da_cons (x_var o 0) (da_cons de_int (da_cons (x_gint o T.c_MOST_LEAK) da_nil))))))).seal
theorem sc_Board____init__ : FnScope ["self", "hour"] ["self"] (defScope st_Board____init__) := ⟨rfl, rfl, rfl, by decide +kernel, rfl, by decide +kernel, by decide +kernel⟩
theorem d_Board____init__ {cdv : Value} (T : T0 G) (F : InAt G "Board" "Board.__init__" st_Board____init__ cdv)  : DefI G 1 "Board" 1 fn_Board____init__ :=
  (init_at (W := W0) (k := 0) (sb := sb_Board____init__) F sc_Board____init__ (fun _ _ _ _ _ us hl => match us, hl with | [_], _ => rfl) fun f A outer s H o hr hcell =>
    (ds_cons (x_sfld o T.k_Board (de_lst da_nil) (x_var o 0))
    (ds_one (x_sfld o T.k_Board (x_lcZ o [("hour", 1)] (x_rng1 o T.b_range (da_cons (x_add o (x_gint o T.c_LAST_HOUR) de_int) da_nil)) (fun X' o' hA => (x_tg1 o' 1)) (fun X' o' hA => dts_nil) (fun X' o' hA => de_dnewK)) (x_var o 0)))))
theorem sc_are_prices : FnScope ["thing"] ["thing"] (defScope st_are_prices) := ⟨rfl, rfl, rfl, by decide +kernel, rfl, by decide +kernel, by decide +kernel⟩
theorem d_are_prices {cc P : Addr} (hP : P ∈ G.Ps) (hTB : TabB G.base G.mg cc P) (T : T0 G) (F : FnAt G "are_prices" st_are_prices (.ref cc)) (d_is_whole : Def G 2 "is_whole" 3 (fn_is_whole)) : Def G 4 "are_prices" 1 fn_are_prices :=
  (def_at (W := W0) (k := 3) (sb := sb_are_prices) F sc_are_prices (fun _ _ _ _ _ us hl => match us, hl with | [_], _ => rfl) fun f A outer s H o hr hcell =>
    (ds_cons (ds_if (PW.pt (dw_or (dt_not (dt_val (x_bi o (dc_isi o.on) T.b_isinstance (by decide +kernel) (da_cons (x_var o 0) (da_cons (x_ty o T.b_tuple (by decide +kernel)) da_nil))))) (dw_or1 (dt_not (dt_chain do_le do_le de_int (x_bi o (dc_len o.on) T.b_len (by decide +kernel) (da_cons (x_var o 0) da_nil)) (x_gint o T.c_LAST_BAND)))))) (ds_one (ds_ret de_bl)) ds_nil)
    (ds_one (ds_ret (x_all (k := 2) o ["part"] [none] hP (hr.mono (by decide)) T.b_all hTB rfl (x_in o (x_var o 0)) (fun X' o' hr' => (x_tg1 o' 0)) (fun X' o' hr' => (x_call o' d_is_whole (hr'.mono (by decide)) (da_cons (x_var o' 0) (da_cons de_int (da_cons (x_gint o' T.c_MOST_PRICE) da_nil))))) (gsc_by o hcell (by decide +kernel)) (hcap := (cap_ok (by decide +kernel)))))))).seal
theorem sc_House____init__ : FnScope ["self", "prices", "leak"] ["self", "prices", "leak"] (defScope st_House____init__) := ⟨rfl, rfl, rfl, by decide +kernel, rfl, by decide +kernel, by decide +kernel⟩
theorem d_House____init__ {cdv : Value} (T : T0 G) (F : InAtK G "House" "House.__init__" st_House____init__ [("leak", V.int 20)] cdv) (d_Board____init__ : DefI G 1 "Board" 1 fn_Board____init__) (d_are_prices : Def G 4 "are_prices" 1 (fn_are_prices)) (d_is_leak : Def G 3 "is_leak" 1 (fn_is_leak)) : DefIK G 5 "House" 1 ["leak"] fn_House____init__ :=
  init_atK (W := W0) (k := 4) (n := 1) (sb := sb_House____init__) F sc_House____init__ (by simp) rfl (fun _ _ _ _ _ _ us ws h1 h2 => match us, ws, h1, h2 with | [_, _], [_], _, _ => rfl) fun f A outer s H o hr hcell =>
    (ds_cons (ds_if (dt_not (dt_val (x_call o d_are_prices (hr.mono (by decide)) (da_cons (x_var o 1) da_nil)))) (ds_one ds_never) ds_nil)
    (ds_cons (ds_if (dt_not (dt_val (x_call o d_is_leak (hr.mono (by decide)) (da_cons (x_var o 2) da_nil)))) (ds_one ds_never) ds_nil)
    (ds_cons (x_sfld o T.k_House de_bl (x_var o 0))
    (ds_cons (x_sfld o T.k_House (x_var o 1) (x_var o 0))
    (ds_cons (x_sfld o T.k_House (x_var o 2) (x_var o 0))
    (ds_cons (x_sfld o T.k_House de_int (x_var o 0))
    (ds_cons (x_sfld o T.k_House (de_tup da_nil) (x_var o 0))
    (ds_cons (x_sfld o T.k_House de_dnewK (x_var o 0))
    (ds_cons (x_sfld o T.k_House de_dnewK (x_var o 0))
    (ds_one (x_sfld o T.k_House (x_make0 o d_Board____init__ (hr.mono (by decide))) (x_var o 0))))))))))))
theorem sc_is_name : FnScope ["thing"] ["thing"] (defScope st_is_name) := ⟨rfl, rfl, rfl, by decide +kernel, rfl, by decide +kernel, by decide +kernel⟩
theorem d_is_name {cc P : Addr} (hP : P ∈ G.Ps) (hTB : TabB G.base G.mg cc P) (T : T0 G) (F : FnAt G "is_name" st_is_name (.ref cc))  : Def G 2 "is_name" 1 fn_is_name :=
  (def_at (W := W0) (k := 1) (sb := sb_is_name) F sc_is_name (fun _ _ _ _ _ us hl => match us, hl with | [_], _ => rfl) fun f A outer s H o hr hcell =>
    (ds_cons (ds_if (PW.pt (dw_or (dt_not (dt_val (x_bi o (dc_isi o.on) T.b_isinstance (by decide +kernel) (da_cons (x_var o 0) (da_cons (x_ty o T.b_str (by decide +kernel)) da_nil))))) (dw_or1 (dt_not (dt_chain do_le do_le de_int (x_bi o (dc_len o.on) T.b_len (by decide +kernel) (da_cons (x_var o 0) da_nil)) (x_gint o T.c_NAME_LENGTH)))))) (ds_one (ds_ret de_bl)) ds_nil)
    (ds_one (ds_ret (x_all (k := 0) o ["sign"] [none] hP (hr.mono (by decide)) T.b_all hTB rfl (x_in o (x_var o 0)) (fun X' o' hr' => (x_tg1 o' 0)) (fun X' o' hr' => (de_chain do_le do_le de_str (x_var o' 0) de_str)) (gsc_by o hcell (by decide +kernel)) (hcap := (cap_ok (by decide +kernel)))))))).seal
theorem sc_is_tuple_of : FnScope ["thing", "many"] ["thing", "many"] (defScope st_is_tuple_of) := ⟨rfl, rfl, rfl, by decide +kernel, rfl, by decide +kernel, by decide +kernel⟩
theorem d_is_tuple_of {cdv : Value} (T : T0 G) (F : FnAt G "is_tuple_of" st_is_tuple_of cdv)  : Def G 1 "is_tuple_of" 2 fn_is_tuple_of :=
  (def_at (W := W0) (k := 0) (sb := sb_is_tuple_of) F sc_is_tuple_of (fun _ _ _ _ _ us hl => match us, hl with | [_, _], _ => rfl) fun f A outer s H o hr hcell =>
    (ds_one (ds_ret (de_and (x_bi o (dc_isi o.on) T.b_isinstance (by decide +kernel) (da_cons (x_var o 0) (da_cons (x_ty o T.b_tuple (by decide +kernel)) da_nil))) (de_one (de_cmp (do_eq (k := 0) o.on (hr.mono (Nat.zero_le _))) (x_bi o (dc_len o.on) T.b_len (by decide +kernel) (da_cons (x_var o 0) da_nil)) (x_var o 1) (nomark _))))))).seal
theorem sc_is_place : FnScope ["thing"] ["thing"] (defScope st_is_place) := ⟨rfl, rfl, rfl, by decide +kernel, rfl, by decide +kernel, by decide +kernel⟩
theorem d_is_place {cc P : Addr} (hP : P ∈ G.Ps) (hTB : TabB G.base G.mg cc P) (T : T0 G) (F : FnAt G "is_place" st_is_place (.ref cc)) (d_is_tuple_of : Def G 1 "is_tuple_of" 2 (fn_is_tuple_of)) (d_is_whole : Def G 2 "is_whole" 3 (fn_is_whole)) : Def G 4 "is_place" 1 fn_is_place :=
  (def_at (W := W0) (k := 3) (sb := sb_is_place) F sc_is_place (fun _ _ _ _ _ us hl => match us, hl with | [_], _ => rfl) fun f A outer s H o hr hcell =>
    (ds_one (ds_ret (de_and (x_call o d_is_tuple_of (hr.mono (by decide)) (da_cons (x_var o 0) (da_cons de_int da_nil))) (de_one (x_all (k := 2) o ["part"] [none] hP (hr.mono (by decide)) T.b_all hTB rfl (x_in o (x_var o 0)) (fun X' o' hr' => (x_tg1 o' 0)) (fun X' o' hr' => (x_call o' d_is_whole (hr'.mono (by decide)) (da_cons (x_var o' 0) (da_cons (de_neg (x_gint o' T.c_FARTHEST)) (da_cons (x_gint o' T.c_FARTHEST) da_nil))))) (gsc_by o hcell (by decide +kernel)) (hcap := (cap_ok (by decide +kernel))))))))).seal
theorem sc_is_need : FnScope ["thing"] ["thing"] (defScope st_is_need) := ⟨rfl, rfl, rfl, by decide +kernel, rfl, by decide +kernel, by decide +kernel⟩
theorem d_is_need {cdv : Value} (T : T0 G) (F : FnAt G "is_need" st_is_need cdv) (d_is_whole : Def G 2 "is_whole" 3 (fn_is_whole)) : Def G 3 "is_need" 1 fn_is_need :=
  (def_at (W := W0) (k := 2) (sb := sb_is_need) F sc_is_need (fun _ _ _ _ _ us hl => match us, hl with | [_], _ => rfl) fun f A outer s H o hr hcell =>
    (ds_one (ds_ret (x_call o d_is_whole (hr.mono (by decide)) (da_cons (x_var o 0) (da_cons de_int (da_cons (x_gint o T.c_MOST_NEED) da_nil))))))).seal
theorem sc_is_power : FnScope ["thing"] ["thing"] (defScope st_is_power) := ⟨rfl, rfl, rfl, by decide +kernel, rfl, by decide +kernel, by decide +kernel⟩
theorem d_is_power {cdv : Value} (T : T0 G) (F : FnAt G "is_power" st_is_power cdv) (d_is_whole : Def G 2 "is_whole" 3 (fn_is_whole)) : Def G 3 "is_power" 1 fn_is_power :=
  (def_at (W := W0) (k := 2) (sb := sb_is_power) F sc_is_power (fun _ _ _ _ _ us hl => match us, hl with | [_], _ => rfl) fun f A outer s H o hr hcell =>
    (ds_one (ds_ret (x_call o d_is_whole (hr.mono (by decide)) (da_cons (x_var o 0) (da_cons de_int (da_cons (x_gint o T.c_MOST_POWER) da_nil))))))).seal
theorem sc_check_power : FnScope ["power"] ["power"] (defScope st_check_power) := ⟨rfl, rfl, rfl, by decide +kernel, rfl, by decide +kernel, by decide +kernel⟩
theorem d_check_power {cdv : Value} (T : T0 G) (F : FnAt G "check_power" st_check_power cdv) (d_is_power : Def G 3 "is_power" 1 (fn_is_power)) : Def G 4 "check_power" 1 fn_check_power :=
  (def_at (W := W0) (k := 3) (sb := sb_check_power) F sc_check_power (fun _ _ _ _ _ us hl => match us, hl with | [_], _ => rfl) fun f A outer s H o hr hcell =>
    (ds_one (ds_if (dt_not (dt_val (x_call o d_is_power (hr.mono (by decide)) (da_cons (x_var o 0) da_nil)))) (ds_one ds_never) ds_nil))).seal
theorem sc_check_parts : FnScope ["place", "power", "hearer", "need"] ["place", "power", "hearer", "need"] (defScope st_check_parts) := ⟨rfl, rfl, rfl, by decide +kernel, rfl, by decide +kernel, by decide +kernel⟩
theorem d_check_parts {cdv : Value} (T : T0 G) (F : FnAt G "check_parts" st_check_parts cdv) (d_check_power : Def G 4 "check_power" 1 (fn_check_power)) (d_is_need : Def G 3 "is_need" 1 (fn_is_need)) (d_is_place : Def G 4 "is_place" 1 (fn_is_place)) : Def G 5 "check_parts" 4 fn_check_parts :=
  (def_at (W := W0) (k := 4) (sb := sb_check_parts) F sc_check_parts (fun _ _ _ _ _ us hl => match us, hl with | [_, _, _, _], _ => rfl) fun f A outer s H o hr hcell =>
    (ds_cons (ds_if (dt_not (dt_val (x_call o d_is_place (hr.mono (by decide)) (da_cons (x_var o 0) da_nil)))) (ds_one ds_never) ds_nil)
    (ds_cons (ds_if (dt_not (dt_val (x_call o d_is_place (hr.mono (by decide)) (da_cons (x_var o 2) da_nil)))) (ds_one ds_never) ds_nil)
    (ds_cons (ds_expr (x_call o d_check_power (hr.mono (by decide)) (da_cons (x_var o 1) da_nil)))
    (ds_one (ds_if (dt_not (dt_val (x_call o d_is_need (hr.mono (by decide)) (da_cons (x_var o 3) da_nil)))) (ds_one ds_never) ds_nil)))))).seal
theorem sc_Deed____init__ : FnScope ["self", "house"] ["self", "house"] (defScope st_Deed____init__) := ⟨rfl, rfl, rfl, by decide +kernel, rfl, by decide +kernel, by decide +kernel⟩
theorem d_Deed____init__ {cdv : Value} (T : T0 G) (F : InAt G "Deed" "Deed.__init__" st_Deed____init__ cdv)  : DefI G 1 "Deed" 2 fn_Deed____init__ :=
  (init_at (W := W0) (k := 0) (sb := sb_Deed____init__) F sc_Deed____init__ (fun _ _ _ _ _ us hl => match us, hl with | [_, _], _ => rfl) fun f A outer s H o hr hcell =>
    (ds_one (x_sfld o T.k_Deed (x_var o 1) (x_var o 0))))
theorem sc_Deed____enter__ : FnScope ["self"] ["self"] (defScope st_Deed____enter__) := ⟨rfl, rfl, rfl, by decide +kernel, rfl, by decide +kernel, by decide +kernel⟩
theorem d_Deed____enter__ {cdv : Value} (T : T0 G) (F : MeAt G "Deed" "__enter__" "Deed.__enter__" st_Deed____enter__ cdv)  : DefM G 1 "Deed" "__enter__" 1 fn_Deed____enter__ :=
  (meth_at (W := W0) (k := 0) (sb := sb_Deed____enter__) F sc_Deed____enter__ (fun _ _ _ _ _ us hl => match us, hl with | [_], _ => rfl) fun f A outer s H o hr hcell =>
    (ds_one (x_sfld o T.k_House de_bl (x_fld o T.k_Deed (x_var o 0)))))
theorem sc_Deed____exit__ : FnScope ["self", "told"] ["self", "told"] (defScope st_Deed____exit__) := ⟨rfl, rfl, rfl, by decide +kernel, rfl, by decide +kernel, by decide +kernel⟩
theorem d_Deed____exit__ {cdv : Value} (T : T0 G) (F : MeAt G "Deed" "__exit__" "Deed.__exit__" st_Deed____exit__ cdv)  : DefXt G 1 "Deed" fn_Deed____exit__ :=
  exit_at (W := W0) (k := 0) (sb := sb_Deed____exit__) F sc_Deed____exit__ (fun _ _ _ _ _ => StX.bind_star1 (B := fun us => bindArgs _ ⟨us, []⟩) (fun _ => rfl) (fun _ _ _ => rfl)) fun f A outer s H o hr =>
    (ds_one (x_sfld o T.k_House de_bl (x_fld o T.k_Deed (x_var o 0))))
theorem sc_House__station : FnScope ["self", "name", "place", "power", "hearer", "need"] ["self", "name", "place", "power", "hearer", "need"] (defScope st_House__station) := ⟨rfl, rfl, rfl, by decide +kernel, rfl, by decide +kernel, by decide +kernel⟩
theorem d_House__station {cdv : Value} (T : T0 G) (F : MeAt G "House" "station" "House.station" st_House__station cdv) (d_Deed____enter__ : DefM G 1 "Deed" "__enter__" 1 fn_Deed____enter__) (d_Deed____exit__ : DefXt G 1 "Deed" fn_Deed____exit__) (d_Deed____init__ : DefI G 1 "Deed" 2 fn_Deed____init__) (d_check_parts : Def G 5 "check_parts" 4 (fn_check_parts)) (d_is_name : Def G 2 "is_name" 1 (fn_is_name)) : DefM G 6 "House" "station" 6 fn_House__station :=
  (meth_at (W := W0) (k := 5) (sb := sb_House__station) F sc_House__station (fun _ _ _ _ _ us hl => match us, hl with | [_, _, _, _, _, _], _ => rfl) fun f A outer s H o hr hcell =>
    (ds_one (ds_with (W' := W0) o.on d_Deed____enter__ d_Deed____exit__ (hr.mono (by decide)) (x_make o d_Deed____init__ (hr.mono (by decide)) (da_cons (x_var o 0) da_nil)) (ds_cons (ds_if (dt_not (dt_val (x_call o.nox d_is_name (hr.mono (by decide)) (da_cons (x_var o.nox 1) da_nil)))) (ds_one ds_never) ds_nil)
    (ds_cons (ds_if (dt_cmp (do_inK (k := 0) o.nox.on (hr.mono (Nat.zero_le _))) (x_var o.nox 1) (x_fld o.nox T.k_House (x_var o.nox 0)) (by rfl)) (ds_one ds_never) ds_nil)
    (ds_cons (ds_expr (x_call o.nox d_check_parts (hr.mono (by decide)) (da_cons (x_var o.nox 2) (da_cons (x_var o.nox 3) (da_cons (x_var o.nox 4) (da_cons (x_var o.nox 5) da_nil))))))
    (ds_cons (ds_if (dt_cmp (do_eq (k := 0) o.nox.on (hr.mono (Nat.zero_le _))) (x_bi o.nox (dc_len o.nox.on) T.b_len (by decide +kernel) (da_cons (x_fld o.nox T.k_House (x_var o.nox 0)) da_nil)) (x_gint o.nox T.c_MOST_STATIONS) (nomark _)) (ds_one ds_never) ds_nil)
    (ds_cons (x_sfld o.nox T.k_House (x_bt o.nox (dc_tuple o.nox.on) T.b_tuple (by decide +kernel) (da_cons (x_bi o.nox (dc_sorted (k := 0) o.nox.on (hr.mono (Nat.zero_le _))) T.b_sorted (by decide +kernel) (da_cons (de_lz (da_star o.nox.on (x_fld o.nox T.k_House (x_var o.nox 0)) (da_cons (de_tup (da_cons (x_var o.nox 1) (da_cons (x_var o.nox 2) (da_cons (x_var o.nox 3) (da_cons (x_var o.nox 4) (da_cons (x_var o.nox 5) da_nil)))))) da_nil))) da_nil)) da_nil)) (x_var o.nox 0))
    (ds_cons (ds_dputK (k := 0) (hr.mono (Nat.zero_le _)) (x_var o.nox 3) (x_fld o.nox T.k_House (x_var o.nox 0)) (x_var o.nox 1))
    (ds_one (ds_dputK (k := 0) (hr.mono (Nat.zero_le _)) de_int (x_fld o.nox T.k_House (x_var o.nox 0)) (x_var o.nox 1))))))))))))
theorem sc_Licence____init__ : FnScope ["self", "name", "band", "price", "first", "last"] ["self", "name", "band", "price", "first", "last"] (defScope st_Licence____init__) := ⟨rfl, rfl, rfl, by decide +kernel, rfl, by decide +kernel, by decide +kernel⟩
theorem d_Licence____init__ {cdv : Value} (T : T0 G) (F : InAt G "Licence" "Licence.__init__" st_Licence____init__ cdv)  : DefI G 1 "Licence" 6 fn_Licence____init__ :=
  (init_at (W := W0) (k := 0) (sb := sb_Licence____init__) F sc_Licence____init__ (fun _ _ _ _ _ us hl => match us, hl with | [_, _, _, _, _, _], _ => rfl) fun f A outer s H o hr hcell =>
    (ds_cons (x_sfld o T.k_Licence (x_var o 1) (x_var o 0))
    (ds_cons (x_sfld o T.k_Licence (x_var o 2) (x_var o 0))
    (ds_cons (x_sfld o T.k_Licence (x_var o 3) (x_var o 0))
    (ds_cons (x_sfld o T.k_Licence (x_var o 4) (x_var o 0))
    (ds_one (x_sfld o T.k_Licence (x_var o 5) (x_var o 0))))))))
theorem sc_Board__give : FnScope ["self", "licence", "number", "hour"] ["self", "licence"] (defScope st_Board__give) := ⟨rfl, rfl, rfl, by decide +kernel, rfl, by decide +kernel, by decide +kernel⟩
theorem d_Board__give {cdv : Value} (T : T0 G) (F : MeAt G "Board" "give" "Board.give" st_Board__give cdv)  : DefM G 1 "Board" "give" 2 fn_Board__give :=
  (meth_at (W := W0) (k := 0) (sb := sb_Board__give) F sc_Board__give (fun _ _ _ _ _ us hl => match us, hl with | [_, _], _ => rfl) fun f A outer s H o hr hcell =>
    (ds_cons (x_set o 2 (x_bi o (dc_len o.on) T.b_len (by decide +kernel) (da_cons (x_fld o T.k_Board (x_var o 0)) da_nil)))
    (ds_cons (ds_expr (de_append o.on (x_fld o T.k_Board (x_var o 0)) (x_var o 1)))
    (ds_cons (x_for o (x_rng2 o T.b_range (da_cons (x_fld o T.k_Licence (x_var o 1)) (da_cons (x_add o (x_fld o T.k_Licence (x_var o 1)) de_int) da_nil))) (x_tg1 o 3) (ds_one (ds_dputK (k := 0) (hr.mono (Nat.zero_le _)) (x_var o 2) (x_ix o (x_fld o T.k_Board (x_var o 0)) (x_var o 3)) (x_fld o T.k_Licence (x_var o 1)))))
    (ds_one (ds_ret (x_var o 2)))))))
theorem sc_House__check_station : FnScope ["self", "name"] ["self", "name"] (defScope st_House__check_station) := ⟨rfl, rfl, rfl, by decide +kernel, rfl, by decide +kernel, by decide +kernel⟩
theorem d_House__check_station {cdv : Value} (T : T0 G) (F : MeAt G "House" "check_station" "House.check_station" st_House__check_station cdv) (d_is_name : Def G 2 "is_name" 1 (fn_is_name)) : DefM G 3 "House" "check_station" 2 fn_House__check_station :=
  (meth_at (W := W0) (k := 2) (sb := sb_House__check_station) F sc_House__check_station (fun _ _ _ _ _ us hl => match us, hl with | [_, _], _ => rfl) fun f A outer s H o hr hcell =>
    (ds_one (ds_if (PW.pt (dw_or (dt_not (dt_val (x_call o d_is_name (hr.mono (by decide)) (da_cons (x_var o 1) da_nil)))) (dw_or1 (dt_cmp (do_notinK (k := 0) o.on (hr.mono (Nat.zero_le _))) (x_var o 1) (x_fld o T.k_House (x_var o 0)) (by rfl))))) (ds_one ds_never) ds_nil))).seal
theorem sc_House__check_hours : FnScope ["self", "first", "last"] ["self", "first", "last"] (defScope st_House__check_hours) := ⟨rfl, rfl, rfl, by decide +kernel, rfl, by decide +kernel, by decide +kernel⟩
theorem d_House__check_hours {cdv : Value} (T : T0 G) (F : MeAt G "House" "check_hours" "House.check_hours" st_House__check_hours cdv) (d_is_whole : Def G 2 "is_whole" 3 (fn_is_whole)) : DefM G 3 "House" "check_hours" 3 fn_House__check_hours :=
  (meth_at (W := W0) (k := 2) (sb := sb_House__check_hours) F sc_House__check_hours (fun _ _ _ _ _ us hl => match us, hl with | [_, _, _], _ => rfl) fun f A outer s H o hr hcell =>
    (ds_one (ds_if (PW.pt (dw_or (dt_not (dt_val (x_call o d_is_whole (hr.mono (by decide)) (da_cons (x_var o 1) (da_cons (x_fld o T.k_House (x_var o 0)) (da_cons (x_gint o T.c_LAST_HOUR) da_nil)))))) (dw_or1 (dt_not (dt_val (x_call o d_is_whole (hr.mono (by decide)) (da_cons (x_var o 2) (da_cons (x_var o 1) (da_cons (x_bi o (dc_min o.on) T.b_min (by decide +kernel) (da_cons (x_add o (x_var o 1) (x_gint o T.c_LONGEST)) (da_cons (x_gint o T.c_LAST_HOUR) da_nil))) da_nil))))))))) (ds_one ds_never) ds_nil))).seal
theorem sc_Board__band_of : FnScope ["self", "name", "hour", "number"] ["self", "name", "hour"] (defScope st_Board__band_of) := ⟨rfl, rfl, rfl, by decide +kernel, rfl, by decide +kernel, by decide +kernel⟩
theorem d_Board__band_of {cdv : Value} (T : T0 G) (F : MeAt G "Board" "band_of" "Board.band_of" st_Board__band_of cdv)  : DefM G 1 "Board" "band_of" 3 fn_Board__band_of :=
  (meth_at (W := W0) (k := 0) (sb := sb_Board__band_of) F sc_Board__band_of (fun _ _ _ _ _ us hl => match us, hl with | [_, _, _], _ => rfl) fun f A outer s H o hr hcell =>
    (ds_cons (x_set o 3 (de_get1K (k := 0) (hr.mono (Nat.zero_le _)) (x_ix o (x_fld o T.k_Board (x_var o 0)) (x_var o 2)) (x_var o 1) ⟨rfl, rfl, rfl, rfl⟩))
    (ds_cons (ds_if (dt_cmp do_isB (x_var o 3) de_non (nomark _)) (ds_one (ds_ret (x_gint o T.c_SILENCE))) ds_nil)
    (ds_one (ds_ret (x_fld o T.k_Licence (x_ix o (x_fld o T.k_Board (x_var o 0)) (x_var o 3)))))))).seal
theorem sc_House__check_free : FnScope ["self", "name", "first", "last", "hour"] ["self", "name", "first", "last"] (defScope st_House__check_free) := ⟨rfl, rfl, rfl, by decide +kernel, rfl, by decide +kernel, by decide +kernel⟩
theorem d_House__check_free {cdv : Value} (T : T0 G) (F : MeAt G "House" "check_free" "House.check_free" st_House__check_free cdv) (d_Board__band_of : DefM G 1 "Board" "band_of" 3 fn_Board__band_of) : DefM G 2 "House" "check_free" 4 fn_House__check_free :=
  (meth_at (W := W0) (k := 1) (sb := sb_House__check_free) F sc_House__check_free (fun _ _ _ _ _ us hl => match us, hl with | [_, _, _, _], _ => rfl) fun f A outer s H o hr hcell =>
    (ds_one (x_for o (x_rng2 o T.b_range (da_cons (x_var o 2) (da_cons (x_add o (x_var o 3) de_int) da_nil))) (x_tg1 o 4) (ds_one (ds_if (dt_cmp (do_ne (k := 0) o.on (hr.mono (Nat.zero_le _))) (de_meth o.on d_Board__band_of (hr.mono (by decide)) (x_fld o T.k_House (x_var o 0)) (da_cons (x_var o 1) (da_cons (x_var o 4) da_nil))) (x_gint o T.c_SILENCE) (nomark _)) (ds_one ds_never) ds_nil))))).seal
theorem sc_seat : FnScope ["stations", "name", "at", "station"] ["stations", "name"] (defScope st_seat) := ⟨rfl, rfl, rfl, by decide +kernel, rfl, by decide +kernel, by decide +kernel⟩
theorem d_seat {cdv : Value} (T : T0 G) (F : FnAt G "seat" st_seat cdv)  : Def G 1 "seat" 2 fn_seat :=
  (def_at (W := W0) (k := 0) (sb := sb_seat) F sc_seat (fun _ _ _ _ _ us hl => match us, hl with | [_, _], _ => rfl) fun f A outer s H o hr hcell =>
    (ds_cons (x_for o (x_enum o T.b_enumerate (da_cons (x_var o 0) da_nil)) (x_tgm o (x_tgs o 2 (x_tgs o 3 dgs_nil))) (ds_one (ds_if (dt_cmp (do_eq (k := 0) o.on (hr.mono (Nat.zero_le _))) (x_ix o (x_var o 3) de_int) (x_var o 1) (nomark _)) (ds_one (ds_ret (x_var o 2))) ds_nil)))
    (ds_one ds_never))).seal
theorem sc_spread : FnScope ["place", "hearer", "across", "along"] ["place", "hearer"] (defScope st_spread) := ⟨rfl, rfl, rfl, by decide +kernel, rfl, by decide +kernel, by decide +kernel⟩
theorem d_spread {cdv : Value} (T : T0 G) (F : FnAt G "spread" st_spread cdv)  : Def G 1 "spread" 2 fn_spread :=
  (def_at (W := W0) (k := 0) (sb := sb_spread) F sc_spread (fun _ _ _ _ _ us hl => match us, hl with | [_, _], _ => rfl) fun f A outer s H o hr hcell =>
    (ds_cons (x_set o 2 (x_sub o (x_ix o (x_var o 1) de_int) (x_ix o (x_var o 0) de_int)))
    (ds_cons (x_set o 3 (x_sub o (x_ix o (x_var o 1) de_int) (x_ix o (x_var o 0) de_int)))
    (ds_one (ds_ret (x_add o (x_add o (x_mul o (x_var o 2) (x_var o 2)) (x_mul o (x_var o 3) (x_var o 3))) de_int)))))).seal
theorem sc_ear : FnScope ["air", "at", "stations", "leak", "hearer", "need", "spreads", "product", "much", "shares", "others", "station", "share"] ["air", "at"] (defScope st_ear) := ⟨rfl, rfl, rfl, by decide +kernel, rfl, by decide +kernel, by decide +kernel⟩
theorem d_ear {cdv : Value} (T : T0 G) (F : FnAt G "ear" st_ear cdv) (d_spread : Def G 1 "spread" 2 (fn_spread)) : Def G 2 "ear" 2 fn_ear :=
  (def_at (W := W0) (k := 1) (sb := sb_ear) F sc_ear (fun _ _ _ _ _ us hl => match us, hl with | [_, _], _ => rfl) fun f A outer s H o hr hcell =>
    (ds_cons (ds_unp (x_var o 0) (x_tgm o (x_tgs o 2 (x_tgs o 3 dgs_nil))))
    (ds_cons (ds_unp (x_slice o (x_ix o (x_var o 2) (x_var o 1)) (dp_some de_int) dp_none) (x_tgm o (x_tgs o 4 (x_tgs o 5 dgs_nil))))
    (ds_cons (x_setLcZ o 6 [("station", 11)] (x_in o (x_var o 2)) (fun X' o' hA => (x_tg1 o' 11)) (fun X' o' hA => dts_nil) (fun X' o' hA => (x_call o' d_spread (by rw [hA]; exact (hr.mono (by decide))) (da_cons (x_ix o' (x_var o' 11) de_int) (da_cons (x_var o' 4) da_nil)))))
    (ds_cons (x_set o 7 de_int)
    (ds_cons (x_for o (x_in o (x_var o 6)) (x_tg1 o 8) (ds_one (x_aug o 7 (x_var o 8) dip_mul)))
    (ds_cons (x_setLcZ o 9 [("station", 11), ("much", 8)] (x_zip2 o T.b_zip (da_cons (x_var o 2) (da_cons (x_var o 6) da_nil))) (fun X' o' hA => (x_tgm o' (x_tgs o' 11 (x_tgs o' 8 dgs_nil)))) (fun X' o' hA => dts_nil) (fun X' o' hA => (x_mul o' (x_ix o' (x_var o' 11) de_int) (x_fdiv o' (x_var o' 7) (x_var o' 8)))))
    (ds_cons (x_setLc o 10 [("share", 12)] (x_in o (x_var o 9)) (fun X' o' hA => (x_tg1 o' 12)) (fun X' o' hA => dts_nil) (fun X' o' hA => (de_tup (da_cons (x_mul o' (x_mul o' (x_var o' 5) (x_var o' 3)) (x_var o' 12)) (da_cons (x_mul o' (x_var o' 5) (x_var o' 12)) (da_cons de_int da_nil))))))
    (ds_cons (ds_put (de_tup (da_cons de_int (da_cons de_int (da_cons de_int da_nil)))) (x_var o 10) (x_var o 1) (pg_sub (x_var o 10) (x_var o 1) set_list))
    (ds_one (ds_ret (de_tup (da_cons (x_mul o (x_var o 3) (x_ix o (x_var o 9) (x_var o 1))) (da_cons (x_var o 10) da_nil)))))))))))))).seal
theorem sc_ears_of : FnScope ["air", "at"] ["air"] (defScope st_ears_of) := ⟨rfl, rfl, rfl, by decide +kernel, rfl, by decide +kernel, by decide +kernel⟩
theorem d_ears_of {cdv : Value} (T : T0 G) (F : FnAt G "ears_of" st_ears_of cdv) (d_ear : Def G 2 "ear" 2 (fn_ear)) : Def G 3 "ears_of" 1 fn_ears_of :=
  (def_at (W := W0) (k := 2) (sb := sb_ears_of) F sc_ears_of (fun _ _ _ _ _ us hl => match us, hl with | [_], _ => rfl) fun f A outer s H o hr hcell =>
    (ds_one (ds_ret (x_lcZ o [("at", 1)] (x_rng1 o T.b_range (da_cons (x_bi o (dc_len o.on) T.b_len (by decide +kernel) (da_cons (x_ix o (x_var o 0) de_int) da_nil)) da_nil)) (fun X' o' hA => (x_tg1 o' 1)) (fun X' o' hA => dts_nil) (fun X' o' hA => (x_call o' d_ear (by rw [hA]; exact (hr.mono (by decide))) (da_cons (x_var o' 0) (da_cons (x_var o' 1) da_nil)))))))).seal
theorem sc_gap : FnScope ["band", "other"] ["band", "other"] (defScope st_gap) := ⟨rfl, rfl, rfl, by decide +kernel, rfl, by decide +kernel, by decide +kernel⟩
theorem d_gap {cdv : Value} (T : T0 G) (F : FnAt G "gap" st_gap cdv)  : Def G 1 "gap" 2 fn_gap :=
  (def_at (W := W0) (k := 0) (sb := sb_gap) F sc_gap (fun _ _ _ _ _ us hl => match us, hl with | [_, _], _ => rfl) fun f A outer s H o hr hcell =>
    (ds_cons (ds_if (dt_cmp (do_in (k := 0) o.on (hr.mono (Nat.zero_le _))) (x_gint o T.c_SILENCE) (de_tup (da_cons (x_var o 0) (da_cons (x_var o 1) da_nil))) (by rfl)) (ds_one (ds_ret (x_gint o T.c_APART))) ds_nil)
    (ds_one (ds_ret (x_bi o (dc_min o.on) T.b_min (by decide +kernel) (da_cons (x_bi o dc_abs T.b_abs (by decide +kernel) (da_cons (x_sub o (x_var o 0) (x_var o 1)) da_nil)) (da_cons (x_gint o T.c_APART) da_nil))))))).seal
theorem sc_hears : FnScope ["one_ear", "band", "tuning", "own", "others", "much", "there"] ["one_ear", "band", "tuning"] (defScope st_hears) := ⟨rfl, rfl, rfl, by decide +kernel, rfl, by decide +kernel, by decide +kernel⟩
theorem d_hears {cdv : Value} (T : T0 G) (F : FnAt G "hears" st_hears cdv) (d_gap : Def G 1 "gap" 2 (fn_gap)) : Def G 2 "hears" 3 fn_hears :=
  (def_at (W := W0) (k := 1) (sb := sb_hears) F sc_hears (fun _ _ _ _ _ us hl => match us, hl with | [_, _, _], _ => rfl) fun f A outer s H o hr hcell =>
    (ds_cons (ds_unp (x_var o 0) (x_tgm o (x_tgs o 3 (x_tgs o 4 dgs_nil))))
    (ds_one (ds_ret (de_cmp do_ge (x_var o 3) (x_bi o (dc_sum o.on) T.b_sum (by decide +kernel) (da_cons (x_lcZ o [("much", 5), ("there", 6)] (x_zip2 o T.b_zip (da_cons (x_var o 4) (da_cons (x_var o 2) da_nil))) (fun X' o' hA => (x_tgm o' (x_tgs o' 5 (x_tgs o' 6 dgs_nil)))) (fun X' o' hA => dts_nil) (fun X' o' hA => (x_ix o' (x_var o' 5) (x_call o' d_gap (by rw [hA]; exact (hr.mono (by decide))) (da_cons (x_var o' 1) (da_cons (x_var o' 6) da_nil)))))) da_nil)) (nomark _)))))).seal
theorem sc_first_unheard : FnScope ["ears", "tuning", "at", "band"] ["ears", "tuning"] (defScope st_first_unheard) := ⟨rfl, rfl, rfl, by decide +kernel, rfl, by decide +kernel, by decide +kernel⟩
theorem d_first_unheard {cdv : Value} (T : T0 G) (F : FnAt G "first_unheard" st_first_unheard cdv) (d_hears : Def G 2 "hears" 3 (fn_hears)) : Def G 3 "first_unheard" 2 fn_first_unheard :=
  (def_at (W := W0) (k := 2) (sb := sb_first_unheard) F sc_first_unheard (fun _ _ _ _ _ us hl => match us, hl with | [_, _], _ => rfl) fun f A outer s H o hr hcell =>
    (ds_cons (x_for o (x_enum o T.b_enumerate (da_cons (x_var o 1) da_nil)) (x_tgm o (x_tgs o 2 (x_tgs o 3 dgs_nil))) (ds_one (ds_if (PW.pt (dw_and (dt_cmp (do_ne (k := 0) o.on (hr.mono (Nat.zero_le _))) (x_var o 3) (x_gint o T.c_SILENCE) (nomark _)) (dw_and1 (dt_not (dt_val (x_call o d_hears (hr.mono (by decide)) (da_cons (x_ix o (x_var o 0) (x_var o 2)) (da_cons (x_var o 3) (da_cons (x_var o 1) da_nil))))))))) (ds_one (ds_ret (x_var o 2))) ds_nil)))
    (ds_one (ds_ret de_non)))).seal
theorem sc_all_heard : FnScope ["ears", "tuning"] ["ears", "tuning"] (defScope st_all_heard) := ⟨rfl, rfl, rfl, by decide +kernel, rfl, by decide +kernel, by decide +kernel⟩
theorem d_all_heard {cdv : Value} (T : T0 G) (F : FnAt G "all_heard" st_all_heard cdv) (d_first_unheard : Def G 3 "first_unheard" 2 (fn_first_unheard)) : Def G 4 "all_heard" 2 fn_all_heard :=
  (def_at (W := W0) (k := 3) (sb := sb_all_heard) F sc_all_heard (fun _ _ _ _ _ us hl => match us, hl with | [_, _], _ => rfl) fun f A outer s H o hr hcell =>
    (ds_one (ds_ret (de_cmp do_isB (x_call o d_first_unheard (hr.mono (by decide)) (da_cons (x_var o 0) (da_cons (x_var o 1) da_nil))) de_non (nomark _))))).seal
theorem sc_retuned : FnScope ["tuning", "at", "band"] ["tuning", "at", "band"] (defScope st_retuned) := ⟨rfl, rfl, rfl, by decide +kernel, rfl, by decide +kernel, by decide +kernel⟩
theorem d_retuned {cdv : Value} (T : T0 G) (F : FnAt G "retuned" st_retuned cdv)  : Def G 1 "retuned" 3 fn_retuned :=
  (def_at (W := W0) (k := 0) (sb := sb_retuned) F sc_retuned (fun _ _ _ _ _ us hl => match us, hl with | [_, _, _], _ => rfl) fun f A outer s H o hr hcell =>
    (ds_one (ds_ret (x_add o (x_add o (x_slice o (x_var o 0) dp_none (dp_some (x_var o 1))) (de_tup (da_cons (x_var o 2) da_nil))) (x_slice o (x_var o 0) (dp_some (x_add o (x_var o 1) de_int)) dp_none))))).seal
theorem sc_Board__tuning_in : FnScope ["self", "stations", "hour", "station"] ["self", "stations", "hour"] (defScope st_Board__tuning_in) := ⟨rfl, rfl, rfl, by decide +kernel, rfl, by decide +kernel, by decide +kernel⟩
theorem d_Board__tuning_in {cdv : Value} (T : T0 G) (F : MeAt G "Board" "tuning_in" "Board.tuning_in" st_Board__tuning_in cdv) (d_Board__band_of : DefM G 1 "Board" "band_of" 3 fn_Board__band_of) : DefM G 2 "Board" "tuning_in" 3 fn_Board__tuning_in :=
  (meth_at (W := W0) (k := 1) (sb := sb_Board__tuning_in) F sc_Board__tuning_in (fun _ _ _ _ _ us hl => match us, hl with | [_, _, _], _ => rfl) fun f A outer s H o hr hcell =>
    (ds_one (ds_ret (x_bt o (dc_tuple o.on) T.b_tuple (by decide +kernel) (da_cons (x_lcZ o [("station", 3)] (x_in o (x_var o 1)) (fun X' o' hA => (x_tg1 o' 3)) (fun X' o' hA => dts_nil) (fun X' o' hA => (de_meth o'.on d_Board__band_of (by rw [hA]; exact (hr.mono (by decide))) (x_var o' 0) (da_cons (x_ix o' (x_var o' 3) de_int) (da_cons (x_var o' 2) da_nil))))) da_nil))))).seal
theorem sc_House__least_band : FnScope ["self", "name", "first", "last", "ears", "at", "tunings", "band", "hour"] ["self", "name", "first", "last"] (defScope st_House__least_band) := ⟨rfl, rfl, rfl, by decide +kernel, rfl, by decide +kernel, by decide +kernel⟩
theorem d_House__least_band {cc P : Addr} (hP : P ∈ G.Ps) (hTB : TabB G.base G.mg cc P) (T : T0 G) (F : MeAt G "House" "least_band" "House.least_band" st_House__least_band (.ref cc)) (d_Board__tuning_in : DefM G 2 "Board" "tuning_in" 3 fn_Board__tuning_in) (d_all_heard : Def G 4 "all_heard" 2 (fn_all_heard)) (d_ears_of : Def G 3 "ears_of" 1 (fn_ears_of)) (d_retuned : Def G 1 "retuned" 3 (fn_retuned)) (d_seat : Def G 1 "seat" 2 (fn_seat)) : DefM G 6 "House" "least_band" 4 fn_House__least_band :=
  (meth_at (W := W0) (k := 5) (sb := sb_House__least_band) F sc_House__least_band (fun _ _ _ _ _ us hl => match us, hl with | [_, _, _, _], _ => rfl) fun f A outer s H o hr hcell =>
    (ds_cons (x_set o 4 (x_call o d_ears_of (hr.mono (by decide)) (da_cons (de_tup (da_cons (x_fld o T.k_House (x_var o 0)) (da_cons (x_fld o T.k_House (x_var o 0)) da_nil))) da_nil)))
    (ds_cons (x_set o 5 (x_call o d_seat (hr.mono (by decide)) (da_cons (x_fld o T.k_House (x_var o 0)) (da_cons (x_var o 1) da_nil))))
    (ds_cons (x_set o 6 (x_sortTs (k := 0) o [("hour", 8)] (hr.mono (Nat.zero_le _)) T.b_sorted (x_rng2 o T.b_range (da_cons (x_var o 2) (da_cons (x_add o (x_var o 3) de_int) da_nil))) (fun X' o' hA => (x_tg1 o' 8)) (fun X' o' hA => (de_meth o'.on d_Board__tuning_in (by rw [hA]; exact (hr.mono (by decide))) (x_fld o' T.k_House (x_var o' 0)) (da_cons (x_fld o' T.k_House (x_var o' 0)) (da_cons (x_var o' 8) da_nil))))))
    (ds_cons (x_for o (x_rng2 o T.b_range (da_cons de_int (da_cons (x_add o (x_bi o (dc_len o.on) T.b_len (by decide +kernel) (da_cons (x_fld o T.k_House (x_var o 0)) da_nil)) de_int) da_nil))) (x_tg1 o 7) (ds_one (ds_if (dt_val (x_all (k := 4) o ["tuning", "ears", "at", "band"] [none, some 4, some 5, some 7] hP (hr.mono (by decide)) T.b_all hTB rfl (x_in o (x_var o 6)) (fun X' o' hr' => (x_tg1 o' 0)) (fun X' o' hr' => (x_call o' d_all_heard (hr'.mono (by decide)) (da_cons (x_var o' 1) (da_cons (x_call o' d_retuned (hr'.mono (by decide)) (da_cons (x_var o' 0) (da_cons (x_var o' 2) (da_cons (x_var o' 3) da_nil)))) da_nil)))) (gsc_by o hcell (by decide +kernel)) (hcap := (cap_ok (by decide +kernel))))) (ds_one (ds_ret (x_var o 7))) ds_nil)))
    (ds_one (ds_ret de_non))))))).seal
theorem sc_House__ask : FnScope ["self", "name", "first", "last", "band", "price", "number", "cost"] ["self", "name", "first", "last"] (defScope st_House__ask) := ⟨rfl, rfl, rfl, by decide +kernel, rfl, by decide +kernel, by decide +kernel⟩
theorem d_House__ask {cdv : Value} (T : T0 G) (F : MeAt G "House" "ask" "House.ask" st_House__ask cdv) (d_Board__give : DefM G 1 "Board" "give" 2 fn_Board__give) (d_Deed____enter__ : DefM G 1 "Deed" "__enter__" 1 fn_Deed____enter__) (d_Deed____exit__ : DefXt G 1 "Deed" fn_Deed____exit__) (d_Deed____init__ : DefI G 1 "Deed" 2 fn_Deed____init__) (d_House__check_free : DefM G 2 "House" "check_free" 4 fn_House__check_free) (d_House__check_hours : DefM G 3 "House" "check_hours" 3 fn_House__check_hours) (d_House__check_station : DefM G 3 "House" "check_station" 2 fn_House__check_station) (d_House__least_band : DefM G 6 "House" "least_band" 4 fn_House__least_band) (d_Licence____init__ : DefI G 1 "Licence" 6 fn_Licence____init__) : DefM G 7 "House" "ask" 4 fn_House__ask :=
  (meth_at (W := W0) (k := 6) (sb := sb_House__ask) F sc_House__ask (fun _ _ _ _ _ us hl => match us, hl with | [_, _, _, _], _ => rfl) fun f A outer s H o hr hcell =>
    (ds_one (ds_with (W' := W0) o.on d_Deed____enter__ d_Deed____exit__ (hr.mono (by decide)) (x_make o d_Deed____init__ (hr.mono (by decide)) (da_cons (x_var o 0) da_nil)) (ds_cons (ds_expr (de_meth o.nox.on d_House__check_station (hr.mono (by decide)) (x_var o.nox 0) (da_cons (x_var o.nox 1) da_nil)))
    (ds_cons (ds_expr (de_meth o.nox.on d_House__check_hours (hr.mono (by decide)) (x_var o.nox 0) (da_cons (x_var o.nox 2) (da_cons (x_var o.nox 3) da_nil))))
    (ds_cons (ds_expr (de_meth o.nox.on d_House__check_free (hr.mono (by decide)) (x_var o.nox 0) (da_cons (x_var o.nox 1) (da_cons (x_var o.nox 2) (da_cons (x_var o.nox 3) da_nil)))))
    (ds_cons (x_set o.nox 4 (de_meth o.nox.on d_House__least_band (hr.mono (by decide)) (x_var o.nox 0) (da_cons (x_var o.nox 1) (da_cons (x_var o.nox 2) (da_cons (x_var o.nox 3) da_nil)))))
    (ds_cons (ds_if (dt_cmp do_isB (x_var o.nox 4) de_non (nomark _)) (ds_one (ds_ret de_non)) ds_nil)
    (ds_cons (x_set o.nox 5 (x_ix o.nox (x_fld o.nox T.k_House (x_var o.nox 0)) (x_sub o.nox (x_var o.nox 4) de_int)))
    (ds_cons (x_set o.nox 6 (de_meth o.nox.on d_Board__give (hr.mono (by decide)) (x_fld o.nox T.k_House (x_var o.nox 0)) (da_cons (x_make o.nox d_Licence____init__ (hr.mono (by decide)) (da_cons (x_var o.nox 1) (da_cons (x_var o.nox 4) (da_cons (x_var o.nox 5) (da_cons (x_var o.nox 2) (da_cons (x_var o.nox 3) da_nil)))))) da_nil)))
    (ds_cons (x_set o.nox 7 (x_mul o.nox (x_var o.nox 5) (x_add o.nox (x_sub o.nox (x_var o.nox 3) (x_var o.nox 2)) de_int)))
    (ds_cons (ds_daugP (k := 0) (hr.mono (Nat.zero_le _)) (x_var o.nox 7) (x_fld o.nox T.k_House (x_var o.nox 0)) (x_var o.nox 1) (by exact fun _ _ _ => rfl))
    (ds_one (ds_ret (de_tup (da_cons (x_var o.nox 6) (da_cons (x_var o.nox 4) (da_cons (x_var o.nox 7) da_nil))))))))))))))))))
theorem sc_House__stations : FnScope ["self"] ["self"] (defScope st_House__stations) := ⟨rfl, rfl, rfl, by decide +kernel, rfl, by decide +kernel, by decide +kernel⟩
theorem d_House__stations {cdv : Value} (T : T0 G) (F : MeAt G "House" "stations" "House.stations" st_House__stations cdv)  : DefM G 1 "House" "stations" 1 fn_House__stations :=
  (meth_at (W := W0) (k := 0) (sb := sb_House__stations) F sc_House__stations (fun _ _ _ _ _ us hl => match us, hl with | [_], _ => rfl) fun f A outer s H o hr hcell =>
    (ds_one (ds_ret (x_bt o (dc_listZ o.on) T.b_list (by decide +kernel) (da_cons (x_fld o T.k_House (x_var o 0)) da_nil))))).seal
theorem sc_Board__hours_of : FnScope ["self", "number", "first", "last", "licence", "low", "high", "hour"] ["self", "number", "first", "last"] (defScope st_Board__hours_of) := ⟨rfl, rfl, rfl, by decide +kernel, rfl, by decide +kernel, by decide +kernel⟩
theorem d_Board__hours_of {cdv : Value} (T : T0 G) (F : MeAt G "Board" "hours_of" "Board.hours_of" st_Board__hours_of cdv)  : DefM G 1 "Board" "hours_of" 4 fn_Board__hours_of :=
  (meth_at (W := W0) (k := 0) (sb := sb_Board__hours_of) F sc_Board__hours_of (fun _ _ _ _ _ us hl => match us, hl with | [_, _, _, _], _ => rfl) fun f A outer s H o hr hcell =>
    (ds_cons (x_set o 4 (x_ix o (x_fld o T.k_Board (x_var o 0)) (x_var o 1)))
    (ds_cons (x_set o 5 (x_bi o (dc_max o.on) T.b_max (by decide +kernel) (da_cons (x_var o 2) (da_cons (x_fld o T.k_Licence (x_var o 4)) da_nil))))
    (ds_cons (x_set o 6 (x_bi o (dc_min o.on) T.b_min (by decide +kernel) (da_cons (x_var o 3) (da_cons (x_fld o T.k_Licence (x_var o 4)) da_nil))))
    (ds_one (ds_ret (x_lcZ o [("hour", 7)] (x_rng2 o T.b_range (da_cons (x_var o 5) (da_cons (x_add o (x_var o 6) de_int) da_nil))) (fun X' o' hA => (x_tg1 o' 7)) (fun X' o' hA => (dts_one (dt_cmp (do_eq (k := 0) o'.on (by rw [hA]; exact (hr.mono (Nat.zero_le _)))) (de_get1K (k := 0) (by rw [hA]; exact (hr.mono (Nat.zero_le _))) (x_ix o' (x_fld o' T.k_Board (x_var o' 0)) (x_var o' 7)) (x_fld o' T.k_Licence (x_var o' 4)) ⟨rfl, rfl, rfl, rfl⟩) (x_var o' 1) (nomark _)))) (fun X' o' hA => (x_var o' 7))))))))).seal
theorem sc_House__licences : FnScope ["self", "told", "number", "licence", "hours"] ["self"] (defScope st_House__licences) := ⟨rfl, rfl, rfl, by decide +kernel, rfl, by decide +kernel, by decide +kernel⟩
theorem d_House__licences {cdv : Value} (T : T0 G) (F : MeAt G "House" "licences" "House.licences" st_House__licences cdv) (d_Board__hours_of : DefM G 1 "Board" "hours_of" 4 fn_Board__hours_of) : DefM G 2 "House" "licences" 1 fn_House__licences :=
  (meth_at (W := W0) (k := 1) (sb := sb_House__licences) F sc_House__licences (fun _ _ _ _ _ us hl => match us, hl with | [_], _ => rfl) fun f A outer s H o hr hcell =>
    (ds_cons (x_set o 1 (de_lst da_nil))
    (ds_cons (x_for o (x_enum o T.b_enumerate (da_cons (x_fld o T.k_Board (x_fld o T.k_House (x_var o 0))) da_nil)) (x_tgm o (x_tgs o 2 (x_tgs o 3 dgs_nil))) (ds_cons (x_set o 4 (de_meth o.on d_Board__hours_of (hr.mono (by decide)) (x_fld o T.k_House (x_var o 0)) (da_cons (x_var o 2) (da_cons de_int (da_cons (x_gint o T.c_LAST_HOUR) da_nil)))))
    (ds_one (ds_if (dt_tru o.on (x_var o 4)) (ds_one (ds_expr (de_append o.on (x_var o 1) (de_tup (da_cons (x_var o 2) (da_cons (x_fld o T.k_Licence (x_var o 3)) (da_cons (x_fld o T.k_Licence (x_var o 3)) (da_cons (x_bt o (dc_tuple o.on) T.b_tuple (by decide +kernel) (da_cons (x_var o 4) da_nil)) da_nil)))))))) ds_nil))))
    (ds_one (ds_ret (x_var o 1)))))).seal
theorem sc_House__sending : FnScope ["self", "hour", "tuning", "station", "band"] ["self", "hour"] (defScope st_House__sending) := ⟨rfl, rfl, rfl, by decide +kernel, rfl, by decide +kernel, by decide +kernel⟩
theorem d_House__sending {cdv : Value} (T : T0 G) (F : MeAt G "House" "sending" "House.sending" st_House__sending cdv) (d_Board__tuning_in : DefM G 2 "Board" "tuning_in" 3 fn_Board__tuning_in) (d_is_whole : Def G 2 "is_whole" 3 (fn_is_whole)) : DefM G 3 "House" "sending" 2 fn_House__sending :=
  (meth_at (W := W0) (k := 2) (sb := sb_House__sending) F sc_House__sending (fun _ _ _ _ _ us hl => match us, hl with | [_, _], _ => rfl) fun f A outer s H o hr hcell =>
    (ds_cons (ds_if (dt_not (dt_val (x_call o d_is_whole (hr.mono (by decide)) (da_cons (x_var o 1) (da_cons de_int (da_cons (x_gint o T.c_LAST_HOUR) da_nil)))))) (ds_one ds_never) ds_nil)
    (ds_cons (x_set o 2 (de_meth o.on d_Board__tuning_in (hr.mono (by decide)) (x_fld o T.k_House (x_var o 0)) (da_cons (x_fld o T.k_House (x_var o 0)) (da_cons (x_var o 1) da_nil))))
    (ds_one (ds_ret (x_lcZ o [("station", 3), ("band", 4)] (x_zip2 o T.b_zip (da_cons (x_fld o T.k_House (x_var o 0)) (da_cons (x_var o 2) da_nil))) (fun X' o' hA => (x_tgm o' (x_tgs o' 3 (x_tgs o' 4 dgs_nil)))) (fun X' o' hA => (dts_one (dt_cmp (do_ne (k := 0) o'.on (by rw [hA]; exact (hr.mono (Nat.zero_le _)))) (x_var o' 4) (x_gint o' T.c_SILENCE) (nomark _)))) (fun X' o' hA => (de_tup (da_cons (x_ix o' (x_var o' 3) de_int) (da_cons (x_var o' 4) da_nil)))))))))).seal
theorem sc_House__owed : FnScope ["self", "name"] ["self", "name"] (defScope st_House__owed) := ⟨rfl, rfl, rfl, by decide +kernel, rfl, by decide +kernel, by decide +kernel⟩
theorem d_House__owed {cdv : Value} (T : T0 G) (F : MeAt G "House" "owed" "House.owed" st_House__owed cdv) (d_House__check_station : DefM G 3 "House" "check_station" 2 fn_House__check_station) : DefM G 4 "House" "owed" 2 fn_House__owed :=
  (meth_at (W := W0) (k := 3) (sb := sb_House__owed) F sc_House__owed (fun _ _ _ _ _ us hl => match us, hl with | [_, _], _ => rfl) fun f A outer s H o hr hcell =>
    (ds_cons (ds_expr (de_meth o.on d_House__check_station (hr.mono (by decide)) (x_var o 0) (da_cons (x_var o 1) da_nil)))
    (ds_one (ds_ret (de_getK (k := 0) (hr.mono (Nat.zero_le _)) (x_fld o T.k_House (x_var o 0)) (x_var o 1) (by exact fun _ _ => rfl)))))).seal
theorem sc__law_bag : FnScope ["script", "k", "cell"] ["script", "k"] (defScope st__law_bag) := ⟨rfl, rfl, rfl, by decide +kernel, rfl, by decide +kernel, by decide +kernel⟩
theorem d__law_bag {cdv : Value} (T : T0 G) (F : FnAt G "_law_bag" st__law_bag cdv)  : Def G 1 "_law_bag" 2 fn__law_bag :=
  (def_at (W := W0) (k := 0) (sb := sb__law_bag) F sc__law_bag (fun _ _ _ _ _ us hl => match us, hl with | [_, _], _ => rfl) fun f A outer s H o hr hcell =>
    (ds_cons (x_set o 2 de_int)
    (ds_cons (ds_if (dt_cmp do_lt (x_var o 1) (x_bi o (dc_len o.on) T.b_len (by decide +kernel) (da_cons (x_var o 0) da_nil)) (nomark _)) (ds_one (x_set o 2 (x_bi o dc_abs T.b_abs (by decide +kernel) (da_cons (x_ix o (x_var o 0) (x_var o 1)) da_nil)))) ds_nil)
    (ds_cons (ds_if (dt_cmp do_lt (x_var o 2) (x_pow o de_int de_int) (nomark _)) (ds_one (ds_ret (de_lst (da_cons de_int (da_cons (x_add o de_int (x_mod o (x_add o (x_mul o (x_var o 2) de_int) (x_mul o de_int (x_var o 1))) de_int)) da_nil))))) ds_nil)
    (ds_one (ds_ret (de_lst (da_cons (x_var o 2) (da_cons (x_add o de_int (x_mod o (x_add o (x_var o 2) (x_var o 1)) de_int)) da_nil)))))))))
theorem sc__law_take : FnScope ["bag", "many", "found"] ["bag", "many"] (defScope st__law_take) := ⟨rfl, rfl, rfl, by decide +kernel, rfl, by decide +kernel, by decide +kernel⟩
theorem d__law_take {cdv : Value} (T : T0 G) (F : FnAt G "_law_take" st__law_take cdv)  : Def G 1 "_law_take" 2 fn__law_take :=
  (def_at (W := W0) (k := 0) (sb := sb__law_take) F sc__law_take (fun _ _ _ _ _ us hl => match us, hl with | [_, _], _ => rfl) fun f A outer s H o hr hcell =>
    (ds_cons (ds_if (dt_cmp do_gt (x_ix o (x_var o 0) de_int) de_int (nomark _)) (ds_cons (x_set o 2 (x_mod o (x_ix o (x_var o 0) de_int) (x_var o 1)))
    (ds_cons (ds_put (x_fdiv o (x_ix o (x_var o 0) de_int) (x_var o 1)) (x_var o 0) de_int (pg_sub (x_var o 0) de_int set_list))
    (ds_one (ds_ret (x_var o 2))))) ds_nil)
    (ds_cons (ds_put (x_mod o (x_mul o (x_ix o (x_var o 0) de_int) de_int) de_int) (x_var o 0) de_int (pg_sub (x_var o 0) de_int set_list))
    (ds_one (ds_ret (x_mod o (x_fdiv o (x_mod o (x_mul o (x_ix o (x_var o 0) de_int) (x_ix o (x_var o 0) de_int)) de_int) de_int) (x_var o 1))))))).seal
theorem sc__law_of : FnScope ["bag", "some"] ["bag", "some"] (defScope st__law_of) := ⟨rfl, rfl, rfl, by decide +kernel, rfl, by decide +kernel, by decide +kernel⟩
theorem d__law_of {cdv : Value} (T : T0 G) (F : FnAt G "_law_of" st__law_of cdv) (d__law_take : Def G 1 "_law_take" 2 (fn__law_take)) : Def G 2 "_law_of" 2 fn__law_of :=
  (def_at (W := W0) (k := 1) (sb := sb__law_of) F sc__law_of (fun _ _ _ _ _ us hl => match us, hl with | [_, _], _ => rfl) fun f A outer s H o hr hcell =>
    (ds_one (ds_ret (x_ix o (x_var o 1) (x_call o d__law_take (hr.mono (by decide)) (da_cons (x_var o 0) (da_cons (x_bi o (dc_len o.on) T.b_len (by decide +kernel) (da_cons (x_var o 1) da_nil)) da_nil))))))).seal
theorem sc__law_stations : FnScope ["bag", "most", "found", "wide", "name", "across", "along", "by", "hearer", "power", "need"] ["bag", "most"] (defScope st__law_stations) := ⟨rfl, rfl, rfl, by decide +kernel, rfl, by decide +kernel, by decide +kernel⟩
theorem d__law_stations {cdv : Value} (T : T0 G) (F : FnAt G "_law_stations" st__law_stations cdv) (d__law_take : Def G 1 "_law_take" 2 (fn__law_take)) : Def G 2 "_law_stations" 2 fn__law_stations :=
  (def_at (W := W0) (k := 1) (sb := sb__law_stations) F sc__law_stations (fun _ _ _ _ _ us hl => match us, hl with | [_, _], _ => rfl) fun f A outer s H o hr hcell =>
    (ds_cons (x_set o 2 (de_lst da_nil))
    (ds_cons (x_set o 3 (x_ix o (de_lz (da_cons de_int (da_cons de_int (da_cons de_int (da_cons de_int da_nil))))) (x_call o d__law_take (hr.mono (by decide)) (da_cons (x_var o 0) (da_cons de_int da_nil)))))
    (ds_cons (x_for o (x_in o (x_slice o (de_lz (da_cons de_str (da_cons de_str (da_cons de_str (da_cons de_str (da_cons de_str (da_cons de_str (da_cons de_str (da_cons de_str da_nil))))))))) dp_none (dp_some (x_add o de_int (x_call o d__law_take (hr.mono (by decide)) (da_cons (x_var o 0) (da_cons (x_var o 1) da_nil))))))) (x_tg1 o 4) (ds_cons (x_par2 o 5 6 (da_cons (x_sub o (x_call o d__law_take (hr.mono (by decide)) (da_cons (x_var o 0) (da_cons (x_add o (x_mul o de_int (x_var o 3)) de_int) da_nil))) (x_var o 3)) (da_cons (x_sub o (x_call o d__law_take (hr.mono (by decide)) (da_cons (x_var o 0) (da_cons (x_add o (x_mul o de_int (x_var o 3)) de_int) da_nil))) (x_var o 3)) da_nil)))
    (ds_cons (x_set o 7 (x_add o de_int (x_fdiv o (x_var o 3) de_int)))
    (ds_cons (x_set o 8 (de_tup (da_cons (x_bi o (dc_max o.on) T.b_max (by decide +kernel) (da_cons (de_neg de_int) (da_cons (x_sub o (x_var o 5) (x_call o d__law_take (hr.mono (by decide)) (da_cons (x_var o 0) (da_cons (x_var o 7) da_nil)))) da_nil))) (da_cons (x_bi o (dc_min o.on) T.b_min (by decide +kernel) (da_cons de_int (da_cons (x_add o (x_var o 6) (x_call o d__law_take (hr.mono (by decide)) (da_cons (x_var o 0) (da_cons (x_var o 7) da_nil)))) da_nil))) da_nil))))
    (ds_cons (x_set o 9 (x_ix o (de_lz (da_cons de_int (da_cons de_int (da_cons (x_add o de_int (x_call o d__law_take (hr.mono (by decide)) (da_cons (x_var o 0) (da_cons de_int da_nil)))) (da_cons (x_add o de_int (x_call o d__law_take (hr.mono (by decide)) (da_cons (x_var o 0) (da_cons de_int da_nil)))) da_nil))))) (x_call o d__law_take (hr.mono (by decide)) (da_cons (x_var o 0) (da_cons de_int da_nil)))))
    (ds_cons (x_set o 10 (x_add o de_int (x_call o d__law_take (hr.mono (by decide)) (da_cons (x_var o 0) (da_cons (x_ix o (de_lz (da_cons de_int (da_cons de_int (da_cons de_int da_nil)))) (x_call o d__law_take (hr.mono (by decide)) (da_cons (x_var o 0) (da_cons de_int da_nil)))) da_nil)))))
    (ds_one (ds_expr (de_append o.on (x_var o 2) (de_tup (da_cons (x_var o 4) (da_cons (de_tup (da_cons (x_var o 5) (da_cons (x_var o 6) da_nil))) (da_cons (x_var o 9) (da_cons (x_var o 8) (da_cons (x_var o 10) da_nil)))))))))))))))
    (ds_one (ds_ret (x_bt o (dc_tuple o.on) T.b_tuple (by decide +kernel) (da_cons (x_var o 2) da_nil)))))))).seal
theorem sc_is_heard : FnScope ["air", "tuning", "name", "at"] ["air", "tuning", "name"] (defScope st_is_heard) := ⟨rfl, rfl, rfl, by decide +kernel, rfl, by decide +kernel, by decide +kernel⟩
theorem d_is_heard {cdv : Value} (T : T0 G) (F : FnAt G "is_heard" st_is_heard cdv) (d_ear : Def G 2 "ear" 2 (fn_ear)) (d_hears : Def G 2 "hears" 3 (fn_hears)) (d_seat : Def G 1 "seat" 2 (fn_seat)) : Def G 3 "is_heard" 3 fn_is_heard :=
  (def_at (W := W0) (k := 2) (sb := sb_is_heard) F sc_is_heard (fun _ _ _ _ _ us hl => match us, hl with | [_, _, _], _ => rfl) fun f A outer s H o hr hcell =>
    (ds_cons (x_set o 3 (x_call o d_seat (hr.mono (by decide)) (da_cons (x_ix o (x_var o 0) de_int) (da_cons (x_var o 2) da_nil))))
    (ds_one (ds_ret (de_and (de_cmp (do_ne (k := 0) o.on (hr.mono (Nat.zero_le _))) (x_ix o (x_var o 1) (x_var o 3)) (x_gint o T.c_SILENCE) (nomark _)) (de_one (x_call o d_hears (hr.mono (by decide)) (da_cons (x_call o d_ear (hr.mono (by decide)) (da_cons (x_var o 0) (da_cons (x_var o 3) da_nil))) (da_cons (x_ix o (x_var o 1) (x_var o 3)) (da_cons (x_var o 1) da_nil)))))))))).seal
theorem sc_unheard : FnScope ["air", "tuning", "stations", "station", "band"] ["air", "tuning"] (defScope st_unheard) := ⟨rfl, rfl, rfl, by decide +kernel, rfl, by decide +kernel, by decide +kernel⟩
theorem d_unheard {cdv : Value} (T : T0 G) (F : FnAt G "unheard" st_unheard cdv) (d_is_heard : Def G 3 "is_heard" 3 (fn_is_heard)) : Def G 4 "unheard" 2 fn_unheard :=
  (def_at (W := W0) (k := 3) (sb := sb_unheard) F sc_unheard (fun _ _ _ _ _ us hl => match us, hl with | [_, _], _ => rfl) fun f A outer s H o hr hcell =>
    (ds_cons (x_set o 2 (x_ix o (x_var o 0) de_int))
    (ds_one (ds_ret (x_lcZ o [("station", 3), ("band", 4)] (x_zip2 o T.b_zip (da_cons (x_var o 2) (da_cons (x_var o 1) da_nil))) (fun X' o' hA => (x_tgm o' (x_tgs o' 3 (x_tgs o' 4 dgs_nil)))) (fun X' o' hA => (dts_one (PW.pt (dw_and (dt_cmp (do_ne (k := 0) o'.on (by rw [hA]; exact (hr.mono (Nat.zero_le _)))) (x_var o' 4) (x_gint o' T.c_SILENCE) (nomark _)) (dw_and1 (dt_not (dt_val (x_call o' d_is_heard (by rw [hA]; exact (hr.mono (by decide))) (da_cons (x_var o' 0) (da_cons (x_var o' 1) (da_cons (x_ix o' (x_var o' 3) de_int) da_nil))))))))))) (fun X' o' hA => (x_ix o' (x_var o' 3) de_int))))))).seal
theorem sc__law_least : FnScope ["house", "lea1", "bands", "name", "first", "last", "known", "band", "bad", "hour", "sends", "some", "station", "one"] ["house", "lea1", "bands", "name", "first", "last"] (defScope st__law_least) := ⟨rfl, rfl, rfl, by decide +kernel, rfl, by decide +kernel, by decide +kernel⟩
theorem d__law_least {cdv : Value} (T : T0 G) (F : FnAt G "_law_least" st__law_least cdv) (d_House__sending : DefM G 3 "House" "sending" 2 fn_House__sending) (d_House__stations : DefM G 1 "House" "stations" 1 fn_House__stations) (d_unheard : Def G 4 "unheard" 2 (fn_unheard)) : Def G 5 "_law_least" 6 fn__law_least :=
  (def_at (W := W0) (k := 4) (sb := sb__law_least) F sc__law_least (fun _ _ _ _ _ us hl => match us, hl with | [_, _, _, _, _, _], _ => rfl) fun f A outer s H o hr hcell =>
    (ds_cons (x_set o 6 (x_bt o (dc_dictZ o.on) T.b_dict (by decide +kernel) (da_cons (x_lcZ o [("station", 12)] (x_in o (de_meth0 o.on d_House__stations (hr.mono (by decide)) (x_var o 0))) (fun X' o' hA => (x_tg1 o' 12)) (fun X' o' hA => dts_nil) (fun X' o' hA => (de_tup (da_cons (x_ix o' (x_var o' 12) de_int) (da_cons (x_var o' 12) da_nil))))) da_nil)))
    (ds_cons (x_for o (x_rng2 o T.b_range (da_cons de_int (da_cons (x_add o (x_var o 2) de_int) da_nil))) (x_tg1 o 7) (ds_cons (x_set o 8 (de_lz da_nil))
    (ds_cons (x_for o (x_rng2 o T.b_range (da_cons (x_var o 4) (da_cons (x_add o (x_var o 5) de_int) da_nil))) (x_tg1 o 9) (ds_cons (x_set o 10 (x_bt o (dc_dictZ o.on) T.b_dict (by decide +kernel) (da_cons (de_meth o.on d_House__sending (hr.mono (by decide)) (x_var o 0) (da_cons (x_var o 9) da_nil)) da_nil)))
    (ds_cons (ds_dputK (k := 0) (hr.mono (Nat.zero_le _)) (x_var o 7) (x_var o 10) (x_var o 3))
    (ds_cons (x_set o 11 (x_bt o (dc_tuple o.on) T.b_tuple (by decide +kernel) (da_cons (x_lcZ o [("one", 13)] (x_in o (x_bi o (dc_sortK o.on) T.b_sorted (by decide +kernel) (da_cons (x_var o 10) da_nil))) (fun X' o' hA => (x_tg1 o' 13)) (fun X' o' hA => dts_nil) (fun X' o' hA => (de_getK (k := 0) (by rw [hA]; exact (hr.mono (Nat.zero_le _))) (x_var o' 6) (x_var o' 13) (by exact fun _ _ => rfl)))) da_nil)))
    (ds_one (x_set o 8 (x_add o (x_var o 8) (x_call o d_unheard (hr.mono (by decide)) (da_cons (de_tup (da_cons (x_var o 11) (da_cons (x_var o 1) da_nil))) (da_cons (x_bt o (dc_tuple o.on) T.b_tuple (by decide +kernel) (da_cons (x_lcZ o [("station", 12)] (x_in o (x_var o 11)) (fun X' o' hA => (x_tg1 o' 12)) (fun X' o' hA => dts_nil) (fun X' o' hA => (de_getK (k := 0) (by rw [hA]; exact (hr.mono (Nat.zero_le _))) (x_var o' 10) (x_ix o' (x_var o' 12) de_int) (by exact fun _ _ => rfl)))) da_nil)) da_nil))))))))))
    (ds_one (ds_if (dt_cmp (do_eq (k := 0) o.on (hr.mono (Nat.zero_le _))) (x_var o 8) (de_lz da_nil) (nomark _)) (ds_one (ds_ret (x_var o 7))) ds_nil)))))
    (ds_one (ds_ret de_non))))).seal
theorem sc_law : FnScope ["script", "k", "bag", "lea1", "prices", "house", "name", "place", "power", "hearer", "need", "names", "owed_so", "number", "turn", "first", "last", "band", "found", "price", "station", "hour"] ["script"] (defScope st_law) := ⟨rfl, rfl, rfl, by decide +kernel, rfl, by decide +kernel, by decide +kernel⟩
noncomputable def sb_law : FS :=
    (sSeq (sFor (iRange1 (fCons (fOp addD (fC (.int 1)) (fCall minD (fCons (fCall lenD (fCons (fV 0) fNil)) (fCons (fC (.int 4)) fNil)))) fNil)) (.one 1) (sSeq (sSet 2 (fFn 2 fn__law_bag (fCons (fV 0) (fCons (fV 1) fNil))))
    (sSeq (sSet 3 (fOp ixD (fLz (fCons (fC (.int 1)) (fCons (fC (.int 20)) (fCons (fOp addD (fC (.int 1)) (fFn 2 fn__law_take (fCons (fV 2) (fCons (fC (.int 50)) fNil)))) fNil)))) (fFn 2 fn__law_take (fCons (fV 2) (fCons (fC (.int 3)) fNil)))))
    (sSeq (sSet 4 (fCall tupleD (fCons (fLcZ (iRange1 (fCons (fOp addD (fC (.int 1)) (fFn 2 fn__law_take (fCons (fV 2) (fCons (fC (.int 5)) fNil)))) fNil)) (.one 14) fYes (fFn 2 fn__law_take (fCons (fV 2) (fCons (fC (.int 1001)) fNil))) [14]) fNil)))
    (sSeq (sSet 5 (fMakeK "House" 1 1 fn_House____init__ (fCons (fV 4) fNil) (fCons (fV 3) fNil)))
    (sSeq (sFor (iSeq (fFn 2 fn__law_stations (fCons (fV 2) (fCons (fC (.int 8)) fNil)))) (.many [6, 7, 8, 9, 10]) (sExpr (fMeth "House" "station" 6 fn_House__station (fV 5) (fCons (fV 6) (fCons (fV 7) (fCons (fV 8) (fCons (fV 9) (fCons (fV 10) fNil))))))))
    (sSeq (sSet 11 (fLcZ (iSeq (fMeth "House" "stations" 1 fn_House__stations (fV 5) fNil)) (.one 20) fYes (fOp ixD (fV 20) (fC (.int 0))) [20]))
    (sSeq (sSet 12 (fCall dictZ (fCons (fLcZ (iSeq (fV 11)) (.one 6) fYes (fTup (fCons (fV 6) (fCons (fC (.int 0)) fNil))) [6]) fNil)))
    (sSeq (sSet 13 (fC (.int 0)))
    (sFor (iRange1 (fCons (fC (.int 16)) fNil)) (.one 14) (sSeq (sUnp (.many [6, 15]) (fTup (fCons (fFn 2 fn__law_of (fCons (fV 2) (fCons (fV 11) fNil))) (fCons (fFn 2 fn__law_take (fCons (fV 2) (fCons (fC (.int 12)) fNil))) fNil))))
    (sSeq (sSet 16 (fOp addD (fV 15) (fFn 2 fn__law_take (fCons (fV 2) (fCons (fOp ixD (fLz (fCons (fC (.int 1)) (fCons (fC (.int 3)) (fCons (fC (.int 24)) fNil)))) (fFn 2 fn__law_take (fCons (fV 2) (fCons (fC (.int 3)) fNil)))) fNil)))))
    (sIf (fTst (fOp eqD (fLcZ (iRange2 (fCons (fV 15) (fCons (fOp addD (fV 16) (fC (.int 1))) fNil))) (.one 21) (fTst (fOp (inK false) (fV 6) (fCall dictZ (fCons (fMeth "House" "sending" 2 fn_House__sending (fV 5) (fCons (fV 21) fNil)) fNil)))) (fV 21) [21]) (fLz fNil))) (sSeq (sSet 17 (fFn 6 fn__law_least (fCons (fV 5) (fCons (fV 3) (fCons (fCall lenD (fCons (fV 4) fNil)) (fCons (fV 6) (fCons (fV 15) (fCons (fV 16) fNil))))))))
    (sSeq (sSet 18 (fMeth "House" "ask" 4 fn_House__ask (fV 5) (fCons (fV 6) (fCons (fV 15) (fCons (fV 16) fNil)))))
    (sIf (fTst (fOp (isB false) (fV 17) (fC .non))) (sIf (fTst (fOp (isB true) (fV 18) (fC .non))) (sRet (fC (.bl false))) sNext) (sSeq (sSet 19 (fOp mulD (fOp ixD (fV 4) (fOp subD (fV 17) (fC (.int 1)))) (fOp addD (fOp subD (fV 16) (fV 15)) (fC (.int 1)))))
    (sSeq (sDPutK (fOp addD (fOp getK (fV 12) (fV 6)) (fV 19)) (fV 12) (fV 6))
    (sSeq (sIf (fTOr (fTst (fOp neD (fV 18) (fTup (fCons (fV 13) (fCons (fV 17) (fCons (fV 19) fNil)))))) (fTst (fOp neD (fMeth "House" "owed" 2 fn_House__owed (fV 5) (fCons (fV 6) fNil)) (fOp getK (fV 12) (fV 6))))) (sRet (fC (.bl false))) sNext)
    (sSeq (sIf (fTst (fOp (inW true) (fTup (fCons (fV 13) (fCons (fV 6) (fCons (fV 17) (fCons (fOp rgT (fV 15) (fOp addD (fV 16) (fC (.int 1)))) fNil))))) (fMeth "House" "licences" 1 fn_House__licences (fV 5) fNil))) (sRet (fC (.bl false))) sNext)
    (sSet 13 (fOp addD (fV 13) (fC (.int 1))))))))))) sNext)))))))))))))
    (sRet (fC (.bl true))))
noncomputable def fn_law : HA := runD 22 sb_law
theorem b_law {cdv : Value} (T : T0 G) (d_House____init__ : DefIK G 5 "House" 1 ["leak"] fn_House____init__) (d_House__ask : DefM G 7 "House" "ask" 4 fn_House__ask) (d_House__licences : DefM G 2 "House" "licences" 1 fn_House__licences) (d_House__owed : DefM G 4 "House" "owed" 2 fn_House__owed) (d_House__sending : DefM G 3 "House" "sending" 2 fn_House__sending) (d_House__station : DefM G 6 "House" "station" 6 fn_House__station) (d_House__stations : DefM G 1 "House" "stations" 1 fn_House__stations) (d__law_bag : Def G 1 "_law_bag" 2 (fn__law_bag)) (d__law_least : Def G 5 "_law_least" 6 (fn__law_least)) (d__law_of : Def G 2 "_law_of" 2 (fn__law_of)) (d__law_stations : Def G 2 "_law_stations" 2 (fn__law_stations)) (d__law_take : Def G 1 "_law_take" 2 (fn__law_take))  : ∀ (f : Addr) (A : Around) (outer : List Env) (s : Shared) (H : Hp), Here G (bodyCx G ["script", "k", "bag", "lea1", "prices", "house", "name", "place", "power", "hearer", "need", "names", "owed_so", "number", "turn", "first", "last", "band", "found", "price", "station", "hour"] "law" (defScope st_law) f cdv A outer s H) ["script", "k", "bag", "lea1", "prices", "house", "name", "place", "power", "hearer", "need", "names", "owed_so", "number", "turn", "first", "last", "band", "found", "price", "station", "hour"] (defScope st_law) → Room 7 (bodyCx G ["script", "k", "bag", "lea1", "prices", "house", "name", "place", "power", "hearer", "need", "names", "owed_so", "number", "turn", "first", "last", "band", "found", "price", "station", "hour"] "law" (defScope st_law) f cdv A outer s H).A → (∀ x : Str, (defScope st_law).names.lookup x = some .cell → ∃ c, (bodyCx G ["script", "k", "bag", "lea1", "prices", "house", "name", "place", "power", "hearer", "need", "names", "owed_so", "number", "turn", "first", "last", "band", "found", "price", "station", "hour"] "law" (defScope st_law) f cdv A outer s H).env.cells.lookup x = some c) → PSs (bodyCx G ["script", "k", "bag", "lea1", "prices", "house", "name", "place", "power", "hearer", "need", "names", "owed_so", "number", "turn", "first", "last", "band", "found", "price", "station", "hour"] "law" (defScope st_law) f cdv A outer s H) (defBody st_law) (liftS G W0 sb_law) :=
  fun f A outer s H o hr hcell =>
    (ds_cons (x_for o (x_rng1 o T.b_range (da_cons (x_add o de_int (x_bi o (dc_min o.on) T.b_min (by decide +kernel) (da_cons (x_bi o (dc_len o.on) T.b_len (by decide +kernel) (da_cons (x_var o 0) da_nil)) (da_cons de_int da_nil)))) da_nil)) (x_tg1 o 1) (ds_cons (x_set o 2 (x_call o d__law_bag (hr.mono (by decide)) (da_cons (x_var o 0) (da_cons (x_var o 1) da_nil))))
    (ds_cons (x_set o 3 (x_ix o (de_lz (da_cons de_int (da_cons de_int (da_cons (x_add o de_int (x_call o d__law_take (hr.mono (by decide)) (da_cons (x_var o 2) (da_cons de_int da_nil)))) da_nil)))) (x_call o d__law_take (hr.mono (by decide)) (da_cons (x_var o 2) (da_cons de_int da_nil)))))
    (ds_cons (x_set o 4 (x_bt o (dc_tuple o.on) T.b_tuple (by decide +kernel) (da_cons (x_lcZ o [("turn", 14)] (x_rng1 o T.b_range (da_cons (x_add o de_int (x_call o d__law_take (hr.mono (by decide)) (da_cons (x_var o 2) (da_cons de_int da_nil)))) da_nil)) (fun X' o' hA => (x_tg1 o' 14)) (fun X' o' hA => dts_nil) (fun X' o' hA => (x_call o' d__law_take (by rw [hA]; exact (hr.mono (by decide))) (da_cons (x_var o' 2) (da_cons de_int da_nil))))) da_nil)))
    (ds_cons (x_set o 5 (x_makeK o d_House____init__ (hr.mono (by decide)) (da_cons (x_var o 4) da_nil) (dk_cons (x_var o 3) dk_nil)))
    (ds_cons (x_for o (x_in o (x_call o d__law_stations (hr.mono (by decide)) (da_cons (x_var o 2) (da_cons de_int da_nil)))) (x_tgm o (x_tgs o 6 (x_tgs o 7 (x_tgs o 8 (x_tgs o 9 (x_tgs o 10 dgs_nil)))))) (ds_one (ds_expr (de_meth o.on d_House__station (hr.mono (by decide)) (x_var o 5) (da_cons (x_var o 6) (da_cons (x_var o 7) (da_cons (x_var o 8) (da_cons (x_var o 9) (da_cons (x_var o 10) da_nil)))))))))
    (ds_cons (x_setLcZ o 11 [("station", 20)] (x_in o (de_meth0 o.on d_House__stations (hr.mono (by decide)) (x_var o 5))) (fun X' o' hA => (x_tg1 o' 20)) (fun X' o' hA => dts_nil) (fun X' o' hA => (x_ix o' (x_var o' 20) de_int)))
    (ds_cons (x_set o 12 (x_bt o (dc_dictZ o.on) T.b_dict (by decide +kernel) (da_cons (x_lcZ o [("name", 6)] (x_in o (x_var o 11)) (fun X' o' hA => (x_tg1 o' 6)) (fun X' o' hA => dts_nil) (fun X' o' hA => (de_tup (da_cons (x_var o' 6) (da_cons de_int da_nil))))) da_nil)))
    (ds_cons (x_set o 13 de_int)
    (ds_one (x_for o (x_rng1 o T.b_range (da_cons de_int da_nil)) (x_tg1 o 14) (ds_cons (ds_unp (de_tup (da_cons (x_call o d__law_of (hr.mono (by decide)) (da_cons (x_var o 2) (da_cons (x_var o 11) da_nil))) (da_cons (x_call o d__law_take (hr.mono (by decide)) (da_cons (x_var o 2) (da_cons de_int da_nil))) da_nil))) (x_tgm o (x_tgs o 6 (x_tgs o 15 dgs_nil))))
    (ds_cons (x_set o 16 (x_add o (x_var o 15) (x_call o d__law_take (hr.mono (by decide)) (da_cons (x_var o 2) (da_cons (x_ix o (de_lz (da_cons de_int (da_cons de_int (da_cons de_int da_nil)))) (x_call o d__law_take (hr.mono (by decide)) (da_cons (x_var o 2) (da_cons de_int da_nil)))) da_nil)))))
    (ds_one (ds_if (dt_cmp (do_eq (k := 0) o.on (hr.mono (Nat.zero_le _))) (x_lcZ o [("hour", 21)] (x_rng2 o T.b_range (da_cons (x_var o 15) (da_cons (x_add o (x_var o 16) de_int) da_nil))) (fun X' o' hA => (x_tg1 o' 21)) (fun X' o' hA => (dts_one (dt_cmp (do_inK (k := 0) o'.on (by rw [hA]; exact (hr.mono (Nat.zero_le _)))) (x_var o' 6) (x_bt o' (dc_dictZ o'.on) T.b_dict (by decide +kernel) (da_cons (de_meth o'.on d_House__sending (by rw [hA]; exact (hr.mono (by decide))) (x_var o' 5) (da_cons (x_var o' 21) da_nil)) da_nil)) (by rfl)))) (fun X' o' hA => (x_var o' 21))) (de_lz da_nil) (nomark _)) (ds_cons (x_set o 17 (x_call o d__law_least (hr.mono (by decide)) (da_cons (x_var o 5) (da_cons (x_var o 3) (da_cons (x_bi o (dc_len o.on) T.b_len (by decide +kernel) (da_cons (x_var o 4) da_nil)) (da_cons (x_var o 6) (da_cons (x_var o 15) (da_cons (x_var o 16) da_nil))))))))
    (ds_cons (x_set o 18 (de_meth o.on d_House__ask (hr.mono (by decide)) (x_var o 5) (da_cons (x_var o 6) (da_cons (x_var o 15) (da_cons (x_var o 16) da_nil)))))
    (ds_one (ds_if (dt_cmp do_isB (x_var o 17) de_non (nomark _)) (ds_one (ds_if (dt_cmp do_isnB (x_var o 18) de_non (nomark _)) (ds_one (ds_ret de_bl)) ds_nil)) (ds_cons (x_set o 19 (x_mul o (x_ix o (x_var o 4) (x_sub o (x_var o 17) de_int)) (x_add o (x_sub o (x_var o 16) (x_var o 15)) de_int)))
    (ds_cons (ds_dputK (k := 0) (hr.mono (Nat.zero_le _)) (x_add o (de_getK (k := 0) (hr.mono (Nat.zero_le _)) (x_var o 12) (x_var o 6) (by exact fun _ _ => rfl)) (x_var o 19)) (x_var o 12) (x_var o 6))
    (ds_cons (ds_if (PW.pt (dw_or (dt_cmp (do_ne (k := 0) o.on (hr.mono (Nat.zero_le _))) (x_var o 18) (de_tup (da_cons (x_var o 13) (da_cons (x_var o 17) (da_cons (x_var o 19) da_nil)))) (nomark _)) (dw_or1 (dt_cmp (do_ne (k := 0) o.on (hr.mono (Nat.zero_le _))) (de_meth o.on d_House__owed (hr.mono (by decide)) (x_var o 5) (da_cons (x_var o 6) da_nil)) (de_getK (k := 0) (hr.mono (Nat.zero_le _)) (x_var o 12) (x_var o 6) (by exact fun _ _ => rfl)) (nomark _))))) (ds_one (ds_ret de_bl)) ds_nil)
    (ds_cons (ds_if (dt_cmp (do_notin (k := 0) o.on (hr.mono (Nat.zero_le _))) (de_tup (da_cons (x_var o 13) (da_cons (x_var o 6) (da_cons (x_var o 17) (da_cons (x_tupRg o T.b_tuple T.b_range (x_var o 15) (x_add o (x_var o 16) de_int)) da_nil))))) (de_meth0 o.on d_House__licences (hr.mono (by decide)) (x_var o 5)) (by rfl)) (ds_one (ds_ret de_bl)) ds_nil)
    (ds_one (x_set o 13 (x_add o (x_var o 13) de_int))))))))))) ds_nil)))))))))))))))
    (ds_one (ds_ret de_bl)))
end K15
set_option Elab.async false
set_option linter.all false
set_option maxRecDepth 100000
set_option maxHeartbeats 400000
namespace BF
abbrev T := List Int
abbrev Mv := Nat × Int × T
abbrev Stp := Nat × Int
abbrev Rows := List (T × List Stp)
structure Bf where
  R : Rows
  nb : List T
def hasK (R : Rows) (t : T) : Bool := R.any fun p => decide (p.1 = t)
def rowO (R : Rows) (t : T) : Option (List Stp) := (R.find? fun p => decide (p.1 = t)).map (·.2)
def rowOf (R : Rows) (t : T) : List Stp := (rowO R t).getD []
def addMv (t : T) (s : Bf) (m : Mv) : Bf := if hasK s.R m.2.2 = true then s else ⟨s.R ++ [(m.2.2, rowOf s.R t ++ [(m.1, m.2.1)])], s.nb ++ [m.2.2]⟩
/-- a row of moves -/
inductive Wk (adj : T → List Mv) (o : T) : List Stp → T → Prop
  | nil : Wk adj o [] o
  | snoc {row : List Stp} {t : T} {m : Mv} : Wk adj o row t → m ∈ adj t → Wk adj o (row ++ [(m.1, m.2.1)]) m.2.2
theorem hasK_iff {R : Rows} {t : T} : hasK R t = true ↔ ∃ row, (t, row) ∈ R := by
  unfold hasK
  rw [List.any_eq_true]
  exact ⟨fun ⟨p, h, e⟩ => ⟨p.2, by have := of_decide_eq_true e; rw [← this]; exact h⟩, fun ⟨row, h⟩ => ⟨_, h, by simp⟩⟩
theorem nd_row {R : Rows} (nd : (R.map (·.1)).Nodup) {t : T} {r1 r2 : List Stp} (h1 : (t, r1) ∈ R) (h2 : (t, r2) ∈ R) : r1 = r2 := by
  induction R with
  | nil => simp at h1
  | cons p R ih =>
    rw [List.map_cons, List.nodup_cons] at nd
    have no : ∀ r, (t, r) ∈ R → p.1 ≠ t := fun r h e => nd.1 (by rw [e]; exact List.mem_map_of_mem (f := (·.1)) h)
    rcases List.mem_cons.mp h1 with e1 | h1
    · rcases List.mem_cons.mp h2 with e2 | h2
      · rw [← e1] at e2; cases e2; rfl
      · exact absurd (by rw [← e1]) (no _ h2)
    · rcases List.mem_cons.mp h2 with e2 | h2
      · exact absurd (by rw [← e2]) (no _ h1)
      · exact ih nd.2 h1 h2
theorem rowO_some {R : Rows} (nd : (R.map (·.1)).Nodup) {t : T} {row : List Stp} : rowO R t = some row ↔ (t, row) ∈ R := by
  unfold rowO
  rw [Option.map_eq_some_iff]
  constructor
  · rintro ⟨p, h, rfl⟩
    have e : p.1 = t := by simpa using List.find?_some h
    have := List.mem_of_find?_eq_some h
    rw [← e]
    exact this
  · intro h
    cases z : R.find? fun p => decide (p.1 = t) with
    | none => exact absurd (by simp) (List.find?_eq_none.mp z _ h)
    | some p =>
      refine ⟨p, rfl, ?_⟩
      have e : p.1 = t := by simpa using List.find?_some z
      have hm := List.mem_of_find?_eq_some z
      exact nd_row nd (t := t) (by rw [← e]; exact hm) h
theorem rowOf_eq {R : Rows} (nd : (R.map (·.1)).Nodup) {t : T} {row : List Stp} (h : (t, row) ∈ R) : rowOf R t = row := by
  unfold rowOf
  rw [(rowO_some nd).mpr h]
  rfl
/-- within one round: R0 stood ahead, its rows of those at the edge have k moves -/
structure In (adj : T → List Mv) (o : T) (k : Nat) (R0 : Rows) (s : Bf) : Prop where
  nd : (s.R.map (·.1)).Nodup
  ex : ∃ more : Rows, s.R = R0 ++ more ∧ s.nb = more.map (·.1) ∧ ∀ p ∈ more, p.2.length = k + 1 ∧ Wk adj o p.2 p.1
/-- a list with no thing twice is no longer than what holds it -/
theorem nodup_le {α : Type} [DecidableEq α] : ∀ {l L : List α}, l.Nodup → (∀ x ∈ l, x ∈ L) → l.length ≤ L.length
  | [], _, _, _ => by simp
  | x :: l, L, h, hs => by
    rw [List.nodup_cons] at h
    have hx := hs x List.mem_cons_self
    have := nodup_le (l := l) (L := L.erase x) h.2 fun y hy => by
      have : y ≠ x := fun e => h.1 (e ▸ hy)
      exact (List.mem_erase_of_ne this).mpr (hs y (List.mem_cons_of_mem _ hy))
    rw [List.length_erase_of_mem hx] at this
    have := List.length_pos_of_mem hx
    simp only [List.length_cons]
    omega
def unv (b : Nat) : Nat → List T
  | 0 => [[]]
  | n + 1 => (List.range b).flatMap fun (j : Nat) => (unv b n).map (((j : Nat) : Int) :: ·)
theorem unv_len (b : Nat) : ∀ n : Nat, (unv b n).length = b ^ n
  | 0 => rfl
  | n + 1 => by
    unfold unv
    rw [List.length_flatMap]
    have : ((List.range b).map fun (j : Nat) => ((unv b n).map (((j : Nat) : Int) :: ·)).length) = (List.range b).map fun _ => b ^ n := List.map_congr_left fun j _ => by rw [List.length_map, unv_len b n]
    rw [this, List.map_const', List.sum_replicate_nat, List.length_range, Nat.pow_succ, Nat.mul_comm]
theorem unv_mem {b : Nat} : ∀ {n : Nat} {t : T}, t.length = n → (∀ x ∈ t, 0 ≤ x ∧ x < (b : Int)) → t ∈ unv b n
  | 0, [], _, _ => by simp [unv]
  | n + 1, x :: t, hl, hb => by
    unfold unv
    rw [List.mem_flatMap]
    obtain ⟨h1, h2⟩ := hb x List.mem_cons_self
    refine ⟨x.toNat, List.mem_range.mpr (by omega), List.mem_map.mpr ⟨t, unv_mem (by simpa using hl) fun y hy => hb y (List.mem_cons_of_mem _ hy), ?_⟩⟩
    rw [Int.toNat_of_nonneg h1]
end BF
set_option Elab.async false
set_option linter.all false
set_option maxRecDepth 100000
set_option maxHeartbeats 1000000
namespace EL
open PySem PySem.Spec PyProof.Rows L2 GxR LG ZN
section
variable {ρ : Rho} {st : Sto} {fa fb fc : FE} {ta tb : FT} {fr : FA} {s1 s2 : FS} {h h' : D → D → Sto → Option (D × Sto)} {hA : HA} {n : Nat}
@[simp] theorem e_run {N : Nat} {sb : FS} {ds : List D} : runD N sb ds st = (sb (ds.map some ++ List.replicate (N - ds.length) none) st).bind fun p => match p.1 with
  | .rt d => some (d, p.2.2)
  | .nx => some (.non, p.2.2)
  | _ => none := rfl
@[simp] theorem e_seq : sSeq s1 s2 ρ st = (s1 ρ st).bind fun p => match p.1 with
  | .nx => s2 p.2.1 p.2.2
  | f => some (f, p.2.1, p.2.2) := rfl
@[simp] theorem e_next : sNext ρ st = some (.nx, ρ, st) := rfl
@[simp] theorem e_set {i : Nat} : sSet i fa ρ st = (fa ρ st).bind fun p => some (.nx, ρ.set i (some p.1), p.2) := rfl
@[simp] theorem e_expr : sExpr fa ρ st = (fa ρ st).bind fun p => some (.nx, ρ, p.2) := rfl
@[simp] theorem e_ret : sRet fa ρ st = (fa ρ st).bind fun p => some (.rt p.1, ρ, p.2) := rfl
@[simp] theorem e_if : sIf ta s1 s2 ρ st = (ta ρ st).bind fun p => if p.1 = true then s1 ρ p.2 else s2 ρ p.2 := rfl
@[simp] theorem e_put {fo fi : FE} : sPut fa fo fi ρ st = (fa ρ st).bind fun p => (fo ρ p.2).bind fun q => (fi ρ q.2).bind fun r => (putIx q.1 r.1 p.1 r.2).bind fun st' => some (.nx, ρ, st') := by
  unfold sPut
  congr; funext p; congr; funext q; congr; funext r
  cases putIx q.1 r.1 p.1 r.2 <;> rfl
@[simp] theorem e_unp {tg : Tg} : sUnp tg fa ρ st = (fa ρ st).bind fun p => (tgD tg p.1 ρ).bind fun ρ' => some (.nx, ρ', p.2) := by
  unfold sUnp
  congr; funext p
  cases tgD tg p.1 ρ <;> rfl
@[simp] theorem e_par {is : List Nat} : sPar is fr ρ st = (fr ρ st).bind fun p => if p.1.length = is.length then some (.nx, setM ρ is p.1, p.2) else none := rfl
@[simp] theorem e_C {d : D} : fC d ρ st = some (d, st) := rfl
@[simp] theorem e_V {i : Nat} : fV i ρ st = match ρ[i]? with
  | some (some d) => some (d, st)
  | _ => none := rfl
@[simp] theorem e_op : fOp h fa fb ρ st = (fa ρ st).bind fun p => (fb ρ p.2).bind fun q => h p.1 q.1 q.2 := rfl
@[simp] theorem e_chain : fChain h h' fa fb fc ρ st = (fa ρ st).bind fun p => (fb ρ p.2).bind fun q => (h p.1 q.1 q.2).bind fun r => match r.1 with
  | .bl true => (fc ρ r.2).bind fun z => h' q.1 z.1 z.2
  | .bl false => some (.bl false, r.2)
  | _ => none := rfl
@[simp] theorem e_asB {b : Bool} : asB (.bl b) = some b := rfl
@[simp] theorem e_and : fAnd fa fb ρ st = (fa ρ st).bind fun p => (asB p.1).bind fun k => if k = true then fb ρ p.2 else some (.bl false, p.2) := rfl
@[simp] theorem e_or : fOr fa fb ρ st = (fa ρ st).bind fun p => (asB p.1).bind fun k => if k = true then some (.bl true, p.2) else fb ρ p.2 := rfl
@[simp] theorem e_not : fNot fa ρ st = (fa ρ st).bind fun p => (asB p.1).bind fun k => some (.bl (!k), p.2) := rfl
@[simp] theorem e_tst : fTst fa ρ st = (fa ρ st).bind fun p => (asB p.1).bind fun k => some (k, p.2) := rfl
@[simp] theorem e_tand : fTAnd ta tb ρ st = (ta ρ st).bind fun p => if p.1 = true then tb ρ p.2 else some (false, p.2) := rfl
@[simp] theorem e_tor : fTOr ta tb ρ st = (ta ρ st).bind fun p => if p.1 = true then some (true, p.2) else tb ρ p.2 := rfl
@[simp] theorem e_tnot : fTNot ta ρ st = (ta ρ st).bind fun p => some (!p.1, p.2) := rfl
@[simp] theorem e_ifx : fIf ta fa fb ρ st = (ta ρ st).bind fun p => if p.1 = true then fa ρ p.2 else fb ρ p.2 := rfl
@[simp] theorem e_nil : fNil ρ st = some ([], st) := rfl
@[simp] theorem e_cons : fCons fa fr ρ st = (fa ρ st).bind fun p => (fr ρ p.2).bind fun q => some (p.1 :: q.1, q.2) := rfl
@[simp] theorem e_tup : fTup fr ρ st = (fr ρ st).bind fun p => if p.1.length ≤ sizeLine then some (.tup p.1, p.2) else none := rfl
@[simp] theorem e_lst : fLst fr ρ st = (fr ρ st).bind fun p => if p.1.length ≤ sizeLine then some (.ref p.2.length, p.2 ++ [.lst p.1]) else none := rfl
@[simp] theorem e_lz : fLz fr ρ st = (fr ρ st).bind fun p => if p.1.length ≤ sizeLine then some (.lst p.1, p.2) else none := rfl
@[simp] theorem e_star : fStar fa fr ρ st = (fa ρ st).bind fun p => (seqD p.1 p.2).bind fun xs => (fr ρ p.2).bind fun q => some (xs ++ q.1, q.2) := rfl
@[simp] theorem e_tru : fTru fa ρ st = (fa ρ st).bind fun p => (truD p.1 p.2).bind fun k => some (k, p.2) := rfl
@[simp] theorem e_aug {i : Nat} : sAug i h fa ρ st = match ρ[i]? with
  | some (some x) => (fa ρ st).bind fun p => (h x p.1 p.2).bind fun z => some (.nx, ρ.set i (some z.1), z.2)
  | _ => none := rfl
@[simp] theorem e_yes : fYes ρ st = some (true, st) := rfl
@[simp] theorem e_call : fCall hA fr ρ st = (fr ρ st).bind fun p => hA p.1 p.2 := rfl
@[simp] theorem e_fn : fFn n hA fr ρ st = (fr ρ st).bind fun p => if p.1.length = n then hA p.1 p.2 else none := rfl
@[simp] theorem e_neg : fNeg fa ρ st = (fa ρ st).bind fun p => match p.1 with
  | .int i => some (.int (-i), p.2)
  | .bl b => some (.int (-(bI b)), p.2)
  | _ => none := rfl
@[simp] theorem e_sl {fl fu : FO} : fSl fa fl fu ρ st = (fa ρ st).bind fun p => (fl ρ p.2).bind fun l => (fu ρ l.2).bind fun u => sliceD p.1 l.1 u.1 u.2 := rfl
@[simp] theorem e_oN : oNone ρ st = some (none, st) := rfl
@[simp] theorem e_oS : oSome fa ρ st = (fa ρ st).bind fun p => match p.1 with
  | .int i => some (some i, p.2)
  | _ => none := rfl
@[simp] theorem e_isiT {Ts : List String} : fIsiT Ts fa ρ st = (fa ρ st).bind fun p => (tyN p.1 p.2).bind fun t => (kits t Ts).bind fun b => some (.bl b, p.2) := by
  unfold fIsiT
  congr; funext p; congr; funext t
  cases kits t Ts <;> rfl
@[simp] theorem e_app {fo : FE} : fApp fo fa ρ st = (fo ρ st).bind fun p => (fa ρ p.2).bind fun q => match p.1 with
  | .ref l => match p.2[l]?, q.2[l]? with
    | some (.lst _), some (.lst ds) => if ds.length < sizeLine then some (.non, q.2.set l (.lst (ds ++ [q.1]))) else none
    | _, _ => none
  | _ => none := rfl
@[simp] theorem e_upper : fUpper fa ρ st = (fa ρ st).bind fun p => match p.1 with
  | .str x => if x.length ≤ 5592405 then some (.str (Txt.upper x), p.2) else none
  | _ => none := rfl
variable {i j : Int} {x y : Str} {l m : Nat} {xs ys : List D}
@[simp] theorem e_addI : addD (.int i) (.int j) st = some (.int (i + j), st) := rfl
@[simp] theorem e_subI : subD (.int i) (.int j) st = some (.int (i - j), st) := rfl
@[simp] theorem e_mulI : mulD (.int i) (.int j) st = if i.natAbs.log2 + j.natAbs.log2 < 1000000 then some (.int (i * j), st) else none := by
  show Option.map _ (if _ then _ else _) = _
  split <;> rfl
@[simp] theorem e_fdivI : fdivD (.int i) (.int j) st = if 0 < j ∧ j.natAbs.log2 < 9000 then some (.int (i / j), st) else none := by
  show Option.map _ (if _ then _ else _) = _
  split <;> rfl
@[simp] theorem e_modI : modD (.int i) (.int j) st = if 0 < j then some (.int (i % j), st) else none := by
  show Option.map _ (if _ then _ else _) = _
  split <;> rfl
@[simp] theorem e_powI : powD (.int i) (.int j) st = if 0 ≤ j ∧ j ≤ 1000000 ∧ i.natAbs < 2 ^ 64 then some (.int (i ^ j.toNat), st) else none := by
  show Option.map _ (if _ then _ else _) = _
  split <;> rfl
@[simp] theorem e_ltI : ltD (.int i) (.int j) st = some (.bl (decide (i < j)), st) := rfl
@[simp] theorem e_leI : leD (.int i) (.int j) st = some (.bl (decide (i ≤ j)), st) := rfl
@[simp] theorem e_gtI : gtD (.int i) (.int j) st = some (.bl (decide (j < i)), st) := rfl
@[simp] theorem e_geI : geD (.int i) (.int j) st = some (.bl (decide (j ≤ i)), st) := rfl
@[simp] theorem e_ixT : ixD (.tup xs) (.int i) st = (atI xs i).bind fun d => some (d, st) := by
  show Option.map _ (atI xs i) = _
  cases atI xs i <;> rfl
@[simp] theorem e_ixZ : ixD (.lst xs) (.int i) st = (atI xs i).bind fun d => some (d, st) := by
  unfold ixD listOf
  simp only [Option.bind_some]
  cases atI xs i <;> rfl
theorem e_ixL {ds : List D} (h : st[l]? = some (.lst ds)) : ixD (.ref l) (.int i) st = (atI ds i).bind fun d => some (d, st) := by
  have q : listOf (.ref l) st = some ds := by unfold listOf; simp only [h]
  unfold ixD
  simp only [q, Option.bind_some]
  cases atI ds i <;> rfl
theorem e_putL {v : D} {ds : List D} (h : st[l]? = some (.lst ds)) : putIx (.ref l) (.int i) v st = (ixN ds.length i).bind fun j => some (st.set l (.lst (ds.set j v))) := by
  unfold putIx
  simp only [h]
  cases ixN ds.length i <;> rfl
@[simp] theorem e_lenT : lenD [.tup xs] st = some (.int xs.length, st) := rfl
@[simp] theorem e_lenZ : lenD [.lst xs] st = some (.int xs.length, st) := rfl
@[simp] theorem e_tupT : tupleD [.tup xs] st = some (.tup xs, st) := rfl
@[simp] theorem e_tupZ : tupleD [.lst xs] st = some (.tup xs, st) := rfl
@[simp] theorem e_listOfZ : listOf (.lst xs) st = some xs := rfl
theorem e_listOfR {ds : List D} (h : st[l]? = some (.lst ds)) : listOf (.ref l) st = some ds := by unfold listOf; simp only [h]
@[simp] theorem e_sqT : sqOf (.tup xs) st = some (true, xs) := rfl
@[simp] theorem e_sqZ : sqOf (.lst xs) st = some (false, xs) := rfl
@[simp] theorem e_seqT : seqD (.tup xs) st = some xs := rfl
@[simp] theorem e_seqZ : seqD (.lst xs) st = some xs := rfl
@[simp] theorem e_valZ : byVal (.lst xs) st = .lst xs := rfl
@[simp] theorem e_valT : byVal (.tup xs) st = .tup xs := rfl
@[simp] theorem e_valI : byVal (.int i) st = .int i := rfl
@[simp] theorem e_valS : byVal (.str x) st = .str x := rfl
@[simp] theorem e_valB {b : Bool} : byVal (.bl b) st = .bl b := rfl
@[simp] theorem e_valN : byVal .non st = .non := rfl
@[simp] theorem e_eqI : eqD (.int i) (.int j) st = some (.bl (decide (i = j)), st) := by
  unfold eqD eqW
  simp [okB, eqB]
  cases h : (i == j) <;> simp_all
@[simp] theorem e_neI : neD (.int i) (.int j) st = some (.bl (!decide (i = j)), st) := by
  unfold neD eqW
  simp [okB, eqB]
  cases h : (i == j) <;> simp_all
@[simp] theorem e_addT : addD (.tup xs) (.tup ys) st = if xs.length + ys.length ≤ sizeLine then some (.tup (xs ++ ys), st) else none := rfl
@[simp] theorem e_addZ : addD (.lst xs) (.lst ys) st = if xs.length + ys.length ≤ sizeLine then some (.lst (xs ++ ys), st) else none := rfl
@[simp] theorem e_slT {a b : Option Int} : sliceD (.tup xs) a b st = some (.tup (cutD xs a b), st) := rfl
@[simp] theorem e_slZ {a b : Option Int} : sliceD (.lst xs) a b st = some (.lst (cutD xs a b), st) := rfl
end
@[simp] theorem atI_0 {α : Type} {x : α} {r : List α} : atI (x :: r) 0 = some x := by simp [atI, ixN]
@[simp] theorem atI_1 {α : Type} {x y : α} {r : List α} : atI (x :: y :: r) 1 = some y := by
  have h : (1 : Int) < ((r.length : Int) + 1 + 1) := by omega
  simp [atI, ixN, h]
@[simp] theorem ixN_0 {n : Nat} : ixN (n + 1) 0 = some 0 := by
  have h : (0 : Int) < (n : Int) + 1 := by omega
  simp [ixN, h]
@[simp] theorem ixN_1 {n : Nat} : ixN (n + 1 + 1) 1 = some 1 := by
  have h : (1 : Int) < (n : Int) + 1 + 1 := by omega
  simp [ixN, h]
end EL
set_option Elab.async false
set_option linter.all false
set_option maxRecDepth 100000
set_option maxHeartbeats 1000000
namespace EL
open PySem PySem.Spec PyProof.Rows L2 GxR LG
def Ok {α : Type} (x : Option α) (Q : α → Prop) : Prop := ∃ a, x = some a ∧ Q a
section
variable {α β : Type} {x : Option α} {Q R : α → Prop}
theorem Ok.mono (h : Ok x Q) (i : ∀ a, Q a → R a) : Ok x R := let ⟨a, e, q⟩ := h; ⟨a, e, i a q⟩
theorem Ok.pure {a : α} (h : Q a) : Ok (some a) Q := ⟨a, rfl, h⟩
theorem Ok.bind {f : α → Option β} {S : β → Prop} (h : Ok x fun a => Ok (f a) S) : Ok (x.bind f) S := by
  obtain ⟨a, rfl, b, e, s⟩ := h
  exact ⟨b, e, s⟩
theorem Ok.then {f : α → Option β} {S : β → Prop} (h : Ok x Q) (i : ∀ a, Q a → Ok (f a) S) : Ok (x.bind f) S := Ok.bind (h.mono i)
theorem Ok.eq {y : Option α} (h : Ok y Q) (e : x = y) : Ok x Q := by rw [e]; exact h
end
def bagO (x y : Int) : O := .lst [.int x, .int y]
def BagOk (x y : Int) : Prop := 0 ≤ x ∧ 0 ≤ y ∧ y < 2147483648
def Bg (lb : Nat) (st : Sto) : Prop := ∃ x y : Int, st[lb]? = some (bagO x y) ∧ BagOk x y
/-- only the bag has changed -/
def Go (lb : Nat) (st st' : Sto) : Prop := ∃ x y : Int, BagOk x y ∧ st' = st.set lb (bagO x y)
section
variable {lb l : Nat} {st st' st'' : Sto} {o : O}
theorem at_lt (h : st[l]? = some o) : l < st.length := (List.getElem?_eq_some_iff.mp h).1
theorem Bg.lt (h : Bg lb st) : lb < st.length := let ⟨_, _, h, _⟩ := h; at_lt h
theorem Go.refl (h : Bg lb st) : Go lb st st := by
  obtain ⟨x, y, h, b⟩ := h
  refine ⟨x, y, b, ?_⟩
  apply List.ext_getElem?
  intro i
  by_cases e : i = lb
  · subst e; rw [List.getElem?_set_self (at_lt h), h]
  · rw [List.getElem?_set_ne (Ne.symm e)]
theorem Go.trans (a : Go lb st st') (b : Go lb st' st'') : Go lb st st'' := by
  obtain ⟨x, y, _, rfl⟩ := a
  obtain ⟨x', y', h', rfl⟩ := b
  exact ⟨x', y', h', by rw [List.set_set]⟩
theorem Go.len (a : Go lb st st') : st'.length = st.length := by obtain ⟨x, y, _, rfl⟩ := a; simp
theorem Go.bg (h : lb < st.length) (a : Go lb st st') : Bg lb st' := by
  obtain ⟨x, y, b, rfl⟩ := a
  exact ⟨x, y, by rw [List.getElem?_set_self h], b⟩
theorem Go.at (a : Go lb st st') (n : l ≠ lb) : st'[l]? = st[l]? := by
  obtain ⟨x, y, b, rfl⟩ := a
  rw [List.getElem?_set_ne (Ne.symm n)]
theorem Go.app {more : Sto} (h : lb < st.length) (a : Go lb (st ++ more) st') : ∃ s2, st' = s2 ++ more ∧ Go lb st s2 := by
  obtain ⟨x, y, b, rfl⟩ := a
  exact ⟨st.set lb (bagO x y), by rw [List.set_append_left _ _ h], x, y, b, rfl⟩
theorem Bg.app (h : Bg lb st) (more : Sto) : Bg lb (st ++ more) := by
  obtain ⟨x, y, q, b⟩ := h
  exact ⟨x, y, by rw [List.getElem?_append_left (at_lt q)]; exact q, b⟩
theorem Go.calm (a : Go lb st st') : Calm st st' := by
  obtain ⟨x, y, b, rfl⟩ := a
  intro l o hl h
  by_cases e : l = lb
  · subst e
    rw [List.getElem?_set_self hl] at h
    cases h
    exact .inr rfl
  · rw [List.getElem?_set_ne (Ne.symm e)] at h
    exact .inl h
theorem at_new : (st ++ [o])[st.length]? = some o := by simp
end
section
variable {fn : HA} {ds : List D} {st st' : Sto} {d d2 : D}
theorem seal_pure {n : Nat} (h : pureB d = true) : sealD n st d = some d := by
  unfold sealD
  split
  · rename_i es
    have q : ∀ es : List D, pureL es = true → seals n st es = some es := by
      intro es
      induction es with
      | nil => intro _; rfl
      | cons e es ih =>
        intro hp
        unfold pureL at hp
        obtain ⟨h1, h2⟩ := Bool.and_eq_true_iff.mp hp
        have s1 : seal1 n st e = some e := by
          unfold seal1
          split
          · unfold pureB at h1; cases h1
          · rw [if_pos h1]
        simp [seals, s1, ih h2]
    have hp : pureL es = true := by unfold pureB at h; exact h
    rw [q es hp]; rfl
  · unfold seal1
    split
    · unfold pureB at h; cases h
    · rw [if_pos h]
theorem seal_to {s2 : Sto} (h : fn ds st = some (d, st')) (c : Calm st st') (s : sealD st.length st' d = some d2) (t : st'.take st.length = s2) : sealFn fn ds st = some (d2, s2) := by
  unfold sealFn
  rw [h]
  simp only [Option.bind_some]
  unfold letGo
  rw [if_pos ⟨c, rfl⟩, s, t]
  rfl
theorem calm_refl : Calm st st := fun _ _ _ h => .inl h
theorem calm_app {more : Sto} (c : Calm st st') (hl : st'.length = st.length) : Calm st (st' ++ more) := fun l o h q => c l o h (by rw [List.getElem?_append_left (by omega)] at q; exact q)
/-- nothing is left behind -/
theorem seal_same (h : fn ds st = some (d, st)) (p : pureB d = true) : sealFn fn ds st = some (d, st) := seal_to h calm_refl (seal_pure p) (by simp)
/-- something is left behind -/
theorem seal_more {more : Sto} (h : fn ds st = some (d, st ++ more)) (p : pureB d = true) : sealFn fn ds st = some (d, st) := seal_to h (calm_app calm_refl rfl) (seal_pure p) (by simp)
theorem seal_list {more : Sto} {es : List D} (h : fn ds st = some (.ref st.length, st ++ .lst es :: more)) (p : pureL es = true) : sealFn fn ds st = some (.lst es, st) :=
  seal_to h (calm_app calm_refl rfl) (by simp [sealD, seal1, p]) (by simp)
/-- a def that draws -/
theorem seal_ok {lb : Nat} {P : D → Prop} (h : Ok (fn ds st) fun p => P p.1 ∧ pureB p.1 = true ∧ ∃ s2 more, p.2 = s2 ++ more ∧ Go lb st s2) : Ok (sealFn fn ds st) fun p => P p.1 ∧ Go lb st p.2 := by
  obtain ⟨⟨v, st'⟩, e, hp, hq, s2, more, rfl, g⟩ := h
  refine ⟨(v, s2), seal_to e (calm_app g.calm g.len) (seal_pure hq) ?_, hp, g⟩
  rw [← g.len]
  simp
end
end EL
set_option Elab.async false
set_option linter.all false
set_option maxRecDepth 100000
set_option maxHeartbeats 1000000
namespace EL
open PySem PySem.Spec PyProof.Rows L2 GxR LG FW
def ED (lb : Nat) (ρ : Rho) (f : FE) (P : D → Prop) : Prop := ∀ st, Bg lb st → Ok (f ρ st) fun p => P p.1 ∧ Go lb st p.2
def EA (lb : Nat) (ρ : Rho) (f : FA) (P : List D → Prop) : Prop := ∀ st, Bg lb st → Ok (f ρ st) fun p => P p.1 ∧ Go lb st p.2
def Nn (lo hi : Int) (d : D) : Prop := ∃ i, d = .int i ∧ lo ≤ i ∧ i ≤ hi
section
variable {lb : Nat} {ρ : Rho} {f g : FE} {fr : FA} {ta tb : FT} {P Q R : D → Prop} {A B : List D → Prop}
theorem ED.mono (h : ED lb ρ f P) (i : ∀ d, P d → Q d) : ED lb ρ f Q := fun st b => (h st b).mono fun _ q => ⟨i _ q.1, q.2⟩
theorem EA.mono (h : EA lb ρ fr A) (i : ∀ d, A d → B d) : EA lb ρ fr B := fun st b => (h st b).mono fun _ q => ⟨i _ q.1, q.2⟩
theorem ED.c {d : D} (h : P d) : ED lb ρ (fC d) P := fun st b => ⟨_, rfl, h, .refl b⟩
theorem ED.v {i : Nat} {d : D} (e : ρ[i]? = some (some d)) (h : P d) : ED lb ρ (fV i) P := fun st b => ⟨(d, st), by unfold fV; rw [e], h, .refl b⟩
/-- whatever does not draw -/
theorem ED.q {d : D} (e : ∀ st, f ρ st = some (d, st)) (h : P d) : ED lb ρ f P := fun st b => ⟨(d, st), e st, h, .refl b⟩
theorem EA.nil (h : A []) : EA lb ρ fNil A := fun st b => ⟨_, rfl, h, .refl b⟩
theorem EA.cons (h : ED lb ρ f P) (t : EA lb ρ fr A) : EA lb ρ (fCons f fr) (fun ds => ∃ d r, ds = d :: r ∧ P d ∧ A r) := fun st b =>
  (h st b).then fun p q => (t p.2 (q.2.bg b.lt)).then fun r s => .pure ⟨⟨_, _, rfl, q.1, s.1⟩, q.2.trans s.2⟩
theorem EA.all0 : EA lb ρ fNil (fun ds => ds.length = 0 ∧ ∀ d ∈ ds, P d) := .nil ⟨rfl, fun _ h => by cases h⟩
theorem EA.allC {n : Nat} (h : ED lb ρ f P) (t : EA lb ρ fr (fun ds => ds.length = n ∧ ∀ d ∈ ds, P d)) : EA lb ρ (fCons f fr) (fun ds => ds.length = n + 1 ∧ ∀ d ∈ ds, P d) :=
  (EA.cons h t).mono fun ds ⟨d, r, e, p, q1, q2⟩ => by
    subst e
    exact ⟨by simp [q1], fun x hx => by rcases List.mem_cons.mp hx with z | z; exact z ▸ p; exact q2 x z⟩
theorem ED.tup (h : EA lb ρ fr (fun ds => ds.length ≤ sizeLine ∧ P (.tup ds))) : ED lb ρ (fTup fr) P := fun st b =>
  (h st b).then fun p q => by rw [if_pos q.1.1]; exact .pure ⟨q.1.2, q.2⟩
theorem ED.lz (h : EA lb ρ fr (fun ds => ds.length ≤ sizeLine ∧ P (.lst ds))) : ED lb ρ (fLz fr) P := fun st b =>
  (h st b).then fun p q => by rw [if_pos q.1.1]; exact .pure ⟨q.1.2, q.2⟩
theorem ED.call {h : HA} (a : EA lb ρ fr A) (k : ∀ ds st, A ds → Ok (h ds st) fun p => P p.1 ∧ p.2 = st) : ED lb ρ (fCall h fr) P := fun st b =>
  (a st b).then fun p q => (k p.1 p.2 q.1).mono fun r s => ⟨s.1, by rw [s.2]; exact q.2⟩
theorem ED.op {h : D → D → Sto → Option (D × Sto)} (a : ED lb ρ f P) (c : ED lb ρ g Q) (k : ∀ x y st, P x → Q y → Ok (h x y st) fun p => R p.1 ∧ p.2 = st) : ED lb ρ (fOp h f g) R := fun st b =>
  (a st b).then fun p q => (c p.2 (q.2.bg b.lt)).then fun r s => (k p.1 r.1 r.2 q.1 s.1).mono fun t u => ⟨u.1, by rw [u.2]; exact q.2.trans s.2⟩
theorem ED.fn {n : Nat} {h : HA} (a : EA lb ρ fr A) (k : ∀ ds st, A ds → Bg lb st → ds.length = n ∧ Ok (h ds st) fun p => P p.1 ∧ Go lb st p.2) : ED lb ρ (fFn n h fr) P := fun st b =>
  (a st b).then fun p q => by
    obtain ⟨e, o⟩ := k p.1 p.2 q.1 (q.2.bg b.lt)
    rw [if_pos e]
    exact o.mono fun r s => ⟨s.1, q.2.trans s.2⟩
theorem ED.neg {lo hi : Int} (a : ED lb ρ f (Nn lo hi)) : ED lb ρ (fNeg f) (Nn (-hi) (-lo)) := fun st b => (a st b).then fun p q => by
  obtain ⟨⟨i, e, h1, h2⟩, g⟩ := q
  rw [e]
  exact .pure ⟨⟨_, rfl, by omega, by omega⟩, g⟩
theorem ED.add {l1 h1 l2 h2 lo hi : Int} (a : ED lb ρ f (Nn l1 h1)) (c : ED lb ρ g (Nn l2 h2)) (e1 : lo ≤ l1 + l2 := by decide) (e2 : h1 + h2 ≤ hi := by decide) : ED lb ρ (fOp addD f g) (Nn lo hi) :=
  .op a c fun x y st ⟨i, ei, i1, i2⟩ ⟨j, ej, j1, j2⟩ => by subst ei; subst ej; exact .pure ⟨⟨_, rfl, by omega, by omega⟩, rfl⟩
theorem ED.sub {l1 h1 l2 h2 lo hi : Int} (a : ED lb ρ f (Nn l1 h1)) (c : ED lb ρ g (Nn l2 h2)) (e1 : lo ≤ l1 - h2 := by decide) (e2 : h1 - l2 ≤ hi := by decide) : ED lb ρ (fOp subD f g) (Nn lo hi) :=
  .op a c fun x y st ⟨i, ei, i1, i2⟩ ⟨j, ej, j1, j2⟩ => by subst ei; subst ej; exact ⟨_, e_subI, ⟨_, rfl, by omega, by omega⟩, rfl⟩
theorem ED.n {i lo hi : Int} (h1 : lo ≤ i := by decide) (h2 : i ≤ hi := by decide) : ED lb ρ (fC (.int i)) (Nn lo hi) := .c ⟨i, rfl, h1, h2⟩
theorem ED.x {k : Nat} {i lo hi : Int} (e : ρ[k]? = some (some (.int i))) (h1 : lo ≤ i) (h2 : i ≤ hi) : ED lb ρ (fV k) (Nn lo hi) := .v e ⟨i, rfl, h1, h2⟩
theorem atI_lt {α : Type} {l : List α} {i : Int} (h0 : 0 ≤ i) (h1 : i < l.length) : ∃ x, atI l i = some x ∧ x ∈ l ∧ l[i.toNat]? = some x := by
  have h2 : i.toNat < l.length := by omega
  refine ⟨l[i.toNat], ?_, List.getElem_mem h2, by simp [h2]⟩
  unfold atI ixN
  have e1 : ¬ i < 0 := by omega
  simp [e1, h0, h1, h2]
theorem atI_nat {α : Type} {l : List α} {i : Nat} : atI l (i : Int) = l[i]? := by
  unfold atI ixN
  by_cases h : i < l.length
  · simp [h]
  · simp [h]
theorem ED.pick {n : Nat} (a : EA lb ρ fr (fun ds => ds.length = n ∧ ∀ d ∈ ds, P d)) (c : ED lb ρ g (Nn 0 ((n : Int) - 1))) (hn : n ≤ sizeLine := by decide) : ED lb ρ (fOp ixD (fLz fr) g) P :=
  .op (P := fun d => ∃ ds, d = .lst ds ∧ ds.length = n ∧ ∀ d ∈ ds, P d) (.lz (a.mono fun ds q => ⟨by rw [q.1]; exact hn, ds, rfl, q⟩)) c fun x y st ⟨ds, ex, h1, h2⟩ ⟨i, ey, i1, i2⟩ => by
    subst ex; subst ey
    obtain ⟨d, e1, e2, _⟩ := atI_lt (l := ds) i1 (by omega)
    rw [e_ixZ, e1]
    exact .pure ⟨h2 d e2, rfl⟩
end
theorem log2_small {i : Int} (h0 : 0 ≤ i) (h1 : i < 4294967296) : i.natAbs.log2 < 32 := by
  by_cases hz : i.natAbs = 0
  · rw [hz]; decide
  · exact (Nat.log2_lt hz).mpr (by omega)
theorem take_spec {lb : Nat} {m : Int} (hm : 1 ≤ m) (hm2 : m ≤ 1073741824) {st : Sto} (b : Bg lb st) : Ok (fn__law_take [.ref lb, .int m] st) fun p => Nn 0 (m - 1) p.1 ∧ Go lb st p.2 := by
  unfold fn__law_take
  refine seal_ok ?_
  obtain ⟨x, y, h, hx, hy, hz⟩ := b
  have e0 : (0 : Int) < m := by omega
  have em : m.natAbs.log2 < 9000 := by have := log2_small (i := m) (by omega) (by omega); omega
  unfold sb__law_take
  unfold bagO at h
  by_cases hp : 0 < x
  · refine ⟨(.int (x % m), st.set lb (bagO (x / m) y)), ?_, ⟨_, rfl, Int.emod_nonneg _ (by omega), by have := Int.emod_lt_of_pos x e0; omega⟩, rfl, _, [], (List.append_nil _).symm, _, _, ⟨Int.ediv_nonneg hx (by omega), hy, hz⟩, rfl⟩
    simp [e_ixL h, hp, e0, em, e_putL h, bagO]
  · have q1 := Int.emod_nonneg (y * 48271) (show (2147483647 : Int) ≠ 0 by decide)
    have q2 := Int.emod_lt_of_pos (y * 48271) (show (0 : Int) < 2147483647 by decide)
    have h' : (st.set lb (.lst [.int x, .int (y * 48271 % 2147483647)]))[lb]? = some (.lst [.int x, .int (y * 48271 % 2147483647)]) := by rw [List.getElem?_set_self (at_lt h)]
    have k1 : y.natAbs.log2 < 32 := log2_small hy (by omega)
    have k2 : (y * 48271 % 2147483647).natAbs.log2 < 32 := log2_small q1 (by omega)
    refine ⟨(.int (y * 48271 % 2147483647 * (y * 48271 % 2147483647) % 2147483629 / 64 % m), st.set lb (bagO x (y * 48271 % 2147483647))), ?_, ⟨_, rfl, Int.emod_nonneg _ (by omega), by have := Int.emod_lt_of_pos (y * 48271 % 2147483647 * (y * 48271 % 2147483647) % 2147483629 / 64) e0; omega⟩, rfl, _, [], (List.append_nil _).symm, _, _, ⟨hx, q1, by omega⟩, rfl⟩
    have w1 : Nat.log2 48271 < 32 := by decide
    have w2 : Nat.log2 64 < 9000 := by decide
    have l1 : y.natAbs.log2 + Nat.log2 48271 < 1000000 := by omega
    have l2 : (y * 48271 % 2147483647).natAbs.log2 + (y * 48271 % 2147483647).natAbs.log2 < 1000000 := by omega
    simp [e_ixL h, hp, e0, e_putL h, e_ixL h', l1, l2, w2, bagO]
section
variable {lb : Nat} {ρ : Rho} {f g h : FE} {fr : FA} {P : D → Prop} {s : Sto} {t : FS} {Q : Fl × Rho × Sto → Prop}
theorem ED.take {i : Nat} {M hi : Int} (hb : ρ[i]? = some (some (.ref lb))) (c : ED lb ρ f (Nn 1 M)) (hM : M ≤ 1073741824 := by decide) (hh : M - 1 ≤ hi := by decide) : ED lb ρ (fFn 2 fn__law_take (fCons (fV i) (fCons f fNil))) (Nn 0 hi) :=
  .fn (EA.cons (.v (P := (· = .ref lb)) hb rfl) (EA.cons c (.nil (A := (· = [])) rfl))) fun ds st ⟨d1, r, e, e1, d2, r2, e', ⟨m, e2, m1, m2⟩, e3⟩ b => by
    subst e; subst e1; subst e'; subst e2; subst e3
    exact ⟨rfl, (take_spec m1 (by omega) b).mono fun p ⟨⟨j, ej, j1, j2⟩, g⟩ => ⟨⟨j, ej, j1, by omega⟩, g⟩⟩
theorem ok_set {i : Nat} (e : ED lb ρ f P) (b : Bg lb s) (k : ∀ d s', P d → Go lb s s' → Ok (t (ρ.set i (some d)) s') Q) : Ok (sSeq (sSet i f) t ρ s) Q :=
  Ok.bind (Ok.bind ((e s b).mono fun p q => .pure (k p.1 p.2 q.1 q.2)))
theorem ok_par2 {i j : Nat} {P' : D → Prop} (e : ED lb ρ f P) (e' : ED lb ρ h P') (b : Bg lb s) (k : ∀ d d' s', P d → P' d' → Go lb s s' → Ok (t ((ρ.set i (some d)).set j (some d')) s') Q) : Ok (sSeq (sPar [i, j] (fCons f (fCons h fNil))) t ρ s) Q := by
  refine Ok.bind (Ok.bind ?_)
  refine ((EA.cons e (EA.cons e' (.nil (A := (· = [])) rfl))) s b).mono fun p ⟨⟨d, r, e1, p1, d', r', e2, p2, e3⟩, g⟩ => ?_
  subst e3; subst e2
  rw [e1]
  simp only [List.length_cons, List.length_nil, if_true]
  exact .pure (k d d' p.2 p1 p2 g)
theorem ok_run {N : Nat} {sb : FS} {ds : List D} {st : Sto} {R : D × Sto → Prop} (h : Ok (sb (ds.map some ++ List.replicate (N - ds.length) none) st) fun p => ∃ x, p.1 = .rt x ∧ R (x, p.2.2)) : Ok (runD N sb ds st) R :=
  Ok.bind (h.mono fun p ⟨x, e, r⟩ => by rw [e]; exact .pure r)
/-- a list that grows at the store's end -/
def Acc (lb : Nat) (st : Sto) (acc : List D) (s : Sto) : Prop := ∃ s0, Go lb st s0 ∧ s = s0 ++ [.lst acc]
theorem Acc.bg {st : Sto} {acc : List D} (b : Bg lb st) (a : Acc lb st acc s) : Bg lb s := by
  obtain ⟨s0, g, rfl⟩ := a
  exact (g.bg b.lt).app _
theorem Acc.go {st s' : Sto} {acc : List D} (b : Bg lb st) (a : Acc lb st acc s) (q : Go lb s s') : Acc lb st acc s' := by
  obtain ⟨s0, g, rfl⟩ := a
  obtain ⟨s2, rfl, q2⟩ := q.app (by rw [g.len]; exact b.lt)
  exact ⟨s2, g.trans q2, rfl⟩
theorem Acc.at {st : Sto} {acc : List D} (a : Acc lb st acc s) : s[st.length]? = some (.lst acc) := by
  obtain ⟨s0, g, rfl⟩ := a
  rw [← g.len]; simp
theorem Acc.start {st : Sto} (b : Bg lb st) : Acc lb st [] (st ++ [.lst []]) := ⟨st, .refl b, rfl⟩
theorem ok_app {st : Sto} {acc : List D} {j : Nat} (b : Bg lb st) (a : Acc lb st acc s) (e : ED lb ρ f P) (hj : ρ[j]? = some (some (.ref st.length))) (hz : acc.length < sizeLine) :
    Ok (sExpr (fApp (fV j) f) ρ s) fun q => q.1 = .nx ∧ q.2.1 = ρ ∧ ∃ d, P d ∧ Acc lb st (acc ++ [d]) q.2.2 := by
  obtain ⟨⟨d, s1⟩, e1, p, g⟩ := e s (a.bg b)
  have a1 := a.go b g
  refine ⟨(.nx, ρ, s1.set st.length (.lst (acc ++ [d]))), ?_, rfl, rfl, d, p, ?_⟩
  · simp only [e_expr, e_app, e_V, hj, Option.bind_some, e1, a.at, a1.at]
    rw [if_pos hz]
    rfl
  · obtain ⟨s0, g0, rfl⟩ := a1
    refine ⟨s0, g0, ?_⟩
    rw [← g0.len, List.set_append_right _ _ (Nat.le_refl _)]
    simp
theorem for_ok {tg : Tg} {b : FS} {src : Src} {items : List D} {I : Nat → Rho → Sto → Prop} (hi : ∀ i ρ s, I i ρ s → Intact src s)
    (step : ∀ i d, items[i]? = some d → ∀ ρ s, I i ρ s → ∃ ρ1, tgD tg d ρ = some ρ1 ∧ Ok (b ρ1 s) fun q => q.1 = .nx ∧ I (i + 1) q.2.1 q.2.2) :
    ∀ (j i : Nat) (ρ : Rho) (s : Sto), j = items.length - i → i ≤ items.length → I i ρ s → Ok (forD tg b src (items.drop i) ρ s) fun q => q.1 = .nx ∧ I items.length q.2.1 q.2.2 := by
  intro j
  induction j with
  | zero =>
    intro i ρ s hj hl h
    have : i = items.length := by omega
    subst this
    rw [List.drop_length]
    unfold forD
    rw [if_pos (hi _ _ _ h)]
    exact .pure ⟨rfl, h⟩
  | succ j ih =>
    intro i ρ s hj hl h
    have hlt : i < items.length := by omega
    obtain ⟨ρ1, e1, q⟩ := step i items[i] (by simp [hlt]) ρ s h
    rw [List.drop_eq_getElem_cons hlt]
    unfold forD
    rw [if_pos (hi _ _ _ h), e1]
    refine Ok.bind (.pure (Ok.bind (q.mono fun q ⟨e, i2⟩ => ?_)))
    rw [e]
    exact ih (i + 1) q.2.1 q.2.2 (by omega) (by omega) i2
end
end EL
set_option Elab.async false
set_option linter.all false
set_option maxRecDepth 100000
set_option maxHeartbeats 1000000
namespace EL
open PySem PySem.Spec PyProof.Rows L2 GxR LG FW
structure Stn where
  nm : Str
  px : Int
  py : Int
  pw : Int
  hx : Int
  hy : Int
  nd : Int
def Stn.d (s : Stn) : D := .tup [.str s.nm, .tup [.int s.px, .int s.py], .int s.pw, .tup [.int s.hx, .int s.hy], .int s.nd]
structure Air where
  ss : List Stn
  lk : Int
def ssD (ss : List Stn) : D := .tup (ss.map Stn.d)
def Air.d (a : Air) : D := .tup [ssD a.ss, .int a.lk]
def tun (t : List Int) : D := .tup (t.map D.int)
def nms : List Str := ["ann", "bo", "cy", "dee", "eli", "fay", "gus", "hal"]
structure Stn.Ok (s : Stn) : Prop where
  px : -1000 ≤ s.px ∧ s.px ≤ 1000
  py : -1000 ≤ s.py ∧ s.py ≤ 1000
  pw : 1 ≤ s.pw ∧ s.pw ≤ 1000000
  hx : -1000 ≤ s.hx ∧ s.hx ≤ 1000
  hy : -1000 ≤ s.hy ∧ s.hy ≤ 1000
  nd : 1 ≤ s.nd ∧ s.nd ≤ 1000
  nm : s.nm ∈ nms
structure SsOk (ss : List Stn) : Prop where
  len : 1 ≤ ss.length ∧ ss.length ≤ 8
  nm : (ss.map Stn.nm).Sublist nms
  all : ∀ s ∈ ss, s.Ok
structure Air.Ok (a : Air) : Prop where
  ss : SsOk a.ss
  lk : 1 ≤ a.lk ∧ a.lk ≤ 1000
theorem pure_stn (s : Stn) : pureB s.d = true := rfl
theorem pureL_map {α : Type} {f : α → D} (h : ∀ a, pureB (f a) = true) : ∀ l : List α, pureL (l.map f) = true
  | [] => rfl
  | a :: l => by simp [pureL, h a, pureL_map h l]
theorem pure_ss (ss : List Stn) : pureB (ssD ss) = true := by unfold ssD pureB; exact pureL_map pure_stn ss
theorem pure_tun (t : List Int) : pureB (tun t) = true := by unfold tun pureB; exact pureL_map (fun _ => rfl) t
section
variable {lb : Nat} {ρ : Rho} {f g h : FE} {fr : FA} {P : D → Prop} {st s : Sto} {t : FS} {Q : Fl × Rho × Sto → Prop}
theorem ED.mul2 {hi : Int} (a : ED lb ρ f (Nn 1 hi)) (hh : hi ≤ 1000000) : ED lb ρ (fOp mulD (fC (.int 2)) f) (Nn 2 (2 * hi)) := .op (.c (P := (· = .int 2)) rfl) a fun x y st ex ⟨j, ej, j1, j2⟩ => by
  subst ex; subst ej
  have l1 := log2_small (i := j) (by omega) (by omega)
  have l2 : (2 : Int).natAbs.log2 < 32 := by decide
  rw [e_mulI, if_pos (by omega)]
  exact .pure ⟨⟨_, rfl, by omega, by omega⟩, rfl⟩
theorem ED.div3 {hi : Int} (a : ED lb ρ f (Nn 1 hi)) : ED lb ρ (fOp fdivD f (fC (.int 3))) (Nn 0 hi) := .op a (.c (P := (· = .int 3)) rfl) fun x y st ⟨j, ej, j1, j2⟩ ey => by
  subst ej; subst ey
  rw [e_fdivI, if_pos (by decide)]
  exact .pure ⟨⟨_, rfl, by omega, by omega⟩, rfl⟩
theorem ED.mxT {l1 h1 l2 h2 lo hi : Int} (a : ED lb ρ f (Nn l1 h1)) (c : ED lb ρ h (Nn l2 h2)) (q1 : lo ≤ l1 := by decide) (q3 : h1 ≤ hi := by decide) (q4 : h2 ≤ hi := by decide) : ED lb ρ (fCall maxD (fCons f (fCons h fNil))) (Nn lo hi) :=
  .call (EA.cons a (EA.cons c (.nil (A := (· = [])) rfl))) fun ds st q => by
    obtain ⟨_, _, rfl, ⟨i, rfl, i1, i2⟩, _, _, rfl, ⟨j, rfl, j1, j2⟩, rfl⟩ := q
    refine ⟨_, rfl, ⟨_, rfl, ?_⟩, rfl⟩
    split <;> omega
theorem ED.mnT {l1 h1 l2 h2 lo hi : Int} (a : ED lb ρ f (Nn l1 h1)) (c : ED lb ρ h (Nn l2 h2)) (q1 : lo ≤ l1 := by decide) (q2 : lo ≤ l2 := by decide) (q3 : h1 ≤ hi := by decide) : ED lb ρ (fCall minD (fCons f (fCons h fNil))) (Nn lo hi) :=
  .call (EA.cons a (EA.cons c (.nil (A := (· = [])) rfl))) fun ds st q => by
    obtain ⟨_, _, rfl, ⟨i, rfl, i1, i2⟩, _, _, rfl, ⟨j, rfl, j1, j2⟩, rfl⟩ := q
    refine ⟨_, rfl, ⟨_, rfl, ?_⟩, rfl⟩
    split <;> omega
noncomputable def bodyS : FS := (sSeq (sPar [5, 6] (fCons (fOp subD (fFn 2 fn__law_take (fCons (fV 0) (fCons (fOp addD (fOp mulD (fC (.int 2)) (fV 3)) (fC (.int 1))) fNil))) (fV 3)) (fCons (fOp subD (fFn 2 fn__law_take (fCons (fV 0) (fCons (fOp addD (fOp mulD (fC (.int 2)) (fV 3)) (fC (.int 1))) fNil))) (fV 3)) fNil)))
    (sSeq (sSet 7 (fOp addD (fC (.int 1)) (fOp fdivD (fV 3) (fC (.int 3)))))
    (sSeq (sSet 8 (fTup (fCons (fCall maxD (fCons (fNeg (fC (.int 1000))) (fCons (fOp subD (fV 5) (fFn 2 fn__law_take (fCons (fV 0) (fCons (fV 7) fNil)))) fNil))) (fCons (fCall minD (fCons (fC (.int 1000)) (fCons (fOp addD (fV 6) (fFn 2 fn__law_take (fCons (fV 0) (fCons (fV 7) fNil)))) fNil))) fNil))))
    (sSeq (sSet 9 (fOp ixD (fLz (fCons (fC (.int 1)) (fCons (fC (.int 100)) (fCons (fOp addD (fC (.int 1)) (fFn 2 fn__law_take (fCons (fV 0) (fCons (fC (.int 1000)) fNil)))) (fCons (fOp addD (fC (.int 1)) (fFn 2 fn__law_take (fCons (fV 0) (fCons (fC (.int 1000000)) fNil)))) fNil))))) (fFn 2 fn__law_take (fCons (fV 0) (fCons (fC (.int 4)) fNil)))))
    (sSeq (sSet 10 (fOp addD (fC (.int 1)) (fFn 2 fn__law_take (fCons (fV 0) (fCons (fOp ixD (fLz (fCons (fC (.int 2)) (fCons (fC (.int 10)) (fCons (fC (.int 1000)) fNil)))) (fFn 2 fn__law_take (fCons (fV 0) (fCons (fC (.int 3)) fNil)))) fNil)))))
    (sExpr (fApp (fV 2) (fTup (fCons (fV 4) (fCons (fTup (fCons (fV 5) (fCons (fV 6) fNil))) (fCons (fV 9) (fCons (fV 8) (fCons (fV 10) fNil)))))))))))))
theorem bodyS_ok {acc : List D} {x : Str} {w : Int} {x1 x5 x6 x7 x8 x9 x10 : Option D} (b : Bg lb st) (a : Acc lb st acc s) (hz : acc.length < sizeLine) (hn : x ∈ nms) (w1 : 1 ≤ w) (w2 : w ≤ 1000) :
    Ok (bodyS [some (.ref lb), x1, some (.ref st.length), some (.int w), some (.str x), x5, x6, x7, x8, x9, x10] s) fun q => q.1 = .nx ∧ (∃ x4 x5 x6 x7 x8 x9 x10, q.2.1 = [some (.ref lb), x1, some (.ref st.length), some (.int w), x4, x5, x6, x7, x8, x9, x10]) ∧ ∃ o : Stn, o.Ok ∧ o.nm = x ∧ Acc lb st (acc ++ [o.d]) q.2.2 := by
  have vw : ∀ {ρ : Rho}, ρ[3]? = some (some (.int w)) → ED lb ρ (fV 3) (Nn 1 1000) := fun e => .x e w1 w2
  unfold bodyS
  have tq : ∀ {ρ : Rho}, ρ[0]? = some (some (.ref lb)) → ρ[3]? = some (some (.int w)) → ED lb ρ (fOp subD (fFn 2 fn__law_take (fCons (fV 0) (fCons (fOp addD (fOp mulD (fC (.int 2)) (fV 3)) (fC (.int 1))) fNil))) (fV 3)) (Nn (-w) w) := fun e0 e3 =>
    ED.sub (l1 := 0) (h1 := 2 * w) (l2 := w) (h2 := w) (ED.take (M := 2 * w + 1) (hi := 2 * w) e0 (ED.add (l1 := 2) (h1 := 2 * w) (l2 := 1) (h2 := 1) (ED.mul2 (hi := w) (.x e3 w1 (Int.le_refl _)) (by omega)) (ED.n (lo := 1) (hi := 1)) (by omega) (by omega)) (by omega) (by omega)) (.x e3 (Int.le_refl _) (Int.le_refl _)) (by omega) (by omega)
  refine ok_par2 (P := Nn (-w) w) (P' := Nn (-w) w) (tq rfl rfl) (tq rfl rfl) (a.bg b) fun pa pb s1 ha hb g1 => ?_
  have a1 := a.go b g1
  refine ok_set (P := Nn 1 1001) (ED.add (ED.n (lo := 1) (hi := 1)) (ED.div3 (hi := 1000) (vw rfl))) (a1.bg b) fun pc s2 hc g2 => ?_
  have a2 := a1.go b g2
  obtain ⟨pa, rfl, pa1, pa2⟩ := ha
  obtain ⟨pb, rfl, pb1, pb2⟩ := hb
  obtain ⟨pc, rfl, pc1, pc2⟩ := hc
  have tk : ∀ {ρ : Rho}, ρ[0]? = some (some (.ref lb)) → ρ[7]? = some (some (.int pc)) → ED lb ρ (fFn 2 fn__law_take (fCons (fV 0) (fCons (fV 7) fNil))) (Nn 0 1000) := fun e1 e2 => ED.take (M := 1001) e1 (.x e2 pc1 pc2)
  refine ok_set (P := fun d => ∃ i j, d = .tup [.int i, .int j] ∧ (-1000 ≤ i ∧ i ≤ 1000) ∧ (-1000 ≤ j ∧ j ≤ 1000)) (ED.tup ((EA.cons (P := Nn (-1000) 1000) (ED.mxT (l1 := -1000) (h1 := -1000) (l2 := -2000) (h2 := 1000) ((ED.neg (ED.n (lo := 1000) (hi := 1000)))) (ED.sub (l1 := -1000) (h1 := 1000) (.x rfl (by omega) (by omega)) (tk rfl rfl))) (EA.cons (P := Nn (-1000) 1000) (ED.mnT (l1 := 1000) (h1 := 1000) (l2 := -1000) (h2 := 2000) ED.n (ED.add (l1 := -1000) (h1 := 1000) (.x rfl (by omega) (by omega)) (tk rfl rfl))) (.nil (A := (· = [])) rfl))).mono fun ds q => ?_)) (a2.bg b) fun d8 s3 h8 g3 => ?_
  · obtain ⟨_, _, rfl, ⟨i, rfl, i1, i2⟩, _, _, rfl, ⟨j, rfl, j1, j2⟩, rfl⟩ := q
    exact ⟨by simp [sizeLine_eq], i, j, rfl, ⟨i1, i2⟩, j1, j2⟩
  have a3 := a2.go b g3
  refine ok_set (P := Nn 1 1000000) (ED.pick (P := Nn 1 1000000) (.allC ED.n (.allC ED.n (.allC (ED.add (ED.n (lo := 1) (hi := 1)) (ED.take (M := 1000) (hi := 999) rfl (ED.n))) (.allC (ED.add (ED.n (lo := 1) (hi := 1)) (ED.take (M := 1000000) (hi := 999999) rfl (ED.n))) .all0)))) (ED.take (M := 4) rfl ED.n)) (a3.bg b) fun d9 s4 h9 g4 => ?_
  have a4 := a3.go b g4
  refine ok_set (P := Nn 1 1000) (ED.add (ED.n (lo := 1) (hi := 1)) (ED.take (M := 1000) (hi := 999) rfl (ED.pick (P := Nn 1 1000) (.allC ED.n (.allC ED.n (.allC ED.n .all0))) (ED.take (M := 3) rfl ED.n)))) (a4.bg b) fun d10 s5 h10 g5 => ?_
  have a5 := a4.go b g5
  obtain ⟨hx, hy, rfl, hx1, hy1⟩ := h8
  obtain ⟨pw, rfl, pw1, pw2⟩ := h9
  obtain ⟨nd, rfl, nd1, nd2⟩ := h10
  let o : Stn := ⟨x, pa, pb, pw, hx, hy, nd⟩
  refine (ok_app (P := (· = o.d)) b a5 (ED.q (fun st => ?_) rfl) rfl hz).mono fun q ⟨e1, e2, d, ed, e3⟩ => ⟨e1, ?_, o, ⟨⟨by show -1000 ≤ pa; omega, by show pa ≤ 1000; omega⟩, ⟨by show -1000 ≤ pb; omega, by show pb ≤ 1000; omega⟩, ⟨pw1, pw2⟩, hx1, hy1, ⟨nd1, nd2⟩, hn⟩, rfl, by rw [← ed]; exact e3⟩
  · simp [sizeLine_eq, o, Stn.d]
  · rw [e2]
    exact ⟨_, _, _, _, _, _, _, rfl⟩
theorem nms_at {i : Nat} {n : Nat} {d : D} (h : ((nms.map D.str).take n)[i]? = some d) : ∃ x, x ∈ nms ∧ d = .str x ∧ nms[i]? = some x ∧ i < n := by
  have hi : i < n := by
    have := (List.getElem?_eq_some_iff.mp h).1
    simp at this
    omega
  rw [List.getElem?_take_of_lt hi, List.getElem?_map] at h
  cases q : nms[i]? with
  | none => rw [q] at h; cases h
  | some x => rw [q] at h; cases h; exact ⟨x, List.mem_of_getElem? q, rfl, rfl, hi⟩
theorem cut_hi {ds : List D} {v : Int} (h : 0 ≤ v) : cutD ds none (some v) = ds.take v.toNat := by
  unfold cutD HT.sIx
  have n1 : ¬ v < 0 := by omega
  simp [n1]
end
end EL
set_option Elab.async false
set_option linter.all false
set_option maxRecDepth 100000
set_option maxHeartbeats 1000000
namespace EL
open PySem PySem.Spec PyProof.Rows L2 GxR LG FW
section
variable {tg : Tg} {tt : FT} {fe : FE} {src : Src} {ρ : Rho} {st : Sto} {b : D → Bool} {v : D → D}
theorem allD_eq (hs : Intact src st) {I : Rho → Prop} : ∀ {items : List D} {ρ : Rho}, I ρ → (∀ d ∈ items, ∀ ρ, I ρ → ∃ ρ1, tgD tg d ρ = some ρ1 ∧ I ρ1 ∧ fe ρ1 st = some (.bl (b d), st)) → allD tg fe src items ρ st = some (items.all b, st)
  | [], _, _, _ => by unfold allD; rw [if_pos hs]; rfl
  | d :: ds, ρ, i, h => by
    obtain ⟨ρ1, e1, i1, e2⟩ := h d List.mem_cons_self ρ i
    have ih := allD_eq hs (items := ds) i1 fun x hx => h x (List.mem_cons_of_mem _ hx)
    unfold allD
    rw [if_pos hs, e1]
    simp only [Option.bind_some, e2, e_asB]
    cases hb : b d with
    | true => simp [ih, hb]
    | false => simp [hb]
/-- a loop that looks for the first one -/
theorem forD_find {bd : FS} (hs : Intact src st) {I : Rho → Prop} {r : D → D} : ∀ {items : List D} {ρ : Rho}, I ρ →
    (∀ d ∈ items, ∀ ρ, I ρ → ∃ ρ1 ρ2, tgD tg d ρ = some ρ1 ∧ I ρ2 ∧ bd ρ1 st = some (if b d = true then .rt (r d) else .nx, ρ2, st)) →
    ∃ ρ', forD tg bd src items ρ st = some ((match items.find? b with | some d => .rt (r d) | none => .nx), ρ', st) ∧ I ρ'
  | [], ρ, i, _ => ⟨ρ, by unfold forD; rw [if_pos hs]; rfl, i⟩
  | d :: ds, ρ, i, h => by
    obtain ⟨ρ1, ρ2, e1, i2, e2⟩ := h d List.mem_cons_self ρ i
    cases hb : b d with
    | true =>
      refine ⟨ρ2, ?_, i2⟩
      unfold forD
      rw [if_pos hs, e1]
      simp [e2, hb]
    | false =>
      obtain ⟨ρ', e3, i3⟩ := forD_find hs (items := ds) i2 fun x hx => h x (List.mem_cons_of_mem _ hx)
      refine ⟨ρ', ?_, i3⟩
      unfold forD
      rw [if_pos hs, e1]
      simp [e2, hb, e3]
end
section
variable {st : Sto}
/-- of at most k bits -/
def Bt (k : Nat) (i : Int) : Prop := i.natAbs < 2 ^ k
theorem Bt.mul {a b : Nat} {i j : Int} (h1 : Bt a i) (h2 : Bt b j) : Bt (a + b) (i * j) := by
  unfold Bt at *
  rw [Int.natAbs_mul, Nat.pow_add]
  exact Nat.mul_lt_mul'' h1 h2
theorem Bt.up {a b : Nat} {i : Int} (h : Bt a i) (hab : a ≤ b) : Bt b i := Nat.lt_of_lt_of_le h (Nat.pow_le_pow_right (by decide) hab)
theorem Bt.log {k : Nat} {i : Int} (h : Bt k i) : i.natAbs.log2 ≤ k := by
  by_cases hz : i.natAbs = 0
  · rw [hz]; simp
  · exact Nat.le_of_lt ((Nat.log2_lt hz).mpr h)
theorem mul_ok {a b : Nat} {i j : Int} (hi : Bt a i) (hj : Bt b j) (h : a + b < 9000 := by decide) : mulD (.int i) (.int j) st = some (.int (i * j), st) := by
  have := hi.log
  have := hj.log
  rw [e_mulI, if_pos (by omega)]
theorem fdiv_ok {b : Nat} {i j : Int} (h0 : 0 < j) (hj : Bt b j) (h : b < 9000 := by decide) : fdivD (.int i) (.int j) st = some (.int (i / j), st) := by
  have := hj.log
  rw [e_fdivI, if_pos ⟨h0, by omega⟩]
@[simp] theorem src_tup {xs : List D} : srcOf (.tup xs) xs = [] := rfl
@[simp] theorem src_lst {xs : List D} : srcOf (.lst xs) xs = [] := rfl
@[simp] theorem eqB_int {i j : Int} : eqB (.int i) (.int j) = decide (i = j) := by
  unfold eqB
  cases h : (i == j) <;> simp_all
theorem str_okB : ∀ x ∈ nms, PyData.strOk x = true := by decide +kernel
@[simp] theorem eqB_str {x y : Str} : eqB (.str x) (.str y) = decide (x = y) := by
  unfold eqB
  cases h : (x == y) <;> simp_all
theorem eq_str {x y : Str} (hx : PyData.strOk x = true) (hy : PyData.strOk y = true) : eqD (.str x) (.str y) st = some (.bl (decide (x = y)), st) := by
  unfold eqD eqW
  simp [okB, hx, hy]
theorem nms_nd : nms.Nodup := by decide +kernel
theorem SsOk.inj {ss : List Stn} (h : SsOk ss) {i j : Nat} {s t : Stn} (e : ss[i]? = some s) (e' : ss[j]? = some t) (q : s.nm = t.nm) : i = j := by
  have nd : (ss.map Stn.nm).Nodup := nms_nd.sublist h.nm
  have hi := (List.getElem?_eq_some_iff.mp e).1
  refine (List.getElem?_inj (l := ss.map Stn.nm) (by rw [List.length_map]; exact hi) nd).mp (by rw [List.getElem?_map, List.getElem?_map, e, e', Option.map_some, Option.map_some, q])
theorem enum_at {xs : List D} {i : Nat} : (enumD xs)[i]? = (xs[i]?).map fun d => D.tup [.int (i : Nat), d] := by
  unfold enumD
  rw [List.getElem?_mapIdx]
theorem mem_enum {xs : List D} {d : D} (h : d ∈ enumD xs) : ∃ i x, xs[i]? = some x ∧ d = .tup [.int (i : Nat), x] := by
  obtain ⟨i, hi⟩ := List.mem_iff_getElem?.mp h
  rw [enum_at] at hi
  cases q : xs[i]? with
  | none => rw [q] at hi; cases hi
  | some x => rw [q] at hi; cases hi; exact ⟨i, x, q, rfl⟩
theorem seat_eq {ss : List Stn} (h : SsOk ss) {i : Nat} {s : Stn} (e : ss[i]? = some s) : fn_seat [ssD ss, .str s.nm] st = some (.int (i : Nat), st) := by
  unfold fn_seat
  refine seal_same ?_ rfl
  unfold sb_seat ssD
  have key : ∀ d ∈ enumD (ss.map Stn.d), ∀ ρ : Rho, (∃ a b, ρ = [some (.tup (ss.map Stn.d)), some (.str s.nm), a, b]) → ∃ ρ1 ρ2, tgD (.many [2, 3]) d ρ = some ρ1 ∧ (∃ a b, ρ2 = [some (.tup (ss.map Stn.d)), some (.str s.nm), a, b]) ∧
      (sIf (fTst (fOp eqD (fOp ixD (fV 3) (fC (.int 0))) (fV 1))) (sRet (fV 2)) sNext) ρ1 st = some (if (match d with | .tup [_, .tup (.str x :: _)] => decide (x = s.nm) | _ => false) = true then .rt (match d with | .tup [j, _] => j | d => d) else .nx, ρ2, st) := by
    intro d hd ρ ⟨a, b, eρ⟩
    subst eρ
    obtain ⟨j, x, hx, rfl⟩ := mem_enum hd
    rw [List.getElem?_map] at hx
    cases q : ss[j]? with
    | none => rw [q] at hx; cases hx
    | some t =>
      rw [q] at hx
      cases hx
      have s1 := str_okB _ (h.all s (List.mem_of_getElem? e)).nm
      have s2 := str_okB _ (h.all t (List.mem_of_getElem? q)).nm
      refine ⟨_, [some (.tup (ss.map Stn.d)), some (.str s.nm), some (.int (j : Nat)), some t.d], rfl, ⟨_, _, rfl⟩, ?_⟩
      simp [setM, Stn.d, eq_str s2 s1]
      by_cases z : t.nm = s.nm <;> simp [z]
  obtain ⟨ρ', e1, i1⟩ := forD_find (src := []) Intact.nil (items := enumD (ss.map Stn.d)) (ρ := [some (.tup (ss.map Stn.d)), some (.str s.nm), none, none]) ⟨_, _, rfl⟩ key
  have f : (enumD (ss.map Stn.d)).find? (fun d => match d with | .tup [_, .tup (.str x :: _)] => decide (x = s.nm) | _ => false) = some (.tup [.int (i : Nat), s.d]) := by
    have hi := (List.getElem?_eq_some_iff.mp e).1
    have ei : (enumD (ss.map Stn.d))[i]? = some (.tup [.int (i : Nat), s.d]) := by rw [enum_at, List.getElem?_map, e]; rfl
    rw [List.find?_eq_some_iff_getElem]
    refine ⟨by simp [Stn.d], i, (List.getElem?_eq_some_iff.mp ei).1, (List.getElem?_eq_some_iff.mp ei).2, fun j hj => ?_⟩
    have hjl : j < ss.length := by omega
    have ej : (enumD (ss.map Stn.d))[j]? = some (.tup [.int (j : Nat), ss[j].d]) := by rw [enum_at, List.getElem?_map, List.getElem?_eq_getElem hjl]; rfl
    rw [(List.getElem?_eq_some_iff.mp ej).2]
    simp only [Stn.d]
    simp
    intro q
    have := h.inj (i := j) (j := i) (List.getElem?_eq_getElem hjl) e q
    omega
  rw [f] at e1
  simp only [e_run, e_seq]
  unfold sFor
  simp [iEnum]
  rw [e1]
  rfl
def spr (s r : Stn) : Int := (r.hx - s.px) * (r.hx - s.px) + (r.hy - s.py) * (r.hy - s.py) + 1
theorem sq_le {x : Int} (h1 : -10000 ≤ x) (h2 : x ≤ 10000) : 0 ≤ x * x ∧ x * x ≤ 100000000 := by
  refine ⟨by rcases Int.le_total 0 x with h | h; exact Int.mul_nonneg h h; exact Int.mul_nonneg_of_nonpos_of_nonpos h h, ?_⟩
  have : x.natAbs * x.natAbs ≤ 10000 * 10000 := Nat.mul_le_mul (by omega) (by omega)
  have e : x * x = ((x.natAbs * x.natAbs : Nat) : Int) := by rw [Int.natCast_mul, Int.natAbs_mul_self' x]
  omega
theorem spr_pos {s r : Stn} (hs : s.Ok) (hr : r.Ok) : 1 ≤ spr s r ∧ spr s r ≤ 200000001 := by
  have a1 := hs.px; have a2 := hs.py; have a3 := hr.hx; have a4 := hr.hy
  have h1 := sq_le (x := r.hx - s.px) (by omega) (by omega)
  have h2 := sq_le (x := r.hy - s.py) (by omega) (by omega)
  unfold spr
  omega
theorem bt64 {x : Int} (h1 : -(2 ^ 64) < x) (h2 : x < 2 ^ 64) : Bt 64 x := by
  unfold Bt
  omega
theorem spread_eq {s r : Stn} (hs : s.Ok) (hr : r.Ok) : fn_spread [.tup [.int s.px, .int s.py], .tup [.int r.hx, .int r.hy]] st = some (.int (spr s r), st) := by
  unfold fn_spread
  refine seal_same ?_ rfl
  have a1 := hs.px; have a2 := hs.py; have a3 := hr.hx; have a4 := hr.hy
  have b1 : Bt 64 (r.hx - s.px) := bt64 (by omega) (by omega)
  have b2 : Bt 64 (r.hy - s.py) := bt64 (by omega) (by omega)
  unfold sb_spread
  simp only [e_run, e_seq, e_set, e_op, e_V, e_C, e_ret, List.map_cons, List.map_nil, List.length_cons, List.length_nil]
  simp only [List.replicate, List.cons_append, List.nil_append, List.getElem?_cons_zero, List.getElem?_cons_succ, Option.bind_some, e_ixT, atI_0, atI_1, e_subI, List.set_cons_zero, List.set_cons_succ, mul_ok b1 b1, mul_ok b2 b2, e_addI]
  rfl
def gapI (b o : Int) : Int := if b = 0 ∨ o = 0 then 2 else if 2 < (if b - o < 0 then -(b - o) else b - o) then 2 else if b - o < 0 then -(b - o) else b - o
theorem gap_eq {b o : Int} : fn_gap [.int b, .int o] st = some (.int (gapI b o), st) := by
  unfold fn_gap
  refine seal_same ?_ rfl
  unfold sb_gap gapI
  simp [sizeLine_eq, inW, flatD, nB]
  by_cases h1 : b = 0
  · simp [h1]
  · by_cases h2 : o = 0
    · simp [h1, h2]
    · simp [h1, h2, absD, minD]
end
end EL
set_option Elab.async false
set_option linter.all false
set_option maxRecDepth 100000
set_option maxHeartbeats 1000000
namespace EL
open PySem PySem.Spec PyProof.Rows L2 GxR LG FW
section
variable {α : Type} {tg : Tg} {tt : FT} {fe : FE} {src : Src} {ρ : Rho} {st : Sto} {enc : α → D} {b : α → Bool} {w : α → D}
theorem lcE (hs : Intact src st) : ∀ {l : List α}, (∀ x ∈ l, ∃ ρ1, tgD tg (enc x) ρ = some ρ1 ∧ tt ρ1 st = some (b x, st) ∧ (b x = true → fe ρ1 st = some (w x, st))) → lcZ tg tt fe src ρ (l.map enc) st = some ((l.filter b).map w, st)
  | [], _ => by unfold lcZ; simp only [List.map_nil]; rw [if_pos hs]; rfl
  | d :: ds, h => by
    obtain ⟨ρ1, e1, e2, e3⟩ := h d List.mem_cons_self
    have ih := lcE hs (l := ds) fun x hx => h x (List.mem_cons_of_mem _ hx)
    simp only [List.map_cons]
    unfold lcZ
    rw [if_pos hs, e1]
    simp only [Option.bind_some, e2]
    cases hb : b d with
    | true => simp [e3 hb, ih, hb]
    | false => simp [ih, hb]
theorem lcM (hs : Intact src st) : ∀ {l : List α}, (∀ x ∈ l, ∃ ρ1, tgD tg (enc x) ρ = some ρ1 ∧ fe ρ1 st = some (w x, st)) → lcZ tg fYes fe src ρ (l.map enc) st = some (l.map w, st)
  | [], _ => by unfold lcZ; simp only [List.map_nil]; rw [if_pos hs]
  | d :: ds, h => by
    obtain ⟨ρ1, e1, e3⟩ := h d List.mem_cons_self
    have ih := lcM hs (l := ds) fun x hx => h x (List.mem_cons_of_mem _ hx)
    simp only [List.map_cons]
    unfold lcZ
    rw [if_pos hs, e1]
    simp [e3, ih]
end
def prodI (l : List Int) : Int := l.foldl (· * ·) 1
def sprs (ss : List Stn) (r : Stn) : List Int := ss.map fun s => spr s r
def shareI (ss : List Stn) (r s : Stn) : Int := s.pw * (prodI (sprs ss r) / spr s r)
def tri (p : Int × Int × Int) : D := .tup [.int p.1, .int p.2.1, .int p.2.2]
def othL (a : Air) (i : Nat) (r : Stn) : List (Int × Int × Int) := (a.ss.map fun s => (r.nd * a.lk * shareI a.ss r s, r.nd * shareI a.ss r s, (0 : Int))).set i (0, 0, 0)
def ownI (a : Air) (r : Stn) : Int := a.lk * shareI a.ss r r
def earD (a : Air) (i : Nat) (r : Stn) : D := .tup [.int (ownI a r), .lst ((othL a i r).map tri)]
theorem foldl_mul : ∀ (l : List Int) (x : Int), l.foldl (· * ·) x = x * prodI l
  | [], x => by simp [prodI]
  | y :: l, x => by
    unfold prodI
    simp only [List.foldl_cons]
    rw [foldl_mul l (x * y), foldl_mul l (1 * y)]
    rw [Int.one_mul, Int.mul_assoc]
theorem prodI_cons (x : Int) (l : List Int) : prodI (x :: l) = x * prodI l := by
  unfold prodI
  simp only [List.foldl_cons]
  rw [foldl_mul, Int.one_mul]
  rfl
theorem prodI_nil : prodI [] = 1 := rfl
theorem prodI_pos : ∀ {l : List Int}, (∀ x ∈ l, 1 ≤ x) → 1 ≤ prodI l
  | [], _ => by decide
  | x :: l, h => by
    rw [prodI_cons]
    have h1 := h x List.mem_cons_self
    have h2 := prodI_pos fun y hy => h y (List.mem_cons_of_mem _ hy)
    have := Int.mul_le_mul h1 h2 (by decide) (by omega)
    simpa using this
theorem prodI_bt {k : Nat} : ∀ {l : List Int}, (∀ x ∈ l, Bt k x) → Bt (k * l.length) (prodI l) ∨ l = []
  | [], _ => .inr rfl
  | x :: l, h => by
    rw [prodI_cons]
    have h1 := h x List.mem_cons_self
    rcases prodI_bt fun y hy => h y (List.mem_cons_of_mem _ hy) with h2 | rfl
    · exact .inl ((h1.mul h2).up (by simp [Nat.mul_add]; omega))
    · exact .inl (by rw [prodI_nil]; simpa using h1)
theorem prodI_dvd : ∀ {l : List Int} {x : Int}, x ∈ l → x ∣ prodI l
  | y :: l, x, h => by
    rw [prodI_cons]
    rcases List.mem_cons.mp h with rfl | h
    · exact Int.dvd_mul_right _ _
    · exact Int.dvd_trans (prodI_dvd h) (Int.dvd_mul_left _ _)
section
variable {st : Sto}
theorem bt28 {x : Int} (h1 : 1 ≤ x) (h2 : x ≤ 200000001) : Bt 28 x := by unfold Bt; omega
theorem bt10 {x : Int} (h1 : 1 ≤ x) (h2 : x ≤ 1000) : Bt 10 x := by unfold Bt; omega
theorem bt20 {x : Int} (h1 : 1 ≤ x) (h2 : x ≤ 1000000) : Bt 20 x := by unfold Bt; omega
theorem Bt.div {k : Nat} {x y : Int} (h : Bt k x) (hx : 0 ≤ x) (hy : 1 ≤ y) : Bt k (x / y) := by
  unfold Bt at *
  have h1 : x / y ≤ x := Int.ediv_le_self _ hx
  have h2 : 0 ≤ x / y := Int.ediv_nonneg hx (by omega)
  have e1 : ((x / y).natAbs : Int) = x / y := Int.natAbs_of_nonneg h2
  have e2 : (x.natAbs : Int) = x := Int.natAbs_of_nonneg hx
  have : (x / y).natAbs ≤ x.natAbs := by omega
  omega
theorem sprs_ok {ss : List Stn} (h : SsOk ss) {r : Stn} (hr : r.Ok) : (∀ x ∈ sprs ss r, 1 ≤ x ∧ x ≤ 200000001) ∧ Bt 224 (prodI (sprs ss r)) := by
  have h1 : ∀ x ∈ sprs ss r, 1 ≤ x ∧ x ≤ 200000001 := fun x hx => by
    obtain ⟨s, hs, rfl⟩ := List.mem_map.mp hx
    exact spr_pos (h.all s hs) hr
  refine ⟨h1, ?_⟩
  rcases prodI_bt (k := 28) (l := sprs ss r) (fun x hx => bt28 (h1 x hx).1 (h1 x hx).2) with q | q
  · refine q.up ?_
    have := h.len.2
    simp [sprs]
    omega
  · rw [q, prodI_nil]
    unfold Bt; decide
theorem seq_nx {s1 s2 : FS} {ρ ρ1 : Rho} {st1 : Sto} (h : s1 ρ st = some (.nx, ρ1, st1)) : sSeq s1 s2 ρ st = s2 ρ1 st1 := by rw [e_seq, h]; rfl
theorem set_ok {i : Nat} {f : FE} {ρ : Rho} {d : D} {st1 : Sto} (h : f ρ st = some (d, st1)) : sSet i f ρ st = some (.nx, ρ.set i (some d), st1) := by rw [e_set, h]; rfl
theorem lcz_ok {fi : FI} {tg : Tg} {tt : FT} {fe : FE} {vs : List Nat} {ρ : Rho} {items ds : List D} {src : Src} {st1 st2 : Sto} (h1 : fi ρ st = some (items, src, st1)) (h2 : lcZ tg tt fe src (wipeD ρ vs) items st1 = some (ds, st2)) (hz : ds.length ≤ 1000) : fLcZ fi tg tt fe vs ρ st = some (.lst ds, st2) := by
  unfold fLcZ
  rw [h1]
  simp only [Option.bind_some, h2]
  rw [if_pos (by rw [sizeLine_eq]; omega)]
theorem lcD_eq {tg : Tg} {fe : FE} {ρ : Rho} {s0 : Sto} {v : D → D} : ∀ {items acc : List D}, items.length + acc.length ≤ 1000 → (∀ d ∈ items, ∃ ρ1, tgD tg d ρ = some ρ1 ∧ ∀ st, fe ρ1 st = some (v d, st)) → lcD tg fYes fe s0.length [] ρ items (s0 ++ [.lst acc]) = some (s0 ++ [.lst (acc ++ items.map v)])
  | [], acc, _, _ => by unfold lcD; rw [if_pos Intact.nil]; simp
  | d :: ds, acc, hz, h => by
    obtain ⟨ρ1, e1, e2⟩ := h d List.mem_cons_self
    simp only [List.length_cons] at hz
    have ih := lcD_eq (tg := tg) (fe := fe) (ρ := ρ) (s0 := s0) (items := ds) (acc := acc ++ [v d]) (by simp; omega) fun x hx => h x (List.mem_cons_of_mem _ hx)
    unfold lcD
    rw [if_pos Intact.nil, e1]
    simp only [Option.bind_some, e_yes, if_true, e2]
    have q : (s0 ++ [O.lst acc])[s0.length]? = some (.lst acc) := by simp
    rw [q]
    simp only
    rw [if_pos (by rw [sizeLine_eq]; omega), List.set_append_right _ _ (Nat.le_refl _)]
    simp only [Nat.sub_self, List.set_cons_zero]
    rw [ih]
    simp
theorem seal_pair {fn : HA} {ds : List D} {x : Int} {es : List D} (h : fn ds st = some (.tup [.int x, .ref st.length], st ++ [.lst es])) (p : pureL es = true) : sealFn fn ds st = some (.tup [.int x, .lst es], st) :=
  seal_to h (calm_app calm_refl rfl) (by simp [sealD, seals, seal1, p, pureB]) (by simp)
theorem zipWith_map {α β γ : Type} (f : α → β → γ) (g : α → β) : ∀ l : List α, List.zipWith f l (l.map g) = l.map fun x => f x (g x)
  | [] => rfl
  | x :: l => by simp [zipWith_map f g l]
theorem ear_eq {a : Air} (h : a.Ok) {i : Nat} {r : Stn} (e : a.ss[i]? = some r) : fn_ear [a.d, .int (i : Nat)] st = some (earD a i r, st) := by
  have hr := h.ss.all r (List.mem_of_getElem? e)
  have hi := (List.getElem?_eq_some_iff.mp e).1
  obtain ⟨hS, hP⟩ := sprs_ok h.ss hr
  have hPp : 1 ≤ prodI (sprs a.ss r) := prodI_pos fun x hx => (hS x hx).1
  have hl8 := h.ss.len.2
  unfold fn_ear
  refine seal_pair ?_ (pureL_map (fun _ => rfl) _)
  unfold sb_ear
  have e0 : ixD (ssD a.ss) (.int (i : Nat)) st = some (r.d, st) := by
    unfold ssD
    rw [e_ixT, atI_nat, List.getElem?_map, e]
    rfl
  have c3 : cutD [D.str r.nm, D.tup [D.int r.px, D.int r.py], D.int r.pw, D.tup [D.int r.hx, D.int r.hy], D.int r.nd] (some 3) none = [.tup [.int r.hx, .int r.hy], .int r.nd] := rfl
  have L1 : ∀ ρ0 : Rho, ρ0[4]? = some (some (.tup [.int r.hx, .int r.hy])) → ρ0.length = 13 → lcZ (.one 11) fYes (fFn 2 fn_spread (fCons (fOp ixD (fV 11) (fC (.int 1))) (fCons (fV 4) fNil))) [] ρ0 (a.ss.map Stn.d) st = some ((sprs a.ss r).map D.int, st) := by
    intro ρ0 h4 hl
    rw [sprs, List.map_map]
    refine lcM Intact.nil fun s hs => ⟨_, rfl, ?_⟩
    have q11 : (ρ0.set 11 (some s.d))[11]? = some (some s.d) := by rw [List.getElem?_set_self (by omega)]
    have q4 : (ρ0.set 11 (some s.d))[4]? = some (some (.tup [.int r.hx, .int r.hy])) := by rw [List.getElem?_set_ne (by decide)]; exact h4
    simp only [e_fn, e_cons, e_op, e_V, e_C, e_nil, q11, q4, Option.bind_some]
    simp only [Stn.d, e_ixT, atI_1, Option.bind_some, List.length_cons, List.length_nil, if_true]
    rw [spread_eq (st := st) (h.ss.all s hs) hr]
    rfl
  have L2 : ∀ ρ0 : Rho, ρ0.length = 13 → ρ0[7]? = some (some (.int 1)) → ∃ ρ', forD (.one 8) (sAug 7 imulD (fV 8)) [] ((sprs a.ss r).map D.int) ρ0 st = some (.nx, ρ', st) ∧ ρ'.length = 13 ∧ ρ'[7]? = some (some (.int (prodI (sprs a.ss r)))) ∧ ∀ j, j ≠ 7 → j ≠ 8 → ρ'[j]? = ρ0[j]? := by
    intro ρ0 hl h7
    have gen : ∀ (l : List Int) (ρ0 : Rho) (x : Int), (∀ y ∈ l, 1 ≤ y ∧ y ≤ 200000001) → ρ0.length = 13 → ρ0[7]? = some (some (.int x)) → ∃ ρ', forD (.one 8) (sAug 7 imulD (fV 8)) [] (l.map D.int) ρ0 st = some (.nx, ρ', st) ∧ ρ'.length = 13 ∧ ρ'[7]? = some (some (.int (l.foldl (· * ·) x))) ∧ ∀ j, j ≠ 7 → j ≠ 8 → ρ'[j]? = ρ0[j]? := by
      intro l
      induction l with
      | nil => intro ρ0 x _ hl h7; exact ⟨ρ0, by unfold forD; simp only [List.map_nil]; rw [if_pos Intact.nil], hl, h7, fun _ _ _ => rfl⟩
      | cons y l ih =>
        intro ρ0 x hy hl h7
        have y1 := hy y List.mem_cons_self
        obtain ⟨ρ', e1, e2, e3, e4⟩ := ih ((ρ0.set 8 (some (.int y))).set 7 (some (.int (x * y)))) (x * y) (fun z hz => hy z (List.mem_cons_of_mem _ hz)) (by simp [hl]) (by rw [List.getElem?_set_self (by simp [hl])])
        refine ⟨ρ', ?_, e2, e3, fun j h1 h2 => ?_⟩
        · simp only [List.map_cons]
          unfold forD
          rw [if_pos Intact.nil]
          have q7 : (ρ0.set 8 (some (.int y)))[7]? = some (some (.int x)) := by rw [List.getElem?_set_ne (by decide)]; exact h7
          have q8 : (ρ0.set 8 (some (.int y)))[8]? = some (some (.int y)) := by rw [List.getElem?_set_self (by omega)]
          simp only [tgD, Option.bind_some, e_aug, q7, e_V, q8, imulD, intOp]
          rw [if_pos (Or.inr ⟨by omega, by omega⟩)]
          simp only [Option.map_some, Option.bind_some]
          exact e1
        · rw [e4 j h1 h2, List.getElem?_set_ne (Ne.symm h1), List.getElem?_set_ne (Ne.symm h2)]
    exact gen _ ρ0 1 hS hl h7
  have L3 : ∀ ρ0 : Rho, ρ0.length = 13 → ρ0[7]? = some (some (.int (prodI (sprs a.ss r)))) → lcZ (.many [11, 8]) fYes (fOp mulD (fOp ixD (fV 11) (fC (.int 2))) (fOp fdivD (fV 7) (fV 8))) [] ρ0 (List.zipWith (fun x y => D.tup [x, y]) (a.ss.map Stn.d) ((sprs a.ss r).map D.int)) st = some ((a.ss.map fun s => shareI a.ss r s).map D.int, st) := by
    intro ρ0 hl h7
    have e : List.zipWith (fun x y => D.tup [x, y]) (a.ss.map Stn.d) ((sprs a.ss r).map D.int) = a.ss.map fun s => D.tup [s.d, .int (spr s r)] := by
      unfold sprs
      rw [List.map_map, List.zipWith_map, ]
      simp [List.zipWith_self]
    rw [e, List.map_map]
    refine lcM Intact.nil fun s hs => ⟨(ρ0.set 11 (some s.d)).set 8 (some (.int (spr s r))), rfl, ?_⟩
    have sp := spr_pos (h.ss.all s hs) hr
    have q11 : ((ρ0.set 11 (some s.d)).set 8 (some (.int (spr s r))))[11]? = some (some s.d) := by rw [List.getElem?_set_ne (by decide), List.getElem?_set_self (by omega)]
    have q8 : ((ρ0.set 11 (some s.d)).set 8 (some (.int (spr s r))))[8]? = some (some (.int (spr s r))) := by rw [List.getElem?_set_self (by simp [hl])]
    have q7 : ((ρ0.set 11 (some s.d)).set 8 (some (.int (spr s r))))[7]? = some (some (.int (prodI (sprs a.ss r)))) := by rw [List.getElem?_set_ne (by decide), List.getElem?_set_ne (by decide)]; exact h7
    have pw := (h.ss.all s hs).pw
    simp only [e_op, e_V, e_C, q11, q8, q7, Option.bind_some]
    have i2 : ixD s.d (.int 2) st = some (.int s.pw, st) := rfl
    simp only [i2, Option.bind_some, fdiv_ok (st := st) (show 0 < spr s r by omega) (bt28 sp.1 sp.2)]
    rw [mul_ok (bt20 pw.1 pw.2) (hP.div (by omega) sp.1)]
    rfl
  have L4 : ∀ ρ0 : Rho, ρ0.length = 13 → ρ0[5]? = some (some (.int r.nd)) → ρ0[3]? = some (some (.int a.lk)) → lcD (.one 12) fYes (fTup (fCons (fOp mulD (fOp mulD (fV 5) (fV 3)) (fV 12)) (fCons (fOp mulD (fV 5) (fV 12)) (fCons (fC (.int 0)) fNil)))) st.length [] ρ0 ((a.ss.map fun s => shareI a.ss r s).map D.int) (st ++ [.lst []]) = some (st ++ [.lst ((a.ss.map fun s => (r.nd * a.lk * shareI a.ss r s, r.nd * shareI a.ss r s, (0 : Int))).map tri)]) := by
    intro ρ0 hl h5 h3
    rw [lcD_eq (v := fun d => match d with | .int x => tri (r.nd * a.lk * x, r.nd * x, 0) | d => d) (by simp; omega)]
    · simp [Function.comp_def]
    · intro d hd
      obtain ⟨x, hx, rfl⟩ := List.mem_map.mp hd
      obtain ⟨s, hs, rfl⟩ := List.mem_map.mp hx
      have sp := spr_pos (h.ss.all s hs) hr
      have pw := (h.ss.all s hs).pw
      have b1 : Bt 244 (shareI a.ss r s) := (bt20 pw.1 pw.2).mul (hP.div (by omega) sp.1)
      refine ⟨_, rfl, fun st => ?_⟩
      have q12 : (ρ0.set 12 (some (.int (shareI a.ss r s))))[12]? = some (some (.int (shareI a.ss r s))) := by rw [List.getElem?_set_self (by omega)]
      have q5 : (ρ0.set 12 (some (.int (shareI a.ss r s))))[5]? = some (some (.int r.nd)) := by rw [List.getElem?_set_ne (by decide)]; exact h5
      have q3 : (ρ0.set 12 (some (.int (shareI a.ss r s))))[3]? = some (some (.int a.lk)) := by rw [List.getElem?_set_ne (by decide)]; exact h3
      have bn := bt10 hr.nd.1 hr.nd.2
      have bk := bt10 h.lk.1 h.lk.2
      simp only [e_tup, e_cons, e_op, e_V, e_C, e_nil, q12, q5, q3, Option.bind_some, mul_ok (st := st) bn bk, mul_ok (st := st) (bn.mul bk) b1, mul_ok (st := st) bn b1]
      rw [if_pos (by simp [sizeLine_eq])]
      rfl
  obtain ⟨ρ8, e8, l8, p8, k8⟩ := L2 [some a.d, some (.int (i : Nat)), some (ssD a.ss), some (.int a.lk), some (.tup [.int r.hx, .int r.hy]), some (.int r.nd), some (.lst ((sprs a.ss r).map D.int)), some (.int 1), none, none, none, none, none] rfl rfl
  have k2 := k8 2 (by decide) (by decide)
  have k1 := k8 1 (by decide) (by decide)
  have k3 := k8 3 (by decide) (by decide)
  have k5 := k8 5 (by decide) (by decide)
  have k6 := k8 6 (by decide) (by decide)
  have shb : ∀ s ∈ a.ss, Bt 244 (shareI a.ss r s) := fun s hs => by
    have sp := spr_pos (h.ss.all s hs) hr
    have pw := (h.ss.all s hs).pw
    exact (bt20 pw.1 pw.2).mul (hP.div (by omega) sp.1)
  rw [e_run]
  simp only [List.map_cons, List.map_nil, List.length_cons, List.length_nil, List.replicate, List.cons_append, List.nil_append]
  rw [seq_nx (ρ1 := [some a.d, some (.int (i : Nat)), some (ssD a.ss), some (.int a.lk), none, none, none, none, none, none, none, none, none]) (st1 := st) rfl]
  rw [seq_nx (ρ1 := [some a.d, some (.int (i : Nat)), some (ssD a.ss), some (.int a.lk), some (.tup [.int r.hx, .int r.hy]), some (.int r.nd), none, none, none, none, none, none, none]) (st1 := st) (by
    simp only [e_unp, e_sl, e_op, e_V, List.getElem?_cons_zero, List.getElem?_cons_succ, Option.bind_some, e0, e_oS, e_C, e_oN]
    simp only [Stn.d, e_slT, c3, Option.bind_some]
    rfl)]
  rw [seq_nx (set_ok (lcz_ok (items := a.ss.map Stn.d) (src := []) (st1 := st) rfl (L1 _ rfl rfl) (by simp [sprs]; omega)))]
  rw [seq_nx (set_ok (d := .int 1) (st1 := st) rfl)]
  rw [seq_nx (ρ1 := ρ8) (st1 := st) (by
    unfold sFor
    exact e8)]
  rw [seq_nx (set_ok (lcz_ok (items := List.zipWith (fun x y => D.tup [x, y]) (a.ss.map Stn.d) ((sprs a.ss r).map D.int)) (src := []) (st1 := st) (by
    unfold iZip2
    simp only [e_cons, e_V, e_nil, k2, k6, List.getElem?_cons_zero, List.getElem?_cons_succ, Option.bind_some]
    rfl) (L3 _ (by simp [wipeD, l8]) (by simp [wipeD]; exact p8)) (by simp; omega)))]
  have q9 : ∀ j, j ≠ 9 → (ρ8.set 9 (some (.lst ((a.ss.map fun s => shareI a.ss r s).map D.int))))[j]? = ρ8[j]? := fun j hj => by rw [List.getElem?_set_ne (Ne.symm hj)]
  have q99 : (ρ8.set 9 (some (.lst ((a.ss.map fun s => shareI a.ss r s).map D.int))))[9]? = some (some (.lst ((a.ss.map fun s => shareI a.ss r s).map D.int))) := by rw [List.getElem?_set_self (by omega)]
  generalize hρ9 : (ρ8.set 9 (some (.lst ((a.ss.map fun s => shareI a.ss r s).map D.int)))) = ρ9 at q9 q99
  have l9 : ρ9.length = 13 := by rw [← hρ9]; simp [l8]
  have r5 : ρ9[5]? = some (some (.int r.nd)) := (q9 5 (by decide)).trans k5
  have r3 : ρ9[3]? = some (some (.int a.lk)) := (q9 3 (by decide)).trans k3
  have r1 : ρ9[1]? = some (some (.int (i : Nat))) := (q9 1 (by decide)).trans k1
  rw [seq_nx (ρ1 := ρ9.set 10 (some (.ref st.length))) (st1 := st ++ [.lst ((a.ss.map fun s => (r.nd * a.lk * shareI a.ss r s, r.nd * shareI a.ss r s, (0 : Int))).map tri)]) (by
    refine set_ok ?_
    unfold fLc iSeq
    simp only [e_V, q99, Option.bind_some]
    rw [L4 _ (by simp [wipeD, l9]) (by simp [wipeD]; exact r5) (by simp [wipeD]; exact r3)]
    rfl)]
  have t1 : (ρ9.set 10 (some (.ref st.length)))[1]? = some (some (.int (i : Nat))) := by rw [List.getElem?_set_ne (by decide)]; exact r1
  have t3 : (ρ9.set 10 (some (.ref st.length)))[3]? = some (some (.int a.lk)) := by rw [List.getElem?_set_ne (by decide)]; exact r3
  have t9 : (ρ9.set 10 (some (.ref st.length)))[9]? = some (some (.lst ((a.ss.map fun s => shareI a.ss r s).map D.int))) := by rw [List.getElem?_set_ne (by decide)]; exact q99
  have t10 : (ρ9.set 10 (some (.ref st.length)))[10]? = some (some (.ref st.length)) := by rw [List.getElem?_set_self (by omega)]
  have nx : ixN ((a.ss.map fun s => (r.nd * a.lk * shareI a.ss r s, r.nd * shareI a.ss r s, (0 : Int))).map tri).length (i : Nat) = some i := by
    unfold ixN
    simp [hi]
  rw [seq_nx (ρ1 := ρ9.set 10 (some (.ref st.length))) (st1 := st ++ [.lst ((othL a i r).map tri)]) (by
    simp only [e_put, e_tup, e_cons, e_C, e_nil, e_V, t1, t10, Option.bind_some]
    rw [if_pos (by simp [sizeLine_eq])]
    simp only [Option.bind_some]
    rw [e_putL (ds := (a.ss.map fun s => (r.nd * a.lk * shareI a.ss r s, r.nd * shareI a.ss r s, (0 : Int))).map tri) (by simp), nx]
    simp only [Option.bind_some]
    rw [List.set_append_right _ _ (Nat.le_refl _)]
    simp [othL, tri])]
  have ii : atI ((a.ss.map fun s => shareI a.ss r s).map D.int) (i : Nat) = some (.int (shareI a.ss r r)) := by
    rw [atI_nat, List.getElem?_map, List.getElem?_map, e]
    rfl
  simp only [e_ret, e_tup, e_cons, e_op, e_V, e_nil, t1, t3, t9, t10, Option.bind_some, e_ixZ, ii, mul_ok (bt10 h.lk.1 h.lk.2) (shb r (List.mem_of_getElem? e))]
  rw [if_pos (by simp [sizeLine_eq])]
  rfl
def pick3 (p : Int × Int × Int) (g : Int) : Int := if g = 0 then p.1 else if g = 1 then p.2.1 else p.2.2
theorem gap_cases (b o : Int) : gapI b o = 0 ∨ gapI b o = 1 ∨ gapI b o = 2 := by
  unfold gapI
  split
  · exact .inr (.inr rfl)
  · split <;> split <;> omega
def disI (oth : List (Int × Int × Int)) (band : Int) (t : List Int) : Int := (List.zipWith (fun p o => pick3 p (gapI band o)) oth t).sum
theorem intsD_map (l : List Int) : intsD (l.map D.int) = some l := by
  induction l with
  | nil => rfl
  | cons x l ih => simp [intsD, ih]
theorem hears_eq {own band : Int} {oth : List (Int × Int × Int)} {t : List Int} (hz : oth.length ≤ 100) : fn_hears [.tup [.int own, .lst (oth.map tri)], .int band, tun t] st = some (.bl (decide (disI oth band t ≤ own)), st) := by
  unfold fn_hears
  refine seal_same ?_ rfl
  unfold sb_hears
  rw [e_run]
  simp only [List.map_cons, List.map_nil, List.length_cons, List.length_nil, List.replicate, List.cons_append, List.nil_append]
  rw [seq_nx (ρ1 := [some (.tup [.int own, .lst (oth.map tri)]), some (.int band), some (tun t), some (.int own), some (.lst (oth.map tri)), none, none]) (st1 := st) rfl]
  have e : List.zipWith (fun x y => D.tup [x, y]) (oth.map tri) (t.map D.int) = (oth.zip t).map fun p => D.tup [tri p.1, .int p.2] := by
    rw [List.zip, List.zipWith_map, List.map_zipWith]
  have L : lcZ (.many [5, 6]) fYes (fOp ixD (fV 5) (fFn 2 fn_gap (fCons (fV 1) (fCons (fV 6) fNil)))) [] (wipeD [some (.tup [.int own, .lst (oth.map tri)]), some (.int band), some (tun t), some (.int own), some (.lst (oth.map tri)), none, none] [5, 6]) (List.zipWith (fun x y => D.tup [x, y]) (oth.map tri) (t.map D.int)) st = some (((oth.zip t).map fun p => pick3 p.1 (gapI band p.2)).map D.int, st) := by
    rw [e, List.map_map]
    refine lcM Intact.nil fun p hp => ⟨_, rfl, ?_⟩
    simp [wipeD, setM, gap_eq, tri]
    unfold pick3
    rcases gap_cases band p.2 with q | q | q
    · simp [q]
    · simp [q]
    · rw [q]; simp; rfl
  simp only [e_ret, e_op, e_V, e_call, e_cons, e_nil, List.getElem?_cons_zero, List.getElem?_cons_succ, Option.bind_some]
  rw [lcz_ok (items := List.zipWith (fun x y => D.tup [x, y]) (oth.map tri) (t.map D.int)) (src := []) (st1 := st) (by unfold iZip2 tun; simp) L (by simp; omega)]
  simp only [Option.bind_some, sumD, e_listOfZ, intsD_map, Option.map_some, e_geI]
  have : ((oth.zip t).map fun p => pick3 p.1 (gapI band p.2)).sum = disI oth band t := by
    unfold disI
    rw [List.zip, List.map_zipWith]
  rw [this]
/-- whether the one at the seat i is heard -/
def heardB (a : Air) (t : List Int) (i : Nat) (r : Stn) : Bool := decide (t.getD i 0 ≠ 0) && decide (disI (othL a i r) (t.getD i 0) t ≤ ownI a r)
theorem heard_eq {a : Air} (h : a.Ok) {t : List Int} (ht : t.length = a.ss.length) {i : Nat} {r : Stn} (e : a.ss[i]? = some r) : fn_is_heard [a.d, tun t, .str r.nm] st = some (.bl (heardB a t i r), st) := by
  unfold fn_is_heard
  refine seal_same ?_ rfl
  have hi := (List.getElem?_eq_some_iff.mp e).1
  have it : t[i]? = some (t.getD i 0) := by
    rw [List.getD_eq_getElem?_getD]
    have : i < t.length := by omega
    simp [this]
  have ix : ixD (tun t) (.int (i : Nat)) st = some (.int (t.getD i 0), st) := by
    unfold tun
    rw [e_ixT, atI_nat, List.getElem?_map, it]
    rfl
  unfold sb_is_heard
  rw [e_run]
  simp only [List.map_cons, List.map_nil, List.length_cons, List.length_nil, List.replicate, List.cons_append, List.nil_append]
  have s1 : ixD a.d (.int 0) st = some (ssD a.ss, st) := rfl
  rw [seq_nx (set_ok (d := .int (i : Nat)) (st1 := st) (by
    simp only [e_fn, e_cons, e_op, e_V, e_C, e_nil, List.getElem?_cons_zero, List.getElem?_cons_succ, Option.bind_some, s1, List.length_cons, List.length_nil, if_true]
    exact seat_eq h.ss e))]
  have lo : (othL a i r).length ≤ 100 := by
    have := h.ss.len.2
    simp [othL]
    omega
  simp only [e_ret, e_and, e_op, e_V, e_C, List.set_cons_zero, List.set_cons_succ, List.getElem?_cons_zero, List.getElem?_cons_succ, Option.bind_some, ix, e_neI, e_asB, e_fn, e_cons, e_nil, List.length_cons, List.length_nil, if_true, ear_eq (st := st) h e, earD, hears_eq (st := st) lo]
  unfold heardB
  generalize t.getD i 0 = tz
  by_cases z : tz = 0
  · simp [z]
  · simp [z]
end
end EL
set_option Elab.async false
set_option linter.all false
set_option maxRecDepth 100000
set_option maxHeartbeats 1000000
namespace EL
open PySem PySem.Spec PyProof.Rows L2 GxR LG FW
section
variable {st : Sto}
abbrev Rw := Nat × Int × Int
def rowAt (a : Air) (t : List Int) (i : Nat) (r : Stn) (x : Stn × Nat) : List Rw :=
  if x.2 ≠ i ∧ t.getD i 0 * t.getD x.2 0 > 0 then (if t.getD i 0 = t.getD x.2 0 then [(x.2, x.1.pw, spr x.1 r)] else if t.getD i 0 - t.getD x.2 0 = 1 ∨ t.getD i 0 - t.getD x.2 0 = -1 then [(x.2, x.1.pw, spr x.1 r * a.lk)] else []) else []
def rowsL (a : Air) (t : List Int) (i : Nat) (r : Stn) : List Rw := a.ss.zipIdx.flatMap (rowAt a t i r)
theorem tun_at {t : List Int} {n j : Nat} (ht : t.length = n) (hj : j < n) : ixD (tun t) (.int (j : Nat)) st = some (.int (t.getD j 0), st) := by
  have it : t[j]? = some (t.getD j 0) := by
    rw [List.getD_eq_getElem?_getD]
    have : j < t.length := by omega
    simp [this]
  unfold tun
  rw [e_ixT, atI_nat, List.getElem?_map, it]
  rfl
theorem t_bound {t : List Int} (h : ∀ b ∈ t, 0 ≤ b ∧ b ≤ 9) (j : Nat) : 0 ≤ t.getD j 0 ∧ t.getD j 0 ≤ 9 := by
  rw [List.getD_eq_getElem?_getD]
  cases q : t[j]? with
  | none => simp
  | some x => exact h x (List.mem_of_getElem? q)
end
end EL
set_option Elab.async false
set_option linter.all false
set_option maxRecDepth 100000
set_option maxHeartbeats 1000000
namespace EL
open PySem PySem.Spec PyProof.Rows L2 GxR LG FW
section
variable {st : Sto}
structure RwOk (p : Rw) : Prop where
  t : 1 ≤ p.2.1 ∧ p.2.1 ≤ 1000000
  b : 1 ≤ p.2.2 ∧ p.2.2 ≤ 200000001000
def botI (rows : List Rw) : Int := prodI (rows.map fun p => p.2.2)
def sumI (rows : List Rw) : Int := (rows.map fun p => p.2.1 * (botI rows / p.2.2)).sum
theorem Bt.add {k : Nat} {i j : Int} (h1 : Bt k i) (h2 : Bt k j) : Bt (k + 1) (i + j) := by
  unfold Bt at *
  rw [Nat.pow_succ]
  omega
end
end EL
set_option Elab.async false
set_option linter.all false
set_option maxRecDepth 100000
set_option maxHeartbeats 1000000
namespace EL
open PySem PySem.Spec PyProof.Rows L2 GxR LG FW
section
/-- the sum of the rows, over the bottom M -/
def FM (rows : List Rw) (M : Int) : Int := (rows.map fun p => p.2.1 * (M / p.2.2)).sum
theorem fm_mul {M k : Int} : ∀ {rows : List Rw}, (∀ p ∈ rows, p.2.2 ∣ M) → FM rows (M * k) = FM rows M * k
  | [], _ => by simp [FM]
  | p :: rows, h => by
    have ih := fm_mul (M := M) (k := k) (rows := rows) fun q hq => h q (List.mem_cons_of_mem _ hq)
    unfold FM at ih ⊢
    rw [List.map_cons, List.sum_cons, List.map_cons, List.sum_cons, ih, Int.add_mul, Int.mul_assoc]
    have : M * k / p.2.2 = M / p.2.2 * k := by
      rw [Int.mul_comm M k, Int.mul_ediv_assoc _ (h p List.mem_cons_self), Int.mul_comm]
    rw [this]
theorem fm_cross {M N : Int} {rows : List Rw} (h1 : ∀ p ∈ rows, p.2.2 ∣ M) (h2 : ∀ p ∈ rows, p.2.2 ∣ N) : FM rows M * N = FM rows N * M := by
  rw [← fm_mul h1, ← fm_mul h2, Int.mul_comm]
theorem bot_dvd {rows : List Rw} {p : Rw} (hp : p ∈ rows) : p.2.2 ∣ botI rows := prodI_dvd (List.mem_map.mpr ⟨p, hp, rfl⟩)
theorem sum_fm (rows : List Rw) : sumI rows = FM rows (botI rows) := rfl
/-- one's own over the same bottom -/
theorem cross {rows : List Rw} {nd pw S M B : Int} (hS : 0 < S) (hM : 0 < M) (hB : 0 < B) (dS : S ∣ M) (h1 : ∀ p ∈ rows, p.2.2 ∣ M) (h2 : ∀ p ∈ rows, p.2.2 ∣ B) :
    nd * FM rows M ≤ pw * (M / S) ↔ nd * FM rows B * S ≤ pw * B := by
  have c := fm_cross h1 h2
  obtain ⟨m, rfl⟩ := dS
  rw [Int.mul_ediv_cancel_left _ (by omega)]
  have hm : 0 < m := by
    rcases Int.lt_trichotomy m 0 with q | q | q
    · have := Int.mul_neg_of_pos_of_neg hS q; omega
    · subst q; simp at hM
    · exact q
  have e : nd * FM rows (S * m) * B = nd * FM rows B * S * m := by
    rw [Int.mul_assoc, c]; simp [Int.mul_assoc]
  constructor
  · intro h
    have := Int.mul_le_mul_of_nonneg_right h (Int.le_of_lt hB)
    rw [e] at this
    have e2 : pw * m * B = pw * B * m := by rw [Int.mul_assoc, Int.mul_comm m B, Int.mul_assoc]
    rw [e2] at this
    exact Int.le_of_mul_le_mul_right this hm
  · intro h
    have := Int.mul_le_mul_of_nonneg_right h (Int.le_of_lt hm)
    rw [← e] at this
    have e2 : pw * B * m = pw * m * B := by rw [Int.mul_assoc, Int.mul_comm B m, Int.mul_assoc]
    rw [e2] at this
    exact Int.le_of_mul_le_mul_right this hB
theorem oth_idx (a : Air) (i : Nat) (r : Stn) : othL a i r = a.ss.zipIdx.map fun x => if x.2 = i then ((0, 0, 0) : Int × Int × Int) else (r.nd * a.lk * shareI a.ss r x.1, r.nd * shareI a.ss r x.1, 0) := by
  unfold othL
  apply List.ext_getElem?
  intro j
  rw [List.getElem?_set, List.getElem?_map, List.getElem?_map, List.getElem?_zipIdx, List.length_map]
  by_cases q : i = j
  · subst q
    by_cases hl : i < a.ss.length
    · simp [hl]
    · simp [hl]
  · have q' : ¬ j = i := fun z => q z.symm
    cases a.ss[j]? <;> simp [q, q']
theorem zip_idx {α β : Type} (g : β → Int → Int) (u : α × Nat → β) {ss : List α} {t : List Int} (ht : t.length = ss.length) : List.zipWith g (ss.zipIdx.map u) t = ss.zipIdx.map fun x => g (u x) (t.getD x.2 0) := by
  apply List.ext_getElem?
  intro j
  rw [List.getElem?_zipWith, List.getElem?_map, List.getElem?_map, List.getElem?_zipIdx]
  by_cases hl : j < ss.length
  · have : j < t.length := by omega
    simp [hl, this]
  · have h1 : ss[j]? = none := by simp; omega
    simp [h1]
theorem sum_flat {α : Type} (g : α → List Rw) (f : Rw → Int) : ∀ l : List α, ((l.flatMap g).map f).sum = (l.map fun x => ((g x).map f).sum).sum
  | [] => rfl
  | x :: l => by rw [List.flatMap_cons, List.map_append, List.sum_append, sum_flat g f l, List.map_cons, List.sum_cons]
theorem sum_mul {α : Type} (f : α → Int) (k : Int) : ∀ l : List α, k * (l.map f).sum = (l.map fun x => k * f x).sum
  | [] => by simp
  | x :: l => by rw [List.map_cons, List.sum_cons, List.map_cons, List.sum_cons, Int.mul_add, sum_mul f k l]
theorem zipIdx_mem {ss : List Stn} {x : Stn × Nat} (hx : x ∈ ss.zipIdx) : ss[x.2]? = some x.1 := by
  obtain ⟨k, hk⟩ := List.mem_iff_getElem?.mp hx
  rw [List.getElem?_zipIdx] at hk
  cases q : ss[k]? with
  | none => rw [q] at hk; cases hk
  | some s => rw [q] at hk; cases hk; simpa using q
theorem gap_zero {b o : Int} (hb : 0 < b) (ho : 0 ≤ o) : gapI b o = 0 ↔ 0 < b * o ∧ b = o := by
  unfold gapI
  have : b * o = 0 ↔ o = 0 := by
    constructor
    · intro h; rcases Int.mul_eq_zero.mp h with q | q <;> omega
    · intro h; rw [h]; simp
  have p := Int.mul_nonneg (Int.le_of_lt hb) ho
  split
  · rename_i q
    have : o = 0 := by omega
    subst this
    simp
  · split <;> split <;> omega
theorem gap_one {b o : Int} (hb : 0 < b) (ho : 0 ≤ o) : gapI b o = 1 ↔ 0 < b * o ∧ (b - o = 1 ∨ b - o = -1) := by
  unfold gapI
  have : b * o = 0 ↔ o = 0 := by
    constructor
    · intro h; rcases Int.mul_eq_zero.mp h with q | q <;> omega
    · intro h; rw [h]; simp
  have p := Int.mul_nonneg (Int.le_of_lt hb) ho
  split
  · rename_i q
    have : o = 0 := by omega
    subst this
    simp
  · split <;> split <;> omega
theorem dis_rows {a : Air} (h : a.Ok) {t : List Int} (ht : t.length = a.ss.length) (hb : ∀ b ∈ t, 0 ≤ b ∧ b ≤ 9) {i : Nat} {r : Stn} (hr : r.Ok) (hi : 0 < t.getD i 0) :
    disI (othL a i r) (t.getD i 0) t = r.nd * FM (rowsL a t i r) (a.lk * prodI (sprs a.ss r)) := by
  unfold disI FM rowsL
  rw [oth_idx, zip_idx _ _ ht, sum_flat, sum_mul]
  congr 1
  refine List.map_congr_left fun x hx => ?_
  have hx2 := zipIdx_mem hx
  have hs := h.ss.all x.1 (List.mem_of_getElem? hx2)
  have sp := spr_pos hs hr
  have dv : spr x.1 r ∣ prodI (sprs a.ss r) := prodI_dvd (List.mem_map.mpr ⟨x.1, List.mem_of_getElem? hx2, rfl⟩)
  have bx := t_bound hb x.2
  have lk := h.lk.1
  unfold rowAt
  by_cases q : x.2 = i
  · have : ∀ g : Int, pick3 (0, 0, 0) g = 0 := fun g => by unfold pick3; simp
    simp [q, this]
  · simp only [q, if_false, ne_eq, not_false_eq_true, true_and]
    have g0 := gap_zero hi bx.1
    have g1 := gap_one hi bx.1
    have gc := gap_cases (t.getD i 0) (t.getD x.2 0)
    generalize t.getD i 0 = b at *
    generalize t.getD x.2 0 = o at *
    generalize gapI b o = g at *
    unfold pick3 shareI
    rcases gc with z | z | z
    · have ⟨z1, z2⟩ := g0.mp z
      rw [z2] at z1
      simp only [z, z2, z1, if_true, gt_iff_lt, List.map_cons, List.map_nil, List.sum_cons, List.sum_nil, Int.add_zero]
      rw [Int.mul_ediv_assoc _ dv]
      grind
    · have ⟨z1, z2⟩ := g1.mp z
      have z3 : ¬ b = o := by omega
      simp only [z, z1, z2, z3, if_true, if_false, gt_iff_lt, List.map_cons, List.map_nil, List.sum_cons, List.sum_nil, Int.add_zero]
      rw [Int.mul_comm (spr x.1 r), Int.mul_ediv_mul_of_pos _ _ (by omega)]
      simp [Int.mul_assoc]
    · have z0 : ¬ (0 < b * o ∧ b = o) := fun w => by have := g0.mpr w; omega
      have z1 : ¬ (0 < b * o ∧ (b - o = 1 ∨ b - o = -1)) := fun w => by have := g1.mpr w; omega
      have e0 : ¬ g = 0 := by omega
      have e1 : ¬ g = 1 := by omega
      simp only [e0, e1, if_false, gt_iff_lt]
      split
      · rename_i w
        have w1 : ¬ b = o := fun v => z0 ⟨w, v⟩
        have w2 : ¬ (b - o = 1 ∨ b - o = -1) := fun v => z1 ⟨w, v⟩
        simp [w1, w2]
      · simp
theorem row_mem {a : Air} (h : a.Ok) {t : List Int} {i : Nat} {r : Stn} (hr : r.Ok) {p : Rw} (hp : p ∈ rowsL a t i r) : RwOk p ∧ p.2.2 ∣ a.lk * prodI (sprs a.ss r) ∧ p.1 < a.ss.length := by
  unfold rowsL at hp
  obtain ⟨x, hx, hp⟩ := List.mem_flatMap.mp hp
  have hx2 := zipIdx_mem hx
  have hs := h.ss.all x.1 (List.mem_of_getElem? hx2)
  have sp := spr_pos hs hr
  have dv : spr x.1 r ∣ prodI (sprs a.ss r) := prodI_dvd (List.mem_map.mpr ⟨x.1, List.mem_of_getElem? hx2, rfl⟩)
  have lk := h.lk
  have pw := hs.pw
  have hl := (List.getElem?_eq_some_iff.mp hx2).1
  unfold rowAt at hp
  split at hp
  · split at hp
    · rw [List.mem_singleton] at hp; subst hp
      exact ⟨⟨pw, sp.1, by show spr x.1 r ≤ _; omega⟩, Int.dvd_mul_of_dvd_right dv, hl⟩
    · split at hp
      · rw [List.mem_singleton] at hp; subst hp
        refine ⟨⟨pw, ?_, ?_⟩, ?_, hl⟩
        · show 1 ≤ spr x.1 r * a.lk
          have := Int.mul_le_mul sp.1 lk.1 (by decide) (by omega)
          omega
        · show spr x.1 r * a.lk ≤ _
          have := Int.mul_le_mul sp.2 lk.2 (by omega) (by decide)
          omega
        · show spr x.1 r * a.lk ∣ _
          rw [Int.mul_comm]
          exact Int.mul_dvd_mul_left _ dv
      · cases hp
  · cases hp
theorem heard_rows {a : Air} (h : a.Ok) {t : List Int} (ht : t.length = a.ss.length) (hb : ∀ b ∈ t, 0 ≤ b ∧ b ≤ 9) {i : Nat} {r : Stn} (e : a.ss[i]? = some r) (hi : 0 < t.getD i 0) :
    heardB a t i r = decide (r.nd * sumI (rowsL a t i r) * spr r r ≤ r.pw * botI (rowsL a t i r)) := by
  have hr := h.ss.all r (List.mem_of_getElem? e)
  have sp := spr_pos hr hr
  have hp : ∀ p ∈ rowsL a t i r, RwOk p ∧ p.2.2 ∣ a.lk * prodI (sprs a.ss r) ∧ p.1 < a.ss.length := fun p => row_mem h hr
  have lk := h.lk
  have P1 : 1 ≤ prodI (sprs a.ss r) := prodI_pos fun x hx => ((sprs_ok h.ss hr).1 x hx).1
  have dv : spr r r ∣ prodI (sprs a.ss r) := prodI_dvd (List.mem_map.mpr ⟨r, List.mem_of_getElem? e, rfl⟩)
  have M1 : 0 < a.lk * prodI (sprs a.ss r) := Int.mul_pos (by omega) (by omega)
  have B1 : 1 ≤ botI (rowsL a t i r) := prodI_pos fun x hx => by
    obtain ⟨p, q, rfl⟩ := List.mem_map.mp hx
    exact (hp p q).1.b.1
  have c := cross (rows := rowsL a t i r) (nd := r.nd) (pw := r.pw) (S := spr r r) (by omega) M1 (by omega : 0 < botI (rowsL a t i r)) (Int.dvd_mul_of_dvd_right dv) (fun p q => (hp p q).2.1) (fun p q => bot_dvd q)
  unfold heardB
  rw [dis_rows h ht hb hr hi, sum_fm]
  have o : ownI a r = r.pw * (a.lk * prodI (sprs a.ss r) / spr r r) := by
    unfold ownI shareI
    rw [Int.mul_ediv_assoc _ dv]
    grind
  have nz : decide (t.getD i 0 ≠ 0) = true := decide_eq_true (fun z => by omega)
  rw [o, nz, Bool.true_and]
  exact decide_eq_decide.mpr c
end
end EL
set_option Elab.async false
set_option linter.all false
set_option maxRecDepth 100000
set_option maxHeartbeats 1000000
namespace EL
open PySem PySem.Spec PyProof.Rows L2 GxR LG FW
section
variable {st : Sto}
def sendB (t : List Int) (r : Stn) (x : Stn × Nat) : Bool := decide (t.getD x.2 0 ≠ 0) && decide (x.1.nm ≠ r.nm)
def sendL (a : Air) (t : List Int) (r : Stn) : List Str := (a.ss.zipIdx.filter (sendB t r)).map fun x => x.1.nm
theorem zip_ss {ss : List Stn} {t : List Int} (ht : t.length = ss.length) : List.zipWith (fun x y => D.tup [x, y]) (ss.map Stn.d) (t.map D.int) = ss.zipIdx.map fun x => D.tup [x.1.d, .int (t.getD x.2 0)] := by
  apply List.ext_getElem?
  intro j
  rw [List.getElem?_zipWith, List.getElem?_map, List.getElem?_map, List.getElem?_map, List.getElem?_zipIdx]
  by_cases hl : j < ss.length
  · have : j < t.length := by omega
    simp [hl, this]
  · have h1 : ss[j]? = none := by simp; omega
    simp [h1]
theorem ss_len {a : Air} (h : a.Ok) (f : Stn × Nat → Bool) : (a.ss.zipIdx.filter f).length ≤ 8 := by
  have h1 := List.length_filter_le f a.ss.zipIdx
  have h2 := h.ss.len.2
  rw [List.length_zipIdx] at h1
  omega
end
end EL
set_option Elab.async false
set_option linter.all false
set_option maxRecDepth 100000
set_option maxHeartbeats 1000000
namespace EL
open PySem PySem.Spec PyProof.Rows L2 GxR LG FW
section
variable {st : Sto}
def silT (a : Air) (t : List Int) (xs : List Str) : List Int := a.ss.zipIdx.map fun x => if x.1.nm ∈ xs then 0 else t.getD x.2 0
theorem sil_len {a : Air} {t : List Int} {xs : List Str} : (silT a t xs).length = a.ss.length := by simp [silT]
theorem sil_at {a : Air} {t : List Int} {xs : List Str} {j : Nat} {s : Stn} (e : a.ss[j]? = some s) : (silT a t xs).getD j 0 = if s.nm ∈ xs then 0 else t.getD j 0 := by
  unfold silT
  rw [List.getD_eq_getElem?_getD, List.getElem?_map, List.getElem?_zipIdx, e]
  simp
theorem sil_ok {a : Air} {t : List Int} {xs : List Str} (hb : ∀ b ∈ t, 0 ≤ b ∧ b ≤ 9) : ∀ b ∈ silT a t xs, 0 ≤ b ∧ b ≤ 9 := by
  intro b h
  obtain ⟨x, hx, rfl⟩ := List.mem_map.mp h
  split
  · omega
  · exact t_bound hb x.2
theorem okB_up : ∀ {n m : Nat} {d : D}, okB n d = true → n ≤ m → okB m d = true := by
  have key : ∀ n, (∀ {m : Nat} {d : D}, okB n d = true → n ≤ m → okB m d = true) ∧ (∀ {m : Nat} {ds : List D}, okBs n ds = true → n ≤ m → okBs m ds = true) := by
    intro n
    induction n with
    | zero =>
      have one : ∀ {m : Nat} {d : D}, okB 0 d = true → 0 ≤ m → okB m d = true := by
        intro m d h _
        cases d <;> first | (cases h; done) | (cases m <;> exact h)
      refine ⟨one, ?_⟩
      intro m ds
      induction ds with
      | nil => intro _ _; cases m <;> rfl
      | cons d ds ih =>
        intro h hm
        unfold okBs at h ⊢
        rw [Bool.and_eq_true] at h ⊢
        exact ⟨one h.1 hm, ih h.2 hm⟩
    | succ n ih =>
      have one : ∀ {m : Nat} {d : D}, okB (n + 1) d = true → n + 1 ≤ m → okB m d = true := by
        intro m d h hm
        obtain ⟨k, rfl⟩ : ∃ k, m = k + 1 := ⟨m - 1, by omega⟩
        cases d with
        | tup ds => unfold okB at h ⊢; exact ih.2 h (by omega)
        | lst ds => unfold okB at h ⊢; exact ih.2 h (by omega)
        | _ => first | exact h | cases h
      refine ⟨one, ?_⟩
      intro m ds
      induction ds with
      | nil => intro _ _; cases m <;> rfl
      | cons d ds ih2 =>
        intro h hm
        unfold okBs at h ⊢
        rw [Bool.and_eq_true] at h ⊢
        exact ⟨one h.1 hm, ih2 h.2 hm⟩
  intro n m d h hm
  exact (key n).1 h hm
theorem okBs_mem {n : Nat} : ∀ {ds : List D}, okBs n ds = true ↔ ∀ d ∈ ds, okB n d = true
  | [] => by unfold okBs; simp
  | d :: ds => by unfold okBs; rw [Bool.and_eq_true, okBs_mem]; simp
theorem val_data {n : Nat} {d : D} (h : okB n d = true) : byVal d st = d := by
  cases d with
  | ref l => cases n <;> cases h
  | _ => rfl
end
end EL
set_option Elab.async false
set_option linter.all false
set_option maxRecDepth 100000
set_option maxHeartbeats 1000000
namespace EL
open PySem PySem.Spec PyProof.Rows L2 GxR LG FW
section
variable {st : Sto}
theorem range_gen {fr : FA} {ρ : Rho} {j : Int} {st1 : Sto} (e : fr ρ st = some ([.int j], st1)) : iRange1 fr ρ st = if -(2 ^ 62) ≤ j ∧ j < 2 ^ 62 then some (rangeD 0 j.toNat, [], st1) else none := by
  unfold iRange1
  rw [e]
  rfl
theorem small_n {n : Nat} (hn : n ≤ 1000) : -(2 ^ 62 : Int) ≤ (n : Int) ∧ (n : Int) < 2 ^ 62 :=
  ⟨Int.le_trans (by decide) (Int.natCast_nonneg n), Int.lt_of_le_of_lt (by omega : (n : Int) ≤ 1000) (by decide)⟩
theorem range_ok {fr : FA} {ρ : Rho} {n : Nat} {st1 : Sto} (e : fr ρ st = some ([.int (n : Nat)], st1)) (hn : n ≤ 1000) : iRange1 fr ρ st = some (rangeD 0 n, [], st1) := by
  rw [range_gen e, if_pos (small_n hn), Int.toNat_natCast]
end
end EL
set_option Elab.async false
set_option linter.all false
set_option maxRecDepth 100000
set_option maxHeartbeats 1000000
namespace EL
open PySem PySem.Spec PyProof.Rows L2 GxR LG FW
section
variable {st : Sto}
theorem cut_from {ds : List D} {n : Nat} : cutD ds (some ((n : Nat) : Int)) none = ds.drop n := by
  unfold cutD
  have e1 : HT.sIx ds.length 0 (some ((n : Nat) : Int)) = min n ds.length := HT.sIx_nat _ _ n
  rw [e1]
  show List.take (ds.length - _) _ = _
  by_cases hn : n ≤ ds.length
  · rw [Nat.min_eq_left hn]
    exact List.take_of_length_le (by simp)
  · rw [Nat.min_eq_right (by omega)]
    rw [List.drop_of_length_le (by omega), List.drop_of_length_le (by omega)]
    simp
end
end EL
set_option Elab.async false
set_option linter.all false
set_option maxRecDepth 100000
set_option maxHeartbeats 1000000
namespace EL
open PySem PySem.Spec PyProof.Rows L2 GxR LG FW
section
variable {st : Sto}
theorem fn_ok {n : Nat} {hA : HA} {fr : FA} {ρ : Rho} {ds : List D} {d : D} {st1 st2 : Sto} (h1 : fr ρ st = some (ds, st1)) (h2 : ds.length = n) (h3 : hA ds st1 = some (d, st2)) : fFn n hA fr ρ st = some (d, st2) := by
  rw [e_fn, h1]
  simp only [Option.bind_some]
  rw [if_pos h2, h3]
theorem ret_ok {f : FE} {ρ : Rho} {d : D} {st1 : Sto} (h : f ρ st = some (d, st1)) : sRet f ρ st = some (.rt d, ρ, st1) := by rw [e_ret, h]; rfl
theorem run_ok {N : Nat} {sb : FS} {ds : List D} {ρ' : Rho} {d : D} {st1 : Sto} (h : sb (ds.map some ++ List.replicate (N - ds.length) none) st = some (.rt d, ρ', st1)) : runD N sb ds st = some (d, st1) := by
  rw [e_run, h]; rfl
end
end EL
set_option Elab.async false
set_option linter.all false
set_option maxRecDepth 100000
set_option maxHeartbeats 1000000
namespace EL
open PySem PySem.Spec PyProof.Rows L2 GxR LG FW
def SO (B : Nat) (x : Str) : Prop := x.length ≤ B ∧ ∀ c ∈ x.cps.toList, c < 128
/-- data of depth n, g times spoilt -/
def Dv (g : Nat) : Nat → D → Prop
  | _, .non => True
  | _, .bl _ => True
  | _, .int i => i.natAbs ≤ 10 ^ 30 + 2000 * g
  | _, .str x => SO (300 * 4 ^ g) x
  | n + 1, .tup ds => ds.length ≤ 20 + g ∧ ∀ d ∈ ds, Dv g n d
  | n + 1, .lst ds => ds.length ≤ 20 + g ∧ ∀ d ∈ ds, Dv g n d
  | _, _ => False
section
variable {g g' n m : Nat} {d : D} {lb : Nat} {st : Sto}
theorem SO.up {A B : Nat} {x : Str} (h : SO A x) (hab : A ≤ B) : SO B x := ⟨Nat.le_trans h.1 hab, h.2⟩
theorem Dv.up (h : Dv g n d) (hg : g ≤ g') (hn : n ≤ m) : Dv g' m d := by
  induction n generalizing m d with
  | zero =>
    cases d with
    | int i => cases m <;> (simp only [Dv] at h ⊢; omega)
    | str x => cases m <;> (simp only [Dv] at h ⊢; exact h.up (Nat.mul_le_mul_left _ (Nat.pow_le_pow_right (by decide) hg)))
    | non => cases m <;> simp [Dv]
    | bl b => cases m <;> simp [Dv]
    | _ => simp [Dv] at h
  | succ n ih =>
    obtain ⟨k, rfl⟩ : ∃ k, m = k + 1 := ⟨m - 1, by omega⟩
    cases d with
    | int i => simp only [Dv] at h ⊢; omega
    | str x => simp only [Dv] at h ⊢; exact h.up (Nat.mul_le_mul_left _ (Nat.pow_le_pow_right (by decide) hg))
    | non => simp [Dv]
    | bl b => simp [Dv]
    | tup ds => simp only [Dv] at h ⊢; exact ⟨by omega, fun x hx => ih (h.2 x hx) (by omega)⟩
    | lst ds => simp only [Dv] at h ⊢; exact ⟨by omega, fun x hx => ih (h.2 x hx) (by omega)⟩
    | _ => simp [Dv] at h
theorem Dv.pure (h : Dv g n d) : pureB d = true := by
  induction n generalizing d with
  | zero => cases d <;> first | rfl | (simp [Dv] at h)
  | succ n ih =>
    have all : ∀ ds : List D, (∀ x ∈ ds, Dv g n x) → pureL ds = true := by
      intro ds
      induction ds with
      | nil => intro _; rfl
      | cons x ds ih2 =>
        intro hx
        unfold pureL
        rw [ih (hx x List.mem_cons_self), ih2 fun y hy => hx y (List.mem_cons_of_mem _ hy)]
        rfl
    cases d with
    | tup ds => simp only [Dv] at h; unfold pureB; exact all ds h.2
    | lst ds => simp only [Dv] at h; unfold pureB; exact all ds h.2
    | _ => first | rfl | (simp [Dv] at h)
def bS (x : Str) : Bool := decide (x.length ≤ 300) && x.cps.toList.all (fun c => decide (c < 128))
def dvB : Nat → D → Bool
  | _, .non => true
  | _, .bl _ => true
  | _, .int i => decide (i.natAbs ≤ 10 ^ 30)
  | _, .str x => bS x
  | n + 1, .tup ds => decide (ds.length ≤ 20) && ds.all (dvB n)
  | n + 1, .lst ds => decide (ds.length ≤ 20) && ds.all (dvB n)
  | _, _ => false
theorem SO.of {x : Str} (h : bS x = true) : SO 300 x := by
  unfold bS at h
  simp only [Bool.and_eq_true, decide_eq_true_eq, List.all_eq_true] at h
  exact h
theorem Dv.by : ∀ {n : Nat} {d : D}, dvB n d = true → Dv 0 n d := by
  intro n
  induction n with
  | zero =>
    intro d h
    cases d with
    | int i => simp only [dvB, decide_eq_true_eq] at h; simp only [Dv]; omega
    | str x => simp only [dvB] at h; simp only [Dv]; exact (SO.of h).up (by omega)
    | non => simp [Dv]
    | bl b => simp [Dv]
    | _ => simp [dvB] at h
  | succ n ih =>
    intro d h
    cases d with
    | int i => simp only [dvB, decide_eq_true_eq] at h; simp only [Dv]; omega
    | str x => simp only [dvB] at h; simp only [Dv]; exact (SO.of h).up (by omega)
    | non => simp [Dv]
    | bl b => simp [Dv]
    | tup ds => simp only [dvB, Bool.and_eq_true, decide_eq_true_eq, List.all_eq_true] at h; simp only [Dv]; exact ⟨by omega, fun x hx => ih (h.2 x hx)⟩
    | lst ds => simp only [dvB, Bool.and_eq_true, decide_eq_true_eq, List.all_eq_true] at h; simp only [Dv]; exact ⟨by omega, fun x hx => ih (h.2 x hx)⟩
    | _ => simp [dvB] at h
end
end EL
set_option Elab.async false
set_option linter.all false
set_option maxRecDepth 100000
set_option maxHeartbeats 1000000
namespace EL
open PySem PySem.Spec PyProof.Rows L2 GxR LG FW
section
variable {lb : Nat} {st s : Sto} {P : D → Prop} {d : D} {g n : Nat}
/-- what a def may give back: data, or the list that it has made first -/
def Gv (lb : Nat) (st : Sto) (P : D → Prop) (x : D) (s : Sto) : Prop :=
  (∃ s2 more, s = s2 ++ more ∧ Go lb st s2) ∧ ((pureB x = true ∧ P x) ∨ ∃ es, x = .ref st.length ∧ s[st.length]? = some (.lst es) ∧ pureL es = true ∧ P (.lst es))
/-- the rows as they stand in the variable -/
def Rv (lb : Nat) (st : Sto) (x : D) (es : List D) (s : Sto) : Prop := (x = .ref st.length ∧ Acc lb st es s) ∨ (x = .lst es ∧ ∃ s2 more, s = s2 ++ more ∧ Go lb st s2)
theorem Rv.pre {x : D} {es : List D} (h : Rv lb st x es s) : ∃ s2 more, s = s2 ++ more ∧ Go lb st s2 := by
  rcases h with ⟨_, s0, g0, rfl⟩ | ⟨_, h⟩
  · exact ⟨s0, _, rfl, g0⟩
  · exact h
theorem Rv.listOf {x : D} {es : List D} (h : Rv lb st x es s) : listOf x s = some es := by
  rcases h with ⟨rfl, a⟩ | ⟨rfl, h⟩
  · exact e_listOfR a.at
  · rfl
theorem Rv.tuple {x : D} {es : List D} (h : Rv lb st x es s) : tupleD [x] s = some (.tup es, s) := by
  have q := h.listOf
  rcases h with ⟨rfl, a⟩ | ⟨rfl, h⟩
  · unfold tupleD; simp only [q, Option.map_some]
  · rfl
theorem Dv.tupL {es : List D} (h1 : es.length ≤ 20 + g) (h2 : ∀ e ∈ es, Dv g n e) : Dv g (n + 1) (.tup es) ∧ Dv g (n + 1) (.lst es) := by
  simp only [Dv]; exact ⟨⟨h1, h2⟩, h1, h2⟩
theorem Dv.pureL {es : List D} (h2 : ∀ e ∈ es, Dv g n e) : EL.pureL es = true := by
  induction es with
  | nil => rfl
  | cons x es ih =>
    unfold EL.pureL
    rw [(h2 x List.mem_cons_self).pure, ih fun y hy => h2 y (List.mem_cons_of_mem _ hy)]
    rfl
theorem Rv.gv {x : D} {es : List D} (h : Rv lb st x es s) (h1 : es.length ≤ 20 + g) (h2 : ∀ e ∈ es, Dv g n e) : Gv lb st (Dv g (n + 1)) x s := by
  refine ⟨h.pre, ?_⟩
  have q := Dv.tupL h1 h2
  rcases h with ⟨rfl, a⟩ | ⟨rfl, h⟩
  · exact .inr ⟨es, rfl, a.at, Dv.pureL h2, q.2⟩
  · exact .inl ⟨q.2.pure, q.2⟩
end
end EL
set_option Elab.async false
set_option linter.all false
set_option maxRecDepth 100000
set_option maxHeartbeats 1000000
namespace EL
open PySem PySem.Spec PyProof.Rows L2 GxR LG FW
noncomputable def chainS (rec : HA) : FS := (sIf (fTst (fOp eqD (fV 2) (fC (.int 1)))) (sSet 3 (fOp addD (fSl (fV 3) oNone (oSome (fV 4))) (fSl (fV 3) (oSome (fOp addD (fV 4) (fC (.int 1)))) oNone))) (sIf (fTst (fOp eqD (fV 2) (fC (.int 2)))) (sSet 3 (fOp addD (fSl (fV 3) oNone (oSome (fOp addD (fV 4) (fC (.int 1))))) (fSl (fV 3) (oSome (fV 4)) oNone))) (sIf (fTst (fOp eqD (fV 2) (fC (.int 3)))) (sSeq (sSet 5 (fFn 2 fn__law_take (fCons (fV 0) (fCons (fCall lenD (fCons (fV 3) fNil)) fNil)))) (sPut2 (fCons (fOp ixD (fV 3) (fV 5)) (fCons (fOp ixD (fV 3) (fV 4)) fNil)) (fV 3) (fV 4) (fV 3) (fV 5))) (sIf (fTst (fOp eqD (fV 2) (fC (.int 4)))) (sRet (fIf (fTst (fCall isiD (fCons (fV 1) (fCons (fC (.ty "tuple")) fNil)))) (fV 3) (fCall tupleD (fCons (fV 3) fNil)))) (sPut (fFn 2 rec (fCons (fV 0) (fCons (fOp ixD (fV 3) (fV 4)) fNil))) (fV 3) (fV 4))))))
noncomputable def bodyA (rec : HA) : FS := (sSeq (sSet 3 (fCall listD (fCons (fV 1) fNil))) (sSeq (sSet 4 (fFn 2 fn__law_take (fCons (fV 0) (fCons (fCall lenD (fCons (fV 3) fNil)) fNil)))) (sSeq (chainS rec) (sRet (fIf (fTst (fCall isiD (fCons (fV 1) (fCons (fC (.ty "tuple")) fNil)))) (fCall tupleD (fCons (fV 3) fNil)) (fV 3))))))
section
variable {lb : Nat} {st s : Sto} {d : D} {g n : Nat} {rec : HA}
theorem cut_mem {es : List D} {a b : Option Int} {e : D} (h : e ∈ cutD es a b) : e ∈ es := List.mem_of_mem_drop (List.mem_of_mem_take h)
theorem cut_hiL {es : List D} {v : Int} (h : 0 ≤ v) : (cutD es none (some v)).length ≤ min v.toNat es.length := by
  unfold cutD
  have e : HT.sIx es.length es.length (some v) = min v.toNat es.length := by
    show (if v < 0 then _ else min v.toNat es.length) = _
    rw [if_neg (by omega)]
  rw [e, HT.sIx_none]
  simp
theorem cut_lo {es : List D} {v : Int} (h : 0 ≤ v) : (cutD es (some v) none).length ≤ es.length - min v.toNat es.length := by
  unfold cutD
  have e : HT.sIx es.length 0 (some v) = min v.toNat es.length := by
    show (if v < 0 then _ else min v.toNat es.length) = _
    rw [if_neg (by omega)]
  rw [e, HT.sIx_none]
  simp
theorem ixN_lt {k : Nat} {i : Int} (h0 : 0 ≤ i) (h1 : i < k) : ixN k i = some i.toNat := by
  unfold ixN
  have e1 : ¬ i < 0 := by omega
  simp [e1, h0, h1]
theorem eqI (i j : Int) : eqD (.int i) (.int j) st = some (.bl (decide (i = j)), st) := e_eqI
/-- two pieces put together -/
theorem cat_eq {es : List D} {l : Nat} {a b : Option Int} (h : s[l]? = some (.lst es)) (hz : (cutD es none a).length + (cutD es b none).length ≤ 1000) :
    (sliceD (.ref l) none a s).bind (fun p => (sliceD (.ref l) b none p.2).bind fun q => addD p.1 q.1 q.2) = some (.lst (cutD es none a ++ cutD es b none), s) := by
  have e : ∀ x y : Option Int, sliceD (.ref l) x y s = some (.lst (cutD es x y), s) := fun x y => by
    unfold sliceD
    simp only [e_listOfR h, Option.map_some]
  simp only [e, Option.bind_some, e_addZ]
  rw [if_pos (by rw [sizeLine_eq]; omega)]
/-- behind the chain: the rows stand, or all is done -/
def Cn (lb : Nat) (g m : Nat) (st : Sto) (d : D) (k a : Int) (p : Fl × Rho × Sto) : Prop :=
  (p.1 = .nx ∧ ∃ x es y, p.2.1 = [some (.ref lb), some d, some (.int k), some x, some (.int a), y] ∧ Rv lb st x es p.2.2 ∧ es.length ≤ 20 + (g + 1) ∧ ∀ e ∈ es, Dv (g + 1) m e) ∨ ∃ x, p.1 = .rt x ∧ Gv lb st (Dv (g + 1) (m + 1)) x p.2.2
theorem chain_ok {k a : Int} {es : List D} (b : Bg lb st) (A : Acc lb st es s) (few : es.length ≤ 20 + g) (hg : g ≤ 7) (h5 : ∀ e ∈ es, Dv g n e) (ty : d = .tup es ∨ d = .lst es)
    (a0 : 0 ≤ a) (a1 : a < es.length) (hrec : ∀ (s : Sto) (e : D), Bg lb s → Dv g n e → Ok (rec [.ref lb, e] s) fun p => Dv (g + 1) (n + 4) p.1 ∧ Go lb s p.2) :
    Ok (chainS rec [some (.ref lb), some d, some (.int k), some (.ref st.length), some (.int a), none] s) (Cn lb g (n + 4) st d k a) := by
  have bs : Bg lb s := A.bg b
  have at0 := A.at
  have up5 : ∀ e ∈ es, Dv (g + 1) (n + 4) e := fun e he => (h5 e he).up (by omega) (by omega)
  have cat : ∀ u v : Int, 0 ≤ u → 0 ≤ v → min u.toNat es.length + (es.length - min v.toNat es.length) ≤ 21 + g → Cn lb g (n + 4) st d k a (.nx, [some (.ref lb), some d, some (.int k), some (.lst (cutD es none (some u) ++ cutD es (some v) none)), some (.int a), none], s) := fun u v hu hv hz => by
    have c1 := cut_hiL (es := es) hu
    have c2 := cut_lo (es := es) hv
    refine .inl ⟨rfl, _, _, _, rfl, .inr ⟨rfl, ?_⟩, by simp only [List.length_append]; omega, fun e he => ?_⟩
    · obtain ⟨s0, g0, rfl⟩ := A
      exact ⟨s0, _, rfl, g0⟩
    · rcases List.mem_append.mp he with z | z
      · exact up5 e (cut_mem z)
      · exact up5 e (cut_mem z)
  unfold chainS
  by_cases e1 : k = 1
  · subst e1
    refine ⟨_, ?_, cat a (a + 1) a0 (by omega) (by omega)⟩
    have c1 := cut_hiL (es := es) a0
    have c2 := cut_lo (es := es) (v := a + 1) (by omega)
    have ce := cat_eq (a := some a) (b := some (a + 1)) at0 (by omega)
    simp only [e_if, e_tst, e_set, e_op, e_sl, e_oN, e_oS, e_V, e_C, List.getElem?_cons_zero, List.getElem?_cons_succ, Option.bind_some, eqI, e_asB, decide_true, if_true, e_addI, ce]
    rfl
  by_cases e2 : k = 2
  · subst e2
    refine ⟨_, ?_, cat (a + 1) a (by omega) a0 (by omega)⟩
    have c1 := cut_hiL (es := es) (v := a + 1) (by omega)
    have c2 := cut_lo (es := es) a0
    have ce := cat_eq (a := some (a + 1)) (b := some a) at0 (by omega)
    have z1 : ¬ (2 : Int) = 1 := by decide
    simp only [e_if, e_tst, e_set, e_op, e_sl, e_oN, e_oS, e_V, e_C, List.getElem?_cons_zero, List.getElem?_cons_succ, Option.bind_some, eqI, e_asB, z1, decide_false, decide_true, Bool.false_eq_true, if_false, if_true, e_addI, ce]
    rfl
  by_cases e3 : k = 3
  · subst e3
    obtain ⟨⟨x6, s6⟩, q6, ⟨i, rfl, i1, i2⟩, g6⟩ := take_spec (m := (es.length : Int)) (by omega) (by omega) bs
    have A6 := A.go b g6
    have r6 := A6.at
    obtain ⟨x, c1, c2, _⟩ := atI_lt (l := es) i1 (by omega)
    obtain ⟨y, d1, d2, _⟩ := atI_lt (l := es) a0 (by omega)
    have n1 : ixN es.length a = some a.toNat := ixN_lt a0 a1
    have w1 : (s6.set st.length (O.lst (es.set a.toNat x)))[st.length]? = some (.lst (es.set a.toNat x)) := by rw [List.getElem?_set_self (at_lt r6)]
    have n2 : ixN (es.set a.toNat x).length i = some i.toNat := by rw [List.length_set]; exact ixN_lt i1 (by omega)
    refine ⟨(.nx, [some (.ref lb), some d, some (.int 3), some (.ref st.length), some (.int a), some (.int i)], (s6.set st.length (.lst (es.set a.toNat x))).set st.length (.lst ((es.set a.toNat x).set i.toNat y))), ?_, .inl ⟨rfl, _, (es.set a.toNat x).set i.toNat y, _, rfl, .inl ⟨rfl, ?_⟩, ?_, fun e he => ?_⟩⟩
    · have lz : lenD [.ref st.length] s = some (.int es.length, s) := by unfold lenD; simp only [e_listOfR at0]; rfl
      have z1 : ¬ (3 : Int) = 1 := by decide
      have z2 : ¬ (3 : Int) = 2 := by decide
      have tk : fFn 2 fn__law_take (fCons (fV 0) (fCons (fCall lenD (fCons (fV 3) fNil)) fNil)) [some (.ref lb), some d, some (.int 3), some (.ref st.length), some (.int a), none] s = some (.int i, s6) := fn_ok (ds := [.ref lb, .int es.length]) (st1 := s) (by simp only [e_cons, e_call, e_V, e_nil, List.getElem?_cons_zero, List.getElem?_cons_succ, Option.bind_some, lz]) rfl q6
      simp only [e_if, e_tst, e_op, e_V, e_C, List.getElem?_cons_zero, List.getElem?_cons_succ, Option.bind_some, eqI, e_asB, z1, z2, decide_false, decide_true, Bool.false_eq_true, if_false, if_true]
      rw [seq_nx (set_ok tk)]
      unfold sPut2
      simp only [List.set_cons_succ, List.set_cons_zero, e_cons, e_nil, e_op, e_V, List.getElem?_cons_zero, List.getElem?_cons_succ, Option.bind_some, e_ixL r6, c1, d1, e_putL r6, n1, e_putL w1, n2, Option.map_some]
    · obtain ⟨s0, g0, rfl⟩ := A6
      refine ⟨s0, g0, ?_⟩
      rw [List.set_set, ← g0.len, List.set_append_right _ _ (Nat.le_refl _)]
      simp
    · simp only [List.length_set]; omega
    · rcases List.mem_or_eq_of_mem_set he with z | z
      · rcases List.mem_or_eq_of_mem_set z with z | z
        · exact up5 e z
        · exact up5 e (z ▸ c2)
      · exact up5 e (z ▸ d2)
  by_cases e4 : k = 4
  · subst e4
    have z1 : ¬ (4 : Int) = 1 := by decide
    have z2 : ¬ (4 : Int) = 2 := by decide
    have z3 : ¬ (4 : Int) = 3 := by decide
    have R : Rv lb st (.ref st.length) es s := .inl ⟨rfl, A⟩
    have q := Dv.tupL (g := g + 1) (n := n + 4) (es := es) (by omega) up5
    rcases ty with rfl | rfl
    · refine ⟨(.rt (.ref st.length), [some (.ref lb), some (.tup es), some (.int 4), some (.ref st.length), some (.int a), none], s), ?_, .inr ⟨_, rfl, R.gv (by omega) up5⟩⟩
      simp only [e_if, e_tst, e_op, e_V, e_C, List.getElem?_cons_zero, List.getElem?_cons_succ, Option.bind_some, eqI, e_asB, z1, z2, z3, decide_false, decide_true, Bool.false_eq_true, if_false, if_true, e_ret, e_ifx, e_call, e_cons, e_nil]
      rfl
    · refine ⟨(.rt (.tup es), [some (.ref lb), some (.lst es), some (.int 4), some (.ref st.length), some (.int a), none], s), ?_, .inr ⟨_, rfl, R.pre, .inl ⟨q.1.pure, q.1⟩⟩⟩
      have isi : isiD [.lst es, .ty "tuple"] s = some (.bl false, s) := rfl
      simp only [e_if, e_tst, e_op, e_V, e_C, List.getElem?_cons_zero, List.getElem?_cons_succ, Option.bind_some, eqI, e_asB, z1, z2, z3, decide_false, decide_true, Bool.false_eq_true, if_false, if_true, e_ret, e_ifx, e_call, e_cons, e_nil, isi, R.tuple]
  · obtain ⟨y, d1, d2, _⟩ := atI_lt (l := es) a0 (by omega)
    obtain ⟨⟨x6, s6⟩, q6, dx, g6⟩ := hrec s y bs (h5 y d2)
    have A6 := A.go b g6
    have r6 := A6.at
    have n1 : ixN es.length a = some a.toNat := ixN_lt a0 a1
    refine ⟨(.nx, [some (.ref lb), some d, some (.int k), some (.ref st.length), some (.int a), none], s6.set st.length (.lst (es.set a.toNat x6))), ?_, .inl ⟨rfl, _, es.set a.toNat x6, _, rfl, .inl ⟨rfl, ?_⟩, ?_, fun e he => ?_⟩⟩
    · have tk : fFn 2 rec (fCons (fV 0) (fCons (fOp ixD (fV 3) (fV 4)) fNil)) [some (.ref lb), some d, some (.int k), some (.ref st.length), some (.int a), none] s = some (x6, s6) := fn_ok (ds := [.ref lb, y]) (st1 := s) (by simp only [e_cons, e_op, e_V, e_nil, List.getElem?_cons_zero, List.getElem?_cons_succ, Option.bind_some, e_ixL at0, d1]) rfl q6
      simp only [e_if, e_tst, e_op, e_V, e_C, List.getElem?_cons_zero, List.getElem?_cons_succ, Option.bind_some, eqI, e_asB, e1, e2, e3, e4, decide_false, Bool.false_eq_true, if_false, e_put, tk, e_putL r6, n1]
    · obtain ⟨s0, g0, rfl⟩ := A6
      refine ⟨s0, g0, ?_⟩
      rw [← g0.len, List.set_append_right _ _ (Nat.le_refl _)]
      simp
    · simp only [List.length_set]; omega
    · rcases List.mem_or_eq_of_mem_set he with z | z
      · exact up5 e z
      · exact z ▸ dx
end
end EL
set_option Elab.async false
set_option linter.all false
set_option maxRecDepth 100000
set_option maxHeartbeats 1000000
namespace EL
open PySem PySem.Spec PyProof.Rows L2 GxR LG FW
section
variable {lb : Nat} {st s : Sto} {d : D} {g n : Nat} {rec : HA}
theorem SO.app {A B : Nat} {x y : Str} (h1 : SO A x) (h2 : SO B y) : SO (A + B) (x ++ y) := ⟨by rw [Str.length_append]; exact Nat.add_le_add h1.1 h2.1, fun c hc => by
  rw [Str.cps_append, Array.toList_append] at hc
  rcases List.mem_append.mp hc with z | z
  · exact h1.2 c z
  · exact h2.2 c z⟩
theorem SO.cut {B : Nat} {x : Str} {lo hi : Option Int} (h : SO B x) : SO B (cutS x lo hi) := by
  refine ⟨Nat.le_trans ?_ h.1, fun c hc => h.2 c (List.mem_of_mem_drop (List.mem_of_mem_take (by simpa [cutS] using hc)))⟩
  show (cutS x lo hi).cps.size ≤ x.cps.size
  unfold cutS
  simp
  omega
theorem upper_ascii : ∀ c, c < 128 → ∀ e ∈ Unicode.upperOf c, e < 128 := by
  have : (List.range 128).all (fun c => (Unicode.upperOf c).all fun e => decide (e < 128)) = true := by decide +kernel
  intro c hc e he
  have h := List.all_eq_true.mp this c (List.mem_range.mpr hc)
  exact of_decide_eq_true (List.all_eq_true.mp h e he)
theorem SO.upper {B : Nat} {x : Str} (h : SO B x) : SO (3 * B) (Txt.upper x) := by
  refine ⟨Nat.le_trans (len_upper x) (Nat.mul_le_mul_left _ h.1), fun c hc => ?_⟩
  have hc : c ∈ (x.cps.mapIdx fun _ c => (Unicode.upperOf c).toArray).flatten.toList := hc
  rw [Array.mem_toList_iff, Array.mem_flatten] at hc
  obtain ⟨a, ha, hc⟩ := hc
  obtain ⟨i, hi, e⟩ := Array.mem_mapIdx.mp ha
  subst e
  exact upper_ascii x.cps[i] (h.2 _ (by simp)) c (by simpa using hc)
end
end EL
set_option Elab.async false
set_option linter.all false
set_option maxRecDepth 100000
set_option maxHeartbeats 1000000
namespace EL
open PySem PySem.Spec PyProof.Rows L2 GxR LG FW
section
variable {lb : Nat} {st s : Sto} {d : D} {g n : Nat} {rec : HA}
/-- the parts of a tuple or a list -/
def partsOf : D → Option (List D)
  | .tup ds => some ds
  | .lst ds => some ds
  | _ => none
theorem parts_seq {es : List D} (h : partsOf d = some es) : seqD d s = some es ∧ lenD [d] s = some (.int es.length, s) ∧ (d = .tup es ∨ d = .lst es) := by
  cases d with
  | tup ds => cases h; exact ⟨rfl, rfl, .inl rfl⟩
  | lst ds => cases h; exact ⟨rfl, rfl, .inr rfl⟩
  | _ => cases h
end
end EL
set_option Elab.async false
set_option linter.all false
set_option maxRecDepth 100000
set_option maxHeartbeats 1000000
namespace EL
open PySem PySem.Spec PyProof.Rows L2 GxR LG FW
section
variable {lb : Nat} {st s : Sto} {d : D} {g n : Nat} {rec : HA}
theorem len_at {l : Nat} {es : List D} (h : s[l]? = some (.lst es)) : lenD [.ref l] s = some (.int es.length, s) := by
  unfold lenD; simp only [e_listOfR h]; rfl
theorem tk_ok {f : HA} {ρ : List (Option D)} {x y z : D} {d2 : D} {s2 : Sto} (h0 : ρ[0]? = some (some x)) (h3 : ρ[3]? = some (some y)) (hl : lenD [y] s = some (z, s)) (h : f [x, z] s = some (d2, s2)) :
    fFn 2 f (fCons (fV 0) (fCons (fCall lenD (fCons (fV 3) fNil)) fNil)) ρ s = some (d2, s2) := by
  refine fn_ok (ds := [x, z]) (st1 := s) ?_ rfl h
  simp only [e_cons, e_call, e_V, e_nil, h0, h3, Option.bind_some, hl]
theorem bodyA_ok {k : Int} {es : List D} (b : Bg lb st) (q : Go lb st s) (hp : partsOf d = some es) (few : es.length ≤ 20 + g) (pos : 0 < es.length) (hg : g ≤ 7) (h5 : ∀ e ∈ es, Dv g n e)
    (hrec : ∀ (s : Sto) (e : D), Bg lb s → Dv g n e → Ok (rec [.ref lb, e] s) fun p => Dv (g + 1) (n + 4) p.1 ∧ Go lb s p.2) :
    Ok (bodyA rec [some (.ref lb), some d, some (.int k), none, none, none] s) fun p => ∃ x, p.1 = .rt x ∧ Gv lb st (Dv (g + 1) (n + 4 + 1)) x p.2.2 := by
  obtain ⟨p1, p2, p3⟩ := parts_seq (s := s) hp
  have A : Acc lb st es (s ++ [.lst es]) := ⟨s, q, rfl⟩
  have ls : s.length = st.length := q.len
  unfold bodyA
  rw [seq_nx (ρ1 := [some (.ref lb), some d, some (.int k), some (.ref st.length), none, none]) (st1 := s ++ [.lst es]) (by
    refine set_ok (d := .ref st.length) ?_
    simp only [e_call, e_cons, e_V, e_nil, List.getElem?_cons_zero, List.getElem?_cons_succ, Option.bind_some, listD, p1, Option.map_some, ls])]
  obtain ⟨s1, hs1⟩ : ∃ s1, s1 = s ++ [.lst es] := ⟨_, rfl⟩
  rw [← hs1] at A ⊢
  clear hs1
  obtain ⟨⟨x6, s6⟩, q6, ⟨i, rfl, i1, i2⟩, g6⟩ := take_spec (m := (es.length : Int)) (by omega) (by omega) (A.bg b)
  have A6 := A.go b g6
  have tk := tk_ok (ρ := [some (.ref lb), some d, some (.int k), some (.ref st.length), none, none]) rfl rfl (len_at A.at) q6
  rw [seq_nx (ρ1 := [some (.ref lb), some d, some (.int k), some (.ref st.length), some (.int i), none]) (st1 := s6) (set_ok tk)]
  obtain ⟨⟨f, ρ2, s2⟩, ec, c⟩ := chain_ok (rec := rec) (k := k) b A6 few hg h5 p3 i1 (by omega) hrec
  rcases c with ⟨rfl, x, es2, y, rfl, R, l2, d2⟩ | ⟨x, rfl, gv⟩
  · rw [seq_nx ec]
    rcases p3 with rfl | rfl
    · have t := Dv.tupL l2 d2
      refine ⟨(.rt (.tup es2), [some (.ref lb), some (.tup es), some (.int k), some x, some (.int i), y], s2), ret_ok ?_, .tup es2, rfl, R.pre, .inl ⟨t.1.pure, t.1⟩⟩
      have isi : isiD [.tup es, .ty "tuple"] s2 = some (.bl true, s2) := rfl
      simp only [e_ifx, e_tst, e_call, e_cons, e_V, e_C, e_nil, List.getElem?_cons_zero, List.getElem?_cons_succ, Option.bind_some, isi, e_asB, if_true, R.tuple]
    · refine ⟨(.rt x, [some (.ref lb), some (.lst es), some (.int k), some x, some (.int i), y], s2), ret_ok ?_, x, rfl, R.gv l2 d2⟩
      have isi : isiD [.lst es, .ty "tuple"] s2 = some (.bl false, s2) := rfl
      simp only [e_ifx, e_tst, e_call, e_cons, e_V, e_C, e_nil, List.getElem?_cons_zero, List.getElem?_cons_succ, Option.bind_some, isi, e_asB, Bool.false_eq_true, if_false]
  · refine ⟨(.rt x, ρ2, s2), ?_, x, rfl, gv⟩
    rw [e_seq, ec]
    rfl
theorem Dv.isT {ρ : Rho} (h : Dv g n d) (hr : ρ[1]? = some (some d)) : fTst (fIsiT ["tuple", "list"] (fV 1)) ρ s = some ((partsOf d).isSome, s) := by
  have t : (tyN d s).bind (fun t => kits t ["tuple", "list"]) = some (partsOf d).isSome := by
    cases d with
    | non => rfl
    | bl b => rfl
    | int i => rfl
    | str x => rfl
    | tup ds => rfl
    | lst ds => rfl
    | _ => cases n <;> simp [Dv] at h
  obtain ⟨u, t1, t2⟩ := Option.bind_eq_some_iff.mp t
  simp only [e_tst, e_isiT, e_V, hr, Option.bind_some, t1, t2, e_asB]
end
end EL
set_option Elab.async false
set_option linter.all false
set_option maxRecDepth 100000
set_option maxHeartbeats 1000000
namespace EL
open PySem PySem.Spec PyProof.Rows L2 GxR LG FW
section
variable {lb : Nat} {st s : Sto} {d : D} {g n : Nat}
theorem SO.ok {B : Nat} {x : Str} (h : SO B x) : PyData.strOk x = true := by
  simp only [PyData.strOk, Array.all_eq_true, decide_eq_true_eq]
  intro i hi
  have := h.2 x.cps[i] (by simp)
  exact Nat.lt_trans this (by decide)
theorem okBs_of {m : Nat} : ∀ {ds : List D}, (∀ d ∈ ds, okB m d = true) → okBs m ds = true
  | [], _ => by unfold okBs; rfl
  | d :: ds, h => by
    unfold okBs
    rw [h d List.mem_cons_self, okBs_of fun x hx => h x (List.mem_cons_of_mem _ hx)]
    rfl
theorem Dv.ok (h : Dv g n d) : okB n d = true := by
  induction n generalizing d with
  | zero =>
    cases d with
    | str x => simp only [Dv] at h; unfold okB; exact h.ok
    | _ => first | (unfold okB; rfl) | (simp [Dv] at h)
  | succ n ih =>
    cases d with
    | str x => simp only [Dv] at h; unfold okB; exact h.ok
    | tup ds => simp only [Dv] at h; unfold okB; exact okBs_of fun x hx => ih (h.2 x hx)
    | lst ds => simp only [Dv] at h; unfold okB; exact okBs_of fun x hx => ih (h.2 x hx)
    | _ => first | (unfold okB; rfl) | (simp [Dv] at h)
theorem log2_mid {i : Int} (h0 : 0 ≤ i) (h1 : i < 1000000000000000000) : i.natAbs.log2 < 64 := by
  by_cases hz : i.natAbs = 0
  · rw [hz]; decide
  · exact (Nat.log2_lt hz).mpr (by omega)
theorem bag_new {x y : Int} (hx : 0 ≤ x) (hy : 0 ≤ y) (hz : y < 2147483648) : Bg st.length (st ++ [.lst [.int x, .int y]]) := ⟨x, y, at_new, hx, hy, hz⟩
theorem bag_spec {k : Int} {ns : List Int} (k0 : 0 ≤ k) (k1 : k ≤ 63) : Ok (fn__law_bag [.scr ns, .int k] st) fun p => p.1 = .ref st.length ∧ ∃ o, p.2 = st ++ [o] ∧ Bg st.length p.2 := by
  unfold fn__law_bag sb__law_bag
  have tl : ∀ {c : Int}, 0 ≤ c → Ok (sSeq (sIf (fTst (fOp ltD (fV 2) (fOp powD (fC (.int 10)) (fC (.int 18))))) (sRet (fLst (fCons (fC (.int 0)) (fCons (fOp addD (fC (.int 1)) (fOp modD (fOp addD (fOp mulD (fV 2) (fC (.int 7919))) (fOp mulD (fC (.int 104729)) (fV 1))) (fC (.int 2147483646)))) fNil)))) sNext)
    (sRet (fLst (fCons (fV 2) (fCons (fOp addD (fC (.int 1)) (fOp modD (fOp addD (fV 2) (fV 1)) (fC (.int 2147483646)))) fNil)))) [some (.scr ns), some (.int k), some (.int c)] st) fun p => ∃ x, p.1 = .rt x ∧ (x = .ref st.length ∧ ∃ o, p.2.2 = st ++ [o] ∧ Bg st.length p.2.2) := fun {c} hc => by
    have l2 : (2 : Nat) ≤ sizeLine := by rw [sizeLine_eq]; decide
    by_cases hs : c < 1000000000000000000
    · have q := log2_mid hc hs
      have w1 : Nat.log2 7919 < 64 := by decide
      have w2 : Nat.log2 104729 < 64 := by decide
      have w3 := log2_small (i := k) k0 (by omega)
      have m1 : c.natAbs.log2 + Nat.log2 7919 < 1000000 := by omega
      have m2 : Nat.log2 104729 + k.natAbs.log2 < 1000000 := by omega
      have r1 := Int.emod_nonneg (c * 7919 + 104729 * k) (show (2147483646 : Int) ≠ 0 by decide)
      have r2 := Int.emod_lt_of_pos (c * 7919 + 104729 * k) (show (0 : Int) < 2147483646 by decide)
      refine ⟨(.rt (.ref st.length), [some (.scr ns), some (.int k), some (.int c)], st ++ [.lst [.int 0, .int (1 + (c * 7919 + 104729 * k) % 2147483646)]]), ?_, _, rfl, rfl, _, rfl, bag_new (by decide) (by omega) (by omega)⟩
      simp [hs, m1, m2, l2]
    · have r1 := Int.emod_nonneg (c + k) (show (2147483646 : Int) ≠ 0 by decide)
      have r2 := Int.emod_lt_of_pos (c + k) (show (0 : Int) < 2147483646 by decide)
      refine ⟨(.rt (.ref st.length), [some (.scr ns), some (.int k), some (.int c)], st ++ [.lst [.int c, .int (1 + (c + k) % 2147483646)]]), ?_, _, rfl, rfl, _, rfl, bag_new hc (by omega) (by omega)⟩
      simp [hs, l2]
  refine ok_run ?_
  have ls : lenD [.scr ns] st = some (.int ns.length, st) := rfl
  by_cases hk : k < ns.length
  · obtain ⟨z, a1, _, _⟩ := atI_lt (l := ns) k0 hk
    have ix : ixD (.scr ns) (.int k) st = some (.int z, st) := by
      show Option.map _ (atI ns k) = _
      rw [a1]; rfl
    refine Ok.eq (tl (c := if z < 0 then -z else z) (by split <;> omega)) ?_
    have ab : absD [.int z] st = some (.int (if z < 0 then -z else z), st) := rfl
    generalize (if z < 0 then -z else z) = c at ab
    simp only [List.map_cons, List.map_nil, List.length_cons, List.length_nil, List.cons_append, List.nil_append]
    rw [seq_nx (ρ1 := [some (.scr ns), some (.int k), some (.int 0)]) (st1 := st) rfl, seq_nx (ρ1 := [some (.scr ns), some (.int k), some (.int c)]) (st1 := st) (by simp [ls, hk, ix, ab])]
  · refine Ok.eq (tl (c := 0) (by decide)) ?_
    simp only [List.map_cons, List.map_nil, List.length_cons, List.length_nil, List.cons_append, List.nil_append]
    rw [seq_nx (ρ1 := [some (.scr ns), some (.int k), some (.int 0)]) (st1 := st) rfl, seq_nx (ρ1 := [some (.scr ns), some (.int k), some (.int 0)]) (st1 := st) (by simp [ls, hk])]
def nmD (a : Air) : List D := a.ss.map fun o => .str o.nm
end
end EL
set_option Elab.async false
set_option linter.all false
set_option maxRecDepth 100000
set_option maxHeartbeats 1000000
namespace EL
open PySem PySem.Spec PyProof.Rows L2 GxR LG FW
section
variable {st : Sto}
def fr (t b : Int) : Int × Int := (t / (Int.gcd t b : Int), b / (Int.gcd t b : Int))
end
end EL
set_option Elab.async false
set_option linter.all false
set_option maxRecDepth 100000
set_option maxHeartbeats 1000000
namespace EL
open PySem PySem.Spec PyProof.Rows L2 GxR LG FW
section
variable {st : Sto}
theorem op_ok {h : D → D → Sto → Option (D × Sto)} {fa fb : FE} {ρ : Rho} {d e : D} {st1 st2 : Sto} {z : D × Sto} (h1 : fa ρ st = some (d, st1)) (h2 : fb ρ st1 = some (e, st2)) (h3 : h d e st2 = some z) : fOp h fa fb ρ st = some z := by
  rw [e_op, h1]
  simp only [Option.bind_some, h2, h3]
theorem for_at {fi : FI} {tg : Tg} {b : FS} {ρ : Rho} {items : List D} {src : Src} {st1 : Sto} {z : Fl × Rho × Sto} (h1 : fi ρ st = some (items, src, st1)) (h2 : forD tg b src items ρ st1 = some z) : sFor fi tg b ρ st = some z := by
  unfold sFor
  rw [h1]
  exact h2
def arr (s r : Stn) (k : Int) : Int × Int := fr s.pw (spr s r * k)
end
end EL
set_option Elab.async false
set_option linter.all false
set_option maxRecDepth 100000
set_option maxHeartbeats 300000
namespace EL
open PySem PySem.Spec PyProof.Rows L2 GxR LG FW
section
variable {st : Sto}
def divI (a : Air) (g : Int) : Int := if g = 0 then 1 else a.lk
def disB (t : List Int) (i : Nat) (r : Stn) (x : Stn × Nat) : Bool := !decide (gapI (t.getD i 0) (t.getD x.2 0) = 2) && !decide (x.1.nm = r.nm)
def disAt (a : Air) (t : List Int) (i : Nat) (r : Stn) (x : Stn × Nat) : List (Str × Int × Int) := if disB t i r x = true then [(x.1.nm, arr x.1 r (divI a (gapI (t.getD i 0) (t.getD x.2 0))))] else []
def disL (a : Air) (t : List Int) (i : Nat) (r : Stn) : List (Str × Int × Int) := a.ss.zipIdx.flatMap (disAt a t i r)
end
end EL
set_option Elab.async false
set_option linter.all false
set_option maxRecDepth 100000
set_option maxHeartbeats 400000
namespace EL
open PySem PySem.Spec PyProof.Rows L2 GxR LG FW
end EL
set_option Elab.async false
set_option linter.all false
set_option maxRecDepth 100000
set_option maxHeartbeats 400000
namespace EL
open PySem PySem.Spec PyProof.Rows L2 GxR LG FW
section
variable {st : Sto} {a : Air} {t t' : List Int} {i : Nat} {r : Stn}
theorem sum_le {α : Type} {f g : α → Int} : ∀ {l : List α}, (∀ x ∈ l, f x ≤ g x) → (l.map f).sum ≤ (l.map g).sum
  | [], _ => by simp
  | x :: l, h => by
    have h1 := h x List.mem_cons_self
    have h2 := sum_le fun y hy => h y (List.mem_cons_of_mem x hy)
    simp only [List.map_cons, List.sum_cons]
    omega
theorem share_nn (h : a.Ok) (hr : r.Ok) {s : Stn} (hs : s.Ok) : 0 ≤ shareI a.ss r s := by
  have P1 : 1 ≤ prodI (sprs a.ss r) := prodI_pos fun x hx => ((sprs_ok h.ss hr).1 x hx).1
  have sp := spr_pos hs hr
  have pw := hs.pw
  exact Int.mul_nonneg (by omega) (Int.ediv_nonneg (by omega) (by omega))
def thr (a : Air) (i : Nat) (r : Stn) (x : Stn × Nat) : Int × Int × Int := if x.2 = i then (0, 0, 0) else (r.nd * a.lk * shareI a.ss r x.1, r.nd * shareI a.ss r x.1, 0)
theorem dis_sum (ht : t.length = a.ss.length) (b : Int) : disI (othL a i r) b t = (a.ss.zipIdx.map fun x => pick3 (thr a i r x) (gapI b (t.getD x.2 0))).sum := by
  unfold disI
  rw [oth_idx, zip_idx _ _ ht]
  rfl
end
end EL
set_option Elab.async false
set_option linter.all false
set_option maxRecDepth 100000
set_option maxHeartbeats 400000
namespace EL
open PySem PySem.Spec PyProof.Rows L2 GxR LG FW
end EL
set_option Elab.async false
set_option linter.all false
set_option maxRecDepth 100000
set_option maxHeartbeats 400000
namespace EL
open PySem PySem.Spec PyProof.Rows L2 GxR LG FW
end EL
set_option Elab.async false
set_option linter.all false
set_option maxRecDepth 100000
set_option maxHeartbeats 400000
namespace EL
open PySem PySem.Spec PyProof.Rows L2 GxR LG FW
end EL
set_option Elab.async false
set_option linter.all false
set_option maxRecDepth 100000
set_option maxHeartbeats 400000
namespace EL
open PySem PySem.Spec PyProof.Rows L2 GxR LG FW
end EL
set_option Elab.async false
set_option linter.all false
set_option maxRecDepth 100000
set_option maxHeartbeats 400000
namespace EL
open PySem PySem.Spec PyProof.Rows L2 GxR LG FW
end EL
set_option Elab.async false
set_option linter.all false
set_option maxRecDepth 100000
set_option maxHeartbeats 400000
namespace EL
open PySem PySem.Spec PyProof.Rows L2 GxR LG FW
section
variable {st s : Sto} {a : Air} {t : List Int} {i : Nat} {r : Stn}
theorem range2_gen {fr : FA} {ρ : Rho} {i j : Int} {st1 : Sto} (e : fr ρ st = some ([.int i, .int j], st1)) : iRange2 fr ρ st = if (-(2 ^ 62) ≤ i ∧ i < 2 ^ 62) ∧ -(2 ^ 62) ≤ j ∧ j < 2 ^ 62 then some (rangeD i (j - i).toNat, [], st1) else none := by
  unfold iRange2
  rw [e]
  rfl
theorem range2_ok {fr : FA} {ρ : Rho} {n : Nat} {st1 : Sto} (e : fr ρ st = some ([.int 1, .int ((n : Int) + 1)], st1)) (hn : n ≤ 900) : iRange2 fr ρ st = some (rangeD 1 n, [], st1) := by
  have c1 : (-(2 ^ 62 : Int) ≤ 1 ∧ (1 : Int) < 2 ^ 62) := ⟨by decide, by decide⟩
  have c2 : -(2 ^ 62 : Int) ≤ (n : Int) + 1 ∧ (n : Int) + 1 < 2 ^ 62 := ⟨Int.le_trans (by decide) (by omega : (0 : Int) ≤ (n : Int) + 1), Int.lt_of_le_of_lt (by omega : (n : Int) + 1 ≤ 1000) (by decide)⟩
  have c3 : ((n : Int) + 1 - 1).toNat = n := by omega
  rw [range2_gen e, if_pos ⟨c1, c2⟩, c3]
def earsL (a : Air) : List D := a.ss.zipIdx.map fun x => earD a x.2 x.1
theorem ears_len : (earsL a).length = a.ss.length := by simp [earsL]
theorem ears_at (e : a.ss[i]? = some r) : ixD (.lst (earsL a)) (.int (i : Nat)) s = some (earD a i r, s) := by
  unfold earsL
  rw [e_ixZ, atI_nat, List.getElem?_map, List.getElem?_zipIdx, e]
  simp
theorem pure_ear : pureB (earD a i r) = true := by
  unfold earD
  simp only [pureB, pureL, Bool.true_and, Bool.and_true]
  exact pureL_map (fun _ => rfl) _
theorem ears_eq (h : a.Ok) : fn_ears_of [a.d] st = some (.lst (earsL a), st) := by
  unfold fn_ears_of
  refine seal_same ?_ (by show pureL _ = true; unfold earsL; exact pureL_map (fun _ => pure_ear) _)
  refine run_ok (ρ' := [some a.d, none]) (ret_ok ?_)
  simp only [List.map_cons, List.map_nil, List.length_cons, List.length_nil, List.replicate, List.cons_append, List.nil_append]
  have l8 := h.ss.len.2
  have i0 : ixD a.d (.int 0) st = some (ssD a.ss, st) := rfl
  have lz : lenD [ssD a.ss] st = some (.int (a.ss.length : Nat), st) := by unfold ssD; rw [e_lenT, List.length_map]
  have rg : iRange1 (fCons (fCall lenD (fCons (fOp ixD (fV 0) (fC (.int 0))) fNil)) fNil) [some a.d, none] st = some (rangeD 0 a.ss.length, [], st) := by
    refine range_ok ?_ (by omega)
    simp only [e_cons, e_call, e_op, e_V, e_C, e_nil, List.getElem?_cons_zero, List.getElem?_cons_succ, Option.bind_some, i0, lz]
  refine lcz_ok rg ?_ (by rw [ears_len]; omega)
  have w : wipeD [some a.d, none] [1] = [some a.d, none] := rfl
  rw [w]
  unfold rangeD
  have m : earsL a = ((List.range a.ss.length).filter fun _ => true).map fun j => ((a.ss[j]?).map (earD a j)).getD .non := by
    rw [List.filter_eq_self.mpr fun _ _ => rfl]
    unfold earsL
    apply List.ext_getElem?
    intro j
    rw [List.getElem?_map, List.getElem?_map, List.getElem?_zipIdx]
    by_cases hl : j < a.ss.length
    · simp [hl]
    · have h1 : a.ss[j]? = none := List.getElem?_eq_none_iff.mpr (by omega)
      have h2 : (List.range a.ss.length)[j]? = none := List.getElem?_eq_none_iff.mpr (by rw [List.length_range]; omega)
      rw [h1, h2]; rfl
  rw [m]
  refine lcE Intact.nil fun j hj => ⟨[some a.d, some (.int (0 + (j : Nat)))], rfl, rfl, fun _ => ?_⟩
  have hj' : j < a.ss.length := List.mem_range.mp hj
  obtain ⟨o, eo⟩ : ∃ o, a.ss[j]? = some o := ⟨_, List.getElem?_eq_getElem hj'⟩
  rw [Int.zero_add, eo]
  exact fn_ok (ds := [a.d, .int (j : Nat)]) (st1 := st) rfl rfl (ear_eq h eo)
/-- whether a station that sends is heard -/
def okAt (a : Air) (t : List Int) (x : Stn × Nat) : Bool := decide (t.getD x.2 0 = 0) || heardB a t x.2 x.1
def allH (a : Air) (t : List Int) : Bool := a.ss.zipIdx.all (okAt a t)
def fuO (a : Air) (t : List Int) : Option Nat := (a.ss.zipIdx.find? fun x => !okAt a t x).map (·.2)
def natO : Option Nat → D
  | none => .non
  | some j => .int (j : Nat)
noncomputable def bodyF : FS := (sIf (fTAnd (fTst (fOp neD (fV 3) (fC (.int 0)))) (fTNot (fTst (fFn 3 fn_hears (fCons (fOp ixD (fV 0) (fV 2)) (fCons (fV 3) (fCons (fV 1) fNil))))))) (sRet (fV 2)) sNext)
theorem tun_enum (ht : t.length = a.ss.length) : enumD (t.map D.int) = a.ss.zipIdx.map fun x => D.tup [.int (x.2 : Nat), .int (t.getD x.2 0)] := by
  unfold enumD
  apply List.ext_getElem?
  intro j
  rw [List.getElem?_mapIdx, List.getElem?_map, List.getElem?_map, List.getElem?_zipIdx]
  by_cases hl : j < a.ss.length
  · have : j < t.length := by omega
    simp [hl, this]
  · have h1 : a.ss[j]? = none := List.getElem?_eq_none_iff.mpr (by omega)
    have h2 : t[j]? = none := List.getElem?_eq_none_iff.mpr (by omega)
    simp [h1, h2]
theorem bodyF_ok (h : a.Ok) (ht : t.length = a.ss.length) {x : Stn × Nat} (hx : x ∈ a.ss.zipIdx) : bodyF [some (.lst (earsL a)), some (tun t), some (.int (x.2 : Nat)), some (.int (t.getD x.2 0))] st = some (if okAt a t x = true then .nx else .rt (.int (x.2 : Nat)), [some (.lst (earsL a)), some (tun t), some (.int (x.2 : Nat)), some (.int (t.getD x.2 0))], st) := by
  have hx2 := zipIdx_mem hx
  have l8 := h.ss.len.2
  have k0 : fCons (fOp ixD (fV 0) (fV 2)) (fCons (fV 3) (fCons (fV 1) fNil)) [some (.lst (earsL a)), some (tun t), some (.int (x.2 : Nat)), some (.int (t.getD x.2 0))] st = some ([earD a x.2 x.1, .int (t.getD x.2 0), tun t], st) := by
    simp only [e_cons, e_op, e_V, e_nil, List.getElem?_cons_zero, List.getElem?_cons_succ, Option.bind_some, ears_at hx2]
  have hq := hears_eq (st := st) (own := ownI a x.1) (band := t.getD x.2 0) (oth := othL a x.2 x.1) (t := t) (by unfold othL; rw [List.length_set, List.length_map]; omega)
  have q := fn_ok (n := 3) k0 rfl hq
  unfold bodyF
  rw [e_if]
  simp only [e_tand, e_tnot, e_tst, q]
  simp only [e_op, e_V, e_C, List.getElem?_cons_zero, List.getElem?_cons_succ, Option.bind_some, e_neI, e_asB]
  unfold okAt heardB
  by_cases z : t.getD x.2 0 = 0
  · simp only [z, decide_true, Bool.not_true, Bool.false_eq_true, if_false, Option.bind_some, e_next, Bool.true_or, if_true]
  · have z2 : decide (t.getD x.2 0 ≠ 0) = true := decide_eq_true z
    rw [decide_eq_false z, z2]
    simp only [Bool.not_false, if_true, q, Option.bind_some, e_asB, Bool.false_or, Bool.true_and]
    cases decide (disI (othL a x.2 x.1) (t.getD x.2 0) t ≤ ownI a x.1) with
    | true => simp only [Bool.not_true, Bool.false_eq_true, if_false, e_next, if_true]
    | false => simp only [Bool.not_false, if_true, Bool.false_eq_true, if_false, e_ret, e_V, List.getElem?_cons_zero, List.getElem?_cons_succ, Option.bind_some]
theorem fu_loop (h : a.Ok) (ht : t.length = a.ss.length) : ∀ {l : List (Stn × Nat)} {x2 x3 : Option D}, (∀ x ∈ l, x ∈ a.ss.zipIdx) →
    ∃ ρ', forD (.many [2, 3]) bodyF [] (l.map fun x => D.tup [.int (x.2 : Nat), .int (t.getD x.2 0)]) [some (.lst (earsL a)), some (tun t), x2, x3] st = some (match l.find? fun x => !okAt a t x with | none => .nx | some x => .rt (.int (x.2 : Nat)), ρ', st)
  | [], x2, x3, _ => ⟨_, by unfold forD; simp only [List.map_nil]; rw [if_pos Intact.nil]; rfl⟩
  | x :: l, x2, x3, hl => by
    have b := bodyF_ok (st := st) h ht (hl x List.mem_cons_self)
    obtain ⟨ρ', e⟩ := fu_loop h ht (l := l) (x2 := some (.int (x.2 : Nat))) (x3 := some (.int (t.getD x.2 0))) fun y hy => hl y (List.mem_cons_of_mem _ hy)
    simp only [List.map_cons]
    cases q : okAt a t x with
    | true =>
      refine ⟨ρ', ?_⟩
      rw [q] at b
      unfold forD
      rw [if_pos Intact.nil]
      simp only [tgD, setM, List.length_cons, List.length_nil, if_true, Option.bind_some, List.set_cons_succ, List.set_cons_zero, b]
      rw [e, List.find?_cons_of_neg (by rw [q]; simp)]
    | false =>
      rw [q] at b
      refine ⟨[some (.lst (earsL a)), some (tun t), some (.int (x.2 : Nat)), some (.int (t.getD x.2 0))], ?_⟩
      unfold forD
      rw [if_pos Intact.nil]
      simp only [tgD, setM, List.length_cons, List.length_nil, if_true, Option.bind_some, List.set_cons_succ, List.set_cons_zero, b, Bool.false_eq_true, if_false]
      rw [List.find?_cons_of_pos (by rw [q]; rfl)]
theorem first_unheard_eq (h : a.Ok) (ht : t.length = a.ss.length) : fn_first_unheard [.lst (earsL a), tun t] st = some (natO (fuO a t), st) := by
  unfold fn_first_unheard
  refine seal_same ?_ (by cases fuO a t <;> rfl)
  obtain ⟨ρ', e⟩ := fu_loop (st := st) h ht (l := a.ss.zipIdx) (x2 := none) (x3 := none) fun x hx => hx
  refine run_ok (ρ' := ρ') ?_
  simp only [List.map_cons, List.map_nil, List.length_cons, List.length_nil, List.replicate, List.cons_append, List.nil_append]
  show sSeq (sFor (EL.iEnum (fCons (fV 1) fNil)) (.many [2, 3]) bodyF) (sRet (fC .non)) _ st = _
  have it : EL.iEnum (fCons (fV 1) fNil) [some (.lst (earsL a)), some (tun t), none, none] st = some (a.ss.zipIdx.map (fun x : Stn × Nat => D.tup [.int (x.2 : Nat), .int (t.getD x.2 0)]), [], st) := by
    rw [← tun_enum ht]
    rfl
  have f := for_at it e
  unfold fuO
  cases q : a.ss.zipIdx.find? fun x => !okAt a t x with
  | none =>
    rw [q] at f
    rw [seq_nx f]
    rfl
  | some x =>
    rw [q] at f
    rw [e_seq, f]
    rfl
theorem fu_none : fuO a t = none ↔ allH a t = true := by
  unfold fuO allH
  rw [Option.map_eq_none_iff, List.find?_eq_none, List.all_eq_true]
  constructor
  · intro h x hx
    have := h x hx
    simpa using this
  · intro h x hx
    rw [h x hx]
    simp
theorem all_heard_eq (h : a.Ok) (ht : t.length = a.ss.length) : fn_all_heard [.lst (earsL a), tun t] st = some (.bl (allH a t), st) := by
  unfold fn_all_heard
  refine seal_same ?_ rfl
  refine run_ok (ρ' := [some (.lst (earsL a)), some (tun t)]) (ret_ok ?_)
  simp only [List.map_cons, List.map_nil, List.length_cons, List.length_nil, List.replicate, List.cons_append, List.nil_append, Nat.zero_add, Nat.sub_self, List.append_nil]
  have q : fFn 2 fn_first_unheard (fCons (fV 0) (fCons (fV 1) fNil)) [some (.lst (earsL a)), some (tun t)] st = some (natO (fuO a t), st) := fn_ok (ds := [.lst (earsL a), tun t]) (st1 := st) rfl rfl (first_unheard_eq h ht)
  have f := fu_none (a := a) (t := t)
  refine op_ok q (e := .non) (st2 := st) rfl ?_
  cases w : fuO a t with
  | none => rw [f.mp w]; rfl
  | some j =>
    have : allH a t = false := by
      cases z : allH a t with
      | false => rfl
      | true => rw [f.mpr z] at w; cases w
    rw [this]; rfl
end
end EL
set_option Elab.async false
set_option linter.all false
set_option maxRecDepth 100000
set_option maxHeartbeats 400000
namespace EL
open PySem PySem.Spec PyProof.Rows L2 GxR LG FW
end EL
set_option Elab.async false
set_option linter.all false
set_option maxRecDepth 100000
set_option maxHeartbeats 400000
namespace EL
open PySem PySem.Spec PyProof.Rows L2 GxR LG FW
section
variable {st s : Sto} {a : Air} {t bs : List Int} {i n many : Nat} {r : Stn} {c : Int} {f : Stn → Stn}
/-- a moving that keeps what arrives, but for the powers' factor -/
structure Mv (c : Int) (f : Stn → Stn) : Prop where
  c1 : 1 ≤ c
  nm : ∀ s, (f s).nm = s.nm
  pw : ∀ s, (f s).pw = s.pw * c
  nd : ∀ s, (f s).nd = s.nd
  spr : ∀ s r, spr (f s) (f r) = spr s r
end
end EL
namespace EL
open PySem PySem.Spec PyProof.Rows L2 GxR LG FW
end EL
set_option Elab.async false
set_option linter.all false
set_option maxRecDepth 100000
set_option maxHeartbeats 400000
namespace EL
open PySem PySem.Spec PyProof.Rows L2 GxR LG FW
section
variable {st s : Sto} {a : Air} {t bs : List Int} {i n many : Nat} {r : Stn} {lb : Nat}
theorem set_mid {s0 more : Sto} {o o' : O} : (s0 ++ o :: more).set s0.length o' = s0 ++ o' :: more := by
  rw [List.set_append_right _ _ (Nat.le_refl _), Nat.sub_self]
  rfl
end
end EL
set_option Elab.async false
set_option linter.all false
set_option maxRecDepth 100000
set_option maxHeartbeats 400000
namespace EL
open PySem PySem.Spec PyProof.Rows L2 GxR LG FW
section
variable {st s0 : Sto} {a : Air} {t bs : List Int} {i n many : Nat} {r : Stn} {lb : Nat}
theorem tup2 {f g : FE} {ρ : Rho} {st : Sto} {x y : D} (h1 : f ρ st = some (x, st)) (h2 : g ρ st = some (y, st)) : fTup (fCons f (fCons g fNil)) ρ st = some (.tup [x, y], st) := by
  simp only [e_tup, e_cons, e_nil, h1, h2, Option.bind_some]
  rw [if_pos (by rw [sizeLine_eq]; simp)]
end
end EL
set_option Elab.async false
set_option linter.all false
set_option maxRecDepth 100000
set_option maxHeartbeats 400000
namespace EL
open PySem PySem.Spec PyProof.Rows L2 GxR LG FW
end EL
set_option Elab.async false
set_option linter.all false
set_option maxRecDepth 100000
set_option maxHeartbeats 400000
namespace EL
open PySem PySem.Spec PyProof.Rows L2 GxR LG FW
section
variable {st s0 : Sto} {a : Air} {t bs : List Int} {i n many : Nat} {r : Stn} {lb : Nat} {c k sx sy : Int}
def unhL (a : Air) (t : List Int) : List D := (a.ss.zipIdx.filter fun x => !okAt a t x).map fun x => .str x.1.nm
theorem unheard_eq (h : a.Ok) (ht : t.length = a.ss.length) : fn_unheard [a.d, tun t] st = some (.lst (unhL a t), st) := by
  unfold fn_unheard
  refine seal_same ?_ (by unfold pureB unhL; exact pureL_map (fun _ => rfl) _)
  have w : wipeD [some a.d, some (tun t), some (ssD a.ss), none, none] [3, 4] = [some a.d, some (tun t), some (ssD a.ss), none, none] := rfl
  have L : lcZ (.many [3, 4]) (fTAnd (fTst (fOp neD (fV 4) (fC (.int 0)))) (fTNot (fTst (fFn 3 fn_is_heard (fCons (fV 0) (fCons (fV 1) (fCons (fOp ixD (fV 3) (fC (.int 0))) fNil))))))) (fOp ixD (fV 3) (fC (.int 0))) [] (wipeD [some a.d, some (tun t), some (ssD a.ss), none, none] [3, 4]) (List.zipWith (fun x y => D.tup [x, y]) (a.ss.map Stn.d) (t.map D.int)) st = some (unhL a t, st) := by
    rw [zip_ss ht, w]
    unfold unhL
    refine lcE Intact.nil fun x hx => ⟨[some a.d, some (tun t), some (ssD a.ss), some x.1.d, some (.int (t.getD x.2 0))], rfl, ?_, fun _ => rfl⟩
    have hx2 := zipIdx_mem hx
    have k0 : fCons (fV 0) (fCons (fV 1) (fCons (fOp ixD (fV 3) (fC (.int 0))) fNil)) [some a.d, some (tun t), some (ssD a.ss), some x.1.d, some (.int (t.getD x.2 0))] st = some ([a.d, tun t, .str x.1.nm], st) := rfl
    have q := fn_ok (n := 3) k0 rfl (heard_eq (st := st) h ht hx2)
    simp only [e_tand, e_tnot, e_tst, q]
    simp only [e_op, e_V, e_C, List.getElem?_cons_zero, List.getElem?_cons_succ, Option.bind_some, e_neI, e_asB]
    unfold okAt
    by_cases z : t.getD x.2 0 = 0
    · simp only [z, decide_true, Bool.not_true, Bool.false_eq_true, if_false, Bool.true_or]
    · simp only [z, decide_false, Bool.not_false, if_true, q, Option.bind_some, e_asB, Bool.false_or]
  refine run_ok (ρ' := [some a.d, some (tun t), some (ssD a.ss), none, none]) ?_
  simp only [List.map_cons, List.map_nil, List.length_cons, List.length_nil, List.replicate, List.cons_append, List.nil_append]
  unfold sb_unheard
  rw [seq_nx (ρ1 := [some a.d, some (tun t), some (ssD a.ss), none, none]) (st1 := st) rfl]
  refine ret_ok (lcz_ok (items := List.zipWith (fun x y => D.tup [x, y]) (a.ss.map Stn.d) (t.map D.int)) (src := []) (st1 := st) rfl L ?_)
  unfold unhL
  rw [List.length_map]
  have := ss_len h fun x => !okAt a t x
  omega
end
end EL
set_option Elab.async false
set_option linter.all false
set_option maxRecDepth 100000
set_option maxHeartbeats 400000
namespace EL
open PySem PySem.Spec PyProof.Rows L2 GxR LG FW
section
variable {st : Sto} {a : Air} {t bs : List Int} {i n many : Nat} {r s : Stn}
theorem allG_true {fi : FI} {fe : FE} {cap : List (Option Nat)} {ρ : Rho} {items : List D} (hi : fi ρ st = some (items, [], st)) (hc : capD cap ρ = [none]) (h : ∀ d ∈ items, fe [some d] st = some (.bl true, st)) : fAllG fi (.one 0) fe cap ρ st = some (.bl true, st) := by
  unfold fAllG
  rw [hi]
  simp only [Option.bind_some, hc]
  have A : allD (.one 0) fe [] items [none] st = some (items.all fun _ => true, st) := allD_eq (b := fun _ => true) Intact.nil (I := fun ρ => ∃ p, ρ = [p]) ⟨_, rfl⟩ fun d hd ρ ⟨p, eρ⟩ => by
    subst eρ
    exact ⟨[some d], rfl, ⟨_, rfl⟩, h d hd⟩
  rw [A]
  simp
theorem tuple_of_eq {ds : List D} {k : Int} (h : (ds.length : Int) = k) : fn_is_tuple_of [.tup ds, .int k] st = some (.bl true, st) := by
  unfold fn_is_tuple_of
  refine seal_same ?_ rfl
  refine run_ok (ρ' := [some (.tup ds), some (.int k)]) (ret_ok ?_)
  simp only [List.map_cons, List.map_nil, List.length_cons, List.length_nil, List.replicate, List.cons_append, List.nil_append, Nat.zero_add, Nat.sub_self, List.append_nil]
  have isi : isiD [.tup ds, .ty "tuple"] st = some (.bl true, st) := rfl
  have lz : lenD [.tup ds] st = some (.int (ds.length : Nat), st) := rfl
  simp only [e_and, e_call, e_cons, e_op, e_V, e_C, e_nil, List.getElem?_cons_zero, List.getElem?_cons_succ, Option.bind_some, isi, e_asB, if_true, lz, e_eqI, decide_eq_true h]
theorem number_eq {k : Int} : fn_is_number [.int k] st = some (.bl true, st) := by
  unfold fn_is_number
  refine seal_same ?_ rfl
  refine run_ok (ρ' := [some (.int k)]) (ret_ok ?_)
  rfl
theorem whole_eq {k lo hi : Int} (h1 : lo ≤ k) (h2 : k ≤ hi) : fn_is_whole [.int k, .int lo, .int hi] st = some (.bl true, st) := by
  unfold fn_is_whole
  refine seal_same ?_ rfl
  refine run_ok (ρ' := [some (.int k), some (.int lo), some (.int hi)]) (ret_ok ?_)
  simp only [List.map_cons, List.map_nil, List.length_cons, List.length_nil, List.replicate, List.cons_append, List.nil_append, Nat.zero_add, Nat.sub_self, List.append_nil]
  have q : fFn 1 fn_is_number (fCons (fV 0) fNil) [some (.int k), some (.int lo), some (.int hi)] st = some (.bl true, st) := fn_ok (ds := [.int k]) (st1 := st) rfl rfl number_eq
  have l1 : leD (.int lo) (.int k) st = some (.bl true, st) := by show some (D.bl (decide (lo ≤ k)), st) = _; rw [decide_eq_true h1]
  have l2 : leD (.int k) (.int hi) st = some (.bl true, st) := by show some (D.bl (decide (k ≤ hi)), st) = _; rw [decide_eq_true h2]
  simp only [e_and, q, Option.bind_some, e_asB, if_true, e_chain, e_V, List.getElem?_cons_zero, List.getElem?_cons_succ, l1, l2]
theorem place_eq {x y : Int} (hx : -1000 ≤ x ∧ x ≤ 1000) (hy : -1000 ≤ y ∧ y ≤ 1000) : fn_is_place [.tup [.int x, .int y]] st = some (.bl true, st) := by
  unfold fn_is_place
  refine seal_same ?_ rfl
  refine run_ok (ρ' := [some (.tup [.int x, .int y])]) (ret_ok ?_)
  simp only [List.map_cons, List.map_nil, List.length_cons, List.length_nil, List.replicate, List.cons_append, List.nil_append, Nat.zero_add, Nat.sub_self, List.append_nil]
  have q : fFn 2 fn_is_tuple_of (fCons (fV 0) (fCons (fC (.int 2)) fNil)) [some (.tup [.int x, .int y])] st = some (.bl true, st) := fn_ok (ds := [.tup [.int x, .int y], .int 2]) (st1 := st) rfl rfl (tuple_of_eq rfl)
  have A := allG_true (st := st) (fi := iSeq (fV 0)) (fe := fFn 3 fn_is_whole (fCons (fV 0) (fCons (fNeg (fC (.int 1000))) (fCons (fC (.int 1000)) fNil)))) (cap := [none]) (ρ := [some (.tup [.int x, .int y])]) (items := [.int x, .int y]) rfl rfl fun d hd => by
    simp only [List.mem_cons, List.not_mem_nil, or_false] at hd
    rcases hd with rfl | rfl
    · exact fn_ok (ds := [.int x, .int (-1000), .int 1000]) (st1 := st) rfl rfl (whole_eq hx.1 hx.2)
    · exact fn_ok (ds := [.int y, .int (-1000), .int 1000]) (st1 := st) rfl rfl (whole_eq hy.1 hy.2)
  rw [e_and, q]
  simp only [Option.bind_some, e_asB, if_true]
  exact A
theorem low_ok : ∀ x ∈ nms, x.cps.toList.all (fun c => decide (97 ≤ c) && decide (c ≤ 122)) = true ∧ 1 ≤ x.length ∧ x.length ≤ 8 := by decide +kernel
theorem name_eq {x : Str} (hx : x ∈ nms) : fn_is_name [.str x] st = some (.bl true, st) := by
  unfold fn_is_name
  refine seal_same ?_ rfl
  obtain ⟨l1, l2, l3⟩ := low_ok x hx
  refine run_ok (ρ' := [some (.str x)]) ?_
  simp only [List.map_cons, List.map_nil, List.length_cons, List.length_nil, List.replicate, List.cons_append, List.nil_append, Nat.zero_add, Nat.sub_self, List.append_nil]
  unfold sb_is_name
  have isi : isiD [.str x, .ty "str"] st = some (.bl true, st) := rfl
  have lz : lenD [.str x] st = some (.int (x.length : Nat), st) := by
    show (if _ then _ else _) = _
    rw [if_pos (by rw [sizeLine_eq]; omega)]
  have c1 : leD (.int 1) (.int (x.length : Nat)) st = some (.bl true, st) := by show some (D.bl (decide ((1 : Int) ≤ (x.length : Nat))), st) = _; rw [decide_eq_true (by omega)]
  have c2 : leD (.int (x.length : Nat)) (.int 8) st = some (.bl true, st) := by show some (D.bl (decide (((x.length : Nat) : Int) ≤ 8)), st) = _; rw [decide_eq_true (by omega)]
  rw [seq_nx (ρ1 := [some (.str x)]) (st1 := st) (by
    simp only [e_if, e_tor, e_tnot, e_tst, e_call, e_cons, e_V, e_C, e_nil, e_chain, List.getElem?_cons_zero, List.getElem?_cons_succ, Option.bind_some, isi, e_asB, Bool.not_true, Bool.false_eq_true, if_false, lz, c1, c2, if_true, e_next])]
  refine ret_ok (allG_true (items := signs x) rfl rfl fun d hd => ?_)
  obtain ⟨ch, hc, rfl⟩ := List.mem_map.mp hd
  have q := List.all_eq_true.mp l1 ch hc
  simp only [Bool.and_eq_true, decide_eq_true_eq] at q
  have d1 : leD (.str "a") (.str ⟨#[ch]⟩) st = some (.bl true, st) := by
    show some (D.bl (!decide (([ch] : List Nat) < [97])), st) = _
    have : ¬ ([ch] : List Nat) < [97] := fun z => by
      rcases List.cons_lt_cons_iff.mp z with w | ⟨_, w⟩
      · omega
      · exact absurd w (List.not_lt_nil _)
    rw [decide_eq_false this]; rfl
  have d2 : leD (.str ⟨#[ch]⟩) (.str "z") st = some (.bl true, st) := by
    show some (D.bl (!decide (([122] : List Nat) < [ch])), st) = _
    have : ¬ ([122] : List Nat) < [ch] := fun z => by
      rcases List.cons_lt_cons_iff.mp z with w | ⟨_, w⟩
      · omega
      · exact absurd w (List.not_lt_nil _)
    rw [decide_eq_false this]; rfl
  simp only [e_chain, e_V, e_C, List.getElem?_cons_zero, Option.bind_some, d1, d2]
end
end EL
set_option Elab.async false
set_option linter.all false
set_option maxRecDepth 100000
set_option maxHeartbeats 400000
namespace EL
open PySem PySem.Spec PyProof.Rows L2 GxR LG FW
section
variable {st : Sto} {a : Air} {t bs : List Int} {i n many : Nat} {r s : Stn} {d : D}
theorem eqB_self : ∀ n, (∀ {d : D}, okB n d = true → eqB d d = true) ∧ (∀ {ds : List D}, okBs n ds = true → eqBs ds ds = true) := by
  intro n
  induction n with
  | zero =>
    have one : ∀ {d : D}, okB 0 d = true → eqB d d = true := fun {d} h => by
      cases d with
      | non => rfl
      | bl b => cases b <;> rfl
      | int i => simp
      | str x => simp
      | _ => unfold okB at h; cases h
    refine ⟨one, fun {ds} h => ?_⟩
    induction ds with
    | nil => unfold eqBs; rfl
    | cons x l ih =>
      unfold okBs at h
      obtain ⟨h1, h2⟩ := Bool.and_eq_true_iff.mp h
      unfold eqBs
      rw [one h1, ih h2]
      rfl
  | succ n ih =>
    have one : ∀ {d : D}, okB (n + 1) d = true → eqB d d = true := fun {d} h => by
      cases d with
      | non => rfl
      | bl b => cases b <;> rfl
      | int i => simp
      | str x => simp
      | tup ds => unfold okB at h; unfold eqB; exact ih.2 h
      | lst ds => unfold okB at h; unfold eqB; exact ih.2 h
      | _ => unfold okB at h; cases h
    refine ⟨one, fun {ds} h => ?_⟩
    induction ds with
    | nil => unfold eqBs; rfl
    | cons x l ih2 =>
      unfold okBs at h
      obtain ⟨h1, h2⟩ := Bool.and_eq_true_iff.mp h
      unfold eqBs
      rw [one h1, ih2 h2]
      rfl
theorem byVal_ok {n : Nat} (h : okB n d = true) : byVal d st = d := by
  cases d with
  | ref l => cases n <;> (unfold okB at h; cases h)
  | _ => rfl
theorem eq_self (h : okB 60 d = true) : eqD d d st = some (.bl true, st) ∧ neD d d st = some (.bl false, st) := by
  unfold eqD neD eqW
  rw [byVal_ok h, h, (eqB_self 60).1 h]
  exact ⟨rfl, rfl⟩
end
end EL
set_option Elab.async false
set_option linter.all false
set_option maxRecDepth 100000
set_option maxHeartbeats 400000
namespace EL
open PySem PySem.Spec PyProof.Rows L2 GxR LG FW
section
variable {a : Air} {t bs : List Int} {i n many : Nat} {r : Stn} {P : List Int → Bool}
def Within (many : Nat) (us : List Int) : Prop := ∀ u ∈ us, 1 ≤ u ∧ u ≤ (many : Int)
/-- a plan -/
structure Pl (a : Air) (many : Nat) (t : List Int) : Prop where
  len : t.length = a.ss.length
  inn : Within many t
  all : allH a t = true
theorem Pl.up {m : Nat} (p : Pl a many t) (h : many ≤ m) : Pl a m t := ⟨p.len, fun u hu => ⟨(p.inn u hu).1, by have := (p.inn u hu).2; omega⟩, p.all⟩
end
end EL
set_option Elab.async false
set_option linter.all false
set_option maxRecDepth 100000
set_option maxHeartbeats 400000
namespace EL
open PySem PySem.Spec PyProof.Rows L2 GxR LG FW
section
variable {a a' : Air} {t bs : List Int} {i n many : Nat} {r r' : Stn}
/-- the bands that a station hears, and its own place marked -/
def seen (a : Air) (t : List Int) (i : Nat) : List (Stn × Int × Bool) := a.ss.zipIdx.map fun x => (x.1, t.getD x.2 0, decide (x.2 = i))
def part (a : Air) (r : Stn) (b : Int) (k : Int) (y : Stn × Int × Bool) : Int := if y.2.2 = true then 0 else if gapI b y.2.1 = k then shareI a.ss r y.1 else 0
theorem dis_split (ht : t.length = a.ss.length) (b : Int) : disI (othL a i r) b t = r.nd * (a.lk * ((seen a t i).map (part a r b 0)).sum + ((seen a t i).map (part a r b 1)).sum) := by
  rw [dis_sum ht]
  unfold seen
  rw [List.map_map, List.map_map]
  generalize a.ss.zipIdx = l
  induction l with
  | nil => simp
  | cons x l ih =>
    simp only [List.map_cons, List.sum_cons]
    rw [ih]
    have e : pick3 (thr a i r x) (gapI b (t.getD x.2 0)) = r.nd * (a.lk * part a r b 0 (x.1, t.getD x.2 0, decide (x.2 = i)) + part a r b 1 (x.1, t.getD x.2 0, decide (x.2 = i))) := by
      unfold thr part pick3
      by_cases w : x.2 = i
      · simp [w]
      · simp only [w, decide_false, Bool.false_eq_true, if_false]
        generalize gapI b (t.getD x.2 0) = g
        by_cases g0 : g = 0
        · simp only [g0, if_true]
          simp
          grind
        · by_cases g1 : g = 1
          · simp only [g1, if_true]
            simp
          · simp [g0, g1]
    simp only [Function.comp]
    rw [e]
    grind
theorem part_nn (h : a.Ok) (hr : r.Ok) (b k : Int) : 0 ≤ ((seen a t i).map (part a r b k)).sum := by
  have z : ((seen a t i).map fun _ => (0 : Int)).sum = 0 := by
    generalize seen a t i = l
    induction l with
    | nil => rfl
    | cons x l ih => simp only [List.map_cons, List.sum_cons, ih]; rfl
  rw [← z]
  refine sum_le fun y hy => ?_
  obtain ⟨x, hx, rfl⟩ := List.mem_map.mp hy
  have hs := h.ss.all x.1 (List.mem_of_getElem? (zipIdx_mem hx))
  unfold part
  split
  · exact Int.le_refl _
  · split
    · exact share_nn h hr hs
    · exact Int.le_refl _
theorem easy_num {lk lk' nd nd' O S D : Int} (l0 : 0 < lk) (l1 : lk ≤ lk') (n0 : 0 ≤ nd') (n1 : nd' ≤ nd) (hS : 0 ≤ S) (hD : 0 ≤ D) (h : nd * (lk * S + D) ≤ lk * O) : nd' * (lk' * S + D) ≤ lk' * O := by
  have a1 : nd' * (lk' * S + D) ≤ nd * (lk' * S + D) := Int.mul_le_mul_of_nonneg_right n1 (Int.add_nonneg (Int.mul_nonneg (by omega) hS) hD)
  have a2 : nd * D ≤ lk * (O - nd * S) := by
    have : nd * (lk * S + D) = lk * (nd * S) + nd * D := by grind
    have : lk * (O - nd * S) = lk * O - lk * (nd * S) := by grind
    omega
  have a3 : 0 ≤ nd * D := Int.mul_nonneg (by omega) hD
  have a4 : 0 ≤ O - nd * S := by
    by_cases z : 0 ≤ O - nd * S
    · exact z
    · have : lk * (O - nd * S) < 0 := Int.mul_neg_of_pos_of_neg l0 (by omega)
      omega
  have a5 : lk * (O - nd * S) ≤ lk' * (O - nd * S) := Int.mul_le_mul_of_nonneg_right l1 a4
  have a6 : nd * (lk' * S + D) = lk' * (nd * S) + nd * D := by grind
  have a7 : lk' * (O - nd * S) = lk' * O - lk' * (nd * S) := by grind
  omega
/-- needs no greater, a leak no less, all else the same -/
structure Easy (a a' : Air) : Prop where
  len : a'.ss.length = a.ss.length
  lk : a.lk ≤ a'.lk
  st : ∀ (i : Nat) (r r' : Stn), a.ss[i]? = some r → a'.ss[i]? = some r' → r'.px = r.px ∧ r'.py = r.py ∧ r'.pw = r.pw ∧ r'.hx = r.hx ∧ r'.hy = r.hy ∧ r'.nd ≤ r.nd
theorem Easy.get (E : Easy a a') (e : a'.ss[i]? = some r') : ∃ r, a.ss[i]? = some r := ⟨_, List.getElem?_eq_getElem (by have := (List.getElem?_eq_some_iff.mp e).1; rw [E.len] at this; exact this)⟩
theorem Easy.sprs (E : Easy a a') (e : a.ss[i]? = some r) (e' : a'.ss[i]? = some r') : EL.sprs a'.ss r' = EL.sprs a.ss r := by
  obtain ⟨_, _, _, hx, hy, _⟩ := E.st i r r' e e'
  unfold EL.sprs
  apply List.ext_getElem?
  intro j
  rw [List.getElem?_map, List.getElem?_map]
  cases q : a'.ss[j]? with
  | none =>
    have : a.ss[j]? = none := List.getElem?_eq_none_iff.mpr (by rw [← E.len]; exact List.getElem?_eq_none_iff.mp q)
    rw [this]; rfl
  | some s' =>
    obtain ⟨s, es⟩ := E.get q
    obtain ⟨px, py, _, _, _, _⟩ := E.st j s s' es q
    rw [es, Option.map_some, Option.map_some]
    unfold spr
    rw [hx, hy, px, py]
theorem Easy.share (E : Easy a a') (e : a.ss[i]? = some r) (e' : a'.ss[i]? = some r') {j : Nat} {s s' : Stn} (es : a.ss[j]? = some s) (es' : a'.ss[j]? = some s') : shareI a'.ss r' s' = shareI a.ss r s := by
  obtain ⟨_, _, _, hx, hy, _⟩ := E.st i r r' e e'
  obtain ⟨px, py, pw, _, _, _⟩ := E.st j s s' es es'
  unfold shareI
  rw [E.sprs e e', pw]
  unfold spr
  rw [hx, hy, px, py]
theorem Easy.part (E : Easy a a') (e : a.ss[i]? = some r) (e' : a'.ss[i]? = some r') (b k : Int) (m : Nat) : (seen a' t m).map (EL.part a' r' b k) = (seen a t m).map (EL.part a r b k) := by
  unfold seen
  rw [List.map_map, List.map_map]
  apply List.ext_getElem?
  intro j
  rw [List.getElem?_map, List.getElem?_map, List.getElem?_zipIdx, List.getElem?_zipIdx]
  cases q : a'.ss[j]? with
  | none =>
    have : a.ss[j]? = none := List.getElem?_eq_none_iff.mpr (by rw [← E.len]; exact List.getElem?_eq_none_iff.mp q)
    rw [this]; rfl
  | some s' =>
    obtain ⟨s, es⟩ := E.get q
    rw [es]
    simp only [Option.map_some, Function.comp, EL.part]
    rw [E.share e e' es q]
theorem Easy.heard (E : Easy a a') (h : a.Ok) (h' : a'.Ok) (ht : t.length = a.ss.length) (e : a.ss[i]? = some r) (e' : a'.ss[i]? = some r') (hh : heardB a t i r = true) : heardB a' t i r' = true := by
  have hr := h.ss.all r (List.mem_of_getElem? e)
  have hr' := h'.ss.all r' (List.mem_of_getElem? e')
  unfold heardB at hh ⊢
  simp only [Bool.and_eq_true, decide_eq_true_eq] at hh ⊢
  refine ⟨hh.1, ?_⟩
  have q := hh.2
  rw [dis_split ht] at q
  rw [dis_split (by rw [E.len]; exact ht), E.part e e', E.part e e']
  unfold ownI at q ⊢
  rw [E.share e e' e e']
  exact easy_num (by have := h.lk; omega) E.lk (by have := hr'.nd; omega) (E.st i r r' e e').2.2.2.2.2 (part_nn h hr _ _) (part_nn h hr _ _) q
end
end EL
set_option Elab.async false
set_option linter.all false
set_option maxRecDepth 100000
set_option maxHeartbeats 400000
namespace EL
open PySem PySem.Spec PyProof.Rows L2 GxR LG FW
section
variable {a : Air} {t bs : List Int} {i j k n many : Nat} {r o : Stn}
def Air.cut (a : Air) (k : Nat) : Air := ⟨a.ss.eraseIdx k, a.lk⟩
end
end EL
set_option Elab.async false
set_option linter.all false
set_option maxRecDepth 100000
set_option maxHeartbeats 400000
namespace EL
open PySem PySem.Spec PyProof.Rows L2 GxR LG FW
section
variable {st : Sto} {a : Air} {t bs : List Int} {i j k n many : Nat} {r s o : Stn}
abbrev tR (a : Air) (many : Nat) (bs : List Int) (x4 x5 x6 x7 : Option D) : Rho := [some (.lst (earsL a)), some (.lst (nmD a)), some (.int (many : Nat)), some (tun bs), x4, x5, x6, x7]
end
end EL
set_option Elab.async false
set_option linter.all false
set_option maxRecDepth 100000
set_option maxHeartbeats 400000
namespace EL
open PySem PySem.Spec PyProof.Rows L2 GxR LG FW
section
variable {st : Sto} {a : Air} {t bs : List Int} {i j k n many : Nat} {r s o : Stn}
abbrev hR (a : Air) (bs : List Int) (x : Str) (x4 x5 x6 : Option D) : Rho := [some (.lst (earsL a)), some (.lst (nmD a)), some (tun bs), some (.str x), x4, x5, x6]
end
end EL
set_option Elab.async false
set_option linter.all false
set_option maxRecDepth 100000
set_option maxHeartbeats 400000
namespace EL
open PySem PySem.Spec PyProof.Rows L2 GxR LG FW
end EL
set_option Elab.async false
set_option linter.all false
set_option maxRecDepth 100000
set_option maxHeartbeats 400000
namespace EL
open PySem PySem.Spec PyProof.Rows L2 GxR LG FW
section
variable {st : Sto} {a : Air} {t bs : List Int} {i j k n many : Nat} {r s o : Stn} {lb : Nat}
theorem addT {xs ys : List D} (h : xs.length + ys.length ≤ 100) : addD (.tup xs) (.tup ys) st = some (.tup (xs ++ ys), st) := by
  show (if _ then _ else _) = _
  rw [if_pos (by rw [sizeLine_eq]; omega)]
end
end EL
set_option Elab.async false
set_option linter.all false
set_option maxRecDepth 100000
set_option maxHeartbeats 400000
namespace EL
open PySem PySem.Spec PyProof.Rows L2 GxR LG FW
section
variable {ns : List Int} {lb i : Nat} {st s : Sto} {a : Air} {t : List Int} {r : Stn}
theorem run_at {N : Nat} {sb : FS} {ds : List D} {ρ ρ' : Rho} {d : D} {st1 : Sto} (hρ : ds.map some ++ List.replicate (N - ds.length) none = ρ) (h : sb ρ st = some (.rt d, ρ', st1)) : runD N sb ds st = some (d, st1) := run_ok (ρ' := ρ') (by rw [hρ]; exact h)
end
end EL
set_option Elab.async false
set_option linter.all false
set_option maxRecDepth 100000
set_option maxHeartbeats 400000
namespace EL
open PySem PySem.Spec PyProof.Rows L2 GxR LG FW
section
variable {lb i : Nat} {st s : Sto} {a : Air} {t : List Int} {r : Stn}
theorem if_no {ta : FT} {s1 : FS} {ρ : Rho} {st1 : Sto} (h : ta ρ st = some (false, st1)) : sIf ta s1 sNext ρ st = some (.nx, ρ, st1) := by
  rw [e_if, h]; rfl
theorem tnot_ok {f : FE} {ρ : Rho} {st1 : Sto} (h : f ρ st = some (.bl true, st1)) : fTNot (fTst f) ρ st = some (false, st1) := by
  rw [e_tnot, e_tst, h]; rfl
end
end EL
set_option Elab.async false
set_option linter.all false
set_option maxRecDepth 100000
set_option maxHeartbeats 400000
namespace EL
open PySem PySem.Spec PyProof.Rows L2 GxR LG FW
section
variable {lb i : Nat} {st s : Sto} {a : Air} {t : List Int} {r : Stn}
theorem seqT {s1 s2 : FS} {ρ ρ1 : Rho} {st1 : Sto} {z : Option (Fl × Rho × Sto)} (h : s1 ρ st = some (.nx, ρ1, st1)) (k : s2 ρ1 st1 = z) : sSeq s1 s2 ρ st = z := by rw [seq_nx h]; exact k
theorem unp_ok {tg : Tg} {f : FE} {ρ ρ1 : Rho} {d : D} {st1 : Sto} (h : f ρ st = some (d, st1)) (hg : tgD tg d ρ = some ρ1) : sUnp tg f ρ st = some (.nx, ρ1, st1) := by rw [e_unp, h]; simp only [Option.bind_some]; rw [hg]; rfl
theorem seqR {s1 s2 : FS} {ρ ρ1 : Rho} {d : D} {st1 : Sto} (h : s1 ρ st = some (.rt d, ρ1, st1)) : sSeq s1 s2 ρ st = some (.rt d, ρ1, st1) := by rw [e_seq, h]; rfl
theorem if_then {ta : FT} {s1 s2 : FS} {ρ : Rho} {st1 : Sto} {z : Option (Fl × Rho × Sto)} (h : ta ρ st = some (true, st1)) (k : s1 ρ st1 = z) : sIf ta s1 s2 ρ st = z := by rw [e_if, h]; exact k
theorem if_else {ta : FT} {s1 s2 : FS} {ρ : Rho} {st1 : Sto} {z : Option (Fl × Rho × Sto)} (h : ta ρ st = some (false, st1)) (k : s2 ρ st1 = z) : sIf ta s1 s2 ρ st = z := by rw [e_if, h]; exact k
theorem eq_nilL {ds : List D} (h : okBs 59 ds = true) : eqD (.lst ds) (.lst []) st = some (.bl ds.isEmpty, st) := by
  have o1 : okB 60 (.lst ds) = true := by unfold okB; exact h
  have o2 : okB 60 (.lst []) = true := rfl
  unfold eqD eqW
  simp only [e_valZ, o1, o2, and_self, if_true]
  cases ds with
  | nil => simp [eqB, eqBs]
  | cons x l => simp [eqB, eqBs]
theorem ne_same {f g : FE} {ρ : Rho} {d : D} (h : okB 60 d = true) (h1 : f ρ st = some (d, st)) (h2 : g ρ st = some (d, st)) : fTst (fOp neD f g) ρ st = some (false, st) := by
  rw [e_tst, op_ok h1 h2 (eq_self h).2]
  rfl
theorem of_spec {xs : List D} (h0 : 0 < xs.length) (hz : xs.length ≤ 1000) (hp : ∀ d ∈ xs, pureB d = true) (b : Bg lb s) : Ok (fn__law_of [.ref lb, .lst xs] s) fun p => p.1 ∈ xs ∧ Go lb s p.2 := by
  unfold fn__law_of
  refine seal_ok (P := (· ∈ xs)) ?_
  obtain ⟨⟨d1, s1⟩, q1, ⟨k, e1, k0, k1⟩, g1⟩ := take_spec (m := (xs.length : Nat)) (by omega) (by omega) b
  simp only at e1 g1
  subst e1
  obtain ⟨x, hx, hm, _⟩ := atI_lt (l := xs) (i := k) k0 (by omega)
  have f1 : fFn 2 fn__law_take (fCons (fV 0) (fCons (fCall lenD (fCons (fV 1) fNil)) fNil)) [some (.ref lb), some (.lst xs)] s = some (.int k, s1) := fn_ok (ds := [.ref lb, .int (xs.length : Nat)]) (st1 := s) rfl rfl q1
  have ix : ixD (.lst xs) (.int k) s1 = some (x, s1) := by rw [e_ixZ, hx]; rfl
  refine ⟨(x, s1), run_at (ρ := [some (.ref lb), some (.lst xs)]) (ρ' := [some (.ref lb), some (.lst xs)]) rfl ?_, hm, hp x hm, s1, [], by simp, g1⟩
  unfold sb__law_of
  exact ret_ok (op_ok (st1 := s) (d := .lst xs) rfl f1 ix)
theorem stations_spec2 {most : Int} (b : Bg lb st) (m1 : 1 ≤ most) (m2 : most ≤ 8) : Ok (fn__law_stations [.ref lb, .int most] st) fun p => (∃ ss, p.1 = ssD ss ∧ SsOk ss ∧ ss.map Stn.nm = nms.take ss.length ∧ (ss.length : Int) ≤ most) ∧ Go lb st p.2 := by
  unfold fn__law_stations
  refine seal_ok (P := fun d => ∃ ss, d = ssD ss ∧ SsOk ss ∧ ss.map Stn.nm = nms.take ss.length ∧ (ss.length : Int) ≤ most) (ok_run ?_)
  have a0 := Acc.start (lb := lb) b
  show Ok (sSeq (sSet 2 (fLst fNil)) (sSeq (sSet 3 _) (sSeq (sFor _ (.one 4) bodyS) _)) _ _) _
  refine Ok.bind (⟨(.nx, _, st ++ [.lst []]), by simp [sizeLine_eq]; rfl, ?_⟩)
  refine ok_set (P := Nn 1 1000) (ED.pick (P := Nn 1 1000) (.allC ED.n (.allC ED.n (.allC ED.n (.allC ED.n .all0)))) (ED.take (M := 4) rfl ED.n)) (a0.bg b) fun w s1 hw g1 => ?_
  obtain ⟨w, rfl, w1, w2⟩ := hw
  have a1 := a0.go b g1
  obtain ⟨⟨v, s2⟩, ev, hv, g2⟩ := (ED.add (lo := 1) (hi := most) (l1 := 1) (h1 := 1) (l2 := 0) (h2 := most - 1) (ED.n) (ED.take (M := most) rfl (.x (k := 1) (i := most) rfl m1 (Int.le_refl _)) (by omega) (by omega)) (by omega) (by omega) : ED lb [some (.ref lb), some (.int most), some (.ref st.length), some (.int w), none, none, none, none, none, none, none] (fOp addD (fC (.int 1)) (fFn 2 fn__law_take (fCons (fV 0) (fCons (fV 1) fNil)))) (Nn 1 most)) s1 (a1.bg b)
  obtain ⟨v, rfl, v1, v2⟩ := hv
  have a2 := a1.go b g2
  refine Ok.bind (Ok.bind (Ok.bind ⟨(.lst ((nms.map D.str).take v.toNat), s2), ?_, .pure ?_⟩))
  · simp only [e_sl, e_lz, e_cons, e_C, e_nil, Option.bind_some, e_oN, e_oS]
    rw [if_pos (by simp [sizeLine_eq])]
    simp only [Option.bind_some]
    rw [show (fOp addD (fC (.int 1)) (fFn 2 fn__law_take (fCons (fV 0) (fCons (fV 1) fNil))) ([some (D.ref lb), some (D.int most), some (D.ref (List.length st)), none, none, none, none, none, none, none, none].set 3 (some (D.int w))) s1) = some (D.int v, s2) from ev]
    simp only [Option.bind_some, e_slZ, cut_hi (show 0 ≤ v by omega)]
    rfl
  have fo := for_ok (tg := .one 4) (b := bodyS) (src := []) (items := (nms.map D.str).take v.toNat)
    (I := fun i ρ s => (∃ x4 x5 x6 x7 x8 x9 x10, ρ = [some (.ref lb), some (.int most), some (.ref st.length), some (.int w), x4, x5, x6, x7, x8, x9, x10]) ∧ ∃ ss : List Stn, ss.length = i ∧ (∀ o ∈ ss, o.Ok) ∧ ss.map Stn.nm = nms.take i ∧ Acc lb st (ss.map Stn.d) s)
    (fun _ _ _ _ => Intact.nil) (fun i d hd ρ s ⟨⟨x4, x5, x6, x7, x8, x9, x10, eρ⟩, ss, hl, hok, hnm, ha⟩ => ?_) _ 0 [some (.ref lb), some (.int most), some (.ref st.length), some (.int w), none, none, none, none, none, none, none] s2 rfl (Nat.zero_le _) ⟨⟨_, _, _, _, _, _, _, rfl⟩, [], rfl, by simp, by simp, a2⟩
  · obtain ⟨⟨fl, ρ', s3⟩, e3, hfl, ⟨x4, x5, x6, x7, x8, x9, x10, eρ⟩, ss, hl, hok, hnm, ha⟩ := fo
    simp only at hfl eρ ha
    subst hfl; subst eρ
    refine ⟨_, e3, ?_⟩
    refine ⟨(.rt (ssD ss), [some (.ref lb), some (.int most), some (.ref st.length), some (.int w), x4, x5, x6, x7, x8, x9, x10], s3), ?_, ssD ss, rfl, ⟨ss, rfl, ⟨?_, ?_, hok⟩, by rw [hl]; exact hnm, ?_⟩, pure_ss ss, ?_⟩
    · have q := e_listOfR ha.at
      simp only [e_ret, e_call, e_cons, e_nil, e_V, Option.bind_some]
      simp [tupleD, q, ssD]
    · rw [hl]
      simp [nms]
      omega
    · rw [hnm]; exact List.take_sublist _ _
    · rw [hl]
      simp [nms]
      omega
    · obtain ⟨s0, g0, rfl⟩ := ha
      exact ⟨s0, _, rfl, g0⟩
  · subst eρ
    obtain ⟨x, hx, rfl, hx2, hiv⟩ := nms_at hd
    refine ⟨_, rfl, ?_⟩
    have hi8 : i < 8 := (List.getElem?_eq_some_iff.mp hx2).1
    refine (bodyS_ok (x1 := some (.int most)) b ha (by simp [hl, sizeLine_eq]; omega) hx w1 w2).mono fun q ⟨e1, e2, o, ho, hno, ha2⟩ => ⟨e1, e2, ss ++ [o], by simp [hl], fun z hz => ?_, ?_, by simpa using ha2⟩
    · rcases List.mem_append.mp hz with z1 | z1
      · exact hok z z1
      · simp at z1; rw [z1]; exact ho
    · rw [List.map_append, hnm, List.take_succ, hx2]
      simp [hno]
end
end EL
set_option Elab.async false
set_option linter.all false
set_option maxRecDepth 100000
set_option maxHeartbeats 400000
namespace EL
open PySem PySem.Spec PyProof.Rows L2 GxR LG FW
end EL
set_option Elab.async false
set_option linter.all false
set_option maxRecDepth 100000
set_option maxHeartbeats 400000
namespace EL
open PySem PySem.Spec PyProof.Rows L2 GxR LG FW
section
variable {lb i : Nat} {st s : Sto} {a : Air} {t : List Int} {r : Stn}
def nmAt (a : Air) (j : Nat) : Str := ((a.ss[j]?).map Stn.nm).getD ""
end
end EL
set_option Elab.async false
set_option linter.all false
set_option maxRecDepth 100000
set_option maxHeartbeats 400000
namespace EL
open PySem PySem.Spec PyProof.Rows L2 GxR LG FW
section
variable {lb i many j : Nat} {st : Sto} {a : Air} {t bs : List Int} {r s : Stn} {d : D}
theorem or_ff {ta tb : FT} {ρ : Rho} {st1 : Sto} {z : Option (Bool × Sto)} (h : ta ρ st = some (false, st1)) (k : tb ρ st1 = z) : fTOr ta tb ρ st = z := by rw [e_tor, h]; exact k
def Dx (d : D) : Prop := ∃ g n, g ≤ 40 ∧ n ≤ 50 ∧ Dv g n d
theorem Dx.ok (h : Dx d) : okB 60 d = true := by
  obtain ⟨g, n, _, h2, h3⟩ := h
  exact okB_up h3.ok (by omega)
theorem Dx.tup {ds : List D} (h : Dx (.tup ds)) : ds.length ≤ 60 ∧ ∀ e ∈ ds, Dx e := by
  obtain ⟨g, n, h1, h2, h3⟩ := h
  cases n with
  | zero => exact (show False from h3).elim
  | succ n => exact ⟨by have := h3.1; omega, fun e he => ⟨g, n, h1, by omega, h3.2 e he⟩⟩
theorem Dx.str {x : Str} (h : Dx (.str x)) : PyData.strOk x = true := by
  have := h.ok
  unfold okB at this
  exact this
theorem eq_gen {c : D} (h1 : okB 60 c = true) (h2 : okB 60 d = true) : eqD c d st = some (.bl (eqB c d), st) ∧ neD c d st = some (.bl (!eqB c d), st) := by
  unfold eqD neD eqW
  simp only [val_data h1, val_data h2, h1, h2, and_self, if_true, Bool.false_eq_true, if_false]
abbrev hQ (a : Air) (bs : List Int) (p : D) (x4 x5 x6 : Option D) : Rho := [some (.lst (earsL a)), some (.lst (nmD a)), some (tun bs), some p, x4, x5, x6]
end
end EL
set_option Elab.async false
set_option linter.all false
set_option maxRecDepth 100000
set_option maxHeartbeats 400000
namespace EL
open PySem PySem.Spec PyProof.Rows L2 GxR LG FW
section
variable {lb i many j : Nat} {st : Sto} {a : Air} {t bs : List Int} {r s : Stn} {d : D}
noncomputable def bodyT (rec : HA) : FS := (sIf (fTNot (fTst (fFn 4 rec (fCons (fV 0) (fCons (fV 1) (fCons (fOp addD (fV 2) (fTup (fCons (fOp addD (fV 5) (fC (.int 1))) fNil))) (fCons (fOp ixD (fOp ixD (fV 3) (fC (.int 1))) (fV 5)) fNil))))))) (sRet (fC (.bl false))) sNext)
end
end EL
set_option Elab.async false
set_option linter.all false
set_option maxRecDepth 100000
set_option maxHeartbeats 400000
namespace EL
open PySem PySem.Spec PyProof.Rows L2 GxR LG FW
end EL
set_option Elab.async false
set_option linter.all false
set_option maxRecDepth 100000
set_option maxHeartbeats 400000
namespace EL
open PySem PySem.Spec PyProof.Rows L2 GxR LG FW BF
section
variable {lj lv i many j : Nat} {st s : Sto} {a : Air} {t u : List Int} {V : List (List Key × D)}
theorem for_fold {tg : Tg} {b : FS} {src : Src} {items : List D} {I : Nat → Rho → Sto → Prop} (hi : ∀ i ρ s, I i ρ s → Intact src s)
    (step : ∀ i d, items[i]? = some d → ∀ ρ s, I i ρ s → ∃ ρ1, tgD tg d ρ = some ρ1 ∧ ∃ f ρ2 s2, b ρ1 s = some (f, ρ2, s2) ∧ (f = .nx ∨ f = .ct) ∧ I (i + 1) ρ2 s2) {ρ : Rho} {s : Sto} (h0 : I 0 ρ s) :
    ∃ ρ2 s2, forD tg b src items ρ s = some (.nx, ρ2, s2) ∧ I items.length ρ2 s2 := by
  have main : ∀ (j i : Nat) (ρ : Rho) (s : Sto), j = items.length - i → i ≤ items.length → I i ρ s → ∃ ρ2 s2, forD tg b src (items.drop i) ρ s = some (.nx, ρ2, s2) ∧ I items.length ρ2 s2 := by
    intro j
    induction j with
    | zero =>
      intro i ρ s hj hl h
      have : i = items.length := by omega
      subst this
      rw [List.drop_length]
      unfold forD
      rw [if_pos (hi _ _ _ h)]
      exact ⟨_, _, rfl, h⟩
    | succ j ih =>
      intro i ρ s hj hl h
      have hlt : i < items.length := by omega
      rw [List.drop_eq_getElem_cons hlt]
      obtain ⟨ρ1, e1, f, ρ2, s2, e2, hf, h2⟩ := step i items[i] (List.getElem?_eq_getElem hlt) ρ s h
      obtain ⟨ρ3, s3, e3, h3⟩ := ih (i + 1) ρ2 s2 (by omega) (by omega) h2
      refine ⟨ρ3, s3, ?_, h3⟩
      unfold forD
      rw [if_pos (hi _ _ _ h), e1]
      simp only [Option.bind_some]
      rw [e2]
      simp only [Option.bind_some]
      rcases hf with rfl | rfl <;> exact e3
  obtain ⟨ρ2, s2, e, h⟩ := main items.length 0 ρ s (by omega) (Nat.zero_le _) h0
  exact ⟨ρ2, s2, by rw [List.drop_zero] at e; exact e, h⟩
def kT (t : List Int) : List Key := t.map Sum.inl
/-- what was reckoned so far -/
structure GoodV (a : Air) (V : List (List Key × D)) : Prop where
  nd : (V.map (·.1)).Nodup
  al : ∀ p ∈ V, ∃ t : List Int, p = (kT t, .bl (allH a t)) ∧ t.length = a.ss.length ∧ ∀ b ∈ t, 0 ≤ b ∧ b ≤ 9
theorem GoodV.nil : GoodV a [] := ⟨by simp, by simp⟩
theorem GoodV.len (g : GoodV a V) (h4 : a.ss.length ≤ 4) : V.length ≤ 10000 := by
  have : (V.map (·.1)).length ≤ ((unv 10 a.ss.length).map kT).length := nodup_le g.nd fun x hx => by
    obtain ⟨p, hp, rfl⟩ := List.mem_map.mp hx
    obtain ⟨t, rfl, h1, h2⟩ := g.al p hp
    exact List.mem_map_of_mem (unv_mem h1 fun y hy => by have := h2 y hy; omega)
  rw [List.length_map, List.length_map, unv_len] at this
  have : 10 ^ a.ss.length ≤ 10 ^ 4 := Nat.pow_le_pow_right (by decide) h4
  omega
def judO (a : Air) (lv : Nat) : O := .ins "Judge" [("ears", .lst (earsL a)), ("verdicts", .ref lv)]
theorem ins_ok {l : Nat} {c : Str} {fs : List (Str × D)} (h : s[l]? = some (.ins c fs)) : insOf c (.ref l) s = some (l, fs) := by
  unfold insOf
  simp only [h, if_true]
end
end EL
set_option Elab.async false
set_option linter.all false
set_option maxRecDepth 100000
set_option maxHeartbeats 400000
namespace EL
open PySem PySem.Spec PyProof.Rows L2 GxR LG FW BF
section
variable {lj lv lf i many j : Nat} {st s : Sto} {a : Air} {t u : List Int} {V : List (List Key × D)} {acc : List D}
theorem set_cut {α : Type} (t : List α) {i : Nat} (hi : i < t.length) (b : α) : t.take i ++ [b] ++ t.drop (i + 1) = t.set i b := by
  rw [List.set_eq_take_append_cons_drop, if_pos hi]
  simp
theorem retuned_eq {b : Int} (hi : i < t.length) (hl : t.length ≤ 20) : fn_retuned [tun t, .int (i : Nat), .int b] st = some (tun (t.set i b), st) := by
  unfold fn_retuned
  refine seal_same ?_ (by show pureL _ = true; exact pureL_map (fun _ => rfl) _)
  refine run_at (ρ := [some (tun t), some (.int (i : Nat)), some (.int b)]) (ρ' := [some (tun t), some (.int (i : Nat)), some (.int b)]) rfl (ret_ok ?_)
  have c1 : cutD (t.map D.int) none (some (i : Int)) = (t.take i).map D.int := by
    rw [cut_hi (by omega), List.map_take]
    rfl
  have c2 : cutD (t.map D.int) (some ((i : Int) + 1)) none = (t.drop (i + 1)).map D.int := by
    have := cut_from (ds := t.map D.int) (n := i + 1)
    rw [List.map_drop]
    exact this
  have f1 : fSl (fV 0) oNone (oSome (fV 1)) [some (tun t), some (.int (i : Nat)), some (.int b)] st = some (.tup ((t.take i).map D.int), st) := by
    unfold tun
    simp only [e_sl, e_V, e_oN, e_oS, List.getElem?_cons_zero, List.getElem?_cons_succ, Option.bind_some, e_slT, c1]
  have f2 : fSl (fV 0) (oSome (fOp addD (fV 1) (fC (.int 1)))) oNone [some (tun t), some (.int (i : Nat)), some (.int b)] st = some (.tup ((t.drop (i + 1)).map D.int), st) := by
    unfold tun
    simp only [e_sl, e_op, e_V, e_C, e_oN, e_oS, List.getElem?_cons_zero, List.getElem?_cons_succ, Option.bind_some, e_addI, e_slT, c2]
  have f3 : fTup (fCons (fV 2) fNil) [some (tun t), some (.int (i : Nat)), some (.int b)] st = some (.tup [.int b], st) := by
    simp [sizeLine_eq]
  have hz : ((t.take i).map D.int ++ [.int b] ++ (t.drop (i + 1)).map D.int) = (t.set i b).map D.int := by
    rw [← set_cut t hi b]
    simp
  refine op_ok (st1 := st) (op_ok (st1 := st) f1 f3 (addT (by simp; omega))) f2 ?_
  rw [addT (by simp; omega), hz]
  rfl
theorem meth_ok {ρ : Rho} {p l n : Nat} {c m : Str} {fs : List (Str × D)} {fr : FA} {fn : HA} {ds : List D} {z : D × Sto} (hp : ρ[p]? = some (some (.ref l))) (h : s[l]? = some (.ins c fs)) (hm : fs.lookup m = none) (hr : fr ρ s = some (ds, s)) (hn : (D.ref l :: ds).length = n) (hf : fn (.ref l :: ds) s = some z) : fMeth c m n fn (fV p) fr ρ s = some z := by
  unfold fMeth
  rw [e_V, hp]
  simp only [Option.bind_some]
  rw [ins_ok h]
  simp only [Option.bind_some]
  rw [if_pos hm, hr]
  simp only [Option.bind_some]
  rw [if_pos hn]
  exact hf
theorem tup3 {f g k : FE} {ρ : Rho} {st : Sto} {x y z : D} (h1 : f ρ st = some (x, st)) (h2 : g ρ st = some (y, st)) (h3 : k ρ st = some (z, st)) : fTup (fCons f (fCons g (fCons k fNil))) ρ st = some (.tup [x, y, z], st) := by
  simp [h1, h2, h3, sizeLine_eq]
theorem app_mid {s : Sto} {o o' : O} : (s ++ [o]).set s.length o' = s ++ [o'] := by
  rw [List.set_append_right _ _ (Nat.le_refl _), Nat.sub_self]
  rfl
end
end EL
set_option Elab.async false
set_option linter.all false
set_option maxRecDepth 100000
set_option maxHeartbeats 400000
namespace EL
open PySem PySem.Spec PyProof.Rows L2 GxR LG FW BF
section
variable {lj lv lf lb i many j : Nat} {st st0 s : Sto} {a : Air} {t u o : List Int} {R : Rows} {nb edge : List (List Int)}
def stepD (a : Air) (p : Stp) : D := .tup [.str (nmAt a p.1), .int p.2]
def rowE (a : Air) (p : List Int × List Stp) : List Key × D := (kT p.1, .lst (p.2.map (stepD a)))
structure WS (a : Air) (st0 : Sto) (R : Rows) (s : Sto) : Prop where
  pre : s.take st0.length = st0
  jd : s[st0.length]? = some (judO a (st0.length + 1))
  vd : ∃ V, s[st0.length + 1]? = some (.dT V) ∧ GoodV a V
  rd : s[st0.length + 2]? = some (.dT (R.map (rowE a)))
theorem take_set_ge {α : Type} {s : List α} {n l : Nat} {x : α} (h : n ≤ l) : (s.set l x).take n = s.take n := by
  rw [List.take_set]
  rw [List.set_eq_of_length_le (by rw [List.length_take]; omega)]
theorem WS.set (w : WS a st0 R s) {l : Nat} {x : O} (h : st0.length + 3 ≤ l) : WS a st0 R (s.set l x) where
  pre := by rw [take_set_ge (by omega)]; exact w.pre
  jd := by rw [List.getElem?_set_ne (by omega)]; exact w.jd
  vd := by rw [List.getElem?_set_ne (by omega)]; exact w.vd
  rd := by rw [List.getElem?_set_ne (by omega)]; exact w.rd
theorem WS.app (w : WS a st0 R s) {x : O} : WS a st0 R (s ++ [x]) where
  pre := by
    have := (List.getElem?_eq_some_iff.mp w.rd).1
    rw [List.take_append_of_le_length (by omega)]; exact w.pre
  jd := by rw [List.getElem?_append_left (List.getElem?_eq_some_iff.mp w.jd).1]; exact w.jd
  vd := by
    obtain ⟨V0, h, g⟩ := w.vd
    exact ⟨V0, by rw [List.getElem?_append_left (List.getElem?_eq_some_iff.mp h).1]; exact h, g⟩
  rd := by rw [List.getElem?_append_left (List.getElem?_eq_some_iff.mp w.rd).1]; exact w.rd
theorem find_map {α β : Type} (f : α → β) (p : β → Bool) : ∀ l : List α, (l.map f).find? p = (l.find? fun x => p (f x)).map f
  | [] => rfl
  | x :: l => by
    rw [List.map_cons, List.find?_cons, List.find?_cons]
    cases p (f x) with
    | true => rfl
    | false => exact find_map f p l
/-- all is small -/
structure Sz (a : Air) (b : Bf) : Prop where
  nd : (b.R.map (·.1)).Nodup
  kb : ∀ p ∈ b.R, p.1.length = a.ss.length ∧ ∀ x ∈ p.1, 0 ≤ x ∧ x ≤ 9
  ln : ∀ p ∈ b.R, p.2.length < b.R.length
  nn : b.nb.length ≤ b.R.length
theorem Sz.len {b : Bf} (h : Sz a b) (h4 : a.ss.length ≤ 4) : b.R.length ≤ 10000 := by
  have : (b.R.map (·.1)).length ≤ (unv 10 a.ss.length).length := nodup_le h.nd fun x hx => by
    obtain ⟨p, hp, rfl⟩ := List.mem_map.mp hx
    exact unv_mem (h.kb p hp).1 fun y hy => by have := (h.kb p hp).2 y hy; omega
  rw [List.length_map, unv_len] at this
  have : 10 ^ a.ss.length ≤ 10 ^ 4 := Nat.pow_le_pow_right (by decide) h4
  omega
theorem rowOf_lt {b : Bf} (h : Sz a b) (hk : hasK b.R t = true) : (BF.rowOf b.R t).length < b.R.length := by
  obtain ⟨row, hr⟩ := hasK_iff.mp hk
  rw [rowOf_eq h.nd hr]
  exact h.ln _ hr
theorem Sz.add {b : Bf} (h : Sz a b) (hk : hasK b.R t = true) {m : BF.Mv} (m1 : m.2.2.length = a.ss.length) (m2 : ∀ x ∈ m.2.2, 0 ≤ x ∧ x ≤ 9) : Sz a (addMv t b m) := by
  unfold addMv
  by_cases z : hasK b.R m.2.2 = true
  · rw [if_pos z]; exact h
  · rw [if_neg z]
    have hl := rowOf_lt h hk
    refine ⟨?_, ?_, ?_, ?_⟩
    · show ((b.R ++ [(m.2.2, BF.rowOf b.R t ++ [(m.1, m.2.1)])]).map (·.1)).Nodup
      rw [List.map_append, List.nodup_append]
      refine ⟨h.nd, by simp, fun x hx y hy e => z ?_⟩
      simp only [List.map_cons, List.map_nil, List.mem_singleton] at hy
      subst hy; subst e
      obtain ⟨p, hp, e⟩ := List.mem_map.mp hx
      exact hasK_iff.mpr ⟨p.2, by rw [← e]; exact hp⟩
    · intro p hp
      rcases List.mem_append.mp hp with hp | hp
      · exact h.kb p hp
      · rw [List.mem_singleton.mp hp]; exact ⟨m1, m2⟩
    · intro p hp
      show p.2.length < (b.R ++ [_]).length
      rw [List.length_append, List.length_singleton]
      rcases List.mem_append.mp hp with hp | hp
      · have := h.ln p hp; omega
      · rw [List.mem_singleton.mp hp]
        show (BF.rowOf b.R t ++ [(m.1, m.2.1)]).length < _
        rw [List.length_append, List.length_singleton]
        omega
    · have := h.nn
      show (b.nb ++ [_]).length ≤ (b.R ++ [_]).length
      simp only [List.length_append, List.length_singleton]
      omega
/-- the frame: what stands beyond stays -/
def FrS (n0 lb : Nat) (s s' : Sto) : Prop := s'.length = s.length ∧ ∀ l, n0 + 3 ≤ l → l ≠ lb → s'[l]? = s[l]?
theorem FrS.refl {n0 : Nat} : FrS n0 lb s s := ⟨rfl, fun _ _ _ => rfl⟩
theorem FrS.trans {n0 : Nat} {s1 s2 s3 : Sto} (h1 : FrS n0 lb s1 s2) (h2 : FrS n0 lb s2 s3) : FrS n0 lb s1 s3 := ⟨h2.1.trans h1.1, fun l a b => (h2.2 l a b).trans (h1.2 l a b)⟩
theorem FrS.set {n0 l : Nat} {x : O} (h : l < n0 + 3 ∨ l = lb) : FrS n0 lb s (s.set l x) := ⟨by simp, fun k a b => List.getElem?_set_ne (by omega)⟩
end
end EL
set_option Elab.async false
set_option linter.all false
set_option maxRecDepth 100000
set_option maxHeartbeats 400000
namespace EL
open PySem PySem.Spec PyProof.Rows L2 GxR LG FW BF
end EL
set_option Elab.async false
set_option linter.all false
set_option maxRecDepth 100000
set_option maxHeartbeats 400000
namespace EL
open PySem PySem.Spec PyProof.Rows L2 GxR LG FW BF
section
variable {lj lv lf lb i many j : Nat} {st st0 s : Sto} {a : Air} {t u o : List Int} {R : Rows} {nb edge : List (List Int)}
theorem runN_at {N : Nat} {sb : FS} {ds : List D} {ρ ρ' : Rho} {st1 : Sto} (hρ : ds.map some ++ List.replicate (N - ds.length) none = ρ) (h : sb ρ st = some (.nx, ρ', st1)) : runD N sb ds st = some (.non, st1) := by
  unfold runD
  rw [hρ, h]
  rfl
theorem fldT_ok {c f : Str} {fv fo : FE} {ρ : Rho} {v : D} {l : Nat} {st1 : Sto} {fs : List (Str × D)} (h1 : fv ρ st = some (v, st1)) (h2 : fo ρ st1 = some (.ref l, st1)) (h3 : st1[l]? = some (.ins c fs)) (h4 : fs.length < 1000) : sFldT c f fv fo ρ st = some (.nx, ρ, st1.set l (.ins c (putFD f v fs))) := by
  unfold sFldT
  rw [h1]
  simp only [Option.bind_some]
  rw [h2]
  simp only [Option.bind_some]
  rw [ins_ok h3]
  simp only [Option.bind_some]
  rw [if_pos h4]
theorem make_ok {c : Str} {n : Nat} {fn : HA} {fr : FA} {ρ : Rho} {ds : List D} {s2 : Sto} (h1 : fr ρ st = some (ds, st)) (hn : ds.length + 1 = n) (h2 : fn (.ref st.length :: ds) (st ++ [.ins c []]) = some (.non, s2)) : fMake c n fn fr ρ st = some (.ref st.length, s2) := by
  unfold fMake
  rw [h1]
  simp only [Option.bind_some]
  rw [if_pos hn, h2]
  rfl
theorem expr_ok {f : FE} {ρ : Rho} {d : D} {st1 : Sto} (h : f ρ st = some (d, st1)) : sExpr f ρ st = some (.nx, ρ, st1) := by rw [e_expr, h]; rfl
end
end EL
set_option Elab.async false
set_option linter.all false
set_option maxRecDepth 100000
set_option maxHeartbeats 400000
namespace EL
open PySem PySem.Spec PyProof.Rows L2 GxR LG FW BF
section
variable {i many j : Nat} {st s : Sto} {a : Air} {t t' u o : List Int} {R R' : Rows} {r : Stn}
/-- all gaps are the same -/
def Sim (t t' : List Int) : Prop := t.length = t'.length ∧ ∀ i j, gapI (t.getD i 0) (t.getD j 0) = gapI (t'.getD i 0) (t'.getD j 0)
theorem gap_self (b : Int) : gapI b b = if b = 0 then 2 else 0 := by
  unfold gapI
  by_cases h : b = 0
  · simp [h]
  · rw [if_neg (by simp [h]), if_neg h, Int.sub_self]
    rfl
theorem Sim.zero (S : Sim t t') (i : Nat) : t.getD i 0 = 0 ↔ t'.getD i 0 = 0 := by
  have := S.2 i i
  rw [gap_self, gap_self] at this
  generalize t.getD i 0 = x at this ⊢
  generalize t'.getD i 0 = y at this ⊢
  by_cases h1 : x = 0 <;> by_cases h2 : y = 0 <;> simp [h1, h2] at this ⊢
theorem zip_congr {α : Type} {f g : α → Int → Int} (hl : t.length = t'.length) : ∀ {oth : List α}, (∀ p, ∀ j, f p (t.getD j 0) = g p (t'.getD j 0)) → List.zipWith f oth t = List.zipWith g oth t' := by
  intro oth h
  apply List.ext_getElem?
  intro j
  rw [List.getElem?_zipWith, List.getElem?_zipWith]
  by_cases hj : j < t.length
  · have e1 : t[j]? = some (t.getD j 0) := by simp [hj]
    have e2 : t'[j]? = some (t'.getD j 0) := by have : j < t'.length := by omega
                                                simp [this]
    rw [e1, e2]
    cases oth[j]? with
    | none => rfl
    | some p => exact congrArg some (h p j)
  · have e1 : t[j]? = none := List.getElem?_eq_none_iff.mpr (by omega)
    have e2 : t'[j]? = none := List.getElem?_eq_none_iff.mpr (by omega)
    rw [e1, e2]
    cases oth[j]? <;> rfl
theorem Sim.heard (S : Sim t t') : heardB a t i r = heardB a t' i r := by
  unfold heardB disI
  rw [zip_congr (f := fun p o => pick3 p (gapI (t.getD i 0) o)) (g := fun p o => pick3 p (gapI (t'.getD i 0) o)) S.1 fun p j => by rw [S.2 i j]]
  have : decide (t.getD i 0 ≠ 0) = decide (t'.getD i 0 ≠ 0) := decide_eq_decide.mpr (by rw [ne_eq, ne_eq, S.zero i])
  rw [this]
theorem Sim.ok (S : Sim t t') (x : Stn × Nat) : okAt a t x = okAt a t' x := by
  unfold okAt
  rw [S.heard, decide_eq_decide.mpr (S.zero x.2)]
theorem Sim.all (S : Sim t t') : allH a t = allH a t' := by
  unfold allH
  congr 1
  funext x
  exact S.ok x
theorem Sim.dis (S : Sim t t') : disL a t i r = disL a t' i r := by
  unfold disL
  congr 1
  funext x
  unfold disAt disB
  rw [S.2 i x.2]
theorem Sim.send (S : Sim t t') : sendL a t r = sendL a t' r := by
  unfold sendL
  congr 2
  funext x
  unfold sendB
  rw [decide_eq_decide.mpr (show t.getD x.2 0 ≠ 0 ↔ t'.getD x.2 0 ≠ 0 by rw [ne_eq, ne_eq, S.zero])]
theorem getD_bd {c : Int} (h0 : 0 ≤ c) (hb : ∀ x ∈ t, 0 ≤ x ∧ x ≤ c) (i : Nat) : 0 ≤ t.getD i 0 ∧ t.getD i 0 ≤ c := by
  rw [List.getD_eq_getElem?_getD]
  cases e : t[i]? with
  | none => exact ⟨Int.le_refl _, h0⟩
  | some x => exact hb x (List.mem_of_getElem? e)
end
end EL
set_option Elab.async false
set_option linter.all false
set_option maxRecDepth 100000
set_option maxHeartbeats 400000
namespace EL
open PySem PySem.Spec PyProof.Rows L2 GxR LG FW BF
end EL
set_option Elab.async false
set_option linter.all false
set_option maxRecDepth 100000
set_option maxHeartbeats 400000
namespace EL
open PySem PySem.Spec PyProof.Rows L2 GxR LG FW BF
section
variable {i many j lb : Nat} {st s : Sto} {a : Air} {t t' u o : List Int} {R R' : Rows} {r : Stn}
theorem lc_map {α : Type} {fi : FI} {tg : Tg} {fe : FE} {vs : List Nat} {ρ : Rho} {l : List α} {enc w : α → D} (hi : fi ρ st = some (l.map enc, [], st)) (h : ∀ x ∈ l, ∃ ρ1, tgD tg (enc x) (wipeD ρ vs) = some ρ1 ∧ fe ρ1 st = some (w x, st)) (hz : l.length ≤ 1000) : fLcZ fi tg fYes fe vs ρ st = some (.lst (l.map w), st) := by
  have := lcE (tg := tg) (tt := fYes) (fe := fe) (src := []) (ρ := wipeD ρ vs) (st := st) (enc := enc) (b := fun _ => true) (w := w) (l := l) Intact.nil fun x hx => by
    obtain ⟨ρ1, h1, h2⟩ := h x hx
    exact ⟨ρ1, h1, rfl, fun _ => h2⟩
  rw [List.filter_eq_self.mpr (fun _ _ => rfl)] at this
  exact lcz_ok hi this (by rw [List.length_map]; exact hz)
theorem tup_lc {f : FE} {ρ : Rho} {ds : List D} {st1 : Sto} (h : f ρ st = some (.lst ds, st1)) : fCall tupleD (fCons f fNil) ρ st = some (.tup ds, st1) := by
  simp only [e_call, e_cons, e_nil, h, Option.bind_some, e_tupZ]
theorem tst_ok {f : FE} {ρ : Rho} {b : Bool} {st1 : Sto} (h : f ρ st = some (.bl b, st1)) : fTst f ρ st = some (b, st1) := by
  rw [e_tst, h]
  rfl
def Air.fst (a : Air) (n : Nat) : Air := ⟨a.ss.take n, a.lk⟩
end
end EL
set_option Elab.async false
set_option linter.all false
set_option maxRecDepth 100000
set_option maxHeartbeats 400000
namespace EL
open PySem PySem.Spec PyProof.Rows L2 GxR LG FW
section
variable {i j : Nat} {st : Sto} {a b : Air} {t u : List Int} {r r' : Stn} {xs : List Str}
abbrev Pr := Stn × Int
def pairsA (a : Air) (t : List Int) : List Pr := a.ss.zipIdx.map fun x => (x.1, t.getD x.2 0)
def rowP (lk : Int) (r : Stn) (ti : Int) (x : Pr) : List (Int × Int) :=
  if x.1.nm ≠ r.nm ∧ ti * x.2 > 0 then (if ti = x.2 then [(x.1.pw, spr x.1 r)] else if ti - x.2 = 1 ∨ ti - x.2 = -1 then [(x.1.pw, spr x.1 r * lk)] else []) else []
def rowsP (lk : Int) (r : Stn) (ti : Int) (l : List Pr) : List (Int × Int) := l.flatMap (rowP lk r ti)
def botP (l : List (Int × Int)) : Int := prodI (l.map (·.2))
def sumP (l : List (Int × Int)) : Int := (l.map fun p => p.1 * (botP l / p.2)).sum
def stP (r : Stn) (l : List (Int × Int)) : Bool := decide (r.nd * sumP l * spr r r ≤ r.pw * botP l)
theorem bot_P (rows : List Rw) : botI rows = botP (rows.map (·.2)) := by
  unfold botI botP
  rw [List.map_map]
  rfl
theorem sum_P (rows : List Rw) : sumI rows = sumP (rows.map (·.2)) := by
  unfold sumI sumP
  rw [List.map_map, bot_P]
  rfl
theorem idx_nm (h : SsOk a.ss) (e : a.ss[i]? = some r) {x : Stn × Nat} (hx : x ∈ a.ss.zipIdx) : x.2 = i ↔ x.1.nm = r.nm := by
  have ex := zipIdx_mem hx
  constructor
  · intro z
    rw [z, e] at ex
    cases ex
    rfl
  · intro z
    have nd : (a.ss.map Stn.nm).Nodup := h.nm.nodup (by decide)
    have h1 : (a.ss.map Stn.nm)[x.2]? = some r.nm := by rw [List.getElem?_map, ex]; simp [z]
    have h2 : (a.ss.map Stn.nm)[i]? = some r.nm := by rw [List.getElem?_map, e]; rfl
    obtain ⟨l1, g1⟩ := List.getElem?_eq_some_iff.mp h1
    obtain ⟨l2, g2⟩ := List.getElem?_eq_some_iff.mp h2
    exact (List.getElem_inj nd).mp (g1.trans g2.symm)
theorem flatMap_congr' {α β : Type} {f g : α → List β} : ∀ {l : List α}, (∀ x ∈ l, f x = g x) → l.flatMap f = l.flatMap g
  | [], _ => rfl
  | x :: l, h => by
    rw [List.flatMap_cons, List.flatMap_cons, h x List.mem_cons_self, flatMap_congr' fun y hy => h y (List.mem_cons_of_mem _ hy)]
theorem rows_P (h : a.Ok) (e : a.ss[i]? = some r) : (rowsL a t i r).map (·.2) = rowsP a.lk r (t.getD i 0) (pairsA a t) := by
  unfold rowsL rowsP pairsA
  rw [List.map_flatMap, List.flatMap_map]
  refine flatMap_congr' fun x hx => ?_
  have z := idx_nm h.ss e hx
  have rp : rowP a.lk r (t.getD i 0) (x.1, t.getD x.2 0) = if x.1.nm ≠ r.nm ∧ t.getD i 0 * t.getD x.2 0 > 0 then (if t.getD i 0 = t.getD x.2 0 then [(x.1.pw, spr x.1 r)] else if t.getD i 0 - t.getD x.2 0 = 1 ∨ t.getD i 0 - t.getD x.2 0 = -1 then [(x.1.pw, spr x.1 r * a.lk)] else []) else [] := rfl
  rw [rp]
  unfold rowAt
  by_cases q : x.2 = i
  · rw [if_neg (fun w => w.1 q), if_neg (fun w => w.1 (z.mp q))]
    rfl
  · by_cases p : t.getD i 0 * t.getD x.2 0 > 0
    · rw [if_pos (c := x.2 ≠ i ∧ _) ⟨q, p⟩, if_pos (c := x.1.nm ≠ r.nm ∧ _) ⟨fun w => q (z.mpr w), p⟩]
      by_cases c1 : t.getD i 0 = t.getD x.2 0
      · rw [if_pos c1, if_pos c1]
        rfl
      · rw [if_neg c1, if_neg c1]
        by_cases c2 : t.getD i 0 - t.getD x.2 0 = 1 ∨ t.getD i 0 - t.getD x.2 0 = -1
        · rw [if_pos c2, if_pos c2]
          rfl
        · rw [if_neg c2, if_neg c2]
          rfl
    · rw [if_neg (fun w => p w.2), if_neg (fun w => p w.2)]
      rfl
theorem heard_P (h : a.Ok) (ht : t.length = a.ss.length) (hb : ∀ b ∈ t, 0 ≤ b ∧ b ≤ 9) (e : a.ss[i]? = some r) (hi : 0 < t.getD i 0) : heardB a t i r = stP r (rowsP a.lk r (t.getD i 0) (pairsA a t)) := by
  rw [heard_rows h ht hb e hi, bot_P, sum_P, rows_P h e]
  rfl
theorem rowP_zero {lk ti : Int} {x : Pr} (h : x.2 = 0) : rowP lk r ti x = [] := by
  unfold rowP
  rw [if_neg (fun w => by rw [h, Int.mul_zero] at w; omega)]
/-- those who are silent count for nothing -/
theorem rowsP_nz {lk ti : Int} {f : Pr → Pr} (hf : ∀ x, x.2 = 0 → (f x).2 = 0) : ∀ l : List Pr, rowsP lk r ti ((l.filter fun x => decide (x.2 ≠ 0)).map f) = rowsP lk r ti (l.map f)
  | [] => rfl
  | x :: l => by
    have ih := rowsP_nz (lk := lk) (ti := ti) hf l
    unfold rowsP at ih ⊢
    by_cases z : x.2 = 0
    · rw [List.filter_cons_of_neg (by simp [z]), ih, List.map_cons, List.flatMap_cons, rowP_zero (hf x z), List.nil_append]
    · rw [List.filter_cons_of_pos (by simp [z]), List.map_cons, List.map_cons, List.flatMap_cons, List.flatMap_cons, ih]
def silP (xs : List Str) (x : Pr) : Pr := (x.1, if x.1.nm ∈ xs then 0 else x.2)
theorem silP_zero (x : Pr) (h : x.2 = 0) : (silP xs x).2 = 0 := by
  unfold silP
  simp only [h]
  split <;> rfl
theorem pairs_sil : pairsA a (silT a t xs) = (pairsA a t).map (silP xs) := by
  unfold pairsA
  rw [List.map_map]
  refine List.map_congr_left fun x hx => ?_
  show (x.1, _) = silP xs (x.1, t.getD x.2 0)
  rw [sil_at (zipIdx_mem hx)]
  rfl
/-- b is the air of those who send by t, u their bands -/
structure Sub (a : Air) (t : List Int) (b : Air) (u : List Int) : Prop where
  lk : b.lk = a.lk
  len : u.length = b.ss.length
  pr : pairsA b u = (pairsA a t).filter fun x => decide (x.2 ≠ 0)
theorem pairs_at (e : a.ss[i]? = some r) : (pairsA a t)[i]? = some (r, t.getD i 0) := by
  unfold pairsA
  rw [List.getElem?_map, List.getElem?_zipIdx, e]
  simp
theorem Sub.get (S : Sub a t b u) (e : a.ss[i]? = some r) (hi : t.getD i 0 ≠ 0) : ∃ j, b.ss[j]? = some r ∧ u.getD j 0 = t.getD i 0 := by
  have hm : (r, t.getD i 0) ∈ pairsA b u := by
    rw [S.pr, List.mem_filter]
    exact ⟨List.mem_of_getElem? (pairs_at e), decide_eq_true hi⟩
  obtain ⟨x, hx, ex⟩ := List.mem_map.mp hm
  refine ⟨x.2, ?_, congrArg Prod.snd ex⟩
  have := zipIdx_mem hx
  rw [this]
  exact congrArg (fun p : Pr => some p.1) ex
theorem Sub.heard (S : Sub a t b u) (ha : a.Ok) (hb : b.Ok) (ht : t.length = a.ss.length) (h9 : ∀ x ∈ t, 0 ≤ x ∧ x ≤ 9) (u9 : ∀ x ∈ u, 0 ≤ x ∧ x ≤ 9) (e : a.ss[i]? = some r) (e' : b.ss[j]? = some r) (ej : u.getD j 0 = t.getD i 0) (hx : r.nm ∉ xs) (hi : t.getD i 0 ≠ 0) :
    heardB b (silT b u xs) j r = heardB a (silT a t xs) i r := by
  have g1 : (silT a t xs).getD i 0 = t.getD i 0 := by rw [sil_at e, if_neg hx]
  have g2 : (silT b u xs).getD j 0 = t.getD i 0 := by rw [sil_at e', if_neg hx, ej]
  have pos : 0 < t.getD i 0 := by have := (getD_bd (c := 9) (by decide) h9 i).1; omega
  rw [heard_P ha sil_len (sil_ok h9) e (by omega), heard_P hb sil_len (sil_ok u9) e' (by omega), g1, g2, pairs_sil, pairs_sil, S.pr, S.lk, rowsP_nz silP_zero]
theorem fm_flat {M : Int} {α : Type} {f : α → List Rw} : ∀ l : List α, FM (l.flatMap f) M = (l.map fun x => FM (f x) M).sum
  | [] => rfl
  | x :: l => by
    rw [List.flatMap_cons, List.map_cons, List.sum_cons, ← fm_flat l]
    unfold FM
    rw [List.map_append, List.sum_append]
theorem sum_leQ {α : Type} {f g : α → Int} : ∀ {l : List α}, (∀ x ∈ l, f x ≤ g x) → (l.map f).sum ≤ (l.map g).sum
  | [], _ => Int.le_refl _
  | x :: l, h => by
    rw [List.map_cons, List.map_cons, List.sum_cons, List.sum_cons]
    have h1 := h x List.mem_cons_self
    have h2 := sum_leQ fun y hy => h y (List.mem_cons_of_mem _ hy)
    omega
theorem sum_nnQ : ∀ {l : List Int}, (∀ x ∈ l, 0 ≤ x) → 0 ≤ l.sum
  | [], _ => Int.le_refl _
  | x :: l, h => by
    rw [List.sum_cons]
    have h1 := h x List.mem_cons_self
    have h2 := sum_nnQ fun y hy => h y (List.mem_cons_of_mem _ hy)
    omega
/-- b is a with other powers, u is t with some silent; who isn't silent is no louder -/
structure Calmer (a : Air) (t : List Int) (b : Air) (u : List Int) (i : Nat) : Prop where
  lk : b.lk = a.lk
  len : b.ss.length = a.ss.length
  sp : ∀ (j : Nat) (s s' : Stn), a.ss[j]? = some s → b.ss[j]? = some s' → s'.px = s.px ∧ s'.py = s.py ∧ s'.hx = s.hx ∧ s'.hy = s.hy ∧ s'.nd = s.nd
  no : ∀ (j : Nat) (s s' : Stn), a.ss[j]? = some s → b.ss[j]? = some s' → j ≠ i → u.getD j 0 = 0 ∨ (u.getD j 0 = t.getD j 0 ∧ s'.pw ≤ s.pw)
  me : u.getD i 0 = t.getD i 0
  up : ∀ (s s' : Stn), a.ss[i]? = some s → b.ss[i]? = some s' → s.pw ≤ s'.pw
theorem spr_like {s s' r r' : Stn} (h1 : s'.px = s.px) (h2 : s'.py = s.py) (h3 : r'.hx = r.hx) (h4 : r'.hy = r.hy) : spr s' r' = spr s r := by
  unfold spr
  rw [h1, h2, h3, h4]
theorem Calmer.heard (C : Calmer a t b u i) (ha : a.Ok) (hb : b.Ok) (ht : t.length = a.ss.length) (hu : u.length = b.ss.length) (h9 : ∀ x ∈ t, 0 ≤ x ∧ x ≤ 9) (u9 : ∀ x ∈ u, 0 ≤ x ∧ x ≤ 9) (e : a.ss[i]? = some r) (e' : b.ss[i]? = some r') (hi : 0 < t.getD i 0) (hh : heardB a t i r = true) : heardB b u i r' = true := by
  have hr := ha.ss.all r (List.mem_of_getElem? e)
  have hr' := hb.ss.all r' (List.mem_of_getElem? e')
  obtain ⟨p1, p2, p3, p4, p5⟩ := C.sp i r r' e e'
  have es : spr r' r' = spr r r := spr_like p1 p2 p3 p4
  have sp := spr_pos hr hr
  rw [heard_rows ha ht h9 e hi] at hh
  rw [heard_rows hb hu u9 e' (by rw [C.me]; exact hi)]
  have hh := of_decide_eq_true hh
  refine decide_eq_true ?_
  rw [sum_fm] at hh ⊢
  have R1 : ∀ p ∈ rowsL a t i r, RwOk p := fun p hp => (row_mem ha hr hp).1
  have R2 : ∀ p ∈ rowsL b u i r', RwOk p := fun p hp => (row_mem hb hr' hp).1
  have B1 : 0 < botI (rowsL a t i r) := prodI_pos fun x hx => by
    obtain ⟨p, hp, rfl⟩ := List.mem_map.mp hx
    exact (R1 p hp).b.1
  have B2 : 0 < botI (rowsL b u i r') := prodI_pos fun x hx => by
    obtain ⟨p, hp, rfl⟩ := List.mem_map.mp hx
    exact (R2 p hp).b.1
  -- one bottom for both
  have key : ∀ x ∈ a.ss.zipIdx, ∃ s', b.ss[x.2]? = some s' ∧ (rowAt b u i r' (s', x.2) = [] ∨ ∃ q, rowAt b u i r' (s', x.2) = [(x.2, s'.pw, q)] ∧ rowAt a t i r x = [(x.2, x.1.pw, q)] ∧ s'.pw ≤ x.1.pw) := fun x hx => by
    have ex := zipIdx_mem hx
    have hl : x.2 < b.ss.length := by rw [C.len]; exact (List.getElem?_eq_some_iff.mp ex).1
    refine ⟨b.ss[x.2], List.getElem?_eq_getElem hl, ?_⟩
    have ey := List.getElem?_eq_getElem hl
    by_cases q : x.2 = i
    · left
      unfold rowAt
      rw [if_neg (fun w => w.1 q)]
    · obtain ⟨s1, s2, _⟩ := C.sp x.2 _ _ ex ey
      rcases C.no x.2 _ _ ex ey q with z | ⟨z, le⟩
      · left
        unfold rowAt
        rw [if_neg (fun w => by have := w.2; simp only at this; rw [z, Int.mul_zero] at this; omega)]
      · have ps : spr b.ss[x.2] r' = spr x.1 r := spr_like s1 s2 p3 p4
        unfold rowAt
        simp only [z, C.me, ps, C.lk]
        by_cases c0 : x.2 ≠ i ∧ t.getD i 0 * t.getD x.2 0 > 0
        · rw [if_pos c0, if_pos c0]
          by_cases c1 : t.getD i 0 = t.getD x.2 0
          · rw [if_pos c1, if_pos c1]
            exact .inr ⟨_, rfl, rfl, le⟩
          · rw [if_neg c1, if_neg c1]
            by_cases c2 : t.getD i 0 - t.getD x.2 0 = 1 ∨ t.getD i 0 - t.getD x.2 0 = -1
            · rw [if_pos c2, if_pos c2]
              exact .inr ⟨_, rfl, rfl, le⟩
            · rw [if_neg c2]
              exact .inl rfl
        · rw [if_neg c0]
          exact .inl rfl
  have zb : ∀ y ∈ b.ss.zipIdx, ∃ x ∈ a.ss.zipIdx, x.2 = y.2 := fun y hy => by
    have ey := zipIdx_mem hy
    have hl : y.2 < a.ss.length := by rw [← C.len]; exact (List.getElem?_eq_some_iff.mp ey).1
    refine ⟨(a.ss[y.2], y.2), ?_, rfl⟩
    rw [List.mem_iff_getElem?]
    exact ⟨y.2, by rw [List.getElem?_zipIdx, List.getElem?_eq_getElem hl]; simp⟩
  have sub : ∀ p ∈ rowsL b u i r', ∃ p' ∈ rowsL a t i r, p'.2.2 = p.2.2 := fun p hp => by
    obtain ⟨y, hy, hp⟩ := List.mem_flatMap.mp hp
    obtain ⟨x, hx, exy⟩ := zb y hy
    obtain ⟨s', es', k⟩ := key x hx
    have ey := zipIdx_mem hy
    rw [exy, ey] at es'
    cases es'
    rw [exy] at k
    rcases k with k | ⟨q, k1, k2, _⟩
    · have k : rowAt b u i r' y = [] := k
      rw [k] at hp; cases hp
    · have k1 : rowAt b u i r' y = _ := k1
      rw [k1, List.mem_singleton] at hp
      subst hp
      exact ⟨(y.2, x.1.pw, q), List.mem_flatMap.mpr ⟨x, hx, by rw [k2]; exact List.mem_singleton.mpr rfl⟩, rfl⟩
  have M0 : 0 < spr r r * botI (rowsL a t i r) := Int.mul_pos (by omega) B1
  have dvd1 : ∀ p ∈ rowsL a t i r, p.2.2 ∣ spr r r * botI (rowsL a t i r) := fun p hp => Int.dvd_trans (bot_dvd hp) (Int.dvd_mul_left _ _)
  have dvd2 : ∀ p ∈ rowsL b u i r', p.2.2 ∣ spr r r * botI (rowsL a t i r) := fun p hp => by
    obtain ⟨p', hp', e⟩ := sub p hp
    rw [← e]
    exact dvd1 p' hp'
  have c1 := (cross (rows := rowsL a t i r) (nd := r.nd) (pw := r.pw) (S := spr r r) (M := spr r r * botI (rowsL a t i r)) (B := botI (rowsL a t i r)) (by omega) M0 B1 (Int.dvd_mul_right _ _) dvd1 fun p hp => bot_dvd hp).mpr hh
  rw [es]
  refine (cross (rows := rowsL b u i r') (nd := r'.nd) (pw := r'.pw) (S := spr r r) (M := spr r r * botI (rowsL a t i r)) (B := botI (rowsL b u i r')) (by omega) M0 B2 (Int.dvd_mul_right _ _) dvd2 fun p hp => bot_dvd hp).mp ?_
  have fm : FM (rowsL b u i r') (spr r r * botI (rowsL a t i r)) ≤ FM (rowsL a t i r) (spr r r * botI (rowsL a t i r)) := by
    generalize spr r r * botI (rowsL a t i r) = M at M0 ⊢
    unfold rowsL
    rw [fm_flat, fm_flat]
    have eb : (b.ss.zipIdx.map fun y => FM (rowAt b u i r' y) M) = a.ss.zipIdx.map fun x => FM (rowAt b u i r' ((b.ss[x.2]?).getD r', x.2)) M := by
      apply List.ext_getElem?
      intro j
      rw [List.getElem?_map, List.getElem?_map, List.getElem?_zipIdx, List.getElem?_zipIdx]
      by_cases hj : j < a.ss.length
      · have hj2 : j < b.ss.length := by rw [C.len]; exact hj
        simp [hj, hj2]
      · have h1 : a.ss[j]? = none := List.getElem?_eq_none_iff.mpr (by omega)
        have h2 : b.ss[j]? = none := List.getElem?_eq_none_iff.mpr (by rw [C.len]; omega)
        rw [h1, h2]
        rfl
    rw [eb]
    refine sum_leQ fun x hx => ?_
    obtain ⟨s', es', k⟩ := key x hx
    rw [es', Option.getD_some]
    rcases k with k | ⟨q, k1, k2, le⟩
    · rw [k]
      unfold FM
      refine sum_nnQ fun v hv => ?_
      obtain ⟨p, hp, rfl⟩ := List.mem_map.mp hv
      have := R1 p (List.mem_flatMap.mpr ⟨x, hx, hp⟩)
      exact Int.mul_nonneg (by have := this.t.1; omega) (Int.ediv_nonneg (Int.le_of_lt M0) (by have := this.b.1; omega))
    · rw [k1, k2]
      unfold FM
      simp only [List.map_cons, List.map_nil, List.sum_cons, List.sum_nil, Int.add_zero]
      have := R1 (x.2, x.1.pw, q) (List.mem_flatMap.mpr ⟨x, hx, by rw [k2]; exact List.mem_singleton.mpr rfl⟩)
      exact Int.mul_le_mul_of_nonneg_right le (Int.ediv_nonneg (Int.le_of_lt M0) (by have := this.b.1; simp only at this; omega))
  have nd0 : 0 ≤ r.nd := by have := hr.nd.1; omega
  rw [p5]
  have s1 := Int.mul_le_mul_of_nonneg_left fm nd0
  have s2 : r.pw * (spr r r * botI (rowsL a t i r) / spr r r) ≤ r'.pw * (spr r r * botI (rowsL a t i r) / spr r r) := Int.mul_le_mul_of_nonneg_right (C.up r r' e e') (Int.ediv_nonneg (Int.le_of_lt M0) (by omega))
  omega
end
end EL
set_option Elab.async false
set_option linter.all false
set_option maxRecDepth 100000
set_option maxHeartbeats 400000
namespace EL
open PySem PySem.Spec PyProof.Rows L2 GxR LG FW
structure Lic where
  nm : Str
  bd : Int
  pr : Int
  fs : Int
  ls : Int
def Lic.o (l : Lic) : O := .ins "Licence" [("name", .str l.nm), ("band", .int l.bd), ("price", .int l.pr), ("first", .int l.fs), ("last", .int l.ls)]
structure Hs where
  prices : List Int
  lk : Int
  hour : Int
  ss : List Stn
  pw : List (Str × Int)
  db : List (Str × Int)
  gv : List Lic
  rows : Nat → List (Str × Nat)
def Hs.air (h : Hs) : Air := ⟨h.ss, h.lk⟩
def kvI (l : List (Str × Int)) : List (Key × D) := l.map fun p => (Sum.inr p.1, D.int p.2)
def kvN (l : List (Str × Nat)) : List (Key × D) := l.map fun p => (Sum.inr p.1, D.int (p.2 : Nat))
def houseO (lh : Nat) (h : Hs) (b : Bool) : O := .ins "House" [("busy", .bl b), ("prices", tun h.prices), ("leak", .int h.lk), ("hour", .int h.hour), ("members", ssD h.ss), ("powers", .ref (lh + 1)), ("debts", .ref (lh + 2)), ("board", .ref (lh + 3))]
def rowsD (lh : Nat) : List D := (List.range 1000).map fun i => .ref (lh + 5 + i)
def boardO (lh : Nat) : O := .ins "Board" [("given", .ref (lh + 4)), ("rows", .lst (rowsD lh))]
def deedO (lh : Nat) : O := .ins "Deed" [("house", .ref lh)]
structure HAt (lh : Nat) (ll : List Nat) (h : Hs) (b : Bool) (st : Sto) : Prop where
  hs : st[lh]? = some (houseO lh h b)
  pw : st[lh + 1]? = some (.dK (kvI h.pw))
  db : st[lh + 2]? = some (.dK (kvI h.db))
  bd : st[lh + 3]? = some (boardO lh)
  gv : st[lh + 4]? = some (.lst (ll.map D.ref))
  gl : ll.length = h.gv.length
  hi : ∀ x ∈ ll, lh + 1005 ≤ x
  lc : ∀ (i l : Nat) (lic : Lic), ll[i]? = some l → h.gv[i]? = some lic → st[l]? = some lic.o
  rw : ∀ i, i < 1000 → st[lh + 5 + i]? = some (.dK (kvN (h.rows i)))
section
variable {lh i j n : Nat} {ll : List Nat} {h h' : Hs} {b b' : Bool} {st st1 s : Sto} {ρ ρ' : Rho} {x : Str} {t : List Int} {a : Air} {r : Stn}
theorem app_l {α : Type} {s more : List α} {l : Nat} {o : α} (e : s[l]? = some o) : (s ++ more)[l]? = some o := by rw [List.getElem?_append_left (List.getElem?_eq_some_iff.mp e).1]; exact e
theorem HAt.app (A : HAt lh ll h b st) (more : Sto) : HAt lh ll h b (st ++ more) :=
  ⟨app_l A.hs, app_l A.pw, app_l A.db, app_l A.bd, app_l A.gv, A.gl, A.hi, fun i l lic e1 e2 => app_l (A.lc i l lic e1 e2), fun i hi => app_l (A.rw i hi)⟩
theorem HAt.ll_ne (A : HAt lh ll h b st) {i l k : Nat} (e : ll[i]? = some l) (hk : k < lh + 1005) : k ≠ l := by
  have := A.hi l (List.mem_of_getElem? e)
  omega
theorem HAt.lt (A : HAt lh ll h b st) : lh + 1004 < st.length := (List.getElem?_eq_some_iff.mp (A.rw 999 (by decide))).1
theorem HAt.setH (A : HAt lh ll h b st) (e1 : h'.pw = h.pw) (e2 : h'.db = h.db) (e3 : h'.gv = h.gv) (e4 : h'.rows = h.rows) : HAt lh ll h' b' (st.set lh (houseO lh h' b')) where
  hs := List.getElem?_set_self (List.getElem?_eq_some_iff.mp A.hs).1
  pw := by rw [List.getElem?_set_ne (by omega), e1]; exact A.pw
  db := by rw [List.getElem?_set_ne (by omega), e2]; exact A.db
  bd := by rw [List.getElem?_set_ne (by omega)]; exact A.bd
  gv := by rw [List.getElem?_set_ne (by omega)]; exact A.gv
  gl := by rw [e3]; exact A.gl
  hi := A.hi
  lc := fun i l lic q1 q2 => by rw [List.getElem?_set_ne (A.ll_ne q1 (by omega))]; exact A.lc i l lic q1 (by rw [← e3]; exact q2)
  rw := fun i hi => by rw [List.getElem?_set_ne (by omega), e4]; exact A.rw i hi
theorem HAt.setP (A : HAt lh ll h b st) (p : List (Str × Int)) : HAt lh ll { h with pw := p } b (st.set (lh + 1) (.dK (kvI p))) where
  hs := by rw [List.getElem?_set_ne (by omega)]; exact A.hs
  pw := List.getElem?_set_self (List.getElem?_eq_some_iff.mp A.pw).1
  db := by rw [List.getElem?_set_ne (by omega)]; exact A.db
  bd := by rw [List.getElem?_set_ne (by omega)]; exact A.bd
  gv := by rw [List.getElem?_set_ne (by omega)]; exact A.gv
  gl := A.gl
  hi := A.hi
  lc := fun i l lic q1 q2 => by rw [List.getElem?_set_ne (A.ll_ne q1 (by omega))]; exact A.lc i l lic q1 q2
  rw := fun i hi => by rw [List.getElem?_set_ne (by omega)]; exact A.rw i hi
theorem HAt.setD (A : HAt lh ll h b st) (p : List (Str × Int)) : HAt lh ll { h with db := p } b (st.set (lh + 2) (.dK (kvI p))) where
  hs := by rw [List.getElem?_set_ne (by omega)]; exact A.hs
  pw := by rw [List.getElem?_set_ne (by omega)]; exact A.pw
  db := List.getElem?_set_self (List.getElem?_eq_some_iff.mp A.db).1
  bd := by rw [List.getElem?_set_ne (by omega)]; exact A.bd
  gv := by rw [List.getElem?_set_ne (by omega)]; exact A.gv
  gl := A.gl
  hi := A.hi
  lc := fun i l lic q1 q2 => by rw [List.getElem?_set_ne (A.ll_ne q1 (by omega))]; exact A.lc i l lic q1 q2
  rw := fun i hi => by rw [List.getElem?_set_ne (by omega)]; exact A.rw i hi
theorem HAt.setR (A : HAt lh ll h b st) {k : Nat} (hk : k < 1000) (p : List (Str × Nat)) : HAt lh ll { h with rows := fun i => if i = k then p else h.rows i } b (st.set (lh + 5 + k) (.dK (kvN p))) where
  hs := by rw [List.getElem?_set_ne (by omega)]; exact A.hs
  pw := by rw [List.getElem?_set_ne (by omega)]; exact A.pw
  db := by rw [List.getElem?_set_ne (by omega)]; exact A.db
  bd := by rw [List.getElem?_set_ne (by omega)]; exact A.bd
  gv := by rw [List.getElem?_set_ne (by omega)]; exact A.gv
  gl := A.gl
  hi := A.hi
  lc := fun i l lic q1 q2 => by rw [List.getElem?_set_ne (A.ll_ne q1 (by omega))]; exact A.lc i l lic q1 q2
  rw := fun i hi => by
    by_cases e : i = k
    · subst e
      simp only [if_true]
      exact List.getElem?_set_self (List.getElem?_eq_some_iff.mp (A.rw i hi)).1
    · simp only [if_neg e]
      rw [List.getElem?_set_ne (by omega)]
      exact A.rw i hi
/-- a licence is put up -/
theorem HAt.setG (A : HAt lh ll h b st) {l : Nat} {lic : Lic} (hl : lh + 1005 ≤ l) (e : st[l]? = some lic.o) : HAt lh (ll ++ [l]) { h with gv := h.gv ++ [lic] } b (st.set (lh + 4) (.lst ((ll ++ [l]).map D.ref))) where
  hs := by rw [List.getElem?_set_ne (by omega)]; exact A.hs
  pw := by rw [List.getElem?_set_ne (by omega)]; exact A.pw
  db := by rw [List.getElem?_set_ne (by omega)]; exact A.db
  bd := by rw [List.getElem?_set_ne (by omega)]; exact A.bd
  gv := List.getElem?_set_self (List.getElem?_eq_some_iff.mp A.gv).1
  gl := by simp [A.gl]
  hi := fun x hx => by
    rcases List.mem_append.mp hx with hx | hx
    · exact A.hi x hx
    · rw [List.mem_singleton.mp hx]; exact hl
  lc := fun i k lc q1 q2 => by
    by_cases z : i < ll.length
    · rw [List.getElem?_append_left z] at q1
      rw [List.getElem?_append_left (by rw [← A.gl]; exact z)] at q2
      rw [List.getElem?_set_ne (A.ll_ne q1 (by omega))]
      exact A.lc i k lc q1 q2
    · have lt := (List.getElem?_eq_some_iff.mp q1).1
      simp at lt
      have ei : i = ll.length := by omega
      subst ei
      rw [List.getElem?_append_right (Nat.le_refl _)] at q1
      rw [A.gl, List.getElem?_append_right (Nat.le_refl _)] at q2
      simp at q1 q2
      subst q1; subst q2
      rw [List.getElem?_set_ne (by omega)]
      exact e
  rw := fun i hi => by rw [List.getElem?_set_ne (by omega)]; exact A.rw i hi
theorem fldE {c f : Str} {fa : FE} {l : Nat} {fs : List (Str × D)} {d : D} (h1 : fa ρ st = some (.ref l, st1)) (h2 : st1[l]? = some (.ins c fs)) (h3 : fs.lookup f = some d) : fFld c f fa ρ st = some (d, st1) := by
  unfold fFld
  rw [h1]
  simp only [Option.bind_some]
  rw [ins_ok h2]
  simp only [Option.bind_some]
  rw [h3]
  rfl
theorem h_prices {fa : FE} (A : HAt lh ll h b st) (e : fa ρ st = some (.ref lh, st)) : fFld "House" "prices" fa ρ st = some (tun h.prices, st) := fldE e A.hs rfl
theorem h_leak {fa : FE} (A : HAt lh ll h b st) (e : fa ρ st = some (.ref lh, st)) : fFld "House" "leak" fa ρ st = some (.int h.lk, st) := fldE e A.hs rfl
theorem h_hour {fa : FE} (A : HAt lh ll h b st) (e : fa ρ st = some (.ref lh, st)) : fFld "House" "hour" fa ρ st = some (.int h.hour, st) := fldE e A.hs rfl
theorem h_members {fa : FE} (A : HAt lh ll h b st) (e : fa ρ st = some (.ref lh, st)) : fFld "House" "members" fa ρ st = some (ssD h.ss, st) := fldE e A.hs rfl
theorem h_powers {fa : FE} (A : HAt lh ll h b st) (e : fa ρ st = some (.ref lh, st)) : fFld "House" "powers" fa ρ st = some (.ref (lh + 1), st) := fldE e A.hs rfl
theorem h_debts {fa : FE} (A : HAt lh ll h b st) (e : fa ρ st = some (.ref lh, st)) : fFld "House" "debts" fa ρ st = some (.ref (lh + 2), st) := fldE e A.hs rfl
theorem h_board {fa : FE} (A : HAt lh ll h b st) (e : fa ρ st = some (.ref lh, st)) : fFld "House" "board" fa ρ st = some (.ref (lh + 3), st) := fldE e A.hs rfl
theorem b_given {fa : FE} (A : HAt lh ll h b st) (e : fa ρ st = some (.ref (lh + 3), st)) : fFld "Board" "given" fa ρ st = some (.ref (lh + 4), st) := fldE e A.bd rfl
theorem b_rows {fa : FE} (A : HAt lh ll h b st) (e : fa ρ st = some (.ref (lh + 3), st)) : fFld "Board" "rows" fa ρ st = some (.lst (rowsD lh), st) := fldE e A.bd rfl
theorem row_at {fa fi : FE} (A : HAt lh ll h b st) (e : fa ρ st = some (.ref (lh + 3), st)) (hi : i < 1000) (e2 : fi ρ st = some (.int (i : Nat), st)) : fOp ixD (fFld "Board" "rows" fa) fi ρ st = some (.ref (lh + 5 + i), st) := by
  refine op_ok (b_rows A e) e2 ?_
  rw [e_ixZ, atI_nat]
  unfold rowsD
  rw [List.getElem?_map, List.getElem?_range hi]
  rfl
def look {α : Type} (l : List (Str × α)) (x : Str) : Option α := (l.find? fun p => decide (p.1 = x)).map (·.2)
theorem val_kvI (l : List (Str × Int)) (x : Str) : valD (kvI l) (Sum.inr x) = (look l x).map D.int := by
  unfold valD kvI look
  rw [find_map]
  have : (fun p : Str × Int => decide (((Sum.inr p.1 : Key), D.int p.2).1 = Sum.inr x)) = fun p => decide (p.1 = x) := by
    funext p
    exact decide_eq_decide.mpr ⟨fun e => Sum.inr.inj e, fun e => congrArg Sum.inr e⟩
  rw [this]
  cases l.find? fun p => decide (p.1 = x) <;> rfl
theorem val_kvN (l : List (Str × Nat)) (x : Str) : valD (kvN l) (Sum.inr x) = (look l x).map fun n => D.int (n : Nat) := by
  unfold valD kvN look
  rw [find_map]
  have : (fun p : Str × Nat => decide (((Sum.inr p.1 : Key), D.int (p.2 : Nat)).1 = Sum.inr x)) = fun p => decide (p.1 = x) := by
    funext p
    exact decide_eq_decide.mpr ⟨fun e => Sum.inr.inj e, fun e => congrArg Sum.inr e⟩
  rw [this]
  cases l.find? fun p => decide (p.1 = x) <;> rfl
theorem dictK_ok {l : Nat} {kvs : List (Key × D)} (e : st[l]? = some (.dK kvs)) : dictK (.ref l) st = some (l, kvs) := by
  unfold dictK
  simp only [e]
theorem inK_ok {l : Nat} {kvs : List (Key × D)} {neg : Bool} (e : st[l]? = some (.dK kvs)) : inK neg (.str x) (.ref l) st = some (.bl (nB neg (valD kvs (Sum.inr x)).isSome), st) := by
  unfold inK
  show Option.bind (some (Sum.inr x : Key)) _ = _
  simp only [Option.bind_some]
  rw [dictK_ok e]
  rfl
theorem getK_ok {l : Nat} {kvs : List (Key × D)} {d : D} (e : st[l]? = some (.dK kvs)) (hv : valD kvs (Sum.inr x) = some d) : getK (.ref l) (.str x) st = some (d, st) := by
  unfold getK
  rw [dictK_ok e]
  simp only [Option.bind_some]
  show Option.bind (some (Sum.inr x : Key)) _ = _
  simp only [Option.bind_some]
  rw [hv]
  rfl
theorem get1K_ok {fo fe : FE} {l : Nat} {kvs : List (Key × D)} (h1 : fo ρ st = some (.ref l, st)) (h2 : fe ρ st = some (.str x, st)) (e : st[l]? = some (.dK kvs)) : fDGet1K fo fe ρ st = some ((valD kvs (Sum.inr x)).getD .non, st) := by
  unfold fDGet1K
  rw [h1]
  simp only [Option.bind_some]
  rw [dictK_ok e]
  simp only [Option.bind_some]
  rw [h2]
  simp only [Option.bind_some]
  unfold getNK
  rw [dictK_ok e]
  rfl
def Hs.band (h : Hs) (x : Str) (i : Nat) : Int := match look (h.rows i) x with
  | none => 0
  | some n => ((h.gv[n]?).map Lic.bd).getD 0
/-- each number of a row is one of a licence -/
def Hs.RowsOk (h : Hs) : Prop := ∀ i, i < 1000 → ∀ p ∈ h.rows i, p.2 < h.gv.length
theorem look_mem {α : Type} {l : List (Str × α)} {v : α} (e : look l x = some v) : (x, v) ∈ l := by
  unfold look at e
  obtain ⟨p, h1, h2⟩ := Option.map_eq_some_iff.mp e
  have := List.find?_some h1
  have hp := of_decide_eq_true this
  have hm := List.mem_of_find?_eq_some h1
  subst h2; subst hp
  exact hm
theorem band_of_eq (A : HAt lh ll h b st) (R : h.RowsOk) (hi : i < 1000) : fn_Board__band_of [.ref (lh + 3), .str x, .int (i : Nat)] st = some (.int (h.band x i), st) := by
  unfold fn_Board__band_of
  refine seal_same ?_ rfl
  have g1 : fDGet1K (fOp ixD (fFld "Board" "rows" (fV 0)) (fV 2)) (fV 1) [some (.ref (lh + 3)), some (.str x), some (.int (i : Nat)), none] st = some ((valD (kvN (h.rows i)) (Sum.inr x)).getD .non, st) := get1K_ok (row_at A rfl hi rfl) rfl (A.rw i hi)
  rw [val_kvN] at g1
  unfold Hs.band
  cases e : look (h.rows i) x with
  | none =>
    rw [e] at g1
    exact run_at (ρ := [some (.ref (lh + 3)), some (.str x), some (.int (i : Nat)), none]) (ρ' := [some (.ref (lh + 3)), some (.str x), some (.int (i : Nat)), some .non]) rfl (seqT (set_ok g1) (seqR (if_then (tst_ok (b := true) (op_ok (st1 := st) (d := .non) (e := .non) (st2 := st) rfl rfl rfl)) (ret_ok rfl))))
  | some n =>
    rw [e] at g1
    have hn : n < h.gv.length := R i hi _ (look_mem e)
    have hn2 : n < ll.length := by rw [A.gl]; exact hn
    obtain ⟨lic, el⟩ : ∃ lic, h.gv[n]? = some lic := ⟨_, List.getElem?_eq_getElem hn⟩
    obtain ⟨l, e2⟩ : ∃ l, ll[n]? = some l := ⟨_, List.getElem?_eq_getElem hn2⟩
    have lo := A.lc n l lic e2 el
    have g2 : fOp ixD (fFld "Board" "given" (fV 0)) (fV 3) [some (.ref (lh + 3)), some (.str x), some (.int (i : Nat)), some (.int (n : Nat))] st = some (.ref l, st) := by
      refine op_ok (b_given A rfl) (e := .int (n : Nat)) (st2 := st) rfl ?_
      rw [e_ixL A.gv, atI_nat, List.getElem?_map, e2]
      rfl
    have g3 : fFld "Licence" "band" (fOp ixD (fFld "Board" "given" (fV 0)) (fV 3)) [some (.ref (lh + 3)), some (.str x), some (.int (i : Nat)), some (.int (n : Nat))] st = some (.int lic.bd, st) := fldE g2 lo rfl
    show _ = some (D.int ((Option.map Lic.bd h.gv[n]?).getD 0), st)
    rw [el]
    exact run_at (ρ := [some (.ref (lh + 3)), some (.str x), some (.int (i : Nat)), none]) (ρ' := [some (.ref (lh + 3)), some (.str x), some (.int (i : Nat)), some (.int (n : Nat))]) rfl (seqT (set_ok g1) (seqT (if_no (tst_ok (b := false) (op_ok (st1 := st) (d := .int (n : Nat)) (e := .non) (st2 := st) rfl rfl rfl))) (ret_ok g3)))
theorem methE {c m : Str} {fn : HA} {fo : FE} {fr : FA} {l : Nat} {fs : List (Str × D)} {ds : List D} {s1 s2 : Sto} {z : D × Sto} (h1 : fo ρ st = some (.ref l, s1)) (h2 : s1[l]? = some (.ins c fs)) (h3 : fs.lookup m = none) (h4 : fr ρ s1 = some (ds, s2)) (hn : (D.ref l :: ds).length = n) (hf : fn (.ref l :: ds) s2 = some z) : fMeth c m n fn fo fr ρ st = some z := by
  unfold fMeth
  rw [h1]
  simp only [Option.bind_some]
  rw [ins_ok h2]
  simp only [Option.bind_some]
  rw [if_pos h3, h4]
  simp only [Option.bind_some]
  rw [if_pos hn]
  exact hf
def Hs.tun (h : Hs) (ss : List Stn) (i : Nat) : List Int := ss.map fun s => h.band s.nm i
theorem tuning_in_eq {ss : List Stn} (A : HAt lh ll h b st) (R : h.RowsOk) (hi : i < 1000) (hl : ss.length ≤ 8) : fn_Board__tuning_in [.ref (lh + 3), ssD ss, .int (i : Nat)] st = some (EL.tun (h.tun ss i), st) := by
  unfold fn_Board__tuning_in
  refine seal_same ?_ (pure_tun _)
  refine run_at (ρ := [some (.ref (lh + 3)), some (ssD ss), some (.int (i : Nat)), none]) (ρ' := [some (.ref (lh + 3)), some (ssD ss), some (.int (i : Nat)), none]) rfl (ret_ok (tup_lc ?_))
  unfold Hs.tun
  rw [List.map_map]
  refine lc_map (l := ss) (enc := Stn.d) (w := D.int ∘ fun s => h.band s.nm i) rfl (fun s hs => ⟨[some (.ref (lh + 3)), some (ssD ss), some (.int (i : Nat)), some s.d], rfl, ?_⟩) (by omega)
  refine methE (l := lh + 3) (s1 := st) rfl A.bd rfl (ds := [.str s.nm, .int (i : Nat)]) (s2 := st) rfl rfl (band_of_eq A R hi)
end
end EL
set_option Elab.async false
set_option linter.all false
set_option maxRecDepth 100000
set_option maxHeartbeats 400000
namespace EL
open PySem PySem.Spec PyProof.Rows L2 GxR LG FW
section
variable {lh i j n : Nat} {ll : List Nat} {h h' : Hs} {b b' : Bool} {st st1 s : Sto} {ρ ρ' : Rho} {x : Str} {t : List Int} {a : Air} {r : Stn}
theorem range2_nat {fr : FA} {f l : Nat} (e : fr ρ st = some ([.int (f : Nat), .int ((l : Nat) + 1)], st1)) (hl : l ≤ 5000) (hf : f ≤ 5000) : iRange2 fr ρ st = some (rangeD (f : Nat) (l + 1 - f), [], st1) := by
  have c1 : -(2 ^ 62 : Int) ≤ (f : Nat) ∧ ((f : Nat) : Int) < 2 ^ 62 := ⟨Int.le_trans (by decide) (by omega : (0 : Int) ≤ (f : Nat)), Int.lt_of_le_of_lt (by omega : ((f : Nat) : Int) ≤ 5000) (by decide)⟩
  have c2 : -(2 ^ 62 : Int) ≤ (l : Int) + 1 ∧ (l : Int) + 1 < 2 ^ 62 := ⟨Int.le_trans (by decide) (by omega : (0 : Int) ≤ (l : Int) + 1), Int.lt_of_le_of_lt (by omega : (l : Int) + 1 ≤ 6000) (by decide)⟩
  have c3 : ((l : Int) + 1 - (f : Nat)).toNat = l + 1 - f := by omega
  rw [range2_gen e, if_pos ⟨c1, c2⟩, c3]
theorem check_station_ok (A : HAt lh ll h b st) (hx : x ∈ nms) (hd : (look h.db x).isSome = true) : fn_House__check_station [.ref lh, .str x] st = some (.non, st) := by
  unfold fn_House__check_station
  refine seal_same ?_ rfl
  refine runN_at (ρ := [some (.ref lh), some (.str x)]) (ρ' := [some (.ref lh), some (.str x)]) rfl ?_
  have f1 : fFn 1 fn_is_name (fCons (fV 1) fNil) [some (.ref lh), some (.str x)] st = some (.bl true, st) := fn_ok (ds := [.str x]) (st1 := st) rfl rfl (name_eq hx)
  have f2 : fOp (inK true) (fV 1) (fFld "House" "debts" (fV 0)) [some (.ref lh), some (.str x)] st = some (.bl false, st) := by
    rw [op_ok (st1 := st) (d := .str x) rfl (h_debts A rfl) (inK_ok A.db), val_kvI, Option.isSome_map, hd]
    rfl
  exact if_no (or_ff (tnot_ok f1) (tst_ok f2))
theorem check_hours_ok {f l : Nat} (A : HAt lh ll h b st) (h1 : h.hour ≤ (f : Nat)) (h2 : f ≤ l) (h3 : l ≤ f + 23) (h4 : l ≤ 999) : fn_House__check_hours [.ref lh, .int (f : Nat), .int (l : Nat)] st = some (.non, st) := by
  unfold fn_House__check_hours
  refine seal_same ?_ rfl
  refine runN_at (ρ := [some (.ref lh), some (.int (f : Nat)), some (.int (l : Nat))]) (ρ' := [some (.ref lh), some (.int (f : Nat)), some (.int (l : Nat))]) rfl ?_
  have f1 : fFn 3 fn_is_whole (fCons (fV 1) (fCons (fFld "House" "hour" (fV 0)) (fCons (fC (.int 999)) fNil))) [some (.ref lh), some (.int (f : Nat)), some (.int (l : Nat))] st = some (.bl true, st) := by
    refine fn_ok (ds := [.int (f : Nat), .int h.hour, .int 999]) (st1 := st) ?_ rfl (whole_eq h1 (by omega))
    rw [e_cons, e_V]
    simp only [List.getElem?_cons_zero, List.getElem?_cons_succ, Option.bind_some]
    rw [e_cons, h_hour A rfl]
    rfl
  obtain ⟨m, hm, m1⟩ : ∃ m : Int, minD [.int ((f : Nat) + 23), .int 999] st = some (.int m, st) ∧ (l : Nat) ≤ m := by
    refine ⟨if 999 < ((f : Nat) : Int) + 23 then 999 else ((f : Nat) : Int) + 23, rfl, ?_⟩
    split <;> omega
  have f2 : fFn 3 fn_is_whole (fCons (fV 2) (fCons (fV 1) (fCons (fCall minD (fCons (fOp addD (fV 1) (fC (.int 23))) (fCons (fC (.int 999)) fNil))) fNil))) [some (.ref lh), some (.int (f : Nat)), some (.int (l : Nat))] st = some (.bl true, st) := by
    refine fn_ok (ds := [.int (l : Nat), .int (f : Nat), .int m]) (st1 := st) ?_ rfl (whole_eq (by omega) m1)
    have g : fCall minD (fCons (fOp addD (fV 1) (fC (.int 23))) (fCons (fC (.int 999)) fNil)) [some (.ref lh), some (.int (f : Nat)), some (.int (l : Nat))] st = some (.int m, st) := hm
    rw [e_cons, e_V]
    simp only [List.getElem?_cons_zero, List.getElem?_cons_succ, Option.bind_some]
    rw [e_cons, e_V]
    simp only [List.getElem?_cons_zero, List.getElem?_cons_succ, Option.bind_some]
    rw [e_cons, g]
    rfl
  exact if_no (or_ff (tnot_ok f1) (tnot_ok f2))
theorem range_item {lo : Int} {k : Nat} {d : D} (hk : (rangeD lo n)[k]? = some d) : k < n ∧ d = .int (lo + (k : Nat)) := by
  obtain ⟨hk1, ek⟩ := List.getElem?_eq_some_iff.mp hk
  have hk1 : k < n := by simpa [rangeD] using hk1
  exact ⟨hk1, by rw [← ek]; simp [rangeD]⟩
theorem bandM {fo fn' : FE} (A : HAt lh ll h b st) (R : h.RowsOk) (hi : i < 1000) {fr : FA} (e1 : fo ρ st = some (.ref (lh + 3), st)) (e2 : fr ρ st = some ([.str x, .int (i : Nat)], st)) : fMeth "Board" "band_of" 3 fn_Board__band_of fo fr ρ st = some (.int (h.band x i), st) :=
  methE (l := lh + 3) (s1 := st) e1 A.bd rfl e2 rfl (band_of_eq A R hi)
theorem check_free_ok {f l : Nat} (A : HAt lh ll h b st) (R : h.RowsOk) (h4 : l ≤ 999) (hf : f ≤ 999) (hb : ∀ k, f ≤ k → k ≤ l → h.band x k = 0) : fn_House__check_free [.ref lh, .str x, .int (f : Nat), .int (l : Nat)] st = some (.non, st) := by
  unfold fn_House__check_free
  refine seal_same ?_ rfl
  have rg : iRange2 (fCons (fV 2) (fCons (fOp addD (fV 3) (fC (.int 1))) fNil)) [some (.ref lh), some (.str x), some (.int (f : Nat)), some (.int (l : Nat)), none] st = some (rangeD (f : Nat) (l + 1 - f), [], st) := range2_nat rfl (by omega) (by omega)
  obtain ⟨ρ2, s2, ef, ⟨y4, e1⟩, e2⟩ := for_fold (tg := .one 4) (b := sIf (fTst (fOp neD (fMeth "Board" "band_of" 3 fn_Board__band_of (fFld "House" "board" (fV 0)) (fCons (fV 1) (fCons (fV 4) fNil))) (fC (.int 0)))) sNever sNext) (src := []) (items := rangeD (f : Nat) (l + 1 - f))
    (I := fun _ ρ s' => (∃ y4, ρ = [some (.ref lh), some (.str x), some (.int (f : Nat)), some (.int (l : Nat)), y4]) ∧ s' = st)
    (fun _ _ _ _ => Intact.nil) (fun k d hk ρ s' ⟨⟨y4, hρ⟩, hs⟩ => by
      subst hρ; subst hs
      obtain ⟨hk1, rfl⟩ := range_item hk
      have ek : (f : Int) + (k : Nat) = ((f + k : Nat) : Int) := by omega
      rw [ek]
      have g := bandM (fn' := fV 0) (ρ := [some (.ref lh), some (.str x), some (.int (f : Nat)), some (.int (l : Nat)), some (.int ((f + k : Nat) : Int))]) (x := x) (i := f + k) A R (by omega) (fo := fFld "House" "board" (fV 0)) (fr := fCons (fV 1) (fCons (fV 4) fNil)) (h_board A rfl) rfl
      rw [hb (f + k) (by omega) (by omega)] at g
      exact ⟨_, rfl, .nx, _, _, if_no (ne_same (d := .int 0) rfl g rfl), .inl rfl, ⟨_, rfl⟩, rfl⟩) (ρ := [some (.ref lh), some (.str x), some (.int (f : Nat)), some (.int (l : Nat)), none]) (s := st) ⟨⟨_, rfl⟩, rfl⟩
  subst e1; subst e2
  exact runN_at (ρ := [some (.ref lh), some (.str x), some (.int (f : Nat)), some (.int (l : Nat)), none]) (ρ' := [some (.ref lh), some (.str x), some (.int (f : Nat)), some (.int (l : Nat)), y4]) rfl (for_at rg ef)
def Hs.tuns (h : Hs) (f l : Nat) : Ts := (List.range (l + 1 - f)).map fun k => h.tun h.ss (f + k)
def Hs.fits (h : Hs) (i f l : Nat) (b : Int) : Bool := (sortT (h.tuns f l)).all fun t => allH h.air (t.set i b)
def Hs.least (h : Hs) (i f l : Nat) : Option Nat := (List.range h.prices.length).findSome? fun k => if h.fits i f l (1 + (k : Nat)) = true then some (1 + k) else none
theorem fits_iff {f l : Nat} {bd : Int} : h.fits i f l bd = true ↔ ∀ k, f ≤ k → k ≤ l → allH h.air ((h.tun h.ss k).set i bd) = true := by
  unfold Hs.fits
  rw [List.all_eq_true]
  constructor
  · intro q k k1 k2
    refine q _ (sortT_mem.mpr (List.mem_map.mpr ⟨k - f, List.mem_range.mpr (by omega), ?_⟩))
    rw [show f + (k - f) = k by omega]
  · intro q t ht
    obtain ⟨k, hk, rfl⟩ := List.mem_map.mp (sortT_mem.mp ht)
    have := List.mem_range.mp hk
    exact q _ (by omega) (by omega)
theorem allG_all {fi : FI} {fe : FE} {cap : List (Option Nat)} {items : List D} {ys : Rho} {p : D → Bool} (hi : fi ρ st = some (items, [], st)) (hc : capD cap ρ = none :: ys) (hp : ∀ d ∈ items, fe (some d :: ys) st = some (.bl (p d), st)) : fAllG fi (.one 0) fe cap ρ st = some (.bl (items.all p), st) := by
  unfold fAllG
  rw [hi]
  simp only [Option.bind_some, hc]
  have key : ∀ (items : List D) (z : Option D), (∀ d ∈ items, fe (some d :: ys) st = some (.bl (p d), st)) → allD (.one 0) fe [] items (z :: ys) st = some (items.all p, st) := by
    intro items
    induction items with
    | nil => intro z _; unfold allD; rw [if_pos Intact.nil]; rfl
    | cons d items ih =>
      intro z hd
      unfold allD
      rw [if_pos Intact.nil]
      show Option.bind (fe (some d :: ys) st) _ = _
      rw [hd d List.mem_cons_self]
      simp only [Option.bind_some, e_asB]
      cases q : p d with
      | false => simp [q]
      | true =>
        rw [if_pos rfl]
        show allD (.one 0) fe [] items (some d :: ys) st = _
        rw [ih _ fun e he => hd e (List.mem_cons_of_mem _ he)]
        simp [q]
  rw [key items none hp]
  rfl
theorem for_find {α : Type} {tg : Tg} {bd : FS} {enc : α → D} {F : α → Option D} {I : Rho → Prop} : ∀ {l : List α} {ρ : Rho}, I ρ →
    (∀ x ∈ l, ∀ ρ, I ρ → ∃ ρ1 ρ2, tgD tg (enc x) ρ = some ρ1 ∧ I ρ2 ∧ bd ρ1 st = some ((F x).elim .nx .rt, ρ2, st)) →
    ∃ ρ', forD tg bd [] (l.map enc) ρ st = some ((l.findSome? F).elim .nx .rt, ρ', st) ∧ I ρ'
  | [], ρ, i, _ => ⟨ρ, by unfold forD; simp only [List.map_nil]; rw [if_pos Intact.nil]; rfl, i⟩
  | x :: l, ρ, i, hh => by
    obtain ⟨ρ1, ρ2, e1, i2, e2⟩ := hh x List.mem_cons_self ρ i
    simp only [List.map_cons]
    unfold forD
    rw [if_pos Intact.nil, e1]
    simp only [Option.bind_some]
    rw [e2]
    cases q : F x with
    | some v =>
      refine ⟨ρ2, ?_, i2⟩
      rw [List.findSome?_cons, q]
      rfl
    | none =>
      obtain ⟨ρ', e3, i3⟩ := for_find (l := l) i2 fun y hy => hh y (List.mem_cons_of_mem _ hy)
      refine ⟨ρ', ?_, i3⟩
      rw [List.findSome?_cons, q]
      exact e3
theorem keysT_map : ∀ ts : Ts, keysT (ts.map EL.tun) = some ts
  | [] => rfl
  | t :: ts => by
    have e : intsOf1 (EL.tun t) = some t := intsD_map t
    rw [List.map_cons, keysT, e, keysT_map ts]
    rfl
theorem sortTs_ok {fi : FI} {tg : Tg} {fe : FE} {vs : List Nat} {ts : Ts} {items : List D} (h1 : fi ρ st = some (items, [], st)) (h2 : lcZ tg fYes fe [] (wipeD ρ vs) items st = some (ts.map EL.tun, st)) (hz : ts.length < 60) (hB : BdOk n ts) : fSortTs fi tg fe vs ρ st = some (.lst ((sortT ts).map EL.tun), st) := by
  unfold fSortTs
  rw [h1]
  simp only [Option.bind_some]
  rw [h2]
  simp only [Option.bind_some]
  rw [keysT_map]
  simp only [Option.bind_some]
  rw [if_pos ⟨hz, n, hB⟩]
  rfl
/-- all bands are bands -/
def Hs.BandOk (h : Hs) : Prop := ∀ (x : Str) (i : Nat), i < 1000 → 0 ≤ h.band x i ∧ h.band x i ≤ 9
theorem tun_bd (B : h.BandOk) (hi : i < 1000) {ss : List Stn} : ∀ y ∈ h.tun ss i, 0 ≤ y ∧ y ≤ 9 := fun y hy => by
  obtain ⟨s, _, rfl⟩ := List.mem_map.mp hy
  exact B _ _ hi
theorem htun_len {ss : List Stn} : (h.tun ss i).length = ss.length := by unfold Hs.tun; rw [List.length_map]
theorem least_band_eq {f l : Nat} (A : HAt lh ll h b st) (ha : h.air.Ok) (R : h.RowsOk) (B : h.BandOk) (e : h.ss[i]? = some r) (h2 : f ≤ l) (h3 : l ≤ f + 23) (h4 : l ≤ 999) (hp : h.prices.length ≤ 9) : fn_House__least_band [.ref lh, .str r.nm, .int (f : Nat), .int (l : Nat)] st = some (natO (h.least i f l), st) := by
  have hi : i < h.ss.length := (List.getElem?_eq_some_iff.mp e).1
  have l8 : h.ss.length ≤ 8 := ha.ss.len.2
  unfold fn_House__least_band
  refine seal_same ?_ (by cases h.least i f l <;> rfl)
  have g4 : fFn 1 fn_ears_of (fCons (fTup (fCons (fFld "House" "members" (fV 0)) (fCons (fFld "House" "leak" (fV 0)) fNil))) fNil) [some (.ref lh), some (.str r.nm), some (.int (f : Nat)), some (.int (l : Nat)), none, none, none, none, none] st = some (.lst (earsL h.air), st) := by
    refine fn_ok (ds := [h.air.d]) (st1 := st) ?_ rfl (ears_eq ha)
    rw [e_cons, tup2 (h_members A rfl) (h_leak A rfl)]
    rfl
  have g5 : fFn 2 fn_seat (fCons (fFld "House" "members" (fV 0)) (fCons (fV 1) fNil)) [some (.ref lh), some (.str r.nm), some (.int (f : Nat)), some (.int (l : Nat)), some (.lst (earsL h.air)), none, none, none, none] st = some (.int (i : Nat), st) := by
    refine fn_ok (ds := [ssD h.ss, .str r.nm]) (st1 := st) ?_ rfl (seat_eq ha.ss e)
    rw [e_cons, h_members A rfl]
    rfl
  have rg : iRange2 (fCons (fV 2) (fCons (fOp addD (fV 3) (fC (.int 1))) fNil)) [some (.ref lh), some (.str r.nm), some (.int (f : Nat)), some (.int (l : Nat)), some (.lst (earsL h.air)), some (.int (i : Nat)), none, none, none] st = some (rangeD (f : Nat) (l + 1 - f), [], st) := range2_nat rfl (by omega) (by omega)
  have lcs : lcZ (.one 8) fYes (fMeth "Board" "tuning_in" 3 fn_Board__tuning_in (fFld "House" "board" (fV 0)) (fCons (fFld "House" "members" (fV 0)) (fCons (fV 8) fNil))) [] (wipeD [some (.ref lh), some (.str r.nm), some (.int (f : Nat)), some (.int (l : Nat)), some (.lst (earsL h.air)), some (.int (i : Nat)), none, none, none] [8]) (rangeD (f : Nat) (l + 1 - f)) st = some ((h.tuns f l).map EL.tun, st) := by
    unfold rangeD Hs.tuns
    rw [List.map_map]
    have := lcE (tg := .one 8) (tt := fYes) (fe := fMeth "Board" "tuning_in" 3 fn_Board__tuning_in (fFld "House" "board" (fV 0)) (fCons (fFld "House" "members" (fV 0)) (fCons (fV 8) fNil))) (src := []) (ρ := wipeD [some (.ref lh), some (.str r.nm), some (.int (f : Nat)), some (.int (l : Nat)), some (.lst (earsL h.air)), some (.int (i : Nat)), none, none, none] [8]) (st := st) (enc := fun k : Nat => D.int ((f : Nat) + (k : Nat))) (b := fun _ => true) (w := EL.tun ∘ fun k => h.tun h.ss (f + k)) (l := List.range (l + 1 - f)) Intact.nil fun k hk => by
      have hk := List.mem_range.mp hk
      refine ⟨[some (.ref lh), some (.str r.nm), some (.int (f : Nat)), some (.int (l : Nat)), some (.lst (earsL h.air)), some (.int (i : Nat)), none, none, some (.int ((f : Nat) + (k : Nat)))], rfl, rfl, fun _ => ?_⟩
      refine methE (l := lh + 3) (s1 := st) (h_board A rfl) A.bd rfl (ds := [ssD h.ss, .int ((f + k : Nat) : Int)]) (s2 := st) ?_ rfl (tuning_in_eq A R (by omega) l8)
      rw [e_cons, h_members A rfl]
      show some ([ssD h.ss, D.int ((f : Nat) + (k : Nat))], st) = _
      rw [show ((f : Nat) : Int) + (k : Nat) = ((f + k : Nat) : Int) by omega]
    rw [List.filter_eq_self.mpr (fun _ _ => rfl)] at this
    exact this
  have bd : BdOk h.ss.length (h.tuns f l) := ⟨ha.ss.len.1, fun t ht => by
    obtain ⟨k, hk, rfl⟩ := List.mem_map.mp ht
    have hk := List.mem_range.mp hk
    exact ⟨htun_len, fun m hm => by have := tun_bd B (i := f + k) (by omega) m hm; omega⟩⟩
  have g6 := sortTs_ok (vs := [8]) rg lcs (by unfold Hs.tuns; rw [List.length_map, List.length_range]; omega) bd
  have rg2 : iRange2 (fCons (fC (.int 1)) (fCons (fOp addD (fCall lenD (fCons (fFld "House" "prices" (fV 0)) fNil)) (fC (.int 1))) fNil)) [some (.ref lh), some (.str r.nm), some (.int (f : Nat)), some (.int (l : Nat)), some (.lst (earsL h.air)), some (.int (i : Nat)), some (.lst ((sortT (h.tuns f l)).map EL.tun)), none, none] st = some (rangeD 1 h.prices.length, [], st) := by
    refine range2_ok ?_ (by omega)
    have g : fCall lenD (fCons (fFld "House" "prices" (fV 0)) fNil) [some (.ref lh), some (.str r.nm), some (.int (f : Nat)), some (.int (l : Nat)), some (.lst (earsL h.air)), some (.int (i : Nat)), some (.lst ((sortT (h.tuns f l)).map EL.tun)), none, none] st = some (.int (h.prices.length : Nat), st) := by
      rw [e_call, e_cons, h_prices A rfl]
      show lenD [EL.tun h.prices] st = _
      unfold EL.tun
      rw [e_lenT, List.length_map]
    rw [e_cons, e_C]
    simp only [Option.bind_some]
    rw [e_cons, op_ok g rfl e_addI]
    rfl
  obtain ⟨ρ', ef, ⟨y7, e7⟩⟩ := for_find (st := st) (tg := .one 7) (bd := sIf (fTst (fAllG (iSeq (fV 6)) (.one 0) (fFn 2 fn_all_heard (fCons (fV 1) (fCons (fFn 3 fn_retuned (fCons (fV 0) (fCons (fV 2) (fCons (fV 3) fNil)))) fNil))) [none, some 4, some 5, some 7])) (sRet (fV 7)) sNext) (enc := fun k : Nat => D.int (1 + (k : Nat))) (F := fun k => (if h.fits i f l (1 + (k : Nat)) = true then some (1 + k) else none).map fun m : Nat => D.int (m : Nat))
    (I := fun ρ => ∃ y7, ρ = [some (.ref lh), some (.str r.nm), some (.int (f : Nat)), some (.int (l : Nat)), some (.lst (earsL h.air)), some (.int (i : Nat)), some (.lst ((sortT (h.tuns f l)).map EL.tun)), y7, none]) (l := List.range h.prices.length) (ρ := [some (.ref lh), some (.str r.nm), some (.int (f : Nat)), some (.int (l : Nat)), some (.lst (earsL h.air)), some (.int (i : Nat)), some (.lst ((sortT (h.tuns f l)).map EL.tun)), none, none]) ⟨_, rfl⟩ (by
      intro k hk ρ ⟨y7, hρ⟩
      subst hρ
      refine ⟨[some (.ref lh), some (.str r.nm), some (.int (f : Nat)), some (.int (l : Nat)), some (.lst (earsL h.air)), some (.int (i : Nat)), some (.lst ((sortT (h.tuns f l)).map EL.tun)), some (.int (1 + (k : Nat))), none], [some (.ref lh), some (.str r.nm), some (.int (f : Nat)), some (.int (l : Nat)), some (.lst (earsL h.air)), some (.int (i : Nat)), some (.lst ((sortT (h.tuns f l)).map EL.tun)), some (.int (1 + (k : Nat))), none], rfl, ⟨_, rfl⟩, ?_⟩
      have al := allG_all (st := st) (fi := iSeq (fV 6)) (fe := fFn 2 fn_all_heard (fCons (fV 1) (fCons (fFn 3 fn_retuned (fCons (fV 0) (fCons (fV 2) (fCons (fV 3) fNil)))) fNil))) (cap := [none, some 4, some 5, some 7]) (ρ := [some (.ref lh), some (.str r.nm), some (.int (f : Nat)), some (.int (l : Nat)), some (.lst (earsL h.air)), some (.int (i : Nat)), some (.lst ((sortT (h.tuns f l)).map EL.tun)), some (.int (1 + (k : Nat))), none]) (items := (sortT (h.tuns f l)).map EL.tun) (ys := [some (.lst (earsL h.air)), some (.int (i : Nat)), some (.int (1 + (k : Nat)))]) (p := fun d => match d with
          | .tup ds => allH h.air (((intsD ds).getD []).set i (1 + (k : Nat)))
          | _ => false) rfl rfl fun d hd => by
        obtain ⟨t, ht, rfl⟩ := List.mem_map.mp hd
        have bt := bd.all t (sortT_mem.mp ht)
        have r1 : fFn 3 fn_retuned (fCons (fV 0) (fCons (fV 2) (fCons (fV 3) fNil))) [some (EL.tun t), some (.lst (earsL h.air)), some (.int (i : Nat)), some (.int (1 + (k : Nat)))] st = some (EL.tun (t.set i (1 + (k : Nat))), st) := fn_ok (ds := [EL.tun t, .int (i : Nat), .int (1 + (k : Nat))]) (st1 := st) rfl rfl (retuned_eq (by rw [bt.1]; exact hi) (by rw [bt.1]; omega))
        refine fn_ok (ds := [.lst (earsL h.air), EL.tun (t.set i (1 + (k : Nat)))]) (st1 := st) ?_ rfl ?_
        · rw [e_cons, e_V]
          simp only [List.getElem?_cons_zero, List.getElem?_cons_succ, Option.bind_some]
          rw [e_cons, r1]
          rfl
        · have e1 : (intsD (t.map D.int)).getD [] = t := by rw [intsD_map]; rfl
          show _ = some (D.bl (allH h.air (((intsD (t.map D.int)).getD []).set i (1 + (k : Nat)))), st)
          rw [e1]
          exact all_heard_eq ha (by rw [List.length_set, bt.1]; rfl)
      have ef : ((sortT (h.tuns f l)).map EL.tun).all (fun d => match d with
          | .tup ds => allH h.air (((intsD ds).getD []).set i (1 + (k : Nat)))
          | _ => false) = h.fits i f l (1 + (k : Nat)) := by
        unfold Hs.fits
        rw [List.all_map]
        refine List.all_congr rfl ?_ |> fun z => z
        intro t
        show allH h.air (((intsD (t.map D.int)).getD []).set i (1 + (k : Nat))) = _
        rw [intsD_map]
        rfl
      rw [ef] at al
      cases q : h.fits i f l (1 + (k : Nat)) with
      | true =>
        rw [q] at al
        refine if_then (tst_ok al) (ret_ok ?_)
        show some (D.int (1 + (k : Nat)), st) = some (D.int ((1 + k : Nat) : Int), st)
        rw [show (1 : Int) + (k : Nat) = ((1 + k : Nat) : Int) by omega]
      | false =>
        rw [q] at al
        exact if_no (tst_ok al))
  subst e7
  have ex : (List.range h.prices.length).findSome? (fun k => (if h.fits i f l (1 + (k : Nat)) = true then some (1 + k) else none).map fun m : Nat => D.int (m : Nat)) = (h.least i f l).map fun m : Nat => D.int (m : Nat) := by
    unfold Hs.least
    rw [List.map_findSome?]
    rfl
  rw [ex] at ef
  have ef2 : forD (.one 7) (sIf (fTst (fAllG (iSeq (fV 6)) (.one 0) (fFn 2 fn_all_heard (fCons (fV 1) (fCons (fFn 3 fn_retuned (fCons (fV 0) (fCons (fV 2) (fCons (fV 3) fNil)))) fNil))) [none, some 4, some 5, some 7])) (sRet (fV 7)) sNext) [] (rangeD 1 h.prices.length) [some (.ref lh), some (.str r.nm), some (.int (f : Nat)), some (.int (l : Nat)), some (.lst (earsL h.air)), some (.int (i : Nat)), some (.lst ((sortT (h.tuns f l)).map EL.tun)), none, none] st = _ := ef
  refine run_at (ρ := [some (.ref lh), some (.str r.nm), some (.int (f : Nat)), some (.int (l : Nat)), none, none, none, none, none]) (ρ' := [some (.ref lh), some (.str r.nm), some (.int (f : Nat)), some (.int (l : Nat)), some (.lst (earsL h.air)), some (.int (i : Nat)), some (.lst ((sortT (h.tuns f l)).map EL.tun)), y7, none]) rfl ?_
  refine seqT (set_ok g4) (seqT (set_ok g5) (seqT (set_ok g6) ?_))
  cases q : h.least i f l with
  | some m =>
    rw [q] at ef2
    exact seqR (for_at rg2 ef2)
  | none =>
    rw [q] at ef2
    exact seqT (for_at rg2 ef2) (ret_ok rfl)
end
end EL
set_option Elab.async false
set_option linter.all false
set_option maxRecDepth 100000
set_option maxHeartbeats 400000
namespace EL
open PySem PySem.Spec PyProof.Rows L2 GxR LG FW
section
variable {lh i j n : Nat} {ll ll' : List Nat} {h h' : Hs} {b b' : Bool} {st st1 s s1 s2 s3 : Sto} {ρ ρ' : Rho} {x y : Str} {t : List Int} {a : Air} {r : Stn}
def putA {α : Type} (l : List (Str × α)) (x : Str) (v : α) : List (Str × α) := if (l.any fun p => decide (p.1 = x)) = true then l.map (fun p => if p.1 = x then (p.1, v) else p) else l ++ [(x, v)]
theorem put_kv {α : Type} {f : α → D} (l : List (Str × α)) (x : Str) (v : α) : putD (l.map fun p => ((Sum.inr p.1 : Key), f p.2)) (Sum.inr x) (f v) = (putA l x v).map fun p => ((Sum.inr p.1 : Key), f p.2) := by
  unfold putD putA
  have ea : ((l.map fun p => ((Sum.inr p.1 : Key), f p.2)).any fun kv => decide (kv.1 = Sum.inr x)) = l.any fun p => decide (p.1 = x) := by
    rw [List.any_map]
    refine List.any_congr rfl ?_
    intro p
    exact decide_eq_decide.mpr ⟨fun e => Sum.inr.inj e, fun e => congrArg Sum.inr e⟩
  rw [ea]
  split
  · rw [List.map_map, List.map_map]
    refine List.map_congr_left fun p _ => ?_
    show (if (Sum.inr p.1 : Key) = Sum.inr x then _ else _) = _
    by_cases e : p.1 = x
    · rw [if_pos (congrArg Sum.inr e)]
      simp [e]
    · rw [if_neg (fun z => e (Sum.inr.inj z))]
      simp [e]
  · rw [List.map_append]
    rfl
theorem look_put {α : Type} (l : List (Str × α)) (x y : Str) (v : α) : look (putA l x v) y = if y = x then some v else look l y := by
  unfold putA
  split
  · rename_i hx
    unfold look
    induction l with
    | nil => simp at hx
    | cons p l ih =>
      by_cases e : p.1 = x
      · by_cases ey : y = x
        · subst ey
          simp [e]
        · have : ¬ p.1 = y := fun z => ey (z.symm.trans e)
          have h2 : ¬ x = y := fun z => ey z.symm
          rw [List.map_cons, if_pos e, List.find?_cons, List.find?_cons]
          simp only [this, decide_false, if_neg ey]
          by_cases hx2 : (l.any fun p => decide (p.1 = x)) = true
          · have := ih hx2
            rw [if_neg ey] at this
            exact this
          · have : l.map (fun p => if p.1 = x then (p.1, v) else p) = l := by
              refine (List.map_congr_left fun q hq => ?_).trans (List.map_id l)
              have : ¬ q.1 = x := fun z => hx2 (List.any_eq_true.mpr ⟨q, hq, decide_eq_true z⟩)
              rw [if_neg this]
              rfl
            rw [this]
      · have hx2 : (l.any fun p => decide (p.1 = x)) = true := by simpa [e] using hx
        have := ih hx2
        rw [List.map_cons, if_neg e, List.find?_cons, List.find?_cons]
        by_cases ey : p.1 = y
        · have h2 : ¬ y = x := fun z => e (ey.trans z)
          simp only [ey, decide_true, if_neg h2]
        · simp only [ey, decide_false]
          exact this
  · rename_i hx
    have no : ∀ p ∈ l, ¬ p.1 = x := fun p hp z => hx (List.any_eq_true.mpr ⟨p, hp, decide_eq_true z⟩)
    unfold look
    rw [List.find?_append]
    by_cases ey : y = x
    · subst ey
      have : l.find? (fun p => decide (p.1 = y)) = none := List.find?_eq_none.mpr fun p hp => by simp [no p hp]
      rw [this, if_pos rfl]
      simp
    · rw [if_neg ey]
      have h2 : ¬ x = y := fun z => ey z.symm
      simp [h2]
theorem mem_put {α : Type} {l : List (Str × α)} {x : Str} {v : α} {p : Str × α} (hp : p ∈ putA l x v) : p ∈ l ∨ p = (x, v) := by
  unfold putA at hp
  split at hp
  · obtain ⟨q, hq, e⟩ := List.mem_map.mp hp
    split at e
    · rename_i z
      right
      rw [← e, z]
    · left
      rw [← e]; exact hq
  · rcases List.mem_append.mp hp with hp | hp
    · exact .inl hp
    · exact .inr (List.mem_singleton.mp hp)
theorem put_keys {α : Type} {l : List (Str × α)} {x : Str} {v : α} (nd : (l.map (·.1)).Nodup) : ((putA l x v).map (·.1)).Nodup := by
  unfold putA
  split
  · have : (l.map fun p => if p.1 = x then (p.1, v) else p).map (·.1) = l.map (·.1) := by
      rw [List.map_map]
      refine List.map_congr_left fun p _ => ?_
      show (if p.1 = x then (p.1, v) else p).1 = p.1
      split <;> rfl
    rw [this]; exact nd
  · rename_i hx
    rw [List.map_append, List.nodup_append]
    refine ⟨nd, by simp, fun u hu w hw e => hx ?_⟩
    simp at hw
    subst hw; subst e
    obtain ⟨p, hp, e⟩ := List.mem_map.mp hu
    exact List.any_eq_true.mpr ⟨p, hp, decide_eq_true e⟩
theorem put_len {α : Type} {l : List (Str × α)} {x : Str} {v : α} : (putA l x v).length ≤ l.length + 1 := by
  unfold putA
  split <;> simp
theorem dputK_ok {fv fo fi : FE} {l : Nat} {kvs : List (Key × D)} {v : D} (h1 : fv ρ st = some (v, s1)) (h2 : fo ρ s1 = some (.ref l, s1)) (h3 : fi ρ s1 = some (.str x, s1)) (e : s1[l]? = some (.dK kvs)) (hz : kvs.length < 2000) : sDPutK fv fo fi ρ st = some (.nx, ρ, s1.set l (.dK (putD kvs (Sum.inr x) v))) := by
  unfold sDPutK
  rw [h1]
  simp only [Option.bind_some]
  rw [h2]
  simp only [Option.bind_some]
  rw [h3]
  simp only [Option.bind_some]
  rw [dictK_ok e]
  simp only [Option.bind_some]
  show Option.bind (some (Sum.inr x : Key)) _ = _
  simp only [Option.bind_some]
  rw [if_pos (by rw [sizeLine_eq]; omega)]
def Fz (lh : Nat) (s s' : Sto) : Prop := s.length ≤ s'.length ∧ ∀ k, (k < lh ∨ (lh + 1005 ≤ k ∧ k < s.length)) → s'[k]? = s[k]?
theorem Fz.refl : Fz lh s s := ⟨Nat.le_refl _, fun _ _ => rfl⟩
theorem Fz.trans (f : Fz lh s s1) (g : Fz lh s1 s2) : Fz lh s s2 := ⟨Nat.le_trans f.1 g.1, fun k hk => (g.2 k (hk.imp id fun z => ⟨z.1, Nat.lt_of_lt_of_le z.2 f.1⟩)).trans (f.2 k hk)⟩
theorem Fz.set {k : Nat} {o : O} (h1 : lh ≤ k) (h2 : k < lh + 1005) : Fz lh s (s.set k o) := ⟨by simp, fun m hm => List.getElem?_set_ne (by omega)⟩
theorem Fz.app (hl : lh ≤ s.length) (more : Sto) : Fz lh s (s ++ more) := ⟨by simp, fun k hk => List.getElem?_append_left (by omega)⟩
theorem Fz.bg {lb : Nat} (f : Fz lh s s1) (hlb : lb < lh) (bg : Bg lb s) : Bg lb s1 := by
  obtain ⟨u, v, e, o⟩ := bg
  exact ⟨u, v, (f.2 lb (.inl hlb)).trans e, o⟩
theorem appE {fo fa : FE} {l : Nat} {acc : List D} {d : D} (h1 : fo ρ s = some (.ref l, s)) (h2 : fa ρ s = some (d, s)) (hl : s[l]? = some (.lst acc)) (hz : acc.length < 20000) : sExpr (fApp fo fa) ρ s = some (.nx, ρ, s.set l (.lst (acc ++ [d]))) := by
  simp only [e_expr, e_app, h1, Option.bind_some, h2, hl]
  rw [if_pos (by rw [sizeLine_eq]; omega)]
  rfl
def Hs.giveTo (h : Hs) (lic : Lic) (f k : Nat) : Hs := { h with gv := h.gv ++ [lic], rows := fun i => if f ≤ i ∧ i < f + k then putA (h.rows i) lic.nm h.gv.length else h.rows i }
theorem give_eq {l f e : Nat} {lic : Lic} (A : HAt lh ll h b st) (lo : st[l]? = some lic.o) (hl : lh + 1005 ≤ l) (ef : lic.fs = (f : Nat)) (el : lic.ls = (e : Nat)) (hfe : f ≤ e) (he : e ≤ 999) (hr : ∀ k, k < 1000 → (h.rows k).length ≤ 1000) (hg : ll.length < 10000) :
    ∃ st', fn_Board__give [.ref (lh + 3), .ref l] st = some (.int (h.gv.length : Nat), st') ∧ HAt lh (ll ++ [l]) (h.giveTo lic f (e + 1 - f)) b st' ∧ Fz lh st st' := by
  have g2 : fCall lenD (fCons (fFld "Board" "given" (fV 0)) fNil) [some (.ref (lh + 3)), some (.ref l), none, none] st = some (.int (h.gv.length : Nat), st) := by
    rw [e_call, e_cons, b_given A rfl]
    show lenD [.ref (lh + 4)] st = _
    show (listOf (.ref (lh + 4)) st).map _ = _
    rw [e_listOfR A.gv, Option.map_some, List.length_map, A.gl]
  have g3 := appE (ρ := [some (.ref (lh + 3)), some (.ref l), some (.int (h.gv.length : Nat)), none]) (fo := fFld "Board" "given" (fV 0)) (fa := fV 1) (d := .ref l) (b_given A rfl) rfl A.gv (by rw [List.length_map]; omega)
  have em : ll.map D.ref ++ [D.ref l] = (ll ++ [l]).map D.ref := by rw [List.map_append]; rfl
  rw [em] at g3
  have A0 := A.setG hl lo
  have lo0 : (st.set (lh + 4) (.lst ((ll ++ [l]).map D.ref)))[l]? = some lic.o := by rw [List.getElem?_set_ne (by omega)]; exact lo
  generalize ht0 : st.set (lh + 4) (.lst ((ll ++ [l]).map D.ref)) = t0 at *
  have fr0 : Fz lh st t0 := by rw [← ht0]; exact Fz.set (by omega) (by omega)
  have rg : iRange2 (fCons (fFld "Licence" "first" (fV 1)) (fCons (fOp addD (fFld "Licence" "last" (fV 1)) (fC (.int 1))) fNil)) [some (.ref (lh + 3)), some (.ref l), some (.int (h.gv.length : Nat)), none] t0 = some (rangeD (f : Nat) (e + 1 - f), [], t0) := by
    refine range2_nat ?_ (by omega) (by omega)
    have q1 : fFld "Licence" "first" (fV 1) [some (.ref (lh + 3)), some (.ref l), some (.int (h.gv.length : Nat)), none] t0 = some (.int (f : Nat), t0) := by rw [← ef]; exact fldE rfl lo0 rfl
    have q2 : fFld "Licence" "last" (fV 1) [some (.ref (lh + 3)), some (.ref l), some (.int (h.gv.length : Nat)), none] t0 = some (.int (e : Nat), t0) := by rw [← el]; exact fldE rfl lo0 rfl
    rw [e_cons, q1]
    simp only [Option.bind_some]
    rw [e_cons, op_ok q2 rfl e_addI]
    rfl
  obtain ⟨ρ2, s2, efo, ⟨y3, e1⟩, A2, f2, l2⟩ := for_fold (tg := .one 3) (b := sDPutK (fV 2) (fOp ixD (fFld "Board" "rows" (fV 0)) (fV 3)) (fFld "Licence" "name" (fV 1))) (src := []) (items := rangeD (f : Nat) (e + 1 - f))
    (I := fun k ρ s' => (∃ y3, ρ = [some (.ref (lh + 3)), some (.ref l), some (.int (h.gv.length : Nat)), y3]) ∧ HAt lh (ll ++ [l]) (h.giveTo lic f k) b s' ∧ Fz lh st s' ∧ s'[l]? = some lic.o)
    (fun _ _ _ _ => Intact.nil) (fun k d hk ρ s' ⟨⟨y3, hρ⟩, Ak, fk, lk⟩ => by
      subst hρ
      obtain ⟨hk1, rfl⟩ := range_item hk
      have ek : (f : Int) + (k : Nat) = ((f + k : Nat) : Int) := by omega
      rw [ek]
      have q1 : fFld "Licence" "name" (fV 1) [some (.ref (lh + 3)), some (.ref l), some (.int (h.gv.length : Nat)), some (.int ((f + k : Nat) : Int))] s' = some (.str lic.nm, s') := fldE rfl lk rfl
      have er : (h.giveTo lic f k).rows (f + k) = h.rows (f + k) := by
        show (if _ then _ else _) = _
        rw [if_neg (by omega)]
      have rw1 := Ak.rw (f + k) (by omega)
      rw [er] at rw1
      have p := dputK_ok (ρ := [some (.ref (lh + 3)), some (.ref l), some (.int (h.gv.length : Nat)), some (.int ((f + k : Nat) : Int))]) (fv := fV 2) (fo := fOp ixD (fFld "Board" "rows" (fV 0)) (fV 3)) (fi := fFld "Licence" "name" (fV 1)) (st := s') (v := .int (h.gv.length : Nat)) rfl (row_at Ak rfl (by omega) rfl) q1 rw1 (by unfold kvN; rw [List.length_map]; have := hr (f + k) (by omega); omega)
      have ep : putD (kvN (h.rows (f + k))) (Sum.inr lic.nm) (.int (h.gv.length : Nat)) = kvN (putA (h.rows (f + k)) lic.nm h.gv.length) := put_kv (f := fun n : Nat => D.int (n : Nat)) _ _ _
      rw [ep] at p
      have A3 := Ak.setR (k := f + k) (by omega) (putA (h.rows (f + k)) lic.nm h.gv.length)
      have eh : ({ h.giveTo lic f k with rows := fun i => if i = f + k then putA (h.rows (f + k)) lic.nm h.gv.length else (h.giveTo lic f k).rows i } : Hs) = h.giveTo lic f (k + 1) := by
        refine congrArg (Hs.mk h.prices h.lk h.hour h.ss h.pw h.db (h.gv ++ [lic])) (funext fun i => ?_)
        show (if i = f + k then putA (h.rows (f + k)) lic.nm h.gv.length else if f ≤ i ∧ i < f + k then putA (h.rows i) lic.nm h.gv.length else h.rows i) = if f ≤ i ∧ i < f + (k + 1) then putA (h.rows i) lic.nm h.gv.length else h.rows i
        by_cases e0 : i = f + k
        · subst e0
          rw [if_pos rfl, if_pos (by omega)]
        · rw [if_neg e0]
          by_cases e2 : f ≤ i ∧ i < f + k
          · rw [if_pos e2, if_pos (by omega)]
          · rw [if_neg e2, if_neg (by omega)]
      rw [eh] at A3
      exact ⟨_, rfl, .nx, _, _, p, .inl rfl, ⟨_, rfl⟩, A3, fk.trans (Fz.set (by omega) (by omega)), by rw [List.getElem?_set_ne (by omega)]; exact lk⟩) (ρ := [some (.ref (lh + 3)), some (.ref l), some (.int (h.gv.length : Nat)), none]) (s := t0) ⟨⟨_, rfl⟩, by
        have : h.giveTo lic f 0 = { h with gv := h.gv ++ [lic] } := by
          refine congrArg (Hs.mk h.prices h.lk h.hour h.ss h.pw h.db (h.gv ++ [lic])) (funext fun i => ?_)
          show (if f ≤ i ∧ i < f + 0 then putA (h.rows i) lic.nm h.gv.length else h.rows i) = h.rows i
          rw [if_neg (by omega)]
        rw [this]
        exact A0, fr0, lo0⟩
  subst e1
  have li : (rangeD (f : Nat) (e + 1 - f)).length = e + 1 - f := by simp [rangeD]
  rw [li] at A2
  refine ⟨s2, ?_, A2, f2⟩
  unfold fn_Board__give
  exact run_at (ρ := [some (.ref (lh + 3)), some (.ref l), none, none]) (ρ' := [some (.ref (lh + 3)), some (.ref l), some (.int (h.gv.length : Nat)), y3]) rfl (seqT (set_ok g2) (seqT g3 (seqT (for_at rg efo) (ret_ok rfl))))
theorem with_ok {c : Str} {fe fx : HA} {fo : FE} {fb : FS} {d u v : D} {z : Nat × List (Str × D)} {s4 : Sto} {fl : Fl} (h1 : fo ρ st = some (d, s1)) (h2 : insOf c d s1 = some z) (h3 : fe [d] s1 = some (u, s2)) (h4 : fb ρ s2 = some (fl, ρ', s3)) (h5 : ∀ e, fl ≠ .ex e) (h6 : fx [d] s3 = some (v, s4)) : sWith c fe fx fo fb ρ st = some (fl, ρ', s4) := by
  unfold sWith
  rw [h1]
  simp only [Option.bind_some]
  rw [h2]
  simp only [Option.bind_some]
  rw [h3]
  simp only [Option.bind_some]
  rw [h4]
  simp only [Option.bind_some]
  cases fl with
  | ex e => exact absurd rfl (h5 e)
  | _ => rw [h6]; rfl
theorem putF_ne {f g : Str} {u v : D} {rr : List (Str × D)} (ne : g ≠ f) : putFD f v ((g, u) :: rr) = (g, u) :: putFD f v rr := by
  show (if g = f then _ else _) = _
  rw [if_neg ne]
theorem putF_eq {f : Str} {u v : D} {rr : List (Str × D)} : putFD f v ((f, u) :: rr) = (f, v) :: rr := by
  show (if f = f then _ else _) = _
  rw [if_pos rfl]
theorem deed_fo (hρ : ρ[0]? = some (some (.ref lh))) : fMake "Deed" 2 fn_Deed____init__ (fCons (fV 0) fNil) ρ st = some (.ref st.length, st ++ [deedO lh]) := by
  refine make_ok (ds := [.ref lh]) (by rw [e_cons, e_V, hρ]; rfl) rfl ?_
  unfold fn_Deed____init__
  have s1 := fldT_ok (ρ := [some (.ref st.length), some (.ref lh)]) (st := st ++ [.ins "Deed" []]) (c := "Deed") (f := "house") (fv := fV 1) (fo := fV 0) (v := .ref lh) (l := st.length) (fs := []) rfl rfl (by simp) (by simp)
  rw [app_mid] at s1
  exact runN_at (ρ := [some (.ref st.length), some (.ref lh)]) (ρ' := [some (.ref st.length), some (.ref lh)]) rfl s1
theorem busy_set {nn l : Nat} {fn : HA} {sb : FS} {v : Bool} (hfn : fn = runD nn sb) (hsb : sb = sFldT "House" "busy" (fC (.bl v)) (fFld "Deed" "house" (fV 0))) (hs : s[lh]? = some (houseO lh h b)) (hd : s[l]? = some (deedO lh)) (hn : 1 ≤ nn) : fn [.ref l] s = some (.non, s.set lh (houseO lh h v)) := by
  subst hfn; subst hsb
  have q : fFld "Deed" "house" (fV 0) ([D.ref l].map some ++ List.replicate (nn - 1) none) s = some (.ref lh, s) := fldE rfl hd rfl
  have s1 := fldT_ok (ρ := [D.ref l].map some ++ List.replicate (nn - 1) none) (st := s) (c := "House") (f := "busy") (fv := fC (.bl v)) (v := .bl v) rfl q hs (by simp)
  rw [putF_eq] at s1
  exact runN_at rfl s1
theorem deed_ok {fb : FS} {fl : Fl} (hρ : ρ[0]? = some (some (.ref lh))) (A : HAt lh ll h false st) (hb : fb ρ (st.set lh (houseO lh h true) ++ [deedO lh]) = some (fl, ρ', s3)) (hn : ∀ e, fl ≠ .ex e) (A3 : HAt lh ll' h' true s3) (f3 : Fz lh (st.set lh (houseO lh h true) ++ [deedO lh]) s3) :
    sWith "Deed" fn_Deed____enter__ fn_Deed____exit__ (fMake "Deed" 2 fn_Deed____init__ (fCons (fV 0) fNil)) fb ρ st = some (fl, ρ', s3.set lh (houseO lh h' false)) ∧ HAt lh ll' h' false (s3.set lh (houseO lh h' false)) ∧ Fz lh st (s3.set lh (houseO lh h' false)) := by
  have lt := A.lt
  have hl : (st ++ [deedO lh])[st.length]? = some (deedO lh) := by simp
  have e1 := busy_set (fn := fn_Deed____enter__) (v := true) rfl rfl (A.app [deedO lh]).hs hl (by decide)
  rw [List.set_append_left _ _ (by omega)] at e1
  have hd3 : s3[st.length]? = some (deedO lh) := by
    rw [f3.2 st.length (.inr ⟨by omega, by simp⟩)]
    simp
  have e2 := busy_set (fn := fn_Deed____exit__) (v := false) rfl rfl A3.hs hd3 (by decide)
  refine ⟨with_ok (deed_fo hρ) (ins_ok hl) e1 hb hn e2, A3.setH rfl rfl rfl rfl, ?_⟩
  exact ((Fz.set (Nat.le_refl _) (by omega)).trans (Fz.app (by simp; omega) _)).trans (f3.trans (Fz.set (Nat.le_refl _) (by omega)))
theorem deed_in (A : HAt lh ll h false st) : HAt lh ll h true (st.set lh (houseO lh h true) ++ [deedO lh]) := (A.setH (h' := h) (b' := true) rfl rfl rfl rfl).app _
end
end EL
set_option Elab.async false
set_option linter.all false
set_option maxRecDepth 100000
set_option maxHeartbeats 400000
namespace EL
open PySem PySem.Spec PyProof.Rows L2 GxR LG FW
open PySem.W (AllAlike Sortable dataLe)
section
variable {lh i j n : Nat} {ll ll' : List Nat} {h h' : Hs} {b b' : Bool} {st st1 s s1 s2 s3 : Sto} {ρ ρ' : Rho} {x y : Str} {t : List Int} {a : Air} {r q : Stn}
structure Hs.Ok (h : Hs) : Prop where
  pr : h.prices.length ≤ 9 ∧ ∀ p ∈ h.prices, 0 ≤ p ∧ p ≤ 1000
  lk : 1 ≤ h.lk ∧ h.lk ≤ 1000
  st : ∀ s ∈ h.ss, s.Ok
  nm : (h.ss.map Stn.nm).Sublist nms
  db : ∀ s ∈ h.ss, ∃ d, look h.db s.nm = some d
  dn : ∀ x, (look h.db x).isSome = true → x ∈ h.ss.map Stn.nm
  pw : ∀ s ∈ h.ss, ∃ p, look h.pw s.nm = some p ∧ 1 ≤ p ∧ p ≤ 1000000
  dl : h.db.length ≤ h.ss.length ∧ h.pw.length ≤ h.ss.length
  rk : ∀ k, k < 1000 → ((h.rows k).map (·.1)).Nodup ∧ ∀ p ∈ h.rows k, p.1 ∈ h.ss.map Stn.nm ∧ p.2 < h.gv.length
  lb : ∀ lic ∈ h.gv, 1 ≤ lic.bd ∧ lic.bd ≤ 9
theorem Hs.Ok.l8 (o : h.Ok) : h.ss.length ≤ 8 := by
  have := o.nm.length_le
  rw [List.length_map] at this
  exact this
theorem Hs.Ok.air (o : h.Ok) (hn : h.ss ≠ []) : h.air.Ok := ⟨⟨⟨List.length_pos_iff.mpr hn, o.l8⟩, o.nm, o.st⟩, o.lk⟩
theorem Hs.Ok.rows (o : h.Ok) : h.RowsOk := fun k hk p hp => ((o.rk k hk).2 p hp).2
theorem nodupS_le : ∀ {l D : List Str}, l.Nodup → (∀ x ∈ l, x ∈ D) → l.length ≤ D.length
  | [], _, _, _ => Nat.zero_le _
  | x :: l, D, nd, hs => by
    obtain ⟨n1, n2⟩ := List.nodup_cons.mp nd
    have hx := hs x List.mem_cons_self
    have ih := nodupS_le (l := l) (D := D.erase x) n2 fun y hy => (List.mem_erase_of_ne (fun e => n1 (by rw [← e]; exact hy))).mpr (hs y (List.mem_cons_of_mem _ hy))
    rw [List.length_erase_of_mem hx] at ih
    have : 0 < D.length := List.length_pos_of_mem hx
    rw [List.length_cons]
    omega
theorem Hs.Ok.rl (o : h.Ok) {k : Nat} (hk : k < 1000) : (h.rows k).length ≤ 8 := by
  have h1 := nodupS_le (o.rk k hk).1 (D := h.ss.map Stn.nm) fun z hz => by
    obtain ⟨p, hp, rfl⟩ := List.mem_map.mp hz
    exact ((o.rk k hk).2 p hp).1
  rw [List.length_map, List.length_map] at h1
  have := o.l8
  omega
theorem Hs.Ok.band (o : h.Ok) : h.BandOk := fun x k hk => by
  unfold Hs.band
  cases e : look (h.rows k) x with
  | none => exact ⟨Int.le_refl _, (show (0 : Int) ≤ 9 by decide)⟩
  | some m =>
    have := ((o.rk k hk).2 _ (look_mem e)).2
    show 0 ≤ ((h.gv[m]?).map Lic.bd).getD 0 ∧ ((h.gv[m]?).map Lic.bd).getD 0 ≤ 9
    rw [List.getElem?_eq_getElem this]
    have := o.lb h.gv[m] (List.getElem_mem this)
    exact ⟨by show 0 ≤ h.gv[m].bd; omega, this.2⟩
theorem whole_fn {fn : HA} {lo hi v : Int} (hf : fn = sealFn (runD 1 (sRet (fFn 3 fn_is_whole (fCons (fV 0) (fCons (fC (.int lo)) (fCons (fC (.int hi)) fNil))))))) (h1 : lo ≤ v) (h2 : v ≤ hi) : fn [.int v] st = some (.bl true, st) := by
  subst hf
  exact seal_same (run_at (ρ := [some (.int v)]) (ρ' := [some (.int v)]) rfl (ret_ok (fn_ok (ds := [.int v, .int lo, .int hi]) (st1 := st) rfl rfl (whole_eq h1 h2)))) rfl
theorem power_eq {v : Int} (h1 : 1 ≤ v) (h2 : v ≤ 1000000) : fn_is_power [.int v] st = some (.bl true, st) := whole_fn (fn := fn_is_power) rfl h1 h2
theorem need_eq {v : Int} (h1 : 1 ≤ v) (h2 : v ≤ 1000) : fn_is_need [.int v] st = some (.bl true, st) := whole_fn (fn := fn_is_need) rfl h1 h2
theorem leak_eq {v : Int} (h1 : 1 ≤ v) (h2 : v ≤ 1000) : fn_is_leak [.int v] st = some (.bl true, st) := whole_fn (fn := fn_is_leak) rfl h1 h2
theorem check_power_ok {v : Int} (h1 : 1 ≤ v) (h2 : v ≤ 1000000) : fn_check_power [.int v] st = some (.non, st) :=
  seal_same (runN_at (ρ := [some (.int v)]) (ρ' := [some (.int v)]) rfl (if_no (tnot_ok (fn_ok (ds := [.int v]) (st1 := st) rfl rfl (power_eq h1 h2))))) rfl
theorem check_parts_ok (o : q.Ok) : fn_check_parts [.tup [.int q.px, .int q.py], .int q.pw, .tup [.int q.hx, .int q.hy], .int q.nd] st = some (.non, st) := by
  unfold fn_check_parts
  refine seal_same ?_ rfl
  refine runN_at (ρ := [some (.tup [.int q.px, .int q.py]), some (.int q.pw), some (.tup [.int q.hx, .int q.hy]), some (.int q.nd)]) (ρ' := [some (.tup [.int q.px, .int q.py]), some (.int q.pw), some (.tup [.int q.hx, .int q.hy]), some (.int q.nd)]) rfl ?_
  exact seqT (if_no (tnot_ok (fn_ok (ds := [.tup [.int q.px, .int q.py]]) (st1 := st) rfl rfl (place_eq o.px o.py)))) (seqT (if_no (tnot_ok (fn_ok (ds := [.tup [.int q.hx, .int q.hy]]) (st1 := st) rfl rfl (place_eq o.hx o.hy)))) (seqT (expr_ok (fn_ok (ds := [.int q.pw]) (st1 := st) rfl rfl (check_power_ok o.pw.1 o.pw.2))) (if_no (tnot_ok (fn_ok (ds := [.int q.nd]) (st1 := st) rfl rfl (need_eq o.nd.1 o.nd.2))))))
theorem stn_le {u v : Stn} (hlt : u.nm.cps.toList < v.nm.cps.toList) : dataLe false pd u.d v.d = true := by
  show (!PySem.W.dataLt (pd v.d) (pd u.d)) = true
  have e : PySem.W.dataLt (pd v.d) (pd u.d) = PySem.W.dataLt (.str v.nm) (.str u.nm) := by
    show PySem.W.dataLt (.tuple (PyData.str v.nm :: _)) (.tuple (PyData.str u.nm :: _)) = _
    rw [PySem.W.dataLt_tuple]
    refine PySem.W.dataLt_all_no rfl ?_
    cases z : PyData.eqv (.str v.nm) (.str u.nm) with
    | false => rfl
    | true =>
      have : v.nm = u.nm := by
        have : (v.nm == u.nm) = true := z
        exact eq_of_beq this
      rw [this] at hlt
      exact absurd hlt (List.lt_irrefl _)
  rw [e, PySem.W.dataLt_str, decide_eq_false (fun z => List.lt_irrefl _ (List.lt_trans hlt z))]
  rfl
theorem stn_alike (u v : Stn) : PySem.W.alike (pd u.d) (pd v.d) = true := rfl
theorem nms_lt : nms.Pairwise fun u v => u.cps.toList < v.cps.toList := by decide +kernel
theorem nms_str {x : Str} (hx : x ∈ nms) : PyData.strOk x = true := str_okB _ hx
theorem stn_ok59 (o : q.Ok) : okB 59 q.d = true := by
  have := nms_str o.nm
  unfold Stn.d
  simp [okB, okBs, this]
theorem sorted_eq {ss : List Stn} (hs : ∀ s ∈ ss, s.Ok) (hn : (ss.map Stn.nm).Sublist nms) : sortedZ [.lst (ss.map Stn.d)] st = some (.lst (ss.map Stn.d), st) := by
  unfold sortedZ
  show Option.bind (listOf (.lst (ss.map Stn.d)) st) _ = _
  rw [e_listOfZ]
  simp only [Option.bind_some]
  have l8 : ss.length ≤ 8 := by
    have := hn.length_le
    rw [List.length_map] at this
    exact this
  have ok : SortOk (ss.map Stn.d) := by
    refine ⟨okBs_of fun d hd => ?_, ?_, .inl ?_, by rw [List.length_map, sizeLine_eq]; omega⟩
    · obtain ⟨s, h1, rfl⟩ := List.mem_map.mp hd
      exact stn_ok59 (hs s h1)
    · intro d hd d' hd'
      rw [List.map_map] at hd hd'
      obtain ⟨u, _, rfl⟩ := List.mem_map.mp hd
      obtain ⟨v, _, rfl⟩ := List.mem_map.mp hd'
      exact stn_alike u v
    · intro d hd
      rw [List.map_map] at hd
      obtain ⟨u, _, rfl⟩ := List.mem_map.mp hd
      exact ⟨_, _, rfl⟩
  rw [if_pos ok]
  have pw : (ss.map Stn.d).Pairwise fun u v => dataLe false pd u v = true := by
    rw [List.pairwise_map]
    have h1 : (ss.map Stn.nm).Pairwise fun u v => u.cps.toList < v.cps.toList := nms_lt.sublist hn
    rw [List.pairwise_map] at h1
    exact h1.imp fun z => stn_le z
  rw [List.mergeSort_of_pairwise pw]
def Hs.add (h : Hs) (q : Stn) : Hs := { h with ss := h.ss ++ [q], pw := putA h.pw q.nm q.pw, db := putA h.db q.nm 0 }
theorem lenI {f : FE} {ds : List D} (e : f ρ st = some (.tup ds, st)) : fCall lenD (fCons f fNil) ρ st = some (.int (ds.length : Nat), st) := by
  rw [e_call, e_cons, e]
  rfl
theorem eq_no {f g : FE} {u v : Int} (h1 : f ρ st = some (.int u, st)) (h2 : g ρ st = some (.int v, st)) (ne : u ≠ v) : fTst (fOp eqD f g) ρ st = some (false, st) := by
  rw [tst_ok (op_ok h1 h2 e_eqI), decide_eq_false ne]
theorem hstation_eq (A : HAt lh ll h false st) (o : h.Ok) (oq : q.Ok) (hn : (h.ss.map Stn.nm ++ [q.nm]).Sublist nms) :
    ∃ st', fn_House__station [.ref lh, .str q.nm, .tup [.int q.px, .int q.py], .int q.pw, .tup [.int q.hx, .int q.hy], .int q.nd] st = some (.non, st') ∧ HAt lh ll (h.add q) false st' ∧ Fz lh st st' := by
  have lt := A.lt
  have l8 : h.ss.length < 8 := by
    have := hn.length_le
    rw [List.length_append, List.length_map] at this
    have : h.ss.length + 1 ≤ 8 := this
    omega
  have nd : (h.ss.map Stn.nm ++ [q.nm]).Nodup := hn.nodup (by decide)
  have nq : q.nm ∉ h.ss.map Stn.nm := fun z => by
    rw [List.nodup_append] at nd
    exact nd.2.2 _ z _ (by simp) rfl
  have lq : look h.db q.nm = none := by
    cases e : look h.db q.nm with
    | none => rfl
    | some d => exact absurd (o.dn q.nm (by rw [e]; rfl)) nq
  have A0 := deed_in A
  have f0 : Fz lh st (st.set lh (houseO lh h true) ++ [deedO lh]) := (Fz.set (Nat.le_refl _) (by omega)).trans (Fz.app (by simp; omega) _)
  generalize hs0 : st.set lh (houseO lh h true) ++ [deedO lh] = s0 at A0 f0
  let R : Rho := [some (.ref lh), some (.str q.nm), some (.tup [.int q.px, .int q.py]), some (.int q.pw), some (.tup [.int q.hx, .int q.hy]), some (.int q.nd)]
  have c1 : fFn 1 fn_is_name (fCons (fV 1) fNil) R s0 = some (.bl true, s0) := fn_ok (ds := [.str q.nm]) (st1 := s0) rfl rfl (name_eq oq.nm)
  have c2 : fOp (inK false) (fV 1) (fFld "House" "debts" (fV 0)) R s0 = some (.bl false, s0) := by
    rw [op_ok (st1 := s0) (d := .str q.nm) rfl (h_debts A0 rfl) (inK_ok A0.db), val_kvI, lq]
    rfl
  have c3 : fFn 4 fn_check_parts (fCons (fV 2) (fCons (fV 3) (fCons (fV 4) (fCons (fV 5) fNil)))) R s0 = some (.non, s0) := fn_ok (ds := [.tup [.int q.px, .int q.py], .int q.pw, .tup [.int q.hx, .int q.hy], .int q.nd]) (st1 := s0) rfl rfl (check_parts_ok oq)
  have c4 : fTst (fOp eqD (fCall lenD (fCons (fFld "House" "members" (fV 0)) fNil)) (fC (.int 8))) R s0 = some (false, s0) := by
    refine eq_no (u := ((h.ss.map Stn.d).length : Nat)) (v := 8) (lenI (h_members A0 rfl)) rfl ?_
    rw [List.length_map]
    omega
  have em : h.ss.map Stn.d ++ [q.d] = (h.ss ++ [q]).map Stn.d := by rw [List.map_append]; rfl
  have t5 : fTup (fCons (fV 1) (fCons (fV 2) (fCons (fV 3) (fCons (fV 4) (fCons (fV 5) fNil))))) R s0 = some (q.d, s0) := by
    show (if ([D.str q.nm, .tup [.int q.px, .int q.py], .int q.pw, .tup [.int q.hx, .int q.hy], .int q.nd] : List D).length ≤ sizeLine then _ else none) = _
    rw [if_pos (by rw [sizeLine_eq]; simp)]
    rfl
  have c5 : fLz (fStar (fFld "House" "members" (fV 0)) (fCons (fTup (fCons (fV 1) (fCons (fV 2) (fCons (fV 3) (fCons (fV 4) (fCons (fV 5) fNil)))))) fNil)) R s0 = some (.lst ((h.ss ++ [q]).map Stn.d), s0) := by
    unfold fLz fStar
    rw [h_members A0 rfl]
    simp only [Option.bind_some]
    unfold ssD
    rw [e_seqT]
    simp only [Option.bind_some]
    rw [e_cons, t5]
    simp only [Option.bind_some, e_nil]
    rw [em, if_pos (by rw [List.length_map, List.length_append, sizeLine_eq]; simp; omega)]
  have ok' : ∀ s ∈ h.ss ++ [q], s.Ok := fun s hs => by
    rcases List.mem_append.mp hs with hs | hs
    · exact o.st s hs
    · rw [List.mem_singleton.mp hs]; exact oq
  have c6 : fCall tupleD (fCons (fCall sortedZ (fCons (fLz (fStar (fFld "House" "members" (fV 0)) (fCons (fTup (fCons (fV 1) (fCons (fV 2) (fCons (fV 3) (fCons (fV 4) (fCons (fV 5) fNil)))))) fNil))) fNil)) fNil) R s0 = some (ssD (h.ss ++ [q]), s0) := by
    refine tup_lc ?_
    rw [e_call, e_cons, c5]
    exact sorted_eq ok' (by rw [List.map_append]; exact hn)
  have c7 := fldT_ok (ρ := R) (c := "House") (f := "members") (fo := fV 0) (l := lh) c6 rfl A0.hs (by simp)
  have ep : putFD "members" (ssD (h.ss ++ [q])) [(("busy" : Str), D.bl true), ("prices", EL.tun h.prices), ("leak", .int h.lk), ("hour", .int h.hour), ("members", ssD h.ss), ("powers", .ref (lh + 1)), ("debts", .ref (lh + 2)), ("board", .ref (lh + 3))] = [(("busy" : Str), D.bl true), ("prices", EL.tun h.prices), ("leak", .int h.lk), ("hour", .int h.hour), ("members", ssD (h.ss ++ [q])), ("powers", .ref (lh + 1)), ("debts", .ref (lh + 2)), ("board", .ref (lh + 3))] := by
    rw [putF_ne (by decide), putF_ne (by decide), putF_ne (by decide), putF_ne (by decide), putF_eq]
  rw [ep] at c7
  have A1 := A0.setH (h' := { h with ss := h.ss ++ [q] }) (b' := true) rfl rfl rfl rfl
  have f1 : Fz lh st (s0.set lh (houseO lh { h with ss := h.ss ++ [q] } true)) := f0.trans (Fz.set (Nat.le_refl _) (by omega))
  have c7 : sFldT "House" "members" (fCall tupleD (fCons (fCall sortedZ (fCons (fLz (fStar (fFld "House" "members" (fV 0)) (fCons (fTup (fCons (fV 1) (fCons (fV 2) (fCons (fV 3) (fCons (fV 4) (fCons (fV 5) fNil)))))) fNil))) fNil)) fNil)) (fV 0) R s0 = some (.nx, R, s0.set lh (houseO lh { h with ss := h.ss ++ [q] } true)) := c7
  generalize hs1 : s0.set lh (houseO lh { h with ss := h.ss ++ [q] } true) = t1 at *
  have c8 := dputK_ok (ρ := R) (fv := fV 3) (fo := fFld "House" "powers" (fV 0)) (fi := fV 1) (st := t1) (s1 := t1) (x := q.nm) (v := .int q.pw) rfl (h_powers A1 rfl) rfl A1.pw (by unfold kvI; rw [List.length_map]; have := o.dl.2; have := o.l8; show h.pw.length < _; omega)
  have e8 : putD (kvI h.pw) (Sum.inr q.nm) (.int q.pw) = kvI (putA h.pw q.nm q.pw) := put_kv (f := D.int) _ _ _
  rw [e8] at c8
  have A2 := A1.setP (putA h.pw q.nm q.pw)
  have f2 : Fz lh st (t1.set (lh + 1) (.dK (kvI (putA h.pw q.nm q.pw)))) := f1.trans (Fz.set (by omega) (by omega))
  generalize hs2 : t1.set (lh + 1) (.dK (kvI (putA h.pw q.nm q.pw))) = t2 at *
  have c9 := dputK_ok (ρ := R) (fv := fC (.int 0)) (fo := fFld "House" "debts" (fV 0)) (fi := fV 1) (st := t2) (s1 := t2) (x := q.nm) (v := .int 0) rfl (h_debts A2 rfl) rfl A2.db (by unfold kvI; rw [List.length_map]; have := o.dl.1; have := o.l8; show h.db.length < _; omega)
  have e9 : putD (kvI h.db) (Sum.inr q.nm) (.int 0) = kvI (putA h.db q.nm 0) := put_kv (f := D.int) _ _ _
  rw [e9] at c9
  have A3 := A2.setD (putA h.db q.nm 0)
  have f3 : Fz lh s0 (t2.set (lh + 2) (.dK (kvI (putA h.db q.nm 0)))) := by
    rw [← hs2, ← hs1]
    exact ((Fz.set (Nat.le_refl _) (by omega)).trans (Fz.set (by omega) (by omega))).trans (Fz.set (by omega) (by omega))
  obtain ⟨w, wA, wf⟩ := deed_ok (ρ := R) (ρ' := R) (fl := .nx) (h' := h.add q) (ll' := ll) (s3 := t2.set (lh + 2) (.dK (kvI (putA h.db q.nm 0)))) (fb := (sSeq (sIf (fTNot (fTst (fFn 1 fn_is_name (fCons (fV 1) fNil)))) sNever sNext)
    (sSeq (sIf (fTst (fOp (inK false) (fV 1) (fFld "House" "debts" (fV 0)))) sNever sNext)
    (sSeq (sExpr (fFn 4 fn_check_parts (fCons (fV 2) (fCons (fV 3) (fCons (fV 4) (fCons (fV 5) fNil))))))
    (sSeq (sIf (fTst (fOp eqD (fCall lenD (fCons (fFld "House" "members" (fV 0)) fNil)) (fC (.int 8)))) sNever sNext)
    (sSeq (sFldT "House" "members" (fCall tupleD (fCons (fCall sortedZ (fCons (fLz (fStar (fFld "House" "members" (fV 0)) (fCons (fTup (fCons (fV 1) (fCons (fV 2) (fCons (fV 3) (fCons (fV 4) (fCons (fV 5) fNil)))))) fNil))) fNil)) fNil)) (fV 0))
    (sSeq (sDPutK (fV 3) (fFld "House" "powers" (fV 0)) (fV 1))
    (sDPutK (fC (.int 0)) (fFld "House" "debts" (fV 0)) (fV 1))))))))) rfl A (by
      rw [hs0]
      exact seqT (if_no (tnot_ok c1)) (seqT (if_no (tst_ok c2)) (seqT (expr_ok c3) (seqT (if_no c4) (seqT c7 (seqT c8 c9)))))) (fun _ z => by cases z) A3 (by rw [hs0]; exact f3)
  refine ⟨_, ?_, wA, wf⟩
  unfold fn_House__station
  exact runN_at (ρ := R) (ρ' := R) rfl w
theorem add_ok (o : h.Ok) (oq : q.Ok) (hn : (h.ss.map Stn.nm ++ [q.nm]).Sublist nms) : (h.add q).Ok where
  pr := o.pr
  lk := o.lk
  st := fun s hs => by
    rcases List.mem_append.mp hs with hs | hs
    · exact o.st s hs
    · rw [List.mem_singleton.mp hs]; exact oq
  nm := by
    show ((h.ss ++ [q]).map Stn.nm).Sublist nms
    rw [List.map_append]
    exact hn
  db := fun s hs => by
    show ∃ d, look (putA h.db q.nm 0) s.nm = some d
    rw [look_put]
    split
    · exact ⟨0, rfl⟩
    · rename_i ne
      rcases List.mem_append.mp hs with hs | hs
      · exact o.db s hs
      · rw [List.mem_singleton.mp hs] at ne; exact absurd rfl ne
  dn := fun x hx => by
    show x ∈ (h.ss ++ [q]).map Stn.nm
    have hx : (look (putA h.db q.nm 0) x).isSome = true := hx
    rw [look_put] at hx
    rw [List.map_append, List.mem_append]
    split at hx
    · rename_i e
      right
      rw [e]; simp
    · exact .inl (o.dn x hx)
  pw := fun s hs => by
    show ∃ p, look (putA h.pw q.nm q.pw) s.nm = some p ∧ _
    rw [look_put]
    split
    · exact ⟨_, rfl, oq.pw⟩
    · rename_i ne
      rcases List.mem_append.mp hs with hs | hs
      · exact o.pw s hs
      · rw [List.mem_singleton.mp hs] at ne; exact absurd rfl ne
  dl := by
    have h1 := put_len (l := h.db) (x := q.nm) (v := (0 : Int))
    have h2 := put_len (l := h.pw) (x := q.nm) (v := q.pw)
    have := o.dl
    show (putA h.db q.nm 0).length ≤ (h.ss ++ [q]).length ∧ (putA h.pw q.nm q.pw).length ≤ (h.ss ++ [q]).length
    rw [List.length_append, List.length_singleton]
    omega
  rk := fun k hk => ⟨(o.rk k hk).1, fun p hp => by
    obtain ⟨h1, h2⟩ := (o.rk k hk).2 p hp
    refine ⟨?_, h2⟩
    show p.1 ∈ (h.ss ++ [q]).map Stn.nm
    rw [List.map_append]
    exact List.mem_append_left _ h1⟩
  lb := o.lb
end
end EL
set_option Elab.async false
set_option linter.all false
set_option maxRecDepth 100000
set_option maxHeartbeats 400000
namespace EL
open PySem PySem.Spec PyProof.Rows L2 GxR LG FW
section
variable {lh i j n : Nat} {ll ll' : List Nat} {h h' : Hs} {b b' : Bool} {st st1 s s1 s2 s3 : Sto} {ρ ρ' : Rho} {x y : Str} {t : List Int} {a : Air} {r q : Stn}
theorem putF_nil {f : Str} {v : D} : putFD f v [] = [(f, v)] := rfl
theorem fldNew {c f : Str} {fv fo : FE} {fs : List (Str × D)} {v : D} (h1 : fv ρ (st ++ [.ins c fs]) = some (v, st ++ [.ins c fs])) (h2 : fo ρ (st ++ [.ins c fs]) = some (.ref st.length, st ++ [.ins c fs])) (hz : fs.length < 1000) : sFldT c f fv fo ρ (st ++ [.ins c fs]) = some (.nx, ρ, st ++ [.ins c (putFD f v fs)]) := by
  have := fldT_ok (c := c) (f := f) (fs := fs) h1 h2 (by simp) hz
  rw [app_mid] at this
  exact this
theorem licence_init {lic : Lic} : fn_Licence____init__ [.ref st.length, .str lic.nm, .int lic.bd, .int lic.pr, .int lic.fs, .int lic.ls] (st ++ [.ins "Licence" []]) = some (.non, st ++ [lic.o]) := by
  let R : Rho := [some (.ref st.length), some (.str lic.nm), some (.int lic.bd), some (.int lic.pr), some (.int lic.fs), some (.int lic.ls)]
  have s1 := fldNew (ρ := R) (st := st) (c := "Licence") (f := "name") (fv := fV 1) (fo := fV 0) (fs := []) (v := .str lic.nm) rfl rfl (by simp)
  have s2 := fldNew (ρ := R) (st := st) (c := "Licence") (f := "band") (fv := fV 2) (fo := fV 0) (fs := [("name", .str lic.nm)]) (v := .int lic.bd) rfl rfl (by simp)
  have s3 := fldNew (ρ := R) (st := st) (c := "Licence") (f := "price") (fv := fV 3) (fo := fV 0) (fs := [("name", .str lic.nm), ("band", .int lic.bd)]) (v := .int lic.pr) rfl rfl (by simp)
  have s4 := fldNew (ρ := R) (st := st) (c := "Licence") (f := "first") (fv := fV 4) (fo := fV 0) (fs := [("name", .str lic.nm), ("band", .int lic.bd), ("price", .int lic.pr)]) (v := .int lic.fs) rfl rfl (by simp)
  have s5 := fldNew (ρ := R) (st := st) (c := "Licence") (f := "last") (fv := fV 5) (fo := fV 0) (fs := [("name", .str lic.nm), ("band", .int lic.bd), ("price", .int lic.pr), ("first", .int lic.fs)]) (v := .int lic.ls) rfl rfl (by simp)
  rw [putF_nil] at s1
  rw [putF_ne (by decide), putF_nil] at s2
  rw [putF_ne (by decide), putF_ne (by decide), putF_nil] at s3
  rw [putF_ne (by decide), putF_ne (by decide), putF_ne (by decide), putF_nil] at s4
  rw [putF_ne (by decide), putF_ne (by decide), putF_ne (by decide), putF_ne (by decide), putF_nil] at s5
  unfold fn_Licence____init__
  exact runN_at (ρ := R) (ρ' := R) rfl (seqT s1 (seqT s2 (seqT s3 (seqT s4 s5))))
theorem daugK_ok {fv fo fi : FE} {l : Nat} {kvs : List (Key × D)} {u v : Int} {sg : Bool} (h2 : fo ρ st = some (.ref l, st)) (h3 : fi ρ st = some (.str x, st)) (e : st[l]? = some (.dK kvs)) (hv : valD kvs (Sum.inr x) = some (.int u)) (h1 : fv ρ st = some (.int v, st)) (hz : kvs.length < 2000) : sDAugK sg fv fo fi ρ st = some (.nx, ρ, st.set l (.dK (putD kvs (Sum.inr x) (.int (if sg = true then u + v else u - v))))) := by
  unfold sDAugK
  rw [h2]
  simp only [Option.bind_some]
  rw [h3]
  simp only [Option.bind_some]
  rw [dictK_ok e]
  simp only [Option.bind_some]
  show Option.bind (some (Sum.inr x : Key)) _ = _
  simp only [Option.bind_some]
  rw [hv]
  simp only [Option.bind_some]
  rw [h1]
  simp only [Option.bind_some]
  rw [dictK_ok e]
  simp only [Option.bind_some]
  rw [if_pos (by rw [sizeLine_eq]; omega)]
def Hs.new (prices : List Int) (lk : Int) : Hs := ⟨prices, lk, 0, [], [], [], [], fun _ => []⟩
theorem lc_dicts {n' : Nat} : ∀ (n : Nat) (k : Nat) (st : Sto), lcZ (.one 1) fYes fDNewK [] ρ ((List.range' k n).map fun i : Nat => D.int (0 + (i : Nat))) st = some ((List.range n).map fun i => D.ref (st.length + i), st ++ List.replicate n (.dK []))
  | 0, k, st => by
    unfold lcZ
    simp only [List.range'_zero, List.map_nil]
    rw [if_pos Intact.nil]
    simp
  | n + 1, k, st => by
    rw [List.range'_succ, List.map_cons]
    unfold lcZ
    rw [if_pos Intact.nil]
    rw [show tgD (.one 1) (D.int (0 + (k : Nat))) ρ = some (ρ.set 1 (some (D.int (0 + (k : Nat))))) from rfl]
    simp only [Option.bind_some]
    rw [show fYes (ρ.set 1 (some (D.int (0 + (k : Nat))))) st = some (true, st) from rfl]
    simp only [Option.bind_some, if_true]
    rw [show fDNewK (ρ.set 1 (some (D.int (0 + (k : Nat))))) st = some (.ref st.length, st ++ [.dK []]) from rfl]
    simp only [Option.bind_some]
    rw [lc_dicts (n' := n') n (k + 1) (st ++ [O.dK []])]
    simp only [Option.bind_some]
    rw [List.range_succ_eq_map, List.map_cons, List.map_map, List.replicate_succ]
    simp only [List.length_append, List.length_singleton, List.append_assoc, List.singleton_append]
    congr 3
    refine List.map_congr_left fun i _ => ?_
    show D.ref (st.length + 1 + i) = D.ref (st.length + (i + 1))
    congr 1
    omega
theorem board_init : fn_Board____init__ [.ref st.length] (st ++ [.ins "Board" []]) = some (.non, st ++ (.ins "Board" [("given", .ref (st.length + 1)), ("rows", .lst ((List.range 1000).map fun i => .ref (st.length + 2 + i)))] :: .lst [] :: List.replicate 1000 (.dK []))) := by
  let R : Rho := [some (.ref st.length), none]
  have f0 : fLst fNil R (st ++ [.ins "Board" []]) = some (.ref (st.length + 1), st ++ [.ins "Board" []] ++ [.lst []]) := by
    rw [e_lst, e_nil]
    simp only [Option.bind_some]
    rw [if_pos (by rw [sizeLine_eq]; decide)]
    simp
  have p1 := fldT_ok (ρ := R) (st := st ++ [.ins "Board" []]) (c := "Board") (f := "given") (fo := fV 0) (l := st.length) (fs := []) f0 rfl (by simp) (by simp)
  rw [putF_nil, List.append_assoc, List.singleton_append, set_mid] at p1
  have rg : iRange1 (fCons (fOp addD (fC (.int 999)) (fC (.int 1))) fNil) R (st ++ .ins "Board" [("given", .ref (st.length + 1))] :: [.lst []]) = some (rangeD 0 1000, [], st ++ .ins "Board" [("given", .ref (st.length + 1))] :: [.lst []]) := range_ok (n := 1000) rfl (by decide)
  have lc : fLcZ (iRange1 (fCons (fOp addD (fC (.int 999)) (fC (.int 1))) fNil)) (.one 1) fYes fDNewK [1] R (st ++ .ins "Board" [("given", .ref (st.length + 1))] :: [.lst []]) = some (.lst ((List.range 1000).map fun i => .ref (st.length + 2 + i)), st ++ .ins "Board" [("given", .ref (st.length + 1))] :: [.lst []] ++ List.replicate 1000 (.dK [])) := by
    refine lcz_ok rg ?_ (by rw [List.length_map, List.length_range]; exact Nat.le_refl _)
    unfold rangeD
    rw [List.range_eq_range']
    have := lc_dicts (n' := 0) (ρ := wipeD R [1]) 1000 0 (st ++ .ins "Board" [("given", .ref (st.length + 1))] :: [.lst []])
    rw [this]
    have el : (st ++ O.ins "Board" [("given", .ref (st.length + 1))] :: [.lst []]).length = st.length + 2 := by simp
    rw [el, List.range_eq_range']
  have p2 := fldT_ok (ρ := R) (c := "Board") (f := "rows") (fo := fV 0) (l := st.length) (fs := [("given", .ref (st.length + 1))]) lc rfl (by simp) (by simp)
  rw [putF_ne (by decide), putF_nil, List.append_assoc, List.cons_append, set_mid] at p2
  unfold fn_Board____init__
  exact runN_at (ρ := R) (ρ' := R) rfl (seqT p1 p2)
theorem prices_ok {ps : List Int} (h1 : 1 ≤ ps.length) (h2 : ps.length ≤ 9) (hp : ∀ p ∈ ps, 0 ≤ p ∧ p ≤ 1000) : fn_are_prices [EL.tun ps] st = some (.bl true, st) := by
  unfold fn_are_prices
  refine seal_same ?_ rfl
  let R : Rho := [some (EL.tun ps)]
  have c1 : fCall isiD (fCons (fV 0) (fCons (fC (.ty "tuple")) fNil)) R st = some (.bl true, st) := rfl
  have c2 : fChain leD leD (fC (.int 1)) (fCall lenD (fCons (fV 0) fNil)) (fC (.int 9)) R st = some (.bl true, st) := by
    have g : fCall lenD (fCons (fV 0) fNil) R st = some (.int (ps.length : Nat), st) := by
      rw [lenI (ds := ps.map D.int) rfl, List.length_map]
    rw [e_chain]
    simp only [e_C, Option.bind_some]
    rw [g]
    simp only [Option.bind_some]
    rw [e_leI, decide_eq_true (by omega : (1 : Int) ≤ (ps.length : Nat))]
    simp only [Option.bind_some]
    rw [e_leI, decide_eq_true (by omega : ((ps.length : Nat) : Int) ≤ 9)]
  have A := allG_true (st := st) (fi := iSeq (fV 0)) (fe := fFn 3 fn_is_whole (fCons (fV 0) (fCons (fC (.int 0)) (fCons (fC (.int 1000)) fNil)))) (cap := [none]) (ρ := R) (items := ps.map D.int) rfl rfl fun d hd => by
    obtain ⟨x, hx, rfl⟩ := List.mem_map.mp hd
    exact fn_ok (ds := [.int x, .int 0, .int 1000]) (st1 := st) rfl rfl (whole_eq (hp x hx).1 (hp x hx).2)
  exact run_at (ρ := R) (ρ' := R) rfl (seqT (if_no (or_ff (tnot_ok c1) (tnot_ok c2))) (ret_ok A))
theorem house_init {ps : List Int} {lk : Int} (h1 : 1 ≤ ps.length) (h2 : ps.length ≤ 9) (hp : ∀ p ∈ ps, 0 ≤ p ∧ p ≤ 1000) (l1 : 1 ≤ lk) (l2 : lk ≤ 1000) :
    ∃ st', fn_House____init__ [.ref st.length, EL.tun ps, .int lk] (st ++ [.ins "House" []]) = some (.non, st') ∧ HAt st.length [] (Hs.new ps lk) false st' ∧ (∀ k, k < st.length → st'[k]? = st[k]?) := by
  let R : Rho := [some (.ref st.length), some (EL.tun ps), some (.int lk)]
  let n := st.length
  have c1 : fFn 1 fn_are_prices (fCons (fV 1) fNil) R (st ++ [.ins "House" []]) = some (.bl true, st ++ [.ins "House" []]) := fn_ok (ds := [EL.tun ps]) (st1 := st ++ [.ins "House" []]) rfl rfl (prices_ok h1 h2 hp)
  have c2 : fFn 1 fn_is_leak (fCons (fV 2) fNil) R (st ++ [.ins "House" []]) = some (.bl true, st ++ [.ins "House" []]) := fn_ok (ds := [.int lk]) (st1 := st ++ [.ins "House" []]) rfl rfl (leak_eq l1 l2)
  have s1 := fldNew (ρ := R) (st := st) (c := "House") (f := "busy") (fv := fC (.bl false)) (fo := fV 0) (fs := []) (v := .bl false) rfl rfl (by simp)
  rw [putF_nil] at s1
  have s2 := fldNew (ρ := R) (st := st) (c := "House") (f := "prices") (fv := fV 1) (fo := fV 0) (fs := [("busy", .bl false)]) (v := EL.tun ps) rfl rfl (by simp)
  rw [putF_ne (by decide), putF_nil] at s2
  have s3 := fldNew (ρ := R) (st := st) (c := "House") (f := "leak") (fv := fV 2) (fo := fV 0) (fs := [("busy", .bl false), ("prices", EL.tun ps)]) (v := .int lk) rfl rfl (by simp)
  rw [putF_ne (by decide), putF_ne (by decide), putF_nil] at s3
  have s4 := fldNew (ρ := R) (st := st) (c := "House") (f := "hour") (fv := fC (.int 0)) (fo := fV 0) (fs := [("busy", .bl false), ("prices", EL.tun ps), ("leak", .int lk)]) (v := .int 0) rfl rfl (by simp)
  rw [putF_ne (by decide), putF_ne (by decide), putF_ne (by decide), putF_nil] at s4
  have t0 : fTup fNil R (st ++ [.ins "House" [("busy", .bl false), ("prices", EL.tun ps), ("leak", .int lk), ("hour", .int 0)]]) = some (ssD [], st ++ [.ins "House" [("busy", .bl false), ("prices", EL.tun ps), ("leak", .int lk), ("hour", .int 0)]]) := by
    rw [e_tup, e_nil]
    simp only [Option.bind_some]
    rw [if_pos (by rw [sizeLine_eq]; decide)]
    rfl
  have s5 := fldNew (ρ := R) (st := st) (c := "House") (f := "members") (fv := fTup fNil) (fo := fV 0) (fs := [("busy", .bl false), ("prices", EL.tun ps), ("leak", .int lk), ("hour", .int 0)]) (v := ssD []) t0 rfl (by simp)
  rw [putF_ne (by decide), putF_ne (by decide), putF_ne (by decide), putF_ne (by decide), putF_nil] at s5
  have d6 : fDNewK R (st ++ [.ins "House" [("busy", .bl false), ("prices", EL.tun ps), ("leak", .int lk), ("hour", .int 0), ("members", ssD [])]]) = some (.ref (st.length + 1), st ++ .ins "House" [("busy", .bl false), ("prices", EL.tun ps), ("leak", .int lk), ("hour", .int 0), ("members", ssD [])] :: [.dK []]) := by
    unfold fDNewK
    rw [List.length_append, List.append_assoc]
    rfl
  have s6 := fldT_ok (ρ := R) (c := "House") (f := "powers") (fo := fV 0) (l := st.length) (fs := [("busy", .bl false), ("prices", EL.tun ps), ("leak", .int lk), ("hour", .int 0), ("members", ssD [])]) d6 rfl (by simp) (by simp)
  rw [putF_ne (by decide), putF_ne (by decide), putF_ne (by decide), putF_ne (by decide), putF_ne (by decide), putF_nil, set_mid] at s6
  have d7 : fDNewK R (st ++ .ins "House" [("busy", .bl false), ("prices", EL.tun ps), ("leak", .int lk), ("hour", .int 0), ("members", ssD []), ("powers", .ref (st.length + 1))] :: [.dK []]) = some (.ref (st.length + 2), st ++ .ins "House" [("busy", .bl false), ("prices", EL.tun ps), ("leak", .int lk), ("hour", .int 0), ("members", ssD []), ("powers", .ref (st.length + 1))] :: [.dK [], .dK []]) := by
    unfold fDNewK
    rw [List.length_append, List.append_assoc]
    rfl
  have s7 := fldT_ok (ρ := R) (c := "House") (f := "debts") (fo := fV 0) (l := st.length) (fs := [("busy", .bl false), ("prices", EL.tun ps), ("leak", .int lk), ("hour", .int 0), ("members", ssD []), ("powers", .ref (st.length + 1))]) d7 rfl (by simp) (by simp)
  rw [putF_ne (by decide), putF_ne (by decide), putF_ne (by decide), putF_ne (by decide), putF_ne (by decide), putF_ne (by decide), putF_nil, set_mid] at s7
  have el : (st ++ O.ins "House" [("busy", .bl false), ("prices", EL.tun ps), ("leak", .int lk), ("hour", .int 0), ("members", ssD []), ("powers", .ref (st.length + 1)), ("debts", .ref (st.length + 2))] :: [.dK [], .dK []]).length = st.length + 3 := by simp
  have bi := board_init (st := st ++ O.ins "House" [("busy", .bl false), ("prices", EL.tun ps), ("leak", .int lk), ("hour", .int 0), ("members", ssD []), ("powers", .ref (st.length + 1)), ("debts", .ref (st.length + 2))] :: [.dK [], .dK []])
  have d8 := make_ok (ρ := R) (c := "Board") (n := 1) (fr := fNil) (ds := []) (st := st ++ O.ins "House" [("busy", .bl false), ("prices", EL.tun ps), ("leak", .int lk), ("hour", .int 0), ("members", ssD []), ("powers", .ref (st.length + 1)), ("debts", .ref (st.length + 2))] :: [.dK [], .dK []]) rfl rfl bi
  rw [el, List.append_assoc, List.cons_append] at d8
  have s8 := fldT_ok (ρ := R) (c := "House") (f := "board") (fo := fV 0) (l := st.length) (fs := [("busy", .bl false), ("prices", EL.tun ps), ("leak", .int lk), ("hour", .int 0), ("members", ssD []), ("powers", .ref (st.length + 1)), ("debts", .ref (st.length + 2))]) d8 rfl (by simp) (by simp)
  rw [putF_ne (by decide), putF_ne (by decide), putF_ne (by decide), putF_ne (by decide), putF_ne (by decide), putF_ne (by decide), putF_ne (by decide), putF_nil, set_mid] at s8
  have key := runN_at (N := 3) (sb := sb_House____init__) (ds := [.ref st.length, EL.tun ps, .int lk]) (ρ := R) (ρ' := R) rfl (seqT (if_no (tnot_ok c1)) (seqT (if_no (tnot_ok c2)) (seqT s1 (seqT s2 (seqT s3 (seqT s4 (seqT s5 (seqT s6 (seqT s7 s8)))))))))
  refine ⟨_, key, ?_, ?_⟩
  · refine ⟨by rw [List.getElem?_append_right (Nat.le_refl _)]; simp; rfl, by rw [List.getElem?_append_right (by omega)]; simp; rfl, by rw [List.getElem?_append_right (by omega)]; simp; rfl, by rw [List.getElem?_append_right (by omega)]; simp; rfl, by rw [List.getElem?_append_right (by omega)]; simp, rfl, (fun x hx => by cases hx), (fun i l lic e => by simp at e), fun i hi => ?_⟩
    rw [List.getElem?_append_right (by omega), show st.length + 5 + i - st.length = i + 5 by omega]
    show (List.replicate 1000 (O.dK []))[i]? = _
    rw [List.getElem?_replicate, if_pos hi]
    rfl
  · exact fun k hk => List.getElem?_append_left hk
theorem new_ok {ps : List Int} {lk : Int} (h2 : ps.length ≤ 9) (hp : ∀ p ∈ ps, 0 ≤ p ∧ p ≤ 1000) (l1 : 1 ≤ lk) (l2 : lk ≤ 1000) : (Hs.new ps lk).Ok where
  pr := ⟨h2, hp⟩
  lk := ⟨l1, l2⟩
  st := fun s hs => by cases hs
  nm := List.nil_sublist _
  db := fun s hs => by cases hs
  dn := fun x hx => by cases hx
  pw := fun s hs => by cases hs
  dl := ⟨Nat.le_refl _, Nat.le_refl _⟩
  rk := fun k hk => ⟨List.nodup_nil, fun p hp => by cases hp⟩
  lb := fun l hl => by cases hl
end
end EL
set_option Elab.async false
set_option linter.all false
set_option maxRecDepth 100000
set_option maxHeartbeats 400000
namespace EL
open PySem PySem.Spec PyProof.Rows L2 GxR LG FW
section
variable {lh i j n f l m : Nat} {ll ll' : List Nat} {h h' : Hs} {b b' : Bool} {st st1 s s1 s2 s3 : Sto} {ρ ρ' : Rho} {x y : Str} {t : List Int} {a : Air} {r q : Stn}
def Hs.price (h : Hs) (m : Nat) : Int := h.prices.getD (m - 1) 0
def Hs.cost (h : Hs) (m f l : Nat) : Int := h.price m * ((l : Nat) - (f : Nat) + 1)
def Hs.lic (h : Hs) (x : Str) (m f l : Nat) : Lic := ⟨x, (m : Nat), h.price m, (f : Nat), (l : Nat)⟩
def Hs.debt (h : Hs) (x : Str) : Int := (look h.db x).getD 0
def Hs.asked (h : Hs) (x : Str) (m f l : Nat) : Hs := { h.giveTo (h.lic x m f l) f (l + 1 - f) with db := putA h.db x (h.debt x + h.cost m f l) }
theorem least_some (e : h.least i f l = some m) : 1 ≤ m ∧ m ≤ h.prices.length ∧ h.fits i f l (m : Nat) = true := by
  unfold Hs.least at e
  obtain ⟨k, hk, q⟩ := List.exists_of_findSome?_eq_some e
  have hk := List.mem_range.mp hk
  split at q
  · rename_i hf
    cases q
    exact ⟨by omega, by omega, by rw [show ((1 + k : Nat) : Int) = 1 + (k : Nat) by omega]; exact hf⟩
  · cases q
theorem hs0_of (A : HAt lh ll h false st) : Fz lh st (st.set lh (houseO lh h true) ++ [deedO lh]) := by
  have lt := A.lt
  exact (Fz.set (Nat.le_refl _) (by omega)).trans (Fz.app (by simp; omega) _)
abbrev askR (lh : Nat) (x : Str) (f l : Nat) (x4 x5 x6 x7 : Option D) : Rho := [some (.ref lh), some (.str x), some (.int (f : Nat)), some (.int (l : Nat)), x4, x5, x6, x7]
noncomputable def askB : FS := (sSeq (sExpr (fMeth "House" "check_station" 2 fn_House__check_station (fV 0) (fCons (fV 1) fNil)))
    (sSeq (sExpr (fMeth "House" "check_hours" 3 fn_House__check_hours (fV 0) (fCons (fV 2) (fCons (fV 3) fNil))))
    (sSeq (sExpr (fMeth "House" "check_free" 4 fn_House__check_free (fV 0) (fCons (fV 1) (fCons (fV 2) (fCons (fV 3) fNil)))))
    (sSeq (sSet 4 (fMeth "House" "least_band" 4 fn_House__least_band (fV 0) (fCons (fV 1) (fCons (fV 2) (fCons (fV 3) fNil)))))
    (sSeq (sIf (fTst (fOp (isB false) (fV 4) (fC .non))) (sRet (fC .non)) sNext)
    (sSeq (sSet 5 (fOp ixD (fFld "House" "prices" (fV 0)) (fOp subD (fV 4) (fC (.int 1)))))
    (sSeq (sSet 6 (fMeth "Board" "give" 2 fn_Board__give (fFld "House" "board" (fV 0)) (fCons (fMake "Licence" 6 fn_Licence____init__ (fCons (fV 1) (fCons (fV 4) (fCons (fV 5) (fCons (fV 2) (fCons (fV 3) fNil)))))) fNil)))
    (sSeq (sSet 7 (fOp mulD (fV 5) (fOp addD (fOp subD (fV 3) (fV 2)) (fC (.int 1)))))
    (sSeq (sDAugK true (fV 7) (fFld "House" "debts" (fV 0)) (fV 1))
    (sRet (fTup (fCons (fV 6) (fCons (fV 4) (fCons (fV 7) fNil))))))))))))))
theorem ask_form : sb_House__ask = sWith "Deed" fn_Deed____enter__ fn_Deed____exit__ (fMake "Deed" 2 fn_Deed____init__ (fCons (fV 0) fNil)) askB := rfl
theorem ask_eq (A : HAt lh ll h false st) (o : h.Ok) (e : h.ss[i]? = some r) (h1 : h.hour ≤ (f : Nat)) (h2 : f ≤ l) (h3 : l ≤ f + 23) (h4 : l ≤ 999) (free : ∀ k, f ≤ k → k ≤ l → h.band r.nm k = 0) (hg : ll.length < 9000) :
    (h.least i f l = none ∧ ∃ st', fn_House__ask [.ref lh, .str r.nm, .int (f : Nat), .int (l : Nat)] st = some (.non, st') ∧ HAt lh ll h false st' ∧ Fz lh st st') ∨
    ∃ m l' st', h.least i f l = some m ∧ fn_House__ask [.ref lh, .str r.nm, .int (f : Nat), .int (l : Nat)] st = some (.tup [.int (h.gv.length : Nat), .int (m : Nat), .int (h.cost m f l)], st') ∧ HAt lh (ll ++ [l']) (h.asked r.nm m f l) false st' ∧ Fz lh st st' := by
  have lt := A.lt
  have hm := List.mem_of_getElem? e
  have ha := o.air (List.ne_nil_of_mem hm)
  have A0 := deed_in A
  have f0 := hs0_of A
  generalize hs0 : st.set lh (houseO lh h true) ++ [deedO lh] = s0 at A0 f0
  have l0 := A0.lt
  obtain ⟨d0, ed⟩ := o.db r hm
  have hd : (look h.db r.nm).isSome = true := by rw [ed]; rfl
  have c1 : fMeth "House" "check_station" 2 fn_House__check_station (fV 0) (fCons (fV 1) fNil) (askR lh r.nm f l none none none none) s0 = some (.non, s0) := methE (l := lh) (s1 := s0) rfl A0.hs rfl (ds := [.str r.nm]) (s2 := s0) rfl rfl (check_station_ok A0 (o.st r hm).nm hd)
  have c2 : fMeth "House" "check_hours" 3 fn_House__check_hours (fV 0) (fCons (fV 2) (fCons (fV 3) fNil)) (askR lh r.nm f l none none none none) s0 = some (.non, s0) := methE (l := lh) (s1 := s0) rfl A0.hs rfl (ds := [.int (f : Nat), .int (l : Nat)]) (s2 := s0) rfl rfl (check_hours_ok A0 h1 h2 h3 h4)
  have c3 : fMeth "House" "check_free" 4 fn_House__check_free (fV 0) (fCons (fV 1) (fCons (fV 2) (fCons (fV 3) fNil))) (askR lh r.nm f l none none none none) s0 = some (.non, s0) := methE (l := lh) (s1 := s0) rfl A0.hs rfl (ds := [.str r.nm, .int (f : Nat), .int (l : Nat)]) (s2 := s0) rfl rfl (check_free_ok A0 o.rows h4 (by omega) free)
  have c4 : fMeth "House" "least_band" 4 fn_House__least_band (fV 0) (fCons (fV 1) (fCons (fV 2) (fCons (fV 3) fNil))) (askR lh r.nm f l none none none none) s0 = some (natO (h.least i f l), s0) := methE (l := lh) (s1 := s0) rfl A0.hs rfl (ds := [.str r.nm, .int (f : Nat), .int (l : Nat)]) (s2 := s0) rfl rfl (least_band_eq A0 ha o.rows o.band e h2 h3 h4 o.pr.1)
  cases q : h.least i f l with
  | none =>
    left
    rw [q] at c4
    obtain ⟨w, wA, wf⟩ := deed_ok (ρ := askR lh r.nm f l none none none none) (ρ' := askR lh r.nm f l (some .non) none none none) (fl := .rt .non) (h' := h) (ll' := ll) (s3 := s0) (fb := askB) rfl A (by
      rw [hs0]
      exact seqT (expr_ok c1) (seqT (expr_ok c2) (seqT (expr_ok c3) (seqT (set_ok c4) (seqR (if_then (tst_ok (b := true) (op_ok (st1 := s0) (d := .non) (e := .non) (st2 := s0) rfl rfl rfl)) (ret_ok rfl))))))) (fun _ z => by cases z) A0 (by rw [hs0]; exact Fz.refl)
    refine ⟨rfl, _, ?_, wA, wf⟩
    unfold fn_House__ask
    rw [ask_form]
    exact run_at (ρ := askR lh r.nm f l none none none none) (ρ' := askR lh r.nm f l (some .non) none none none) rfl w
  | some m =>
    right
    rw [q] at c4
    obtain ⟨m1, m2, mf⟩ := least_some q
    have m9 := o.pr.1
    have hk : m - 1 < h.prices.length := by omega
    have pb : 0 ≤ h.price m ∧ h.price m ≤ 1000 := by
      unfold Hs.price
      rw [List.getD_eq_getElem?_getD, List.getElem?_eq_getElem hk]
      exact o.pr.2 _ (List.getElem_mem hk)
    have c5 : fOp ixD (fFld "House" "prices" (fV 0)) (fOp subD (fV 4) (fC (.int 1))) (askR lh r.nm f l (some (.int (m : Nat))) none none none) s0 = some (.int (h.price m), s0) := by
      have q1 : fOp subD (fV 4) (fC (.int 1)) (askR lh r.nm f l (some (.int (m : Nat))) none none none) s0 = some (.int ((m - 1 : Nat) : Int), s0) := by
        rw [op_ok (st1 := s0) (d := .int (m : Nat)) (e := .int 1) (st2 := s0) rfl rfl e_subI, show ((m : Nat) : Int) - 1 = ((m - 1 : Nat) : Int) by omega]
      exact op_ok (h_prices A0 rfl) q1 (tun_at rfl hk)
    have mk : fMake "Licence" 6 fn_Licence____init__ (fCons (fV 1) (fCons (fV 4) (fCons (fV 5) (fCons (fV 2) (fCons (fV 3) fNil))))) (askR lh r.nm f l (some (.int (m : Nat))) (some (.int (h.price m))) none none) s0 = some (.ref s0.length, s0 ++ [(h.lic r.nm m f l).o]) := make_ok (ds := [.str r.nm, .int (m : Nat), .int (h.price m), .int (f : Nat), .int (l : Nat)]) rfl rfl (licence_init (lic := h.lic r.nm m f l))
    obtain ⟨s1, g1, A1, f1⟩ := give_eq (A0.app [(h.lic r.nm m f l).o]) (l := s0.length) (lic := h.lic r.nm m f l) (f := f) (e := l) (by simp) (by omega) rfl rfl h2 h4 (fun k hk => by have := o.rl hk; omega) (by omega)
    have c6 : fMeth "Board" "give" 2 fn_Board__give (fFld "House" "board" (fV 0)) (fCons (fMake "Licence" 6 fn_Licence____init__ (fCons (fV 1) (fCons (fV 4) (fCons (fV 5) (fCons (fV 2) (fCons (fV 3) fNil)))))) fNil) (askR lh r.nm f l (some (.int (m : Nat))) (some (.int (h.price m))) none none) s0 = some (.int (h.gv.length : Nat), s1) := methE (l := lh + 3) (s1 := s0) (h_board A0 rfl) A0.bd rfl (ds := [.ref s0.length]) (s2 := s0 ++ [(h.lic r.nm m f l).o]) (by rw [e_cons, mk]; rfl) rfl g1
    have c7 : fOp mulD (fV 5) (fOp addD (fOp subD (fV 3) (fV 2)) (fC (.int 1))) (askR lh r.nm f l (some (.int (m : Nat))) (some (.int (h.price m))) (some (.int (h.gv.length : Nat))) none) s1 = some (.int (h.cost m f l), s1) := by
      refine op_ok (st1 := s1) (d := .int (h.price m)) rfl (op_ok (st1 := s1) (d := .int ((l : Nat) - (f : Nat))) (op_ok (st1 := s1) (d := .int (l : Nat)) (e := .int (f : Nat)) (st2 := s1) rfl rfl e_subI) (e := .int 1) (st2 := s1) rfl e_addI) (mul_ok (bt64 (x := h.price m) (by omega) (by omega)) (bt64 (x := (l : Nat) - (f : Nat) + 1) (by omega) (by omega)))
    have edb : (h.giveTo (h.lic r.nm m f l) f (l + 1 - f)).db = h.db := rfl
    have vd : valD (kvI (h.giveTo (h.lic r.nm m f l) f (l + 1 - f)).db) (Sum.inr r.nm) = some (.int (h.debt r.nm)) := by
      rw [edb, val_kvI, ed]
      unfold Hs.debt
      rw [ed]
      rfl
    have c8 := daugK_ok (ρ := askR lh r.nm f l (some (.int (m : Nat))) (some (.int (h.price m))) (some (.int (h.gv.length : Nat))) (some (.int (h.cost m f l)))) (fv := fV 7) (fo := fFld "House" "debts" (fV 0)) (fi := fV 1) (x := r.nm) (sg := true) (v := h.cost m f l) (h_debts A1 rfl) rfl A1.db vd rfl (by unfold kvI; rw [List.length_map, edb]; have := o.dl.1; have := o.l8; omega)
    rw [if_pos rfl, edb] at c8
    have e8 : putD (kvI h.db) (Sum.inr r.nm) (.int (h.debt r.nm + h.cost m f l)) = kvI (putA h.db r.nm (h.debt r.nm + h.cost m f l)) := put_kv (f := D.int) _ _ _
    rw [e8] at c8
    have A2 := A1.setD (putA h.db r.nm (h.debt r.nm + h.cost m f l))
    have A2 : HAt lh (ll ++ [s0.length]) (h.asked r.nm m f l) true (s1.set (lh + 2) (.dK (kvI (putA h.db r.nm (h.debt r.nm + h.cost m f l))))) := A2
    have fz : Fz lh s0 (s1.set (lh + 2) (.dK (kvI (putA h.db r.nm (h.debt r.nm + h.cost m f l))))) := ((Fz.app (by omega) _).trans f1).trans (Fz.set (by omega) (by omega))
    generalize s1.set (lh + 2) (.dK (kvI (putA h.db r.nm (h.debt r.nm + h.cost m f l)))) = s2 at c8 A2 fz
    obtain ⟨w, wA, wf⟩ := deed_ok (ρ := askR lh r.nm f l none none none none) (ρ' := askR lh r.nm f l (some (.int (m : Nat))) (some (.int (h.price m))) (some (.int (h.gv.length : Nat))) (some (.int (h.cost m f l)))) (fl := .rt (.tup [.int (h.gv.length : Nat), .int (m : Nat), .int (h.cost m f l)])) (h' := h.asked r.nm m f l) (ll' := ll ++ [s0.length]) (s3 := s2) (fb := askB) rfl A (by
      rw [hs0]
      exact seqT (expr_ok c1) (seqT (expr_ok c2) (seqT (expr_ok c3) (seqT (set_ok c4) (seqT (if_no (tst_ok (b := false) (op_ok (st1 := s0) (d := .int (m : Nat)) (e := .non) (st2 := s0) rfl rfl rfl))) (seqT (set_ok c5) (seqT (set_ok c6) (seqT (set_ok c7) (seqT c8 (ret_ok (tup3 (st := s2) (x := .int (h.gv.length : Nat)) (y := .int (m : Nat)) (z := .int (h.cost m f l)) rfl rfl rfl))))))))))) (fun _ z => by cases z) A2 (by rw [hs0]; exact fz)
    refine ⟨m, s0.length, _, rfl, ?_, wA, wf⟩
    unfold fn_House__ask
    rw [ask_form]
    exact run_at (ρ := askR lh r.nm f l none none none none) rfl w
theorem asked_ok (o : h.Ok) (e : h.ss[i]? = some r) (m1 : 1 ≤ m) (m9 : m ≤ 9) : (h.asked r.nm m f l).Ok where
  pr := o.pr
  lk := o.lk
  st := o.st
  nm := o.nm
  db := fun s hs => by
    show ∃ d, look (putA h.db r.nm _) s.nm = some d
    rw [look_put]
    split
    · exact ⟨_, rfl⟩
    · exact o.db s hs
  dn := fun x hx => by
    have hx : (look (putA h.db r.nm (h.debt r.nm + h.cost m f l)) x).isSome = true := hx
    rw [look_put] at hx
    split at hx
    · rename_i ex
      rw [ex]
      exact List.mem_map_of_mem (f := Stn.nm) (List.mem_of_getElem? e)
    · exact o.dn x hx
  pw := o.pw
  dl := by
    refine ⟨?_, o.dl.2⟩
    show (putA h.db r.nm _).length ≤ h.ss.length
    obtain ⟨p, ep⟩ := o.db r (List.mem_of_getElem? e)
    have : (h.db.any fun p => decide (p.1 = r.nm)) = true := List.any_eq_true.mpr ⟨_, look_mem ep, by simp⟩
    unfold putA
    rw [if_pos this, List.length_map]
    exact o.dl.1
  rk := fun k hk => by
    obtain ⟨n1, n2⟩ := o.rk k hk
    show ((if f ≤ k ∧ k < f + (l + 1 - f) then putA (h.rows k) r.nm h.gv.length else h.rows k).map (·.1)).Nodup ∧ ∀ p ∈ (if f ≤ k ∧ k < f + (l + 1 - f) then putA (h.rows k) r.nm h.gv.length else h.rows k), p.1 ∈ h.ss.map Stn.nm ∧ p.2 < (h.gv ++ [h.lic r.nm m f l]).length
    split
    · refine ⟨put_keys n1, fun p hp => ?_⟩
      rw [List.length_append, List.length_singleton]
      rcases mem_put hp with hp | hp
      · have := n2 p hp
        exact ⟨this.1, by omega⟩
      · rw [hp]
        exact ⟨List.mem_map_of_mem (f := Stn.nm) (List.mem_of_getElem? e), by show h.gv.length < _; omega⟩
    · refine ⟨n1, fun p hp => ?_⟩
      rw [List.length_append, List.length_singleton]
      have := n2 p hp
      exact ⟨this.1, by omega⟩
  lb := fun lic hl => by
    have hl : lic ∈ h.gv ++ [h.lic r.nm m f l] := hl
    rcases List.mem_append.mp hl with hl | hl
    · exact o.lb lic hl
    · rw [List.mem_singleton.mp hl]
      show 1 ≤ ((m : Nat) : Int) ∧ ((m : Nat) : Int) ≤ 9
      omega
def nzP (l : List Pr) : List Pr := l.filter fun x => decide (x.2 ≠ 0)
def hearL (lk : Int) (l : List Pr) : Bool := l.all fun x => stP x.1 (rowsP lk x.1 x.2 l)
theorem rowsP_nz0 {lk ti : Int} (l : List Pr) : rowsP lk r ti (nzP l) = rowsP lk r ti l := by
  have := rowsP_nz (r := r) (lk := lk) (ti := ti) (f := id) (fun x hx => hx) l
  rw [List.map_id, List.map_id] at this
  exact this
theorem allH_nz (ha : a.Ok) (ht : t.length = a.ss.length) (h9 : ∀ y ∈ t, 0 ≤ y ∧ y ≤ 9) : allH a t = hearL a.lk (nzP (pairsA a t)) := by
  unfold allH hearL
  rw [Bool.eq_iff_iff, List.all_eq_true, List.all_eq_true]
  constructor
  · intro z p hp
    obtain ⟨hp1, hp2⟩ := List.mem_filter.mp hp
    obtain ⟨y, hy, rfl⟩ := List.mem_map.mp hp1
    have nz : t.getD y.2 0 ≠ 0 := of_decide_eq_true hp2
    have := z y hy
    unfold okAt at this
    rw [decide_eq_false nz, Bool.false_or, heard_P ha ht h9 (zipIdx_mem hy) (by have := (getD_bd (c := 9) (by decide) h9 y.2).1; omega)] at this
    show stP y.1 (rowsP a.lk y.1 (t.getD y.2 0) (nzP (pairsA a t))) = true
    rw [rowsP_nz0]
    exact this
  · intro z y hy
    unfold okAt
    by_cases nz : t.getD y.2 0 = 0
    · rw [decide_eq_true nz]; rfl
    · rw [decide_eq_false nz, Bool.false_or, heard_P ha ht h9 (zipIdx_mem hy) (by have := (getD_bd (c := 9) (by decide) h9 y.2).1; omega)]
      have := z (y.1, t.getD y.2 0) (List.mem_filter.mpr ⟨List.mem_map.mpr ⟨y, hy, rfl⟩, decide_eq_true nz⟩)
      have this : stP y.1 (rowsP a.lk y.1 (t.getD y.2 0) (nzP (pairsA a t))) = true := this
      rw [rowsP_nz0] at this
      exact this
theorem pairs_map {g : Stn → Int} : pairsA a (a.ss.map g) = a.ss.map fun s => (s, g s) := by
  unfold pairsA
  apply List.ext_getElem?
  intro j
  rw [List.getElem?_map, List.getElem?_map, List.getElem?_zipIdx]
  cases e : a.ss[j]? with
  | none => rfl
  | some s => simp [e]
end
end EL
set_option Elab.async false
set_option linter.all false
set_option maxRecDepth 100000
set_option maxHeartbeats 400000
namespace EL
open PySem PySem.Spec PyProof.Rows L2 GxR LG FW
section
variable {lh i j n k : Nat} {ll ll' : List Nat} {h h' : Hs} {b b' : Bool} {st st1 s s1 s2 s3 : Sto} {ρ ρ' : Rho} {x y : Str} {t u : List Int} {a c : Air} {r q : Stn} {xs ys : List Str}
theorem HAt.keep (A : HAt lh ll h b st) (kp : ∀ n, lh ≤ n → n < st.length → st1[n]? = st[n]?) : HAt lh ll h b st1 where
  hs := by rw [kp _ (by omega) (by have := A.lt; omega)]; exact A.hs
  pw := by rw [kp _ (by omega) (by have := A.lt; omega)]; exact A.pw
  db := by rw [kp _ (by omega) (by have := A.lt; omega)]; exact A.db
  bd := by rw [kp _ (by omega) (by have := A.lt; omega)]; exact A.bd
  gv := by rw [kp _ (by omega) (by have := A.lt; omega)]; exact A.gv
  gl := A.gl
  hi := A.hi
  lc := fun i l lic q1 q2 => by
    have := A.lc i l lic q1 q2
    rw [kp l (by have := A.hi l (List.mem_of_getElem? q1); omega) (List.getElem?_eq_some_iff.mp this).1]
    exact this
  rw := fun i hi => by rw [kp _ (by omega) (by have := A.lt; omega)]; exact A.rw i hi
theorem HAt.go {lb : Nat} (A : HAt lh ll h b st) (hl : lb < lh) (g : Go lb st st1) : HAt lh ll h b st1 := A.keep fun n hn _ => g.at (by omega)
theorem stn_pure (s : Stn) : pureB s.d = true := rfl
theorem hstations_eq (A : HAt lh ll h b st) : fn_House__stations [.ref lh] st = some (.lst (h.ss.map Stn.d), st) := by
  refine seal_same (run_at (ρ := [some (.ref lh)]) (ρ' := [some (.ref lh)]) rfl (ret_ok ?_)) (by unfold pureB; exact pureL_map stn_pure _)
  rw [e_call, e_cons, h_members A rfl]
  rfl
theorem checkM {fo : FE} {fr : FA} (A : HAt lh ll h b st) (o : h.Ok) (hs : r ∈ h.ss) (e1 : fo ρ st = some (.ref lh, st)) (e2 : fr ρ st = some ([.str r.nm], st)) : fMeth "House" "check_station" 2 fn_House__check_station fo fr ρ st = some (.non, st) := by
  obtain ⟨d, ed⟩ := o.db r hs
  exact methE (l := lh) (s1 := st) e1 A.hs rfl e2 rfl (check_station_ok A (o.st r hs).nm (by rw [ed]; rfl))
def Hs.snd (h : Hs) (k : Nat) : List Stn := h.ss.filter fun s => decide (h.band s.nm k ≠ 0)
theorem zip_self {α : Type} {f : D → D → D} {p q : α → D} : ∀ l : List α, List.zipWith f (l.map p) (l.map q) = l.map fun x => f (p x) (q x)
  | [] => rfl
  | x :: l => by simp only [List.map_cons, List.zipWith_cons_cons, zip_self l]
theorem sending_eq (A : HAt lh ll h b st) (o : h.Ok) (hk : k < 1000) : fn_House__sending [.ref lh, .int (k : Nat)] st = some (.lst ((h.snd k).map fun s => .tup [.str s.nm, .int (h.band s.nm k)]), st) := by
  have l8 := o.l8
  refine seal_same (run_at (ρ := [some (.ref lh), some (.int (k : Nat)), none, none, none]) (ρ' := [some (.ref lh), some (.int (k : Nat)), some (EL.tun (h.tun h.ss k)), none, none]) rfl ?_) (by unfold pureB; exact pureL_map (fun _ => rfl) _)
  have g1 : fFn 3 fn_is_whole (fCons (fV 1) (fCons (fC (.int 0)) (fCons (fC (.int 999)) fNil))) [some (.ref lh), some (.int (k : Nat)), none, none, none] st = some (.bl true, st) := fn_ok (ds := [.int (k : Nat), .int 0, .int 999]) (st1 := st) rfl rfl (whole_eq (by omega) (by omega))
  have g2 : fMeth "Board" "tuning_in" 3 fn_Board__tuning_in (fFld "House" "board" (fV 0)) (fCons (fFld "House" "members" (fV 0)) (fCons (fV 1) fNil)) [some (.ref lh), some (.int (k : Nat)), none, none, none] st = some (EL.tun (h.tun h.ss k), st) := by
    refine methE (l := lh + 3) (s1 := st) (h_board A rfl) A.bd rfl (ds := [ssD h.ss, .int (k : Nat)]) (s2 := st) ?_ rfl (tuning_in_eq A o.rows hk l8)
    rw [e_cons, h_members A rfl]
    rfl
  refine seqT (if_no (tnot_ok g1)) (seqT (set_ok g2) (ret_ok ?_))
  have Z : iZip2 (fCons (fFld "House" "members" (fV 0)) (fCons (fV 2) fNil)) [some (.ref lh), some (.int (k : Nat)), some (EL.tun (h.tun h.ss k)), none, none] st = some (h.ss.map fun s => .tup [s.d, .int (h.band s.nm k)], [], st) := by
    unfold iZip2
    rw [e_cons, h_members A rfl]
    show some (List.zipWith _ (h.ss.map Stn.d) ((h.ss.map fun s => h.band s.nm k).map D.int), _, _) = _
    rw [List.map_map, zip_self]
    rfl
  refine lcz_ok Z (lcE (enc := fun s : Stn => .tup [s.d, .int (h.band s.nm k)]) (b := fun s => decide (h.band s.nm k ≠ 0)) (w := fun s => .tup [.str s.nm, .int (h.band s.nm k)]) (l := h.ss) Intact.nil fun s hs => ⟨[some (.ref lh), some (.int (k : Nat)), some (EL.tun (h.tun h.ss k)), some s.d, some (.int (h.band s.nm k))], rfl, ?_, fun _ => rfl⟩) ?_
  · rw [tst_ok (op_ok (d := .int (h.band s.nm k)) (e := .int 0) (st1 := st) (st2 := st) rfl rfl e_neI)]
    congr 2
    rw [decide_not]
  · have := List.length_filter_le (fun s => decide (h.band s.nm k ≠ 0)) h.ss
    rw [List.length_map]
    show (h.snd k).length ≤ 1000
    unfold Hs.snd
    omega
theorem send_P : sendL a t r = ((pairsA a t).filter fun x => decide (x.2 ≠ 0) && decide (x.1.nm ≠ r.nm)).map fun x => x.1.nm := by
  unfold sendL pairsA
  rw [List.filter_map, List.map_map]
  rfl
theorem Sub.send (S : Sub a t c u) : sendL c u r = sendL a t r := by
  rw [send_P, send_P, S.pr, List.filter_filter]
  congr 1
  refine List.filter_congr fun x _ => ?_
  by_cases z : x.2 = 0
  · simp [z]
  · simp [z]
end
end EL
set_option Elab.async false
set_option linter.all false
set_option maxRecDepth 100000
set_option maxHeartbeats 400000
namespace EL
open PySem PySem.Spec PyProof.Rows L2 GxR LG FW
section
variable {lh lb i j n k : Nat} {ll ll' : List Nat} {h h' : Hs} {b b' : Bool} {st st1 s s1 s2 s3 : Sto} {ρ ρ' : Rho} {x y : Str} {t u : List Int} {a c : Air} {r q : Stn} {xs ys : List Str}
theorem look_cons {p : Str × Int} {B : List (Str × Int)} : look (p :: B) x = if p.1 = x then some p.2 else look B x := by
  unfold look
  by_cases e : p.1 = x
  · rw [if_pos e, List.find?_cons_of_pos (by simp [e])]; rfl
  · rw [if_neg e, List.find?_cons_of_neg (by simp [e])]
theorem look_of : ∀ {B : List (Str × Int)} {v : Int}, (B.map (·.1)).Nodup → (x, v) ∈ B → look B x = some v
  | p :: B, v, nd, hm => by
    rw [List.map_cons] at nd
    obtain ⟨n1, n2⟩ := List.nodup_cons.mp nd
    rw [look_cons]
    rcases List.mem_cons.mp hm with e | hm
    · rw [← e, if_pos rfl]
    · have : p.1 ≠ x := fun e => n1 (by rw [e]; exact List.mem_map_of_mem (f := (·.1)) hm)
      rw [if_neg this]
      exact look_of n2 hm
def Hs.sndB (h : Hs) (k : Nat) : List (Str × Int) := (h.snd k).map fun s => (s.nm, h.band s.nm k)
theorem snd_nd (o : h.Ok) : ((h.sndB k).map (·.1)).Nodup := by
  unfold Hs.sndB
  rw [List.map_map]
  exact (((List.filter_sublist (l := h.ss)).map Stn.nm).trans o.nm).nodup (by decide)
theorem look_snd (o : h.Ok) (hs : r ∈ h.snd k) : look (h.sndB k) r.nm = some (h.band r.nm k) := look_of (snd_nd o) (List.mem_map.mpr ⟨r, hs, rfl⟩)
theorem snd_is (o : h.Ok) (hs : r ∈ h.ss) : (look (h.sndB k) r.nm).isSome = decide (h.band r.nm k ≠ 0) := by
  by_cases z : h.band r.nm k ≠ 0
  · rw [look_snd o (List.mem_filter.mpr ⟨hs, decide_eq_true z⟩), decide_eq_true z]; rfl
  · rw [decide_eq_false z]
    cases e : look (h.sndB k) r.nm with
    | none => rfl
    | some v =>
      obtain ⟨s, h1, h2⟩ := List.mem_map.mp (look_mem e)
      have h3 := of_decide_eq_true (List.mem_filter.mp h1).2
      have h4 : s.nm = r.nm := congrArg Prod.fst h2
      rw [h4] at h3
      exact absurd h3 z
theorem sndL8 (o : h.Ok) : (h.snd k).length ≤ 8 := Nat.le_trans (List.length_filter_le _ _) o.l8
end
end EL
set_option Elab.async false
set_option linter.all false
set_option maxRecDepth 100000
set_option maxHeartbeats 400000
namespace EL
open PySem PySem.Spec PyProof.Rows L2 GxR LG FW
end EL
set_option Elab.async false
set_option linter.all false
set_option maxRecDepth 100000
set_option maxHeartbeats 400000
namespace EL
open PySem PySem.Spec PyProof.Rows L2 GxR LG FW
def kvF {α : Type} (f : α → D) (l : List (Str × α)) : List (Key × D) := l.map fun p => (Sum.inr p.1, f p.2)
section
variable {lh lb i j n k f l m : Nat} {ll ll' : List Nat} {h h' : Hs} {b b' : Bool} {st st1 s s1 s2 s3 S0 : Sto} {ρ ρ' : Rho} {x y : Str} {t u : List Int} {a c : Air} {r q : Stn} {xs ys : List Str} {α : Type} {g : α → D}
theorem val_kvF (L : List (Str × α)) (x : Str) : valD (kvF g L) (Sum.inr x) = (look L x).map g := by
  unfold valD kvF look
  rw [find_map]
  have : (fun p : Str × α => decide (((Sum.inr p.1 : Key), g p.2).1 = Sum.inr x)) = fun p => decide (p.1 = x) := by
    funext p
    exact decide_eq_decide.mpr ⟨fun e => Sum.inr.inj e, fun e => congrArg Sum.inr e⟩
  rw [this]
  cases L.find? fun p => decide (p.1 = x) <;> rfl
theorem putA_new {L : List (Str × α)} {v : α} (hx : x ∉ L.map (·.1)) : putA L x v = L ++ [(x, v)] := by
  unfold putA
  rw [if_neg]
  intro z
  obtain ⟨p, hp, e⟩ := List.any_eq_true.mp z
  exact hx (List.mem_map.mpr ⟨p, hp, of_decide_eq_true e⟩)
theorem merge_new : ∀ (B A : List (Str × α)), ((A ++ B).map (·.1)).Nodup → mergeD (kvF g A) (kvF g B) = kvF g (A ++ B)
  | [], A, _ => by rw [List.append_nil]; rfl
  | p :: B, A, nd => by
    have e : putD (kvF g A) (Sum.inr p.1) (g p.2) = kvF g (putA A p.1 p.2) := put_kv (f := g) _ _ _
    have hp : p.1 ∉ A.map (·.1) := fun z => by
      rw [List.map_append, List.nodup_append] at nd
      exact nd.2.2 _ z _ (by simp) rfl
    show mergeD (putD (kvF g A) (Sum.inr p.1) (g p.2)) (kvF g B) = _
    have ap : A ++ p :: B = (A ++ [p]) ++ B := by simp
    rw [e, putA_new hp, merge_new B (A ++ [(p.1, p.2)]) (by rw [show (p.1, p.2) = p from rfl, ← ap]; exact nd), ap]
theorem pairsF : ∀ B : List (Str × α), pairsK (B.map fun p => D.tup [.str p.1, g p.2]) = some (kvF g B)
  | [] => rfl
  | p :: B => by
    rw [List.map_cons]
    unfold pairsK
    show Option.bind (some (Sum.inr p.1 : Key)) _ = _
    simp only [Option.bind_some, pairsF B]
    rfl
theorem dictF_ok {B : List (Str × α)} (nd : (B.map (·.1)).Nodup) : dictZ [.lst (B.map fun p => D.tup [.str p.1, g p.2])] st = some (.ref st.length, st ++ [.dK (kvF g B)]) := by
  unfold dictZ
  show Option.bind (listOf (.lst (B.map _)) st) _ = _
  rw [e_listOfZ]
  simp only [Option.bind_some]
  rw [pairsF]
  simp only [Option.bind_some]
  have : mergeD [] (kvF g B) = kvF g B := merge_new B [] (by simpa using nd)
  rw [this]
theorem lookF_of : ∀ {B : List (Str × α)} {v : α}, (B.map (·.1)).Nodup → (x, v) ∈ B → look B x = some v
  | p :: B, v, nd, hm => by
    rw [List.map_cons] at nd
    obtain ⟨n1, n2⟩ := List.nodup_cons.mp nd
    unfold look
    rcases List.mem_cons.mp hm with e | hm
    · rw [← e, List.find?_cons_of_pos (by simp)]; rfl
    · have : p.1 ≠ x := fun e => n1 (by rw [e]; exact List.mem_map_of_mem (f := (·.1)) hm)
      rw [List.find?_cons_of_neg (by simp [this])]
      exact lookF_of n2 hm
theorem strK_kv : ∀ L : List (Str × α), strK (kvF g L) = some (L.map (·.1))
  | [] => rfl
  | p :: L => by
    show strK ((Sum.inr p.1, g p.2) :: kvF g L) = _
    unfold strK
    rw [strK_kv L]
    rfl
theorem sortK_ok {L : List (Str × α)} {p : Nat} (e : st[p]? = some (.dK (kvF g L))) (h64 : L.length < 64) : sortK [.ref p] st = some (.lst (((L.map (·.1)).mergeSort SX.leS).map D.str), st) := by
  unfold sortK
  show Option.bind (dictK (.ref p) st) _ = _
  rw [dictK_ok e]
  simp only [Option.bind_some]
  rw [strK_kv]
  simp only [Option.bind_some]
  rw [if_pos (by rw [List.length_map]; exact h64)]
theorem for_findS {tg : Tg} {bd : FS} {enc : α → D} {F : α → Option D} {I : Rho → Sto → Prop} : ∀ {L : List α} {ρ : Rho} {s : Sto}, I ρ s →
    (∀ x ∈ L, ∀ ρ s, I ρ s → ∃ ρ1 ρ2 s2, tgD tg (enc x) ρ = some ρ1 ∧ I ρ2 s2 ∧ bd ρ1 s = some ((F x).elim .nx .rt, ρ2, s2)) →
    ∃ ρ' s', forD tg bd [] (L.map enc) ρ s = some ((L.findSome? F).elim .nx .rt, ρ', s') ∧ I ρ' s'
  | [], ρ, s, i, _ => ⟨ρ, s, by unfold forD; simp only [List.map_nil]; rw [if_pos Intact.nil]; rfl, i⟩
  | x :: L, ρ, s, i, hh => by
    obtain ⟨ρ1, ρ2, s2, e1, i2, e2⟩ := hh x List.mem_cons_self ρ s i
    simp only [List.map_cons]
    unfold forD
    rw [if_pos Intact.nil, e1]
    simp only [Option.bind_some]
    rw [e2]
    cases q : F x with
    | some v =>
      refine ⟨ρ2, s2, ?_, i2⟩
      rw [List.findSome?_cons, q]
      rfl
    | none =>
      obtain ⟨ρ', s', e3, i3⟩ := for_findS (L := L) i2 fun y hy => hh y (List.mem_cons_of_mem _ hy)
      refine ⟨ρ', s', ?_, i3⟩
      rw [List.findSome?_cons, q]
      exact e3
def Hs.bandW (h : Hs) (k : Nat) (x : Str) (m : Int) (s : Stn) : Int := if s.nm = x then m else h.band s.nm k
def Hs.wth (h : Hs) (k : Nat) (x : Str) (m : Int) : List Stn := h.ss.filter fun s => decide (h.bandW k x m s ≠ 0)
def Hs.wthA (h : Hs) (k : Nat) (x : Str) (m : Int) : Air := ⟨h.wth k x m, h.lk⟩
def Hs.wthT (h : Hs) (k : Nat) (x : Str) (m : Int) : List Int := (h.wth k x m).map (h.bandW k x m)
theorem tun_set (o : h.Ok) (e : h.ss[i]? = some r) (m : Int) : (h.tun h.ss k).set i m = h.ss.map (h.bandW k r.nm m) := by
  have hi := (List.getElem?_eq_some_iff.mp e).1
  apply List.ext_getElem?
  intro j
  unfold Hs.tun
  rw [List.getElem?_set, List.getElem?_map, List.getElem?_map, List.length_map]
  by_cases hj : i = j
  · subst hj
    rw [if_pos rfl, if_pos hi, e]
    show some m = some (h.bandW k r.nm m r)
    unfold Hs.bandW
    rw [if_pos rfl]
  · rw [if_neg hj]
    cases ej : h.ss[j]? with
    | none => rfl
    | some s =>
      show some (h.band s.nm k) = some (h.bandW k r.nm m s)
      unfold Hs.bandW
      rw [if_neg]
      intro z
      have nd : (h.ss.map Stn.nm).Nodup := o.nm.nodup (by decide)
      have h1 : (h.ss.map Stn.nm)[j]? = some r.nm := by rw [List.getElem?_map, ej]; exact congrArg some z
      have h2 : (h.ss.map Stn.nm)[i]? = some r.nm := by rw [List.getElem?_map, e]; rfl
      obtain ⟨l1, g1⟩ := List.getElem?_eq_some_iff.mp h1
      obtain ⟨l2, g2⟩ := List.getElem?_eq_some_iff.mp h2
      exact hj ((List.getElem_inj nd).mp (g2.trans g1.symm))
theorem wth_ok (o : h.Ok) (hs : r ∈ h.ss) {m : Int} (hm : m ≠ 0) : (h.wthA k r.nm m).Ok := by
  have sb : (h.wth k r.nm m).Sublist h.ss := List.filter_sublist
  have l8 := o.l8
  refine ⟨⟨⟨?_, ?_⟩, ?_, ?_⟩, o.lk⟩
  · refine List.length_pos_iff.mpr (List.ne_nil_of_mem (a := r) (List.mem_filter.mpr ⟨hs, decide_eq_true ?_⟩))
    unfold Hs.bandW
    rw [if_pos rfl]
    exact hm
  · have := sb.length_le
    show (h.wth k r.nm m).length ≤ 8
    omega
  · exact (sb.map Stn.nm).trans o.nm
  · exact fun s hs => o.st s (sb.subset hs)
theorem bandW_bd (o : h.Ok) (hk : k < 1000) {m : Int} (m1 : 0 ≤ m) (m9 : m ≤ 9) {s : Stn} : 0 ≤ h.bandW k x m s ∧ h.bandW k x m s ≤ 9 := by
  unfold Hs.bandW
  split
  · exact ⟨m1, m9⟩
  · exact o.band _ _ hk
theorem wth_heard (o : h.Ok) (hk : k < 1000) (e : h.ss[i]? = some r) {m : Int} (m1 : 1 ≤ m) (m9 : m ≤ 9) : allH (h.wthA k r.nm m) (h.wthT k r.nm m) = allH h.air ((h.tun h.ss k).set i m) := by
  have hs := List.mem_of_getElem? e
  have wa := wth_ok (k := k) o hs (m := m) (by omega)
  have ha := o.air (List.ne_nil_of_mem hs)
  rw [tun_set o e m]
  have b1 : ∀ y ∈ h.wthT k r.nm m, 0 ≤ y ∧ y ≤ 9 := fun y hy => by
    obtain ⟨s, _, rfl⟩ := List.mem_map.mp hy
    exact bandW_bd o hk (by omega) m9
  have b2 : ∀ y ∈ h.ss.map (h.bandW k r.nm m), 0 ≤ y ∧ y ≤ 9 := fun y hy => by
    obtain ⟨s, _, rfl⟩ := List.mem_map.mp hy
    exact bandW_bd o hk (by omega) m9
  rw [allH_nz wa (by show (List.map _ _).length = (h.wth k r.nm m).length; rw [List.length_map]) b1, allH_nz ha (by show (List.map _ _).length = h.ss.length; rw [List.length_map]) b2]
  have e1 : pairsA (h.wthA k r.nm m) (h.wthT k r.nm m) = (h.wth k r.nm m).map fun s => (s, h.bandW k r.nm m s) := pairs_map (a := h.wthA k r.nm m)
  have e2 : pairsA h.air (h.ss.map (h.bandW k r.nm m)) = h.ss.map fun s => (s, h.bandW k r.nm m s) := pairs_map (a := h.air)
  rw [e1, e2]
  show hearL h.lk _ = hearL h.lk _
  congr 1
  unfold nzP Hs.wth
  rw [List.filter_map, List.filter_map, List.filter_filter]
  congr 1
  refine List.filter_congr fun s _ => ?_
  show (decide (h.bandW k r.nm m s ≠ 0) && decide (h.bandW k r.nm m s ≠ 0)) = decide (h.bandW k r.nm m s ≠ 0)
  rw [Bool.and_self]
theorem wth_names (o : h.Ok) (hs : r ∈ h.ss) (hz : h.band r.nm k = 0) {m : Int} (hm : m ≠ 0) : (((h.sndB k).map (·.1)) ++ [r.nm]).mergeSort SX.leS = (h.wth k r.nm m).map Stn.nm := by
  have sb : (h.wth k r.nm m).Sublist h.ss := List.filter_sublist
  have ns : r.nm ∉ (h.sndB k).map (·.1) := fun z => by
    unfold Hs.sndB at z
    rw [List.map_map] at z
    obtain ⟨s, h1, h2⟩ := List.mem_map.mp z
    have h3 := of_decide_eq_true (List.mem_filter.mp h1).2
    have h2 : s.nm = r.nm := h2
    rw [h2] at h3
    exact h3 hz
  have nd1 : ((h.sndB k).map (·.1) ++ [r.nm]).Nodup := List.nodup_append.mpr ⟨snd_nd o, by simp, fun a ha b hb => by
    rw [List.mem_singleton.mp hb]
    exact fun z => ns (by rw [← z]; exact ha)⟩
  have nd2 : ((h.wth k r.nm m).map Stn.nm).Nodup := ((sb.map Stn.nm).trans o.nm).nodup (by decide)
  have pm : ((h.sndB k).map (·.1) ++ [r.nm]).Perm ((h.wth k r.nm m).map Stn.nm) := by
    refine (List.perm_ext_iff_of_nodup nd1 nd2).mpr fun x => ?_
    rw [List.mem_append, List.mem_singleton]
    unfold Hs.sndB
    rw [List.map_map, List.mem_map, List.mem_map]
    constructor
    · rintro (⟨s, h1, rfl⟩ | rfl)
      · obtain ⟨h2, h3⟩ := List.mem_filter.mp h1
        refine ⟨s, List.mem_filter.mpr ⟨h2, decide_eq_true ?_⟩, rfl⟩
        unfold Hs.bandW
        split
        · exact hm
        · exact of_decide_eq_true h3
      · refine ⟨r, List.mem_filter.mpr ⟨hs, decide_eq_true ?_⟩, rfl⟩
        unfold Hs.bandW
        rw [if_pos rfl]
        exact hm
    · rintro ⟨s, h1, rfl⟩
      obtain ⟨h2, h3⟩ := List.mem_filter.mp h1
      have h3 := of_decide_eq_true h3
      unfold Hs.bandW at h3
      by_cases z : s.nm = r.nm
      · exact .inr z
      · rw [if_neg z] at h3
        exact .inl ⟨s, List.mem_filter.mpr ⟨h2, decide_eq_true h3⟩, rfl⟩
  refine SX.srt_uniq (le := fun a b => SX.leS a b = true) (fun a b => SX.leS_anti) (List.pairwise_mergeSort SX.leS_tr SX.leS_tot _) ?_ ((List.mergeSort_perm _ SX.leS).trans pm)
  have p1 : ((h.wth k r.nm m).map Stn.nm).Pairwise fun u v => u.cps.toList < v.cps.toList := nms_lt.sublist ((sb.map Stn.nm).trans o.nm)
  exact p1.imp fun z => decide_eq_true (List.le_of_lt z)
end
end EL
set_option Elab.async false
set_option linter.all false
set_option maxRecDepth 100000
set_option maxHeartbeats 400000
namespace EL
open PySem PySem.Spec PyProof.Rows L2 GxR LG FW
section
variable {lh lb i j n k f l p : Nat} {m : Int} {ll ll' : List Nat} {h h' : Hs} {b b' : Bool} {st st1 s s1 s2 s3 S0 : Sto} {ρ ρ' : Rho} {x y : Str} {t u : List Int} {a c : Air} {r q : Stn} {xs ys : List Str} {x6 x7 x8 x9 x10 x11 : Option D}
abbrev lsR (lh : Nat) (lk n : Int) (x : Str) (f l : Nat) (x6 x7 x8 x9 x10 x11 : Option D) : Rho := [some (.ref lh), some (.int lk), some (.int n), some (.str x), some (.int (f : Nat)), some (.int (l : Nat)), x6, x7, x8, x9, x10, x11, none, none]
def Hs.knw (h : Hs) : List (Str × Stn) := h.ss.map fun s => (s.nm, s)
theorem knw_nd (o : h.Ok) : (h.knw.map (·.1)).Nodup := by
  unfold Hs.knw
  rw [List.map_map]
  exact o.nm.nodup (by decide)
theorem look_knw (o : h.Ok) (hs : r ∈ h.ss) : look h.knw r.nm = some r := lookF_of (knw_nd o) (List.mem_map.mpr ⟨r, hs, rfl⟩)
noncomputable def bodyH1 : FS := (sSeq (sSet 10 (fCall dictZ (fCons (fMeth "House" "sending" 2 fn_House__sending (fV 0) (fCons (fV 9) fNil)) fNil)))
    (sSeq (sDPutK (fV 7) (fV 10) (fV 3))
    (sSeq (sSet 11 (fCall tupleD (fCons (fLcZ (iSeq (fCall sortK (fCons (fV 10) fNil))) (.one 13) fYes (fOp getK (fV 6) (fV 13)) [13]) fNil)))
    (sSet 8 (fOp addD (fV 8) (fFn 2 fn_unheard (fCons (fTup (fCons (fV 11) (fCons (fV 1) fNil))) (fCons (fCall tupleD (fCons (fLcZ (iSeq (fV 11)) (.one 12) fYes (fOp getK (fV 10) (fOp ixD (fV 12) (fC (.int 0)))) [12]) fNil)) fNil))))))))
theorem unh_all : (unhL a t).length ≤ a.ss.length := by
  unfold unhL
  rw [List.length_map]
  have := List.length_filter_le (fun x => !okAt a t x) a.ss.zipIdx
  rw [List.length_zipIdx] at this
  exact this
theorem unh_iff : (unhL a t).isEmpty = allH a t := by
  unfold unhL allH
  rw [List.isEmpty_map]
  induction a.ss.zipIdx with
  | nil => rfl
  | cons x L ih =>
    rw [List.all_cons]
    cases q : okAt a t x with
    | true => rw [List.filter_cons_of_neg (by simp [q]), ih, Bool.true_and]
    | false => rw [List.filter_cons_of_pos (by simp [q])]; rfl
theorem bodyH1_ok (A : HAt lh ll h b s) (o : h.Ok) (hs : r ∈ h.ss) (hk : k < 1000) (hz : h.band r.nm k = 0) (m1 : 1 ≤ m) {acc : List D} (hp : s[p]? = some (.dK (kvF Stn.d h.knw))) (hl : acc.length ≤ 1000) :
    ∃ s2, bodyH1 (lsR lh h.lk n r.nm f l (some (.ref p)) (some (.int m)) (some (.lst acc)) (some (.int (k : Nat))) x10 x11) s = some (.nx, lsR lh h.lk n r.nm f l (some (.ref p)) (some (.int m)) (some (.lst (acc ++ unhL (h.wthA k r.nm m) (h.wthT k r.nm m)))) (some (.int (k : Nat))) (some (.ref s.length)) (some (ssD (h.wth k r.nm m))), s2) ∧ ∃ o1, s2 = s ++ [o1] := by
  have l8 := o.l8
  have s8 := sndL8 (k := k) o
  have wa := wth_ok (k := k) o hs (m := m) (by omega)
  have sb : (h.wth k r.nm m).Sublist h.ss := List.filter_sublist
  have w8 : (h.wth k r.nm m).length ≤ 8 := Nat.le_trans sb.length_le l8
  have ns : r.nm ∉ (h.sndB k).map (·.1) := fun z => by
    unfold Hs.sndB at z
    rw [List.map_map] at z
    obtain ⟨s, h1, h2⟩ := List.mem_map.mp z
    have h3 := of_decide_eq_true (List.mem_filter.mp h1).2
    have h2 : s.nm = r.nm := h2
    rw [h2] at h3
    exact h3 hz
  have bl : (h.sndB k).length ≤ 8 := by unfold Hs.sndB; rw [List.length_map]; exact s8
  let B := h.sndB k ++ [(r.nm, m)]
  have ndB : (B.map (·.1)).Nodup := by
    show ((h.sndB k ++ [(r.nm, m)]).map (·.1)).Nodup
    rw [List.map_append]
    exact List.nodup_append.mpr ⟨snd_nd o, by simp, fun a ha b hb => by
      have hb : b = r.nm := List.mem_singleton.mp hb
      rw [hb]
      exact fun z => ns (by rw [← z]; exact ha)⟩
  have pl : p < s.length := (List.getElem?_eq_some_iff.mp hp).1
  -- the dict of those who send
  have g10 : fCall dictZ (fCons (fMeth "House" "sending" 2 fn_House__sending (fV 0) (fCons (fV 9) fNil)) fNil) (lsR lh h.lk n r.nm f l (some (.ref p)) (some (.int m)) (some (.lst acc)) (some (.int (k : Nat))) x10 x11) s = some (.ref s.length, s ++ [.dK (kvF D.int (h.sndB k))]) := by
    have sd : fMeth "House" "sending" 2 fn_House__sending (fV 0) (fCons (fV 9) fNil) (lsR lh h.lk n r.nm f l (some (.ref p)) (some (.int m)) (some (.lst acc)) (some (.int (k : Nat))) x10 x11) s = some (.lst ((h.sndB k).map fun p => D.tup [.str p.1, .int p.2]), s) := by
      have e : (h.sndB k).map (fun p => D.tup [.str p.1, .int p.2]) = (h.snd k).map fun s => .tup [.str s.nm, .int (h.band s.nm k)] := by unfold Hs.sndB; rw [List.map_map]; rfl
      rw [e]
      exact methE (l := lh) (s1 := s) rfl A.hs rfl (ds := [.int (k : Nat)]) (s2 := s) rfl rfl (sending_eq A o hk)
    rw [e_call, e_cons, sd]
    exact dictF_ok (snd_nd o)
  have nw : (s ++ [O.dK (kvF D.int (h.sndB k))])[s.length]? = some (.dK (kvF D.int (h.sndB k))) := by simp
  have g11 := dputK_ok (ρ := lsR lh h.lk n r.nm f l (some (.ref p)) (some (.int m)) (some (.lst acc)) (some (.int (k : Nat))) (some (.ref s.length)) x11) (fv := fV 7) (fo := fV 10) (fi := fV 3) (st := s ++ [O.dK (kvF D.int (h.sndB k))]) (s1 := s ++ [O.dK (kvF D.int (h.sndB k))]) (x := r.nm) (v := .int m) rfl rfl rfl nw (by unfold kvF; rw [List.length_map]; omega)
  have e11 : putD (kvF D.int (h.sndB k)) (Sum.inr r.nm) (.int m) = kvF D.int B := by
    have := put_kv (f := D.int) (h.sndB k) r.nm m
    rw [putA_new ns] at this
    exact this
  have es : (s ++ [O.dK (kvF D.int (h.sndB k))]).set s.length (.dK (kvF D.int B)) = s ++ [.dK (kvF D.int B)] := by
    rw [List.set_append_right _ _ (Nat.le_refl _), Nat.sub_self]
    rfl
  rw [e11, es] at g11
  have nw2 : (s ++ [O.dK (kvF D.int B)])[s.length]? = some (.dK (kvF D.int B)) := by simp
  have hp2 : (s ++ [O.dK (kvF D.int B)])[p]? = some (.dK (kvF Stn.d h.knw)) := app_l hp
  generalize ht1 : s ++ [O.dK (kvF D.int B)] = t1 at g11 nw2 hp2
  have srt : iSeq (fCall sortK (fCons (fV 10) fNil)) (lsR lh h.lk n r.nm f l (some (.ref p)) (some (.int m)) (some (.lst acc)) (some (.int (k : Nat))) (some (.ref s.length)) x11) t1 = some ((h.wth k r.nm m).map fun s => .str s.nm, [], t1) := by
    have := sortK_ok nw2 (by show (h.sndB k ++ [(r.nm, m)]).length < 64; rw [List.length_append, List.length_singleton]; omega)
    have eb : B.map (·.1) = (h.sndB k).map (·.1) ++ [r.nm] := by show (h.sndB k ++ [(r.nm, m)]).map (·.1) = _; rw [List.map_append]; rfl
    rw [eb, wth_names o hs hz (show m ≠ 0 by omega), List.map_map] at this
    have f : fCall sortK (fCons (fV 10) fNil) (lsR lh h.lk n r.nm f l (some (.ref p)) (some (.int m)) (some (.lst acc)) (some (.int (k : Nat))) (some (.ref s.length)) x11) t1 = _ := this
    unfold iSeq
    rw [f]
    rfl
  have mem : ∀ s ∈ h.wth k r.nm m, s ∈ h.ss := fun s hs => sb.subset hs
  have g12 : fCall tupleD (fCons (fLcZ (iSeq (fCall sortK (fCons (fV 10) fNil))) (.one 13) fYes (fOp getK (fV 6) (fV 13)) [13]) fNil) (lsR lh h.lk n r.nm f l (some (.ref p)) (some (.int m)) (some (.lst acc)) (some (.int (k : Nat))) (some (.ref s.length)) x11) t1 = some (ssD (h.wth k r.nm m), t1) := by
    refine tup_lc (lc_map (l := h.wth k r.nm m) (enc := fun s => .str s.nm) (w := Stn.d) srt (fun s' hs' => ⟨[some (.ref lh), some (.int h.lk), some (.int n), some (.str r.nm), some (.int (f : Nat)), some (.int (l : Nat)), some (.ref p), some (.int m), some (.lst acc), some (.int (k : Nat)), some (.ref s.length), x11, none, some (.str s'.nm)], rfl, ?_⟩) (by omega))
    refine op_ok (d := .ref p) (e := .str s'.nm) (st1 := t1) (st2 := t1) rfl rfl (getK_ok hp2 ?_)
    rw [val_kvF, look_knw o (mem s' hs')]
    rfl
  have g13 : fCall tupleD (fCons (fLcZ (iSeq (fV 11)) (.one 12) fYes (fOp getK (fV 10) (fOp ixD (fV 12) (fC (.int 0)))) [12]) fNil) (lsR lh h.lk n r.nm f l (some (.ref p)) (some (.int m)) (some (.lst acc)) (some (.int (k : Nat))) (some (.ref s.length)) (some (ssD (h.wth k r.nm m)))) t1 = some (EL.tun (h.wthT k r.nm m), t1) := by
    unfold EL.tun Hs.wthT
    rw [List.map_map]
    refine tup_lc (lc_map (l := h.wth k r.nm m) (enc := Stn.d) (w := D.int ∘ h.bandW k r.nm m) rfl (fun s' hs' => ⟨[some (.ref lh), some (.int h.lk), some (.int n), some (.str r.nm), some (.int (f : Nat)), some (.int (l : Nat)), some (.ref p), some (.int m), some (.lst acc), some (.int (k : Nat)), some (.ref s.length), some (ssD (h.wth k r.nm m)), some s'.d, none], rfl, ?_⟩) (by omega))
    refine op_ok (d := .ref s.length) (e := .str s'.nm) (st1 := t1) (st2 := t1) rfl rfl (getK_ok nw2 ?_)
    rw [val_kvF]
    have lk : look B s'.nm = some (h.bandW k r.nm m s') := by
      refine lookF_of ndB ?_
      show (s'.nm, h.bandW k r.nm m s') ∈ h.sndB k ++ [(r.nm, m)]
      rw [List.mem_append]
      obtain ⟨h2, h3⟩ := List.mem_filter.mp hs'
      have h3 := of_decide_eq_true h3
      unfold Hs.bandW at h3 ⊢
      by_cases z : s'.nm = r.nm
      · right
        rw [if_pos z, z]
        exact List.mem_singleton.mpr rfl
      · left
        rw [if_neg z] at h3 ⊢
        exact List.mem_map.mpr ⟨s', List.mem_filter.mpr ⟨h2, decide_eq_true h3⟩, rfl⟩
    rw [lk]
    rfl
  have g14 : fFn 2 fn_unheard (fCons (fTup (fCons (fV 11) (fCons (fV 1) fNil))) (fCons (fCall tupleD (fCons (fLcZ (iSeq (fV 11)) (.one 12) fYes (fOp getK (fV 10) (fOp ixD (fV 12) (fC (.int 0)))) [12]) fNil)) fNil)) (lsR lh h.lk n r.nm f l (some (.ref p)) (some (.int m)) (some (.lst acc)) (some (.int (k : Nat))) (some (.ref s.length)) (some (ssD (h.wth k r.nm m)))) t1 = some (.lst (unhL (h.wthA k r.nm m) (h.wthT k r.nm m)), t1) := by
    refine fn_ok (ds := [(h.wthA k r.nm m).d, EL.tun (h.wthT k r.nm m)]) (st1 := t1) ?_ rfl (unheard_eq wa (by show (List.map _ _).length = (h.wth k r.nm m).length; rw [List.length_map]))
    have t2 : fTup (fCons (fV 11) (fCons (fV 1) fNil)) (lsR lh h.lk n r.nm f l (some (.ref p)) (some (.int m)) (some (.lst acc)) (some (.int (k : Nat))) (some (.ref s.length)) (some (ssD (h.wth k r.nm m)))) t1 = some ((h.wthA k r.nm m).d, t1) := tup2 rfl rfl
    rw [e_cons, t2]
    simp only [Option.bind_some]
    rw [e_cons, g13]
    rfl
  have ul : (unhL (h.wthA k r.nm m) (h.wthT k r.nm m)).length ≤ 8 := Nat.le_trans unh_all w8
  have g15 : fOp addD (fV 8) (fFn 2 fn_unheard (fCons (fTup (fCons (fV 11) (fCons (fV 1) fNil))) (fCons (fCall tupleD (fCons (fLcZ (iSeq (fV 11)) (.one 12) fYes (fOp getK (fV 10) (fOp ixD (fV 12) (fC (.int 0)))) [12]) fNil)) fNil))) (lsR lh h.lk n r.nm f l (some (.ref p)) (some (.int m)) (some (.lst acc)) (some (.int (k : Nat))) (some (.ref s.length)) (some (ssD (h.wth k r.nm m)))) t1 = some (.lst (acc ++ unhL (h.wthA k r.nm m) (h.wthT k r.nm m)), t1) := by
    refine op_ok (d := .lst acc) (st1 := t1) rfl g14 ?_
    rw [e_addZ, if_pos (by rw [sizeLine_eq]; omega)]
  exact ⟨t1, seqT (set_ok g10) (seqT g11 (seqT (set_ok g12) (set_ok g15))), _, ht1.symm⟩
noncomputable def bodyB1 : FS := (sSeq (sSet 8 (fLz fNil))
    (sSeq (sFor (iRange2 (fCons (fV 4) (fCons (fOp addD (fV 5) (fC (.int 1))) fNil))) (.one 9) bodyH1)
    (sIf (fTst (fOp eqD (fV 8) (fLz fNil))) (sRet (fV 7)) sNext)))
theorem least_form : sb__law_least = (sSeq (sSet 6 (fCall dictZ (fCons (fLcZ (iSeq (fMeth "House" "stations" 1 fn_House__stations (fV 0) fNil)) (.one 12) fYes (fTup (fCons (fOp ixD (fV 12) (fC (.int 0))) (fCons (fV 12) fNil))) [12]) fNil)))
    (sSeq (sFor (iRange2 (fCons (fC (.int 1)) (fCons (fOp addD (fV 2) (fC (.int 1))) fNil))) (.one 7) bodyB1) (sRet (fC .non)))) := rfl
def Hs.badL (h : Hs) (x : Str) (m : Int) (f j : Nat) : List D := (List.range j).flatMap fun k => unhL (h.wthA (f + k) x m) (h.wthT (f + k) x m)
theorem bad_succ : h.badL x m f (j + 1) = h.badL x m f j ++ unhL (h.wthA (f + j) x m) (h.wthT (f + j) x m) := by
  unfold Hs.badL
  rw [List.range_succ, List.flatMap_append]
  simp
theorem flat_len {α : Type} {F : α → List D} {c : Nat} : ∀ (L : List α), (∀ x ∈ L, (F x).length ≤ c) → (L.flatMap F).length ≤ L.length * c
  | [], _ => by simp
  | x :: L, h => by
    have h1 := h x List.mem_cons_self
    have h2 := flat_len L fun y hy => h y (List.mem_cons_of_mem _ hy)
    rw [List.flatMap_cons, List.length_append, List.length_cons, Nat.succ_mul]
    omega
theorem flat_empty {α : Type} {F : α → List D} : ∀ (L : List α), (L.flatMap F).isEmpty = L.all fun x => (F x).isEmpty
  | [] => rfl
  | x :: L => by
    rw [List.flatMap_cons, List.all_cons, ← flat_empty L]
    cases F x <;> rfl
theorem bad_len (o : h.Ok) : (h.badL x m f j).length ≤ j * 8 := by
  have := flat_len (F := fun k => unhL (h.wthA (f + k) x m) (h.wthT (f + k) x m)) (c := 8) (List.range j) fun k _ => Nat.le_trans unh_all (Nat.le_trans (List.length_filter_le _ _) o.l8)
  rw [List.length_range] at this
  exact this
theorem bad_ok (o : h.Ok) : okBs 59 (h.badL x m f j) = true := okBs_mem.mpr fun d hd => by
  obtain ⟨k, _, hk⟩ := List.mem_flatMap.mp hd
  obtain ⟨y, hy, rfl⟩ := List.mem_map.mp hk
  have := zipIdx_mem (List.mem_filter.mp hy).1
  exact nms_str (o.st _ ((List.mem_filter.mp (List.mem_of_getElem? this)).1)).nm
theorem bad_fits (o : h.Ok) (e : h.ss[i]? = some r) (h2 : f ≤ l) (h4 : l ≤ 999) (m1 : 1 ≤ m) (m9 : m ≤ 9) : (h.badL r.nm m f (l + 1 - f)).isEmpty = h.fits i f l m := by
  unfold Hs.badL
  rw [flat_empty, Bool.eq_iff_iff, List.all_eq_true, fits_iff]
  constructor
  · intro z k k1 k2
    have := z (k - f) (List.mem_range.mpr (by omega))
    rw [unh_iff, show f + (k - f) = k by omega, wth_heard o (by omega) e m1 m9] at this
    exact this
  · intro z k hk
    have hk := List.mem_range.mp hk
    rw [unh_iff, wth_heard o (by omega) e m1 m9]
    exact z (f + k) (by omega) (by omega)
theorem bodyB1_ok (A : HAt lh ll h b s) (o : h.Ok) (e : h.ss[i]? = some r) (h2 : f ≤ l) (h3 : l ≤ f + 23) (h4 : l ≤ 999) (free : ∀ k, f ≤ k → k ≤ l → h.band r.nm k = 0) (m1 : 1 ≤ m) (m9 : m ≤ 9) (hp : s[p]? = some (.dK (kvF Stn.d h.knw))) :
    ∃ s2 y8 y9 y10 y11, bodyB1 (lsR lh h.lk n r.nm f l (some (.ref p)) (some (.int m)) x8 x9 x10 x11) s = some ((if h.fits i f l m = true then some (D.int m) else none).elim .nx .rt, lsR lh h.lk n r.nm f l (some (.ref p)) (some (.int m)) y8 y9 y10 y11, s2) ∧ ∃ more, s2 = s ++ more := by
  have hs := List.mem_of_getElem? e
  have rg : iRange2 (fCons (fV 4) (fCons (fOp addD (fV 5) (fC (.int 1))) fNil)) (lsR lh h.lk n r.nm f l (some (.ref p)) (some (.int m)) (some (.lst [])) x9 x10 x11) s = some (rangeD (f : Nat) (l + 1 - f), [], s) := range2_nat rfl (by omega) (by omega)
  obtain ⟨ρ2, s2, ef, y9, y10, y11, e2, more, e3⟩ := for_fold (tg := .one 9) (b := bodyH1) (src := []) (items := rangeD (f : Nat) (l + 1 - f))
    (I := fun j ρ s' => ∃ y9 y10 y11, ρ = lsR lh h.lk n r.nm f l (some (.ref p)) (some (.int m)) (some (.lst (h.badL r.nm m f j))) y9 y10 y11 ∧ ∃ more, s' = s ++ more)
    (fun _ _ _ _ => Intact.nil) (fun k d hk ρ s' ⟨y9, y10, y11, hρ, more, hs'⟩ => by
      subst hρ; subst hs'
      obtain ⟨hk1, rfl⟩ := range_item hk
      have ek : (f : Int) + (k : Nat) = ((f + k : Nat) : Int) := by omega
      rw [ek]
      have bl := bad_len (x := r.nm) (m := m) (f := f) (j := k) o
      obtain ⟨s3, e3, o1, e4⟩ := bodyH1_ok (n := n) (f := f) (l := l) (k := f + k) (x10 := y10) (x11 := y11) (A.app more) o hs (by omega) (free _ (by omega) (by omega)) m1 (acc := h.badL r.nm m f k) (app_l hp) (by omega)
      rw [← bad_succ] at e3
      exact ⟨lsR lh h.lk n r.nm f l (some (.ref p)) (some (.int m)) (some (.lst (h.badL r.nm m f k))) (some (.int ((f + k : Nat) : Int))) y10 y11, rfl, _, _, _, e3, .inl rfl, _, _, _, rfl, more ++ [o1], by rw [e4, List.append_assoc]⟩)
    (ρ := lsR lh h.lk n r.nm f l (some (.ref p)) (some (.int m)) (some (.lst [])) x9 x10 x11) (s := s) ⟨_, _, _, rfl, [], (List.append_nil _).symm⟩
  have ln : (rangeD (f : Nat) (l + 1 - f)).length = l + 1 - f := by simp [rangeD]
  rw [ln] at e2
  subst e2
  have z0 : fLz fNil (lsR lh h.lk n r.nm f l (some (.ref p)) (some (.int m)) x8 x9 x10 x11) s = some (.lst [], s) := by simp [sizeLine_eq]
  have z1 : fLz fNil (lsR lh h.lk n r.nm f l (some (.ref p)) (some (.int m)) (some (.lst (h.badL r.nm m f (l + 1 - f)))) y9 y10 y11) s2 = some (.lst [], s2) := by simp [sizeLine_eq]
  have ts : fTst (fOp eqD (fV 8) (fLz fNil)) (lsR lh h.lk n r.nm f l (some (.ref p)) (some (.int m)) (some (.lst (h.badL r.nm m f (l + 1 - f)))) y9 y10 y11) s2 = some (h.fits i f l m, s2) := by
    rw [← bad_fits o e h2 h4 m1 m9]
    exact tst_ok (op_ok (d := .lst (h.badL r.nm m f (l + 1 - f))) (st1 := s2) rfl z1 (eq_nilL (bad_ok o)))
  refine ⟨s2, some (.lst (h.badL r.nm m f (l + 1 - f))), y9, y10, y11, seqT (set_ok z0) (seqT (for_at rg ef) ?_), more, e3⟩
  cases q : h.fits i f l m with
  | true =>
    rw [q] at ts
    exact if_then ts (ret_ok rfl)
  | false =>
    rw [q] at ts
    exact if_no ts
theorem law_least_eq (A : HAt lh ll h b st) (o : h.Ok) (e : h.ss[i]? = some r) (h2 : f ≤ l) (h3 : l ≤ f + 23) (h4 : l ≤ 999) (free : ∀ k, f ≤ k → k ≤ l → h.band r.nm k = 0) : fn__law_least [.ref lh, .int h.lk, .int (h.prices.length : Nat), .str r.nm, .int (f : Nat), .int (l : Nat)] st = some (natO (h.least i f l), st) := by
  have l8 := o.l8
  have p9 := o.pr.1
  have it : iSeq (fMeth "House" "stations" 1 fn_House__stations (fV 0) fNil) (lsR lh h.lk h.prices.length r.nm f l none none none none none none) st = some (h.ss.map Stn.d, [], st) := by
    have := methE (n := 1) (c := "House") (m := "stations") (fn := fn_House__stations) (ρ := lsR lh h.lk h.prices.length r.nm f l none none none none none none) (fo := fV 0) (fr := fNil) (l := lh) (s1 := st) rfl A.hs rfl (ds := []) (s2 := st) rfl rfl (hstations_eq A)
    unfold iSeq
    rw [this]
    rfl
  have g6 : fCall dictZ (fCons (fLcZ (iSeq (fMeth "House" "stations" 1 fn_House__stations (fV 0) fNil)) (.one 12) fYes (fTup (fCons (fOp ixD (fV 12) (fC (.int 0))) (fCons (fV 12) fNil))) [12]) fNil) (lsR lh h.lk h.prices.length r.nm f l none none none none none none) st = some (.ref st.length, st ++ [.dK (kvF Stn.d h.knw)]) := by
    have lc := lc_map (vs := [12]) (tg := .one 12) (fe := fTup (fCons (fOp ixD (fV 12) (fC (.int 0))) (fCons (fV 12) fNil))) (l := h.ss) (enc := Stn.d) (w := (fun p : Str × Stn => D.tup [.str p.1, p.2.d]) ∘ fun s => (s.nm, s)) it (fun s hs => ⟨[some (.ref lh), some (.int h.lk), some (.int (h.prices.length : Nat)), some (.str r.nm), some (.int (f : Nat)), some (.int (l : Nat)), none, none, none, none, none, none, some s.d, none], rfl, tup2 rfl rfl⟩) (by omega)
    rw [← List.map_map] at lc
    rw [e_call, e_cons, lc]
    exact dictF_ok (g := Stn.d) (B := h.knw) (knw_nd o)
  have nw : (st ++ [O.dK (kvF Stn.d h.knw)])[st.length]? = some (.dK (kvF Stn.d h.knw)) := by simp
  have A1 := A.app [O.dK (kvF Stn.d h.knw)]
  generalize hs1 : st ++ [O.dK (kvF Stn.d h.knw)] = s1 at g6 nw A1
  have rg : iRange2 (fCons (fC (.int 1)) (fCons (fOp addD (fV 2) (fC (.int 1))) fNil)) (lsR lh h.lk h.prices.length r.nm f l (some (.ref st.length)) none none none none none) s1 = some (rangeD 1 h.prices.length, [], s1) := range2_ok rfl (by omega)
  obtain ⟨ρ', s2, ef, ⟨y7, y8, y9, y10, y11, e7⟩, more, e8⟩ := for_findS (tg := .one 7) (bd := bodyB1) (enc := fun k : Nat => D.int (1 + (k : Nat))) (F := fun k => (if h.fits i f l (1 + (k : Nat)) = true then some (1 + k) else none).map fun m : Nat => D.int (m : Nat))
    (I := fun ρ s' => (∃ y7 y8 y9 y10 y11, ρ = lsR lh h.lk h.prices.length r.nm f l (some (.ref st.length)) y7 y8 y9 y10 y11) ∧ ∃ more, s' = s1 ++ more) (L := List.range h.prices.length) (ρ := lsR lh h.lk h.prices.length r.nm f l (some (.ref st.length)) none none none none none) (s := s1) ⟨⟨_, _, _, _, _, rfl⟩, [], (List.append_nil _).symm⟩ (by
      intro k hk ρ s' ⟨⟨y7, y8, y9, y10, y11, hρ⟩, more, hs'⟩
      subst hρ; subst hs'
      have hk := List.mem_range.mp hk
      obtain ⟨s3, z8, z9, z10, z11, e3, more2, e4⟩ := bodyB1_ok (n := h.prices.length) (x8 := y8) (x9 := y9) (x10 := y10) (x11 := y11) (m := 1 + (k : Nat)) (A1.app more) o e h2 h3 h4 free (by omega) (by omega) (app_l nw)
      refine ⟨lsR lh h.lk h.prices.length r.nm f l (some (.ref st.length)) (some (.int (1 + (k : Nat)))) y8 y9 y10 y11, lsR lh h.lk h.prices.length r.nm f l (some (.ref st.length)) (some (.int (1 + (k : Nat)))) z8 z9 z10 z11, s3, rfl, ⟨⟨_, _, _, _, _, rfl⟩, more ++ more2, by rw [e4, List.append_assoc]⟩, ?_⟩
      have eF : (if h.fits i f l (1 + (k : Nat)) = true then some (D.int (1 + (k : Nat))) else none) = (if h.fits i f l (1 + (k : Nat)) = true then some (1 + k) else none).map fun m : Nat => D.int (m : Nat) := by
        split
        · show some (D.int (1 + (k : Nat))) = some (D.int ((1 + k : Nat) : Int))
          rw [show ((1 + k : Nat) : Int) = 1 + (k : Nat) by omega]
        · rfl
      rw [eF] at e3
      exact e3)
  subst e7; subst e8
  have ex : (List.range h.prices.length).findSome? (fun k => (if h.fits i f l (1 + (k : Nat)) = true then some (1 + k) else none).map fun m : Nat => D.int (m : Nat)) = (h.least i f l).map fun m : Nat => D.int (m : Nat) := by
    unfold Hs.least
    rw [List.map_findSome?]
    rfl
  rw [ex] at ef
  have ef : forD (.one 7) bodyB1 [] (rangeD 1 h.prices.length) (lsR lh h.lk h.prices.length r.nm f l (some (.ref st.length)) none none none none none) s1 = _ := ef
  unfold fn__law_least
  rw [least_form]
  have fin : runD 14 (sSeq (sSet 6 (fCall dictZ (fCons (fLcZ (iSeq (fMeth "House" "stations" 1 fn_House__stations (fV 0) fNil)) (.one 12) fYes (fTup (fCons (fOp ixD (fV 12) (fC (.int 0))) (fCons (fV 12) fNil))) [12]) fNil)))
    (sSeq (sFor (iRange2 (fCons (fC (.int 1)) (fCons (fOp addD (fV 2) (fC (.int 1))) fNil))) (.one 7) bodyB1) (sRet (fC .non)))) [.ref lh, .int h.lk, .int (h.prices.length : Nat), .str r.nm, .int (f : Nat), .int (l : Nat)] st = some (natO (h.least i f l), s1 ++ more) := by
    cases q : h.least i f l with
    | none =>
      rw [q] at ef
      exact run_at (ρ := lsR lh h.lk h.prices.length r.nm f l none none none none none none) rfl (seqT (set_ok g6) (seqT (for_at rg ef) (ret_ok rfl)))
    | some m =>
      rw [q] at ef
      exact run_at (ρ := lsR lh h.lk h.prices.length r.nm f l none none none none none none) rfl (seqT (set_ok g6) (seqR (for_at rg ef)))
  rw [← hs1, List.append_assoc] at fin
  exact seal_more fin (by cases h.least i f l <;> rfl)
end
end EL
set_option Elab.async false
set_option linter.all false
set_option maxRecDepth 100000
set_option maxHeartbeats 400000
namespace EL
open PySem PySem.Spec PyProof.Rows L2 GxR LG FW
section
variable {lh lb i j n k f l e p : Nat} {m : Int} {ll ll' : List Nat} {h h' : Hs} {b b' : Bool} {st st1 s s1 s2 s3 S0 : Sto} {ρ ρ' : Rho} {x y : Str} {t u : List Int} {a c : Air} {r q : Stn} {lic : Lic}
theorem owed_eq (A : HAt lh ll h b st) (o : h.Ok) (hs : r ∈ h.ss) : fn_House__owed [.ref lh, .str r.nm] st = some (.int (h.debt r.nm), st) := by
  obtain ⟨d, ed⟩ := o.db r hs
  refine seal_same (run_at (ρ := [some (.ref lh), some (.str r.nm)]) (ρ' := [some (.ref lh), some (.str r.nm)]) rfl (seqT (expr_ok (checkM A o hs rfl rfl)) (ret_ok ?_))) rfl
  refine op_ok (h_debts A rfl) (e := .str r.nm) (st2 := st) rfl (getK_ok A.db ?_)
  rw [val_kvI]
  unfold Hs.debt
  rw [ed]
  rfl
/-- a licence of hours -/
def Lic.Span (lic : Lic) (f e : Nat) : Prop := lic.fs = (f : Nat) ∧ lic.ls = (e : Nat) ∧ f ≤ e ∧ e ≤ 999 ∧ lic.nm ∈ nms
def Hs.Lcs (h : Hs) : Prop := ∀ lic ∈ h.gv, ∃ f e : Nat, lic.Span f e
def Hs.own (h : Hs) (n : Nat) (lic : Lic) (f e : Nat) : List Nat := (List.range (e + 1 - f)).filter fun k => decide (look (h.rows (f + k)) lic.nm = some n)
theorem hours_of_eq (A : HAt lh ll h b st) (hn : h.gv[n]? = some lic) (S : lic.Span f e) : fn_Board__hours_of [.ref (lh + 3), .int (n : Nat), .int 0, .int 999] st = some (.lst ((h.own n lic f e).map fun k => D.int ((f : Nat) + (k : Nat))), st) := by
  obtain ⟨s1, s2, s3, s4, s5⟩ := S
  have hn2 : n < ll.length := by rw [A.gl]; exact (List.getElem?_eq_some_iff.mp hn).1
  obtain ⟨l, e2⟩ : ∃ l, ll[n]? = some l := ⟨_, List.getElem?_eq_getElem hn2⟩
  have lo := A.lc n l lic e2 hn
  let R (x4 x5 x6 : Option D) : Rho := [some (.ref (lh + 3)), some (.int (n : Nat)), some (.int 0), some (.int 999), x4, x5, x6, none]
  have g4 : fOp ixD (fFld "Board" "given" (fV 0)) (fV 1) (R none none none) st = some (.ref l, st) := by
    refine op_ok (b_given A rfl) (e := .int (n : Nat)) (st2 := st) rfl ?_
    rw [e_ixL A.gv, atI_nat, List.getElem?_map, e2]
    rfl
  have ff : fFld "Licence" "first" (fV 4) (R (some (.ref l)) none none) st = some (.int (f : Nat), st) := by rw [← s1]; exact fldE rfl lo rfl
  have fl : ∀ x5, fFld "Licence" "last" (fV 4) (R (some (.ref l)) x5 none) st = some (.int (e : Nat), st) := fun x5 => by rw [← s2]; exact fldE rfl lo rfl
  have g5 : fCall maxD (fCons (fV 2) (fCons (fFld "Licence" "first" (fV 4)) fNil)) (R (some (.ref l)) none none) st = some (.int (f : Nat), st) := by
    have mx : maxD [.int 0, .int (f : Nat)] st = some (.int (f : Nat), st) := by
      show some (D.int (if (0 : Int) < (f : Nat) then (f : Nat) else 0), st) = _
      congr 3
      split <;> omega
    rw [e_call, e_cons, e_V]
    simp only [R, List.getElem?_cons_zero, List.getElem?_cons_succ, Option.bind_some]
    rw [e_cons, ff]
    exact mx
  have g6 : fCall minD (fCons (fV 3) (fCons (fFld "Licence" "last" (fV 4)) fNil)) (R (some (.ref l)) (some (.int (f : Nat))) none) st = some (.int (e : Nat), st) := by
    have mn : minD [.int 999, .int (e : Nat)] st = some (.int (e : Nat), st) := by
      show some (D.int (if ((e : Nat) : Int) < 999 then (e : Nat) else 999), st) = _
      congr 3
      split <;> omega
    rw [e_call, e_cons, e_V]
    simp only [R, List.getElem?_cons_zero, List.getElem?_cons_succ, Option.bind_some]
    rw [e_cons, fl]
    exact mn
  have rg : iRange2 (fCons (fV 5) (fCons (fOp addD (fV 6) (fC (.int 1))) fNil)) (R (some (.ref l)) (some (.int (f : Nat))) (some (.int (e : Nat)))) st = some (rangeD (f : Nat) (e + 1 - f), [], st) := range2_nat rfl (by omega) (by omega)
  have g7 : fLcZ (iRange2 (fCons (fV 5) (fCons (fOp addD (fV 6) (fC (.int 1))) fNil))) (.one 7) (fTst (fOp eqD (fDGet1K (fOp ixD (fFld "Board" "rows" (fV 0)) (fV 7)) (fFld "Licence" "name" (fV 4))) (fV 1))) (fV 7) [7] (R (some (.ref l)) (some (.int (f : Nat))) (some (.int (e : Nat)))) st = some (.lst ((h.own n lic f e).map fun k => D.int ((f : Nat) + (k : Nat))), st) := by
    refine lcz_ok rg (lcE (enc := fun k : Nat => D.int ((f : Nat) + (k : Nat))) (b := fun k => decide (look (h.rows (f + k)) lic.nm = some n)) Intact.nil fun k hk => ⟨[some (.ref (lh + 3)), some (.int (n : Nat)), some (.int 0), some (.int 999), some (.ref l), some (.int (f : Nat)), some (.int (e : Nat)), some (.int ((f : Nat) + (k : Nat)))], rfl, ?_, fun _ => rfl⟩) ?_
    · have hk := List.mem_range.mp hk
      have nm : fFld "Licence" "name" (fV 4) [some (.ref (lh + 3)), some (.int (n : Nat)), some (.int 0), some (.int 999), some (.ref l), some (.int (f : Nat)), some (.int (e : Nat)), some (.int ((f : Nat) + (k : Nat)))] st = some (.str lic.nm, st) := fldE rfl lo rfl
      have gt := get1K_ok (x := lic.nm) (fo := fOp ixD (fFld "Board" "rows" (fV 0)) (fV 7)) (row_at (i := f + k) (fi := fV 7) (ρ := [some (.ref (lh + 3)), some (.int (n : Nat)), some (.int 0), some (.int 999), some (.ref l), some (.int (f : Nat)), some (.int (e : Nat)), some (.int ((f : Nat) + (k : Nat)))]) A rfl (by omega) (by show some (D.int ((f : Nat) + (k : Nat)), st) = _; rw [show ((f : Nat) : Int) + (k : Nat) = ((f + k : Nat) : Int) by omega])) nm (A.rw (f + k) (by omega))
      rw [val_kvN] at gt
      cases q : look (h.rows (f + k)) lic.nm with
      | none =>
        rw [q] at gt
        have := (eq_gen (st := st) (c := .non) (d := .int (n : Nat)) rfl rfl).1
        refine (tst_ok (op_ok gt (e := .int (n : Nat)) (st2 := st) rfl this)).trans ?_
        simp [eqB]
      | some v =>
        rw [q] at gt
        rw [tst_ok (op_ok gt (e := .int (n : Nat)) (st2 := st) rfl e_eqI)]
        have ed : decide (((v : Nat) : Int) = (n : Nat)) = decide (some v = some n) := decide_eq_decide.mpr ⟨fun z => by rw [show v = n by omega], fun z => by have := Option.some.inj z; omega⟩
        rw [ed]
    · rw [List.length_map]
      have := List.length_filter_le (fun k => decide (look (h.rows (f + k)) lic.nm = some n)) (List.range (e + 1 - f))
      rw [List.length_range] at this
      show (List.filter _ _).length ≤ 1000
      omega
  exact seal_same (run_at (ρ := R none none none) (ρ' := R (some (.ref l)) (some (.int (f : Nat))) (some (.int (e : Nat)))) rfl (seqT (set_ok g4) (seqT (set_ok g5) (seqT (set_ok g6) (ret_ok g7))))) (by unfold pureB; exact pureL_map (fun _ => rfl) _)
def licD (n : Nat) (lic : Lic) (hs : List D) : D := .tup [.int (n : Nat), .str lic.nm, .int lic.bd, .tup hs]
noncomputable def bodyLi : FS := (sSeq (sSet 4 (fMeth "Board" "hours_of" 4 fn_Board__hours_of (fFld "House" "board" (fV 0)) (fCons (fV 2) (fCons (fC (.int 0)) (fCons (fC (.int 999)) fNil)))))
    (sIf (fTru (fV 4)) (sExpr (fApp (fV 1) (fTup (fCons (fV 2) (fCons (fFld "Licence" "name" (fV 3)) (fCons (fFld "Licence" "band" (fV 3)) (fCons (fCall tupleD (fCons (fV 4) fNil)) fNil))))))) sNext))
theorem licences_form : sb_House__licences = (sSeq (sSet 1 (fLst fNil))
    (sSeq (sFor (iEnum (fCons (fFld "Board" "given" (fFld "House" "board" (fV 0))) fNil)) (.many [2, 3]) bodyLi)
    (sRet (fV 1)))) := rfl
theorem okB_hrs {L : List Nat} : okB 58 (.tup (L.map fun k => D.int ((f : Nat) + (k : Nat)))) = true := by
  unfold okB
  exact okBs_mem.mpr fun d hd => by
    obtain ⟨k, _, rfl⟩ := List.mem_map.mp hd
    rfl
theorem bodyLi_ok {ds hs : List D} {lp : Nat} {y4 : Option D} (A1 : HAt lh ll h b (st ++ [.lst ds])) (lo : (st ++ [O.lst ds])[lp]? = some lic.o) (ho : fn_Board__hours_of [.ref (lh + 3), .int (j : Nat), .int 0, .int 999] (st ++ [.lst ds]) = some (.lst hs, st ++ [.lst ds])) (hl : ds.length < 20000) :
    bodyLi [some (.ref lh), some (.ref st.length), some (.int (j : Nat)), some (.ref lp), y4] (st ++ [.lst ds]) = some (.nx, [some (.ref lh), some (.ref st.length), some (.int (j : Nat)), some (.ref lp), some (.lst hs)], st ++ [.lst (if hs = [] then ds else ds ++ [licD j lic hs])]) := by
  have es : (st ++ [O.lst ds]).set st.length (.lst (ds ++ [licD j lic hs])) = st ++ [.lst (ds ++ [licD j lic hs])] := by
    rw [List.set_append_right _ _ (Nat.le_refl _), Nat.sub_self]
    rfl
  have at0 : (st ++ [O.lst ds])[st.length]? = some (.lst ds) := by simp
  generalize h0 : st ++ [O.lst ds] = s0 at A1 lo ho es at0 ⊢
  have g4 : fMeth "Board" "hours_of" 4 fn_Board__hours_of (fFld "House" "board" (fV 0)) (fCons (fV 2) (fCons (fC (.int 0)) (fCons (fC (.int 999)) fNil))) [some (.ref lh), some (.ref st.length), some (.int (j : Nat)), some (.ref lp), y4] s0 = some (.lst hs, s0) := methE (l := lh + 3) (s1 := s0) (h_board A1 rfl) A1.bd rfl (ds := [.int (j : Nat), .int 0, .int 999]) (s2 := s0) rfl rfl ho
  have tt : fTru (fV 4) [some (.ref lh), some (.ref st.length), some (.int (j : Nat)), some (.ref lp), some (.lst hs)] s0 = some (!hs.isEmpty, s0) := rfl
  cases hs with
  | nil =>
    rw [if_pos rfl, h0]
    exact seqT (set_ok g4) (if_no tt)
  | cons d0 hs0 =>
    rw [if_neg (by simp)]
    have nm : fFld "Licence" "name" (fV 3) [some (.ref lh), some (.ref st.length), some (.int (j : Nat)), some (.ref lp), some (.lst (d0 :: hs0))] s0 = some (.str lic.nm, s0) := fldE rfl lo rfl
    have bn : fFld "Licence" "band" (fV 3) [some (.ref lh), some (.ref st.length), some (.int (j : Nat)), some (.ref lp), some (.lst (d0 :: hs0))] s0 = some (.int lic.bd, s0) := fldE rfl lo rfl
    have t4 : fCall tupleD (fCons (fV 4) fNil) [some (.ref lh), some (.ref st.length), some (.int (j : Nat)), some (.ref lp), some (.lst (d0 :: hs0))] s0 = some (.tup (d0 :: hs0), s0) := tup_lc rfl
    have tp : fTup (fCons (fV 2) (fCons (fFld "Licence" "name" (fV 3)) (fCons (fFld "Licence" "band" (fV 3)) (fCons (fCall tupleD (fCons (fV 4) fNil)) fNil)))) [some (.ref lh), some (.ref st.length), some (.int (j : Nat)), some (.ref lp), some (.lst (d0 :: hs0))] s0 = some (licD j lic (d0 :: hs0), s0) := by
      simp only [e_tup, e_cons, e_nil, nm, bn, t4, e_V, List.getElem?_cons_zero, List.getElem?_cons_succ, Option.bind_some, List.length_cons, List.length_nil]
      rw [if_pos (by rw [sizeLine_eq]; decide)]
      rfl
    have ap := appE (fo := fV 1) (ρ := [some (.ref lh), some (.ref st.length), some (.int (j : Nat)), some (.ref lp), some (.lst (d0 :: hs0))]) (l := st.length) (acc := ds) rfl tp at0 hl
    rw [es] at ap
    exact seqT (set_ok g4) (if_then tt ap)
theorem licences_eq (A : HAt lh ll h b st) (L : h.Lcs) (hg : ll.length ≤ 1000) : ∃ ds, fn_House__licences [.ref lh] st = some (.lst ds, st) ∧ okBs 59 ds = true ∧ ∀ (n : Nat) (lic : Lic) (f e : Nat), h.gv[n]? = some lic → lic.Span f e → h.own n lic f e = List.range (e + 1 - f) → licD n lic (rangeD (f : Nat) (e + 1 - f)) ∈ ds := by
  have bd : ∀ {ρ : Rho} {s : Sto}, HAt lh ll h b s → ρ[0]? = some (some (.ref lh)) → iEnum (fCons (fFld "Board" "given" (fFld "House" "board" (fV 0))) fNil) ρ s = some (enumD (ll.map D.ref), [(lh + 4, ll.map D.ref)], s) := fun {ρ s} A' h0 => by
    have g := b_given A' (h_board A' (fa := fV 0) (ρ := ρ) (by rw [e_V, h0]))
    have sq : sqOf (.ref (lh + 4)) s = some (false, ll.map D.ref) := by
      show Option.map _ (listOf (.ref (lh + 4)) s) = _
      rw [e_listOfR A'.gv]
      rfl
    unfold iEnum
    rw [e_cons, g]
    simp only [Option.bind_some, e_nil]
    rw [sq]
    rfl
  have A0 := A.app [.lst []]
  have ln : (enumD (ll.map D.ref)).length = ll.length := by simp [enumD]
  obtain ⟨ρ2, s2, ef, ⟨y2, y3, y4, e2⟩, ds, e3, d1, d2, d4⟩ := for_fold (tg := .many [2, 3]) (b := bodyLi) (src := [(lh + 4, ll.map D.ref)]) (items := enumD (ll.map D.ref))
    (I := fun j ρ s' => (∃ y2 y3 y4, ρ = [some (.ref lh), some (.ref st.length), y2, y3, y4]) ∧ ∃ ds, s' = st ++ [.lst ds] ∧ ds.length ≤ j ∧ (∀ d ∈ ds, okB 59 d = true ∧ pureB d = true) ∧ ∀ (n : Nat) (lic : Lic) (f e : Nat), n < j → h.gv[n]? = some lic → lic.Span f e → h.own n lic f e = List.range (e + 1 - f) → licD n lic (rangeD (f : Nat) (e + 1 - f)) ∈ ds)
    (fun j ρ s' ⟨_, ds, hs, _⟩ => fun p hp => by
      rw [List.mem_singleton.mp hp, hs]
      exact app_l A.gv) (fun j d hd ρ s' ⟨⟨y2, y3, y4, hρ⟩, ds, hs, hl, hok, hin⟩ => by
      subst hρ; subst hs
      have jl : j < ll.length := by have := (List.getElem?_eq_some_iff.mp hd).1; rw [ln] at this; exact this
      rw [enum_at, List.getElem?_map] at hd
      obtain ⟨d0, hd0, rfl⟩ := Option.map_eq_some_iff.mp hd
      obtain ⟨lp, hlp, rfl⟩ := Option.map_eq_some_iff.mp hd0
      obtain ⟨lic, hlic⟩ : ∃ lic, h.gv[j]? = some lic := ⟨_, List.getElem?_eq_getElem (by rw [← A.gl]; exact jl)⟩
      obtain ⟨f, e, S⟩ := L lic (List.mem_of_getElem? hlic)
      have A1 := A.app [.lst ds]
      have bo := bodyLi_ok (y4 := y4) A1 (A1.lc j lp lic hlp hlic) (hours_of_eq A1 hlic S) (by omega)
      refine ⟨[some (.ref lh), some (.ref st.length), some (.int (j : Nat)), some (.ref lp), y4], rfl, .nx, _, _, bo, .inl rfl, ⟨_, _, _, rfl⟩, _, rfl, ?_, ?_, ?_⟩
      · split
        · omega
        · rw [List.length_append, List.length_singleton]; omega
      · intro d hd
        split at hd
        · exact hok d hd
        · rcases List.mem_append.mp hd with hd | hd
          · exact hok d hd
          · rw [List.mem_singleton.mp hd]
            constructor
            · have := okB_hrs (f := f) (L := h.own j lic f e)
              have ns := nms_str S.2.2.2.2
              unfold licD
              simp [okB, okBs, ns] at this ⊢
              exact this
            · unfold licD
              simp only [pureB, pureL, Bool.and_true, Bool.true_and]
              exact pureL_map (fun _ => rfl) _
      · intro n' lic' f' e' hn' h1 h2 h3
        by_cases z : n' = j
        · subst z
          rw [hlic] at h1
          cases h1
          have h4 := S.1.symm.trans h2.1
          have h5 := S.2.1.symm.trans h2.2.1
          obtain rfl : f' = f := by omega
          obtain rfl : e' = e := by omega
          have h6 := S.2.2.1
          have ne : (h.own n' lic f' e').map (fun k : Nat => D.int ((f' : Nat) + (k : Nat))) ≠ [] := fun z => by
            have := congrArg List.length z
            rw [List.length_map, h3, List.length_range] at this
            have : e' + 1 - f' = 0 := this
            omega
          rw [if_neg ne, h3]
          exact List.mem_append_right _ (List.mem_singleton.mpr rfl)
        · have := hin n' lic' f' e' (by omega) h1 h2 h3
          split
          · exact this
          · exact List.mem_append_left _ this)
    (ρ := [some (.ref lh), some (.ref st.length), none, none, none]) (s := st ++ [.lst []]) ⟨⟨_, _, _, rfl⟩, [], rfl, Nat.le_refl _, (fun d hd => by cases hd), fun n _ _ _ hn => absurd hn (Nat.not_lt_zero _)⟩
  subst e2; subst e3
  rw [ln] at d4
  refine ⟨ds, ?_, okBs_mem.mpr fun d hd => (d2 d hd).1, fun n lic f e hn S hf => d4 n lic f e (by rw [A.gl]; exact (List.getElem?_eq_some_iff.mp hn).1) hn S hf⟩
  unfold fn_House__licences
  rw [licences_form]
  have z : fLst fNil [some (.ref lh), none, none, none, none] st = some (.ref st.length, st ++ [.lst []]) := by simp [sizeLine_eq]
  refine seal_list (more := []) (run_at (ρ := [some (.ref lh), none, none, none, none]) rfl (seqT (set_ok z) (seqT (for_at (bd A0 rfl) ef) (ret_ok rfl)))) (pureL_iff.mpr fun d hd => (d2 d hd).2)
end
end EL
set_option Elab.async false
set_option linter.all false
set_option maxRecDepth 100000
set_option maxHeartbeats 400000
namespace EL
open PySem PySem.Spec PyProof.Rows L2 GxR LG FW
section
variable {lh lb i j n k f l e p : Nat} {m : Int} {ll ll' : List Nat} {h h' : Hs} {st st1 s s1 s2 s3 S0 : Sto} {ρ ρ' : Rho} {x y : Str} {r q : Stn} {lic : Lic} {α : Type}
theorem lcG {tg : Tg} {tt : FT} {fe : FE} {enc : α → D} {b : α → Bool} {w : α → D} {I : Sto → Prop} : ∀ {L : List α} {s : Sto}, I s →
    (∀ x ∈ L, ∀ s, I s → ∃ ρ1 s1, tgD tg (enc x) ρ = some ρ1 ∧ tt ρ1 s = some (b x, s1) ∧ I s1 ∧ (b x = true → ∃ s2, fe ρ1 s1 = some (w x, s2) ∧ I s2)) →
    ∃ s', lcZ tg tt fe [] ρ (L.map enc) s = some ((L.filter b).map w, s') ∧ I s'
  | [], s, i, _ => ⟨s, by unfold lcZ; simp only [List.map_nil]; rw [if_pos Intact.nil]; rfl, i⟩
  | x :: L, s, i, hh => by
    obtain ⟨ρ1, s1, e1, e2, i1, k⟩ := hh x List.mem_cons_self s i
    simp only [List.map_cons]
    unfold lcZ
    rw [if_pos Intact.nil, e1]
    simp only [Option.bind_some]
    rw [e2]
    simp only [Option.bind_some]
    cases q : b x with
    | true =>
      obtain ⟨s2, e3, i2⟩ := k q
      obtain ⟨s', e4, i4⟩ := lcG (L := L) i2 fun y hy => hh y (List.mem_cons_of_mem _ hy)
      refine ⟨s', ?_, i4⟩
      rw [List.filter_cons_of_pos q]
      simp only [if_true, e3, Option.bind_some, e4, List.map_cons]
    | false =>
      obtain ⟨s', e4, i4⟩ := lcG (L := L) i1 fun y hy => hh y (List.mem_cons_of_mem _ hy)
      refine ⟨s', ?_, i4⟩
      rw [List.filter_cons_of_neg (by simp [q])]
      simp only [Bool.false_eq_true, if_false, e4]
theorem lcDr {tg : Tg} {fe : FE} {enc : α → D} {P : D → Prop} {I : Sto → Prop} : ∀ {L : List α} {s : Sto}, I s →
    (∀ x ∈ L, ∀ s, I s → ∃ ρ1 d s1, tgD tg (enc x) ρ = some ρ1 ∧ fe ρ1 s = some (d, s1) ∧ P d ∧ I s1) →
    ∃ ds s', lcZ tg fYes fe [] ρ (L.map enc) s = some (ds, s') ∧ ds.length = L.length ∧ (∀ d ∈ ds, P d) ∧ I s'
  | [], s, i, _ => ⟨[], s, by unfold lcZ; simp only [List.map_nil]; rw [if_pos Intact.nil], rfl, (fun d hd => by cases hd), i⟩
  | x :: L, s, i, hh => by
    obtain ⟨ρ1, d, s1, e1, e2, hd, i1⟩ := hh x List.mem_cons_self s i
    obtain ⟨ds, s', e4, l4, p4, i4⟩ := lcDr (L := L) i1 fun y hy => hh y (List.mem_cons_of_mem _ hy)
    refine ⟨d :: ds, s', ?_, by simp [l4], fun z hz => ?_, i4⟩
    · simp only [List.map_cons]
      unfold lcZ
      rw [if_pos Intact.nil, e1]
      simp only [Option.bind_some]
      have y0 : fYes ρ1 s = some (true, s) := rfl
      rw [y0]
      simp only [Option.bind_some, if_true, e2, e4]
    · rcases List.mem_cons.mp hz with rfl | hz
      · exact hd
      · exact p4 z hz
theorem asked_debt' {m : Nat} : (h.asked x m f l).debt y = if y = x then h.debt x + h.cost m f l else h.debt y := by
  unfold Hs.debt
  show (look (putA h.db x _) y).getD 0 = _
  rw [look_put]
  split
  · rfl
  · rfl
theorem asked_lcs {m : Nat} (L : h.Lcs) (hx : x ∈ nms) (h2 : f ≤ l) (h4 : l ≤ 999) : (h.asked x m f l).Lcs := fun lic hl => by
  have hl : lic ∈ h.gv ++ [h.lic x m f l] := hl
  rcases List.mem_append.mp hl with hl | hl
  · exact L lic hl
  · rw [List.mem_singleton.mp hl]
    exact ⟨f, l, rfl, rfl, h2, h4, hx⟩
theorem asked_own {m : Nat} (h2 : f ≤ l) : (h.asked x m f l).own h.gv.length (h.lic x m f l) f l = List.range (l + 1 - f) := by
  unfold Hs.own
  refine List.filter_eq_self.mpr fun k hk => ?_
  have hk := List.mem_range.mp hk
  refine decide_eq_true ?_
  show look (if f ≤ f + k ∧ f + k < f + (l + 1 - f) then putA (h.rows (f + k)) x h.gv.length else h.rows (f + k)) x = some h.gv.length
  rw [if_pos (by omega), look_put, if_pos rfl]
theorem in_data {c : D} {ds : List D} (oc : okB 59 c = true) (od : okBs 59 ds = true) (hc : c ∈ ds) : inW true c (.lst ds) st = some (.bl false, st) := by
  unfold inW
  simp only [e_listOfZ, Option.bind_some, val_data oc]
  rw [if_pos ⟨okB_up oc (by decide), od⟩]
  have : (ds.any fun y => eqB y c) = true := List.any_eq_true.mpr ⟨c, hc, (eqB_self 59).1 oc⟩
  rw [this]
  rfl
theorem HAt.setX {b : Bool} {kvs : List (Key × D)} {o : O} (A : HAt lh ll h b st) (hp : lh + 1005 ≤ p) (e : st[p]? = some (.dK kvs)) : HAt lh ll h b (st.set p o) where
  hs := by rw [List.getElem?_set_ne (by omega)]; exact A.hs
  pw := by rw [List.getElem?_set_ne (by omega)]; exact A.pw
  db := by rw [List.getElem?_set_ne (by omega)]; exact A.db
  bd := by rw [List.getElem?_set_ne (by omega)]; exact A.bd
  gv := by rw [List.getElem?_set_ne (by omega)]; exact A.gv
  gl := A.gl
  hi := A.hi
  lc := fun i l lic q1 q2 => by
    have := A.lc i l lic q1 q2
    rw [List.getElem?_set_ne (fun z => by
      rw [← z, e] at this
      cases this)]
    exact this
  rw := fun i hi => by rw [List.getElem?_set_ne (by omega)]; exact A.rw i hi
theorem rgT_ok (hf : f ≤ 5000) (hl : l ≤ 5000) : rgT (.int (f : Nat)) (.int ((l : Nat) + 1)) st = some (.tup (rangeD (f : Nat) (l + 1 - f)), st) := by
  unfold rgT
  simp only
  rw [if_pos (by omega), show ((l : Int) + 1 - (f : Nat)).toNat = l + 1 - f by omega]
end
end EL
set_option Elab.async false
set_option linter.all false
set_option maxRecDepth 100000
set_option maxHeartbeats 1000000
namespace K15
open PySem PySem.Spec PyProof.Rows L2 GxR LG EL FW
section
variable {ns : List Int} {lb lh po n : Nat} {st s s1 s2 : Sto} {h : Hs} {lk : Int} {ps : List Int} {ss : List Stn} {r q : Stn} {ll : List Nat} {x1 x2 x3 x4 x5 x6 x7 x8 x9 x10 x11 x12 x13 x14 x15 x16 x17 x18 x19 : Option D}
abbrev mkR (ns : List Int) (x1 x2 x3 x4 x5 x6 x7 x8 x9 x10 x11 x12 x13 x14 x15 x16 x17 x18 x19 : Option D) : Rho := [some (.scr ns), x1, x2, x3, x4, x5, x6, x7, x8, x9, x10, x11, x12, x13, x14, x15, x16, x17, x18, x19, none, none]
noncomputable def fLea : FE := (fOp ixD (fLz (fCons (fC (.int 1)) (fCons (fC (.int 20)) (fCons (fOp addD (fC (.int 1)) (fFn 2 fn__law_take (fCons (fV 2) (fCons (fC (.int 50)) fNil)))) fNil)))) (fFn 2 fn__law_take (fCons (fV 2) (fCons (fC (.int 3)) fNil))))
noncomputable def fPri : FE := (fLcZ (iRange1 (fCons (fOp addD (fC (.int 1)) (fFn 2 fn__law_take (fCons (fV 2) (fCons (fC (.int 5)) fNil)))) fNil)) (.one 14) fYes (fFn 2 fn__law_take (fCons (fV 2) (fCons (fC (.int 1001)) fNil))) [14])
noncomputable def bodyS : FS := (sExpr (fMeth "House" "station" 6 fn_House__station (fV 5) (fCons (fV 6) (fCons (fV 7) (fCons (fV 8) (fCons (fV 9) (fCons (fV 10) fNil)))))))
noncomputable def fNames : FE := (fLcZ (iSeq (fMeth "House" "stations" 1 fn_House__stations (fV 5) fNil)) (.one 20) fYes (fOp ixD (fV 20) (fC (.int 0))) [20])
noncomputable def fOwe : FE := (fCall dictZ (fCons (fLcZ (iSeq (fV 11)) (.one 6) fYes (fTup (fCons (fV 6) (fCons (fC (.int 0)) fNil))) [6]) fNil))
noncomputable def fNF : FE := (fTup (fCons (fFn 2 fn__law_of (fCons (fV 2) (fCons (fV 11) fNil))) (fCons (fFn 2 fn__law_take (fCons (fV 2) (fCons (fC (.int 12)) fNil))) fNil)))
noncomputable def fLen : FE := (fFn 2 fn__law_take (fCons (fV 2) (fCons (fOp ixD (fLz (fCons (fC (.int 1)) (fCons (fC (.int 3)) (fCons (fC (.int 24)) fNil)))) (fFn 2 fn__law_take (fCons (fV 2) (fCons (fC (.int 3)) fNil)))) fNil)))
noncomputable def fTak : FE := (fLcZ (iRange2 (fCons (fV 15) (fCons (fOp addD (fV 16) (fC (.int 1))) fNil))) (.one 21) (fTst (fOp (inK false) (fV 6) (fCall dictZ (fCons (fMeth "House" "sending" 2 fn_House__sending (fV 5) (fCons (fV 21) fNil)) fNil)))) (fV 21) [21])
noncomputable def fTupN : FE := (fTup (fCons (fV 13) (fCons (fV 6) (fCons (fV 17) (fCons (fOp rgT (fV 15) (fOp addD (fV 16) (fC (.int 1)))) fNil)))))
noncomputable def bodyP : FS := (sSeq (sSet 19 (fOp mulD (fOp ixD (fV 4) (fOp subD (fV 17) (fC (.int 1)))) (fOp addD (fOp subD (fV 16) (fV 15)) (fC (.int 1)))))
    (sSeq (sDPutK (fOp addD (fOp getK (fV 12) (fV 6)) (fV 19)) (fV 12) (fV 6))
    (sSeq (sIf (fTOr (fTst (fOp neD (fV 18) (fTup (fCons (fV 13) (fCons (fV 17) (fCons (fV 19) fNil)))))) (fTst (fOp neD (fMeth "House" "owed" 2 fn_House__owed (fV 5) (fCons (fV 6) fNil)) (fOp getK (fV 12) (fV 6))))) (sRet (fC (.bl false))) sNext)
    (sSeq (sIf (fTst (fOp (inW true) fTupN (fMeth "House" "licences" 1 fn_House__licences (fV 5) fNil))) (sRet (fC (.bl false))) sNext)
    (sSet 13 (fOp addD (fV 13) (fC (.int 1))))))))
noncomputable def bodyA : FS := (sSeq (sSet 17 (fFn 6 fn__law_least (fCons (fV 5) (fCons (fV 3) (fCons (fCall lenD (fCons (fV 4) fNil)) (fCons (fV 6) (fCons (fV 15) (fCons (fV 16) fNil))))))))
    (sSeq (sSet 18 (fMeth "House" "ask" 4 fn_House__ask (fV 5) (fCons (fV 6) (fCons (fV 15) (fCons (fV 16) fNil)))))
    (sIf (fTst (fOp (isB false) (fV 17) (fC .non))) (sIf (fTst (fOp (isB true) (fV 18) (fC .non))) (sRet (fC (.bl false))) sNext) bodyP)))
noncomputable def bodyT : FS := (sSeq (sUnp (.many [6, 15]) fNF)
    (sSeq (sSet 16 (fOp addD (fV 15) fLen))
    (sIf (fTst (fOp eqD fTak (fLz fNil))) bodyA sNext)))
noncomputable def bodyL : FS := (sSeq (sSet 2 (fFn 2 fn__law_bag (fCons (fV 0) (fCons (fV 1) fNil))))
    (sSeq (sSet 3 fLea)
    (sSeq (sSet 4 (fCall tupleD (fCons fPri fNil)))
    (sSeq (sSet 5 (fMakeK "House" 1 1 fn_House____init__ (fCons (fV 4) fNil) (fCons (fV 3) fNil)))
    (sSeq (sFor (iSeq (fFn 2 fn__law_stations (fCons (fV 2) (fCons (fC (.int 8)) fNil)))) (.many [6, 7, 8, 9, 10]) bodyS)
    (sSeq (sSet 11 fNames)
    (sSeq (sSet 12 fOwe)
    (sSeq (sSet 13 (fC (.int 0)))
    (sFor (iRange1 (fCons (fC (.int 16)) fNil)) (.one 14) bodyT)))))))))
theorem law_form : sb_law = sSeq (sFor (iRange1 (fCons (fOp addD (fC (.int 1)) (fCall minD (fCons (fCall lenD (fCons (fV 0) fNil)) (fCons (fC (.int 4)) fNil)))) fNil)) (.one 1) bodyL) (sRet (fC (.bl true))) := rfl
theorem makeK_ok {c : Str} {n m : Nat} {fn : HA} {fr fk : FA} {ρ : Rho} {ds es : List D} (h1 : fr ρ st = some (ds, st)) (h2 : fk ρ st = some (es, st)) (hn : ds.length = n) (hm : es.length = m) (h3 : fn (.ref st.length :: (ds ++ es)) (st ++ [.ins c []]) = some (.non, s2)) : fMakeK c n m fn fr fk ρ st = some (.ref st.length, s2) := by
  unfold fMakeK
  rw [h1]
  simp only [Option.bind_some]
  rw [h2]
  simp only [Option.bind_some]
  rw [if_pos ⟨hn, hm⟩, h3]
  rfl
/-- a house in the law's hands -/
structure HV0 (lb lh : Nat) (lk : Int) (ps : List Int) (ss : List Stn) (n : Nat) (h : Hs) (st : Sto) : Prop where
  bg : Bg lb st
  lt : lb < lh
  at' : ∃ ll, HAt lh ll h false st ∧ ll.length ≤ n
  ok : h.Ok
  lcs : h.Lcs
  hr : h.hour = ((0 : Nat) : Int)
  elk : h.lk = lk
  epr : h.prices = ps
  ess : h.ss = ss
structure HV (lb lh po : Nat) (lk : Int) (ps : List Int) (ss : List Stn) (n : Nat) (h : Hs) (st : Sto) : Prop extends HV0 lb lh lk ps ss n h st where
  epo : lh + 1005 ≤ po
  db : ∃ D : List (Str × Int), st[po]? = some (.dK (kvI D)) ∧ D.length ≤ 8 ∧ ∀ s ∈ ss, look D s.nm = some (h.debt s.nm)
theorem HV0.app (I : HV0 lb lh lk ps ss n h st) (more : Sto) : HV0 lb lh lk ps ss n h (st ++ more) := by
  obtain ⟨ll, A, hl⟩ := I.at'
  exact { I with bg := I.bg.app more, at' := ⟨ll, A.app more, hl⟩ }
theorem HV.app (I : HV lb lh po lk ps ss n h st) (more : Sto) : HV lb lh po lk ps ss n h (st ++ more) := by
  obtain ⟨D, h1, h2, h3⟩ := I.db
  exact { I with toHV0 := I.toHV0.app more, db := ⟨D, app_l h1, h2, h3⟩ }
theorem HV.go (I : HV lb lh po lk ps ss n h st) (g : Go lb st s1) : HV lb lh po lk ps ss n h s1 := by
  obtain ⟨ll, A, hl⟩ := I.at'
  obtain ⟨D, h1, h2, h3⟩ := I.db
  have := I.epo
  have := I.lt
  exact { I with bg := g.bg I.bg.lt, at' := ⟨ll, A.go I.lt g, hl⟩, db := ⟨D, by rw [g.at (by omega)]; exact h1, h2, h3⟩ }
abbrev tR (ns : List Int) (lb lh po : Nat) (lk : Int) (ps : List Int) (ss : List Stn) (num : Nat) (x1 x6 x7 x8 x9 x10 x14 x15 x16 x17 x18 x19 : Option D) : Rho := mkR ns x1 (some (.ref lb)) (some (.int lk)) (some (EL.tun ps)) (some (.ref lh)) x6 x7 x8 x9 x10 (some (.lst (ss.map fun s => D.str s.nm))) (some (.ref po)) (some (.int (num : Nat))) x14 x15 x16 x17 x18 x19
theorem bodyS_ok (I : HV0 lb lh lk ps ss n h st) (oq : q.Ok) (hn : (ss.map Stn.nm ++ [q.nm]).Sublist nms) (z : ∀ s ∈ ss, h.debt s.nm = 0) (g0 : h.gv = []) :
    ∃ h' st', bodyS (mkR ns x1 (some (.ref lb)) (some (.int lk)) (some (EL.tun ps)) (some (.ref lh)) (some (.str q.nm)) (some (.tup [.int q.px, .int q.py])) (some (.int q.pw)) (some (.tup [.int q.hx, .int q.hy])) (some (.int q.nd)) x11 x12 x13 x14 x15 x16 x17 x18 x19) st = some (.nx, mkR ns x1 (some (.ref lb)) (some (.int lk)) (some (EL.tun ps)) (some (.ref lh)) (some (.str q.nm)) (some (.tup [.int q.px, .int q.py])) (some (.int q.pw)) (some (.tup [.int q.hx, .int q.hy])) (some (.int q.nd)) x11 x12 x13 x14 x15 x16 x17 x18 x19, st') ∧ HV0 lb lh lk ps (ss ++ [q]) n h' st' ∧ (∀ s ∈ ss ++ [q], h'.debt s.nm = 0) ∧ h'.gv = [] := by
  obtain ⟨ll, A, hl⟩ := I.at'
  have hn' : (h.ss.map Stn.nm ++ [q.nm]).Sublist nms := by rw [I.ess]; exact hn
  obtain ⟨st1, e1, A1, f1⟩ := hstation_eq A I.ok oq hn'
  have o1 := add_ok I.ok oq hn'
  have es : (h.add q).ss = ss ++ [q] := by show h.ss ++ [q] = _; rw [I.ess]
  have c1 : fMeth "House" "station" 6 fn_House__station (fV 5) (fCons (fV 6) (fCons (fV 7) (fCons (fV 8) (fCons (fV 9) (fCons (fV 10) fNil))))) (mkR ns x1 (some (.ref lb)) (some (.int lk)) (some (EL.tun ps)) (some (.ref lh)) (some (.str q.nm)) (some (.tup [.int q.px, .int q.py])) (some (.int q.pw)) (some (.tup [.int q.hx, .int q.hy])) (some (.int q.nd)) x11 x12 x13 x14 x15 x16 x17 x18 x19) st = some (.non, st1) := methE (l := lh) (s1 := st) rfl A.hs rfl (ds := [.str q.nm, .tup [.int q.px, .int q.py], .int q.pw, .tup [.int q.hx, .int q.hy], .int q.nd]) (s2 := st) rfl rfl e1
  refine ⟨h.add q, st1, expr_ok c1, ⟨f1.bg I.lt I.bg, I.lt, ⟨ll, A1, hl⟩, o1, I.lcs, I.hr, I.elk, I.epr, es⟩, fun s hs => ?_, g0⟩
  unfold Hs.debt
  show (look (putA h.db q.nm 0) s.nm).getD 0 = 0
  rw [look_put]
  split
  · rfl
  · rename_i w
    rcases List.mem_append.mp hs with hs | hs
    · exact z s hs
    · rw [List.mem_singleton.mp hs] at w; exact absurd rfl w
theorem take_ok (o : h.Ok) {f l : Nat} (I : HV lb lh po lk ps ss n h st) (hs : r ∈ ss) (h4 : l ≤ 999) (hf : f ≤ 999) {num : Nat} :
    ∃ s2, fTak (tR ns lb lh po lk ps ss num x1 (some (.str r.nm)) x7 x8 x9 x10 x14 (some (.int (f : Nat))) (some (.int (l : Nat))) x17 x18 x19) st = some (.lst (((List.range (l + 1 - f)).filter fun k => decide (h.band r.nm (f + k) ≠ 0)).map fun k : Nat => D.int ((f : Nat) + (k : Nat))), s2) ∧ ∃ more, s2 = st ++ more := by
  obtain ⟨ll, A, hl⟩ := I.at'
  have hs' : r ∈ h.ss := by rw [I.ess]; exact hs
  have rg : iRange2 (fCons (fV 15) (fCons (fOp addD (fV 16) (fC (.int 1))) fNil)) (tR ns lb lh po lk ps ss num x1 (some (.str r.nm)) x7 x8 x9 x10 x14 (some (.int (f : Nat))) (some (.int (l : Nat))) x17 x18 x19) st = some (rangeD (f : Nat) (l + 1 - f), [], st) := range2_nat rfl (by omega) (by omega)
  obtain ⟨s', e1, more, e2⟩ := lcG (tg := .one 21) (tt := fTst (fOp (inK false) (fV 6) (fCall dictZ (fCons (fMeth "House" "sending" 2 fn_House__sending (fV 5) (fCons (fV 21) fNil)) fNil)))) (fe := fV 21) (ρ := wipeD (tR ns lb lh po lk ps ss num x1 (some (.str r.nm)) x7 x8 x9 x10 x14 (some (.int (f : Nat))) (some (.int (l : Nat))) x17 x18 x19) [21]) (enc := fun k : Nat => D.int ((f : Nat) + (k : Nat))) (b := fun k => decide (h.band r.nm (f + k) ≠ 0)) (w := fun k : Nat => D.int ((f : Nat) + (k : Nat))) (I := fun s' => ∃ more, s' = st ++ more) (L := List.range (l + 1 - f)) (s := st) ⟨[], (List.append_nil _).symm⟩ (fun k hk s' ⟨more, hs''⟩ => by
      subst hs''
      have hk := List.mem_range.mp hk
      have A1 := A.app more
      let R2 : Rho := [some (.scr ns), x1, some (.ref lb), some (.int lk), some (EL.tun ps), some (.ref lh), some (.str r.nm), x7, x8, x9, x10, some (.lst (ss.map fun s => D.str s.nm)), some (.ref po), some (.int (num : Nat)), x14, some (.int (f : Nat)), some (.int (l : Nat)), x17, x18, x19, none, some (.int ((f : Nat) + (k : Nat)))]
      have sd : fMeth "House" "sending" 2 fn_House__sending (fV 5) (fCons (fV 21) fNil) R2 (st ++ more) = some (.lst ((h.sndB (f + k)).map fun p => D.tup [.str p.1, .int p.2]), st ++ more) := by
        have e : (h.sndB (f + k)).map (fun p => D.tup [.str p.1, .int p.2]) = (h.snd (f + k)).map fun s => .tup [.str s.nm, .int (h.band s.nm (f + k))] := by unfold Hs.sndB; rw [List.map_map]; rfl
        rw [e]
        refine methE (l := lh) (s1 := st ++ more) rfl A1.hs rfl (ds := [.int ((f + k : Nat) : Int)]) (s2 := st ++ more) ?_ rfl (sending_eq A1 o (by omega))
        show some ([D.int ((f : Nat) + (k : Nat))], st ++ more) = _
        rw [show ((f : Nat) : Int) + (k : Nat) = ((f + k : Nat) : Int) by omega]
      have dz : fCall dictZ (fCons (fMeth "House" "sending" 2 fn_House__sending (fV 5) (fCons (fV 21) fNil)) fNil) R2 (st ++ more) = some (.ref (st ++ more).length, (st ++ more) ++ [.dK (kvF D.int (h.sndB (f + k)))]) := by
        rw [e_call, e_cons, sd]
        exact dictF_ok (snd_nd o)
      refine ⟨R2, (st ++ more) ++ [.dK (kvF D.int (h.sndB (f + k)))], rfl, ?_, ⟨more ++ [.dK (kvF D.int (h.sndB (f + k)))], by rw [List.append_assoc]⟩, fun _ => ⟨_, rfl, more ++ [.dK (kvF D.int (h.sndB (f + k)))], by rw [List.append_assoc]⟩⟩
      refine tst_ok ?_
      rw [op_ok (d := .str r.nm) (st1 := st ++ more) rfl dz (inK_ok at_new), val_kvF, Option.isSome_map, snd_is o hs']
      rfl)
  refine ⟨s', lcz_ok rg e1 ?_, more, e2⟩
  rw [List.length_map]
  have := List.length_filter_le (fun k => decide (h.band r.nm (f + k) ≠ 0)) (List.range (l + 1 - f))
  rw [List.length_range] at this
  omega
theorem bodyP_ok {f l m num i : Nat} {l' : Nat} (I : HV lb lh po lk ps ss n h st) (e : h.ss[i]? = some r) (h2 : f ≤ l) (h3 : l ≤ f + 23) (h4 : l ≤ 999) (hn : n ≤ 500) (m1 : 1 ≤ m) (m2 : m ≤ h.prices.length) (A2 : HAt lh (ll ++ [l']) (h.asked r.nm m f l) false s2) (hl : ll.length ≤ n) (F : Fz lh st s2) (gn : h.gv.length = num) :
    ∃ s3, bodyP (tR ns lb lh po lk ps ss num x1 (some (.str r.nm)) x7 x8 x9 x10 x14 (some (.int (f : Nat))) (some (.int (l : Nat))) (some (.int (m : Nat))) (some (.tup [.int (num : Nat), .int (m : Nat), .int (h.cost m f l)])) x19) s2 = some (.nx, tR ns lb lh po lk ps ss (num + 1) x1 (some (.str r.nm)) x7 x8 x9 x10 x14 (some (.int (f : Nat))) (some (.int (l : Nat))) (some (.int (m : Nat))) (some (.tup [.int (num : Nat), .int (m : Nat), .int (h.cost m f l)])) (some (.int (h.cost m f l))), s3) ∧ HV lb lh po lk ps ss (n + 1) (h.asked r.nm m f l) s3 := by
  have hs' := List.mem_of_getElem? e
  have hs : r ∈ ss := by rw [← I.ess]; exact hs'
  have nmr := (I.ok.st r hs').nm
  have o2 := asked_ok (f := f) (l := l) I.ok e m1 (Nat.le_trans m2 I.ok.pr.1)
  have L2 := asked_lcs (m := m) I.lcs nmr h2 h4
  obtain ⟨E0, d1, d2, d3⟩ := I.db
  have pl := (List.getElem?_eq_some_iff.mp d1).1
  have d1' : s2[po]? = some (.dK (kvI E0)) := by rw [F.2 po (.inr ⟨I.epo, pl⟩)]; exact d1
  have hk : m - 1 < h.prices.length := by omega
  have pb : 0 ≤ h.price m ∧ h.price m ≤ 1000 := by
    unfold Hs.price
    rw [List.getD_eq_getElem?_getD, List.getElem?_eq_getElem hk]
    exact I.ok.pr.2 _ (List.getElem_mem hk)
  let R (x19 : Option D) : Rho := tR ns lb lh po lk ps ss num x1 (some (.str r.nm)) x7 x8 x9 x10 x14 (some (.int (f : Nat))) (some (.int (l : Nat))) (some (.int (m : Nat))) (some (.tup [.int (num : Nat), .int (m : Nat), .int (h.cost m f l)])) x19
  have g19 : fOp mulD (fOp ixD (fV 4) (fOp subD (fV 17) (fC (.int 1)))) (fOp addD (fOp subD (fV 16) (fV 15)) (fC (.int 1))) (R x19) s2 = some (.int (h.cost m f l), s2) := by
    have q1 : fOp subD (fV 17) (fC (.int 1)) (R x19) s2 = some (.int ((m - 1 : Nat) : Int), s2) := by
      rw [op_ok (st1 := s2) (d := .int (m : Nat)) (e := .int 1) (st2 := s2) rfl rfl e_subI, show ((m : Nat) : Int) - 1 = ((m - 1 : Nat) : Int) by omega]
    have q2 : fOp ixD (fV 4) (fOp subD (fV 17) (fC (.int 1))) (R x19) s2 = some (.int (h.price m), s2) := by
      refine op_ok (d := EL.tun ps) (st1 := s2) rfl q1 ?_
      unfold Hs.price
      rw [← I.epr]
      exact tun_at rfl hk
    exact op_ok q2 (op_ok (st1 := s2) (d := .int ((l : Nat) - (f : Nat))) (op_ok (st1 := s2) (d := .int (l : Nat)) (e := .int (f : Nat)) (st2 := s2) rfl rfl e_subI) (e := .int 1) (st2 := s2) rfl e_addI) (mul_ok (bt64 (x := h.price m) (by omega) (by omega)) (bt64 (x := (l : Nat) - (f : Nat) + 1) (by omega) (by omega)))
  have vD : valD (kvI E0) (Sum.inr r.nm) = some (.int (h.debt r.nm)) := by rw [val_kvI, d3 r hs]; rfl
  have gk : fOp getK (fV 12) (fV 6) (R (some (.int (h.cost m f l)))) s2 = some (.int (h.debt r.nm), s2) := op_ok (d := .ref po) (e := .str r.nm) (st1 := s2) (st2 := s2) rfl rfl (getK_ok d1' vD)
  have ga : fOp addD (fOp getK (fV 12) (fV 6)) (fV 19) (R (some (.int (h.cost m f l)))) s2 = some (.int (h.debt r.nm + h.cost m f l), s2) := op_ok gk (e := .int (h.cost m f l)) (st2 := s2) rfl e_addI
  have gp := dputK_ok (ρ := R (some (.int (h.cost m f l)))) (fo := fV 12) (fi := fV 6) ga rfl rfl d1' (by unfold kvI; rw [List.length_map]; omega)
  have ep : putD (kvI E0) (Sum.inr r.nm) (.int (h.debt r.nm + h.cost m f l)) = kvI (putA E0 r.nm (h.debt r.nm + h.cost m f l)) := put_kv (f := D.int) _ _ _
  rw [ep] at gp
  have p2 : po < s2.length := (List.getElem?_eq_some_iff.mp d1').1
  have d5 : (s2.set po (.dK (kvI (putA E0 r.nm (h.debt r.nm + h.cost m f l)))))[po]? = some (.dK (kvI (putA E0 r.nm (h.debt r.nm + h.cost m f l)))) := List.getElem?_set_self p2
  have A3 : HAt lh (ll ++ [l']) (h.asked r.nm m f l) false (s2.set po (.dK (kvI (putA E0 r.nm (h.debt r.nm + h.cost m f l))))) := A2.setX I.epo d1'
  have b3 : Bg lb (s2.set po (.dK (kvI (putA E0 r.nm (h.debt r.nm + h.cost m f l))))) := by
    obtain ⟨x, y, e1, e2⟩ := F.bg I.lt I.bg
    refine ⟨x, y, ?_, e2⟩
    rw [List.getElem?_set_ne (by have := I.epo; have := I.lt; omega)]
    exact e1
  generalize s2.set po (.dK (kvI (putA E0 r.nm (h.debt r.nm + h.cost m f l)))) = s3 at gp d5 A3 b3
  have dl : (putA E0 r.nm (h.debt r.nm + h.cost m f l)).length ≤ 8 := by
    have : (E0.any fun p => decide (p.1 = r.nm)) = true := List.any_eq_true.mpr ⟨_, look_mem (d3 r hs), by simp⟩
    unfold putA
    rw [if_pos this, List.length_map]
    exact d2
  have I3 : HV lb lh po lk ps ss (n + 1) (h.asked r.nm m f l) s3 := by
    refine { bg := b3, lt := I.lt, at' := ⟨ll ++ [l'], A3, by simp; omega⟩, ok := o2, lcs := L2, hr := I.hr, elk := I.elk, epr := I.epr, ess := I.ess, epo := I.epo, db := ⟨_, d5, dl, fun s hs => ?_⟩ }
    rw [look_put, asked_debt']
    split
    · rfl
    · exact d3 s hs
  have t18 : fTup (fCons (fV 13) (fCons (fV 17) (fCons (fV 19) fNil))) (R (some (.int (h.cost m f l)))) s3 = some (.tup [.int (num : Nat), .int (m : Nat), .int (h.cost m f l)], s3) := tup3 (st := s3) (x := .int (num : Nat)) (y := .int (m : Nat)) (z := .int (h.cost m f l)) rfl rfl rfl
  have c1 : fTst (fOp neD (fV 18) (fTup (fCons (fV 13) (fCons (fV 17) (fCons (fV 19) fNil))))) (R (some (.int (h.cost m f l)))) s3 = some (false, s3) := ne_same (d := .tup [.int (num : Nat), .int (m : Nat), .int (h.cost m f l)]) rfl rfl t18
  have hs2 : r ∈ (h.asked r.nm m f l).ss := hs'
  have ow : fMeth "House" "owed" 2 fn_House__owed (fV 5) (fCons (fV 6) fNil) (R (some (.int (h.cost m f l)))) s3 = some (.int (h.debt r.nm + h.cost m f l), s3) := by
    have := owed_eq A3 o2 hs2
    rw [asked_debt', if_pos rfl] at this
    exact methE (l := lh) (s1 := s3) rfl A3.hs rfl (ds := [.str r.nm]) (s2 := s3) rfl rfl this
  have vD2 : valD (kvI (putA E0 r.nm (h.debt r.nm + h.cost m f l))) (Sum.inr r.nm) = some (.int (h.debt r.nm + h.cost m f l)) := by rw [val_kvI, look_put, if_pos rfl]; rfl
  have c2 : fTst (fOp neD (fMeth "House" "owed" 2 fn_House__owed (fV 5) (fCons (fV 6) fNil)) (fOp getK (fV 12) (fV 6))) (R (some (.int (h.cost m f l)))) s3 = some (false, s3) := ne_same (d := .int (h.debt r.nm + h.cost m f l)) rfl ow (op_ok (d := .ref po) (e := .str r.nm) (st1 := s3) (st2 := s3) rfl rfl (getK_ok d5 vD2))
  obtain ⟨ds, q1, q2, q3⟩ := licences_eq A3 L2 (by simp; omega)
  have gl : (h.asked r.nm m f l).gv[h.gv.length]? = some (h.lic r.nm m f l) := by show (h.gv ++ [h.lic r.nm m f l])[h.gv.length]? = _; simp
  have inn := q3 h.gv.length (h.lic r.nm m f l) f l gl ⟨rfl, rfl, h2, h4, nmr⟩ (asked_own h2)
  have okl := okBs_mem.mp q2 _ inn
  have tn : fTupN (R (some (.int (h.cost m f l)))) s3 = some (licD h.gv.length (h.lic r.nm m f l) (rangeD (f : Nat) (l + 1 - f)), s3) := by
    have rg : fOp rgT (fV 15) (fOp addD (fV 16) (fC (.int 1))) (R (some (.int (h.cost m f l)))) s3 = some (.tup (rangeD (f : Nat) (l + 1 - f)), s3) := op_ok (d := .int (f : Nat)) (st1 := s3) rfl (op_ok (d := .int (l : Nat)) (e := .int 1) (st1 := s3) (st2 := s3) rfl rfl e_addI) (rgT_ok (by omega) (by omega))
    unfold fTupN
    rw [gn]
    simp only [e_tup, e_cons, e_nil, rg, e_V, R, List.getElem?_cons_zero, List.getElem?_cons_succ, Option.bind_some, List.length_cons, List.length_nil]
    rw [if_pos (by rw [sizeLine_eq]; decide)]
    rfl
  have lc : fMeth "House" "licences" 1 fn_House__licences (fV 5) fNil (R (some (.int (h.cost m f l)))) s3 = some (.lst ds, s3) := methE (l := lh) (s1 := s3) rfl A3.hs rfl (ds := []) (s2 := s3) rfl rfl q1
  have c3 : fTst (fOp (inW true) fTupN (fMeth "House" "licences" 1 fn_House__licences (fV 5) fNil)) (R (some (.int (h.cost m f l)))) s3 = some (false, s3) := tst_ok (op_ok tn lc (in_data okl q2 inn))
  have c4 : fOp addD (fV 13) (fC (.int 1)) (R (some (.int (h.cost m f l)))) s3 = some (.int ((num + 1 : Nat) : Int), s3) := by
    rw [op_ok (d := .int (num : Nat)) (e := .int 1) (st1 := s3) (st2 := s3) rfl rfl e_addI]
    rfl
  exact ⟨s3, seqT (set_ok g19) (seqT gp (seqT (if_no (or_ff c1 c2)) (seqT (if_no c3) (set_ok c4)))), I3⟩
theorem bodyA_ok {f l num i : Nat} (I : HV lb lh po lk ps ss n h st) (e : h.ss[i]? = some r) (h2 : f ≤ l) (h3 : l ≤ f + 23) (h4 : l ≤ 999) (hn : n ≤ 500) (gn : h.gv.length = num) (free : ∀ k, f ≤ k → k ≤ l → h.band r.nm k = 0) :
    ∃ h' num' s3 y17 y18 y19, bodyA (tR ns lb lh po lk ps ss num x1 (some (.str r.nm)) x7 x8 x9 x10 x14 (some (.int (f : Nat))) (some (.int (l : Nat))) x17 x18 x19) st = some (.nx, tR ns lb lh po lk ps ss num' x1 (some (.str r.nm)) x7 x8 x9 x10 x14 (some (.int (f : Nat))) (some (.int (l : Nat))) y17 y18 y19, s3) ∧ HV lb lh po lk ps ss (n + 1) h' s3 ∧ h'.gv.length = num' := by
  obtain ⟨ll, A, hl⟩ := I.at'
  have hs' := List.mem_of_getElem? e
  have g17 : fFn 6 fn__law_least (fCons (fV 5) (fCons (fV 3) (fCons (fCall lenD (fCons (fV 4) fNil)) (fCons (fV 6) (fCons (fV 15) (fCons (fV 16) fNil)))))) (tR ns lb lh po lk ps ss num x1 (some (.str r.nm)) x7 x8 x9 x10 x14 (some (.int (f : Nat))) (some (.int (l : Nat))) x17 x18 x19) st = some (natO (h.least i f l), st) := by
    refine fn_ok (ds := [.ref lh, .int h.lk, .int (h.prices.length : Nat), .str r.nm, .int (f : Nat), .int (l : Nat)]) (st1 := st) ?_ rfl (law_least_eq A I.ok e h2 h3 h4 free)
    have lz : lenD [EL.tun ps] st = some (.int (ps.length : Nat), st) := by unfold EL.tun; rw [e_lenT, List.length_map]
    rw [I.elk, I.epr]
    simp only [e_cons, e_call, e_V, e_nil, List.getElem?_cons_zero, List.getElem?_cons_succ, Option.bind_some, lz]
  have hrl : h.hour ≤ ((f : Nat) : Int) := by rw [I.hr]; omega
  rcases ask_eq A I.ok e hrl h2 h3 h4 free (by omega) with ⟨el, st2, e2, A2, f2⟩ | ⟨m, l', st2, em, e2, A2, f2⟩
  · rw [el] at g17
    have c2 : fMeth "House" "ask" 4 fn_House__ask (fV 5) (fCons (fV 6) (fCons (fV 15) (fCons (fV 16) fNil))) (tR ns lb lh po lk ps ss num x1 (some (.str r.nm)) x7 x8 x9 x10 x14 (some (.int (f : Nat))) (some (.int (l : Nat))) (some .non) x18 x19) st = some (.non, st2) := methE (l := lh) (s1 := st) rfl A.hs rfl (ds := [.str r.nm, .int (f : Nat), .int (l : Nat)]) (s2 := st) rfl rfl e2
    refine ⟨h, num, st2, some .non, some .non, x19, seqT (set_ok g17) (seqT (set_ok c2) (if_then (tst_ok (b := true) (op_ok (st1 := st2) (d := .non) (e := .non) (st2 := st2) rfl rfl rfl)) (if_no (tst_ok (b := false) (op_ok (st1 := st2) (d := .non) (e := .non) (st2 := st2) rfl rfl rfl))))), ?_, gn⟩
    obtain ⟨E0, d1, d2, d3⟩ := I.db
    exact { I with bg := f2.bg I.lt I.bg, at' := ⟨ll, A2, by omega⟩, db := ⟨E0, by rw [f2.2 po (.inr ⟨I.epo, (List.getElem?_eq_some_iff.mp d1).1⟩)]; exact d1, d2, d3⟩ }
  · rw [em] at g17
    obtain ⟨m1, m2, _⟩ := least_some em
    rw [gn] at e2
    have c2 : fMeth "House" "ask" 4 fn_House__ask (fV 5) (fCons (fV 6) (fCons (fV 15) (fCons (fV 16) fNil))) (tR ns lb lh po lk ps ss num x1 (some (.str r.nm)) x7 x8 x9 x10 x14 (some (.int (f : Nat))) (some (.int (l : Nat))) (some (.int (m : Nat))) x18 x19) st = some (.tup [.int (num : Nat), .int (m : Nat), .int (h.cost m f l)], st2) := methE (l := lh) (s1 := st) rfl A.hs rfl (ds := [.str r.nm, .int (f : Nat), .int (l : Nat)]) (s2 := st) rfl rfl e2
    obtain ⟨s3, e3, I3⟩ := bodyP_ok (ns := ns) (x1 := x1) (x7 := x7) (x8 := x8) (x9 := x9) (x10 := x10) (x14 := x14) (x19 := x19) I e h2 h3 h4 hn m1 m2 A2 hl f2 gn
    refine ⟨h.asked r.nm m f l, num + 1, s3, _, _, _, seqT (set_ok g17) (seqT (set_ok c2) (if_else (tst_ok (b := false) (op_ok (st1 := st2) (d := .int (m : Nat)) (e := .non) (st2 := st2) rfl rfl rfl)) e3)), I3, ?_⟩
    show (h.gv ++ [h.lic r.nm m f l]).length = num + 1
    rw [List.length_append, List.length_singleton, gn]
theorem nf_ok {num : Nat} {d e : D} (q1 : fn__law_of [.ref lb, .lst (ss.map fun s => D.str s.nm)] st = some (d, s1)) (q2 : fn__law_take [.ref lb, .int 12] s1 = some (e, s2)) : fNF (tR ns lb lh po lk ps ss num x1 x6 x7 x8 x9 x10 x14 x15 x16 x17 x18 x19) st = some (.tup [d, e], s2) := by
  have a1 : fFn 2 fn__law_of (fCons (fV 2) (fCons (fV 11) fNil)) (tR ns lb lh po lk ps ss num x1 x6 x7 x8 x9 x10 x14 x15 x16 x17 x18 x19) st = some (d, s1) := fn_ok rfl rfl q1
  have a2 : fFn 2 fn__law_take (fCons (fV 2) (fCons (fC (.int 12)) fNil)) (tR ns lb lh po lk ps ss num x1 x6 x7 x8 x9 x10 x14 x15 x16 x17 x18 x19) s1 = some (e, s2) := fn_ok rfl rfl q2
  unfold fNF
  rw [e_tup, e_cons, a1]
  simp only [Option.bind_some]
  rw [e_cons, a2]
  simp only [Option.bind_some, e_nil, List.length_cons, List.length_nil]
  rw [if_pos (by rw [sizeLine_eq]; decide)]
theorem bodyT_ok {num : Nat} (I : HV lb lh po lk ps ss n h st) (hn : n ≤ 500) (gn : h.gv.length = num) (hne : ss ≠ []) :
    ∃ h' num' s3 y6 y15 y16 y17 y18 y19, bodyT (tR ns lb lh po lk ps ss num x1 x6 x7 x8 x9 x10 x14 x15 x16 x17 x18 x19) st = some (.nx, tR ns lb lh po lk ps ss num' x1 y6 x7 x8 x9 x10 x14 y15 y16 y17 y18 y19, s3) ∧ HV lb lh po lk ps ss (n + 1) h' s3 ∧ h'.gv.length = num' := by
  have l8 : ss.length ≤ 8 := by rw [← I.ess]; exact I.ok.l8
  obtain ⟨⟨d, s1⟩, q1, hd, g1⟩ := of_spec (xs := ss.map fun s => D.str s.nm) (s := st) (by rw [List.length_map]; exact List.length_pos_iff.mpr hne) (by rw [List.length_map]; omega) (fun d hd => by obtain ⟨z, _, rfl⟩ := List.mem_map.mp hd; rfl) I.bg
  simp only at hd g1
  obtain ⟨r, hr, rfl⟩ := List.mem_map.mp hd
  have I1 := I.go g1
  obtain ⟨⟨d2, s2⟩, q2, ⟨fi, rfl, f1, f2⟩, g2⟩ := take_spec (m := 12) (by decide) (by decide) I1.bg
  simp only at g2
  have I2 := I1.go g2
  obtain ⟨f, rfl⟩ : ∃ f : Nat, fi = (f : Nat) := ⟨fi.toNat, by omega⟩
  have nf := nf_ok (ns := ns) (lb := lb) (lh := lh) (po := po) (lk := lk) (ps := ps) (ss := ss) (num := num) (x1 := x1) (x6 := x6) (x7 := x7) (x8 := x8) (x9 := x9) (x10 := x10) (x14 := x14) (x15 := x15) (x16 := x16) (x17 := x17) (x18 := x18) (x19 := x19) q1 q2
  have le : ED lb (tR ns lb lh po lk ps ss num x1 (some (.str r.nm)) x7 x8 x9 x10 x14 (some (.int (f : Nat))) x16 x17 x18 x19) fLen (Nn 0 23) := ED.take (M := 24) (hi := 23) rfl (ED.pick (P := Nn 1 24) (.allC ED.n (.allC ED.n (.allC ED.n .all0))) (ED.take (M := 3) rfl ED.n))
  obtain ⟨⟨d3, s3⟩, q3, ⟨ti, rfl, t1, t2⟩, g3⟩ := le s2 I2.bg
  simp only at g3
  have I3 := I2.go g3
  obtain ⟨t, rfl⟩ : ∃ t : Nat, ti = (t : Nat) := ⟨ti.toNat, by omega⟩
  have g16 : fOp addD (fV 15) fLen (tR ns lb lh po lk ps ss num x1 (some (.str r.nm)) x7 x8 x9 x10 x14 (some (.int (f : Nat))) x16 x17 x18 x19) s2 = some (.int ((f + t : Nat) : Int), s3) := by
    rw [op_ok (d := .int (f : Nat)) (st1 := s2) rfl q3 e_addI]
    rfl
  obtain ⟨s4, q4, more, e4⟩ := take_ok (ns := ns) (x1 := x1) (x7 := x7) (x8 := x8) (x9 := x9) (x10 := x10) (x14 := x14) (x17 := x17) (x18 := x18) (x19 := x19) (f := f) (l := f + t) (num := num) I3.ok I3 hr (by omega) (by omega)
  have I4 : HV lb lh po lk ps ss n h s4 := by rw [e4]; exact I3.app more
  have z4 : fLz fNil (tR ns lb lh po lk ps ss num x1 (some (.str r.nm)) x7 x8 x9 x10 x14 (some (.int (f : Nat))) (some (.int ((f + t : Nat) : Int))) x17 x18 x19) s4 = some (.lst [], s4) := by simp [sizeLine_eq]
  have okl : okBs 59 (((List.range (f + t + 1 - f)).filter fun k => decide (h.band r.nm (f + k) ≠ 0)).map fun k : Nat => D.int ((f : Nat) + (k : Nat))) = true := okBs_mem.mpr fun d hd => by
    obtain ⟨k, _, rfl⟩ := List.mem_map.mp hd
    rfl
  have ts := tst_ok (op_ok q4 z4 (eq_nilL okl))
  rw [List.isEmpty_map] at ts
  cases q : (((List.range (f + t + 1 - f)).filter fun k => decide (h.band r.nm (f + k) ≠ 0))).isEmpty with
  | false =>
    rw [q] at ts
    have up : HV lb lh po lk ps ss (n + 1) h s4 := by
      obtain ⟨ll, A, hl⟩ := I4.at'
      exact { I4 with at' := ⟨ll, A, by omega⟩ }
    exact ⟨h, num, s4, some (.str r.nm), some (.int (f : Nat)), some (.int ((f + t : Nat) : Int)), x17, x18, x19, seqT (unp_ok nf rfl) (seqT (set_ok g16) (if_else ts rfl)), up, gn⟩
  | true =>
    rw [q] at ts
    have free : ∀ k, f ≤ k → k ≤ f + t → h.band r.nm k = 0 := fun k k1 k2 => by
      have := List.isEmpty_iff.mp q
      have := List.filter_eq_nil_iff.mp this (k - f) (List.mem_range.mpr (by omega))
      rw [show f + (k - f) = k by omega] at this
      by_cases z : h.band r.nm k = 0
      · exact z
      · exact absurd (decide_eq_true z) this
    obtain ⟨i, ei⟩ := List.mem_iff_getElem?.mp (show r ∈ h.ss by rw [I.ess]; exact hr)
    obtain ⟨h5, num5, s5, y17, y18, y19, e5, I5, n5⟩ := bodyA_ok (ns := ns) (x1 := x1) (x7 := x7) (x8 := x8) (x9 := x9) (x10 := x10) (x14 := x14) (x17 := x17) (x18 := x18) (x19 := x19) I4 ei (by omega : f ≤ f + t) (by omega) (by omega) hn gn free
    exact ⟨h5, num5, s5, some (.str r.nm), some (.int (f : Nat)), some (.int ((f + t : Nat) : Int)), y17, y18, y19, seqT (unp_ok nf rfl) (seqT (set_ok g16) (if_then ts e5)), I5, n5⟩
theorem ints_of : ∀ {ds : List D}, (∀ d ∈ ds, Nn 0 1000 d) → ∃ ps : List Int, ds = ps.map D.int ∧ ∀ p ∈ ps, 0 ≤ p ∧ p ≤ 1000
  | [], _ => ⟨[], rfl, fun p hp => by cases hp⟩
  | d :: ds, hh => by
    obtain ⟨i, rfl, i1, i2⟩ := hh d List.mem_cons_self
    obtain ⟨ps, rfl, h2⟩ := ints_of fun e he => hh e (List.mem_cons_of_mem _ he)
    exact ⟨i :: ps, rfl, fun p hp => by
      rcases List.mem_cons.mp hp with rfl | hp
      · exact ⟨i1, i2⟩
      · exact h2 p hp⟩
theorem bodyL_ok {k : Int} (k0 : 0 ≤ k) (k1 : k ≤ 15) :
    Ok (bodyL (mkR ns (some (.int k)) x2 x3 x4 x5 x6 x7 x8 x9 x10 x11 x12 x13 x14 x15 x16 x17 x18 x19) s) fun q => q.1 = .nx ∧ ∃ x1 x2 x3 x4 x5 x6 x7 x8 x9 x10 x11 x12 x13 x14 x15 x16 x17 x18 x19, q.2.1 = mkR ns x1 x2 x3 x4 x5 x6 x7 x8 x9 x10 x11 x12 x13 x14 x15 x16 x17 x18 x19 := by
  obtain ⟨⟨y1, s1⟩, q1, e1, o, e2, b1⟩ := bag_spec (ns := ns) (st := s) k0 (by omega)
  simp only at e1 e2 b1
  subst e1
  have lea : ED s.length (mkR ns (some (.int k)) (some (.ref s.length)) x3 x4 x5 x6 x7 x8 x9 x10 x11 x12 x13 x14 x15 x16 x17 x18 x19) fLea (Nn 1 1000) := ED.pick (P := Nn 1 1000) (.allC ED.n (.allC ED.n (.allC (ED.add (ED.n (lo := 1) (hi := 1)) (ED.take (M := 50) (hi := 49) rfl ED.n)) .all0))) (ED.take (M := 3) rfl ED.n)
  obtain ⟨⟨y3, s2⟩, q3, ⟨lk, rfl, l1, l2⟩, g3⟩ := lea s1 b1
  simp only at g3
  have b2 := g3.bg b1.lt
  -- prices
  obtain ⟨⟨y4, s2a⟩, q4a, ⟨ci, rfl, c1, c2⟩, g4a⟩ := (ED.add (lo := 1) (hi := 5) (l1 := 1) (h1 := 1) (l2 := 0) (h2 := 4) ED.n (ED.take (M := 5) (hi := 4) rfl ED.n) : ED s.length (mkR ns (some (.int k)) (some (.ref s.length)) (some (.int lk)) x4 x5 x6 x7 x8 x9 x10 x11 x12 x13 x14 x15 x16 x17 x18 x19) (fOp addD (fC (.int 1)) (fFn 2 fn__law_take (fCons (fV 2) (fCons (fC (.int 5)) fNil)))) (Nn 1 5)) s2 b2
  simp only at g4a
  have b2a := g4a.bg b2.lt
  obtain ⟨c, rfl⟩ : ∃ c : Nat, ci = (c : Nat) := ⟨ci.toNat, by omega⟩
  have rg : iRange1 (fCons (fOp addD (fC (.int 1)) (fFn 2 fn__law_take (fCons (fV 2) (fCons (fC (.int 5)) fNil)))) fNil) (mkR ns (some (.int k)) (some (.ref s.length)) (some (.int lk)) x4 x5 x6 x7 x8 x9 x10 x11 x12 x13 x14 x15 x16 x17 x18 x19) s2 = some (rangeD 0 c, [], s2a) := by
    refine range_ok ?_ (by omega)
    rw [e_cons, q4a]
    rfl
  obtain ⟨ds, s3, e3, ld, pd, g3a⟩ := lcDr (tg := .one 14) (fe := fFn 2 fn__law_take (fCons (fV 2) (fCons (fC (.int 1001)) fNil))) (ρ := wipeD (mkR ns (some (.int k)) (some (.ref s.length)) (some (.int lk)) x4 x5 x6 x7 x8 x9 x10 x11 x12 x13 x14 x15 x16 x17 x18 x19) [14]) (enc := fun k : Nat => D.int (0 + (k : Nat))) (P := Nn 0 1000) (I := fun s' => Go s.length s2a s') (L := List.range c) (s := s2a) (.refl b2a) (fun j hj s' gg => by
      obtain ⟨⟨d, s''⟩, qd, hd, gd⟩ := take_spec (m := 1001) (by decide) (by decide) (gg.bg b2a.lt)
      simp only at gd hd
      exact ⟨[some (.scr ns), some (.int k), some (.ref s.length), some (.int lk), x4, x5, x6, x7, x8, x9, x10, x11, x12, x13, some (.int (0 + (j : Nat))), x15, x16, x17, x18, x19, none, none], d, s'', rfl, fn_ok (ds := [.ref s.length, .int 1001]) (st1 := s') rfl rfl qd, hd, gg.trans gd⟩)
  obtain ⟨ps, rfl, hps⟩ := ints_of pd
  rw [List.length_map, List.length_range] at ld
  have b3 := g3a.bg b2a.lt
  have f4 : fCall tupleD (fCons fPri fNil) (mkR ns (some (.int k)) (some (.ref s.length)) (some (.int lk)) x4 x5 x6 x7 x8 x9 x10 x11 x12 x13 x14 x15 x16 x17 x18 x19) s2 = some (EL.tun ps, s3) := tup_lc (lcz_ok rg e3 (by rw [List.length_map]; omega))
  obtain ⟨s4, q4, A4, keep⟩ := house_init (st := s3) (ps := ps) (lk := lk) (by omega) (by omega) hps l1 l2
  have o4 := new_ok (ps := ps) (lk := lk) (by omega) hps l1 l2
  have b4 : Bg s.length s4 := by
    obtain ⟨x, y, e, hh⟩ := b3
    exact ⟨x, y, by rw [keep _ (List.getElem?_eq_some_iff.mp e).1]; exact e, hh⟩
  have c5 : fMakeK "House" 1 1 fn_House____init__ (fCons (fV 4) fNil) (fCons (fV 3) fNil) (mkR ns (some (.int k)) (some (.ref s.length)) (some (.int lk)) (some (EL.tun ps)) x5 x6 x7 x8 x9 x10 x11 x12 x13 x14 x15 x16 x17 x18 x19) s3 = some (.ref s3.length, s4) := makeK_ok (ds := [EL.tun ps]) (es := [.int lk]) rfl rfl rfl rfl q4
  obtain ⟨⟨y5, s5⟩, q5, ⟨ss, rfl, hss, hnm, hl⟩, g5⟩ := stations_spec2 (most := 8) b4 (by decide) (by decide)
  simp only at g5
  have I5 : HV0 s.length s3.length lk ps [] 0 (Hs.new ps lk) s5 := ⟨g5.bg b4.lt, b3.lt, ⟨[], A4.go b3.lt g5, Nat.le_refl _⟩, o4, (fun lic hl => by cases hl), rfl, rfl, rfl, rfl⟩
  have it : iSeq (fFn 2 fn__law_stations (fCons (fV 2) (fCons (fC (.int 8)) fNil))) (mkR ns (some (.int k)) (some (.ref s.length)) (some (.int lk)) (some (EL.tun ps)) (some (.ref s3.length)) x6 x7 x8 x9 x10 x11 x12 x13 x14 x15 x16 x17 x18 x19) s4 = some (ss.map Stn.d, [], s5) := by
    have := fn_ok (n := 2) (hA := fn__law_stations) (fr := fCons (fV 2) (fCons (fC (.int 8)) fNil)) (ρ := mkR ns (some (.int k)) (some (.ref s.length)) (some (.int lk)) (some (EL.tun ps)) (some (.ref s3.length)) x6 x7 x8 x9 x10 x11 x12 x13 x14 x15 x16 x17 x18 x19) (ds := [.ref s.length, .int 8]) (st := s4) (st1 := s4) rfl rfl q5
    unfold iSeq
    rw [this]
    rfl
  have l8 := hss.len.2
  obtain ⟨ρ6, s6, e6, y6, y7, y8, y9, y10, h6, rfl, I6, z6, v6⟩ := for_fold (tg := .many [6, 7, 8, 9, 10]) (b := bodyS) (src := []) (items := ss.map Stn.d)
    (I := fun i ρ s' => ∃ y6 y7 y8 y9 y10 h', ρ = mkR ns (some (.int k)) (some (.ref s.length)) (some (.int lk)) (some (EL.tun ps)) (some (.ref s3.length)) y6 y7 y8 y9 y10 x11 x12 x13 x14 x15 x16 x17 x18 x19 ∧ HV0 s.length s3.length lk ps (ss.take i) 0 h' s' ∧ (∀ s ∈ ss.take i, h'.debt s.nm = 0) ∧ h'.gv = [])
    (fun _ _ _ _ => Intact.nil) (fun i d hd ρ s' ⟨y6, y7, y8, y9, y10, h', hρ, I', z', v'⟩ => by
      subst hρ
      rw [List.getElem?_map] at hd
      obtain ⟨q, eq, rfl⟩ := Option.map_eq_some_iff.mp hd
      have tk : ss.take (i + 1) = ss.take i ++ [q] := by rw [List.take_succ, eq]; rfl
      have hn : ((ss.take i).map Stn.nm ++ [q.nm]).Sublist nms := by
        have : (ss.take i).map Stn.nm ++ [q.nm] = (ss.take (i + 1)).map Stn.nm := by rw [tk, List.map_append]; rfl
        rw [this]
        exact ((List.take_sublist _ _).map _).trans hss.nm
      obtain ⟨h2, st2, e2, I2, z2, v2⟩ := bodyS_ok (ns := ns) (x1 := some (.int k)) (x11 := x11) (x12 := x12) (x13 := x13) (x14 := x14) (x15 := x15) (x16 := x16) (x17 := x17) (x18 := x18) (x19 := x19) I' (hss.all q (List.mem_of_getElem? eq)) hn z' v'
      rw [← tk] at I2 z2
      exact ⟨mkR ns (some (.int k)) (some (.ref s.length)) (some (.int lk)) (some (EL.tun ps)) (some (.ref s3.length)) (some (.str q.nm)) (some (.tup [.int q.px, .int q.py])) (some (.int q.pw)) (some (.tup [.int q.hx, .int q.hy])) (some (.int q.nd)) x11 x12 x13 x14 x15 x16 x17 x18 x19, rfl, _, _, _, e2, .inl rfl, _, _, _, _, _, h2, rfl, I2, z2, v2⟩)
    (ρ := mkR ns (some (.int k)) (some (.ref s.length)) (some (.int lk)) (some (EL.tun ps)) (some (.ref s3.length)) x6 x7 x8 x9 x10 x11 x12 x13 x14 x15 x16 x17 x18 x19) (s := s5) ⟨_, _, _, _, _, _, rfl, I5, (fun s hs => by cases hs), rfl⟩
  rw [List.length_map, List.take_length] at I6 z6
  obtain ⟨ll6, A6, hl6⟩ := I6.at'
  -- names and debts
  have f11 : fNames (mkR ns (some (.int k)) (some (.ref s.length)) (some (.int lk)) (some (EL.tun ps)) (some (.ref s3.length)) y6 y7 y8 y9 y10 x11 x12 x13 x14 x15 x16 x17 x18 x19) s6 = some (.lst (ss.map fun s => D.str s.nm), s6) := by
    have it : iSeq (fMeth "House" "stations" 1 fn_House__stations (fV 5) fNil) (mkR ns (some (.int k)) (some (.ref s.length)) (some (.int lk)) (some (EL.tun ps)) (some (.ref s3.length)) y6 y7 y8 y9 y10 x11 x12 x13 x14 x15 x16 x17 x18 x19) s6 = some (ss.map Stn.d, [], s6) := by
      have := methE (n := 1) (c := "House") (m := "stations") (fn := fn_House__stations) (ρ := mkR ns (some (.int k)) (some (.ref s.length)) (some (.int lk)) (some (EL.tun ps)) (some (.ref s3.length)) y6 y7 y8 y9 y10 x11 x12 x13 x14 x15 x16 x17 x18 x19) (fo := fV 5) (fr := fNil) (l := s3.length) (s1 := s6) rfl A6.hs rfl (ds := []) (s2 := s6) rfl rfl (hstations_eq A6)
      unfold iSeq
      rw [this, I6.ess]
      rfl
    exact lc_map (l := ss) (enc := Stn.d) (w := fun s => D.str s.nm) it (fun z hz => ⟨[some (.scr ns), some (.int k), some (.ref s.length), some (.int lk), some (EL.tun ps), some (.ref s3.length), y6, y7, y8, y9, y10, x11, x12, x13, x14, x15, x16, x17, x18, x19, some z.d, none], rfl, rfl⟩) (by omega)
  let B : List (Str × Int) := ss.map fun s => (s.nm, 0)
  have ndB : (B.map (·.1)).Nodup := by
    show ((ss.map fun s => (s.nm, (0 : Int))).map (·.1)).Nodup
    rw [List.map_map]
    exact hss.nm.nodup (by decide)
  have f12 : fOwe (mkR ns (some (.int k)) (some (.ref s.length)) (some (.int lk)) (some (EL.tun ps)) (some (.ref s3.length)) y6 y7 y8 y9 y10 (some (.lst (ss.map fun s => D.str s.nm))) x12 x13 x14 x15 x16 x17 x18 x19) s6 = some (.ref s6.length, s6 ++ [.dK (kvF D.int B)]) := by
    have lc := lc_map (st := s6) (ρ := mkR ns (some (.int k)) (some (.ref s.length)) (some (.int lk)) (some (EL.tun ps)) (some (.ref s3.length)) y6 y7 y8 y9 y10 (some (.lst (ss.map fun s => D.str s.nm))) x12 x13 x14 x15 x16 x17 x18 x19) (fi := iSeq (fV 11)) (vs := [6]) (tg := .one 6) (fe := fTup (fCons (fV 6) (fCons (fC (.int 0)) fNil))) (l := ss) (enc := fun s => D.str s.nm) (w := (fun p : Str × Int => D.tup [.str p.1, .int p.2]) ∘ fun s => (s.nm, 0)) rfl (fun z hz => ⟨[some (.scr ns), some (.int k), some (.ref s.length), some (.int lk), some (EL.tun ps), some (.ref s3.length), some (.str z.nm), y7, y8, y9, y10, some (.lst (ss.map fun s => D.str s.nm)), x12, x13, x14, x15, x16, x17, x18, x19, none, none], rfl, tup2 rfl rfl⟩) (by omega)
    rw [← List.map_map] at lc
    unfold fOwe
    rw [e_call, e_cons, lc]
    exact dictF_ok (g := D.int) (B := B) ndB
  have I7 : HV s.length s3.length s6.length lk ps ss 0 h6 (s6 ++ [.dK (kvF D.int B)]) := by
    refine { toHV0 := I6.app _, epo := by have := A6.lt; omega, db := ⟨B, at_new, by show (ss.map _).length ≤ 8; rw [List.length_map]; exact l8, fun z hz => ?_⟩ }
    rw [z6 z hz]
    exact lookF_of ndB (List.mem_map.mpr ⟨z, hz, rfl⟩)
  obtain ⟨ρ8, s8, e8, w6, w14, w15, w16, w17, w18, w19, h8, num8, rfl, I8, v8⟩ := for_fold (tg := .one 14) (b := bodyT) (src := []) (items := rangeD 0 16)
    (I := fun i ρ s' => ∃ w6 w14 w15 w16 w17 w18 w19 h' num', ρ = tR ns s.length s3.length s6.length lk ps ss num' (some (.int k)) w6 y7 y8 y9 y10 w14 w15 w16 w17 w18 w19 ∧ HV s.length s3.length s6.length lk ps ss i h' s' ∧ h'.gv.length = num')
    (fun _ _ _ _ => Intact.nil) (fun i d hd ρ s' ⟨w6, w14, w15, w16, w17, w18, w19, h', num', hρ, I', v'⟩ => by
      subst hρ
      have hi : i < 16 := (range_item hd).1
      obtain ⟨h2, num2, st2, v6', v15, v16, v17, v18, v19, e2, I2, n2⟩ := bodyT_ok (ns := ns) (x1 := some (.int k)) (x6 := w6) (x7 := y7) (x8 := y8) (x9 := y9) (x10 := y10) (x14 := some d) (x15 := w15) (x16 := w16) (x17 := w17) (x18 := w18) (x19 := w19) I' (by omega) v' (List.length_pos_iff.mp hss.len.1)
      exact ⟨tR ns s.length s3.length s6.length lk ps ss num' (some (.int k)) w6 y7 y8 y9 y10 (some d) w15 w16 w17 w18 w19, rfl, _, _, _, e2, .inl rfl, _, _, _, _, _, _, _, h2, num2, rfl, I2, n2⟩)
    (ρ := tR ns s.length s3.length s6.length lk ps ss 0 (some (.int k)) y6 y7 y8 y9 y10 x14 x15 x16 x17 x18 x19) (s := s6 ++ [.dK (kvF D.int B)]) ⟨_, _, _, _, _, _, _, h6, 0, rfl, I7, by rw [v6]; rfl⟩
  refine ⟨(.nx, tR ns s.length s3.length s6.length lk ps ss num8 (some (.int k)) w6 y7 y8 y9 y10 w14 w15 w16 w17 w18 w19, s8), ?_, rfl, _, _, _, _, _, _, _, _, _, _, _, _, _, _, _, _, _, _, _, rfl⟩
  unfold bodyL
  have f1 : fFn 2 fn__law_bag (fCons (fV 0) (fCons (fV 1) fNil)) (mkR ns (some (.int k)) x2 x3 x4 x5 x6 x7 x8 x9 x10 x11 x12 x13 x14 x15 x16 x17 x18 x19) s = some (.ref s.length, s1) := fn_ok (ds := [.scr ns, .int k]) (st1 := s) rfl rfl q1
  exact seqT (set_ok f1) (seqT (set_ok q3) (seqT (set_ok f4) (seqT (set_ok c5) (seqT (for_at it e6) (seqT (set_ok f11) (seqT (set_ok f12) (seqT (set_ok rfl) (for_at (range_ok (n := 16) rfl (by decide)) e8))))))))
theorem math (hz : ns.length ≤ 63) : ∃ st', fn_law [.scr ns] [] = some (.bl true, st') := by
  have key : Ok (sb_law (mkR ns none none none none none none none none none none none none none none none none none none none) []) fun q => q.1 = .rt (.bl true) := by
    rw [law_form]
    have ls : ∀ st, lenD [.scr ns] st = some (.int ns.length, st) := fun _ => rfl
    obtain ⟨c, hc, c1⟩ : ∃ c : Nat, minD [.int ns.length, .int 4] ([] : Sto) = some (.int (c : Nat), []) ∧ c ≤ 4 := by
      by_cases z : (4 : Int) < ns.length
      · exact ⟨4, by show some (D.int (if (4 : Int) < ns.length then 4 else ns.length), _) = _; rw [if_pos z]; rfl, by omega⟩
      · exact ⟨ns.length, by show some (D.int (if (4 : Int) < ns.length then 4 else ns.length), _) = _; rw [if_neg z], by omega⟩
    have it : iRange1 (fCons (fOp addD (fC (.int 1)) (fCall minD (fCons (fCall lenD (fCons (fV 0) fNil)) (fCons (fC (.int 4)) fNil)))) fNil) (mkR ns none none none none none none none none none none none none none none none none none none none) [] = some (rangeD 0 (1 + c), [], []) := by
      refine range_ok ?_ (by omega)
      simp only [e_cons, e_op, e_C, e_call, e_V, e_nil, List.getElem?_cons_zero, Option.bind_some, ls, hc, e_addI]
      rw [Int.natCast_add]
      rfl
    have lp := for_ok (tg := .one 1) (b := bodyL) (src := []) (items := rangeD 0 (1 + c))
      (I := fun _ ρ _ => ∃ x1 x2 x3 x4 x5 x6 x7 x8 x9 x10 x11 x12 x13 x14 x15 x16 x17 x18 x19, ρ = mkR ns x1 x2 x3 x4 x5 x6 x7 x8 x9 x10 x11 x12 x13 x14 x15 x16 x17 x18 x19)
      (fun _ _ _ _ => Intact.nil)
      (fun j d hd ρ s' ⟨x1, x2, x3, x4, x5, x6, x7, x8, x9, x10, x11, x12, x13, x14, x15, x16, x17, x18, x19, hρ⟩ => by
        subst hρ
        obtain ⟨hj, rfl⟩ := range_item hd
        exact ⟨_, rfl, bodyL_ok (by omega) (by omega)⟩)
      _ 0 (mkR ns none none none none none none none none none none none none none none none none none none none) [] rfl (Nat.zero_le _) ⟨_, _, _, _, _, _, _, _, _, _, _, _, _, _, _, _, _, _, _, rfl⟩
    rw [List.drop_zero] at lp
    obtain ⟨⟨f, ρ2, s2⟩, e, e1, _⟩ := lp
    simp only at e1
    subst e1
    refine ⟨(.rt (.bl true), ρ2, s2), ?_, rfl⟩
    rw [seq_nx (ρ1 := ρ2) (st1 := s2) (for_at it e)]
    rfl
  obtain ⟨⟨f, ρ2, s2⟩, e, e1⟩ := key
  simp only at e1
  subst e1
  exact ⟨s2, run_ok (ρ' := ρ2) e⟩
end
end K15
set_option Elab.async false
set_option linter.all false
set_option maxRecDepth 100000
set_option maxHeartbeats 0
namespace K15
open PySem PySem.Spec PyProof.Rows L2 GxR LG EL FW
section
variable {G : G0}
theorem facts {h : Heap} {w : World} (X : G.K.In h) (Gs : h.Ns mainGlobals G.mg) (cy : SaysY faL fnL tfL inL exL w h G.K) (hPr : G.P = PySem.Challenge.pw_wavehall_k15_whole_whoever_is_refused_co) (hPs : G.Ps = (tgL.map (He.cT G.K)).map (·.2)) (tb : ∀ p ∈ tfL.map (He.cT G.K), LamX.TabB G.base G.mg p.1 p.2) : T0 G ∧ (
    DefIK G 5 "House" 1 ["leak"] fn_House____init__ ∧ DefM G 7 "House" "ask" 4 fn_House__ask ∧ DefM G 2 "House" "licences" 1 fn_House__licences ∧ DefM G 4 "House" "owed" 2 fn_House__owed ∧ DefM G 3 "House" "sending" 2 fn_House__sending ∧ DefM G 6 "House" "station" 6 fn_House__station ∧ DefM G 1 "House" "stations" 1 fn_House__stations ∧ Def G 1 "_law_bag" 2 (fn__law_bag) ∧ Def G 5 "_law_least" 6 (fn__law_least) ∧ Def G 2 "_law_of" 2 (fn__law_of) ∧ Def G 2 "_law_stations" 2 (fn__law_stations) ∧ Def G 1 "_law_take" 2 (fn__law_take)) := by
  have c := cy.x
  have T : T0 G := ⟨He.free_ok X Gs (c.t.d.fact 48 (f := .free "abs") rfl), He.free_ok X Gs (c.t.d.fact 49 (f := .free "all") rfl), He.free_ok X Gs (c.t.d.fact 50 (f := .free "bool") rfl), He.free_ok X Gs (c.t.d.fact 51 (f := .free "dict") rfl), He.free_ok X Gs (c.t.d.fact 52 (f := .free "enumerate") rfl), He.free_ok X Gs (c.t.d.fact 53 (f := .free "int") rfl), He.free_ok X Gs (c.t.d.fact 54 (f := .free "isinstance") rfl), He.free_ok X Gs (c.t.d.fact 55 (f := .free "len") rfl), He.free_ok X Gs (c.t.d.fact 56 (f := .free "list") rfl), He.free_ok X Gs (c.t.d.fact 57 (f := .free "max") rfl), He.free_ok X Gs (c.t.d.fact 58 (f := .free "min") rfl), He.free_ok X Gs (c.t.d.fact 59 (f := .free "range") rfl), He.free_ok X Gs (c.t.d.fact 60 (f := .free "sorted") rfl), He.free_ok X Gs (c.t.d.fact 61 (f := .free "str") rfl), He.free_ok X Gs (c.t.d.fact 62 (f := .free "sum") rfl), He.free_ok X Gs (c.t.d.fact 63 (f := .free "tuple") rfl), He.free_ok X Gs (c.t.d.fact 64 (f := .free "zip") rfl), He.int_ok X Gs (c.t.d.fact 65 (f := .int "APART" 2) rfl), He.int_ok X Gs (c.t.d.fact 66 (f := .int "FARTHEST" 1000) rfl), He.int_ok X Gs (c.t.d.fact 67 (f := .int "LAST_BAND" 9) rfl), He.int_ok X Gs (c.t.d.fact 68 (f := .int "LAST_HOUR" 999) rfl), He.int_ok X Gs (c.t.d.fact 69 (f := .int "LONGEST" 23) rfl), He.int_ok X Gs (c.t.d.fact 70 (f := .int "MOST_LEAK" 1000) rfl), He.int_ok X Gs (c.t.d.fact 71 (f := .int "MOST_NEED" 1000) rfl), He.int_ok X Gs (c.t.d.fact 72 (f := .int "MOST_POWER" 1000000) rfl), He.int_ok X Gs (c.t.d.fact 73 (f := .int "MOST_PRICE" 1000) rfl), He.int_ok X Gs (c.t.d.fact 74 (f := .int "MOST_STATIONS" 8) rfl), He.int_ok X Gs (c.t.d.fact 75 (f := .int "NAME_LENGTH" 8) rfl), He.int_ok X Gs (c.t.d.fact 76 (f := .int "SILENCE" 0) rfl), clsF_of X Gs (c.t.d.fact 77 (f := .glo "Board") rfl) (c.t.d.fact 78 (f := .cls "Board") rfl) (fun f hf => by simp only [List.mem_cons, List.not_mem_nil, or_false] at hf; rcases hf with rfl | rfl <;> first | exact c.t.d.fact 85 (f := .noat "Board" "given") rfl | exact c.t.d.fact 86 (f := .noat "Board" "rows") rfl), clsF_of X Gs (c.t.d.fact 81 (f := .glo "Deed") rfl) (c.t.d.fact 82 (f := .cls "Deed") rfl) (fun f hf => by simp only [List.mem_cons, List.not_mem_nil, or_false] at hf; rcases hf with rfl <;> first | exact c.t.d.fact 87 (f := .noat "Deed" "house") rfl), clsF_of X Gs (c.t.d.fact 79 (f := .glo "House") rfl) (c.t.d.fact 80 (f := .cls "House") rfl) (fun f hf => by simp only [List.mem_cons, List.not_mem_nil, or_false] at hf; rcases hf with rfl | rfl | rfl | rfl | rfl | rfl | rfl | rfl <;> first | exact c.t.d.fact 88 (f := .noat "House" "busy") rfl | exact c.t.d.fact 89 (f := .noat "House" "prices") rfl | exact c.t.d.fact 90 (f := .noat "House" "leak") rfl | exact c.t.d.fact 91 (f := .noat "House" "hour") rfl | exact c.t.d.fact 92 (f := .noat "House" "members") rfl | exact c.t.d.fact 93 (f := .noat "House" "powers") rfl | exact c.t.d.fact 94 (f := .noat "House" "debts") rfl | exact c.t.d.fact 95 (f := .noat "House" "board") rfl), clsF_of X Gs (c.t.d.fact 83 (f := .glo "Licence") rfl) (c.t.d.fact 84 (f := .cls "Licence") rfl) (fun f hf => by simp only [List.mem_cons, List.not_mem_nil, or_false] at hf; rcases hf with rfl | rfl | rfl | rfl | rfl <;> first | exact c.t.d.fact 96 (f := .noat "Licence" "name") rfl | exact c.t.d.fact 97 (f := .noat "Licence" "band") rfl | exact c.t.d.fact 98 (f := .noat "Licence" "price") rfl | exact c.t.d.fact 99 (f := .noat "Licence" "first") rfl | exact c.t.d.fact 100 (f := .noat "Licence" "last") rfl)⟩
  obtain ⟨fd_0, D_0⟩ := c.t.d.def_ 0 (d := dd_is_number) rfl
  obtain ⟨_, F_is_number, _⟩ := fnAt_of (st := st_is_number) X Gs D_0 (c.t.d.fact 0 (f := .glo "is_number") rfl)
  have d_is_number := K15.d_is_number T F_is_number 
  obtain ⟨fd_1, D_1⟩ := c.t.d.def_ 1 (d := dd_is_whole) rfl
  obtain ⟨_, F_is_whole, _⟩ := fnAt_of (st := st_is_whole) X Gs D_1 (c.t.d.fact 1 (f := .glo "is_whole") rfl)
  have d_is_whole := K15.d_is_whole T F_is_whole d_is_number
  obtain ⟨fd_2, D_2⟩ := c.t.d.def_ 2 (d := dd_is_leak) rfl
  obtain ⟨_, F_is_leak, _⟩ := fnAt_of (st := st_is_leak) X Gs D_2 (c.t.d.fact 2 (f := .glo "is_leak") rfl)
  have d_is_leak := K15.d_is_leak T F_is_leak d_is_whole
  obtain ⟨fd_3, D_3⟩ := c.t.d.def_ 3 (d := dd_Board____init__) rfl
  obtain ⟨_, F_Board____init__, _⟩ := inAt_of (st := st_Board____init__) X Gs D_3 (c.t.d.fact 77 (f := .glo "Board") rfl) (c.t.d.fact 3 (f := .mkr "Board") rfl)
  have d_Board____init__ := K15.d_Board____init__ T F_Board____init__ 
  obtain ⟨fd_4, D_4⟩ := c.t.d.def_ 4 (d := dd_are_prices) rfl
  have F_are_prices : FnAt G "are_prices" st_are_prices (.ref (He.cT G.K ("are_prices", none)).1) := fnAt_tab (st := st_are_prices) X Gs D_4 (c.t.d.fact 4 (f := .glo "are_prices") rfl)
  have m_are_prices : He.cT G.K ("are_prices", none) ∈ tgL.map (He.cT G.K) := List.mem_map.mpr ⟨("are_prices", none), by simp [tgL], rfl⟩
  have mt_are_prices : He.cT G.K ("are_prices", none) ∈ tfL.map (He.cT G.K) := List.mem_map.mpr ⟨("are_prices", none), by simp [tfL], rfl⟩
  have p_are_prices : (He.cT G.K ("are_prices", none)).2 ∈ G.Ps := by rw [hPs]; exact List.mem_map.mpr ⟨_, m_are_prices, rfl⟩
  have d_are_prices := K15.d_are_prices p_are_prices (tabB_of (tb _ mt_are_prices)) T F_are_prices d_is_whole
  obtain ⟨fd_5, D_5⟩ := c.t.d.def_ 5 (d := dd_House____init__) rfl
  obtain ⟨_, F_House____init__⟩ := inAtK_of (st := st_House____init__) X Gs D_5 (c.t.d.fact 79 (f := .glo "House") rfl) (c.t.d.fact 5 (f := .mkr "House") rfl)
  have d_House____init__ := K15.d_House____init__ T F_House____init__ d_Board____init__ d_are_prices d_is_leak
  obtain ⟨fd_6, D_6⟩ := c.t.d.def_ 6 (d := dd_is_name) rfl
  have F_is_name : FnAt G "is_name" st_is_name (.ref (He.cT G.K ("is_name", none)).1) := fnAt_tab (st := st_is_name) X Gs D_6 (c.t.d.fact 6 (f := .glo "is_name") rfl)
  have m_is_name : He.cT G.K ("is_name", none) ∈ tgL.map (He.cT G.K) := List.mem_map.mpr ⟨("is_name", none), by simp [tgL], rfl⟩
  have mt_is_name : He.cT G.K ("is_name", none) ∈ tfL.map (He.cT G.K) := List.mem_map.mpr ⟨("is_name", none), by simp [tfL], rfl⟩
  have p_is_name : (He.cT G.K ("is_name", none)).2 ∈ G.Ps := by rw [hPs]; exact List.mem_map.mpr ⟨_, m_is_name, rfl⟩
  have d_is_name := K15.d_is_name p_is_name (tabB_of (tb _ mt_is_name)) T F_is_name 
  obtain ⟨fd_7, D_7⟩ := c.t.d.def_ 7 (d := dd_is_tuple_of) rfl
  obtain ⟨_, F_is_tuple_of, _⟩ := fnAt_of (st := st_is_tuple_of) X Gs D_7 (c.t.d.fact 7 (f := .glo "is_tuple_of") rfl)
  have d_is_tuple_of := K15.d_is_tuple_of T F_is_tuple_of 
  obtain ⟨fd_8, D_8⟩ := c.t.d.def_ 8 (d := dd_is_place) rfl
  have F_is_place : FnAt G "is_place" st_is_place (.ref (He.cT G.K ("is_place", none)).1) := fnAt_tab (st := st_is_place) X Gs D_8 (c.t.d.fact 8 (f := .glo "is_place") rfl)
  have m_is_place : He.cT G.K ("is_place", none) ∈ tgL.map (He.cT G.K) := List.mem_map.mpr ⟨("is_place", none), by simp [tgL], rfl⟩
  have mt_is_place : He.cT G.K ("is_place", none) ∈ tfL.map (He.cT G.K) := List.mem_map.mpr ⟨("is_place", none), by simp [tfL], rfl⟩
  have p_is_place : (He.cT G.K ("is_place", none)).2 ∈ G.Ps := by rw [hPs]; exact List.mem_map.mpr ⟨_, m_is_place, rfl⟩
  have d_is_place := K15.d_is_place p_is_place (tabB_of (tb _ mt_is_place)) T F_is_place d_is_tuple_of d_is_whole
  obtain ⟨fd_9, D_9⟩ := c.t.d.def_ 9 (d := dd_is_need) rfl
  obtain ⟨_, F_is_need, _⟩ := fnAt_of (st := st_is_need) X Gs D_9 (c.t.d.fact 9 (f := .glo "is_need") rfl)
  have d_is_need := K15.d_is_need T F_is_need d_is_whole
  obtain ⟨fd_10, D_10⟩ := c.t.d.def_ 10 (d := dd_is_power) rfl
  obtain ⟨_, F_is_power, _⟩ := fnAt_of (st := st_is_power) X Gs D_10 (c.t.d.fact 10 (f := .glo "is_power") rfl)
  have d_is_power := K15.d_is_power T F_is_power d_is_whole
  obtain ⟨fd_11, D_11⟩ := c.t.d.def_ 11 (d := dd_check_power) rfl
  obtain ⟨_, F_check_power, _⟩ := fnAt_of (st := st_check_power) X Gs D_11 (c.t.d.fact 11 (f := .glo "check_power") rfl)
  have d_check_power := K15.d_check_power T F_check_power d_is_power
  obtain ⟨fd_12, D_12⟩ := c.t.d.def_ 12 (d := dd_check_parts) rfl
  obtain ⟨_, F_check_parts, _⟩ := fnAt_of (st := st_check_parts) X Gs D_12 (c.t.d.fact 12 (f := .glo "check_parts") rfl)
  have d_check_parts := K15.d_check_parts T F_check_parts d_check_power d_is_need d_is_place
  obtain ⟨fd_13, D_13⟩ := c.t.d.def_ 13 (d := dd_Deed____init__) rfl
  obtain ⟨_, F_Deed____init__, _⟩ := inAt_of (st := st_Deed____init__) X Gs D_13 (c.t.d.fact 81 (f := .glo "Deed") rfl) (c.t.d.fact 13 (f := .mkr "Deed") rfl)
  have d_Deed____init__ := K15.d_Deed____init__ T F_Deed____init__ 
  obtain ⟨fd_14, D_14⟩ := c.t.d.def_ 14 (d := dd_Deed____enter__) rfl
  obtain ⟨_, F_Deed____enter__, _⟩ := meAt_of (st := st_Deed____enter__) X Gs D_14 (c.t.d.fact 81 (f := .glo "Deed") rfl) (c.t.d.fact 82 (f := .cls "Deed") rfl) (c.t.d.fact 14 (f := .meth "Deed" "__enter__") rfl)
  have d_Deed____enter__ := K15.d_Deed____enter__ T F_Deed____enter__ 
  obtain ⟨fd_15, D_15⟩ := c.t.d.def_ 15 (d := dd_Deed____exit__) rfl
  obtain ⟨_, F_Deed____exit__, _⟩ := meAt_of (st := st_Deed____exit__) X Gs D_15 (c.t.d.fact 81 (f := .glo "Deed") rfl) (c.t.d.fact 82 (f := .cls "Deed") rfl) (c.t.d.fact 15 (f := .meth "Deed" "__exit__") rfl)
  have d_Deed____exit__ := K15.d_Deed____exit__ T F_Deed____exit__ 
  obtain ⟨fd_16, D_16⟩ := c.t.d.def_ 16 (d := dd_House__station) rfl
  obtain ⟨_, F_House__station, _⟩ := meAt_of (st := st_House__station) X Gs D_16 (c.t.d.fact 79 (f := .glo "House") rfl) (c.t.d.fact 80 (f := .cls "House") rfl) (c.t.d.fact 16 (f := .meth "House" "station") rfl)
  have d_House__station := K15.d_House__station T F_House__station d_Deed____enter__ d_Deed____exit__ d_Deed____init__ d_check_parts d_is_name
  obtain ⟨fd_17, D_17⟩ := c.t.d.def_ 17 (d := dd_Licence____init__) rfl
  obtain ⟨_, F_Licence____init__, _⟩ := inAt_of (st := st_Licence____init__) X Gs D_17 (c.t.d.fact 83 (f := .glo "Licence") rfl) (c.t.d.fact 17 (f := .mkr "Licence") rfl)
  have d_Licence____init__ := K15.d_Licence____init__ T F_Licence____init__ 
  obtain ⟨fd_18, D_18⟩ := c.t.d.def_ 18 (d := dd_Board__give) rfl
  obtain ⟨_, F_Board__give, _⟩ := meAt_of (st := st_Board__give) X Gs D_18 (c.t.d.fact 77 (f := .glo "Board") rfl) (c.t.d.fact 78 (f := .cls "Board") rfl) (c.t.d.fact 18 (f := .meth "Board" "give") rfl)
  have d_Board__give := K15.d_Board__give T F_Board__give 
  obtain ⟨fd_19, D_19⟩ := c.t.d.def_ 19 (d := dd_House__check_station) rfl
  obtain ⟨_, F_House__check_station, _⟩ := meAt_of (st := st_House__check_station) X Gs D_19 (c.t.d.fact 79 (f := .glo "House") rfl) (c.t.d.fact 80 (f := .cls "House") rfl) (c.t.d.fact 19 (f := .meth "House" "check_station") rfl)
  have d_House__check_station := K15.d_House__check_station T F_House__check_station d_is_name
  obtain ⟨fd_20, D_20⟩ := c.t.d.def_ 20 (d := dd_House__check_hours) rfl
  obtain ⟨_, F_House__check_hours, _⟩ := meAt_of (st := st_House__check_hours) X Gs D_20 (c.t.d.fact 79 (f := .glo "House") rfl) (c.t.d.fact 80 (f := .cls "House") rfl) (c.t.d.fact 20 (f := .meth "House" "check_hours") rfl)
  have d_House__check_hours := K15.d_House__check_hours T F_House__check_hours d_is_whole
  obtain ⟨fd_21, D_21⟩ := c.t.d.def_ 21 (d := dd_Board__band_of) rfl
  obtain ⟨_, F_Board__band_of, _⟩ := meAt_of (st := st_Board__band_of) X Gs D_21 (c.t.d.fact 77 (f := .glo "Board") rfl) (c.t.d.fact 78 (f := .cls "Board") rfl) (c.t.d.fact 21 (f := .meth "Board" "band_of") rfl)
  have d_Board__band_of := K15.d_Board__band_of T F_Board__band_of 
  obtain ⟨fd_22, D_22⟩ := c.t.d.def_ 22 (d := dd_House__check_free) rfl
  obtain ⟨_, F_House__check_free, _⟩ := meAt_of (st := st_House__check_free) X Gs D_22 (c.t.d.fact 79 (f := .glo "House") rfl) (c.t.d.fact 80 (f := .cls "House") rfl) (c.t.d.fact 22 (f := .meth "House" "check_free") rfl)
  have d_House__check_free := K15.d_House__check_free T F_House__check_free d_Board__band_of
  obtain ⟨fd_23, D_23⟩ := c.t.d.def_ 23 (d := dd_seat) rfl
  obtain ⟨_, F_seat, _⟩ := fnAt_of (st := st_seat) X Gs D_23 (c.t.d.fact 23 (f := .glo "seat") rfl)
  have d_seat := K15.d_seat T F_seat 
  obtain ⟨fd_24, D_24⟩ := c.t.d.def_ 24 (d := dd_spread) rfl
  obtain ⟨_, F_spread, _⟩ := fnAt_of (st := st_spread) X Gs D_24 (c.t.d.fact 24 (f := .glo "spread") rfl)
  have d_spread := K15.d_spread T F_spread 
  obtain ⟨fd_25, D_25⟩ := c.t.d.def_ 25 (d := dd_ear) rfl
  obtain ⟨_, F_ear, _⟩ := fnAt_of (st := st_ear) X Gs D_25 (c.t.d.fact 25 (f := .glo "ear") rfl)
  have d_ear := K15.d_ear T F_ear d_spread
  obtain ⟨fd_26, D_26⟩ := c.t.d.def_ 26 (d := dd_ears_of) rfl
  obtain ⟨_, F_ears_of, _⟩ := fnAt_of (st := st_ears_of) X Gs D_26 (c.t.d.fact 26 (f := .glo "ears_of") rfl)
  have d_ears_of := K15.d_ears_of T F_ears_of d_ear
  obtain ⟨fd_27, D_27⟩ := c.t.d.def_ 27 (d := dd_gap) rfl
  obtain ⟨_, F_gap, _⟩ := fnAt_of (st := st_gap) X Gs D_27 (c.t.d.fact 27 (f := .glo "gap") rfl)
  have d_gap := K15.d_gap T F_gap 
  obtain ⟨fd_28, D_28⟩ := c.t.d.def_ 28 (d := dd_hears) rfl
  obtain ⟨_, F_hears, _⟩ := fnAt_of (st := st_hears) X Gs D_28 (c.t.d.fact 28 (f := .glo "hears") rfl)
  have d_hears := K15.d_hears T F_hears d_gap
  obtain ⟨fd_29, D_29⟩ := c.t.d.def_ 29 (d := dd_first_unheard) rfl
  obtain ⟨_, F_first_unheard, _⟩ := fnAt_of (st := st_first_unheard) X Gs D_29 (c.t.d.fact 29 (f := .glo "first_unheard") rfl)
  have d_first_unheard := K15.d_first_unheard T F_first_unheard d_hears
  obtain ⟨fd_30, D_30⟩ := c.t.d.def_ 30 (d := dd_all_heard) rfl
  obtain ⟨_, F_all_heard, _⟩ := fnAt_of (st := st_all_heard) X Gs D_30 (c.t.d.fact 30 (f := .glo "all_heard") rfl)
  have d_all_heard := K15.d_all_heard T F_all_heard d_first_unheard
  obtain ⟨fd_31, D_31⟩ := c.t.d.def_ 31 (d := dd_retuned) rfl
  obtain ⟨_, F_retuned, _⟩ := fnAt_of (st := st_retuned) X Gs D_31 (c.t.d.fact 31 (f := .glo "retuned") rfl)
  have d_retuned := K15.d_retuned T F_retuned 
  obtain ⟨fd_32, D_32⟩ := c.t.d.def_ 32 (d := dd_Board__tuning_in) rfl
  obtain ⟨_, F_Board__tuning_in, _⟩ := meAt_of (st := st_Board__tuning_in) X Gs D_32 (c.t.d.fact 77 (f := .glo "Board") rfl) (c.t.d.fact 78 (f := .cls "Board") rfl) (c.t.d.fact 32 (f := .meth "Board" "tuning_in") rfl)
  have d_Board__tuning_in := K15.d_Board__tuning_in T F_Board__tuning_in d_Board__band_of
  obtain ⟨fd_33, D_33⟩ := c.t.d.def_ 33 (d := dd_House__least_band) rfl
  have F_House__least_band : MeAt G "House" "least_band" "House.least_band" st_House__least_band (.ref (He.cT G.K ("House", some "least_band")).1) := meAt_tab (st := st_House__least_band) X Gs D_33 (c.t.d.fact 79 (f := .glo "House") rfl) (c.t.d.fact 80 (f := .cls "House") rfl) (c.t.d.fact 33 (f := .meth "House" "least_band") rfl)
  have m_House__least_band : He.cT G.K ("House", some "least_band") ∈ tgL.map (He.cT G.K) := List.mem_map.mpr ⟨("House", some "least_band"), by simp [tgL], rfl⟩
  have mt_House__least_band : He.cT G.K ("House", some "least_band") ∈ tfL.map (He.cT G.K) := List.mem_map.mpr ⟨("House", some "least_band"), by simp [tfL], rfl⟩
  have p_House__least_band : (He.cT G.K ("House", some "least_band")).2 ∈ G.Ps := by rw [hPs]; exact List.mem_map.mpr ⟨_, m_House__least_band, rfl⟩
  have d_House__least_band := K15.d_House__least_band p_House__least_band (tabB_of (tb _ mt_House__least_band)) T F_House__least_band d_Board__tuning_in d_all_heard d_ears_of d_retuned d_seat
  obtain ⟨fd_34, D_34⟩ := c.t.d.def_ 34 (d := dd_House__ask) rfl
  obtain ⟨_, F_House__ask, _⟩ := meAt_of (st := st_House__ask) X Gs D_34 (c.t.d.fact 79 (f := .glo "House") rfl) (c.t.d.fact 80 (f := .cls "House") rfl) (c.t.d.fact 34 (f := .meth "House" "ask") rfl)
  have d_House__ask := K15.d_House__ask T F_House__ask d_Board__give d_Deed____enter__ d_Deed____exit__ d_Deed____init__ d_House__check_free d_House__check_hours d_House__check_station d_House__least_band d_Licence____init__
  obtain ⟨fd_35, D_35⟩ := c.t.d.def_ 35 (d := dd_House__stations) rfl
  obtain ⟨_, F_House__stations, _⟩ := meAt_of (st := st_House__stations) X Gs D_35 (c.t.d.fact 79 (f := .glo "House") rfl) (c.t.d.fact 80 (f := .cls "House") rfl) (c.t.d.fact 35 (f := .meth "House" "stations") rfl)
  have d_House__stations := K15.d_House__stations T F_House__stations 
  obtain ⟨fd_36, D_36⟩ := c.t.d.def_ 36 (d := dd_Board__hours_of) rfl
  obtain ⟨_, F_Board__hours_of, _⟩ := meAt_of (st := st_Board__hours_of) X Gs D_36 (c.t.d.fact 77 (f := .glo "Board") rfl) (c.t.d.fact 78 (f := .cls "Board") rfl) (c.t.d.fact 36 (f := .meth "Board" "hours_of") rfl)
  have d_Board__hours_of := K15.d_Board__hours_of T F_Board__hours_of 
  obtain ⟨fd_37, D_37⟩ := c.t.d.def_ 37 (d := dd_House__licences) rfl
  obtain ⟨_, F_House__licences, _⟩ := meAt_of (st := st_House__licences) X Gs D_37 (c.t.d.fact 79 (f := .glo "House") rfl) (c.t.d.fact 80 (f := .cls "House") rfl) (c.t.d.fact 37 (f := .meth "House" "licences") rfl)
  have d_House__licences := K15.d_House__licences T F_House__licences d_Board__hours_of
  obtain ⟨fd_38, D_38⟩ := c.t.d.def_ 38 (d := dd_House__sending) rfl
  obtain ⟨_, F_House__sending, _⟩ := meAt_of (st := st_House__sending) X Gs D_38 (c.t.d.fact 79 (f := .glo "House") rfl) (c.t.d.fact 80 (f := .cls "House") rfl) (c.t.d.fact 38 (f := .meth "House" "sending") rfl)
  have d_House__sending := K15.d_House__sending T F_House__sending d_Board__tuning_in d_is_whole
  obtain ⟨fd_39, D_39⟩ := c.t.d.def_ 39 (d := dd_House__owed) rfl
  obtain ⟨_, F_House__owed, _⟩ := meAt_of (st := st_House__owed) X Gs D_39 (c.t.d.fact 79 (f := .glo "House") rfl) (c.t.d.fact 80 (f := .cls "House") rfl) (c.t.d.fact 39 (f := .meth "House" "owed") rfl)
  have d_House__owed := K15.d_House__owed T F_House__owed d_House__check_station
  obtain ⟨fd_40, D_40⟩ := c.t.d.def_ 40 (d := dd__law_bag) rfl
  obtain ⟨_, F__law_bag, _⟩ := fnAt_of (st := st__law_bag) X Gs D_40 (c.t.d.fact 40 (f := .glo "_law_bag") rfl)
  have d__law_bag := K15.d__law_bag T F__law_bag 
  obtain ⟨fd_41, D_41⟩ := c.t.d.def_ 41 (d := dd__law_take) rfl
  obtain ⟨_, F__law_take, _⟩ := fnAt_of (st := st__law_take) X Gs D_41 (c.t.d.fact 41 (f := .glo "_law_take") rfl)
  have d__law_take := K15.d__law_take T F__law_take 
  obtain ⟨fd_42, D_42⟩ := c.t.d.def_ 42 (d := dd__law_of) rfl
  obtain ⟨_, F__law_of, _⟩ := fnAt_of (st := st__law_of) X Gs D_42 (c.t.d.fact 42 (f := .glo "_law_of") rfl)
  have d__law_of := K15.d__law_of T F__law_of d__law_take
  obtain ⟨fd_43, D_43⟩ := c.t.d.def_ 43 (d := dd__law_stations) rfl
  obtain ⟨_, F__law_stations, _⟩ := fnAt_of (st := st__law_stations) X Gs D_43 (c.t.d.fact 43 (f := .glo "_law_stations") rfl)
  have d__law_stations := K15.d__law_stations T F__law_stations d__law_take
  obtain ⟨fd_44, D_44⟩ := c.t.d.def_ 44 (d := dd_is_heard) rfl
  obtain ⟨_, F_is_heard, _⟩ := fnAt_of (st := st_is_heard) X Gs D_44 (c.t.d.fact 44 (f := .glo "is_heard") rfl)
  have d_is_heard := K15.d_is_heard T F_is_heard d_ear d_hears d_seat
  obtain ⟨fd_45, D_45⟩ := c.t.d.def_ 45 (d := dd_unheard) rfl
  obtain ⟨_, F_unheard, _⟩ := fnAt_of (st := st_unheard) X Gs D_45 (c.t.d.fact 45 (f := .glo "unheard") rfl)
  have d_unheard := K15.d_unheard T F_unheard d_is_heard
  obtain ⟨fd_46, D_46⟩ := c.t.d.def_ 46 (d := dd__law_least) rfl
  obtain ⟨_, F__law_least, _⟩ := fnAt_of (st := st__law_least) X Gs D_46 (c.t.d.fact 46 (f := .glo "_law_least") rfl)
  have d__law_least := K15.d__law_least T F__law_least d_House__sending d_House__stations d_unheard
  obtain ⟨fd_47, D_47⟩ := c.t.d.def_ 47 (d := dd_law) rfl
  exact ⟨T, d_House____init__, d_House__ask, d_House__licences, d_House__owed, d_House__sending, d_House__station, d_House__stations, d__law_bag, d__law_least, d__law_of, d__law_stations, d__law_take⟩
end
end K15
set_option Elab.async false
set_option linter.all false
set_option maxRecDepth 100000
set_option maxHeartbeats 0
namespace K15
open PySem PySem.Spec PyProof.Rows L2 GxR LG EL FW
theorem lawFn {G : G0} {fd : FuncData} (D : FunD G.K "law" "law" (defArgs st_law) (defBody st_law) (defScope st_law) [] [] (He.ga G.K "law") fd) (T : T0 G) (d_House____init__ : DefIK G 5 "House" 1 ["leak"] fn_House____init__) (d_House__ask : DefM G 7 "House" "ask" 4 fn_House__ask) (d_House__licences : DefM G 2 "House" "licences" 1 fn_House__licences) (d_House__owed : DefM G 4 "House" "owed" 2 fn_House__owed) (d_House__sending : DefM G 3 "House" "sending" 2 fn_House__sending) (d_House__station : DefM G 6 "House" "station" 6 fn_House__station) (d_House__stations : DefM G 1 "House" "stations" 1 fn_House__stations) (d__law_bag : Def G 1 "_law_bag" 2 (fn__law_bag)) (d__law_least : Def G 5 "_law_least" 6 (fn__law_least)) (d__law_of : Def G 2 "_law_of" 2 (fn__law_of)) (d__law_stations : Def G 2 "_law_stations" 2 (fn__law_stations)) (d__law_take : Def G 1 "_law_take" 2 (fn__law_take)) : FnOk G.P G.w G.K G.mg G.base CX0 8 (He.ga G.K "law") fd ["script"] (spD G 1 fn_law) := by
  have hh := fn_atD (G := G) (W := W0) (k := 7) (name := "law") (st := st_law) (sb := sb_law) D sc_law (fun cdv => b_law (cdv := cdv) T d_House____init__ d_House__ask d_House__licences d_House__owed d_House__sending d_House__station d_House__stations d__law_bag d__law_least d__law_of d__law_stations d__law_take)
  exact hh
end K15
set_option Elab.async false
set_option linter.all false
set_option maxRecDepth 100000
set_option maxHeartbeats 0
namespace K15
open PySem PySem.Spec PyProof.Rows L2 GxR LG EL FW
theorem lawAt {w : World} {K : PySem.W.Frag} {mg : Str → Option Value} {fa : Addr} {h : Heap} (math : ∀ ns : List Int, ns.length ≤ 63 → (∀ z ∈ ns, Builtin.Int.intBits z ≤ 1048576) → ∃ st', fn_law [.scr ns] [] = some (.bl true, st')) (X : K.In h) (Gs : h.Ns mainGlobals mg) (hmg : mg ("law" : Str) = some (.ref fa))
    (cy : SaysY faL fnL tfL inL exL w h K) : LamX.LawAtS PySem.Challenge.rw_wavehall_k15_whole_whoever_is_refused_co w K CX0 8 63 "script" mg fa h := by
  have c := cy.x
  have hfact := c.t.d.fact 47 (f := .glo "law") rfl
  obtain ⟨fd, D⟩ := c.t.d.def_ 47 (d := dd_law) rfl
  have e := hmg.symm.trans (He.glo_ok X Gs hfact)
  cases e
  have hb := FunD.bindsA (ps := ["script"]) D fun _ _ _ _ _ _ us hl => match us, hl with | [_], _ => rfl
  refine ⟨fd, tfL.map (He.cT K), spLaw K (tfL.map (He.cT K)), fun p hp => ?_, fun p hp => ?_, fun p hp => ?_, fun s v => hb s [v] rfl, fun H a ns h1 h2 h3 h4 => ⟨a, ns, rfl, h4, h1, h2, h3, fun _ => rfl⟩, fun base kb nb tb => ?_⟩
  · obtain ⟨x, hx, rfl⟩ := List.mem_map.mp hp
    exact c.empty x hx
  · obtain ⟨x, hx, rfl⟩ := List.mem_map.mp hp
    exact c.out x hx
  · obtain ⟨x, hx, rfl⟩ := List.mem_map.mp hp
    exact PySem.W.codeHd_of_K X (c.hd x hx)
  · refine law_fn (tg := (tgL.map (He.cT K)).map (fun p : Addr × Addr => p.2)) (tl := []) (fun P hP => by
      obtain ⟨p, hp, rfl⟩ := List.mem_map.mp hP
      obtain ⟨x, hx, rfl⟩ := List.mem_map.mp hp
      exact List.mem_map.mpr ⟨_, List.mem_map.mpr ⟨x, (by revert hx; simp [tgL, tfL]; try (intro hx; simp_all)), rfl⟩, rfl⟩)
      (fun p hp => by simp at hp)
      (fun p hp => by simp at hp) fun a ns h1 h2 => ?_
    obtain ⟨T, d_House____init__, d_House__ask, d_House__licences, d_House__owed, d_House__sending, d_House__station, d_House__stations, d__law_bag, d__law_least, d__law_of, d__law_stations, d__law_take⟩ := facts (G := (⟨PySem.Challenge.rw_wavehall_k15_whole_whoever_is_refused_co.prog, w, mg, base, K, (tgL.map (He.cT K)).map (fun p : Addr × Addr => p.2), []⟩ : G0)) (h := h) (w := w) X Gs cy rfl rfl tb
    obtain ⟨st', em⟩ := math ns h1 h2
    exact ⟨_, st', lawFn (G := (⟨PySem.Challenge.rw_wavehall_k15_whole_whoever_is_refused_co.prog, w, mg, base, K, (tgL.map (He.cT K)).map (fun p : Addr × Addr => p.2), []⟩ : G0)) D T d_House____init__ d_House__ask d_House__licences d_House__owed d_House__sending d_House__station d_House__stations d__law_bag d__law_least d__law_of d__law_stations d__law_take, em⟩
end K15
set_option Elab.async false
set_option linter.all false
set_option maxRecDepth 100000
set_option maxHeartbeats 0
namespace K15
open PySem PySem.Spec PyProof.Rows L2 GxR LG EL FW
theorem walkL (math : ∀ ns : List Int, ns.length ≤ 63 → (∀ z ∈ ns, Builtin.Int.intBits z ≤ 1048576) → ∃ st', fn_law [.scr ns] [] = some (.bl true, st')) : PySem.W.WalkO (PySem.W.view RR.prog [66]) looseL (PySem.W.XL (PySem.W.view RR.prog [66]) []) hkL.says RR.toRowW (HandSHeadRun.topDef RR.prog 66) [] (fun f vs => PySem.call f vs) := by
  refine LamX.walk_ofTsE (l := PySem.Challenge.rw_wavehall_k15_whole_whoever_is_refused_co) (n := 63) (k := 8) (x := "script") (CX := fun _ => CX0) rfl (by decide) (by kernel_rfl) ⟨rfl, by decide, by decide⟩ ?F (fun _ _ _ _ _ z => z)
  intro w mg fa h Y G hmg0
  obtain ⟨K, KX, c⟩ := Y
  have hmg : mg ("law" : PySem.Str) = some (.ref fa) := by
    have e : (HandSHeadRun.topDef RR.prog 66).name = ("law" : PySem.Str) := by kernel_rfl
    rw [← e]
    exact hmg0
  exact ⟨K, KX, lawAt math KX G hmg c⟩
theorem holds (math : ∀ ns : List Int, ns.length ≤ 63 → (∀ z ∈ ns, Builtin.Int.intBits z ≤ 1048576) → ∃ st', fn_law [.scr ns] [] = some (.bl true, st')) : PySem.Challenge.rw_wavehall_k15_whole_whoever_is_refused_co.Holds := by
  w_on; o_law
  refine HandSHeadRun.head_any (r := RR) (q := PySem.W.view RR.prog [66]) (H := hkL) (ob := obL) (M := 20000) (loose := looseL) (d := HandSHeadRun.topDef RR.prog 66) (kwd := []) ob_eq
    (by kernel_rfl) (fun s => by kernel_rfl) runL (by kernel_rfl) (by kernel_rfl) (by kernel_rfl) (by rfl) (by first | assumption | decide +kernel) (by decide +kernel) ⟨rfl, rfl, rfl, rfl, rfl, by decide +kernel⟩ ?hw (walkL math)
  case hw => w_witness2
end K15
theorem PySem.Challenge.cw_wavehall_k15_whole_whoever_is_refused_co_holds : PySem.Challenge.rw_wavehall_k15_whole_whoever_is_refused_co.Holds := by
  exact K15.holds fun ns hz _ => K15.math hz
