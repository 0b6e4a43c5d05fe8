import PyProof.Rows.All
import Wide.All
import OpenK.AllK
import Wide.FinOn
import PySem.Challenge.RW_wavehall_k10_whole_no_row_of_moves_is_sh
import HandS.ForMost
import HandS.AnyAll
import HandS.GenList
import HandS.Nested
import HandS.Exc
import HandS.Lambda
import HandS.TupAny
import HandS.Wide
import HandS.IsInst
import HandS.Zip
import HandS.Style
import HandS.Flow
import PyProof.Rows.IntBool
import HandS.Deep
import KE.KRevSl
import HandS.TupSets
import KE.SortData
import PyProof.ZipIter
import HandS.Zip0
import PyProof.TupleOfGen
import PyProof.CollectWalk
import HandS.TupMul
import HandS.Star
import HandS.Head0
import HandS.Head1
import HandS.Head2
import HandS.HeadEnd
import HandS.HeadHook1
import HandS.HeadHook2
import HandS.HeadHook3
import HandS.HeadHook4
import HandS.HeadWalk
import HandS.EndTab
import HandS.ExcInit
import HandS.ExcSuper
import KE.KExcSuper
import KE.KSuperObj
import KE.KSuper
import HandS.FStr
import HandS.ExcField
import HandS.ExcIs
import KE.KIsNot
import KE.DataMinMax
import HandS.Dict
import PyProof.DictTable
import HandS.MakeKwOnly
import KE.KWithOwn
import HandS.SetBool
import HandS.More
import HandS.Conv
import PyProof.Rows.StrMeet
import HandS.DictComp
import KE.KDictPairs
set_option Elab.async false
set_option linter.all false
set_option maxRecDepth 100000
set_option maxHeartbeats 2000000
namespace LG
open PySem PySem.Spec PyProof.Rows L2 GenW GxR
/-- a truth is handed out -/
def YT (a : Addr) (g : Nat) (Post : Bool → Shared → Prop) : Protocol := fun n s₀ v s1 kap =>
  ∃ b, v = .bool b ∧ AllBare s1.gens ∧ s1.heap.NoLimit ∧ s1.heap.IsGen a g ∧
    (b = true → ∀ s' : Shared, s'.heap = s1.heap → s'.os = s1.os → AllBare s'.gens → kap (.send .none) s') ∧
    (b = false → ∀ s' : Shared, s'.heap = s1.heap → s'.os = s1.os → AllBare s'.gens → Post false s')
def RT (Post : Bool → Shared → Prop) (s1 : Shared) : Prop :=
  AllBare s1.gens ∧ ∀ s' : Shared, (∀ b o, s1.heap.get? b = some o → s'.heap.get? b = some o) → s'.os = s1.os → AllBare s'.gens → Post true s'
theorem all_loud {P : Program} {w : World} {A : Around} {R : Result → Shared → Prop} {a : Addr} {g : Nat} {Post : Bool → Shared → Prop} (hh : A.handled = none) (hd : A.depth < recursionLimit)
    (hend : ∀ b s', Post b s' → R (.ok (.ret (.bool b))) s') :
    ∀ (m : Nat) (s : Shared), s.heap.IsGen a g → s.heap.NoLimit →
      (∃ gs, s.gens[g]? = some gs ∧ gs.Goes (model P w) A.in1.in1 (fun n s₀ r s₁ => r = .ok .next ∧ RT Post s₁) (YT a g Post) m (.send .none) (s.setGen g .running)) →
      codeAny (model P w) A (.builtin "all.loop" ⟨[.ref a], []⟩) R s := by
  intro m
  induction m with
  | zero =>
    intro s hg hl ⟨gs, hgs, hgo⟩
    refine codeAny_builtin F.entry_all_loop ?_
    rw [Around.under_plainId F.plain_all_loop _]
    show wpAny _ A.in1 (pyNext (.ref a) >>= _) _ _ s
    refine wpAny_bind (wpAny_pyNext_genexpQ (A := A.in1) (P := fun _ _ s₁ => RT Post s₁) hh hl hd hg hgs hgo (fun v s₁ gs' hb hv => ?_) (fun s₁ hp h' hk => ?_))
    · obtain ⟨b, rfl, hb1, hl1, hg1, ht, hf⟩ := hv
      refine wpAny_bind (wpAny_holding (wpAny_truthy_bool ?_))
      refine wpAny_bind (wpAny_letGo ?_)
      cases b with
      | true => exact (ht rfl s₁ rfl rfl hb1).elim
      | false =>
        simp only [Bool.false_eq_true, if_false]
        refine wpAny_bind (wpAny_rule (wpAny_pure ?_))
        exact hend _ _ (hf rfl _ rfl rfl (allBare_setGen hb1 hb))
    · refine wpAny_bind (wpAny_rule (wpAny_pure ?_))
      exact hend _ _ (hp.2 _ hk rfl (allBare_setGen (s := s₁) hp.1 rfl))
  | succ m ih =>
    intro s hg hl ⟨gs, hgs, hgo⟩
    have hgl : g < s.gens.size := (Array.getElem?_eq_some_iff.mp hgs).1
    refine codeAny_builtin F.entry_all_loop ?_
    rw [Around.under_plainId F.plain_all_loop _]
    show wpAny _ A.in1 (pyNext (.ref a) >>= _) _ _ s
    refine wpAny_bind (wpAny_gsz (n := g + 1) hgl (wpAny_pyNext_genexpQ (A := A.in1) (P := fun _ _ s₁ => RT Post s₁) hh hl hd hg hgs hgo (fun v s₁ gs' hb hv => ?_) (fun s₁ hp h' hk => ?_)))
    · intro hsz
      obtain ⟨b, rfl, hb1, hl1, hg1, ht, hf⟩ := hv
      have hsz1 : g < s₁.gens.size := by
        have q : (s₁.setGen g gs').gens.size = s₁.gens.size := setGen_size _ _ _
        have hsz' : g + 1 ≤ (s₁.setGen g gs').gens.size := hsz
        omega
      refine wpAny_bind (wpAny_holding (wpAny_truthy_bool ?_))
      refine wpAny_bind (wpAny_letGo ?_)
      cases b with
      | true =>
        simp only [if_true]
        refine wpAny_pure ⟨plainId_quiet F.plain_all_loop _, ih _ hg1 hl1 ⟨gs', setGen_at hsz1, ?_⟩⟩
        exact ht rfl _ rfl rfl (allBare_setGen (s := s₁.setGen g gs') (allBare_setGen hb1 hb) rfl)
      | false =>
        simp only [Bool.false_eq_true, if_false]
        refine wpAny_bind (wpAny_rule (wpAny_pure ?_))
        exact hend _ _ (hf rfl _ rfl rfl (allBare_setGen hb1 hb))
    · intro _
      refine wpAny_bind (wpAny_rule (wpAny_pure ?_))
      exact hend _ _ (hp.2 _ hk rfl (allBare_setGen (s := s₁) hp.1 rfl))
/-- the around of a generator expression's own frame -/
theorem over_gen {A : Around} {elt : Expr} {gs : List Comprehension} {sc : Scope} {pos : Pos} {it acc : Value} {env : Env} : A.over (.compLoop (.GeneratorExp elt gs sc pos) 0 it acc env) [] = A.deeper env := by
  obtain ⟨hd, d, fr, gu, u⟩ := A
  simp [Around.over, Around.deeper, marksOver, frameCount, unitsOf, envsOf, guardsOf, pushEnvs, pushGuards, Code.envs, Code.env?, Code.isFrame, Code.guards, Code.isGuard, Code.weight, Code.frames, Code.isCreation, Code.isCaller, Code.cUnits]
theorem over_gen0 {A : Around} {elt : Expr} {gs : List Comprehension} {sc : Scope} {pos : Pos} {it acc : Value} {env : Env} : A.over (.compStart (.GeneratorExp elt gs sc pos) 0 it acc env) [] = A.deeper env := by
  obtain ⟨hd, d, fr, gu, u⟩ := A
  simp [Around.over, Around.deeper, marksOver, frameCount, unitsOf, envsOf, guardsOf, pushEnvs, pushGuards, Code.envs, Code.env?, Code.isFrame, Code.guards, Code.isGuard, Code.weight, Code.frames, Code.isCreation, Code.isCaller, Code.cUnits]
end LG
set_option Elab.async false
set_option linter.all false
set_option maxRecDepth 100000
set_option maxHeartbeats 2000000
namespace LG
open PySem PySem.Spec PyProof.Rows L2 GenW GxR
/-- the turns of a generator expression drawn by all(..) -/
def Turns (J : It) (g : TG) (te : TE) (Fin : Bool → Hp → Prop) (W : Nat → Nat → L2.St → Hp → Prop) : Prop :=
  ∀ i m σ H, W i m σ H → (J.stop i H ∧ Fin true H) ∨
    (J.go i H ∧ ∀ x H', J.yld i H x H' → g x σ H' fun σ2 H2 => te σ2 H2 fun y H3 => ∃ b, y = .bl b ∧ if b = true then ∃ m', m' < m ∧ W (i + 1) m' σ2 H3 else Fin false H3)
section
variable {X : Cx} {Aw : Around} {elt iter tg : Expr} {scope : Scope} {gpos : Pos} {J : It} {fp : List Addr} {it a : Addr} {gn : Nat} {go : Obj} {tn : Nat → Heap → Prop} {g : TG} {te : TE} {Fin : Bool → Hp → Prop} {W : Nat → Nat → L2.St → Hp → Prop} {Post : Bool → Shared → Prop}
theorem seg_loop (hA : X.A = Aw.deeper X.env) (hxe : X.xe = fun _ _ => False) (hc : X.calm = true) (hco : X.env.scope.isCoroutine = false) (hpn : (a, go) ∈ X.pn) (hgo : ∀ h : Heap, h.get? a = some go → h.IsGen a gn)
    (T : Turn X.prog X.w X.K tg J fp it tn) (hg : PG X tg g) (he : PE X elt te) (hW : Turns J g te Fin W)
    (hPost : ∀ b σ H s s', Inv X [] σ H s → Fin b H → (∀ c o, s.heap.get? c = some o → s'.heap.get? c = some o) → s'.os = s.os → AllBare s'.gens → Post b s') :
    ∀ (n i m : Nat) (s₀ s : Shared) (σ : L2.St) (H : Hp), m < n → Inv X [] σ H s → tn i s.heap → (∀ b ∈ fp, FpOk X [] H b) → W i m σ H →
      Seg (model X.prog X.w) Aw (fun n s₀ r s₁ => r = .ok .next ∧ RT Post s₁) (YT a gn Post) n s₀ (.compLoop (.GeneratorExp elt [⟨tg, iter, [], 0⟩] scope gpos) 0 (.ref it) .none X.env)
        ((model X.prog X.w).den (.compLoop (.GeneratorExp elt [⟨tg, iter, [], 0⟩] scope gpos) 0 (.ref it) .none X.env)) [] s := by
  intro n
  induction n with
  | zero => intro i m s₀ s σ H hm; omega
  | succ n ih =>
    intro i m s₀ s σ H hm I ht hf w
    have hov : Aw.over (.compLoop (.GeneratorExp elt [⟨tg, iter, [], 0⟩] scope gpos) 0 (.ref it) .none X.env) [] = X.A := over_gen.trans hA.symm
    show Seg _ Aw _ _ _ s₀ _ ((compTurn (.GeneratorExp elt [⟨tg, iter, [], 0⟩] scope gpos) 0 (.ref it) .none X.env).onRaise (leaving X.env)) [] s
    rw [compTurn_gen, Sem.onRaise_eq_wrap]
    refine seg_bind_wrap (wpAny_standAt ?_)
    rcases hW i m σ H w with ⟨stop, fin⟩ | ⟨goes, step⟩
    · refine seg_bind_wrap ?_
      rw [hov]
      refine thn (T.done X rfl rfl rfl hc i [] s σ H _ I hf ht stop) fun r s1 ⟨hr, I1⟩ => ?_
      subst hr
      exact seg_end (.ok .next) ⟨rfl, I1.bare, fun s' hk ho hb => hPost true σ H s1 s' I1 fin hk ho hb⟩
    · refine seg_bind_wrap ?_
      rw [hov]
      refine thn (T.item X rfl rfl rfl hc i [] s σ H _ I hf ht goes) fun r s1 ⟨u, hr, h1⟩ => ?_
      subst hr
      refine seg_bind_wrap ?_
      rw [hov]
      refine thn h1 fun _ s2 ⟨x, H2, I2, rx, y2, ht2, fr2⟩ => ?_
      have hf2 : ∀ b ∈ fp, FpOk X [] H2 b := fun b hb => ⟨fr2 b hb, (hf b hb).2⟩
      have I2' := I2.pinned hf2 (T.obj _ _ ht2)
      refine seg_bind_wrap ?_
      rw [hov]
      refine wpAny_mono (hg.run _ s2 σ H2 x u _ I2' rx (step x H2 y2)) (fun _ s3 ⟨σ3, H3, I3, q3⟩ => ?_) fun e s' hx => by rw [hxe] at hx; exact hx.elim
      refine seg_bind_wrap ?_
      simp only [List.forIn_nil]
      refine wpAny_pure ?_
      have hy : ∀ v, yieldOut X.env v = yieldValue v := fun v => by simp only [yieldOut, hco, Bool.false_eq_true, if_false]
      simp only [if_true, hy]
      rw [Sem.bind_eq_wrap', Sem.bind_eq_wrap', Sem.wrap_wrap, Sem.wrap_wrap]
      refine seg_wrap ?_
      rw [hov]
      refine wpAny_mono (he.run _ s3 σ3 H3 _ I3 q3) (fun y s4 ⟨yv, H4, I4, r4, b, eb, q4⟩ => ?_) fun e s' hx => by rw [hxe] at hx; exact hx.elim
      subst eb
      obtain rfl : y = Value.bool b := r4
      have pin : ∀ c ∈ fp, ∀ o, s2.heap.get? c = some o → s4.heap.get? c = some o ∧ H4 c = none := fun c hcc o e =>
        let z := I4.pin (c, o) (List.mem_append_right _ (List.mem_append_right _ (mem_pinsAt hcc e)))
        ⟨z.1, z.2.1⟩
      have I5 : Inv X [] σ3 H4 s4 := I4.unpinned
      refine seg_at (seg_yield rfl rfl rfl ⟨b, rfl, I5.bare, I5.nolimit, hgo _ (I5.pin (a, go) (List.mem_append_left _ hpn)).1, fun hb s' h1 h2 h3 => ?_, fun hb s' h1 h2 h3 => ?_⟩)
      · subst hb
        rw [if_pos rfl] at q4
        obtain ⟨m', hm', w'⟩ := q4
        have I6 : Inv X [] σ3 H4 s' := I5.call' (ch := []) h2 (by rw [h1]; exact Un.refl) (by rw [h1]; exact I5.hok) h3 fun b z => by simp at z
        refine seg_again rfl (ih (i + 1) m' s' s' σ3 H4 (by omega) I6 (by rw [h1]; exact T.keep _ _ _ ht2 fun c hcc o e => (pin c hcc o e).1) (fun c hcc => ?_) w')
        obtain ⟨o, e, _⟩ := T.obj _ _ ht2 c hcc
        exact ⟨(pin c hcc o e).2, (hf c hcc).2⟩
      · subst hb
        rw [if_neg Bool.false_ne_true] at q4
        exact hPost false σ3 H4 s4 s' I5 q4 (fun c o e => by rw [h1]; exact e) h2 h3
theorem seg_start (hA : X.A = Aw.deeper X.env) (hxe : X.xe = fun _ _ => False) (hc : X.calm = true) (hco : X.env.scope.isCoroutine = false) (hpn : (a, go) ∈ X.pn) (hgo : ∀ h : Heap, h.get? a = some go → h.IsGen a gn)
    (T : Turn X.prog X.w X.K tg J fp it tn) (hg : PG X tg g) (he : PE X elt te) (hW : Turns J g te Fin W)
    (hPost : ∀ b σ H s s', Inv X [] σ H s → Fin b H → (∀ c o, s.heap.get? c = some o → s'.heap.get? c = some o) → s'.os = s.os → AllBare s'.gens → Post b s')
    (m : Nat) (s₀ s : Shared) (σ : L2.St) (H : Hp) (I : Inv X [] σ H s) (ht : tn 0 s.heap) (hf : ∀ b ∈ fp, FpOk X [] H b) (w : W 0 m σ H) :
    Seg (model X.prog X.w) Aw (fun n s₀ r s₁ => r = .ok .next ∧ RT Post s₁) (YT a gn Post) (m + 1) s₀ (.compStart (.GeneratorExp elt [⟨tg, iter, [], 0⟩] scope gpos) 0 (.ref it) .none X.env)
        ((model X.prog X.w).den (.compStart (.GeneratorExp elt [⟨tg, iter, [], 0⟩] scope gpos) 0 (.ref it) .none X.env)) [] s := by
  have hov : Aw.over (.compStart (.GeneratorExp elt [⟨tg, iter, [], 0⟩] scope gpos) 0 (.ref it) .none X.env) [] = X.A := over_gen0.trans hA.symm
  have loop := seg_loop (iter := iter) (scope := scope) (gpos := gpos) (gn := gn) hA hxe hc hco hpn hgo T hg he hW hPost (m + 1) 0 m s₀ s σ H (Nat.lt_succ_self m) I ht hf w
  show Seg _ Aw _ _ _ s₀ _ ((compStart (.GeneratorExp elt [⟨tg, iter, [], 0⟩] scope gpos) 0 (.ref it) .none X.env).onRaise (leaving X.env)) [] s
  unfold compStart
  rw [Sem.onRaise_eq_wrap]
  show Seg _ Aw _ _ _ s₀ _ ((ask >>= _).wrap _ _ _ _) [] s
  refine seg_bind_wrap (wpAny_askSetting ?_)
  split
  · exact seg_again rfl loop
  · first
      | exact seg_bind_wrap (wpAny_rule (seg_bind_wrap (wpAny_standAt (seg_bind_wrap (T.self _ 0 s _ _ ht (seg_again rfl loop))))))
      | (refine seg_bind_wrap (wpAny_rule ?_); show Seg _ Aw _ _ _ s₀ _ ((standAt iter.pos >>= _).wrap _ _ _ _) [] s; exact seg_bind_wrap (wpAny_standAt (seg_bind_wrap (T.self _ 0 s _ _ ht (seg_again rfl loop)))))
end
end LG
set_option Elab.async false
set_option linter.all false
set_option maxRecDepth 100000
set_option maxHeartbeats 2000000
namespace LG
open PySem PySem.Spec PyProof.Rows L2 GenW GxR NdefX
/-- the generator expression's scope: captured names that the def has -/
structure GSc (env : Env) (scope : Scope) : Prop where
  kind : scope.kind = .function
  co : scope.isCoroutine = false
  cell : ∀ y ∈ scope.names, y.2 ≠ .cell
  dot : scope.names.lookup (".0" : Str) = some NameKind.local
  free : ∀ y ∈ scope.names, y.2 = .free → ∃ c, env.cells.lookup y.1 = some c
/-- the context of the generator expression's frame -/
def gx (X : Cx) (s4 : Shared) (H3 : Hp) (N : List Str) (cenv : Env) (Aw : Around) (fp : List Addr) (pn : List (Addr × Obj)) : Cx where
  prog := X.prog
  w := X.w
  K := X.K
  mg := X.mg
  base := X.base
  A := Aw.deeper cenv
  N := N
  s_0 := s4
  H_0 := H3
  env := cenv
  outer := X.stack
  stack := cenv :: X.stack
  ex := fp
  fn := fun _ => false
  calm := true
  pn := pn
  xe := fun _ _ => False
/-- what an element's rule may lean on -/
structure Inner (X : Cx) (scope : Scope) (N : List Str) (k : Nat) (X' : Cx) : Prop where
  prog : X'.prog = X.prog
  w : X'.w = X.w
  K : X'.K = X.K
  mg : X'.mg = X.mg
  base : X'.base = X.base
  N : X'.N = N
  scope : X'.env.scope = scope
  calm : X'.calm = true
  xe : X'.xe = fun _ _ => False
  room : Room k X'.A
/-- how the captured names' slots lie -/
def Caps (X : Cx) (scope : Scope) (N : List Str) (σ σ' : L2.St) : Prop :=
  σ'.length = N.length ∧ ∀ (i : Nat) (x : Str) (v : V), N[i]? = some x → σ'[i]? = some (some v) → scope.names.lookup x = some .free ∧ ∃ j : Nat, X.N[j]? = some x ∧ σ[j]? = some (some v) ∧ (X.env.kindOf x = some .cell ∨ X.env.kindOf x = some .free)
def tAllG (X : Cx) (P : Addr) (scope : Scope) (N : List Str) (wi : TI) (g : TG) (te : TE) : TE := fun σ H Q => wi σ H fun J H1 => TabG H1 P ∧ ∃ σ', Caps X scope N σ σ' ∧
  ∀ H2, Tabbed P H1 H2 → ∃ W : Nat → Nat → L2.St → Hp → Prop, (∃ m, W 0 m σ' H2) ∧ Turns J g te (fun b H' => Q (.bl b) H') W
section
variable {X : Cx}
theorem pe_allG {c P : Addr} {elt iter tg : Expr} {p pos gpos : Pos} {scope : Scope} {wi : TI} {g : TG} {te : TE} {k : Nat} {N : List Str}
    (hr : Room (k + 1) X.A) (hg0 : Gl X "all") (hm : X.mg "all" = none) (hcalm : X.calm = true) (TB : TabB X.base X.mg c P) (hcode : X.env.code = .ref c) (S : GSc X.env scope) (hi : PI X tg iter wi)
    (hgt : ∀ X', Inner X scope N k X' → PG X' tg g) (hel : ∀ X', Inner X scope N k X' → PE X' elt te)
    (hs : ∀ v, genFold iter X.env v = pure v)
    (he : starEach [.GeneratorExp elt [⟨tg, iter, [], 0⟩] scope gpos] X.env = (false, eval (.GeneratorExp elt [⟨tg, iter, [], 0⟩] scope gpos) X.env) :: starEach [] X.env := by rfl) :
    PE X (.Call (.Name "all" p) [.GeneratorExp elt [⟨tg, iter, [], 0⟩] scope gpos] [] pos) (tAllG X P scope N wi g te) := by
  refine ⟨fun pins s σ H Q I h => ?_⟩
  refine wpAny_Call_Name_kw (ld_blt I hg0 hm (show bootBuiltins "all" = some (.builtin "all") by decide +kernel) ?_)
  refine PyProof.Rows.callWith_builtin1 ?_ he (by rfl)
  rw [he]
  show wpAny _ _ (spliced ((false, eval (.GeneratorExp elt [⟨tg, iter, [], 0⟩] scope gpos) X.env) :: backTo pos (starEach [] X.env))) _ _ s
  refine Calls.spliced_cons ?_
  refine wpAny_GeneratorExp_make S.co (closure_ok S.free) S.cell S.dot S.kind (by have := hr.dp; omega) ?_ hs
  refine thn (hi.run pins s σ H _ I h) fun xv s1 h1 => thn h1 fun itv s2 h2 => ?_
  obtain ⟨it, fp, tn, J, H2, rfl, I2, T, ht2, hf2, hR⟩ := h2
  obtain ⟨⟨ps, hP, htr⟩, σ', hcap, hR⟩ := hR
  have lim2 : s2.heap.NoLimit := I2.nolimit
  have hPs : s2.heap.get? P = some { cls := .none, data := .fields ps } := I2.hok P _ hP
  have cd : PySem.W.CodeHd s2.heap c P := TB.code.keeps fun b u e => I2.bk b u e
  refine ⟨lim2, ?_⟩
  have cont : ∀ (code : Value) (h3 : Heap) (tk : Nat) (ps' : Array Value), Heap.ExtBut P s2.heap h3 → s2.heap.objs.size ≤ h3.objs.size → h3.get? P = some { cls := .none, data := .fields ps' } → (∃ more, ps' = ps ++ more) → TriplesOk ps'.toList →
      wpAny (model X.prog X.w) X.A (builtinsFor X.env.globals X.env.builtins) (fun bi s₄ =>
        ∀ h', h'.Ns s₄.heap.objs.size (fun y => if y = ".0" then some (Value.ref it) else none) → Heap.SameBut s₄.heap.objs.size (s₄.heap.push { cls := .type "frame", data := .dict #[] }) h' →
          (fun a s' => wpAny (model X.prog X.w) X.A (spliced (backTo pos (starEach [] X.env))) (fun x s'' => wpAny (model X.prog X.w) X.A (call (.builtin "all") (a :: x)) (EP X pins σ Q) X.xe s'') X.xe s') (Value.ref h'.objs.size) { s₄ with
            gens := s₄.gens.push (.fresh (.compStart (.GeneratorExp elt [⟨tg, iter, [], 0⟩] scope gpos) 0 (.ref it) .none (genEnv scope (cloFrom X.env.cells scope.names []) s₄.heap.objs.size code bi X.env))),
            toks := s₄.toks + 1 + 1 + 1,
            heap := h'.push { cls := .type "generator", data := .fields #[.int s₄.gens.size 0, .str "<genexpr>" (s₄.toks + 1), .str (X.env.qual ++ "<genexpr>") (s₄.toks + 1 + 1)] } }) X.xe { s2 with heap := h3, toks := tk } := by
    intro code h3 tk ps' hx hsz hP3 hmore ht3
    obtain ⟨bm, ob, e1, e2, e3, e4, e5, e6, e7, e8⟩ := TB.bm
    have keep3 : ∀ b u, b ≠ P → s2.heap.get? b = some u → h3.get? b = some u := fun b u hb e => hx b u hb e
    refine wpAny_builtinsFor (m := X.mg) (by rw [I2.ok.glob]; exact (I2.mod.glob.keeps I2.bk).extBut hx TB.gP) e1 e2 (keep3 _ _ e4 (I2.bk _ _ e5)) e6 e7 e8 ?_
    obtain ⟨more, em⟩ := hmore
    have I4 : Inv X pins σ (upd H2 P (.tbl (ps ++ more))) { s2 with heap := h3, toks := tk } :=
      inv_tab (more := more) (h' := h3) (g' := s2.gens) (d' := s2.drawn) (t' := tk) I2 hP keep3 (by rw [← em]; exact hP3) I2.bare
    have hTab : Tabbed P H2 (upd H2 P (.tbl (ps ++ more))) := ⟨⟨ps ++ more, upd_same, by rw [← em]; exact ht3⟩, fun b hb => upd_ne hb⟩
    obtain ⟨W, ⟨m, w0⟩, hW⟩ := hR _ hTab
    generalize hH3 : upd H2 P (.tbl (ps ++ more)) = H3 at I4 hTab w0
    generalize hs4 : ({ s2 with heap := h3, toks := tk } : Shared) = s4 at I4
    have nP : ∀ b ∈ fp, b ≠ P := fun b hb z => by
      have q := (hf2 b hb).1
      rw [z, hP] at q
      cases q
    have hf4 : ∀ b ∈ fp, FpOk X pins H3 b := fun b hb => ⟨by rw [hTab.2 b (nP b hb)]; exact (hf2 b hb).1, (hf2 b hb).2⟩
    have ht4 : tn 0 s4.heap := T.keep _ _ _ ht2 fun b hb o e => by rw [← hs4]; exact keep3 b o (nP b hb) e
    have lim4 : s4.heap.NoLimit := I4.nolimit
    intro h' hn' hs'
    have hszN : h'.objs.size = s4.heap.objs.size + 1 := by rw [hs'.1, Heap.size_push]
    have keep' : ∀ b o, s4.heap.get? b = some o → h'.get? b = some o := fun b o e => hs'.extBut b o (Nat.ne_of_lt (Heap.lt_size e)) (Heap.get?_push_of_some _ e)
    generalize hgo : ({ cls := .type "generator", data := .fields #[.int s4.gens.size 0, .str "<genexpr>" (s4.toks + 1), .str (X.env.qual ++ "<genexpr>") (s4.toks + 1 + 1)] } : Obj) = go
    have hgen : ∀ h : Heap, h.get? h'.objs.size = some go → h.IsGen h'.objs.size s4.gens.size := fun h e => ⟨go, _, _, e, by rw [← hgo], by rw [← hgo], by rw [← hgo]⟩
    have hfreed : go.data ≠ .freed := by rw [← hgo]; intro z; cases z
    have hpush : (h'.push go).get? h'.objs.size = some go := Heap.get?_push_size _ (by rw [← hgo]; rfl)
    have keep5 : ∀ b o, s4.heap.get? b = some o → (h'.push go).get? b = some o := fun b o e => Heap.get?_push_of_some _ (keep' b o e)
    generalize hcenv : genEnv scope (cloFrom X.env.cells scope.names []) s4.heap.objs.size code builtinsNs X.env = cenv
    have eLoc : cenv.locals = s4.heap.objs.size := by rw [← hcenv]; rfl
    have eScope : cenv.scope = scope := by rw [← hcenv]; rfl
    have eCells : cenv.cells = cloFrom X.env.cells scope.names [] := by rw [← hcenv]; rfl
    have eFrame : cenv.frame = some cenv.locals := by rw [← hcenv]; rfl
    have eGlob : cenv.globals = X.env.globals := by rw [← hcenv]; rfl
    have eBlt : cenv.builtins = builtinsNs := by rw [← hcenv]; rfl
    have cm : ∀ {y : Str} {c : Addr}, cenv.cells.lookup y = some c → X.env.cells.lookup y = some c := fun {y c} e => clo_cm S.free (by rw [← eCells]; exact e)
    -- the generator's own context, whatever wakes it
    have wake : ∀ (Aw : Around), Room k (Aw.deeper cenv) → Aw.frames = some X.stack → ∀ (s6 : Shared), (∀ b o, (h'.push go).get? b = some o → s6.heap.get? b = some o) → s6.os = s4.os → AllBare s6.gens →
        Inv (gx X s4 H3 N cenv Aw fp [(h'.objs.size, go)]) [] σ' H3 s6 := by
      intro Aw hrw hfr s6 hk6 ho6 hb6
      have keep6 : ∀ b o, s4.heap.get? b = some o → s6.heap.get? b = some o := fun b o e => hk6 b o (keep5 b o e)
      have fpl : ∀ b ∈ fp, b < s4.heap.objs.size := fun b hb => by
        obtain ⟨o, e, _⟩ := T.obj _ _ ht4 b hb
        exact Heap.lt_size e
      refine ⟨⟨I4.ok.mod, by show cenv.scope.kind = _; rw [eScope]; exact S.kind, by show cenv.globals = _; rw [eGlob]; exact I4.ok.glob, eBlt, by show s4.heap.objs.size ≤ cenv.locals; rw [eLoc]; exact Nat.le_refl _,
        fun y z c h1 h2 => I4.ok.inj y z c (cm h1) (cm h2), fun y hy => ?_, fun y c hf _ => absurd (show false = true from hf) (by decide), fun _ => hrw.hd, ?_, .inr ⟨rfl, eFrame⟩, fun b hb => ⟨?_, fun y c e => (hf4 b hb).2.2.2.2.1 y c (cm e)⟩, I4.bs, Nat.le_trans I4.ok.bsz I4.sz,
        fun b o e hb => ?_, fun b hb hm => ?_, I4.stack, I4.stkFree⟩, ho6, hb6, Un.kept keep6, ?_, fun y c e => ?_, ?_, fun y c e => I4.freeC y c (cm e), fun q hq => ?_, I4.hok.kept keep6, hcap.1⟩
      · have hy' : scope.names.lookup y = some .cell ∨ scope.names.lookup y = some .free := by
          have z : cenv.scope.names.lookup y = some .cell ∨ cenv.scope.names.lookup y = some .free := hy
          rw [eScope] at z
          exact z
        rcases hy' with z | z
        · exact absurd rfl (S.cell _ (PySem.mem_of_lookup z))
        · obtain ⟨c0, e0⟩ := S.free _ (PySem.mem_of_lookup z) rfl
          exact ⟨c0, by show cenv.cells.lookup y = _; rw [eCells]; exact clo_has S.free (PySem.mem_of_lookup z) e0⟩
      · show (Aw.deeper cenv).frames = some (cenv :: X.stack)
        exact Around.frames_deeper hfr
      · show b ≠ cenv.locals
        rw [eLoc]; exact Nat.ne_of_lt (fpl b hb)
      · rcases (hf4 b hb).2.2.2.1 with z | z
        · exact I4.ok.noex b o e z
        · exact absurd (Nat.lt_of_lt_of_le (Heap.lt_size e) (Nat.le_trans I4.ok.bsz z)) (Nat.lt_irrefl _)
      · rcases List.mem_cons.mp (I4.stkSub b hm) with z | z
        · exact (hf4 b hb).2.1 z
        · exact (hf4 b hb).2.2.1 z
      · refine ⟨_, by show s6.heap.Ns cenv.locals _; rw [eLoc]; exact (hn'.push go).keeps hk6, fun i x v e1 e2 e3 => ?_⟩
        obtain ⟨f1, j, f2, f3, f4⟩ := hcap.2 i x v e1 e2
        obtain ⟨mo, hno, hlo⟩ := I4.loc
        have hvis : Vis X.env.scope x := by
          rcases f4 with z | z
          · exact .inr (.inl z)
          · exact .inr (.inr z)
        obtain ⟨u, ru, l⟩ := hlo j x v f2 f3 hvis
        refine ⟨u, ru, .inr ⟨.inr (by show cenv.scope.names.lookup x = _; rw [eScope]; exact f1), ?_⟩⟩
        rcases l with ⟨l1, _⟩ | ⟨_, c0, l2, l3⟩
        · rcases f4 with z | z
          · rw [z] at l1; cases l1
          · rw [z] at l1; cases l1
        · obtain ⟨oc, hoc, hd⟩ := l3
          exact ⟨c0, by show cenv.cells.lookup x = _; rw [eCells]; exact clo_has S.free (PySem.mem_of_lookup f1) l2, oc, keep6 _ _ hoc, hd⟩
      · obtain ⟨v, o, ho, hd⟩ := I4.cell y c (cm e)
        exact ⟨v, o, keep6 _ _ ho, hd⟩
      · show H3 cenv.locals = none
        rw [eLoc]; exact I4.hok.fresh (Nat.le_refl _)
      · have hq' : q = (h'.objs.size, go) := by
          have z : q ∈ [(h'.objs.size, go)] ++ [] := hq
          simpa using z
        subst hq'
        have ga : s4.heap.objs.size ≤ h'.objs.size := by omega
        refine ⟨hk6 _ _ hpush, I4.hok.fresh ga, by show h'.objs.size ≠ cenv.locals; rw [eLoc]; omega, fun hm => ?_, fun v z => ?_⟩
        · rcases List.mem_cons.mp (I4.stkSub _ hm) with z | z
          · exact absurd (Nat.lt_of_lt_of_le I4.lt ga) (by rw [← z]; exact Nat.lt_irrefl _)
          · exact I4.nofs ga z
        · rw [← hgo] at z; cases z
    refine Calls.spliced_nil ?_
    -- all(..) draws
    refine call_function_tree F.kind_all F.plain_all F.entry_all (F.args_all1 _) ?_
    unfold Builtin.«all»
    refine wpAny_bind (m := oneArg "all" _) (wpAny_pure ?_)
    refine wpAny_bind (wpAny_pyIter_gen (s := { s4 with heap := h'.push go, gens := _, toks := _ }) (hgen _ hpush) ?_)
    refine wpAny_pure ⟨plainId_quiet F.plain_all_loop _, ?_⟩
    have hrw : Room k ((X.A.in1.in1).deeper cenv) := ⟨hr.hd, by have := hr.dp; show X.A.depth + 1 + 3 * k + 5 < _; omega, by have := hr.un; show X.A.units + 1 + 1 + 3 + 16 * k + 200 < _; omega⟩
    have hInner : Inner X scope N k (gx X s4 H3 N cenv (X.A.in1.in1) fp [(h'.objs.size, go)]) := ⟨rfl, rfl, rfl, rfl, rfl, rfl, eScope, rfl, rfl, hrw⟩
    refine all_loud (P := X.prog) (w := X.w) (A := X.A) (a := h'.objs.size) (g := s4.gens.size) (Post := fun b s' => EP X pins σ Q (.bool b) s') hr.hd (by have := hr.dp; show X.A.depth < _; omega) (fun b s' z => z) (m + 1) { s4 with heap := h'.push go, gens := s4.gens.push (.fresh (.compStart (.GeneratorExp elt [⟨tg, iter, [], 0⟩] scope gpos) 0 (.ref it) .none cenv)), toks := s4.toks + 1 + 1 + 1 } (hgen _ hpush) (lim4.keeps keep5) ⟨.fresh (.compStart (.GeneratorExp elt [⟨tg, iter, [], 0⟩] scope gpos) 0 (.ref it) .none cenv), Array.getElem?_push_size .., rfl, ?_⟩
    have fpF : ∀ b ∈ fp, FpOk (gx X s4 H3 N cenv (X.A.in1.in1) fp [(h'.objs.size, go)]) [] H3 b := fun b hb => by
      obtain ⟨o, e, _⟩ := T.obj _ _ ht4 b hb
      have bl := Heap.lt_size e
      refine ⟨(hf4 b hb).1, by show b ≠ cenv.locals; rw [eLoc]; exact Nat.ne_of_lt bl, fun hm => ?_, .inl hb, fun y c z => (hf4 b hb).2.2.2.2.1 y c (cm z), fun q hq => ?_⟩
      · rcases List.mem_cons.mp (I4.stkSub b hm) with z | z
        · exact (hf4 b hb).2.1 z
        · exact (hf4 b hb).2.2.1 z
      · have hq' : q = (h'.objs.size, go) := by
          have z : q ∈ [(h'.objs.size, go)] ++ [] := hq
          simpa using z
        subst hq'
        show h'.objs.size ≠ b
        exact Nat.ne_of_gt (by rw [hszN]; exact Nat.lt_succ_of_lt bl)
    have I6 := wake (X.A.in1.in1) hrw I4.ok.frames ({ s4 with heap := h'.push go, gens := s4.gens.push (.fresh (.compStart (.GeneratorExp elt [⟨tg, iter, [], 0⟩] scope gpos) 0 (.ref it) .none cenv)), toks := s4.toks + 1 + 1 + 1 }.setGen s4.gens.size .running) (fun b o e => e) rfl (allBare_setGen (s := { s4 with heap := h'.push go, gens := s4.gens.push (.fresh (.compStart (.GeneratorExp elt [⟨tg, iter, [], 0⟩] scope gpos) 0 (.ref it) .none cenv)), toks := s4.toks + 1 + 1 + 1 }) (AllBare.push I4.bare rfl) rfl)
    refine seg_start (X := gx X s4 H3 N cenv (X.A.in1.in1) fp [(h'.objs.size, go)]) (Aw := X.A.in1.in1) (go := go) rfl rfl rfl (by show cenv.scope.isCoroutine = false; rw [eScope]; exact S.co) (List.mem_singleton.mpr rfl) hgen T (hgt _ hInner) (hel _ hInner) hW (fun b σ1 H1 sa sb J fin hk ho hb => ?_) m _ _ σ' H3 I6 (T.keep _ _ _ ht4 fun b hb o e => keep5 b o e) fpF w0
    refine ⟨.bl b, H1, I4.call' (ch := fp) (ho.trans J.os) ((show Un (frs X.stack) fp H3 H1 s4.heap sa.heap from J.base).trans (Un.kept hk)) (J.hok.kept hk) hb (fun b hb => ⟨(hf4 b hb).2.2.2.1, (hf4 b hb).2.1, (hf4 b hb).2.2.2.2.1, (hf4 b hb).2.2.2.2.2⟩), rfl, fin⟩
  cases hfc : codeAmong gpos ps.toList with
  | none =>
    refine wpAny_genexprCodeX hcode (cd.code hPs htr) (cd.tab hPs) hfc fun c' h' tk hx hge hlt hco' _ htab' _ => ?_
    obtain ⟨o1, vs, f1, tf, fl, tg', inF, tx, tt, op, _, _, _, _, _, _, _, _, _, htr', _⟩ := hco'
    exact cont _ h' tk _ hx (Nat.le_trans hge (Nat.le_of_lt hlt)) htab'.2 ⟨_, rfl⟩ htr'
  | some cv =>
    refine wpAny_genexprCode_hit hcode (cd.code hPs htr) hfc ?_
    exact cont cv s2.heap s2.toks ps (Heap.ExtBut.refl _ _) (Nat.le_refl _) hPs ⟨#[], by simp⟩ htr
end
end LG
set_option Elab.async false
set_option linter.all false
set_option maxRecDepth 100000
set_option maxHeartbeats 1000000
namespace EL
open PySem PySem.Spec PyProof.Rows L2 GxR LG
inductive D where
  | non | bl (b : Bool) | int (i : Int) | str (x : Str) | tup (ds : List D) | lst (ds : List D) | ref (l : Nat) | scr (ns : List Int) | ty (n : String) | pt (ds : List D)
/-- an exception: its class, its field -/
structure Xc where
  cls : Str
  fld : Option (Str × D)
/-- a thing of the store: a list, what is let go, dicts, an instance -/
inductive O where
  | lst (ds : List D) | dead | dK (kvs : List (Key × D)) | dT (kvs : List (List Key × D)) | ins (c : Str) (fs : List (Str × D))
abbrev Sto := List O
/-- the addresses of the store's places; lists in the making, which nobody else sees -/
structure Mu where
  pl : List Addr
  hd : List Addr
def Mu.add (μ : Mu) (p : Addr) : Mu := ⟨μ.pl ++ [p], μ.hd⟩
def Mu.hide (μ : Mu) (p : Addr) : Mu := ⟨μ.pl, p :: μ.hd⟩
abbrev Rho := List (Option D)
/-- what is fixed through the law: the written part, the tables, the script -/
structure G0 where
  P : Program
  w : World
  mg : Str → Option Value
  base : Heap
  K : PySem.W.Frag
  Ps : List Addr
  Ls : List (Addr × Str)
/-- a list of the module's own top -/
def KL (K : PySem.W.Frag) (a : Addr) (xs : List V) : Prop :=
  ∃ (o : Obj) (its : Array Value) (n : Nat), K.lookup a = some o ∧ o.cls = .type "list" ∧ o.dict = none ∧ o.data = .seq its n ∧ its.size ≤ sizeLine ∧ Vals xs its.toList
/-- a list that nobody writes any more -/
def Lz (μ : Mu) (H : Hp) (a : Addr) (vs : List V) : Prop := H a = some (.lst vs) ∧ a ∉ μ.pl ∧ a ∉ μ.hd
/-- .. or may have stood ahead of all: the script -/
def Lq (G : G0) (μ : Mu) (H : Hp) (a : Addr) (vs : List V) : Prop := (Rd H a (.lst vs) ∧ a ∉ μ.pl ∧ a ∉ μ.hd) ∨ KL G.K a vs
theorem Lz.sq {K : PySem.W.Frag} {μ : Mu} {H : Hp} {a : Addr} {vs : List V} (h : Lz μ H a vs) : SqL K H a vs := SqL.of h.1
theorem Lq.sq {G : G0} {μ : Mu} {H : Hp} {a : Addr} {vs : List V} (h : Lq G μ H a vs) : SqL G.K H a vs := h.imp (·.1) id
mutual
inductive Rep (G : G0) (μ : Mu) (H : Hp) : D → V → Prop
  | non : Rep G μ H .non .non
  | bl (b : Bool) : Rep G μ H (.bl b) (.bl b)
  | int (i : Int) : Rep G μ H (.int i) (.int i)
  | str (x : Str) : Rep G μ H (.str x) (.str x)
  | tup {a : Addr} {vs : List V} {ds : List D} (s : H a = some (.tup vs)) (r : Reps G μ H ds vs) : Rep G μ H (.tup ds) (.ref a)
  | lst {a : Addr} {vs : List V} {ds : List D} (s : Lz μ H a vs) (r : Reps G μ H ds vs) : Rep G μ H (.lst ds) (.ref a)
  | ref {l : Nat} {a : Addr} (h : μ.pl[l]? = some a) : Rep G μ H (.ref l) (.ref a)
  | scr {ns : List Int} {a : Addr} (s : Lq G μ H a (ns.map V.int)) : Rep G μ H (.scr ns) (.ref a)
  | ty (n : String) : Rep G μ H (.ty n) (.ty n)
  | pt {a : Addr} {o : Obj} {vs : List V} {ds : List D} (s : H a = some (.frz o (.tup vs))) (hd : o.dict = none) (r : Reps G μ H ds vs) : Rep G μ H (.pt ds) (.ref a)
inductive Reps (G : G0) (μ : Mu) (H : Hp) : List D → List V → Prop
  | nil : Reps G μ H [] []
  | cons {d : D} {v : V} {ds : List D} {vs : List V} (h : Rep G μ H d v) (t : Reps G μ H ds vs) : Reps G μ H (d :: ds) (v :: vs)
end
/-- what nobody of ours writes: dicts of exceptions, things told by what is true of them -/
def Fx : HO → Prop
  | .xd _ => True
  | .ext _ => True
  | .frz _ (.tup _) => True
  | _ => False
/-- further on: new places, the tuples that stood stand -/
structure Ext (G : G0) (μ : Mu) (H : Hp) (μ' : Mu) (H' : Hp) : Prop where
  pre : ∃ more, μ'.pl = μ.pl ++ more
  hid : μ'.hd = μ.hd
  kept : ∀ a ∈ μ.hd, H' a = H a
  tup : ∀ a vs, H a = some (.tup vs) → H' a = some (.tup vs)
  raw : ∀ a u, H a = some u → a ∉ μ.pl → a ∉ μ.hd → (∃ vs, u = .lst vs ∨ ∃ o, u = .frz o (.lst vs)) → H' a = some u ∧ a ∉ μ'.pl
  xd : ∀ a u, H a = some u → Fx u → H' a = some u
  dom : ∀ a, H' a = none → H a = none
theorem Ext.refl {G : G0} {μ : Mu} {H : Hp} : Ext G μ H μ H := ⟨⟨[], by simp⟩, rfl, fun _ _ => rfl, fun _ _ h => h, fun _ _ h n _ _ => ⟨h, n⟩, fun _ _ h _ => h, fun _ h => h⟩
theorem Ext.trans {G : G0} {μ1 μ2 μ3 : Mu} {H1 H2 H3 : Hp} (a : Ext G μ1 H1 μ2 H2) (b : Ext G μ2 H2 μ3 H3) : Ext G μ1 H1 μ3 H3 := by
  obtain ⟨x, hx⟩ := a.pre
  obtain ⟨y, hy⟩ := b.pre
  exact ⟨⟨x ++ y, by rw [hy, hx, List.append_assoc]⟩, b.hid.trans a.hid, fun c hc => (b.kept c (by rw [a.hid]; exact hc)).trans (a.kept c hc), fun c vs h => b.tup c vs (a.tup c vs h), fun c u h n m q => let ⟨h1, h2⟩ := a.raw c u h n m q; b.raw c u h1 h2 (by rw [a.hid]; exact m) q, fun c u h q => b.xd c u (a.xd c u h q) q, fun c h => a.dom c (b.dom c h)⟩
theorem Ext.lst {G : G0} {μ μ' : Mu} {H H' : Hp} (e : Ext G μ H μ' H') (a : Addr) (vs : List V) (h : Lz μ H a vs) : Lz μ' H' a vs := by
  obtain ⟨h, n, m⟩ := h
  obtain ⟨h1, h2⟩ := e.raw a _ h n m ⟨vs, .inl rfl⟩
  exact ⟨h1, h2, by rw [e.hid]; exact m⟩
theorem Ext.lq {G : G0} {μ μ' : Mu} {H H' : Hp} (e : Ext G μ H μ' H') (a : Addr) (vs : List V) (h : Lq G μ H a vs) : Lq G μ' H' a vs := by
  rcases h with ⟨h | ⟨o, h⟩, n, m⟩ | h
  · obtain ⟨h1, h2⟩ := e.raw a _ h n m ⟨vs, .inl rfl⟩
    exact .inl ⟨.inl h1, h2, by rw [e.hid]; exact m⟩
  · obtain ⟨h1, h2⟩ := e.raw a _ h n m ⟨vs, .inr ⟨o, rfl⟩⟩
    exact .inl ⟨.inr ⟨o, h1⟩, h2, by rw [e.hid]; exact m⟩
  · exact .inr h
theorem Ext.at {G : G0} {μ μ' : Mu} {H H' : Hp} (e : Ext G μ H μ' H') {l : Nat} {a : Addr} (h : μ.pl[l]? = some a) : μ'.pl[l]? = some a := by
  obtain ⟨x, hx⟩ := e.pre
  have hl : l < μ.pl.length := (List.getElem?_eq_some_iff.mp h).1
  rw [hx, List.getElem?_append_left hl]
  exact h
/-- the same, but for what is hidden -/
structure Ext0 (G : G0) (μ : Mu) (H : Hp) (μ' : Mu) (H' : Hp) : Prop where
  at_ : ∀ (l : Nat) (a : Addr), μ.pl[l]? = some a → μ'.pl[l]? = some a
  tup : ∀ a vs, H a = some (.tup vs) → H' a = some (.tup vs)
  lst : ∀ a vs, Lz μ H a vs → Lz μ' H' a vs
  lq : ∀ a vs, Lq G μ H a vs → Lq G μ' H' a vs
  fz : ∀ a o vs, H a = some (.frz o (.tup vs)) → H' a = some (.frz o (.tup vs))
theorem Ext.to0 {G : G0} {μ μ' : Mu} {H H' : Hp} (e : Ext G μ H μ' H') : Ext0 G μ H μ' H' := ⟨fun _ _ h => e.at h, e.tup, e.lst, e.lq, fun _ _ _ h => e.xd _ _ h trivial⟩
mutual
theorem Rep.ext0 {G : G0} {μ μ' : Mu} {H H' : Hp} (e : Ext0 G μ H μ' H') : ∀ {d : D} {v : V}, Rep G μ H d v → Rep G μ' H' d v
  | _, _, .non => .non
  | _, _, .bl b => .bl b
  | _, _, .int i => .int i
  | _, _, .str x => .str x
  | _, _, .tup s r => .tup (e.tup _ _ s) (Reps.ext0 e r)
  | _, _, .ref h => .ref (e.at_ _ _ h)
  | _, _, .scr s => .scr (e.lq _ _ s)
  | _, _, .lst s r => .lst (e.lst _ _ s) (Reps.ext0 e r)
  | _, _, .ty n => .ty n
  | _, _, .pt s d r => .pt (e.fz _ _ _ s) d (Reps.ext0 e r)
theorem Reps.ext0 {G : G0} {μ μ' : Mu} {H H' : Hp} (e : Ext0 G μ H μ' H') : ∀ {ds : List D} {vs : List V}, Reps G μ H ds vs → Reps G μ' H' ds vs
  | _, _, .nil => .nil
  | _, _, .cons h t => .cons (Rep.ext0 e h) (Reps.ext0 e t)
end
theorem Rep.ext {G : G0} {μ μ' : Mu} {H H' : Hp} (e : Ext G μ H μ' H') {d : D} {v : V} (r : Rep G μ H d v) : Rep G μ' H' d v := r.ext0 e.to0
theorem Reps.ext {G : G0} {μ μ' : Mu} {H H' : Hp} (e : Ext G μ H μ' H') {ds : List D} {vs : List V} (r : Reps G μ H ds vs) : Reps G μ' H' ds vs := r.ext0 e.to0
section
variable {G : G0} {μ : Mu} {H : Hp}
theorem Reps.length : ∀ {ds : List D} {vs : List V}, Reps G μ H ds vs → ds.length = vs.length
  | _, _, .nil => rfl
  | _, _, .cons _ t => congrArg (· + 1) (Reps.length t)
theorem Reps.get : ∀ {ds : List D} {vs : List V} (i : Nat) {d : D}, Reps G μ H ds vs → ds[i]? = some d → ∃ v, vs[i]? = some v ∧ Rep G μ H d v
  | _, _, _, _, .nil, e => by simp at e
  | _, _, 0, _, .cons h _, e => by simp at e; subst e; exact ⟨_, rfl, h⟩
  | _, _, i + 1, d, .cons _ t, e => by
    obtain ⟨v, h1, h2⟩ := Reps.get (ds := _) i (d := d) t (by simpa using e)
    exact ⟨v, by simpa using h1, h2⟩
theorem Reps.get' : ∀ {ds : List D} {vs : List V} (i : Nat) {v : V}, Reps G μ H ds vs → vs[i]? = some v → ∃ d, ds[i]? = some d ∧ Rep G μ H d v
  | _, _, _, _, .nil, e => by simp at e
  | _, _, 0, _, .cons h _, e => by simp at e; subst e; exact ⟨_, rfl, h⟩
  | _, _, i + 1, v, .cons _ t, e => by
    obtain ⟨d, h1, h2⟩ := Reps.get' (vs := _) i (v := v) t (by simpa using e)
    exact ⟨d, by simpa using h1, h2⟩
theorem Reps.append : ∀ {ds es : List D} {vs ws : List V}, Reps G μ H ds vs → Reps G μ H es ws → Reps G μ H (ds ++ es) (vs ++ ws)
  | _, _, _, _, .nil, s => s
  | _, _, _, _, .cons h t, s => .cons h (Reps.append t s)
theorem Reps.drop : ∀ {ds : List D} {vs : List V} (n : Nat), Reps G μ H ds vs → Reps G μ H (ds.drop n) (vs.drop n)
  | _, _, 0, r => r
  | _, _, _ + 1, .nil => .nil
  | _, _, n + 1, .cons _ t => Reps.drop n t
theorem Reps.take : ∀ {ds : List D} {vs : List V} (n : Nat), Reps G μ H ds vs → Reps G μ H (ds.take n) (vs.take n)
  | _, _, 0, _ => .nil
  | _, _, _ + 1, .nil => .nil
  | _, _, n + 1, .cons h t => .cons h (Reps.take n t)
theorem Reps.set {d : D} {v : V} (r : Rep G μ H d v) : ∀ {ds : List D} {vs : List V} (i : Nat), Reps G μ H ds vs → Reps G μ H (ds.set i d) (vs.set i v)
  | _, _, _, .nil => .nil
  | _, _, 0, .cons _ t => .cons r t
  | _, _, i + 1, .cons h t => .cons h (Reps.set r i t)
end
/-- values of dicts, fields -/
def RKs (G : G0) (μ : Mu) (H : Hp) {α : Type} (ds : List (α × D)) (vs : List (α × V)) : Prop := ds.map (·.1) = vs.map (·.1) ∧ Reps G μ H (ds.map (·.2)) (vs.map (·.2))
theorem RKs.ext0 {G : G0} {μ μ' : Mu} {H H' : Hp} {α : Type} {ds : List (α × D)} {vs : List (α × V)} (e : Ext0 G μ H μ' H') (h : RKs G μ H ds vs) : RKs G μ' H' ds vs := ⟨h.1, h.2.ext0 e⟩
theorem RKs.ext {G : G0} {μ μ' : Mu} {H H' : Hp} {α : Type} {ds : List (α × D)} {vs : List (α × V)} (e : Ext G μ H μ' H') (h : RKs G μ H ds vs) : RKs G μ' H' ds vs := ⟨h.1, h.2.ext e⟩
def ORep (G : G0) (μ : Mu) (H : Hp) (o : O) (a : Addr) : Prop := match o with
  | .lst ds => ∃ vs, H a = some (.lst vs) ∧ Reps G μ H ds vs
  | .dead => H a ≠ none
  | .dK kvs => ∃ vs, H a = some (.dK vs) ∧ RKs G μ H kvs vs
  | .dT kvs => ∃ vs, H a = some (.dT vs) ∧ RKs G μ H kvs vs
  | .ins c fs => ∃ C dx vs, G.mg c = some (.ref C) ∧ H a = some (.ins C dx vs) ∧ RKs G μ H fs vs
/-- what a place of ours may hold: nothing that others lean on -/
def Own : HO → Prop
  | .lst _ => True
  | .dK _ => True
  | .dT _ => True
  | .ins _ _ _ => True
  | _ => False
structure StR (G : G0) (μ : Mu) (st : Sto) (H : Hp) : Prop where
  len : μ.pl.length = st.length
  obj : ∀ (l : Nat) (o : O) (a : Addr), st[l]? = some o → μ.pl[l]? = some a → ORep G μ H o a
  own : ∀ a ∈ μ.pl, ∃ u, H a = some u ∧ Own u
  nd : μ.pl.Nodup
  dis : ∀ a ∈ μ.hd, a ∉ μ.pl ∧ ∃ vs, H a = some (.lst vs)
  tab : ∀ P ∈ G.Ps, TabG H P
  lab : ∀ p ∈ G.Ls, LamX.TabS H p.1 p.2
  dj : ∀ p ∈ G.Ls, p.1 ∉ G.Ps
theorem fx_own {u : HO} (h : Fx u) : ¬ Own u := by cases u <;> first | exact h.elim | exact fun z => z
theorem tabS_keep {H H' : Hp} {P : Addr} {q : Str} (t : LamX.TabS H P q) (h1 : ∀ ps, H P = some (.tbl ps) → H' P = some (.tbl ps)) (h2 : ∀ a u, H a = some u → Fx u → H' a = some u) : LamX.TabS H' P q := by
  obtain ⟨ps, e1, e2, e3⟩ := t
  refine ⟨ps, h1 _ e1, e2, fun pos cv hc => ?_⟩
  obtain ⟨c, z, e⟩ := e3 pos cv hc
  exact ⟨c, z, h2 c _ e trivial⟩
theorem tabS_new {H : Hp} {p P : Addr} {o : HO} {q : Str} (hp : H p = none) (t : LamX.TabS H P q) : LamX.TabS (upd H p o) P q :=
  tabS_keep t (fun _ e => by rw [upd_ne (ne_of_none e hp)]; exact e) fun _ _ e _ => by rw [upd_ne (ne_of_none e hp)]; exact e
theorem tabS_own {H : Hp} {p P : Addr} {o u : HO} {q : Str} (hp : H p = some u) (hu : Own u) (t : LamX.TabS H P q) : LamX.TabS (upd H p o) P q :=
  tabS_keep t (fun _ e => by rw [upd_ne (fun z : P = p => by rw [z, hp] at e; cases e; exact hu)]; exact e) fun a v e f => by
    rw [upd_ne (fun z : a = p => by rw [z, hp] at e; cases e; exact fx_own f hu)]; exact e
section
variable {G : G0} {μ μ' : Mu} {st : Sto} {H H' : Hp}
theorem StR.at (S : StR G μ st H) {l : Nat} {o : O} (h : st[l]? = some o) : ∃ a, μ.pl[l]? = some a ∧ ORep G μ H o a := by
  have hl : l < μ.pl.length := by rw [S.len]; exact (List.getElem?_eq_some_iff.mp h).1
  exact ⟨μ.pl[l], by simp [hl], S.obj l o _ h (by simp [hl])⟩
theorem StR.tracked (S : StR G μ st H) {a : Addr} (h : a ∈ μ.pl) : H a ≠ none := by
  obtain ⟨u, e, _⟩ := S.own a h
  rw [e]; intro z; cases z
theorem StR.hid_ne (S : StR G μ st H) {a p : Addr} (h : a ∈ μ.hd) (hp : H p = none) : a ≠ p := fun z => by
  obtain ⟨_, vs, e⟩ := S.dis a h
  rw [z, hp] at e; cases e
theorem ORep.ext0 {o : O} {a : Addr} (e : Ext0 G μ H μ' H') (hs : ∀ x, H a = some x → H' a = some x) (h : ORep G μ H o a) : ORep G μ' H' o a := by
  cases o with
  | lst ds =>
    obtain ⟨vs, h1, h2⟩ := h
    exact ⟨vs, hs _ h1, h2.ext0 e⟩
  | dead =>
    intro z
    have h : H a ≠ none := h
    cases q : H a with
    | none => exact h q
    | some x => rw [hs x q] at z; cases z
  | dK ds =>
    obtain ⟨vs, h1, h2⟩ := h
    exact ⟨vs, hs _ h1, h2.ext0 e⟩
  | dT ds =>
    obtain ⟨vs, h1, h2⟩ := h
    exact ⟨vs, hs _ h1, h2.ext0 e⟩
  | ins c fs =>
    obtain ⟨C, dx, vs, h0, h1, h2⟩ := h
    exact ⟨C, dx, vs, h0, hs _ h1, h2.ext0 e⟩
theorem ORep.ext {o : O} {a : Addr} (e : Ext G μ H μ' H') (hs : ∀ x, H a = some x → H' a = some x) (h : ORep G μ H o a) : ORep G μ' H' o a := h.ext0 e.to0 hs
/-- a fresh address is none of ours -/
theorem sqT_new {p : Addr} {o : HO} (hp : H p = none) {b : Addr} {vs : List V} (h : H b = some (.tup vs)) : upd H p o b = some (.tup vs) := by
  rw [upd_ne (ne_of_none h hp)]; exact h
theorem rd_new {p a : Addr} {o u : HO} (hp : H p = none) (h : Rd H a u) : Rd (upd H p o) a u := by
  rcases h with h | ⟨ob, h⟩
  · exact .inl (by rw [upd_ne (ne_of_none h hp)]; exact h)
  · exact .inr ⟨ob, by rw [upd_ne (ne_of_none h hp)]; exact h⟩
theorem rd_ne {p a : Addr} {u : HO} (hp : H p = none) (h : Rd H a u) : a ≠ p := by
  rcases h with h | ⟨ob, h⟩
  · exact ne_of_none h hp
  · exact ne_of_none h hp
theorem xd_new {p : Addr} {o u : HO} (hp : H p = none) {b : Addr} (h : H b = some u) : upd H p o b = some u := by
  rw [upd_ne (ne_of_none h hp)]; exact h
theorem dom_upd {p : Addr} {o : HO} (b : Addr) (h : upd H p o b = none) : H b = none := by
  by_cases e : b = p
  · rw [e, upd_same] at h; cases h
  · rw [upd_ne e] at h; exact h
theorem Ext.new (S : StR G μ st H) {p : Addr} {o : HO} (hp : H p = none) : Ext G μ H μ (upd H p o) := ⟨⟨[], by simp⟩, rfl, fun a ha => upd_ne (S.hid_ne ha hp), fun _ _ h => sqT_new hp h, fun _ _ h n _ _ => ⟨by rw [upd_ne (ne_of_none h hp)]; exact h, n⟩, fun _ _ h _ => xd_new hp h, dom_upd⟩
theorem Ext.newAt (S : StR G μ st H) {p : Addr} {o : HO} (hp : H p = none) : Ext G μ H (μ.add p) (upd H p o) := ⟨⟨[p], rfl⟩, rfl, fun a ha => upd_ne (S.hid_ne ha hp), fun _ _ h => sqT_new hp h, fun a _ h n _ _ => ⟨by rw [upd_ne (ne_of_none h hp)]; exact h, fun z => by
  rcases List.mem_append.mp z with z | z
  · exact n z
  · simp at z; subst z; rw [hp] at h; cases h⟩, fun _ _ h _ => xd_new hp h, dom_upd⟩
theorem tabG_new {p P : Addr} {o : HO} (hp : H p = none) (h : TabG H P) : TabG (upd H p o) P := by
  obtain ⟨ps, h1, h2⟩ := h
  exact ⟨ps, by rw [upd_ne (ne_of_none h1 hp)]; exact h1, h2⟩
/-- something new that no place tells of: a tuple, a list that is not written -/
theorem StR.newT (S : StR G μ st H) {p : Addr} {o : HO} (hp : H p = none) : StR G μ st (upd H p o) where
  len := S.len
  obj := fun l ob a h1 h2 => (S.obj l ob a h1 h2).ext (Ext.new S hp) fun x hx => by rw [upd_ne (ne_of_none hx hp)]; exact hx
  own := fun a ha => by
    obtain ⟨u, e, w⟩ := S.own a ha
    exact ⟨u, by rw [upd_ne (ne_of_none e hp)]; exact e, w⟩
  nd := S.nd
  dis := fun a ha => by
    obtain ⟨h1, vs, h2⟩ := S.dis a ha
    exact ⟨h1, vs, by rw [upd_ne (S.hid_ne ha hp)]; exact h2⟩
  tab := fun P hP => tabG_new hp (S.tab P hP)
  lab := fun p h => tabS_new hp (S.lab p h)
  dj := S.dj
/-- a new place -/
theorem StR.newO (S : StR G μ st H) {p : Addr} {ho : HO} {o : O} (hp : H p = none) (hw : Own ho) (r : ORep G (μ.add p) (upd H p ho) o p) : StR G (μ.add p) (st ++ [o]) (upd H p ho) where
  len := by simp [Mu.add, S.len]
  obj := fun l ob a h1 h2 => by
    have h2 : (μ.pl ++ [p])[l]? = some a := h2
    by_cases hl : l < st.length
    · rw [List.getElem?_append_left hl] at h1
      rw [List.getElem?_append_left (by rw [S.len]; exact hl)] at h2
      exact (S.obj l ob a h1 h2).ext (Ext.newAt S hp) fun x hx => by rw [upd_ne (ne_of_none hx hp)]; exact hx
    · rw [List.getElem?_append_right (by omega)] at h1
      rw [List.getElem?_append_right (by rw [S.len]; omega)] at h2
      have e1 : l - st.length = 0 := by
        have := (List.getElem?_eq_some_iff.mp h1).1
        simp at this; omega
      have e2 : l - μ.pl.length = 0 := by rw [S.len]; exact e1
      rw [e1] at h1; rw [e2] at h2
      simp at h1 h2
      subst h1; subst h2
      exact r
  own := fun a ha => by
    rcases List.mem_append.mp ha with z | z
    · obtain ⟨u, e, w⟩ := S.own a z
      exact ⟨u, by rw [upd_ne (ne_of_none e hp)]; exact e, w⟩
    · simp at z; subst z; exact ⟨ho, upd_same, hw⟩
  nd := by
    show (μ.pl ++ [p]).Nodup
    rw [List.nodup_append]
    refine ⟨S.nd, by simp, fun a ha b hb => ?_⟩
    simp at hb
    subst hb
    intro e
    subst e
    exact S.tracked ha hp
  dis := fun a ha => by
    obtain ⟨h1, vs, h2⟩ := S.dis a ha
    refine ⟨fun z => ?_, vs, by rw [upd_ne (S.hid_ne ha hp)]; exact h2⟩
    rcases List.mem_append.mp z with z | z
    · exact h1 z
    · simp at z; exact S.hid_ne ha hp z
  tab := fun P hP => tabG_new hp (S.tab P hP)
  lab := fun p h => tabS_new hp (S.lab p h)
  dj := S.dj
/-- a new list -/
theorem StR.newL (S : StR G μ st H) {p : Addr} {ds : List D} {vs : List V} (hp : H p = none) (r : Reps G μ H ds vs) : StR G (μ.add p) (st ++ [.lst ds]) (upd H p (.lst vs)) :=
  S.newO hp trivial ⟨vs, upd_same, r.ext (Ext.newAt S hp)⟩
/-- a place is written -/
theorem own_ne {p b : Addr} {u v : HO} (hp : H p = some u) (hu : Own u) (hb : H b = some v) (hv : ¬ Own v) : b ≠ p := fun e => by
  subst e
  rw [hp] at hb
  cases hb
  exact hv hu
theorem sqT_own {p : Addr} {u y : HO} (hp : H p = some u) (hu : Own u) {b : Addr} {vs : List V} (h : H b = some (.tup vs)) : upd H p y b = some (.tup vs) := by
  rw [upd_ne (own_ne hp hu h (fun z => z))]; exact h
theorem Ext.own (S : StR G μ st H) {p : Addr} {u y : HO} (hm : p ∈ μ.pl) (hp : H p = some u) (hu : Own u) : Ext G μ H μ (upd H p y) :=
  ⟨⟨[], by simp⟩, rfl, fun a ha => upd_ne (fun z : a = p => (S.dis a ha).1 (by rw [z]; exact hm)), fun _ _ h => sqT_own hp hu h, fun a _ h n _ _ => ⟨by rw [upd_ne (fun z : a = p => n (by rw [z]; exact hm))]; exact h, n⟩, fun _ _ h q => by rw [upd_ne (own_ne hp hu h (fx_own q))]; exact h, dom_upd⟩
theorem nd_get {μ : List Addr} (hn : μ.Nodup) {i j : Nat} {a : Addr} (h1 : μ[i]? = some a) (h2 : μ[j]? = some a) : i = j := by
  obtain ⟨h1, e1⟩ := List.getElem?_eq_some_iff.mp h1
  obtain ⟨h2, e2⟩ := List.getElem?_eq_some_iff.mp h2
  exact (List.getElem_inj hn).mp (e1.trans e2.symm)
theorem StR.setO (S : StR G μ st H) {l : Nat} {p : Addr} {y : HO} {o : O} (hl : μ.pl[l]? = some p) (hy : Own y) (r : ORep G μ (upd H p y) o p) : StR G μ (st.set l o) (upd H p y) := by
  have hm : p ∈ μ.pl := List.mem_of_getElem? hl
  obtain ⟨u, hp, hu⟩ := S.own p hm
  refine ⟨by simp [S.len], fun k ob a h1 h2 => ?_, fun a ha => ?_, S.nd, fun a ha => ?_, fun P hP => ?_, fun q hq => tabS_own hp hu (S.lab q hq), S.dj⟩
  · by_cases hk : k = l
    · subst hk
      rw [hl] at h2; cases h2
      have hlt : k < st.length := by rw [← S.len]; exact (List.getElem?_eq_some_iff.mp hl).1
      rw [List.getElem?_set_self hlt] at h1
      cases h1
      exact r
    · rw [List.getElem?_set_ne (Ne.symm hk)] at h1
      have ne : a ≠ p := fun e => by subst e; exact hk (nd_get S.nd h2 hl)
      exact (S.obj k ob a h1 h2).ext (Ext.own S hm hp hu) fun x hx => by rw [upd_ne ne]; exact hx
  · by_cases e : a = p
    · subst e; exact ⟨y, upd_same, hy⟩
    · obtain ⟨v, h1, h2⟩ := S.own a ha
      exact ⟨v, by rw [upd_ne e]; exact h1, h2⟩
  · obtain ⟨h1, vs, h2⟩ := S.dis a ha
    exact ⟨h1, vs, by rw [upd_ne (fun z : a = p => h1 (by rw [z]; exact hm))]; exact h2⟩
  · obtain ⟨ps, h1, h2⟩ := S.tab P hP
    exact ⟨ps, by rw [upd_ne (own_ne hp hu h1 (fun z => z))]; exact h1, h2⟩
theorem Ext.set (S : StR G μ st H) {l : Nat} {p : Addr} {y : HO} (hl : μ.pl[l]? = some p) : Ext G μ H μ (upd H p y) := by
  have hm : p ∈ μ.pl := List.mem_of_getElem? hl
  obtain ⟨u, hp, hu⟩ := S.own p hm
  exact Ext.own S hm hp hu
theorem StR.setL (S : StR G μ st H) {l : Nat} {p : Addr} {ds : List D} {vs : List V} (hl : μ.pl[l]? = some p) (r : Reps G μ H ds vs) : StR G μ (st.set l (.lst ds)) (upd H p (.lst vs)) :=
  S.setO hl trivial ⟨vs, upd_same, r.ext (Ext.set S hl)⟩
/-- a place is let go -/
theorem StR.drop (S : StR G μ st H) {l : Nat} : StR G μ (st.set l .dead) H where
  len := by simp [S.len]
  obj := fun k ob a h1 h2 => by
    by_cases hk : k = l
    · subst hk
      have hlt : k < st.length := by rw [← S.len]; exact (List.getElem?_eq_some_iff.mp h2).1
      rw [List.getElem?_set_self hlt] at h1
      cases h1
      exact S.tracked (List.mem_of_getElem? h2)
    · rw [List.getElem?_set_ne (Ne.symm hk)] at h1
      exact S.obj k ob a h1 h2
  own := S.own
  nd := S.nd
  dis := S.dis
  tab := S.tab
  lab := S.lab
  dj := S.dj
/-- a table has grown -/
theorem sqT_tab {P : Addr} (hP : TabG H P) (t : Tabbed P H H') {b : Addr} {vs : List V} (h : H b = some (.tup vs)) : H' b = some (.tup vs) := by
  obtain ⟨ps, hp, _⟩ := hP
  rw [t.2 b (ne_of h hp (by intro z; cases z))]; exact h
theorem Ext.tabbed (S : StR G μ st H) {P : Addr} (hP : TabG H P) (t : Tabbed P H H') : Ext G μ H μ H' := ⟨⟨[], by simp⟩, rfl, fun a ha => by
  obtain ⟨ps, hp, _⟩ := hP
  obtain ⟨_, vs, e⟩ := S.dis a ha
  exact t.2 a (fun z => by rw [z, hp] at e; cases e), fun _ _ h => sqT_tab hP t h, fun a u h n _ q => ⟨by
  obtain ⟨ps, hp, _⟩ := hP
  have ne : a ≠ P := fun z => by
    subst z; rw [h] at hp; cases hp
    obtain ⟨vs, q | ⟨o, q⟩⟩ := q
    · cases q
    · cases q
  rw [t.2 a ne]; exact h, n⟩, fun a u h q => by
  obtain ⟨ps, hp, _⟩ := hP
  rw [t.2 a (ne_of h hp (by intro z; subst z; exact q))]; exact h, fun a h => by
  by_cases e : a = P
  · obtain ⟨ps, hp, _⟩ := t.1
    rw [e, hp] at h; cases h
  · rw [t.2 a e] at h; exact h⟩
theorem StR.tabbed (S : StR G μ st H) {P : Addr} (hm : P ∈ G.Ps) (hP : TabG H P) (t : Tabbed P H H') : StR G μ st H' where
  len := S.len
  obj := fun l ob a h1 h2 => (S.obj l ob a h1 h2).ext (Ext.tabbed S hP t) fun x hx => by
    obtain ⟨ps, hp, _⟩ := hP
    obtain ⟨u, e, w⟩ := S.own a (List.mem_of_getElem? h2)
    have ne : a ≠ P := fun z => by subst z; rw [e] at hp; cases hp; exact w
    rw [t.2 a ne]; exact hx
  own := fun a ha => by
    obtain ⟨ps, hp, _⟩ := hP
    obtain ⟨u, e, w⟩ := S.own a ha
    have ne : a ≠ P := fun z => by subst z; rw [e] at hp; cases hp; exact w
    exact ⟨u, by rw [t.2 a ne]; exact e, w⟩
  nd := S.nd
  dis := fun a ha => by
    obtain ⟨ps, hp, _⟩ := hP
    obtain ⟨h1, vs, e⟩ := S.dis a ha
    exact ⟨h1, vs, by rw [t.2 a (fun z => by rw [z, hp] at e; cases e)]; exact e⟩
  tab := fun Q hQ => by
    by_cases e : Q = P
    · subst e; exact t.1
    · obtain ⟨ps, h1, h2⟩ := S.tab Q hQ
      exact ⟨ps, by rw [t.2 Q e]; exact h1, h2⟩
  lab := fun q hq => by
    obtain ⟨ps, hp, _⟩ := hP
    exact tabS_keep (S.lab q hq) (fun _ e => by rw [t.2 _ (fun z : q.1 = P => S.dj q hq (by rw [z]; exact hm))]; exact e) fun a u e f => by
      rw [t.2 a (ne_of e hp (by intro z; subst z; exact f))]; exact e
  dj := S.dj
theorem StR.hide (S : StR G μ st H) {p : Addr} (hp : H p = none) : StR G (μ.hide p) st (upd H p (.lst [])) := by
  have x0 : Ext0 G μ H (μ.hide p) (upd H p (.lst [])) := ⟨fun _ _ h => h, fun _ _ h => sqT_new hp h, fun a vs h => ⟨by rw [upd_ne (ne_of_none h.1 hp)]; exact h.1, h.2.1, fun z => by
    rcases List.mem_cons.mp z with z | z
    · exact ne_of_none h.1 hp z
    · exact h.2.2 z⟩, fun a vs h => h.imp (fun h => ⟨rd_new hp h.1, h.2.1, fun z => by
    rcases List.mem_cons.mp z with z | z
    · exact rd_ne hp h.1 z
    · exact h.2.2 z⟩) id, fun _ _ _ h => xd_new hp h⟩
  refine ⟨S.len, fun l o a h1 h2 => (S.obj l o a h1 h2).ext0 x0 fun x hx => by rw [upd_ne (ne_of_none hx hp)]; exact hx, fun a ha => ?_, S.nd, fun a ha => ?_, fun P hP => tabG_new hp (S.tab P hP), fun p h => tabS_new hp (S.lab p h), S.dj⟩
  · obtain ⟨u, e, w⟩ := S.own a ha
    exact ⟨u, by rw [upd_ne (ne_of_none e hp)]; exact e, w⟩
  · rcases List.mem_cons.mp ha with z | z
    · subst z; exact ⟨fun z => S.tracked z hp, [], upd_same⟩
    · obtain ⟨h1, vs, h2⟩ := S.dis a z
      exact ⟨h1, vs, by rw [upd_ne (S.hid_ne z hp)]; exact h2⟩
theorem Ext0.hide {p : Addr} (hp : H p = none) : Ext0 G μ H (μ.hide p) (upd H p (.lst [])) := ⟨fun _ _ h => h, fun _ _ h => sqT_new hp h, fun a vs h => ⟨by rw [upd_ne (ne_of_none h.1 hp)]; exact h.1, h.2.1, fun z => by
    rcases List.mem_cons.mp z with z | z
    · exact ne_of_none h.1 hp z
    · exact h.2.2 z⟩, fun a vs h => h.imp (fun h => ⟨rd_new hp h.1, h.2.1, fun z => by
    rcases List.mem_cons.mp z with z | z
    · exact rd_ne hp h.1 z
    · exact h.2.2 z⟩) id, fun _ _ _ h => xd_new hp h⟩
theorem Ext0.bare {μ : Mu} {hd : List Addr} {p : Addr} (e : μ.hd = p :: hd) : Ext0 G μ H ⟨μ.pl, hd⟩ H := ⟨fun _ _ h => h, fun _ _ h => h, fun a vs h => ⟨h.1, h.2.1, fun z => h.2.2 (by rw [e]; exact List.mem_cons_of_mem _ z)⟩, fun a vs h => h.imp (fun h => ⟨h.1, h.2.1, fun z => h.2.2 (by rw [e]; exact List.mem_cons_of_mem _ z)⟩) id, fun _ _ _ h => h⟩
theorem StR.bare (S : StR G μ st H) {hd : List Addr} {p : Addr} (e : μ.hd = p :: hd) : StR G ⟨μ.pl, hd⟩ st H :=
  ⟨S.len, fun l o a h1 h2 => (S.obj l o a h1 h2).ext0 (Ext0.bare e) fun _ h => h, S.own, S.nd, fun a ha => S.dis a (by rw [e]; exact List.mem_cons_of_mem _ ha), S.tab, S.lab, S.dj⟩
theorem Ext.bare {p : Addr} (hn : p ∉ μ.hd) (hp : H p = none) (x : Ext G (μ.hide p) (upd H p (.lst [])) μ' H') (ex : ∀ a ∈ μ.hd, H' a = H a) : Ext G μ H ⟨μ'.pl, μ.hd⟩ H' where
  pre := x.pre
  hid := rfl
  kept := ex
  tup := fun a vs h => x.tup a vs (sqT_new hp h)
  raw := fun a u h n m q => by
    have ne : a ≠ p := ne_of_none h hp
    exact x.raw a u (by rw [upd_ne ne]; exact h) n (fun z => by
      rcases List.mem_cons.mp z with z | z
      · exact ne z
      · exact m z) q
  xd := fun a u h q => x.xd a u (xd_new hp h) q
  dom := fun a h => dom_upd a (x.dom a h)
/-- what is hidden is written -/
theorem Ext0.hset {p : Addr} {y : HO} {xs : List V} (hm : p ∈ μ.hd) (hp : H p = some (.lst xs)) : Ext0 G μ H μ (upd H p y) := ⟨fun _ _ h => h, fun b vs h => by
  rw [upd_ne (ne_of h hp (by intro z; cases z))]; exact h, fun a vs h => ⟨by
    have ne : a ≠ p := fun z => h.2.2 (by rw [z]; exact hm)
    rw [upd_ne ne]; exact h.1, h.2⟩, fun a vs h => h.imp (fun h => ⟨by
    have ne : a ≠ p := fun z => h.2.2 (by rw [z]; exact hm)
    rcases h.1 with h | ⟨ob, h⟩
    · exact .inl (by rw [upd_ne ne]; exact h)
    · exact .inr ⟨ob, by rw [upd_ne ne]; exact h⟩, h.2⟩) id, fun b _ _ h => by rw [upd_ne (ne_of h hp (by intro z; cases z))]; exact h⟩
theorem StR.hset (S : StR G μ st H) {p : Addr} {ys : List V} (hm : p ∈ μ.hd) : StR G μ st (upd H p (.lst ys)) := by
  obtain ⟨h1, xs, hp⟩ := S.dis p hm
  refine ⟨S.len, fun l o a q1 q2 => (S.obj l o a q1 q2).ext0 (Ext0.hset hm hp) fun x hx => ?_, fun a ha => ?_, S.nd, fun a ha => ?_, fun P hP => ?_, fun q hq => tabS_own hp trivial (S.lab q hq), S.dj⟩
  · rw [upd_ne (fun z : a = p => h1 (by rw [← z]; exact List.mem_of_getElem? q2))]; exact hx
  · obtain ⟨u, e, w⟩ := S.own a ha
    exact ⟨u, by rw [upd_ne (fun z : a = p => h1 (by rw [← z]; exact ha))]; exact e, w⟩
  · by_cases z : a = p
    · subst z; exact ⟨h1, ys, upd_same⟩
    · obtain ⟨q1, vs, q2⟩ := S.dis a ha
      exact ⟨q1, vs, by rw [upd_ne z]; exact q2⟩
  · obtain ⟨ps, e, w⟩ := S.tab P hP
    exact ⟨ps, by rw [upd_ne (ne_of e hp (by intro z; cases z))]; exact e, w⟩
end
/-- the slots' values -/
structure EnvR (G : G0) (μ : Mu) (H : Hp) (ρ : Rho) (σ : L2.St) : Prop where
  len : σ.length = ρ.length
  get : ∀ (i : Nat) (d : D), ρ[i]? = some (some d) → ∃ v, σ[i]? = some (some v) ∧ Rep G μ H d v
theorem EnvR.ext {G : G0} {μ μ' : Mu} {H H' : Hp} {ρ : Rho} {σ : L2.St} (E : EnvR G μ H ρ σ) (e : Ext G μ H μ' H') : EnvR G μ' H' ρ σ :=
  ⟨E.len, fun i d h => let ⟨v, h1, h2⟩ := E.get i d h; ⟨v, h1, h2.ext e⟩⟩
theorem EnvR.ext0 {G : G0} {μ μ' : Mu} {H H' : Hp} {ρ : Rho} {σ : L2.St} (E : EnvR G μ H ρ σ) (e : Ext0 G μ H μ' H') : EnvR G μ' H' ρ σ :=
  ⟨E.len, fun i d h => let ⟨v, h1, h2⟩ := E.get i d h; ⟨v, h1, h2.ext0 e⟩⟩
theorem EnvR.set {G : G0} {μ : Mu} {H : Hp} {ρ : Rho} {σ : L2.St} (E : EnvR G μ H ρ σ) {i : Nat} {d : D} {v : V} (r : Rep G μ H d v) : EnvR G μ H (ρ.set i (some d)) (σ.set i (some v)) :=
  ⟨by simp [E.len], fun j e h => by
    by_cases hj : j = i
    · subst hj
      have hl : j < ρ.length := by
        have := (List.getElem?_eq_some_iff.mp h).1
        simpa using this
      rw [List.getElem?_set_self hl] at h
      cases h
      exact ⟨v, by rw [List.getElem?_set_self (by rw [E.len]; exact hl)], r⟩
    · rw [List.getElem?_set_ne (Ne.symm hj)] at h
      obtain ⟨w, h1, h2⟩ := E.get j e h
      exact ⟨w, by rw [List.getElem?_set_ne (Ne.symm hj)]; exact h1, h2⟩⟩
abbrev FE := Rho → Sto → Option (D × Sto)
abbrev FT := Rho → Sto → Option (Bool × Sto)
abbrev FA := Rho → Sto → Option (List D × Sto)
inductive Fl where
  | nx | rt (d : D) | bk | ct | ex (x : Xc)
/-- an exception as it lies: its class, its dict -/
def XRep (G : G0) (μ : Mu) (H : Hp) (x : Xc) (cls : Value) (d : Option Addr) : Prop := (∃ C, cls = .ref C ∧ G.mg x.cls = some (.ref C)) ∧ match x.fld with
  | none => True
  | some (f, e) => ∃ dd fs v, d = some dd ∧ H dd = some (.xd fs) ∧ fs.lookup f = some v ∧ Rep G μ H e v
theorem XRep.ext {G : G0} {μ μ' : Mu} {H H' : Hp} {x : Xc} {cls : Value} {d : Option Addr} (e : Ext G μ H μ' H') (h : XRep G μ H x cls d) : XRep G μ' H' x cls d := by
  refine ⟨h.1, ?_⟩
  have h := h.2
  cases q : x.fld with
  | none => trivial
  | some p =>
    rw [q] at h
    obtain ⟨dd, fs, v, h1, h2, h3, h4⟩ := h
    exact ⟨dd, fs, v, h1, e.xd _ _ h2 trivial, h3, h4.ext e⟩
abbrev FS := Rho → Sto → Option (Fl × Rho × Sto)
/-- what is wanted of a value and of what stands behind it -/
def After (G : G0) (μ : Mu) (H : Hp) (d : D) (st' : Sto) (Q : VK) : Prop := ∀ μ' H' v, Ext G μ H μ' H' → StR G μ' st' H' → Rep G μ' H' d v → Q v H'
def lift (G : G0) (f : FE) : TE := fun σ H Q => ∃ ρ μ st d st', EnvR G μ H ρ σ ∧ StR G μ st H ∧ f ρ st = some (d, st') ∧ After G μ H d st' Q
def liftT (G : G0) (f : FT) : TT := fun σ H Q => ∃ ρ μ st b st', EnvR G μ H ρ σ ∧ StR G μ st H ∧ f ρ st = some (b, st') ∧ ∀ μ' H', Ext G μ H μ' H' → StR G μ' st' H' → Q b H'
def liftA (G : G0) (f : FA) : TA := fun σ H Q => ∃ ρ μ st ds st', EnvR G μ H ρ σ ∧ StR G μ st H ∧ f ρ st = some (ds, st') ∧ ∀ μ' H' vs, Ext G μ H μ' H' → StR G μ' st' H' → Reps G μ' H' ds vs → Q vs H'
def endS (G : G0) (W : WX) (μ' : Mu) (H' : Hp) (E : Ends) (fl : Fl) (ρ' : Rho) : Prop := match fl with
  | .ex x => ∀ cls d σ', XRep G μ' H' x cls d → EnvR G μ' H' ρ' σ' → W cls d σ' H'
  | .nx => ∀ σ', EnvR G μ' H' ρ' σ' → E.nx σ' H'
  | .bk => ∀ σ', EnvR G μ' H' ρ' σ' → E.bk σ' H'
  | .ct => ∀ σ', EnvR G μ' H' ρ' σ' → E.ct σ' H'
  | .rt d => ∀ v, Rep G μ' H' d v → E.rt v H'
def liftS (G : G0) (W : WX) (f : FS) : TS := fun E σ H => ∃ ρ μ st fl ρ' st', EnvR G μ H ρ σ ∧ StR G μ st H ∧ f ρ st = some (fl, ρ', st') ∧ ∀ μ' H', Ext G μ H μ' H' → StR G μ' st' H' → endS G W μ' H' E fl ρ'
theorem PE.imp {X : Cx} {e : Expr} {t t' : TE} (h : PE X e t) (i : ∀ σ H Q, t' σ H Q → t σ H Q) : PE X e t' := ⟨fun pins s σ H Q I q => h.run pins s σ H Q I (i σ H Q q)⟩
theorem PT.imp {X : Cx} {e : Expr} {t t' : TT} (h : PT X e t) (i : ∀ σ H Q, t' σ H Q → t σ H Q) : PT X e t' := ⟨fun pins s σ H Q I q => h.run pins s σ H Q I (i σ H Q q)⟩
theorem PW.imp {X : Cx} {e : Expr} {t t' : TT} (h : PW X e t) (i : ∀ σ H Q, t' σ H Q → t σ H Q) : PW X e t' := ⟨fun wh pins s σ H Q I q => h.run wh pins s σ H Q I (i σ H Q q)⟩
theorem PA.imp {X : Cx} {e : List Expr} {t t' : TA} (h : PA X e t) (i : ∀ σ H Q, t' σ H Q → t σ H Q) : PA X e t' := ⟨fun pos pins s σ H Q I q => h.run pos pins s σ H Q I (i σ H Q q)⟩
theorem PS.imp {X : Cx} {e : Stmt} {t t' : TS} (h : PS X e t) (i : ∀ E σ H, t' E σ H → t E σ H) : PS X e t' := ⟨fun pins s σ H E I q => h.run pins s σ H E I (i E σ H q)⟩
theorem PSs.imp {X : Cx} {e : List Stmt} {t t' : TS} (h : PSs X e t) (i : ∀ E σ H, t' E σ H → t E σ H) : PSs X e t' := ⟨fun pins s σ H E I q => h.run pins s σ H E I (i E σ H q)⟩
theorem PG.imp {X : Cx} {e : Expr} {t t' : TG} (h : PG X e t) (i : ∀ v σ H Q, t' v σ H Q → t v σ H Q) : PG X e t' := ⟨fun pins s σ H v u Q I r q => h.run pins s σ H v u Q I r (i v σ H Q q)⟩
theorem OpR.imp {X : Cx} {f : Value → Value → Sem Value} {r r' : R2} (h : OpR X f r) (i : ∀ x y H Q, r' x y H Q → r x y H Q) : OpR X f r' := fun pins s σ H x y v u Q I rx ry q => h pins s σ H x y v u Q I rx ry (i x y H Q q)
theorem PI.imp {X : Cx} {tg e : Expr} {t t' : TI} (h : PI X tg e t) (i : ∀ σ H R, t' σ H R → t σ H R) : PI X tg e t' := ⟨fun pins s σ H R I q => h.run pins s σ H R I (i σ H R q)⟩
end EL
set_option Elab.async false
set_option linter.all false
set_option maxRecDepth 100000
set_option maxHeartbeats 1000000
namespace EL
open PySem PySem.Spec PyProof.Rows L2 GxR LG
/-- the context lies over the same written part -/
structure On (G : G0) (X : Cx) : Prop where
  prog : X.prog = G.P
  w : X.w = G.w
  mg : X.mg = G.mg
  base : X.base = G.base
  K : X.K = G.K
  calm : X.calm = true
section
variable {G : G0} {X : Cx} {pos : Pos} {a b c e : Expr} {fa fb fc : FE}
theorem After.trans {μ μ1 : Mu} {H H1 : Hp} {d : D} {st : Sto} {Q : VK} (x : Ext G μ H μ1 H1) (k : After G μ H d st Q) : After G μ1 H1 d st Q := fun μ' H' v y S R => k μ' H' v (x.trans y) S R
def fC (d : D) : FE := fun _ st => some (d, st)
theorem de_int {i : Int} {j : Nat} : PE X (.Constant (.int i) j pos) (lift G (fC (.int i))) := PE.imp pe_int fun σ H Q ⟨ρ, μ, st, d, st', E, S, e, k⟩ => by cases e; exact k μ H _ .refl S (.int i)
theorem de_bl {i : Bool} {j : Nat} : PE X (.Constant (.bool i) j pos) (lift G (fC (.bl i))) := PE.imp pe_bl fun σ H Q ⟨ρ, μ, st, d, st', E, S, e, k⟩ => by cases e; exact k μ H _ .refl S (.bl i)
theorem de_non {j : Nat} : PE X (.Constant .none j pos) (lift G (fC .non)) := PE.imp pe_non fun σ H Q ⟨ρ, μ, st, d, st', E, S, e, k⟩ => by cases e; exact k μ H _ .refl S .non
theorem de_str {i : Str} {j : Nat} : PE X (.Constant (.str i) j pos) (lift G (fC (.str i))) := PE.imp pe_str fun σ H Q ⟨ρ, μ, st, d, st', E, S, e, k⟩ => by cases e; exact k μ H _ .refl S (.str i)
def fV (i : Nat) : FE := fun ρ st => match ρ[i]? with
  | some (some d) => some (d, st)
  | _ => none
theorem de_var (i : Nat) {x : Str} (hN : X.N[i]? = some x) (hv : Vis X.env.scope x) (hd : (x == ("__debug__" : Str)) = false := by decide) (hcd : (x == ("__classdict__" : Str)) = false := by decide) : PE X (.Name x pos) (lift G (fV i)) :=
  PE.imp (pe_var hN hv hd hcd) fun σ H Q ⟨ρ, μ, st, d, st', E, S, e, k⟩ => by
    unfold fV at e
    split at e
    · rename_i d' h
      cases e
      obtain ⟨v, h1, h2⟩ := E.get i _ h
      exact ⟨v, h1, k μ H v .refl S h2⟩
    · cases e
/-- a module's constant: a number -/
theorem de_gint {x : Str} {i : Int} {t : Tok} (hg : Gl X x) (hm : X.mg x = some (.int i t)) (hd : (x == ("__debug__" : Str)) = false := by decide) : PE X (.Name x pos) (lift G (fC (.int i))) :=
  PE.imp (pe_glob (v := .int i) hg hm ⟨t, rfl⟩ hd) fun σ H Q ⟨ρ, μ, st, d, st', E, S, e, k⟩ => by cases e; exact k μ H _ .refl S (.int i)
def rD (G : G0) (h : D → D → Sto → Option (D × Sto)) : R2 := fun x y H Q => ∃ μ st c d z st', StR G μ st H ∧ Rep G μ H c x ∧ Rep G μ H d y ∧ h c d st = some (z, st') ∧ After G μ H z st' Q
def fOp (h : D → D → Sto → Option (D × Sto)) (fa fb : FE) : FE := fun ρ st => (fa ρ st).bind fun p => (fb ρ p.2).bind fun q => h p.1 q.1 q.2
theorem op_core {h : D → D → Sto → Option (D × Sto)} {σ : L2.St} {H : Hp} {Q : VK} (q : lift G (fOp h fa fb) σ H Q) : tOp (rD G h) (lift G fa) (lift G fb) σ H Q := by
  obtain ⟨ρ, μ, st, d, st', E, S, e, k⟩ := q
  unfold fOp at e
  cases e1 : fa ρ st with
  | none => rw [e1] at e; cases e
  | some p =>
    rw [e1] at e
    simp only [Option.bind_some] at e
    cases e2 : fb ρ p.2 with
    | none => rw [e2] at e; cases e
    | some q =>
      rw [e2] at e
      simp only [Option.bind_some] at e
      exact ⟨ρ, μ, st, p.1, p.2, E, S, e1, fun μ1 H1 v X1 S1 R1 => ⟨ρ, μ1, p.2, q.1, q.2, E.ext X1, S1, e2, fun μ2 H2 w X2 S2 R2 => ⟨μ2, q.2, p.1, q.1, d, st', S2, R1.ext X2, R2, e, (k.trans X1).trans X2⟩⟩⟩
theorem de_op {op : Operator} {h : D → D → Sto → Option (D × Sto)} (ho : OpR X (binaryOp op) (rD G h)) (ha : PE X a (lift G fa)) (hb : PE X b (lift G fb)) : PE X (.BinOp a op b pos) (lift G (fOp h fa fb)) :=
  PE.imp (pe_op ho ha hb) fun _ _ _ => op_core
theorem de_cmp {op : CmpOp} {h : D → D → Sto → Option (D × Sto)} (ho : OpR X (compareOp op) (rD G h)) (ha : PE X a (lift G fa)) (hb : PE X b (lift G fb)) (hm : behindInMarks op b = false) : PE X (.Compare a [op] [b] pos) (lift G (fOp h fa fb)) :=
  PE.imp (pe_cmpR ho ha hb hm) fun _ _ _ => op_core
theorem de_ix {h : D → D → Sto → Option (D × Sto)} (ho : IxR X (rD G h)) (ha : PE X a (lift G fa)) (hb : PE X b (lift G fb)) (hs : PlainIx b) : PE X (.Subscript a b pos) (lift G (fOp h fa fb)) :=
  PE.imp (pe_ix ho ha hb hs) fun _ _ _ => op_core
def fChain (h h' : D → D → Sto → Option (D × Sto)) (fa fb fc : FE) : FE := fun ρ st => (fa ρ st).bind fun p => (fb ρ p.2).bind fun q => (h p.1 q.1 q.2).bind fun r => match r.1 with
  | .bl true => (fc ρ r.2).bind fun z => h' q.1 z.1 z.2
  | .bl false => some (.bl false, r.2)
  | _ => none
theorem de_chain {op op' : CmpOp} {h h' : D → D → Sto → Option (D × Sto)} (ho : OpR X (compareOp op) (rD G h)) (ho' : OpR X (compareOp op') (rD G h')) (ha : PE X a (lift G fa)) (hb : PE X b (lift G fb)) (hc : PE X c (lift G fc))
    (hm : lastMarks [op, op'] [b, c] = false := by with_unfolding_all rfl) : PE X (.Compare a [op, op'] [b, c] pos) (lift G (fChain h h' fa fb fc)) :=
  PE.imp (pe_chain ho ho' ha hb hc hm) fun σ H Q ⟨ρ, μ, st, d, st', E, S, e, k⟩ => by
    unfold fChain at e
    obtain ⟨p, e1, e⟩ := Option.bind_eq_some_iff.mp e
    obtain ⟨q, e2, e⟩ := Option.bind_eq_some_iff.mp e
    obtain ⟨r, e3, e⟩ := Option.bind_eq_some_iff.mp e
    refine ⟨ρ, μ, st, p.1, p.2, E, S, e1, fun μ1 H1 v X1 S1 R1 => ⟨ρ, μ1, p.2, q.1, q.2, E.ext X1, S1, e2, fun μ2 H2 w X2 S2 R2 => ⟨μ2, q.2, p.1, q.1, r.1, r.2, S2, R1.ext X2, R2, e3, fun μ3 H3 u X3 S3 R3 => ?_⟩⟩⟩
    obtain ⟨rd, rs⟩ := r
    cases rd with
    | bl t =>
      cases R3
      refine ⟨t, rfl, ?_⟩
      cases t with
      | true =>
        rw [if_pos rfl]
        obtain ⟨z, e4, e⟩ := Option.bind_eq_some_iff.mp e
        exact ⟨ρ, μ3, rs, z.1, z.2, E.ext (X1.trans (X2.trans X3)), S3, e4, fun μ4 H4 u4 X4 S4 R4 => ⟨μ4, z.2, q.1, z.1, d, st', S4, R2.ext (X3.trans X4), R4, e, (((k.trans X1).trans X2).trans X3).trans X4⟩⟩
      | false =>
        rw [if_neg Bool.false_ne_true]
        cases e
        exact k μ3 H3 _ (X1.trans (X2.trans X3)) S3 (.bl false)
    | non => cases e
    | int _ => cases e
    | str _ => cases e
    | tup _ => cases e
    | ref _ => cases e
    | lst _ => cases e
    | scr _ => cases e
    | ty _ => cases e
    | pt _ => cases e
def asB : D → Option Bool
  | .bl b => some b
  | _ => none
theorem asB_rep {μ : Mu} {H : Hp} {d : D} {v : V} {b : Bool} (h : asB d = some b) (r : Rep G μ H d v) : v = .bl b := by
  cases d with
  | bl x => cases h; cases r; rfl
  | _ => cases h
def fAnd (fa fb : FE) : FE := fun ρ st => (fa ρ st).bind fun p => (asB p.1).bind fun k => if k = true then fb ρ p.2 else some (.bl false, p.2)
def fOr (fa fb : FE) : FE := fun ρ st => (fa ρ st).bind fun p => (asB p.1).bind fun k => if k = true then some (.bl true, p.2) else fb ρ p.2
def fNot (fa : FE) : FE := fun ρ st => (fa ρ st).bind fun p => (asB p.1).bind fun k => some (.bl (!k), p.2)
theorem de_one {op : BoolOp} (h : PE X a (lift G fa)) : PE X (.BoolOp op [a] pos) (lift G fa) := pe_one h
theorem de_and {rest : List Expr} (ha : PE X a (lift G fa)) (hb : PE X (.BoolOp .And (b :: rest) pos) (lift G fb)) : PE X (.BoolOp .And (a :: b :: rest) pos) (lift G (fAnd fa fb)) :=
  PE.imp (pe_and ha hb) fun σ H Q ⟨ρ, μ, st, d, st', E, S, e, k⟩ => by
    unfold fAnd at e
    obtain ⟨p, e1, e⟩ := Option.bind_eq_some_iff.mp e
    obtain ⟨t, e2, e⟩ := Option.bind_eq_some_iff.mp e
    refine ⟨ρ, μ, st, p.1, p.2, E, S, e1, fun μ1 H1 v X1 S1 R1 => ⟨t, asB_rep e2 R1, ?_⟩⟩
    cases t with
    | true => rw [if_pos rfl] at e ⊢; exact ⟨ρ, μ1, p.2, d, st', E.ext X1, S1, e, k.trans X1⟩
    | false => rw [if_neg Bool.false_ne_true] at e ⊢; cases e; exact k μ1 H1 _ X1 S1 (.bl false)
theorem de_not (ha : PE X a (lift G fa)) : PE X (.UnaryOp .Not a pos) (lift G (fNot fa)) :=
  PE.imp (pe_not ha) fun σ H Q ⟨ρ, μ, st, d, st', E, S, e, k⟩ => by
    unfold fNot at e
    obtain ⟨p, e1, e⟩ := Option.bind_eq_some_iff.mp e
    obtain ⟨t, e2, e⟩ := Option.bind_eq_some_iff.mp e
    cases e
    exact ⟨ρ, μ, st, p.1, p.2, E, S, e1, fun μ1 H1 v X1 S1 R1 => ⟨t, asB_rep e2 R1, k μ1 H1 _ X1 S1 (.bl _)⟩⟩
def fTst (fa : FE) : FT := fun ρ st => (fa ρ st).bind fun p => (asB p.1).bind fun k => some (k, p.2)
theorem dt_val (h : PE X e (lift G fa)) (he : ∀ whole, isTrue e X.env whole = (do let v ← whole; standAt e.pos; holding [v] (truthy v)) := by intro _; rfl) : PT X e (liftT G (fTst fa)) :=
  PT.imp (pt_val h he) fun σ H Q ⟨ρ, μ, st, d, st', E, S, e, k⟩ => by
    unfold fTst at e
    obtain ⟨p, e1, e⟩ := Option.bind_eq_some_iff.mp e
    obtain ⟨t, e2, e⟩ := Option.bind_eq_some_iff.mp e
    cases e
    exact ⟨ρ, μ, st, p.1, p.2, E, S, e1, fun μ1 H1 v X1 S1 R1 => ⟨_, asB_rep e2 R1, k μ1 H1 X1 S1⟩⟩
variable {ta tb : FT}
theorem dt_cmp {op : CmpOp} {h : D → D → Sto → Option (D × Sto)} (ho : OpR X (compareOp op) (rD G h)) (ha : PE X a (lift G fa)) (hb : PE X b (lift G fb)) (hm : behindInMarks op b = false) : PT X (.Compare a [op] [b] pos) (liftT G (fTst (fOp h fa fb))) :=
  PT.imp (pt_cmpR ho ha hb hm) fun σ H Q ⟨ρ, μ, st, d, st', E, S, e, k⟩ => by
    unfold fTst at e
    obtain ⟨p, e1, e⟩ := Option.bind_eq_some_iff.mp e
    obtain ⟨t, e2, e⟩ := Option.bind_eq_some_iff.mp e
    cases e
    exact op_core ⟨ρ, μ, st, p.1, p.2, E, S, e1, fun μ1 H1 v X1 S1 R1 => ⟨_, asB_rep e2 R1, k μ1 H1 X1 S1⟩⟩
theorem chain_core {h h' : D → D → Sto → Option (D × Sto)} {σ : L2.St} {H : Hp} {Q : VK} (q : lift G (fChain h h' fa fb fc) σ H Q) : tChain (rD G h) (rD G h') (lift G fa) (lift G fb) (lift G fc) σ H Q := by
  obtain ⟨ρ, μ, st, d, st', E, S, e, k⟩ := q
  unfold fChain at e
  obtain ⟨p, e1, e⟩ := Option.bind_eq_some_iff.mp e
  obtain ⟨q, e2, e⟩ := Option.bind_eq_some_iff.mp e
  obtain ⟨r, e3, e⟩ := Option.bind_eq_some_iff.mp e
  refine ⟨ρ, μ, st, p.1, p.2, E, S, e1, fun μ1 H1 v X1 S1 R1 => ⟨ρ, μ1, p.2, q.1, q.2, E.ext X1, S1, e2, fun μ2 H2 w X2 S2 R2 => ⟨μ2, q.2, p.1, q.1, r.1, r.2, S2, R1.ext X2, R2, e3, fun μ3 H3 u X3 S3 R3 => ?_⟩⟩⟩
  obtain ⟨rd, rs⟩ := r
  cases rd with
  | bl t =>
    cases R3
    refine ⟨t, rfl, ?_⟩
    cases t with
    | true =>
      rw [if_pos rfl]
      obtain ⟨z, e4, e⟩ := Option.bind_eq_some_iff.mp e
      exact ⟨ρ, μ3, rs, z.1, z.2, E.ext (X1.trans (X2.trans X3)), S3, e4, fun μ4 H4 u4 X4 S4 R4 => ⟨μ4, z.2, q.1, z.1, d, st', S4, R2.ext (X3.trans X4), R4, e, (((k.trans X1).trans X2).trans X3).trans X4⟩⟩
    | false =>
      rw [if_neg Bool.false_ne_true]
      cases e
      exact k μ3 H3 _ (X1.trans (X2.trans X3)) S3 (.bl false)
  | _ => cases e
theorem dt_chain {op op' : CmpOp} {h h' : D → D → Sto → Option (D × Sto)} (ho : OpR X (compareOp op) (rD G h)) (ho' : OpR X (compareOp op') (rD G h')) (ha : PE X a (lift G fa)) (hb : PE X b (lift G fb)) (hc : PE X c (lift G fc))
    (hm : lastMarks [op, op'] [b, c] = false := by with_unfolding_all rfl) : PT X (.Compare a [op, op'] [b, c] pos) (liftT G (fTst (fChain h h' fa fb fc))) :=
  PT.imp (pt_chain ho ho' ha hb hc hm) fun σ H Q ⟨ρ, μ, st, d, st', E, S, e, k⟩ => by
    unfold fTst at e
    obtain ⟨p, e1, e⟩ := Option.bind_eq_some_iff.mp e
    obtain ⟨t, e2, e⟩ := Option.bind_eq_some_iff.mp e
    cases e
    exact chain_core ⟨ρ, μ, st, p.1, p.2, E, S, e1, fun μ1 H1 v X1 S1 R1 => ⟨_, asB_rep e2 R1, k μ1 H1 X1 S1⟩⟩
def fTAnd (ta tb : FT) : FT := fun ρ st => (ta ρ st).bind fun p => if p.1 = true then tb ρ p.2 else some (false, p.2)
def fTOr (ta tb : FT) : FT := fun ρ st => (ta ρ st).bind fun p => if p.1 = true then some (true, p.2) else tb ρ p.2
def fTNot (ta : FT) : FT := fun ρ st => (ta ρ st).bind fun p => some (!p.1, p.2)
theorem dw_and1 (ha : PT X a (liftT G ta)) : PW X (.BoolOp .And [a] pos) (liftT G ta) := pw_and1 ha
theorem dw_or1 (ha : PT X a (liftT G ta)) : PW X (.BoolOp .Or [a] pos) (liftT G ta) := pw_or1 ha
theorem dw_and {rest : List Expr} (ha : PT X a (liftT G ta)) (hb : PW X (.BoolOp .And (b :: rest) pos) (liftT G tb)) : PW X (.BoolOp .And (a :: b :: rest) pos) (liftT G (fTAnd ta tb)) :=
  PW.imp (pw_and ha hb) fun σ H Q ⟨ρ, μ, st, d, st', E, S, e, k⟩ => by
    unfold fTAnd at e
    obtain ⟨p, e1, e⟩ := Option.bind_eq_some_iff.mp e
    refine ⟨ρ, μ, st, p.1, p.2, E, S, e1, fun μ1 H1 X1 S1 => ?_⟩
    cases hp : p.1 with
    | true => rw [hp] at e; rw [if_pos rfl] at e ⊢; exact ⟨ρ, μ1, p.2, d, st', E.ext X1, S1, e, fun μ2 H2 X2 S2 => k μ2 H2 (X1.trans X2) S2⟩
    | false => rw [hp] at e; rw [if_neg Bool.false_ne_true] at e ⊢; cases e; exact k μ1 H1 X1 S1
theorem dw_or {rest : List Expr} (ha : PT X a (liftT G ta)) (hb : PW X (.BoolOp .Or (b :: rest) pos) (liftT G tb)) : PW X (.BoolOp .Or (a :: b :: rest) pos) (liftT G (fTOr ta tb)) :=
  PW.imp (pw_or ha hb) fun σ H Q ⟨ρ, μ, st, d, st', E, S, e, k⟩ => by
    unfold fTOr at e
    obtain ⟨p, e1, e⟩ := Option.bind_eq_some_iff.mp e
    refine ⟨ρ, μ, st, p.1, p.2, E, S, e1, fun μ1 H1 X1 S1 => ?_⟩
    cases hp : p.1 with
    | true => rw [hp] at e; rw [if_pos rfl] at e ⊢; cases e; exact k μ1 H1 X1 S1
    | false => rw [hp] at e; rw [if_neg Bool.false_ne_true] at e ⊢; exact ⟨ρ, μ1, p.2, d, st', E.ext X1, S1, e, fun μ2 H2 X2 S2 => k μ2 H2 (X1.trans X2) S2⟩
theorem dt_not (ha : PT X a (liftT G ta)) : PT X (.UnaryOp .Not a pos) (liftT G (fTNot ta)) :=
  PT.imp (pt_not ha) fun σ H Q ⟨ρ, μ, st, d, st', E, S, e, k⟩ => by
    unfold fTNot at e
    obtain ⟨p, e1, e⟩ := Option.bind_eq_some_iff.mp e
    cases e
    exact ⟨ρ, μ, st, p.1, p.2, E, S, e1, fun μ1 H1 X1 S1 => k μ1 H1 X1 S1⟩
def fIf (ta : FT) (fa fb : FE) : FE := fun ρ st => (ta ρ st).bind fun p => if p.1 = true then fa ρ p.2 else fb ρ p.2
theorem de_if (hc : PT X c (liftT G ta)) (ha : PE X a (lift G fa)) (hb : PE X b (lift G fb)) : PE X (.IfExp c a b pos) (lift G (fIf ta fa fb)) :=
  PE.imp (pe_ifExp hc ha hb) fun σ H Q ⟨ρ, μ, st, d, st', E, S, e, k⟩ => by
    unfold fIf at e
    obtain ⟨p, e1, e⟩ := Option.bind_eq_some_iff.mp e
    refine ⟨ρ, μ, st, p.1, p.2, E, S, e1, fun μ1 H1 X1 S1 => ?_⟩
    cases hp : p.1 with
    | true => rw [hp] at e; rw [if_pos rfl] at e ⊢; exact ⟨ρ, μ1, p.2, d, st', E.ext X1, S1, e, k.trans X1⟩
    | false => rw [hp] at e; rw [if_neg Bool.false_ne_true] at e ⊢; exact ⟨ρ, μ1, p.2, d, st', E.ext X1, S1, e, k.trans X1⟩
variable {es : List Expr} {fr : FA}
def fNil : FA := fun _ st => some ([], st)
def fCons (fa : FE) (fr : FA) : FA := fun ρ st => (fa ρ st).bind fun p => (fr ρ p.2).bind fun q => some (p.1 :: q.1, q.2)
theorem da_nil : PA X [] (liftA G fNil) := PA.imp pa_nil fun σ H Q ⟨ρ, μ, st, d, st', E, S, e, k⟩ => by cases e; exact k μ H _ .refl S .nil
theorem da_cons (ha : PE X e (lift G fa)) (hr : PA X es (liftA G fr)) (hs : starEach (e :: es) X.env = (false, eval e X.env) :: starEach es X.env := by rfl) : PA X (e :: es) (liftA G (fCons fa fr)) :=
  PA.imp (pa_cons ha hr hs) fun σ H Q ⟨ρ, μ, st, d, st', E, S, e, k⟩ => by
    unfold fCons at e
    obtain ⟨p, e1, e⟩ := Option.bind_eq_some_iff.mp e
    obtain ⟨q, e2, e⟩ := Option.bind_eq_some_iff.mp e
    cases e
    exact ⟨ρ, μ, st, p.1, p.2, E, S, e1, fun μ1 H1 v X1 S1 R1 => ⟨ρ, μ1, p.2, q.1, q.2, E.ext X1, S1, e2, fun μ2 H2 vs X2 S2 R2 => k μ2 H2 _ (X1.trans X2) S2 (.cons (R1.ext X2) R2)⟩⟩
def fTup (fr : FA) : FE := fun ρ st => (fr ρ st).bind fun p => if p.1.length ≤ sizeLine then some (.tup p.1, p.2) else none
def fLst (fr : FA) : FE := fun ρ st => (fr ρ st).bind fun p => if p.1.length ≤ sizeLine then some (.ref p.2.length, p.2 ++ [.lst p.1]) else none
theorem rep_newL {μ : Mu} {st : Sto} {H : Hp} {p : Addr} {ds : List D} {vs : List V} (S : StR G μ st H) : Rep G (μ.add p) (upd H p (.lst vs)) (.ref st.length) (.ref p) := .ref (by show (μ.pl ++ [p])[st.length]? = some p; rw [← S.len]; simp)
theorem de_tup {j : Nat} (h : PA X es (liftA G fr)) : PE X (.Tuple es j pos) (lift G (fTup fr)) :=
  PE.imp (pe_tup h) fun σ H Q ⟨ρ, μ, st, d, st', E, S, e, k⟩ => by
    unfold fTup at e
    obtain ⟨p, e1, e⟩ := Option.bind_eq_some_iff.mp e
    split at e
    · rename_i hz
      cases e
      refine ⟨ρ, μ, st, p.1, p.2, E, S, e1, fun μ1 H1 vs X1 S1 R1 => ⟨by rw [← R1.length]; exact hz, fun q hq => ?_⟩⟩
      exact k μ1 _ _ (X1.trans (Ext.new S1 hq)) (S1.newT hq) (.tup upd_same (R1.ext (Ext.new S1 hq)))
    · cases e
theorem de_lst (h : PA X es (liftA G fr)) : PE X (.List es pos) (lift G (fLst fr)) :=
  PE.imp (pe_lst h) fun σ H Q ⟨ρ, μ, st, d, st', E, S, e, k⟩ => by
    unfold fLst at e
    obtain ⟨p, e1, e⟩ := Option.bind_eq_some_iff.mp e
    split at e
    · rename_i hz
      cases e
      refine ⟨ρ, μ, st, p.1, p.2, E, S, e1, fun μ1 H1 vs X1 S1 R1 => ⟨by rw [← R1.length]; exact hz, fun q hq => ?_⟩⟩
      exact k _ _ _ (X1.trans (Ext.newAt S1 hq)) (S1.newL hq R1) (rep_newL (ds := p.1) S1)
    · cases e
/-- a list that is not written later: by value -/
def fLz (fr : FA) : FE := fun ρ st => (fr ρ st).bind fun p => if p.1.length ≤ sizeLine then some (.lst p.1, p.2) else none
theorem rep_newZ {μ : Mu} {st : Sto} {H : Hp} {q : Addr} {ds : List D} {vs : List V} (S : StR G μ st H) (hq : H q = none) (R : Reps G μ H ds vs) : Rep G μ (upd H q (.lst vs)) (.lst ds) (.ref q) :=
  .lst ⟨upd_same, fun z => S.tracked z hq, fun z => S.hid_ne z hq rfl⟩ (R.ext (Ext.new S hq))
theorem de_lz (h : PA X es (liftA G fr)) : PE X (.List es pos) (lift G (fLz fr)) :=
  PE.imp (pe_lst h) fun σ H Q ⟨ρ, μ, st, d, st', E, S, e, k⟩ => by
    unfold fLz at e
    obtain ⟨p, e1, e⟩ := Option.bind_eq_some_iff.mp e
    split at e
    · rename_i hz
      cases e
      refine ⟨ρ, μ, st, p.1, p.2, E, S, e1, fun μ1 H1 vs X1 S1 R1 => ⟨by rw [← R1.length]; exact hz, fun q hq => ?_⟩⟩
      exact k _ _ _ (X1.trans (Ext.new S1 hq)) (S1.newT hq) (rep_newZ S1 hq R1)
    · cases e
/-- a list, wherever it stands -/
def listOf (d : D) (st : Sto) : Option (List D) := match d with
  | .lst ds => some ds
  | .ref l => match st[l]? with
    | some (.lst ds) => some ds
    | _ => none
  | _ => none
theorem list_rep {μ : Mu} {st : Sto} {H : Hp} {d : D} {ds : List D} {v : V} (S : StR G μ st H) (R : Rep G μ H d v) (e : listOf d st = some ds) : ∃ a vs, v = .ref a ∧ SqL G.K H a vs ∧ Reps G μ H ds vs := by
  cases R with
  | lst s r => cases e; exact ⟨_, _, rfl, s.sq, r⟩
  | ref h =>
    unfold listOf at e
    simp only at e
    split at e
    · rename_i hl
      cases e
      obtain ⟨vs, h1, h2⟩ := S.obj _ _ _ hl h
      exact ⟨_, vs, rfl, SqL.of h1, h2⟩
    · cases e
  | _ => cases e
/-- truth of any value -/
def truD (d : D) (st : Sto) : Option Bool := match d with
  | .non => some false
  | .bl b => some b
  | .int i => some (i != 0)
  | .tup ds => some (!ds.isEmpty)
  | .pt ds => some (!ds.isEmpty)
  | .lst ds => some (!ds.isEmpty)
  | .ref l => match st[l]? with
    | some (.lst ds) => some (!ds.isEmpty)
    | some (.dK kvs) => some (!kvs.isEmpty)
    | _ => none
  | _ => none
theorem reps_empty {μ : Mu} {H : Hp} {ds : List D} {vs : List V} (R : Reps G μ H ds vs) : ds.isEmpty = vs.isEmpty := by cases R <;> rfl
theorem tru_rep {μ : Mu} {st : Sto} {H : Hp} {d : D} {b : Bool} {v : V} (S : StR G μ st H) (R : Rep G μ H d v) (e : truD d st = some b) : TruV G.K v H b := by
  cases R with
  | non => cases e; rfl
  | bl b => cases e; rfl
  | int i => cases e; rfl
  | str x => cases e
  | tup s r => cases e; exact .inr (.inl ⟨_, SqT.of s, by rw [reps_empty r]⟩)
  | lst s r => cases e; exact .inl ⟨_, s.sq, by rw [reps_empty r]⟩
  | ty n => cases e
  | pt s d r => cases e; exact .inr (.inl ⟨_, .inl (.inr ⟨_, s⟩), by rw [reps_empty r]⟩)
  | scr s => cases e
  | ref h =>
    unfold truD at e
    simp only at e
    split at e
    · rename_i hl
      cases e
      obtain ⟨vs, h1, h2⟩ := S.obj _ _ _ hl h
      exact .inl ⟨_, SqL.of h1, by rw [reps_empty h2]⟩
    · rename_i hl
      cases e
      obtain ⟨vs, h1, h2⟩ := S.obj _ _ _ hl h
      refine .inr (.inr ⟨_, h1, ?_⟩)
      have := reps_empty h2.2
      simpa using congrArg not this
    · cases e
def fTru (fa : FE) : FT := fun ρ st => (fa ρ st).bind fun p => (truD p.1 p.2).bind fun k => some (k, p.2)
theorem dt_tru (o : On G X) (h : PE X e (lift G fa)) (he : ∀ whole, isTrue e X.env whole = (do let v ← whole; standAt e.pos; holding [v] (truthy v)) := by intro _; rfl) : PT X e (liftT G (fTru fa)) :=
  PT.imp (pt_truth h he) fun σ H Q ⟨ρ, μ, st, d, st', E, S, e, k⟩ => by
    unfold fTru at e
    obtain ⟨p, e1, e⟩ := Option.bind_eq_some_iff.mp e
    obtain ⟨t, e2, e⟩ := Option.bind_eq_some_iff.mp e
    cases e
    exact ⟨ρ, μ, st, p.1, p.2, E, S, e1, fun μ1 H1 v X1 S1 R1 => ⟨_, by rw [o.K]; exact tru_rep S1 R1 e2, k μ1 H1 X1 S1⟩⟩
end
end EL
set_option Elab.async false
set_option linter.all false
set_option maxRecDepth 100000
set_option maxHeartbeats 1000000
namespace EL
open PySem PySem.Spec PyProof.Rows L2 GxR LG
section
variable {G : G0} {W : WX} {X : Cx} {pos : Pos} {a b c e : Expr} {fa fb fc : FE} {ta tb : FT}
def sSeq (s1 s2 : FS) : FS := fun ρ st => (s1 ρ st).bind fun p => match p.1 with
  | .nx => s2 p.2.1 p.2.2
  | f => some (f, p.2.1, p.2.2)
def sNext : FS := fun ρ st => some (.nx, ρ, st)
def sSet (i : Nat) (fa : FE) : FS := fun ρ st => (fa ρ st).bind fun p => some (.nx, ρ.set i (some p.1), p.2)
def sExpr (fa : FE) : FS := fun ρ st => (fa ρ st).bind fun p => some (.nx, ρ, p.2)
def sRet (fa : FE) : FS := fun ρ st => (fa ρ st).bind fun p => some (.rt p.1, ρ, p.2)
def sCont : FS := fun ρ st => some (.ct, ρ, st)
def sIf (ta : FT) (s1 s2 : FS) : FS := fun ρ st => (ta ρ st).bind fun p => if p.1 = true then s1 ρ p.2 else s2 ρ p.2
variable {st1 : Stmt} {rest body orelse : List Stmt} {s1 s2 : FS}
theorem ds_nil : PSs X [] (liftS G W sNext) := PSs.imp pss_nil fun D σ H ⟨ρ, μ, st, fl, ρ', st', E, S, e, k⟩ => by
  cases e
  exact k μ H .refl S σ E
theorem ds_cons (h1 : PS X st1 (liftS G W s1)) (h2 : PSs X rest (liftS G W s2)) : PSs X (st1 :: rest) (liftS G W (sSeq s1 s2)) :=
  PSs.imp (pss_cons h1 h2) fun D σ H ⟨ρ, μ, st, fl, ρ', st', E, S, e, k⟩ => by
    unfold sSeq at e
    obtain ⟨⟨f1, ρ1, sto1⟩, e1, e⟩ := Option.bind_eq_some_iff.mp e
    refine ⟨ρ, μ, st, f1, ρ1, sto1, E, S, e1, fun μ1 H1 X1 S1 => ?_⟩
    cases f1 with
    | nx => exact fun σ1 E1 => ⟨ρ1, μ1, sto1, fl, ρ', st', E1, S1, e, fun μ2 H2 X2 S2 => k μ2 H2 (X1.trans X2) S2⟩
    | rt d => cases e; exact k μ1 H1 X1 S1
    | bk => cases e; exact k μ1 H1 X1 S1
    | ct => cases e; exact k μ1 H1 X1 S1
    | ex x => cases e; exact k μ1 H1 X1 S1
theorem ds_one (h1 : PS X st1 (liftS G W s1)) : PSs X [st1] (liftS G W s1) := pss_one h1
theorem ds_set {i : Nat} {x : Str} {pos' : Pos} (hN : X.N.Nodup) (hi : X.N[i]? = some x) (hx : Loc X.env.scope x) (he : PE X e (lift G fa)) (hs : swapsWith e (some (.Name x pos')) pos.line X.env = pure false := by rfl)
    (hf : X.fn x = true ∨ X.env.scope.names.lookup x = some .local := by first | exact .inl rfl | exact .inr rfl | assumption) : PS X (.Assign [.Name x pos'] e pos) (liftS G W (sSet i fa)) :=
  PS.imp (ps_set hN hi hx he hs hf) fun D σ H ⟨ρ, μ, st, fl, ρ', st', E, S, e, k⟩ => by
    unfold sSet at e
    obtain ⟨p, e1, e⟩ := Option.bind_eq_some_iff.mp e
    cases e
    exact ⟨ρ, μ, st, p.1, p.2, E, S, e1, fun μ1 H1 v X1 S1 R1 => k μ1 H1 X1 S1 _ ((E.ext X1).set R1)⟩
theorem ds_expr (he : PE X e (lift G fa)) (hs : swapsWith e none pos.line X.env = pure false := by rfl) : PS X (.Expr e pos) (liftS G W (sExpr fa)) :=
  PS.imp (ps_expr he hs) fun D σ H ⟨ρ, μ, st, fl, ρ', st', E, S, e, k⟩ => by
    unfold sExpr at e
    obtain ⟨p, e1, e⟩ := Option.bind_eq_some_iff.mp e
    cases e
    exact ⟨ρ, μ, st, p.1, p.2, E, S, e1, fun μ1 H1 v X1 S1 R1 => k μ1 H1 X1 S1 σ (E.ext X1)⟩
theorem ds_ret (he : PE X e (lift G fa)) : PS X (.Return (some e) pos) (liftS G W (sRet fa)) :=
  PS.imp (ps_ret he) fun D σ H ⟨ρ, μ, st, fl, ρ', st', E, S, e, k⟩ => by
    unfold sRet at e
    obtain ⟨p, e1, e⟩ := Option.bind_eq_some_iff.mp e
    cases e
    exact ⟨ρ, μ, st, p.1, p.2, E, S, e1, fun μ1 H1 v X1 S1 R1 => k μ1 H1 X1 S1 v R1⟩
theorem ds_if (hc : PT X c (liftT G ta)) (ha : PSs X body (liftS G W s1)) (hb : PSs X orelse (liftS G W s2)) : PS X (.If c body orelse pos) (liftS G W (sIf ta s1 s2)) :=
  PS.imp (ps_if hc ha hb) fun D σ H ⟨ρ, μ, st, fl, ρ', st', E, S, e, k⟩ => by
    unfold sIf at e
    obtain ⟨p, e1, e⟩ := Option.bind_eq_some_iff.mp e
    refine ⟨ρ, μ, st, p.1, p.2, E, S, e1, fun μ1 H1 X1 S1 => ?_⟩
    cases hp : p.1 with
    | true => rw [hp] at e; rw [if_pos rfl] at e ⊢; exact ⟨ρ, μ1, p.2, fl, ρ', st', E.ext X1, S1, e, fun μ2 H2 X2 S2 => k μ2 H2 (X1.trans X2) S2⟩
    | false => rw [hp] at e; rw [if_neg Bool.false_ne_true] at e ⊢; exact ⟨ρ, μ1, p.2, fl, ρ', st', E.ext X1, S1, e, fun μ2 H2 X2 S2 => k μ2 H2 (X1.trans X2) S2⟩
theorem ds_cont : PS X (.Continue pos) (liftS G W sCont) := PS.imp ps_continue fun D σ H ⟨ρ, μ, st, fl, ρ', st', E, S, e, k⟩ => by
  cases e
  exact k μ H .refl S σ E
inductive Tg where
  | one (i : Nat) | many (is : List Nat) | pr (i j k : Nat)
def gMany : List Nat → TGs
  | [] => gNil
  | i :: is => gCons (gName i) (gMany is)
def gOf (K : PySem.W.Frag) : Tg → TG
  | .one i => gName i
  | .many is => gTup K is.length (gMany is)
  | .pr i j k => gTup K 2 (gCons (gName i) (gCons (gTup K 2 (gMany [j, k])) gNil))
def setM : Rho → List Nat → List D → Rho
  | ρ, i :: is, d :: ds => setM (ρ.set i (some d)) is ds
  | ρ, _, _ => ρ
def tgD : Tg → D → Rho → Option Rho
  | .one i, d, ρ => some (ρ.set i (some d))
  | .many is, .tup ds, ρ => if ds.length = is.length then some (setM ρ is ds) else none
  | .pr i j k, .tup [d, .tup [e, f]], ρ => some (((ρ.set i (some d)).set j (some e)).set k (some f))
  | .pr _ _ _, _, _ => none
  | .many _, _, _ => none
def Tg.ins : Tg → List Nat
  | .one i => [i]
  | .many is => is
  | .pr i j k => [i, j, k]
theorem wipe_set_in {vs : List Nat} {i : Nat} (h : i ∈ vs) : ∀ (σ : L2.St) (x : Option V), wipe (σ.set i x) vs = wipe σ vs := by
  induction vs with
  | nil => simp at h
  | cons v vs ih =>
    intro σ x
    unfold wipe
    by_cases hv : i ∈ vs
    · rw [ih hv]
    · have e : i = v := by
        rcases List.mem_cons.mp h with h | h
        · exact h
        · exact absurd h hv
      subst e
      have q : ∀ (us : List Nat) (σ : L2.St), i ∉ us → wipe (σ.set i x) us = (wipe σ us).set i x := by
        intro us
        induction us with
        | nil => intro σ _; rfl
        | cons u us ih2 =>
          intro σ hu
          unfold wipe
          rw [ih2 σ (fun z => hu (List.mem_cons_of_mem _ z))]
          rw [List.set_comm _ _ (fun z => hu (by rw [z]; exact List.mem_cons_self))]
      rw [q vs σ hv, List.set_set]
theorem gMany_ok {μ : Mu} {H : Hp} {vs' : List Nat} : ∀ (is : List Nat) (ds : List D) (vs : List V) (ρ : Rho) (σ : L2.St) (Q : L2.St → Hp → Prop), Reps G μ H ds vs → EnvR G μ H ρ σ → ds.length = is.length →
    (∀ σ', EnvR G μ H (setM ρ is ds) σ' → ((∀ i ∈ is, i ∈ vs') → wipe σ' vs' = wipe σ vs') → Q σ' H) → gMany is vs σ H Q
  | [], [], _, ρ, σ, Q, .nil, E, _, k => ⟨rfl, k σ E fun _ => rfl⟩
  | i :: is, d :: ds, _, ρ, σ, Q, .cons (v := v) h t, E, hl, k => ⟨v, _, rfl, gMany_ok is ds _ (ρ.set i (some d)) (σ.set i (some v)) Q t (E.set h) (by simpa using hl) fun σ' E' w => k σ' E' fun hi => by
      rw [w fun j hj => hi j (List.mem_cons_of_mem _ hj), wipe_set_in (hi i List.mem_cons_self)]⟩
theorem gOf_ok {μ : Mu} {H : Hp} {vs' : List Nat} {tg : Tg} {d : D} {v : V} {ρ ρ' : Rho} {σ : L2.St} {Q : L2.St → Hp → Prop} (R : Rep G μ H d v) (E : EnvR G μ H ρ σ) (e : tgD tg d ρ = some ρ')
    (k : ∀ σ', EnvR G μ H ρ' σ' → ((∀ i ∈ tg.ins, i ∈ vs') → wipe σ' vs' = wipe σ vs') → Q σ' H) : gOf G.K tg v σ H Q := by
  cases tg with
  | one i =>
    cases e
    exact k _ (E.set R) fun hi => wipe_set_in (hi i (by simp [Tg.ins])) _ _
  | many is =>
    cases d with
    | tup ds =>
      have e' : (if ds.length = is.length then some (setM ρ is ds) else none) = some ρ' := e
      split at e'
      · rename_i hl
        cases e'
        cases R with
        | tup s r => exact ⟨_, _, rfl, SqT.of s, by rw [← r.length]; exact hl, gMany_ok is ds _ ρ σ Q r E hl k⟩
      · cases e'
    | _ => cases e
  | pr i j k' =>
    have hd : ∃ x y z, d = .tup [x, .tup [y, z]] ∧ ρ' = ((ρ.set i (some x)).set j (some y)).set k' (some z) := by
      unfold tgD at e
      split at e
      · rename_i h; cases h
      · rename_i h; cases h
      · rename_i h; cases h; cases e; exact ⟨_, _, _, rfl, rfl⟩
      · cases e
      · cases e
    obtain ⟨x, y, z, rfl, rfl⟩ := hd
    cases R with
    | tup s r =>
      cases r with
      | cons r1 r =>
        cases r with
        | cons r2 r3 =>
          cases r3
          cases r2 with
          | tup s2 q =>
            cases q with
            | cons q1 q =>
              cases q with
              | cons q2 q3 =>
                cases q3
                refine ⟨_, _, rfl, SqT.of s, rfl, _, _, rfl, _, _, rfl, _, _, rfl, SqT.of s2, rfl, _, _, rfl, _, _, rfl, rfl, rfl, k _ (((E.set r1).set q1).set q2) fun hi => ?_⟩
                rw [wipe_set_in (hi k' (by simp [Tg.ins])), wipe_set_in (hi j (by simp [Tg.ins])), wipe_set_in (hi i (by simp [Tg.ins]))]
theorem dg_name {i : Nat} {x : Str} (hN : X.N.Nodup) (hi : X.N[i]? = some x) (hx : Loc X.env.scope x) (hf : X.fn x = true ∨ X.env.scope.names.lookup x = some .local := by first | exact .inl rfl | exact .inr rfl | assumption) :
    PG X (.Name x pos) (gOf G.K (.one i)) := pg_name hN hi hx hf
theorem dgs_nil : PGs X [] (gMany []) := pgs_nil
theorem dgs_cons {es : List Expr} {i : Nat} {is : List Nat} {x : Str} (hN : X.N.Nodup) (hi : X.N[i]? = some x) (hx : Loc X.env.scope x) (h2 : PGs X es (gMany is))
    (hf : X.fn x = true ∨ X.env.scope.names.lookup x = some .local := by first | exact .inl rfl | exact .inr rfl | assumption)
    (ha : (assignEach (.Name x pos :: es) X.env).map (·.2) = assign (.Name x pos) X.env :: (assignEach es X.env).map (·.2) := by rfl) : PGs X (.Name x pos :: es) (gMany (i :: is)) := pgs_cons (pg_name hN hi hx hf) h2
theorem dg_tup {es : List Expr} {k : Nat} {is : List Nat} (o : On G X) (h : PGs X es (gMany is)) (hn : (assignEach es X.env).length = is.length := by rfl) (hst : (assignEach es X.env).findIdx? (·.1) = none := by rfl) : PG X (.Tuple es k pos) (gOf G.K (.many is)) := by
  show PG X _ (gTup G.K is.length (gMany is))
  rw [← o.K]
  exact pg_tup o.calm h hn hst
end
end EL
set_option Elab.async false
set_option linter.all false
set_option maxRecDepth 100000
set_option maxHeartbeats 1000000
namespace EL
open PySem PySem.Spec PyProof.Rows L2 GxR LG
section
variable {G : G0} {W : WX} {X : Cx} {pos : Pos} {a b c e tgt : Expr} {fa fb fc : FE} {ta tb : FT}
abbrev Src := List (Nat × List D)
def Intact (s : Src) (st : Sto) : Prop := ∀ p ∈ s, st[p.1]? = some (.lst p.2)
theorem Intact.nil {st : Sto} : Intact [] st := fun _ h => by simp at h
abbrev FI := Rho → Sto → Option (List D × Src × Sto)
/-- J hands out the items, while the source stands -/
def Feeds (G : G0) (J : It) (μ : Mu) (H : Hp) (items : List D) (src : Src) : Prop := ∀ μ' st' H' (i : Nat), Ext0 G μ H μ' H' → StR G μ' st' H' → Intact src st' →
  (i < items.length → J.go i H' ∧ ∀ x H'', J.yld i H' x H'' → ∃ d, items[i]? = some d ∧ Rep G μ' H'' d x ∧ StR G μ' st' H'' ∧ Ext G μ' H' μ' H'') ∧ (i = items.length → J.stop i H')
def liftI (G : G0) (f : FI) : TI := fun σ H R => ∃ ρ μ st items src st', EnvR G μ H ρ σ ∧ StR G μ st H ∧ f ρ st = some (items, src, st') ∧ ∀ μ' H' J, Ext G μ H μ' H' → StR G μ' st' H' → Feeds G J μ' H' items src → R J H'
theorem PI.or {w1 w2 : TI} (h1 : PI X tgt e w1) (h2 : PI X tgt e w2) : PI X tgt e (fun σ H R => w1 σ H R ∨ w2 σ H R) := ⟨fun pins s σ H R I h => by
  rcases h with h | h
  · exact h1.run pins s σ H R I h
  · exact h2.run pins s σ H R I h⟩
def signs (x : Str) : List D := x.cps.toList.map fun c => .str ⟨#[c]⟩
def iSeq (fa : FE) : FI := fun ρ st => (fa ρ st).bind fun p => match p.1 with
  | .tup ds => some (ds, [], p.2)
  | .pt ds => some (ds, [], p.2)
  | .ref l => match p.2[l]? with
    | some (.lst ds) => some (ds, [(l, ds)], p.2)
    | _ => none
  | .lst ds => some (ds, [], p.2)
  | .str x => some (signs x, [], p.2)
  | _ => none
theorem feeds_list {μ : Mu} {H : Hp} {l : Nat} {a : Addr} {ds : List D} (ha : μ.pl[l]? = some a) : Feeds G (Itl G.K a) μ H ds [(l, ds)] := by
  intro μ' st' H' i x S hi
  have hi' : st'[l]? = some (.lst ds) := hi (l, ds) (by simp)
  obtain ⟨vs, h1, h2⟩ := S.obj l _ a hi' (x.at_ _ _ ha)
  refine ⟨fun hl => ?_, fun hl => ⟨vs, SqL.of h1, by rw [← h2.length, hl]; exact Nat.le_refl _⟩⟩
  have hv : i < vs.length := by rw [← h2.length]; exact hl
  refine ⟨⟨vs, vs[i], SqL.of h1, by simp [hv]⟩, fun y H'' hy => ?_⟩
  obtain ⟨rfl, hy⟩ := hy
  obtain ⟨d, e1, e2⟩ := h2.get' i (hy vs (SqL.of h1))
  exact ⟨d, e1, e2, S, .refl⟩
theorem feeds_lz {μ : Mu} {H : Hp} {a : Addr} {ds : List D} {vs : List V} (s : Lz μ H a vs) (r : Reps G μ H ds vs) : Feeds G (Itl G.K a) μ H ds [] := by
  intro μ' st' H' i x S _
  have s' : SqL G.K H' a vs := (x.lst _ _ s).sq
  have r' := r.ext0 x
  refine ⟨fun hl => ?_, fun hl => ⟨vs, s', by rw [← r'.length, hl]; exact Nat.le_refl _⟩⟩
  have hv : i < vs.length := by rw [← r'.length]; exact hl
  refine ⟨⟨vs, vs[i], s', by simp [hv]⟩, fun y H'' hy => ?_⟩
  obtain ⟨rfl, hy⟩ := hy
  obtain ⟨d, e1, e2⟩ := r'.get' i (hy vs s')
  exact ⟨d, e1, e2, S, .refl⟩
theorem feeds_tup {μ : Mu} {H : Hp} {a : Addr} {ds : List D} {vs : List V} (s : H a = some (.tup vs)) (r : Reps G μ H ds vs) : Feeds G (Itt G.K a) μ H ds [] := by
  intro μ' st' H' i x S _
  have s' : SqT G.K H' a vs := SqT.of (x.tup _ _ s)
  have r' := r.ext0 x
  refine ⟨fun hl => ?_, fun hl => ⟨vs, s', by rw [← r'.length, hl]; exact Nat.le_refl _⟩⟩
  have hv : i < vs.length := by rw [← r'.length]; exact hl
  refine ⟨⟨vs, vs[i], s', by simp [hv]⟩, fun y H'' hy => ?_⟩
  obtain ⟨rfl, hy⟩ := hy
  obtain ⟨d, e1, e2⟩ := r'.get' i (hy vs s')
  exact ⟨d, e1, e2, S, .refl⟩
theorem feeds_pt {μ : Mu} {H : Hp} {a : Addr} {o : Obj} {ds : List D} {vs : List V} (s : H a = some (.frz o (.tup vs))) (r : Reps G μ H ds vs) : Feeds G (Itt G.K a) μ H ds [] := by
  intro μ' st' H' i x S _
  have s' : SqT G.K H' a vs := .inl (.inr ⟨_, x.fz _ _ _ s⟩)
  have r' := r.ext0 x
  refine ⟨fun hl => ?_, fun hl => ⟨vs, s', by rw [← r'.length, hl]; exact Nat.le_refl _⟩⟩
  have hv : i < vs.length := by rw [← r'.length]; exact hl
  refine ⟨⟨vs, vs[i], s', by simp [hv]⟩, fun y H'' hy => ?_⟩
  obtain ⟨rfl, hy⟩ := hy
  obtain ⟨d, e1, e2⟩ := r'.get' i (hy vs s')
  exact ⟨d, e1, e2, S, .refl⟩
theorem feeds_str {μ : Mu} {H : Hp} {x : Str} : Feeds G (Its x) μ H (signs x) [] := by
  intro μ' st' H' i ex S _
  have len : (signs x).length = x.cps.size := by simp [signs]
  refine ⟨fun hl => ⟨by rw [len] at hl; exact hl, fun y H'' hy => ?_⟩, fun hl => by rw [len] at hl; exact Nat.le_of_eq hl.symm⟩
  obtain ⟨rfl, c, hc, rfl⟩ := hy
  refine ⟨.str ⟨#[c]⟩, ?_, .str _, S, .refl⟩
  unfold signs
  rw [List.getElem?_map, Array.getElem?_toList, hc]
  rfl
theorem di_seq (o : On G X) (h : PE X e (lift G fa)) : PI X tgt e (liftI G (iSeq fa)) := by
  refine PI.imp (PI.or (pi_list h) (PI.or (pi_tup h) (pi_str h))) fun σ H R ⟨ρ, μ, st, items, src, st', E, S, e, k⟩ => ?_
  unfold iSeq at e
  obtain ⟨⟨d, s1⟩, e1, e⟩ := Option.bind_eq_some_iff.mp e
  cases d with
  | tup ds =>
    cases e
    refine .inr (.inl ⟨ρ, μ, st, _, _, E, S, e1, fun μ1 H1 v X1 S1 R1 => ?_⟩)
    cases R1 with
    | tup s r => exact ⟨_, rfl, ⟨_, by rw [o.K]; exact SqT.of s⟩, k μ1 H1 _ X1 S1 (by rw [o.K]; exact feeds_tup s r)⟩
  | pt ds =>
    cases e
    refine .inr (.inl ⟨ρ, μ, st, _, _, E, S, e1, fun μ1 H1 v X1 S1 R1 => ?_⟩)
    cases R1 with
    | pt s d r => exact ⟨_, rfl, ⟨_, by rw [o.K]; exact .inl (.inr ⟨_, s⟩)⟩, k μ1 H1 _ X1 S1 (by rw [o.K]; exact feeds_pt s r)⟩
  | lst ds =>
    cases e
    refine .inl ⟨ρ, μ, st, _, _, E, S, e1, fun μ1 H1 v X1 S1 R1 => ?_⟩
    cases R1 with
    | lst s r => exact ⟨_, rfl, ⟨_, by rw [o.K]; exact s.sq⟩, k μ1 H1 _ X1 S1 (by rw [o.K]; exact feeds_lz s r)⟩
  | str x =>
    cases e
    refine .inr (.inr ⟨ρ, μ, st, _, _, E, S, e1, fun μ1 H1 v X1 S1 R1 => ?_⟩)
    cases R1
    exact ⟨x, rfl, k μ1 H1 _ X1 S1 feeds_str⟩
  | ref l =>
    simp only at e
    split at e
    · rename_i ds hl
      cases e
      refine .inl ⟨ρ, μ, st, _, _, E, S, e1, fun μ1 H1 v X1 S1 R1 => ?_⟩
      cases R1 with
      | ref ha =>
        obtain ⟨vs, h1, _⟩ := S1.obj l _ _ hl ha
        exact ⟨_, rfl, ⟨vs, SqL.of h1⟩, k μ1 H1 _ X1 S1 (by rw [o.K]; exact feeds_list ha)⟩
    · cases e
  | _ => cases e
/-- range(n), range(a, b) -/
def rangeD (lo : Int) (n : Nat) : List D := (List.range n).map fun i => .int (lo + (i : Nat))
theorem feeds_range {μ : Mu} {H : Hp} (lo : Int) (n : Nat) : Feeds G (Itr lo n) μ H (rangeD lo n) [] := by
  intro μ' st' H' i ex S _
  have len : (rangeD lo n).length = n := by simp [rangeD]
  refine ⟨fun hl => ⟨by rw [len] at hl; exact hl, fun y H'' hy => ?_⟩, fun hl => by rw [len] at hl; exact Nat.le_of_eq hl.symm⟩
  obtain ⟨rfl, rfl⟩ := hy
  rw [len] at hl
  refine ⟨.int (lo + (i : Nat)), ?_, .int _, S, .refl⟩
  unfold rangeD
  rw [List.getElem?_map, List.getElem?_range hl]
  rfl
variable {fr : FA}
def iRange1 (fr : FA) : FI := fun ρ st => (fr ρ st).bind fun p => match p.1 with
  | [.int j] => if -(2 ^ 62) ≤ j ∧ j < 2 ^ 62 then some (rangeD 0 j.toNat, [], p.2) else none
  | _ => none
def iRange2 (fr : FA) : FI := fun ρ st => (fr ρ st).bind fun p => match p.1 with
  | [.int i, .int j] => if (-(2 ^ 62) ≤ i ∧ i < 2 ^ 62) ∧ -(2 ^ 62) ≤ j ∧ j < 2 ^ 62 then some (rangeD i (j - i).toNat, [], p.2) else none
  | _ => none
theorem di_range1 {p : Pos} (hg : Gl X "range") (hm : X.mg "range" = none) (ha : PA X [a] (liftA G fr)) (hs : starEach [a] X.env = [(false, eval a X.env)] := by rfl) : PI X tgt (.Call (.Name "range" p) [a] [] pos) (liftI G (iRange1 fr)) :=
  PI.imp (pi_range1 hg hm ha hs) fun σ H R ⟨ρ, μ, st, items, src, st', E, S, e, k⟩ => by
    unfold iRange1 at e
    obtain ⟨⟨ds, s1⟩, e1, e⟩ := Option.bind_eq_some_iff.mp e
    refine ⟨ρ, μ, st, ds, s1, E, S, e1, fun μ1 H1 vs X1 S1 R1 => ?_⟩
    simp only at e
    split at e
    · rename_i j
      split at e
      · rename_i hj
        cases e
        cases R1 with
        | cons h t => cases h; cases t; exact ⟨j, rfl, hj.1, hj.2, k μ1 H1 _ X1 S1 (feeds_range 0 _)⟩
      · cases e
    · cases e
theorem di_range2 {p : Pos} (hg : Gl X "range") (hm : X.mg "range" = none) (ha : PA X [a, b] (liftA G fr)) (hs : starEach [a, b] X.env = [(false, eval a X.env), (false, eval b X.env)] := by rfl) (hs2 : starEach [b] X.env = [(false, eval b X.env)] := by rfl) :
    PI X tgt (.Call (.Name "range" p) [a, b] [] pos) (liftI G (iRange2 fr)) :=
  PI.imp (pi_range2 hg hm ha hs hs2) fun σ H R ⟨ρ, μ, st, items, src, st', E, S, e, k⟩ => by
    unfold iRange2 at e
    obtain ⟨⟨ds, s1⟩, e1, e⟩ := Option.bind_eq_some_iff.mp e
    refine ⟨ρ, μ, st, ds, s1, E, S, e1, fun μ1 H1 vs X1 S1 R1 => ?_⟩
    simp only at e
    split at e
    · rename_i i j
      split at e
      · rename_i hj
        cases e
        cases R1 with
        | cons h t => cases h; cases t with
          | cons h t => cases h; cases t; exact ⟨i, j, rfl, ⟨hj.1.1, hj.1.2, hj.2.1, hj.2.2⟩, k μ1 H1 _ X1 S1 (feeds_range i _)⟩
      · cases e
    · cases e
open Classical in
noncomputable def forD (tg : Tg) (b : FS) (src : Src) : List D → Rho → Sto → Option (Fl × Rho × Sto)
  | [], ρ, st => if Intact src st then some (.nx, ρ, st) else none
  | d :: ds, ρ, st => if Intact src st then (tgD tg d ρ).bind fun ρ1 => (b ρ1 st).bind fun q => match q.1 with
      | .nx => forD tg b src ds q.2.1 q.2.2
      | .ct => forD tg b src ds q.2.1 q.2.2
      | .bk => some (.nx, q.2.1, q.2.2)
      | .rt r => some (.rt r, q.2.1, q.2.2)
      | .ex x => some (.ex x, q.2.1, q.2.2)
    else none
noncomputable def sFor (fi : FI) (tg : Tg) (b : FS) : FS := fun ρ st => (fi ρ st).bind fun p => forD tg b p.2.1 p.1 ρ p.2.2
variable {body : List Stmt} {sb : FS} {fi : FI} {iter : Expr} {tg : Tg}
theorem ds_for (hp : PassesOwn (model X.prog X.w) X.A X.env X.xe) (o : On G X) (hi : PI X tgt iter (liftI G fi)) (hg : PG X tgt (gOf G.K tg)) (hb : PSs X body (liftS G W sb))
    (hs : ∀ x, foldedSetIterable iter X.env x = pure x := by intro _; rfl) : PS X (.For tgt iter body [] pos) (liftS G W (sFor fi tg sb)) :=
  PS.imp (ps_for hp o.calm hi hg hb hs) fun D0 σ H ⟨ρ, μ, st, fl, ρ', st', E, S, e, k⟩ => by
    unfold sFor at e
    obtain ⟨⟨items, src, s1⟩, e1, e⟩ := Option.bind_eq_some_iff.mp e
    refine ⟨ρ, μ, st, items, src, s1, E, S, e1, fun μ1 H1 J X1 S1 F => ?_⟩
    refine ⟨fun i m σ2 H2 => m = items.length - i ∧ i ≤ items.length ∧ ∃ ρ2 μ2 st2, EnvR G μ2 H2 ρ2 σ2 ∧ StR G μ2 st2 H2 ∧ Ext G μ1 H1 μ2 H2 ∧ forD tg sb src (items.drop i) ρ2 st2 = some (fl, ρ', st'),
      ⟨items.length, by simp, Nat.zero_le _, ρ, μ1, s1, E.ext X1, S1, .refl, by simpa using e⟩, ?_⟩
    rintro i m σ2 H2 ⟨rfl, hi2, ρ2, μ2, st2, E2, S2, X2, e2⟩
    by_cases hlt : i < items.length
    · have hd : items.drop i = items[i] :: items.drop (i + 1) := List.drop_eq_getElem_cons hlt
      rw [hd] at e2
      unfold forD at e2
      split at e2
      · rename_i hin
        obtain ⟨ρ3, e3, e2⟩ := Option.bind_eq_some_iff.mp e2
        obtain ⟨⟨f4, ρ4, st4⟩, e4, e2⟩ := Option.bind_eq_some_iff.mp e2
        obtain ⟨go, yl⟩ := (F μ2 st2 H2 i X2.to0 S2 hin).1 hlt
        refine .inr ⟨go, fun σ5 H5 => ∃ ρ5 μ5 st5, EnvR G μ5 H5 ρ5 σ5 ∧ StR G μ5 st5 H5 ∧ Ext G μ1 H1 μ5 H5 ∧ forD tg sb src (items.drop (i + 1)) ρ5 st5 = some (fl, ρ', st'), fun σ5 H5 h5 => ⟨items.length - (i + 1), by omega, rfl, hlt, h5⟩, fun x H3 hy => ?_⟩
        obtain ⟨d, ed, Rd, S3, X3⟩ := yl x H3 hy
        have ed' : d = items[i] := by
          rw [List.getElem?_eq_getElem hlt] at ed
          exact (Option.some.inj ed).symm
        subst ed'
        refine gOf_ok (vs' := []) Rd (E2.ext X3) e3 fun σ6 E6 _ => ?_
        refine ⟨ρ3, μ2, st2, f4, ρ4, st4, E6, S3, e4, fun μ7 H7 X7 S7 => ?_⟩
        have X17 : Ext G μ1 H1 μ7 H7 := X2.trans (X3.trans X7)
        cases f4 with
        | nx => exact fun σ7 E7 => ⟨ρ4, μ7, st4, E7, S7, X17, e2⟩
        | ct => exact fun σ7 E7 => ⟨ρ4, μ7, st4, E7, S7, X17, e2⟩
        | bk => cases e2; exact k μ7 H7 (X1.trans X17) S7
        | rt d => cases e2; exact k μ7 H7 (X1.trans X17) S7
        | ex x => cases e2; exact k μ7 H7 (X1.trans X17) S7
      · cases e2
    · have hi3 : i = items.length := by omega
      rw [hi3, List.drop_length] at e2
      unfold forD at e2
      split at e2
      · rename_i hin
        have stop := (F μ2 _ H2 i X2.to0 S2 hin).2 hi3
        cases e2
        exact .inl ⟨stop, k μ2 H2 (X1.trans X2) S2 σ2 E2⟩
      · cases e2
end
end EL
set_option Elab.async false
set_option linter.all false
set_option maxRecDepth 100000
set_option maxHeartbeats 1000000
namespace EL
open PySem PySem.Spec PyProof.Rows L2 GxR LG RZ
section
variable {G : G0} {W : WX} {X : Cx} {pos : Pos} {a b c e tgt : Expr} {fa fb fc : FE} {ta tb : FT} {fr : FA} {fi : FI} {iter : Expr} {tg : Tg}
def srcOf (d : D) (ds : List D) : Src := match d with
  | .ref l => [(l, ds)]
  | _ => []
/-- a list as it stands later, while its source stands -/
theorem live {μ : Mu} {st : Sto} {H : Hp} {d : D} {a : Addr} {ds : List D} (S : StR G μ st H) (R : Rep G μ H d (.ref a)) (e : listOf d st = some ds) :
    ∀ μ' st' H', Ext0 G μ H μ' H' → StR G μ' st' H' → Intact (srcOf d ds) st' → ∃ vs, SqL G.K H' a vs ∧ Reps G μ' H' ds vs := by
  intro μ' st' H' x S' hi
  cases R with
  | lst s r => cases e; exact ⟨_, (x.lst _ _ s).sq, r.ext0 x⟩
  | ref h =>
    have hi' := hi (_, ds) List.mem_cons_self
    obtain ⟨vs, h1, h2⟩ := S'.obj _ _ a hi' (x.at_ _ _ h)
    exact ⟨vs, SqL.of h1, h2⟩
  | tup s r => cases e
  | scr s => cases e
  | pt s d r => cases e
theorem intact_app {s t : Src} {st : Sto} : Intact (s ++ t) st ↔ Intact s st ∧ Intact t st := by
  constructor
  · intro h
    exact ⟨fun p hp => h p (List.mem_append_left _ hp), fun p hp => h p (List.mem_append_right _ hp)⟩
  · rintro ⟨h1, h2⟩ p hp
    rcases List.mem_append.mp hp with q | q
    · exact h1 p q
    · exact h2 p q
def wipeD (ρ : Rho) : List Nat → Rho
  | [] => ρ
  | v :: vs => (wipeD ρ vs).set v none
theorem wipe_get (σ : L2.St) : ∀ (vs : List Nat) (i : Nat), (wipe σ vs)[i]? = if i ∈ vs then (σ[i]?).map (fun _ => none) else σ[i]?
  | [], i => by simp [wipe]
  | v :: vs, i => by
    unfold wipe
    rw [List.getElem?_set]
    have ih := wipe_get σ vs i
    by_cases h : v = i
    · subst h
      rw [if_pos rfl]
      have hl := wipe_length σ vs
      by_cases hl2 : v < σ.length
      · simp [hl, hl2]
      · simp [hl, hl2]
    · rw [if_neg h, ih]
      by_cases hm : i ∈ vs
      · simp [hm]
      · simp [hm, Ne.symm h]
theorem wipe_idem (σ : L2.St) (vs : List Nat) : wipe (wipe σ vs) vs = wipe σ vs := by
  apply List.ext_getElem?
  intro i
  rw [wipe_get, wipe_get]
  by_cases h : i ∈ vs
  · simp only [h, if_true]
    cases σ[i]? <;> rfl
  · simp [h]
theorem wipeD_length (ρ : Rho) : ∀ vs : List Nat, (wipeD ρ vs).length = ρ.length
  | [] => rfl
  | v :: vs => by unfold wipeD; rw [List.length_set, wipeD_length ρ vs]
theorem wipeD_some {ρ : Rho} {i : Nat} {x : D} : ∀ {vs : List Nat}, (wipeD ρ vs)[i]? = some (some x) → ρ[i]? = some (some x) ∧ i ∉ vs
  | [], h => ⟨h, by simp⟩
  | v :: vs, h => by
    unfold wipeD at h
    rw [List.getElem?_set] at h
    split at h
    · split at h <;> cases h
    · rename_i hne
      obtain ⟨h1, h2⟩ := wipeD_some h
      exact ⟨h1, by simp [h2, Ne.symm hne]⟩
theorem EnvR.wipe {μ : Mu} {H : Hp} {ρ : Rho} {σ : L2.St} (E : EnvR G μ H ρ σ) (vs : List Nat) : EnvR G μ H (wipeD ρ vs) (L2.wipe σ vs) :=
  ⟨by rw [wipe_length, wipeD_length]; exact E.len, fun i d h => by
    obtain ⟨h1, h2⟩ := wipeD_some h
    obtain ⟨v, q1, q2⟩ := E.get i d h1
    exact ⟨v, by rw [wipe_get, if_neg h2]; exact q1, q2⟩⟩
open Classical in
noncomputable def lcD (tg : Tg) (tt : FT) (fe : FE) (l : Nat) (src : Src) (ρ : Rho) : List D → Sto → Option Sto
  | [], st => if Intact src st then some st else none
  | d :: ds, st => if Intact src st then (tgD tg d ρ).bind fun ρ1 => (tt ρ1 st).bind fun b => if b.1 = true then (fe ρ1 b.2).bind fun y => match y.2[l]? with
        | some (.lst acc) => if acc.length < sizeLine then lcD tg tt fe l src ρ ds (y.2.set l (.lst (acc ++ [y.1]))) else none
        | _ => none
      else lcD tg tt fe l src ρ ds b.2
    else none
noncomputable def fLc (fi : FI) (tg : Tg) (tt : FT) (fe : FE) (vs : List Nat) : FE := fun ρ st => (fi ρ st).bind fun p => (lcD tg tt fe p.2.2.length p.2.1 (wipeD ρ vs) p.1 (p.2.2 ++ [.lst []])).bind fun st' => some (.ref p.2.2.length, st')
def fYes : FT := fun _ st => some (true, st)
theorem lc_data {tt : FT} {fe : FE} {vs : List Nat} (hin : ∀ i ∈ tg.ins, i ∈ vs) {σ : L2.St} {H : Hp} {Q : VK} (q : lift G (fLc fi tg tt fe vs) σ H Q) : tLc (liftI G fi) (gOf G.K tg) (liftT G tt) (lift G fe) vs σ H Q := by
  obtain ⟨ρ, μ, st, d, st', E, S, e, k⟩ := q
  unfold fLc at e
  obtain ⟨⟨items, src, s1⟩, e1, e⟩ := Option.bind_eq_some_iff.mp e
  obtain ⟨sf, e2, e⟩ := Option.bind_eq_some_iff.mp e
  obtain ⟨rfl, rfl⟩ : D.ref s1.length = d ∧ sf = st' := by
    have q := Option.some.inj e
    exact ⟨congrArg Prod.fst q, congrArg Prod.snd q⟩
  refine ⟨ρ, μ, st, items, src, s1, E, S, e1, fun μ1 H1 J X1 S1 F Da hD => ?_⟩
  have XD : Ext G μ1 H1 (μ1.add Da) (upd H1 Da (.lst [])) := Ext.newAt S1 hD
  have atD : (μ1.add Da).pl[s1.length]? = some Da := by show (μ1.pl ++ [Da])[s1.length]? = some Da; rw [← S1.len]; simp
  refine ⟨fun i m H2 => m = items.length - i ∧ i ≤ items.length ∧ ∃ μ2 st2, StR G μ2 st2 H2 ∧ Ext G (μ1.add Da) (upd H1 Da (.lst [])) μ2 H2 ∧ lcD tg tt fe s1.length src (wipeD ρ vs) (items.drop i) st2 = some sf,
    ⟨items.length, by simp, Nat.zero_le _, μ1.add Da, _, S1.newL hD .nil, .refl, by simpa using e2⟩, ?_⟩
  rintro i m H2 ⟨rfl, hi2, μ2, st2, S2, X2, e3⟩
  have X12 : Ext G μ1 H1 μ2 H2 := XD.trans X2
  by_cases hlt : i < items.length
  · have hd : items.drop i = items[i] :: items.drop (i + 1) := List.drop_eq_getElem_cons hlt
    rw [hd] at e3
    unfold lcD at e3
    split at e3
    · rename_i hin2
      obtain ⟨ρ3, e4, e3⟩ := Option.bind_eq_some_iff.mp e3
      obtain ⟨⟨tb, s5⟩, e5, e3⟩ := Option.bind_eq_some_iff.mp e3
      obtain ⟨go, yl⟩ := (F μ2 st2 H2 i X12.to0 S2 hin2).1 hlt
      refine .inr ⟨go, fun H5 => ∃ μ5 st5, StR G μ5 st5 H5 ∧ Ext G (μ1.add Da) (upd H1 Da (.lst [])) μ5 H5 ∧ lcD tg tt fe s1.length src (wipeD ρ vs) (items.drop (i + 1)) st5 = some sf, fun H5 h5 => ⟨items.length - (i + 1), by omega, rfl, hlt, h5⟩, fun x H3 hy => ?_⟩
      obtain ⟨dd, ed, Rd, S3, X3⟩ := yl x H3 hy
      have ed' : dd = items[i] := by
        rw [List.getElem?_eq_getElem hlt] at ed
        exact (Option.some.inj ed).symm
      subst ed'
      have E3 : EnvR G μ2 H3 (wipeD ρ vs) (L2.wipe σ vs) := (E.ext (X1.trans (X12.trans X3))).wipe vs
      refine gOf_ok (vs' := vs) Rd E3 e4 fun σ6 E6 hw => ⟨(hw hin).trans (wipe_idem σ vs), ?_⟩
      refine ⟨ρ3, μ2, st2, tb, s5, E6, S3, e5, fun μ7 H7 X7 S7 => ?_⟩
      cases tb with
      | true =>
        rw [if_pos rfl] at e3 ⊢
        obtain ⟨⟨y, s8⟩, e8, e3⟩ := Option.bind_eq_some_iff.mp e3
        refine ⟨ρ3, μ7, s5, y, s8, E6.ext X7, S7, e8, fun μ9 H9 v X9 S9 R9 => ?_⟩
        simp only at e3
        split at e3
        · rename_i acc hacc
          split at e3
          · rename_i hz
            have XA : Ext G (μ1.add Da) (upd H1 Da (.lst [])) μ9 H9 := X2.trans (X3.trans (X7.trans X9))
            have hDa := XA.at atD
            obtain ⟨accV, h1, h2⟩ := S9.obj _ _ _ hacc hDa
            refine ⟨accV, h1, by rw [← h2.length]; exact hz, μ9, _, S9.setL hDa (h2.append (.cons R9 .nil)), XA.trans (Ext.set S9 hDa), e3⟩
          · cases e3
        · cases e3
      | false =>
        rw [if_neg Bool.false_ne_true] at e3 ⊢
        exact ⟨μ7, s5, S7, X2.trans (X3.trans X7), e3⟩
    · cases e3
  · have hi3 : i = items.length := by omega
    rw [hi3, List.drop_length] at e3
    unfold lcD at e3
    split at e3
    · rename_i hin2
      have stop := (F μ2 _ H2 i X12.to0 S2 hin2).2 hi3
      cases e3
      exact .inl ⟨stop, k μ2 H2 _ (X1.trans X12) S2 (.ref (X2.at atD))⟩
    · cases e3
open Classical in
/-- by value -/
noncomputable def lcZ (tg : Tg) (tt : FT) (fe : FE) (src : Src) (ρ : Rho) : List D → Sto → Option (List D × Sto)
  | [], st => if Intact src st then some ([], st) else none
  | d :: ds, st => if Intact src st then (tgD tg d ρ).bind fun ρ1 => (tt ρ1 st).bind fun b => if b.1 = true then (fe ρ1 b.2).bind fun y => (lcZ tg tt fe src ρ ds y.2).bind fun r => some (y.1 :: r.1, r.2)
      else lcZ tg tt fe src ρ ds b.2
    else none
noncomputable def fLcZ (fi : FI) (tg : Tg) (tt : FT) (fe : FE) (vs : List Nat) : FE := fun ρ st => (fi ρ st).bind fun p => (lcZ tg tt fe p.2.1 (wipeD ρ vs) p.1 p.2.2).bind fun r => if r.1.length ≤ sizeLine then some (.lst r.1, r.2) else none
theorem Ext.step {μ1 μ2 μ3 : Mu} {H1 H2 H3 : Hp} {Da : Addr} {hd : List Addr} (x : Ext G μ1 H1 ⟨μ2.pl, hd⟩ H2) (e : μ2.hd = Da :: hd) (hD : H1 Da = none) (y : Ext G μ2 H2 μ3 H3) : Ext G μ1 H1 ⟨μ3.pl, hd⟩ H3 := by
  obtain ⟨m1, p1⟩ := x.pre
  obtain ⟨m2, p2⟩ := y.pre
  refine ⟨⟨m1 ++ m2, by rw [p2]; show μ2.pl ++ m2 = _; rw [show μ2.pl = μ1.pl ++ m1 from p1, List.append_assoc]⟩, x.hid, fun a ha => ?_, fun a vs h => y.tup a vs (x.tup a vs h), fun a u h n m q => ?_, fun a u h q => y.xd a u (x.xd a u h q) q, fun a h => x.dom a (y.dom a h)⟩
  · have := x.hid
    simp only at this
    rw [y.kept a (by rw [e, this]; exact List.mem_cons_of_mem _ ha)]
    exact x.kept a ha
  · obtain ⟨h1, h2⟩ := x.raw a u h n m q
    refine y.raw a u h1 h2 (fun z => ?_) q
    have := x.hid
    simp only at this
    rw [e] at z
    rcases List.mem_cons.mp z with z | z
    · exact ne_of_none h hD z
    · rw [this] at z; exact m z
theorem Ext.stepSet {μ1 : Mu} {pl hd : List Addr} {H1 H2 : Hp} {Da : Addr} {xs ys : List V} (x : Ext G μ1 H1 ⟨pl, hd⟩ H2) (hD : H1 Da = none) (h2 : H2 Da = some (.lst xs)) (nd : Da ∉ μ1.hd) : Ext G μ1 H1 ⟨pl, hd⟩ (upd H2 Da (.lst ys)) := by
  refine ⟨x.pre, x.hid, fun a ha => ?_, fun b vs h => ?_, fun a u h n m q => ?_, fun a u h f => ?_, fun a h => x.dom a (dom_upd a h)⟩
  · rw [upd_ne (fun z : a = Da => nd (by rw [← z]; exact ha))]; exact x.kept a ha
  · have := x.tup b vs h
    rw [upd_ne (ne_of this h2 (by intro z; cases z))]; exact this
  · obtain ⟨h1, h3⟩ := x.raw a u h n m q
    exact ⟨by rw [upd_ne (ne_of_none h hD)]; exact h1, h3⟩
  · have := x.xd a u h f
    rw [upd_ne (ne_of this h2 (by intro z; subst z; exact f))]; exact this
theorem lcZ_data {tt : FT} {fe : FE} {vs : List Nat} (hin : ∀ i ∈ tg.ins, i ∈ vs) {σ : L2.St} {H : Hp} {Q : VK} (q : lift G (fLcZ fi tg tt fe vs) σ H Q) : tLc (liftI G fi) (gOf G.K tg) (liftT G tt) (lift G fe) vs σ H Q := by
  obtain ⟨ρ, μ, st, d, st', E, S, e, k⟩ := q
  unfold fLcZ at e
  obtain ⟨⟨items, src, s1⟩, e1, e⟩ := Option.bind_eq_some_iff.mp e
  obtain ⟨⟨ds, sf⟩, e2, e⟩ := Option.bind_eq_some_iff.mp e
  simp only at e
  split at e
  · rename_i hz
    obtain ⟨rfl, rfl⟩ : D.lst ds = d ∧ sf = st' := by
      have q := Option.some.inj e
      exact ⟨congrArg Prod.fst q, congrArg Prod.snd q⟩
    refine ⟨ρ, μ, st, items, src, s1, E, S, e1, fun μ1 H1 J X1 S1 F Da hD => ?_⟩
    have nD : Da ∉ μ1.hd := fun z => S1.hid_ne z hD rfl
    refine ⟨fun i m H2 => m = items.length - i ∧ i ≤ items.length ∧ ∃ μ2 st2 acc accV r, StR G μ2 st2 H2 ∧ Ext G μ1 H1 ⟨μ2.pl, μ1.hd⟩ H2 ∧ μ2.hd = Da :: μ1.hd ∧ H2 Da = some (.lst accV) ∧ Reps G μ2 H2 acc accV ∧ lcZ tg tt fe src (wipeD ρ vs) (items.drop i) st2 = some (r, sf) ∧ acc ++ r = ds,
      ⟨items.length, by simp, Nat.zero_le _, μ1.hide Da, s1, [], [], ds, S1.hide hD, Ext.bare nD hD .refl fun a ha => upd_ne (S1.hid_ne ha hD), rfl, upd_same, .nil, by simpa using e2, rfl⟩, ?_⟩
    rintro i m H2 ⟨rfl, hi2, μ2, st2, acc, accV, r, S2, X2, h2, hDa, RA, e3, er⟩
    have X2' : Ext0 G μ1 H1 μ2 H2 := by
      refine ⟨X2.to0.at_, X2.to0.tup, fun a vs h => ?_, fun a vs h => ?_, X2.to0.fz⟩
      · obtain ⟨q1, q2, q3⟩ := X2.to0.lst a vs h
        refine ⟨q1, q2, fun z => ?_⟩
        rw [h2] at z
        rcases List.mem_cons.mp z with z | z
        · exact ne_of_none h.1 hD z
        · exact q3 z
      · have q := X2.to0.lq a vs h
        rcases h with ⟨h, _⟩ | h
        · rcases q with ⟨q1, q2, q3⟩ | q
          · refine .inl ⟨q1, q2, fun z => ?_⟩
            rw [h2] at z
            rcases List.mem_cons.mp z with z | z
            · exact rd_ne hD h z
            · exact q3 z
          · exact .inr q
        · exact .inr h
    by_cases hlt : i < items.length
    · have hd : items.drop i = items[i] :: items.drop (i + 1) := List.drop_eq_getElem_cons hlt
      rw [hd] at e3
      unfold lcZ at e3
      split at e3
      · rename_i hin2
        obtain ⟨ρ3, e4, e3⟩ := Option.bind_eq_some_iff.mp e3
        obtain ⟨⟨tb, s5⟩, e5, e3⟩ := Option.bind_eq_some_iff.mp e3
        obtain ⟨go, yl⟩ := (F μ2 st2 H2 i X2' S2 hin2).1 hlt
        refine .inr ⟨go, fun H5 => ∃ μ5 st5 acc accV r, StR G μ5 st5 H5 ∧ Ext G μ1 H1 ⟨μ5.pl, μ1.hd⟩ H5 ∧ μ5.hd = Da :: μ1.hd ∧ H5 Da = some (.lst accV) ∧ Reps G μ5 H5 acc accV ∧ lcZ tg tt fe src (wipeD ρ vs) (items.drop (i + 1)) st5 = some (r, sf) ∧ acc ++ r = ds, fun H5 h5 => ⟨items.length - (i + 1), by omega, rfl, hlt, h5⟩, fun x H3 hy => ?_⟩
        obtain ⟨dd, ed, Rd, S3, X3⟩ := yl x H3 hy
        have ed' : dd = items[i] := by
          rw [List.getElem?_eq_getElem hlt] at ed
          exact (Option.some.inj ed).symm
        subst ed'
        have E3 : EnvR G μ2 H3 (wipeD ρ vs) (L2.wipe σ vs) := (((E.ext X1).ext0 X2').ext X3).wipe vs
        refine gOf_ok (vs' := vs) Rd E3 e4 fun σ6 E6 hw => ⟨(hw hin).trans (wipe_idem σ vs), ?_⟩
        refine ⟨ρ3, μ2, st2, tb, s5, E6, S3, e5, fun μ7 H7 X7 S7 => ?_⟩
        have mD : Da ∈ μ2.hd := by rw [h2]; exact List.mem_cons_self
        cases tb with
        | true =>
          rw [if_pos rfl] at e3
          show lift G fe σ6 H7 _
          obtain ⟨⟨y, s8⟩, e8, e3⟩ := Option.bind_eq_some_iff.mp e3
          obtain ⟨⟨r', sf'⟩, e9, e3⟩ := Option.bind_eq_some_iff.mp e3
          obtain ⟨rfl, rfl⟩ : y :: r' = r ∧ sf' = sf := by
            have q := Option.some.inj e3
            exact ⟨congrArg Prod.fst q, congrArg Prod.snd q⟩
          refine ⟨ρ3, μ7, s5, y, s8, E6.ext X7, S7, e8, fun μ9 H9 v X9 S9 R9 => ?_⟩
          have X29 : Ext G μ2 H2 μ9 H9 := X3.trans (X7.trans X9)
          have h9 : H9 Da = some (.lst accV) := (X29.kept Da mD).trans hDa
          have m9 : Da ∈ μ9.hd := by rw [X29.hid]; exact mD
          have R' := (RA.ext X29).append (.cons R9 .nil)
          refine ⟨accV, h9, ?_, μ9, s8, acc ++ [y], accV ++ [v], r', S9.hset m9, (X2.step h2 hD X29).stepSet hD h9 nD, by rw [X29.hid]; exact h2, upd_same, R'.ext0 (Ext0.hset m9 h9), e9, by rw [List.append_assoc]; exact er⟩
          rw [← RA.length]
          have : (acc ++ y :: r').length ≤ sizeLine := by rw [er]; exact hz
          simp at this
          omega
        | false =>
          rw [if_neg Bool.false_ne_true] at e3
          have X27 : Ext G μ2 H2 μ7 H7 := X3.trans X7
          exact ⟨μ7, s5, acc, accV, r, S7, X2.step h2 hD X27, by rw [X27.hid]; exact h2, (X27.kept Da mD).trans hDa, RA.ext X27, e3, er⟩
      · cases e3
    · have hi3 : i = items.length := by omega
      rw [hi3, List.drop_length] at e3
      unfold lcZ at e3
      split at e3
      · rename_i hin2
        have stop := (F μ2 _ H2 i X2' S2 hin2).2 hi3
        obtain ⟨rfl, rfl⟩ : ([] : List D) = r ∧ st2 = sf := by
          have q := Option.some.inj e3
          exact ⟨congrArg Prod.fst q, congrArg Prod.snd q⟩
        rw [List.append_nil] at er
        subst er
        have mD : Da ∈ μ2.hd := by rw [h2]; exact List.mem_cons_self
        exact .inl ⟨stop, k ⟨μ2.pl, μ1.hd⟩ H2 _ (X1.trans X2) (S2.bare h2) (.lst ⟨hDa, (S2.dis Da mD).1, nD⟩ (RA.ext0 (Ext0.bare h2)))⟩
      · cases e3
  · cases e
theorem tYes_of {σ : L2.St} {H : Hp} {Q : Bool → Hp → Prop} (q : liftT G fYes σ H Q) : tYes σ H Q := by
  obtain ⟨ρ, μ, st, b, st', E, S, e, k⟩ := q
  cases e
  exact k μ H .refl S
theorem dts_nil : PTs X [] (liftT G fYes) := ⟨fun pins s σ H Q I h => pts_nil.run pins s σ H Q I (tYes_of h)⟩
theorem dts_one (h : PT X c (liftT G ta)) : PTs X [c] (liftT G ta) := pts_one h
theorem de_lcZ {elt : Expr} {ifs : List Expr} {scope : Scope} {own : List (Str × Nat)} {tt : FT} {fe : FE} (o : On G X) (hN : X.N.Nodup) (hi : PI X tgt iter (liftI G fi)) (ok : BlkOk X.N X.env.scope scope own)
    (hg : ∀ (s : Shared) (H : Hp) (C : Addr) (cl : List (Str × Addr)) (fp : List Addr), PG (X.blk s H scope (compEnvC scope cl C X.env) fp) tgt (gOf G.K tg)) (ht : ∀ (s : Shared) (H : Hp) (C : Addr) (cl : List (Str × Addr)) (fp : List Addr), PTs (X.blk s H scope (compEnvC scope cl C X.env) fp) ifs (liftT G tt))
    (he : ∀ (s : Shared) (H : Hp) (C : Addr) (cl : List (Str × Addr)) (fp : List Addr), PE (X.blk s H scope (compEnvC scope cl C X.env) fp) elt (lift G fe)) (hin : ∀ i ∈ tg.ins, i ∈ own.map (·.2) := by decide) (hs : ∀ x, foldedSetIterable iter X.env x = pure x := by intro _; rfl) :
    PE X (.ListComp elt [⟨tgt, iter, ifs, 0⟩] scope pos) (lift G (fLcZ fi tg tt fe (own.map (·.2)))) :=
  PE.imp (pe_lc o.calm hN hi ok hg ht he hs) fun _ _ _ => lcZ_data hin
theorem On.blk (o : On G X) {s : Shared} {H : Hp} {scope : Scope} {cenv : Env} {fp : List Addr} : On G (X.blk s H scope cenv fp) := ⟨o.prog, o.w, o.mg, o.base, o.K, o.calm⟩
/-- y = [..] -/
theorem ds_setLc {i : Nat} {y : Str} {py spos : Pos} {elt : Expr} {ifs : List Expr} {scope : Scope} {own : List (Str × Nat)} {tt : FT} {fe : FE} (o : On G X) (hN : X.N.Nodup) (hy : X.N[i]? = some y) (hyl : X.env.scope.names.lookup y = some .local)
    (hsw : swapsWith (.ListComp elt [⟨tgt, iter, ifs, 0⟩] scope pos) (some (.Name y py)) spos.line X.env = pure true) (hi : PI X tgt iter (liftI G fi)) (ok : BlkOk X.N X.env.scope scope own)
    (hg : ∀ (s : Shared) (H : Hp) (C : Addr) (cl : List (Str × Addr)) (fp : List Addr), PG (X.blk s H scope (compEnvC scope cl C X.env) fp) tgt (gOf G.K tg)) (ht : ∀ (s : Shared) (H : Hp) (C : Addr) (cl : List (Str × Addr)) (fp : List Addr), PTs (X.blk s H scope (compEnvC scope cl C X.env) fp) ifs (liftT G tt))
    (he : ∀ (s : Shared) (H : Hp) (C : Addr) (cl : List (Str × Addr)) (fp : List Addr), PE (X.blk s H scope (compEnvC scope cl C X.env) fp) elt (lift G fe)) (hin : ∀ i ∈ tg.ins, i ∈ own.map (·.2) := by decide) (hs : ∀ x, foldedSetIterable iter X.env x = pure x := by intro _; rfl) :
    PS X (.Assign [.Name y py] (.ListComp elt [⟨tgt, iter, ifs, 0⟩] scope pos) spos) (liftS G W (sSet i (fLc fi tg tt fe (own.map (·.2))))) :=
  PS.imp (ps_setLc o.calm hN hy hyl hsw hi ok hg ht he hs) fun D0 σ H ⟨ρ, μ, st, fl, ρ', st', E, S, e, k⟩ => by
    unfold sSet at e
    obtain ⟨p, e1, e⟩ := Option.bind_eq_some_iff.mp e
    cases e
    exact lc_data hin ⟨ρ, μ, st, p.1, p.2, E, S, e1, fun μ1 H1 v X1 S1 R1 => k μ1 H1 X1 S1 _ ((E.ext X1).set R1)⟩
/-- y = [..], by value -/
theorem ds_setLcZ {i : Nat} {y : Str} {py spos : Pos} {elt : Expr} {ifs : List Expr} {scope : Scope} {own : List (Str × Nat)} {tt : FT} {fe : FE} (o : On G X) (hN : X.N.Nodup) (hy : X.N[i]? = some y) (hyl : X.env.scope.names.lookup y = some .local)
    (hsw : swapsWith (.ListComp elt [⟨tgt, iter, ifs, 0⟩] scope pos) (some (.Name y py)) spos.line X.env = pure true) (hi : PI X tgt iter (liftI G fi)) (ok : BlkOk X.N X.env.scope scope own)
    (hg : ∀ (s : Shared) (H : Hp) (C : Addr) (cl : List (Str × Addr)) (fp : List Addr), PG (X.blk s H scope (compEnvC scope cl C X.env) fp) tgt (gOf G.K tg)) (ht : ∀ (s : Shared) (H : Hp) (C : Addr) (cl : List (Str × Addr)) (fp : List Addr), PTs (X.blk s H scope (compEnvC scope cl C X.env) fp) ifs (liftT G tt))
    (he : ∀ (s : Shared) (H : Hp) (C : Addr) (cl : List (Str × Addr)) (fp : List Addr), PE (X.blk s H scope (compEnvC scope cl C X.env) fp) elt (lift G fe)) (hin : ∀ i ∈ tg.ins, i ∈ own.map (·.2) := by decide) (hs : ∀ x, foldedSetIterable iter X.env x = pure x := by intro _; rfl) :
    PS X (.Assign [.Name y py] (.ListComp elt [⟨tgt, iter, ifs, 0⟩] scope pos) spos) (liftS G W (sSet i (fLcZ fi tg tt fe (own.map (·.2))))) :=
  PS.imp (ps_setLc o.calm hN hy hyl hsw hi ok hg ht he hs) fun D0 σ H ⟨ρ, μ, st, fl, ρ', st', E, S, e, k⟩ => by
    unfold sSet at e
    obtain ⟨p, e1, e⟩ := Option.bind_eq_some_iff.mp e
    cases e
    exact lcZ_data hin ⟨ρ, μ, st, p.1, p.2, E, S, e1, fun μ1 H1 v X1 S1 R1 => k μ1 H1 X1 S1 _ ((E.ext X1).set R1)⟩
open Classical in
noncomputable def allD (tg : Tg) (fe : FE) (src : Src) : List D → Rho → Sto → Option (Bool × Sto)
  | [], _, st => if Intact src st then some (true, st) else none
  | d :: ds, ρ, st => if Intact src st then (tgD tg d ρ).bind fun ρ1 => (fe ρ1 st).bind fun y => (asB y.1).bind fun b => if b = true then allD tg fe src ds ρ1 y.2 else some (false, y.2) else none
def capD (cap : List (Option Nat)) (ρ : Rho) : Rho := cap.map fun o => o.bind fun j => (ρ[j]?).join
def capS (cap : List (Option Nat)) (σ : L2.St) : L2.St := cap.map fun o => o.bind fun j => (σ[j]?).join
noncomputable def fAllG (fi : FI) (tg : Tg) (fe : FE) (cap : List (Option Nat)) : FE := fun ρ st => (fi ρ st).bind fun p => (allD tg fe p.2.1 p.1 (capD cap ρ) p.2.2).bind fun q => some (.bl q.1, q.2)
theorem On.inner (o : On G X) {scope : Scope} {N : List Str} {k : Nat} {X' : Cx} (h : Inner X scope N k X') : On G X' := ⟨h.prog.trans o.prog, h.w.trans o.w, h.mg.trans o.mg, h.base.trans o.base, h.K.trans o.K, h.calm⟩
theorem de_all {cc P : Addr} {elt : Expr} {p gpos : Pos} {scope : Scope} {fe : FE} {k : Nat} {N : List Str} {cap : List (Option Nat)} (o : On G X) (hP : P ∈ G.Ps)
    (hr : Room (k + 1) X.A) (hg0 : Gl X "all") (hm : G.mg "all" = none) (TB : TabB G.base G.mg cc P) (hcode : X.env.code = .ref cc) (S : GSc X.env scope) (hi : PI X tgt iter (liftI G fi))
    (hcl : cap.length = N.length) (hcap : ∀ (i : Nat) (x : Str) (j : Nat), N[i]? = some x → cap[i]? = some (some j) → scope.names.lookup x = some .free ∧ X.N[j]? = some x ∧ (X.env.kindOf x = some .cell ∨ X.env.kindOf x = some .free))
    (hgt : ∀ X', Inner X scope N k X' → PG X' tgt (gOf G.K tg)) (hel : ∀ X', Inner X scope N k X' → PE X' elt (lift G fe))
    (hs : ∀ v, genFold iter X.env v = pure v := by intro _; rfl)
    (he : starEach [.GeneratorExp elt [⟨tgt, iter, [], 0⟩] scope gpos] X.env = (false, eval (.GeneratorExp elt [⟨tgt, iter, [], 0⟩] scope gpos) X.env) :: starEach [] X.env := by rfl) :
    PE X (.Call (.Name "all" p) [.GeneratorExp elt [⟨tgt, iter, [], 0⟩] scope gpos] [] pos) (lift G (fAllG fi tg fe cap)) := by
  refine PE.imp (pe_allG (P := P) hr hg0 (by rw [o.mg]; exact hm) o.calm (by rw [o.base, o.mg]; exact TB) hcode S hi hgt hel hs he) fun σ H Q ⟨ρ, μ, st, d, st', E, Sx, e, kk⟩ => ?_
  unfold fAllG at e
  obtain ⟨⟨items, src, s1⟩, e1, e⟩ := Option.bind_eq_some_iff.mp e
  obtain ⟨⟨res, sf⟩, e2, e⟩ := Option.bind_eq_some_iff.mp e
  obtain ⟨rfl, rfl⟩ : D.bl res = d ∧ sf = st' := by
    have q := Option.some.inj e
    exact ⟨congrArg Prod.fst q, congrArg Prod.snd q⟩
  refine ⟨ρ, μ, st, items, src, s1, E, Sx, e1, fun μ1 H1 J X1 S1 F => ⟨S1.tab P hP, capS cap σ, ⟨by simp [capS, hcl], fun i x v h1 h2 => ?_⟩, fun H2 tb => ?_⟩⟩
  · unfold capS at h2
    rw [List.getElem?_map] at h2
    cases hc : cap[i]? with
    | none => rw [hc] at h2; cases h2
    | some oj =>
      rw [hc] at h2
      cases oj with
      | none => simp at h2
      | some j =>
        obtain ⟨q1, q2, q3⟩ := hcap i x j h1 hc
        refine ⟨q1, j, q2, ?_, q3⟩
        simp only [Option.map_some, Option.bind_some, Option.some.injEq] at h2
        cases hj : σ[j]? with
        | none => rw [hj] at h2; cases h2
        | some w => rw [hj] at h2; simp at h2; rw [h2]
  · have hT := S1.tab P hP
    have S2 := S1.tabbed hP hT tb
    have X2 : Ext G μ1 H1 μ1 H2 := Ext.tabbed S1 hT tb
    have E0 : EnvR G μ1 H2 (capD cap ρ) (capS cap σ) := ⟨by simp [capS, capD], fun i dd h => by
      unfold capD at h
      rw [List.getElem?_map] at h
      cases hc : cap[i]? with
      | none => rw [hc] at h; cases h
      | some oj =>
        rw [hc] at h
        cases oj with
        | none => simp at h
        | some j =>
          simp only [Option.map_some, Option.bind_some, Option.some.injEq] at h
          cases hj : ρ[j]? with
          | none => rw [hj] at h; cases h
          | some w =>
            rw [hj] at h
            simp at h
            subst h
            obtain ⟨v, v1, v2⟩ := E.get j dd hj
            refine ⟨v, ?_, v2.ext (X1.trans X2)⟩
            unfold capS
            rw [List.getElem?_map, hc]
            simp [v1]⟩
    refine ⟨fun i m σ3 H3 => m = items.length - i ∧ i ≤ items.length ∧ ∃ ρ3 μ3 st3, EnvR G μ3 H3 ρ3 σ3 ∧ StR G μ3 st3 H3 ∧ Ext G μ1 H1 μ3 H3 ∧ allD tg fe src (items.drop i) ρ3 st3 = some (res, sf),
      ⟨items.length, by simp, Nat.zero_le _, capD cap ρ, μ1, s1, E0, S2, X2, by simpa using e2⟩, ?_⟩
    rintro i m σ3 H3 ⟨rfl, hi2, ρ3, μ3, st3, E3, S3, X3, e3⟩
    by_cases hlt : i < items.length
    · have hd : items.drop i = items[i] :: items.drop (i + 1) := List.drop_eq_getElem_cons hlt
      rw [hd] at e3
      unfold allD at e3
      split at e3
      · rename_i hin
        obtain ⟨ρ4, e4, e3⟩ := Option.bind_eq_some_iff.mp e3
        obtain ⟨⟨y, s5⟩, e5, e3⟩ := Option.bind_eq_some_iff.mp e3
        obtain ⟨t, e6, e3⟩ := Option.bind_eq_some_iff.mp e3
        obtain ⟨go, yl⟩ := (F μ3 st3 H3 i X3.to0 S3 hin).1 hlt
        refine .inr ⟨go, fun x H4 hy => ?_⟩
        obtain ⟨dd, ed, Rd, S4, X4⟩ := yl x H4 hy
        have ed' : dd = items[i] := by
          rw [List.getElem?_eq_getElem hlt] at ed
          exact (Option.some.inj ed).symm
        subst ed'
        refine gOf_ok (vs' := []) Rd (E3.ext X4) e4 fun σ6 E6 _ => ?_
        refine ⟨ρ4, μ3, st3, y, s5, E6, S4, e5, fun μ7 H7 v X7 S7 R7 => ⟨t, asB_rep e6 R7, ?_⟩⟩
        cases t with
        | true =>
          rw [if_pos rfl] at e3 ⊢
          exact ⟨items.length - (i + 1), by omega, rfl, hlt, ρ4, μ7, s5, E6.ext X7, S7, X3.trans (X4.trans X7), e3⟩
        | false =>
          rw [if_neg Bool.false_ne_true] at e3 ⊢
          cases e3
          exact kk μ7 H7 _ (X1.trans (X3.trans (X4.trans X7))) S7 (.bl false)
      · cases e3
    · have hi3 : i = items.length := by omega
      rw [hi3, List.drop_length] at e3
      unfold allD at e3
      split at e3
      · rename_i hin
        have stop := (F μ3 _ H3 i X3.to0 S3 hin).2 hi3
        cases e3
        exact .inl ⟨stop, kk μ3 H3 _ (X1.trans X3) S3 (.bl true)⟩
      · cases e3
end
end EL
set_option Elab.async false
set_option linter.all false
set_option maxRecDepth 100000
set_option maxHeartbeats 1000000
namespace EL
open PySem PySem.Spec PyProof.Rows L2 GxR LG
section
variable {G : G0} {W : WX} {X : Cx} {pos : Pos} {a b c e tgt : Expr} {es : List Expr} {fa fb fc : FE} {ta tb : FT} {fr : FA}
abbrev HA := List D → Sto → Option (D × Sto)
def rDA (G : G0) (h : HA) : List V → Hp → VK → Prop := fun vs H Q => ∃ μ st ds z st', StR G μ st H ∧ Reps G μ H ds vs ∧ h ds st = some (z, st') ∧ After G μ H z st' Q
def fCall (h : HA) (fr : FA) : FE := fun ρ st => (fr ρ st).bind fun p => h p.1 p.2
theorem call_core {h : HA} {σ : L2.St} {H : Hp} {Q : VK} (q : lift G (fCall h fr) σ H Q) : tCB (rDA G h) (liftA G fr) σ H Q := by
  obtain ⟨ρ, μ, st, d, st', E, S, e, k⟩ := q
  unfold fCall at e
  obtain ⟨p, e1, e⟩ := Option.bind_eq_some_iff.mp e
  exact ⟨ρ, μ, st, p.1, p.2, E, S, e1, fun μ1 H1 vs X1 S1 R1 => ⟨μ1, p.2, p.1, d, st', S1, R1, e, k.trans X1⟩⟩
theorem de_callB {id : String} {x : Str} {p : Pos} {h : HA} (o : On G X) (hc : CallR X (.builtin id) (rDA G h)) (hg : Gl X x) (hm : G.mg x = none) (hv : bootBuiltins x = some (.builtin id)) (ha : PA X (e :: es) (liftA G fr)) (hn : x ≠ "__name__" := by decide) (hdb : (x == ("__debug__" : Str)) = false := by decide)
    (he : starEach (e :: es) X.env = (false, eval e X.env) :: starEach es X.env := by rfl) (hpl : (backTo pos (starEach es X.env)).any (·.1) = false := by rfl) : PE X (.Call (.Name x p) (e :: es) [] pos) (lift G (fCall h fr)) :=
  PE.imp (pe_callB hc hg (by rw [o.mg]; exact hm) hv ha hn hdb he hpl) fun _ _ _ => call_core
theorem de_callTy {T : String} {x : Str} {p : Pos} {h : HA} (o : On G X) (hc : CallR X (.type T) (rDA G h)) (hg : Gl X x) (hm : G.mg x = none) (hv : bootBuiltins x = some (.type T)) (ha : PA X (e :: es) (liftA G fr)) (hn : x ≠ "__name__" := by decide) (hdb : (x == ("__debug__" : Str)) = false := by decide)
    (he : starEach (e :: es) X.env = (false, eval e X.env) :: starEach es X.env := by rfl) (hpl : (backTo pos (starEach es X.env)).any (·.1) = false := by rfl) : PE X (.Call (.Name x p) (e :: es) [] pos) (lift G (fCall h fr)) :=
  PE.imp (pe_callTy hc hg (by rw [o.mg]; exact hm) hv ha hn hdb he hpl) fun _ _ _ => call_core
/-- a built-in class as a value -/
theorem de_ty {T : String} {x : Str} (o : On G X) (hg : Gl X x) (hm : G.mg x = none) (hv : bootBuiltins x = some (.type T)) (hn : x ≠ "__name__" := by decide) (hd : (x == ("__debug__" : Str)) = false := by decide) : PE X (.Name x pos) (lift G (fC (.ty T))) :=
  PE.imp (pe_bltn (v := .ty T) hg (by rw [o.mg]; exact hm) hv rfl hn hd) fun σ H Q ⟨ρ, μ, st, d, st', E, S, e, k⟩ => by cases e; exact k μ H _ .refl S (.ty T)
def spD (G : G0) (n : Nat) (fn : HA) : Sp := fun vs H Q _ => ∃ μ st ds d st', ds.length = n ∧ StR G μ st H ∧ Reps G μ H ds vs ∧ fn ds st = some (d, st') ∧ After G μ H d st' Q
def fFn (n : Nat) (fn : HA) (fr : FA) : FE := fun ρ st => (fr ρ st).bind fun p => if p.1.length = n then fn p.1 p.2 else none
/-- how a def is called: its promise, and where it stands -/
structure Def (G : G0) (k : Nat) (x : Str) (n : Nat) (fn : HA) : Prop where
  ex : ∃ (f : Addr) (fd : FuncData) (ps : List Str), ps.length = n ∧ FnOk G.P G.w G.K G.mg G.base CX0 k f fd ps (spD G n fn) ∧ G.mg x = some (.ref f) ∧ PySem.W.keepIn G.K (.ref f) = true ∧ Binds G.K fd ps []
theorem Def.mono {j k : Nat} {x : Str} {n : Nat} {fn : HA} (F : Def G j x n fn) (h : j ≤ k) : Def G k x n fn := by
  obtain ⟨f, fd, ps, h1, h2, h3⟩ := F.ex
  exact ⟨f, fd, ps, h1, h2.mono h, h3⟩
theorem de_call {k n : Nat} {x : Str} {fn : HA} {p : Pos} (o : On G X) (F : Def G k x n fn) (hr : Room k X.A) (hg : Gl X x) (ha : PA X (e :: es) (liftA G fr)) (hdb : (x == ("__debug__" : Str)) = false := by decide)
    (he : starEach (e :: es) X.env = (false, eval e X.env) :: starEach es X.env := by rfl) (hpl : (backTo pos (starEach es X.env)).any (·.1) = false := by rfl) : PE X (.Call (.Name x p) (e :: es) [] pos) (lift G (fFn n fn fr)) := by
  obtain ⟨f, fd, ps, hl, F, hm, hk, hb⟩ := F.ex
  have F' : FnOk X.prog X.w X.K X.mg X.base CX0 k f fd ps (spD G n fn) := by rw [o.prog, o.w, o.K, o.mg, o.base]; exact F
  refine PE.imp (pe_call F' hr hg (by rw [o.mg]; exact hm) (by rw [o.K]; exact hk) (by rw [o.K]; exact hb) .nil pass0 ha hdb he hpl) fun σ H Q ⟨ρ, μ, st, d, st', E, S, e, kk⟩ => ?_
  unfold fFn at e
  obtain ⟨p, e1, e⟩ := Option.bind_eq_some_iff.mp e
  split at e
  · rename_i hz
    exact ⟨ρ, μ, st, p.1, p.2, E, S, e1, fun μ1 H1 vs X1 S1 R1 => ⟨μ1, p.2, p.1, d, st', hz, S1, by rw [List.append_nil]; exact R1, e, kk.trans X1⟩⟩
  · cases e
/-- a def's body as a function -/
def runD (N : Nat) (sb : FS) : HA := fun ds st => (sb (ds.map some ++ List.replicate (N - ds.length) none) st).bind fun p => match p.1 with
  | .rt d => some (d, p.2.2)
  | .nx => some (.non, p.2.2)
  | _ => none
theorem env_start {μ : Mu} {H : Hp} {N : List Str} {ds : List D} {vs : List V} (r : Reps G μ H ds vs) : EnvR G μ H (ds.map some ++ List.replicate (N.length - ds.length) none) (start N vs) := by
  have len := r.length
  refine ⟨by unfold L2.start; simp [len], fun i d h => ?_⟩
  by_cases hi : i < ds.length
  · rw [List.getElem?_append_left (by simpa using hi), List.getElem?_map] at h
    cases hd : ds[i]? with
    | none => rw [hd] at h; cases h
    | some d' =>
      rw [hd] at h
      cases h
      obtain ⟨v, h1, h2⟩ := r.get i hd
      refine ⟨v, ?_, h2⟩
      unfold L2.start
      rw [List.getElem?_append_left (by simp; omega), List.getElem?_map, h1]
      rfl
  · rw [List.getElem?_append_right (by simpa using hi), List.getElem?_replicate] at h
    split at h <;> cases h
/-- the context of a def's body -/
abbrev bodyCx (G : G0) (N : List Str) (qual : Str) (scope : Scope) (f : Addr) (cdv : Value) (A : Around) (outer : List Env) (s : Shared) (H : Hp) : Cx := (cxOf CX0 G.P G.w G.K G.mg G.base N qual scope f cdv A outer s H E0).nox
theorem On.body {N : List Str} {qual : Str} {scope : Scope} {f : Addr} {cdv : Value} {A : Around} {outer : List Env} {s : Shared} {H : Hp} : On G (bodyCx G N qual scope f cdv A outer s H) := ⟨rfl, rfl, rfl, rfl, rfl, rfl⟩
theorem fn_data {k : Nat} {f : Addr} {name qual : Str} {params : Arguments} {body : List Stmt} {scope : Scope} {kV doc pm cdv ct oc : Value} {an od : Option Addr} {osl : Array (Option Value)} {N ps : List Str} {sb : FS}
    (lk : G.K.lookup f = some ⟨oc, od, .func (PySem.W.fnOf name qual params body scope .none kV doc pm an cdv ct), osl⟩) (hcd : PySem.W.codeIn G.K cdv qual = true) (S : FnScope N ps scope)
    (hbody : ∀ (A : Around) (outer : List Env) (s : Shared) (H : Hp), Room k (A.deeper (envOfC qual scope s.heap.objs.size f cdv)) → PSs (bodyCx G N qual scope f cdv A outer s H) body (liftS G W sb)) :
    FnOk G.P G.w G.K G.mg G.base CX0 (k + 1) f (PySem.W.fnOf name qual params body scope .none kV doc pm an cdv ct) ps (spD G ps.length (runD N.length sb)) := by
  refine fn_of lk hcd S (fun vs H Q E h => ?_) fun A outer s H vs Q E hr hsp => ?_
  · obtain ⟨μ, st, ds, d, st', hl, _, r, _⟩ := h
    rw [← r.length]; exact hl
  · obtain ⟨μ, st, ds, d, st', hl, Sx, r, e, k2⟩ := hsp
    unfold runD at e
    obtain ⟨⟨fl, ρ', s1⟩, e1, e⟩ := Option.bind_eq_some_iff.mp e
    refine ⟨_, (show PSs (bodyCx G N qual scope f cdv A outer s H) body (liftS G W sb) from hbody A outer s H hr).nox, ?_⟩
    refine ⟨_, μ, st, fl, ρ', s1, env_start r, Sx, e1, fun μ1 H1 X1 S1 => ?_⟩
    cases fl with
    | rt dd => cases e; exact fun v Rv => k2 μ1 H1 v X1 S1 Rv
    | nx => cases e; exact fun σ' _ => k2 μ1 H1 .non X1 S1 .non
    | bk => cases e
    | ct => cases e
    | ex x => cases e
theorem def_of {k : Nat} {f : Addr} {name qual : Str} {params : Arguments} {body : List Stmt} {scope : Scope} {kV doc pm cdv ct oc : Value} {an od : Option Addr} {osl : Array (Option Value)} {N ps : List Str} {sb : FS}
    (lk : G.K.lookup f = some ⟨oc, od, .func (PySem.W.fnOf name qual params body scope .none kV doc pm an cdv ct), osl⟩) (hcd : PySem.W.codeIn G.K cdv qual = true) (S : FnScope N ps scope)
    (hm : G.mg name = some (.ref f)) (hk : PySem.W.keepIn G.K (.ref f) = true)
    (hb : ∀ us : List Value, us.length = ps.length → bindArgs (PySem.W.fnOf name qual params body scope .none kV doc pm an cdv ct) ⟨us, []⟩ = pure (ps.zip us))
    (hbody : ∀ (A : Around) (outer : List Env) (s : Shared) (H : Hp), Room k (A.deeper (envOfC qual scope s.heap.objs.size f cdv)) → PSs (bodyCx G N qual scope f cdv A outer s H) body (liftS G W sb)) : Def G (k + 1) name ps.length (runD N.length sb) :=
  ⟨f, _, ps, rfl, fn_data lk hcd S hbody, hm, hk, .all hb⟩
end
end EL
set_option Elab.async false
set_option linter.all false
set_option maxRecDepth 100000
set_option maxHeartbeats 1000000
namespace EL
open PySem PySem.Spec PyProof.Rows L2 GxR LG
def bI (b : Bool) : Int := if b = true then 1 else 0
theorem neg_bool {prog : Program} {w : World} {A : Around} {E : Value → Shared → Prop} {s : Shared} {b : Bool} {Q : Value → Shared → Prop} (h : Q (.int (-(bI b)) s.toks) { s with toks := s.toks + 1 }) : wpAny (model prog w) A (unaryOp .USub (.bool b)) Q E s :=
  unaryOp_gives (op := .USub) (PySem.typeIs_bool s b) rfl F.slot_bool_neg F.entry_int_neg (F.args_int_neg_1 _) (.of_eq rfl : Gives (Builtin.«int.__neg__» ⟨[.bool b], []⟩) (.int (-(bI b)))) h
section
variable {X : Cx}
theorem op_addB : OpR X (binaryOp .Add) (fun x y H Q => ∃ k j, x = .bl k ∧ y = .int j ∧ Q (.int (bI k + j)) H) := by
  intro pins s σ H x y v u Q I rx ry h
  obtain ⟨k, j, rfl, rfl, q⟩ := h
  obtain ⟨t, rfl⟩ := ry
  cases rx
  exact IntBool.add_bool_int ⟨.int (bI k + j), H, I.tok _, ⟨_, rfl⟩, q⟩
theorem op_subB : OpR X (binaryOp .Sub) (fun x y H Q => ∃ k j, x = .bl k ∧ y = .int j ∧ Q (.int (bI k - j)) H) := by
  intro pins s σ H x y v u Q I rx ry h
  obtain ⟨k, j, rfl, rfl, q⟩ := h
  obtain ⟨t, rfl⟩ := ry
  cases rx
  exact IntBool.sub_bool_int ⟨.int (bI k - j), H, I.tok _, ⟨_, rfl⟩, q⟩
theorem un_negB : UnR X (unaryOp .USub) (fun x H Q => (∃ i, x = .int i ∧ Q (.int (-i)) H) ∨ ∃ k, x = .bl k ∧ Q (.int (-(bI k))) H) := by
  intro pins s σ H x v Q I rx h
  rcases h with ⟨i, rfl, q⟩ | ⟨k, rfl, q⟩
  · exact un_neg pins s σ H _ v Q I rx ⟨i, rfl, q⟩
  · cases rx
    exact neg_bool ⟨.int (-(bI k)), H, I.tok _, ⟨_, rfl⟩, q⟩
end
end EL
set_option Elab.async false
set_option linter.all false
set_option maxRecDepth 100000
set_option maxHeartbeats 1000000
namespace EL
open PySem PySem.Spec PyProof.Rows L2 GxR LG
section
variable {G : G0} {X : Cx}
def addD : D → D → Sto → Option (D × Sto)
  | .int i, .int j, st => some (.int (i + j), st)
  | .str x, .str y, st => if x.length + y.length ≤ sizeLine then some (.str (x ++ y), st) else none
  | .tup xs, .tup ys, st => if xs.length + ys.length ≤ sizeLine then some (.tup (xs ++ ys), st) else none
  | .bl b, .int j, st => some (.int (bI b + j), st)
  | c, d, st => match listOf c st, listOf d st with
    | some xs, some ys => if xs.length + ys.length ≤ sizeLine then some (.lst (xs ++ ys), st) else none
    | _, _ => none
theorem list_rep' {μ : Mu} {st : Sto} {H : Hp} {d : D} {ds : List D} {v : V} (S : StR G μ st H) (R : Rep G μ H d v) (e : listOf d st = some ds) : ∃ a vs, v = .ref a ∧ H a = some (.lst vs) ∧ Reps G μ H ds vs := by
  cases R with
  | lst s r => cases e; exact ⟨_, _, rfl, s.1, r⟩
  | ref h =>
    unfold listOf at e
    simp only at e
    split at e
    · rename_i hl
      cases e
      obtain ⟨vs, h1, h2⟩ := S.obj _ _ _ hl h
      exact ⟨_, vs, rfl, h1, h2⟩
    · cases e
  | _ => cases e
theorem do_add (o : On G X) : OpR X (binaryOp .Add) (rD G addD) := by
  refine OpR.imp (op_add.or (op_add_str.or (op_cat.or (op_catA.or op_addB)))) fun x y H Q ⟨μ, st, c, d, z, st', S, Rc, Rd, e, k⟩ => ?_
  unfold addD at e
  split at e
  · cases e; cases Rc; cases Rd
    exact .inl ⟨_, _, rfl, rfl, k μ H _ .refl S (.int _)⟩
  · split at e
    · rename_i hz
      cases e; cases Rc; cases Rd
      exact .inr (.inl ⟨_, _, rfl, rfl, hz, k μ H _ .refl S (.str _)⟩)
    · cases e
  · split at e
    · rename_i hz
      cases e
      cases Rc with
      | tup s r => cases Rd with
        | tup s' r' =>
          refine .inr (.inr (.inr (.inl ⟨_, _, _, _, rfl, rfl, by rw [o.K]; exact SqT.of s, by rw [o.K]; exact SqT.of s', by rw [← r.length, ← r'.length]; exact hz, fun h => ?_, fun _ h => ?_, fun _ _ p hp => ?_⟩)))
          · subst h; cases r; exact k μ H _ .refl S (.tup s' r')
          · subst h; cases r'; rw [List.append_nil] at k; exact k μ H _ .refl S (.tup s r)
          · exact k μ _ _ (Ext.new S hp) (S.newT hp) (.tup upd_same ((r.append r').ext (Ext.new S hp)))
    · cases e
  · cases e; cases Rc; cases Rd
    exact .inr (.inr (.inr (.inr ⟨_, _, rfl, rfl, k μ H _ .refl S (.int _)⟩)))
  · split at e
    · rename_i hx hy
      split at e
      · rename_i hz
        cases e
        obtain ⟨a, us, rfl, u1, u2⟩ := list_rep' S Rc hx
        obtain ⟨b, ws, rfl, w1, w2⟩ := list_rep' S Rd hy
        refine .inr (.inr (.inl ⟨_, _, us, ws, rfl, rfl, u1, w1, by rw [← u2.length, ← w2.length]; exact hz, fun p hp => ?_⟩))
        exact k _ _ _ (Ext.new S hp) (S.newT hp) (rep_newZ S hp (u2.append w2))
      · cases e
    · cases e
def intOp (f : Int → Int → Option D) : D → D → Sto → Option (D × Sto)
  | .int i, .int j, st => (f i j).map fun d => (d, st)
  | _, _, _ => none
theorem intOp_ok {g : Value → Value → Sem Value} {C : Int → Int → Prop} {h : Int → Int → V} {f : Int → Int → Option D} (ho : OpR X g (rI C h)) (hf : ∀ i j d, f i j = some d → C i j ∧ ∀ μ H, Rep G μ H d (h i j)) : OpR X g (rD G (intOp f)) :=
  OpR.imp ho fun x y H Q ⟨μ, st, c, d, z, st', S, Rc, Rd, e, k⟩ => by
    unfold intOp at e
    split at e
    · rename_i i j
      obtain ⟨dd, e1, e2⟩ := Option.map_eq_some_iff.mp e
      cases e2; cases Rc; cases Rd
      obtain ⟨h1, h2⟩ := hf i j _ e1
      exact ⟨i, j, rfl, rfl, h1, k μ H _ .refl S (h2 μ H)⟩
    · cases e
def subD : D → D → Sto → Option (D × Sto)
  | .int i, .int j, st => some (.int (i - j), st)
  | .bl b, .int j, st => some (.int (bI b - j), st)
  | _, _, _ => none
theorem do_sub : OpR X (binaryOp .Sub) (rD G subD) := by
  refine OpR.imp (op_sub.or op_subB) fun x y H Q ⟨μ, st, c, d, z, st', S, Rc, Rd, e, k⟩ => ?_
  unfold subD at e
  split at e
  · cases e; cases Rc; cases Rd
    exact .inl ⟨_, _, rfl, rfl, k μ H _ .refl S (.int _)⟩
  · cases e; cases Rc; cases Rd
    exact .inr ⟨_, _, rfl, rfl, k μ H _ .refl S (.int _)⟩
  · cases e
/-- together less than a million bits -/
def mulD := intOp fun i j => if i.natAbs.log2 + j.natAbs.log2 < 1000000 then some (.int (i * j)) else none
theorem do_mul : OpR X (binaryOp .Mult) (rD G mulD) := intOp_ok op_mulW fun i j d e => by
  split at e
  · rename_i h; cases e; exact ⟨h, fun _ _ => .int _⟩
  · cases e
def fdivD := intOp fun i j => if 0 < j ∧ j.natAbs.log2 < 9000 then some (.int (i / j)) else none
theorem do_fdiv : OpR X (binaryOp .FloorDiv) (rD G fdivD) := intOp_ok op_fdivW fun i j d e => by
  split at e
  · rename_i h; cases e; exact ⟨h, fun _ _ => .int _⟩
  · cases e
def modD := intOp fun i j => if 0 < j then some (.int (i % j)) else none
theorem do_mod : OpR X (binaryOp .Mod) (rD G modD) := intOp_ok op_mod fun i j d e => by
  split at e
  · rename_i h; cases e; exact ⟨h, fun _ _ => .int _⟩
  · cases e
def powD := intOp fun i j => if 0 ≤ j ∧ j ≤ 1000000 ∧ i.natAbs < 2 ^ 64 then some (.int (i ^ j.toNat)) else none
theorem do_pow : OpR X (binaryOp .Pow) (rD G powD) := intOp_ok op_pow fun i j d e => by
  split at e
  · rename_i h; cases e; exact ⟨h, fun _ _ => .int _⟩
  · cases e
def ordD (f : Int → Int → Bool) (g : List Nat → List Nat → Bool) : D → D → Sto → Option (D × Sto)
  | .int i, .int j, st => some (.bl (f i j), st)
  | .str x, .str y, st => some (.bl (g x.cps.toList y.cps.toList), st)
  | _, _, _ => none
def ltD := ordD (fun i j => decide (i < j)) fun x y => decide (x < y)
def leD := ordD (fun i j => decide (i ≤ j)) fun x y => !decide (y < x)
def gtD := ordD (fun i j => decide (j < i)) fun x y => decide (y < x)
def geD := ordD (fun i j => decide (j ≤ i)) fun x y => !decide (x < y)
theorem ord_ok {op : CmpOp} {f : Int → Int → Bool} {g : List Nat → List Nat → Bool} (h1 : OpR X (compareOp op) (rI0 fun i j => .bl (f i j)))
    (h2 : OpR X (compareOp op) (fun x y H Q => ∃ i j, x = .str i ∧ y = .str j ∧ Q (.bl (g i.cps.toList j.cps.toList)) H)) : OpR X (compareOp op) (rD G (ordD f g)) :=
  OpR.imp (h1.or h2) fun x y H Q ⟨μ, st, c, d, z, st', S, Rc, Rd, e, k⟩ => by
    unfold ordD at e
    split at e
    · cases e; cases Rc; cases Rd
      exact .inl ⟨_, _, rfl, rfl, k μ H _ .refl S (.bl _)⟩
    · cases e; cases Rc; cases Rd
      exact .inr ⟨_, _, rfl, rfl, k μ H _ .refl S (.bl _)⟩
    · cases e
theorem do_lt : OpR X (compareOp .Lt) (rD G ltD) := ord_ok op_lt op_lt_str
theorem do_le : OpR X (compareOp .LtE) (rD G leD) := ord_ok op_le op_le_str
theorem do_gt : OpR X (compareOp .Gt) (rD G gtD) := ord_ok op_gt op_gt_str
theorem do_ge : OpR X (compareOp .GtE) (rD G geD) := ord_ok op_ge op_ge_str
mutual
def eqB : D → D → Bool
  | .non, .non => true
  | .bl a, .bl b => a == b
  | .bl a, .int j => bI a == j
  | .int i, .bl b => i == bI b
  | .int i, .int j => i == j
  | .str x, .str y => x == y
  | .lst xs, .lst ys => eqBs xs ys
  | .tup xs, .tup ys => eqBs xs ys
  | _, _ => false
def eqBs : List D → List D → Bool
  | [], [] => true
  | x :: xs, y :: ys => eqB x y && eqBs xs ys
  | _, _ => false
end
mutual
/-- data of at most this depth -/
def okB : Nat → D → Bool
  | _, .non => true
  | _, .bl _ => true
  | _, .int _ => true
  | _, .str x => PyData.strOk x
  | n + 1, .tup ds => okBs n ds
  | n + 1, .lst ds => okBs n ds
  | _, _ => false
def okBs : Nat → List D → Bool
  | _, [] => true
  | n, d :: ds => okB n d && okBs n ds
end
mutual
def pd : D → PyData
  | .bl b => .bool b
  | .int i => .int i
  | .str x => .str x
  | .tup ds => .tuple (pds ds)
  | .lst ds => .list (pds ds)
  | _ => .none
def pds : List D → List PyData
  | [] => []
  | d :: ds => pd d :: pds ds
end
mutual
theorem pd_ok {μ : Mu} {H : Hp} : ∀ {n : Nat} {d : D} {v : V}, okB n d = true → Rep G μ H d v → Dp G.K H v (pd d)
  | _, .non, _, _, .non => .non
  | _, .bl b, _, _, .bl _ => .bl b
  | _, .int i, _, _, .int _ => .int i
  | _, .str x, _, _, .str _ => .str x
  | n + 1, .tup ds, _, h, .tup s r => .tup (SqT.of s) (pds_ok (n := n) (by unfold okB at h; exact h) r)
  | 0, .tup ds, _, h, .tup s r => by unfold okB at h; cases h
  | n + 1, .lst ds, _, h, .lst s r => .lst s.sq (pds_ok (n := n) (by unfold okB at h; exact h) r)
  | 0, .lst ds, _, h, .lst s r => by unfold okB at h; cases h
  | n, .ref _, _, h, _ => by cases n <;> (unfold okB at h; cases h)
  | n, .scr _, _, h, _ => by cases n <;> (unfold okB at h; cases h)
  | n, .ty _, _, h, _ => by cases n <;> (unfold okB at h; cases h)
  | n, .pt _, _, h, _ => by cases n <;> (unfold okB at h; cases h)
theorem pds_ok {μ : Mu} {H : Hp} : ∀ {n : Nat} {ds : List D} {vs : List V}, okBs n ds = true → Reps G μ H ds vs → DpAll G.K H vs (pds ds)
  | _, [], _, _, .nil => .nil
  | n, d :: ds, _, h, .cons r t => by
    unfold okBs at h
    obtain ⟨h1, h2⟩ := Bool.and_eq_true_iff.mp h
    exact .cons (pd_ok h1 r) (pds_ok h2 t)
end
mutual
theorem ok_shape : ∀ {n : Nat} {d : D}, okB n d = true → (pd d).canLay0 = true ∧ (pd d).depth ≤ n
  | _, .non, _ => by simp [pd, PyData.canLay0, PyData.depth]
  | _, .bl b, _ => by simp [pd, PyData.canLay0, PyData.depth]
  | _, .int i, _ => by simp [pd, PyData.canLay0, PyData.depth]
  | _, .str x, h => by
    have h : PyData.strOk x = true := by unfold okB at h; exact h
    simp [pd, PyData.canLay0, PyData.depth, h]
  | n + 1, .tup ds, h => by
    obtain ⟨h1, h2⟩ := oks_shape (n := n) (ds := ds) (by unfold okB at h; exact h)
    simp only [pd, PyData.canLay0, PyData.depth]
    exact ⟨h1, by omega⟩
  | n + 1, .lst ds, h => by
    obtain ⟨h1, h2⟩ := oks_shape (n := n) (ds := ds) (by unfold okB at h; exact h)
    simp only [pd, PyData.canLay0, PyData.depth]
    exact ⟨h1, by omega⟩
  | 0, .tup ds, h => by unfold okB at h; cases h
  | 0, .lst ds, h => by unfold okB at h; cases h
  | n, .ref _, h => by cases n <;> (unfold okB at h; cases h)
  | n, .scr _, h => by cases n <;> (unfold okB at h; cases h)
  | n, .ty _, h => by cases n <;> (unfold okB at h; cases h)
  | n, .pt _, h => by cases n <;> (unfold okB at h; cases h)
theorem oks_shape : ∀ {n : Nat} {ds : List D}, okBs n ds = true → PyData.canLayAll0 (pds ds) = true ∧ PyData.depthAll (pds ds) ≤ n
  | _, [], _ => by simp [pds, PyData.canLayAll0, PyData.depthAll]
  | n, d :: ds, h => by
    unfold okBs at h
    obtain ⟨h1, h2⟩ := Bool.and_eq_true_iff.mp h
    obtain ⟨a1, a2⟩ := ok_shape h1
    obtain ⟨b1, b2⟩ := oks_shape h2
    simp only [pds, PyData.canLayAll0, PyData.depthAll, a1, b1, Bool.and_self]
    exact ⟨trivial, by omega⟩
end
mutual
theorem eqv_ok : ∀ {n m : Nat} {c d : D}, okB n c = true → okB m d = true → PyData.eqv (pd c) (pd d) = eqB c d
  | n, m, c, d, h1, h2 => by
    cases c with
    | ref _ => cases n <;> (unfold okB at h1; cases h1)
    | scr _ => cases n <;> (unfold okB at h1; cases h1)
    | ty _ => cases n <;> (unfold okB at h1; cases h1)
    | pt _ => cases n <;> (unfold okB at h1; cases h1)
    | tup xs => cases n with
      | zero => unfold okB at h1; cases h1
      | succ n => cases d with
        | ref _ => cases m <;> (unfold okB at h2; cases h2)
        | scr _ => cases m <;> (unfold okB at h2; cases h2)
        | ty _ => cases m <;> (unfold okB at h2; cases h2)
        | pt _ => cases m <;> (unfold okB at h2; cases h2)
        | tup ys => cases m with
          | zero => unfold okB at h2; cases h2
          | succ m =>
            have := eqvs_ok (n := n) (m := m) (cs := xs) (ds := ys) (by unfold okB at h1; exact h1) (by unfold okB at h2; exact h2)
            simp only [pd, PyData.eqv, eqB]; exact this
        | _ => simp [pd, PyData.eqv, eqB]
    | lst xs => cases n with
      | zero => unfold okB at h1; cases h1
      | succ n => cases d with
        | ref _ => cases m <;> (unfold okB at h2; cases h2)
        | scr _ => cases m <;> (unfold okB at h2; cases h2)
        | ty _ => cases m <;> (unfold okB at h2; cases h2)
        | pt _ => cases m <;> (unfold okB at h2; cases h2)
        | lst ys => cases m with
          | zero => unfold okB at h2; cases h2
          | succ m =>
            have := eqvs_ok (n := n) (m := m) (cs := xs) (ds := ys) (by unfold okB at h1; exact h1) (by unfold okB at h2; exact h2)
            simp only [pd, PyData.eqv, eqB]; exact this
        | _ => simp [pd, PyData.eqv, eqB]
    | _ => cases d with
      | ref _ => cases m <;> (unfold okB at h2; cases h2)
      | scr _ => cases m <;> (unfold okB at h2; cases h2)
      | ty _ => cases m <;> (unfold okB at h2; cases h2)
      | pt _ => cases m <;> (unfold okB at h2; cases h2)
      | _ => simp [pd, PyData.eqv, eqB, bI]
theorem eqvs_ok : ∀ {n m : Nat} {cs ds : List D}, okBs n cs = true → okBs m ds = true → PyData.eqvAll (pds cs) (pds ds) = eqBs cs ds
  | _, _, [], [], _, _ => by simp [pds, PyData.eqvAll, eqBs]
  | _, _, [], _ :: _, _, _ => by simp [pds, PyData.eqvAll, eqBs]
  | _, _, _ :: _, [], _, _ => by simp [pds, PyData.eqvAll, eqBs]
  | n, m, c :: cs, d :: ds, h1, h2 => by
    unfold okBs at h1 h2
    obtain ⟨a1, a2⟩ := Bool.and_eq_true_iff.mp h1
    obtain ⟨b1, b2⟩ := Bool.and_eq_true_iff.mp h2
    simp only [pds, PyData.eqvAll, eqBs, eqv_ok a1 b1, eqvs_ok a2 b2]
end
/-- a list of the store by its value -/
def byVal (d : D) (st : Sto) : D := match listOf d st with
  | some ds => .lst ds
  | none => d
theorem val_ok {μ : Mu} {st : Sto} {H : Hp} {d : D} {v : V} (S : StR G μ st H) (R : Rep G μ H d v) (h : okB 60 (byVal d st) = true) : Dp G.K H v (pd (byVal d st)) := by
  unfold byVal at h ⊢
  cases hl : listOf d st with
  | none => rw [hl] at h; exact pd_ok h R
  | some ds =>
    rw [hl] at h
    obtain ⟨a, vs, rfl, h1, h2⟩ := list_rep S R hl
    exact .lst h1 (pds_ok (n := 59) (by simp only at h; unfold okB at h; exact h) h2)
def eqW (neg : Bool) : D → D → Sto → Option (D × Sto) := fun c d st => if okB 60 (byVal c st) = true ∧ okB 60 (byVal d st) = true then some (.bl (if neg = true then !eqB (byVal c st) (byVal d st) else eqB (byVal c st) (byVal d st)), st) else none
def eqD := eqW false
def neD := eqW true
theorem shaped_ok {d : D} (h : okB 60 d = true) : SeqAt.shaped (pd d) = true := by
  obtain ⟨h1, h2⟩ := ok_shape h
  unfold SeqAt.shaped
  rw [h1]
  simp
  omega
theorem do_eq (o : On G X) {k : Nat} (hr : Room k X.A) : OpR X (compareOp .Eq) (rD G eqD) := OpR.imp (op_eqD hr.units) fun x y H Q ⟨μ, st, c, d, z, st', S, Rc, Rd, e, k⟩ => by
  unfold eqD eqW at e
  split at e
  · rename_i hs
    cases e
    refine ⟨_, _, by rw [o.K]; exact val_ok S Rc hs.1, by rw [o.K]; exact val_ok S Rd hs.2, shaped_ok hs.1, shaped_ok hs.2, ?_⟩
    rw [eqv_ok hs.1 hs.2]
    exact k μ H _ .refl S (.bl _)
  · cases e
theorem do_ne (o : On G X) {k : Nat} (hr : Room k X.A) : OpR X (compareOp .NotEq) (rD G neD) := OpR.imp (op_neD hr.units) fun x y H Q ⟨μ, st, c, d, z, st', S, Rc, Rd, e, k⟩ => by
  unfold neD eqW at e
  split at e
  · rename_i hs
    cases e
    refine ⟨_, _, by rw [o.K]; exact val_ok S Rc hs.1, by rw [o.K]; exact val_ok S Rd hs.2, shaped_ok hs.1, shaped_ok hs.2, ?_⟩
    rw [eqv_ok hs.1 hs.2]
    exact k μ H _ .refl S (.bl _)
  · cases e
def ixD : D → D → Sto → Option (D × Sto)
  | .tup ds, .int i, st => (atI ds i).map fun d => (d, st)
  | .str x, .int i, st => if x.length ≤ sizeLine then (atI x.cps.toList i).map fun c => (.str ⟨#[c]⟩, st) else none
  | .scr ns, .int i, st => (atI ns i).map fun n => (.int n, st)
  | c, .int i, st => (listOf c st).bind fun ds => (atI ds i).map fun d => (d, st)
  | _, _, _ => none
theorem atI_reps {μ : Mu} {H : Hp} {ds : List D} {vs : List V} {i : Int} {d : D} (r : Reps G μ H ds vs) (h : atI ds i = some d) : ∃ v, atI vs i = some v ∧ Rep G μ H d v := by
  unfold atI at h ⊢
  obtain ⟨j, e1, e2⟩ := Option.bind_eq_some_iff.mp h
  obtain ⟨v, h1, h2⟩ := r.get j e2
  exact ⟨v, by rw [← r.length, e1]; exact h1, h2⟩
end
section
variable {G : G0}
theorem IxR.imp {X : Cx} {r r' : R2} (h : IxR X r) (i : ∀ x y H Q, r' x y H Q → r x y H Q) : IxR X r' := fun va sl pins s σ H x y v u Q I rx ry q => h va sl pins s σ H x y v u Q I rx ry (i x y H Q q)
theorem do_ix {X : Cx} (o : On G X) : IxR X (rD G ixD) := by
  refine IxR.imp ix_seq fun x y H Q ⟨μ, st, c, d, z, st', S, Rc, Rd, e, k⟩ => ?_
  unfold ixD at e
  split at e
  · obtain ⟨dd, e1, e2⟩ := Option.map_eq_some_iff.mp e
    cases e2; cases Rd
    cases Rc with
    | tup s r =>
      obtain ⟨v, h1, h2⟩ := atI_reps r e1
      exact .inr (.inl ⟨_, _, _, v, rfl, rfl, by rw [o.K]; exact SqT.of s, h1, k μ H _ .refl S h2⟩)
  · split at e
    · rename_i hz
      obtain ⟨cc, e1, e2⟩ := Option.map_eq_some_iff.mp e
      cases e2; cases Rc; cases Rd
      exact .inr (.inr ⟨_, _, cc, rfl, rfl, hz, e1, k μ H _ .refl S (.str _)⟩)
    · cases e
  · rename_i ns i
    obtain ⟨n, e1, e2⟩ := Option.map_eq_some_iff.mp e
    cases e2; cases Rd
    cases Rc with
    | scr q =>
      refine .inl ⟨_, _, i, .int n, rfl, rfl, by rw [o.K]; exact q.sq, ?_, k μ H _ .refl S (.int n)⟩
      unfold atI at e1 ⊢
      obtain ⟨j, f1, f2⟩ := Option.bind_eq_some_iff.mp e1
      rw [List.length_map, f1]
      show (ns.map V.int)[j]? = _
      rw [List.getElem?_map, f2]
      rfl
  · obtain ⟨ds, e0, e⟩ := Option.bind_eq_some_iff.mp e
    obtain ⟨dd, e1, e2⟩ := Option.map_eq_some_iff.mp e
    cases e2; cases Rd
    obtain ⟨a, vs, rfl, h1, h2⟩ := list_rep S Rc e0
    obtain ⟨v, g1, g2⟩ := atI_reps h2 e1
    exact .inl ⟨_, _, _, v, rfl, rfl, by rw [o.K]; exact h1, g1, k μ H _ .refl S g2⟩
  · cases e
end
end EL
set_option Elab.async false
set_option linter.all false
set_option maxRecDepth 100000
set_option maxHeartbeats 1000000
namespace EL
open PySem PySem.Spec PyProof.Rows L2 GxR LG
section
variable {G : G0} {X : Cx} {pos : Pos} {a b c e tgt : Expr} {es : List Expr} {fa fb fc : FE} {ta tb : FT} {fr : FA}
theorem CallR.imp {f : Value} {r r' : List V → Hp → VK → Prop} (h : CallR X f r) (i : ∀ xs H Q, r' xs H Q → r xs H Q) : CallR X f r' := fun pins s σ H xs us Q I v q => h pins s σ H xs us Q I v (i xs H Q q)
theorem SlR.imp {r r' : V → Option Int → Option Int → Hp → VK → Prop} (h : SlR X r) (i : ∀ x l u H Q, r' x l u H Q → r x l u H Q) : SlR X r' := fun pins s σ H x v vl vu lo hi sl Q I rx hs pl pu q => h pins s σ H x v vl vu lo hi sl Q I rx hs pl pu (i x lo hi H Q q)
def fNeg (fa : FE) : FE := fun ρ st => (fa ρ st).bind fun p => match p.1 with
  | .int i => some (.int (-i), p.2)
  | .bl b => some (.int (-(bI b)), p.2)
  | _ => none
theorem de_neg (ha : PE X a (lift G fa)) : PE X (.UnaryOp .USub a pos) (lift G (fNeg fa)) :=
  PE.imp (pe_un un_negB ha) fun σ H Q ⟨ρ, μ, st, d, st', E, S, e, k⟩ => by
    unfold fNeg at e
    obtain ⟨⟨d1, s1⟩, e1, e⟩ := Option.bind_eq_some_iff.mp e
    simp only at e
    split at e
    · cases e
      refine ⟨ρ, μ, st, _, _, E, S, e1, fun μ1 H1 v X1 S1 R1 => ?_⟩
      cases R1
      exact .inl ⟨_, rfl, k μ1 H1 _ X1 S1 (.int _)⟩
    · cases e
      refine ⟨ρ, μ, st, _, _, E, S, e1, fun μ1 H1 v X1 S1 R1 => ?_⟩
      cases R1
      exact .inr ⟨_, rfl, k μ1 H1 _ X1 S1 (.int _)⟩
    · cases e
def cutD (ds : List D) (lo hi : Option Int) : List D := (ds.drop (HT.sIx ds.length 0 lo)).take (HT.sIx ds.length ds.length hi - HT.sIx ds.length 0 lo)
theorem Reps.cut {μ : Mu} {H : Hp} {ds : List D} {vs : List V} (r : Reps G μ H ds vs) (lo hi : Option Int) : Reps G μ H (cutD ds lo hi) (cutV vs lo hi) := by
  unfold cutD cutV
  rw [← r.length]
  exact (r.drop _).take _
def sliceD : D → Option Int → Option Int → Sto → Option (D × Sto)
  | .tup ds, lo, hi, st => some (.tup (cutD ds lo hi), st)
  | .str z, lo, hi, st => if z.length ≤ sizeLine then some (.str (cutS z lo hi), st) else none
  | c, lo, hi, st => (listOf c st).map fun ds => (.lst (cutD ds lo hi), st)
theorem cutD_all {ds : List D} {lo hi : Option Int} (h : HT.sIx ds.length 0 lo = 0 ∧ HT.sIx ds.length ds.length hi = ds.length) : cutD ds lo hi = ds := by
  unfold cutD
  rw [h.1, h.2]
  simp
abbrev FO := Rho → Sto → Option (Option Int × Sto)
def liftO (G : G0) (f : FO) : TO := fun σ H Q => ∃ ρ μ st d st', EnvR G μ H ρ σ ∧ StR G μ st H ∧ f ρ st = some (d, st') ∧ ∀ μ' H', Ext G μ H μ' H' → StR G μ' st' H' → Q d H'
def oNone : FO := fun _ st => some (none, st)
def oSome (fa : FE) : FO := fun ρ st => (fa ρ st).bind fun p => match p.1 with
  | .int i => some (some i, p.2)
  | _ => none
theorem PO.imp {e : Option Expr} {t t' : TO} (h : PO X e t) (i : ∀ σ H Q, t' σ H Q → t σ H Q) : PO X e t' := ⟨fun pins s σ H Q I q => h.run pins s σ H Q I (i σ H Q q)⟩
theorem dp_none : PO X none (liftO G oNone) := PO.imp po_none fun σ H Q ⟨ρ, μ, st, d, st', E, S, e, k⟩ => by cases e; exact k μ H .refl S
theorem dp_some (h : PE X e (lift G fa)) : PO X (some e) (liftO G (oSome fa)) := PO.imp (po_some h) fun σ H Q ⟨ρ, μ, st, d, st', E, S, e, k⟩ => by
  unfold oSome at e
  obtain ⟨⟨d1, s1⟩, e1, e⟩ := Option.bind_eq_some_iff.mp e
  simp only at e
  split at e
  · cases e
    refine ⟨ρ, μ, st, _, _, E, S, e1, fun μ1 H1 v X1 S1 R1 => ?_⟩
    cases R1
    exact ⟨_, rfl, k μ1 H1 X1 S1⟩
  · cases e
def fSl (fa : FE) (fl fu : FO) : FE := fun ρ st => (fa ρ st).bind fun p => (fl ρ p.2).bind fun l => (fu ρ l.2).bind fun u => sliceD p.1 l.1 u.1 u.2
theorem do_slice (o : On G X) : SlR X (fun x lo hi H Q => ∃ μ st d z st', StR G μ st H ∧ Rep G μ H d x ∧ sliceD d lo hi st = some (z, st') ∧ After G μ H z st' Q) := by
  refine SlR.imp (sl_list.or (sl_tupA.or sl_str)) fun x lo hi H Q ⟨μ, st, d, z, st', S, R, e, k⟩ => ?_
  unfold sliceD at e
  split at e
  · cases e
    cases R with
    | tup s r =>
      refine .inr (.inl ⟨_, _, rfl, by rw [o.K]; exact SqT.of s, fun h => ?_, fun _ p hp => ?_⟩)
      · rw [← r.length] at h
        rw [cutD_all h] at k
        exact k μ H _ .refl S (.tup s r)
      · exact k μ _ _ (Ext.new S hp) (S.newT hp) (.tup upd_same ((r.cut lo hi).ext (Ext.new S hp)))
  · split at e
    · rename_i hz
      cases e
      cases R
      exact .inr (.inr ⟨_, rfl, hz, k μ H _ .refl S (.str _)⟩)
    · cases e
  · obtain ⟨ds, e1, e2⟩ := Option.map_eq_some_iff.mp e
    cases e2
    obtain ⟨a, vs, rfl, h1, h2⟩ := list_rep S R e1
    exact .inl ⟨_, vs, rfl, by rw [o.K]; exact h1, fun p hp => k _ _ _ (Ext.new S hp) (S.newT hp) (rep_newZ S hp (h2.cut lo hi))⟩
theorem de_slice {lo hi : Option Expr} {p2 : Pos} {fl fu : FO} (o : On G X) (he : PE X e (lift G fa)) (hl : PO X lo (liftO G fl)) (hu : PO X hi (liftO G fu)) : PE X (.Subscript e (.Slice lo hi none p2) pos) (lift G (fSl fa fl fu)) :=
  PE.imp (pe_slice (do_slice o) he hl hu) fun σ H Q ⟨ρ, μ, st, d, st', E, S, e, k⟩ => by
    unfold fSl at e
    obtain ⟨p, e1, e⟩ := Option.bind_eq_some_iff.mp e
    obtain ⟨l, e2, e⟩ := Option.bind_eq_some_iff.mp e
    obtain ⟨u, e3, e⟩ := Option.bind_eq_some_iff.mp e
    exact ⟨ρ, μ, st, p.1, p.2, E, S, e1, fun μ1 H1 v X1 S1 R1 => ⟨ρ, μ1, p.2, l.1, l.2, E.ext X1, S1, e2, fun μ2 H2 X2 S2 => ⟨ρ, μ2, l.2, u.1, u.2, E.ext (X1.trans X2), S2, e3, fun μ3 H3 X3 S3 =>
      ⟨μ3, u.2, p.1, d, st', S3, R1.ext (X2.trans X3), e, ((k.trans X1).trans X2).trans X3⟩⟩⟩⟩
def flatD : D → Bool
  | .non => true | .bl _ => true | .int _ => true | .str _ => true
  | _ => false
theorem flat_rep {μ : Mu} {H : Hp} {d : D} {v : V} (h : flatD d = true) (r : Rep G μ H d v) : flatV v = true := by
  cases r <;> first | rfl | cases h
theorem eq_flat {μ : Mu} {H : Hp} {c d : D} {x y : V} (h1 : flatD c = true) (h2 : flatD d = true) (r1 : Rep G μ H c x) (r2 : Rep G μ H d y) : eqV x y = eqB c d := by
  cases r1 with
  | tup _ _ => cases h1
  | lst _ _ => cases h1
  | ref _ => cases h1
  | scr _ => cases h1
  | ty _ => cases h1
  | pt _ _ _ => cases h1
  | _ => cases r2 with
    | tup _ _ => cases h2
    | lst _ _ => cases h2
    | ref _ => cases h2
    | scr _ => cases h2
    | ty _ => cases h2
    | pt _ _ _ => cases h2
    | _ => simp [eqV, eqB, bI]
theorem flats_rep {μ : Mu} {H : Hp} : ∀ {ds : List D} {vs : List V}, ds.all flatD = true → Reps G μ H ds vs → vs.all flatV = true
  | _, _, _, .nil => rfl
  | _, _, h, .cons r t => by
    simp only [List.all_cons, Bool.and_eq_true] at h ⊢
    exact ⟨flat_rep h.1 r, flats_rep h.2 t⟩
theorem any_flat {μ : Mu} {H : Hp} {c : D} {x : V} (h1 : flatD c = true) (r1 : Rep G μ H c x) : ∀ {ds : List D} {vs : List V}, ds.all flatD = true → Reps G μ H ds vs → (vs.any fun y => eqV y x) = ds.any fun y => eqB y c
  | _, _, _, .nil => rfl
  | _, _, h, .cons r t => by
    simp only [List.all_cons, Bool.and_eq_true] at h
    simp only [List.any_cons, eq_flat h.1 h1 r r1, any_flat h1 r1 h.2 t]
theorem any_pd {n m : Nat} {c : D} (hc : okB n c = true) : ∀ {ds : List D}, okBs m ds = true → ((pds ds).any fun z => PyData.eqv z (pd c)) = ds.any fun y => eqB y c
  | [], _ => by simp [pds]
  | d :: ds, h => by
    unfold okBs at h
    obtain ⟨h1, h2⟩ := Bool.and_eq_true_iff.mp h
    simp only [pds, List.any_cons, eqv_ok h1 hc, any_pd hc h2]
def nB (neg b : Bool) : Bool := if neg = true then !b else b
def inW (neg : Bool) : D → D → Sto → Option (D × Sto) := fun c d st => match d with
  | .str z => match c with
    | .str x => match x.cps.toList with
      | [ch] => some (.bl (nB neg (decide (ch ∈ z.cps.toList))), st)
      | _ => none
    | _ => none
  | .tup ds => if flatD c = true ∧ ds.all flatD = true then some (.bl (nB neg (ds.any fun y => eqB y c)), st) else none
  | d => (listOf d st).bind fun ds => if okB 60 (byVal c st) = true ∧ okBs 59 ds = true then some (.bl (nB neg (ds.any fun y => eqB y (byVal c st))), st) else none
theorem str_one {x : Str} {ch : Nat} (h : x.cps.toList = [ch]) : x = ⟨#[ch]⟩ := TL.ext_tl h
theorem do_in (o : On G X) {k : Nat} (hr : Room k X.A) : OpR X (compareOp .In) (rD G (inW false)) := OpR.imp (op_in_sign.or (op_in_seq.or (op_inD (by have := hr.un; omega)))) fun x y H Q ⟨μ, st, c, d, z, st', S, Rc, Rd, e, k⟩ => by
  unfold inW at e
  split at e
  · split at e
    · split at e
      · rename_i hc
        cases e; cases Rc; cases Rd
        exact .inl ⟨_, _, by rw [str_one hc], rfl, k μ H _ .refl S (.bl _)⟩
      · cases e
    · cases e
  · split at e
    · rename_i hf
      cases e
      cases Rd with
      | tup s r =>
        refine .inr (.inl ⟨_, _, rfl, .inr (by rw [o.K]; exact SqT.of s), flat_rep hf.1 Rc, flats_rep hf.2 r, ?_⟩)
        rw [if_neg Bool.false_ne_true]
        unfold inV
        rw [any_flat hf.1 Rc hf.2 r]
        exact k μ H _ .refl S (.bl _)
    · cases e
  · obtain ⟨ds, e1, e⟩ := Option.bind_eq_some_iff.mp e
    split at e
    · rename_i hf
      cases e
      obtain ⟨a, vs, rfl, h1, h2⟩ := list_rep S Rd e1
      refine .inr (.inr ⟨pd (byVal c _), pds ds, by rw [o.K]; exact val_ok S Rc hf.1, by rw [o.K]; exact .lst h1 (pds_ok hf.2 h2), shaped_ok hf.1, shaped_ok (d := .lst ds) (by unfold okB; exact hf.2), ?_⟩)
      rw [any_pd hf.1 hf.2]
      exact k μ H _ .refl S (.bl _)
    · cases e
def lenD : HA
  | [.tup ds], st => some (.int ds.length, st)
  | [.str x], st => if x.length ≤ sizeLine then some (.int x.length, st) else none
  | [.scr ns], st => some (.int ns.length, st)
  | [c], st => (listOf c st).map fun ds => (.int ds.length, st)
  | _, _ => none
theorem dc_len (o : On G X) : CallR X (.builtin "len") (rDA G lenD) := by
  refine CallR.imp (call_len_seq.or call_len_str) fun xs H Q ⟨μ, st, ds, z, st', S, R, e, k⟩ => ?_
  unfold lenD at e
  split at e
  · cases e
    cases R with
    | cons r t => cases t; cases r with
      | tup s r => exact .inl ⟨_, _, rfl, .inr (by rw [o.K]; exact SqT.of s), by rw [← r.length]; exact k μ H _ .refl S (.int _)⟩
  · split at e
    · rename_i hz
      cases e
      cases R with
      | cons r t => cases t; cases r; exact .inr ⟨_, rfl, hz, k μ H _ .refl S (.int _)⟩
    · cases e
  · cases e
    cases R with
    | cons r t => cases t; cases r with
      | scr s => exact .inl ⟨_, _, rfl, .inl (by rw [o.K]; exact s.sq), by rw [List.length_map]; exact k μ H _ .refl S (.int _)⟩
  · obtain ⟨ds, e1, e2⟩ := Option.map_eq_some_iff.mp e
    cases e2
    cases R with
    | cons r t =>
      cases t
      obtain ⟨a, vs, rfl, h1, h2⟩ := list_rep S r e1
      exact .inl ⟨_, vs, rfl, .inl (by rw [o.K]; exact h1), by rw [← h2.length]; exact k μ H _ .refl S (.int _)⟩
  · cases e
def tyN (d : D) (st : Sto) : Option String := match d with
  | .non => some "NoneType"
  | .bl _ => some "bool"
  | .int _ => some "int"
  | .str _ => some "str"
  | .tup _ => some "tuple"
  | .pt _ => some "tuple"
  | .lst _ => some "list"
  | .ref l => match st[l]? with
    | some (.lst _) => some "list"
    | _ => none
  | _ => none
theorem tyN_ok {μ : Mu} {st : Sto} {H : Hp} {d : D} {v : V} {t : String} (S : StR G μ st H) (R : Rep G μ H d v) (h : tyN d st = some t) : TyX G.K H v (.type t) := by
  cases d with
  | non => cases h; cases R; exact .base .non
  | bl b => cases h; cases R; exact .base (.bl b)
  | int i => cases h; cases R; exact .base (.int i)
  | str x => cases h; cases R; exact .base (.str x)
  | tup ds =>
    cases h
    cases R with
    | tup s r =>
      exact .base (.tup s)
  | ref l =>
    unfold tyN at h
    simp only at h
    split at h
    · rename_i hl
      cases h
      cases R with
      | ref ha =>
        obtain ⟨vs, h1, _⟩ := S.obj _ _ _ hl ha
        exact .base (.lst h1)
    · cases h
  | lst ds =>
    cases h
    cases R with
    | lst s r => exact .base (.lst s.1)
  | scr _ => cases h
  | ty n => cases h
  | pt ds =>
    cases h
    cases R with
    | pt s d r => exact .fTuple s
def isiD : HA
  | [x, .ty T], st => (tyN x st).bind fun t => (kitB t T).map fun b => (.bl b, st)
  | _, _ => none
theorem dc_isi (o : On G X) : CallR X (.builtin "isinstance") (rDA G isiD) := by
  refine CallR.imp call_isi fun xs H Q ⟨μ, st, ds, z, st', S, R, e, k⟩ => ?_
  unfold isiD at e
  split at e
  · rename_i x T
    obtain ⟨t, e1, e⟩ := Option.bind_eq_some_iff.mp e
    obtain ⟨b, e2, e3⟩ := Option.map_eq_some_iff.mp e
    cases e3
    cases R with
    | cons r tl => cases tl with
      | cons r2 tl =>
        cases tl; cases r2
        exact ⟨_, _, .type t, .type T, b, rfl, .ty T, by rw [o.K]; exact tyN_ok S r e1, kit_ty e2, k μ H _ .refl S (.bl b)⟩
  · cases e
def kits (t : String) : List String → Option Bool
  | [] => some false
  | T :: r => (kitB t T).bind fun b => (kits t r).map fun c => b || c
def fIsiT (Ts : List String) (fa : FE) : FE := fun ρ st => (fa ρ st).bind fun p => (tyN p.1 p.2).bind fun t => (kits t Ts).map fun b => (.bl b, p.2)
def absD : HA
  | [.int i], st => some (.int (if i < 0 then -i else i), st)
  | _, _ => none
theorem dc_abs : CallR X (.builtin "abs") (rDA G absD) := CallR.imp call_abs fun xs H Q ⟨μ, st, ds, z, st', S, R, e, k⟩ => by
  unfold absD at e
  split at e
  · cases e
    cases R with
    | cons r t => cases t; cases r; exact ⟨_, rfl, k μ H _ .refl S (.int _)⟩
  · cases e
def maxD : HA
  | [.int i, .int j], st => some (.int (if j > i then j else i), st)
  | _, _ => none
theorem dc_max (o : On G X) : CallR X (.builtin "max") (rDA G maxD) := CallR.imp (call_max2 o.calm) fun xs H Q ⟨μ, st, ds, z, st', S, R, e, k⟩ => by
  unfold maxD at e
  split at e
  · cases e
    cases R with
    | cons r t => cases r; cases t with
      | cons r t => cases t; cases r; exact ⟨_, _, rfl, k μ H _ .refl S (.int _)⟩
  · cases e
def minD : HA
  | [.int i, .int j], st => some (.int (if j < i then j else i), st)
  | _, _ => none
theorem dc_min (o : On G X) : CallR X (.builtin "min") (rDA G minD) := CallR.imp (call_min2 o.calm) fun xs H Q ⟨μ, st, ds, z, st', S, R, e, k⟩ => by
  unfold minD at e
  split at e
  · cases e
    cases R with
    | cons r t => cases r; cases t with
      | cons r t => cases t; cases r; exact ⟨_, _, rfl, k μ H _ .refl S (.int _)⟩
  · cases e
def seqD (c : D) (st : Sto) : Option (List D) := match c with
  | .tup ds => some ds
  | .pt ds => some ds
  | c => listOf c st
theorem seq_rep {μ : Mu} {st : Sto} {H : Hp} {d : D} {ds : List D} {v : V} (S : StR G μ st H) (R : Rep G μ H d v) (e : seqD d st = some ds) : ∃ a vs, v = .ref a ∧ (SqL G.K H a vs ∨ SqT G.K H a vs) ∧ Reps G μ H ds vs := by
  unfold seqD at e
  split at e
  · cases e
    cases R with
    | tup s r => exact ⟨_, _, rfl, .inr (SqT.of s), r⟩
  · cases e
    cases R with
    | pt s d r => exact ⟨_, _, rfl, .inr (.inl (.inr ⟨_, s⟩)), r⟩
  · obtain ⟨a, vs, h1, h2, h3⟩ := list_rep S R e
    exact ⟨a, vs, h1, .inl h2, h3⟩
def tupleD : HA
  | [.tup ds], st => some (.tup ds, st)
  | [c], st => (listOf c st).map fun ds => (.tup ds, st)
  | _, _ => none
theorem dc_tuple (o : On G X) : CallR X (.type "tuple") (rDA G tupleD) := CallR.imp call_tuple_of fun xs H Q ⟨μ, st, ds, z, st', S, R, e, k⟩ => by
  unfold tupleD at e
  split at e
  · cases e
    cases R with
    | cons r t => cases t; cases r with
      | tup s r => exact ⟨_, _, rfl, .inr ⟨by rw [o.K]; exact SqT.of s, k μ H _ .refl S (.tup s r)⟩⟩
  · obtain ⟨ds, e1, e2⟩ := Option.map_eq_some_iff.mp e
    cases e2
    cases R with
    | cons r t =>
      cases t
      obtain ⟨a, vs, rfl, h1, h2⟩ := list_rep S r e1
      exact ⟨_, vs, rfl, .inl ⟨by rw [o.K]; exact h1, fun p hp => k μ _ _ (Ext.new S hp) (S.newT hp) (.tup upd_same (h2.ext (Ext.new S hp)))⟩⟩
  · cases e
def fApp (fo fa : FE) : FE := fun ρ st => (fo ρ st).bind fun p => (fa ρ p.2).bind fun q => match p.1 with
  | .ref l => match p.2[l]?, q.2[l]? with
    | some (.lst _), some (.lst ds) => if ds.length < sizeLine then some (.non, q.2.set l (.lst (ds ++ [q.1]))) else none
    | _, _ => none
  | _ => none
theorem de_append {fo : FE} {apos : Pos} (o : On G X) (ho : PE X b (lift G fo)) (ha : PE X a (lift G fa)) (hst : starEach [a] X.env = (false, eval a X.env) :: starEach [] X.env := by rfl)
    (hb : attributeBase b "append" X.env (eval b X.env) = eval b X.env := by rfl) (hl : (apos.endLine == pos.line) = true := by rfl) (hpl : (backTo pos (starEach [] X.env)).any (·.1) = false := by rfl)
    (hfew : ((backTo pos (starEach [a] X.env)).all (fun x => !x.1) && (backToKw pos (keywordEach [] X.env)).all (fun x => x.1.isSome) && decide ([a].length + ([] : List Keyword).length + (if ([] : List Keyword).isEmpty then 0 else 1) < 30)) = true := by rfl) : PE X (.Call (.Attribute b "append" apos) [a] [] pos) (lift G (fApp fo fa)) :=
  PE.imp (pe_bm PySem.F.plainAttrs_list PySem.F.slot_list_append PySem.F.type_list_append mt_append ho (pa_cons ha pa_nil hst) hb hfew hl hst hpl) fun σ H Q ⟨ρ, μ, st, d, st', E, S, e, k⟩ => by
    unfold fApp at e
    obtain ⟨⟨x, s1⟩, e1, e⟩ := Option.bind_eq_some_iff.mp e
    obtain ⟨⟨y, s2⟩, e2, e⟩ := Option.bind_eq_some_iff.mp e
    simp only at e
    split at e
    · rename_i l
      split at e
      · rename_i d1 ds h1 h2
        split at e
        · rename_i hz
          cases e
          refine ⟨ρ, μ, st, _, s1, E, S, e1, fun μ1 H1 v X1 S1 R1 => ?_⟩
          cases R1 with
          | ref hp =>
            obtain ⟨us, u1, _⟩ := S1.obj _ _ _ h1 hp
            refine ⟨.inl ⟨rfl, _, SqL.of u1⟩, ⟨ρ, μ1, s1, y, s2, E.ext X1, S1, e2, fun μ2 H2 w X2 S2 R2 => ?_⟩⟩
            obtain ⟨ws, w1, w2⟩ := S2.obj _ _ _ h2 (X2.at hp)
            exact ⟨_, ws, w, rfl, rfl, w1, by rw [← w2.length]; exact hz, k μ2 _ _ (X1.trans (X2.trans (Ext.set S2 (X2.at hp)))) (S2.setL (X2.at hp) (w2.append (.cons R2 .nil))) .non⟩
        · cases e
      · cases e
    · cases e
end
end EL
set_option Elab.async false
set_option linter.all false
set_option maxRecDepth 100000
set_option maxHeartbeats 1000000
namespace EL
open PySem PySem.Spec PyProof.Rows L2 GxR LG
section
variable {G : G0} {W : WX} {X : Cx} {pos : Pos} {a b c e tgt : Expr} {es : List Expr} {fa fb fc : FE} {ta tb : FT} {fr : FA}
def fUpper (fa : FE) : FE := fun ρ st => (fa ρ st).bind fun p => match p.1 with
  | .str x => if x.length ≤ 5592405 then some (.str (Txt.upper x), p.2) else none
  | _ => none
def putIx (d i v : D) (st : Sto) : Option Sto := match d, i with
  | .ref l, .int k => match st[l]? with
    | some (.lst ds) => (ixN ds.length k).map fun j => st.set l (.lst (ds.set j v))
    | _ => none
  | _, _ => none
theorem putIx_ok {μ : Mu} {st st' : Sto} {H : Hp} {d i w : D} {o j v : V} {Q : Hp → Prop} (S : StR G μ st H) (Ro : Rep G μ H d o) (Ri : Rep G μ H i j) (Rv : Rep G μ H w v) (e : putIx d i w st = some st')
    (k : ∀ H', Ext G μ H μ H' → StR G μ st' H' → Q H') : rSetL o j v H Q := by
  unfold putIx at e
  split at e
  · rename_i l kk
    split at e
    · rename_i ds hl
      obtain ⟨jj, e1, e2⟩ := Option.map_eq_some_iff.mp e
      subst e2
      cases Ri
      cases Ro with
      | ref ha =>
        obtain ⟨vs, h1, h2⟩ := S.obj _ _ _ hl ha
        exact ⟨_, vs, kk, jj, rfl, rfl, h1, by rw [← h2.length]; exact e1, k _ (Ext.set S ha) (S.setL ha (h2.set Rv jj))⟩
    · cases e
  · cases e
def sPut (fa fo fi : FE) : FS := fun ρ st => (fa ρ st).bind fun p => (fo ρ p.2).bind fun q => (fi ρ q.2).bind fun r => (putIx q.1 r.1 p.1 r.2).map fun st' => (.nx, ρ, st')
theorem ds_put {fo fi : FE} {p1 : Pos} (he : PE X e (lift G fa)) (ho : PE X a (lift G fo)) (hi : PE X b (lift G fi)) (hg : PG X (.Subscript a b p1) (gSub (lift G fo) (lift G fi) rSetL))
    (hs : swapsWithSole [.Subscript a b p1] e pos.line X.env = pure false := by rfl) (hw : swappedStores [.Subscript a b p1] e X.env = pure none := by rfl) : PS X (.Assign [.Subscript a b p1] e pos) (liftS G W (sPut fa fo fi)) :=
  PS.imp (ps_asg he hg hs hw) fun D0 σ H ⟨ρ, μ, st, fl, ρ', st', E, S, e, k⟩ => by
    unfold sPut at e
    obtain ⟨p, e1, e⟩ := Option.bind_eq_some_iff.mp e
    obtain ⟨q, e2, e⟩ := Option.bind_eq_some_iff.mp e
    obtain ⟨r, e3, e⟩ := Option.bind_eq_some_iff.mp e
    obtain ⟨s', e4, e5⟩ := Option.map_eq_some_iff.mp e
    cases e5
    exact ⟨ρ, μ, st, p.1, p.2, E, S, e1, fun μ1 H1 v X1 S1 R1 => ⟨ρ, μ1, p.2, q.1, q.2, E.ext X1, S1, e2, fun μ2 H2 w X2 S2 R2 => ⟨ρ, μ2, q.2, r.1, r.2, E.ext (X1.trans X2), S2, e3, fun μ3 H3 u X3 S3 R3 =>
      putIx_ok S3 (R2.ext X3) R3 (R1.ext (X2.trans X3)) e4 fun H4 X4 S4 => k μ3 H4 (X1.trans (X2.trans (X3.trans X4))) S4 σ (E.ext (X1.trans (X2.trans (X3.trans X4))))⟩⟩⟩
/-- names in a row, by a tuple's items -/
def sUnp (tg : Tg) (fa : FE) : FS := fun ρ st => (fa ρ st).bind fun p => (tgD tg p.1 ρ).map fun ρ' => (.nx, ρ', p.2)
theorem ds_unp {tg : Tg} (he : PE X e (lift G fa)) (hg : PG X tgt (gOf G.K tg)) (hs : swapsWithSole [tgt] e pos.line X.env = pure false := by rfl) (hw : swappedStores [tgt] e X.env = pure none := by rfl) (h1 : (assignEach [tgt] X.env).map (·.2) = [assign tgt X.env] := by rfl) : PS X (.Assign [tgt] e pos) (liftS G W (sUnp tg fa)) :=
  PS.imp (ps_asg he hg hs hw h1) fun D0 σ H ⟨ρ, μ, st, fl, ρ', st', E, S, e, k⟩ => by
    unfold sUnp at e
    obtain ⟨p, e1, e⟩ := Option.bind_eq_some_iff.mp e
    obtain ⟨ρ1, e2, e3⟩ := Option.map_eq_some_iff.mp e
    cases e3
    exact ⟨ρ, μ, st, p.1, p.2, E, S, e1, fun μ1 H1 v X1 S1 R1 => gOf_ok (vs' := []) R1 (E.ext X1) e2 fun σ' E' _ => k μ1 H1 X1 S1 σ' E'⟩
/-- names in a row, each its own value -/
def sPar (is : List Nat) (fr : FA) : FS := fun ρ st => (fr ρ st).bind fun p => if p.1.length = is.length then some (.nx, setM ρ is p.1, p.2) else none
theorem ds_par2 {i j : Nat} {x y : Str} {px py pt : Pos} {kt k2 : Nat} {pt2 : Pos} (o : On G X) (hN : X.N.Nodup) (hi : X.N[i]? = some x) (hj : X.N[j]? = some y) (hij : i ≠ j)
    (hx : X.env.scope.names.lookup x = some .local) (hy : X.env.scope.names.lookup y = some .local) (ha : PA X [a, b] (liftA G fr))
    (hw : swappedStores [.Tuple [.Name x px, .Name y py] kt pt] (.Tuple [a, b] k2 pt2) X.env = pure (some [x, y]) := by rfl)
    (hs : swapsWithSole [.Tuple [.Name x px, .Name y py] kt pt] (.Tuple [a, b] k2 pt2) pos.line X.env = pure false := by rfl) :
    PS X (.Assign [.Tuple [.Name x px, .Name y py] kt pt] (.Tuple [a, b] k2 pt2) pos) (liftS G W (sPar [i, j] fr)) :=
  PS.imp (ps_par o.calm hN hi hj hij hx hy ha hw hs) fun D0 σ H ⟨ρ, μ, st, fl, ρ', st', E, S, e, k⟩ => by
    unfold sPar at e
    obtain ⟨⟨ds, s0⟩, e1, e⟩ := Option.bind_eq_some_iff.mp e
    split at e
    · rename_i hl
      cases e
      refine ⟨ρ, μ, st, ds, _, E, S, e1, fun μ1 H1 vs X1 S1 R1 => ?_⟩
      match ds, hl, R1 with
      | [d1, d2], _, .cons r1 (.cons r2 .nil) => exact ⟨_, _, rfl, k μ1 H1 X1 S1 _ (((E.ext X1).set r1).set r2)⟩
    · cases e
end
end EL
set_option Elab.async false
set_option linter.all false
set_option maxRecDepth 100000
set_option maxHeartbeats 1000000
namespace EL
open PySem PySem.Spec PyProof.Rows L2 GxR LG
end EL
set_option Elab.async false
set_option linter.all false
set_option maxRecDepth 100000
set_option maxHeartbeats 1000000
namespace SX
open PySem PySem.Spec PyProof.Rows L2
def tkey (e : Int × Value) : Str := match e.2 with
  | .str k _ => k
  | _ => ⟨#[]⟩
def TEl (w : World) (e : Int × Value) : Prop := ∃ k tk, e.2 = Value.str k tk ∧ e.1 = hashStr w k
/-- a set whose members are the texts of l -/
structure TRows (w : World) (l : List Str) (es : Array (Int × Value)) (t : SetTable) : Prop where
  el : ∀ e ∈ es.toList, TEl w e
  nd : (es.toList.map tkey).Nodup
  mem : ∀ k, k ∈ es.toList.map tkey ↔ k ∈ l
  few : es.size < scanBound
  fits : t.fits es.size = true
  ris : Ris t.place.toList
  led : w.params.followText "set-order" = true ∨ t.led = true
def TSet (w : World) (h : Heap) (a : Addr) (l : List Str) : Prop := ∃ o es ep t, h.get? a = some o ∧ o.ExactSet ∧ o.data = .set es ep t ∧ TRows w l es t
section
variable {P : Program} {w : World} {h h' : Heap} {a : Addr} {l : List Str}
theorem TSet.keep (R : TSet w h a l) (k : ∀ o, h.get? a = some o → h'.get? a = some o) : TSet w h' a l := by
  obtain ⟨o, es, ep, t, ho, r⟩ := R
  exact ⟨o, es, ep, t, k o ho, r⟩
theorem TRows.push {es es' : Array (Int × Value)} {t t' : SetTable} {k : Str} {tk : Tok} (R : TRows w l es t) (hk : k ∉ es.toList.map tkey) (pm : es'.toList.Perm ((hashStr w k, Value.str k tk) :: es.toList)) (hb : es.size + 1 < scanBound) (hf : t'.fits es'.size = true) (hr : Ris t'.place.toList) (hl : w.params.followText "set-order" = true ∨ t'.led = true) :
    TRows w (k :: l) es' t' where
  el e he := by
    rcases List.mem_cons.mp (pm.mem_iff.mp he) with z | z
    · rw [z]; exact ⟨k, tk, rfl, rfl⟩
    · exact R.el e z
  nd := (pm.map tkey).nodup_iff.mpr (List.nodup_cons.mpr ⟨hk, R.nd⟩)
  mem j := by
    rw [(pm.map tkey).mem_iff]
    show j ∈ k :: es.toList.map tkey ↔ _
    rw [List.mem_cons, List.mem_cons, R.mem j]
  few := by rw [← Array.length_toList, pm.length_eq, List.length_cons, Array.length_toList]; exact hb
  fits := hf
  ris := hr
  led := hl
end
end SX
set_option Elab.async false
set_option linter.all false
set_option maxRecDepth 100000
set_option maxHeartbeats 3200000
set_option Elab.async false
set_option linter.all false
set_option maxRecDepth 100000
set_option maxHeartbeats 1000000
set_option Elab.async false
set_option linter.all false
set_option maxRecDepth 100000
set_option maxHeartbeats 1000000
namespace EL
open PySem PySem.Spec PyProof.Rows L2 GxR LG
end EL
set_option Elab.async false
set_option linter.all false
set_option maxRecDepth 100000
set_option maxHeartbeats 1000000
namespace EL
open PySem PySem.Spec PyProof.Rows L2 GxR LG
mutual
/-- nothing of the store is named in it -/
def pureB : D → Bool
  | .ref _ => false
  | .tup ds => pureL ds
  | .pt ds => pureL ds
  | .lst ds => pureL ds
  | _ => true
def pureL : List D → Bool
  | [] => true
  | d :: ds => pureB d && pureL ds
end
def pureO : O → Bool
  | .lst ds => pureL ds
  | .dead => true
  | .dK kvs => pureL (kvs.map (·.2))
  | .dT kvs => pureL (kvs.map (·.2))
  | .ins _ fs => pureL (fs.map (·.2))
section
variable {G : G0} {μ μ' : Mu} {H H0 : Hp}
theorem lz_down (hp : ∀ a, a ∉ μ'.pl → a ∉ μ.pl) (hh : μ'.hd = μ.hd) {a : Addr} {vs : List V} (h : Lz μ' H a vs) : Lz μ H a vs := ⟨h.1, hp _ h.2.1, by rw [← hh]; exact h.2.2⟩
theorem lq_down (hp : ∀ a, a ∉ μ'.pl → a ∉ μ.pl) (hh : μ'.hd = μ.hd) {a : Addr} {vs : List V} (h : Lq G μ' H a vs) : Lq G μ H a vs := h.imp (fun h => ⟨h.1, hp _ h.2.1, by rw [← hh]; exact h.2.2⟩) id
mutual
theorem Rep.pure (hp : ∀ a, a ∉ μ'.pl → a ∉ μ.pl) (hh : μ'.hd = μ.hd) : ∀ {d : D} {v : V}, pureB d = true → Rep G μ' H d v → Rep G μ H d v
  | _, _, _, .non => .non
  | _, _, _, .bl b => .bl b
  | _, _, _, .int i => .int i
  | _, _, _, .str x => .str x
  | _, _, q, .tup s r => .tup s (Reps.pure hp hh (by unfold pureB at q; exact q) r)
  | _, _, q, .lst s r => .lst (lz_down hp hh s) (Reps.pure hp hh (by unfold pureB at q; exact q) r)
  | _, _, q, .ref h => by unfold pureB at q; cases q
  | _, _, _, .scr s => .scr (lq_down hp hh s)
  | _, _, _, .ty n => .ty n
  | _, _, q, .pt s d r => .pt s d (Reps.pure hp hh (by unfold pureB at q; exact q) r)
theorem Reps.pure (hp : ∀ a, a ∉ μ'.pl → a ∉ μ.pl) (hh : μ'.hd = μ.hd) : ∀ {ds : List D} {vs : List V}, pureL ds = true → Reps G μ' H ds vs → Reps G μ H ds vs
  | _, _, _, .nil => .nil
  | _, _, q, .cons h t => by
    unfold pureL at q
    obtain ⟨q1, q2⟩ := Bool.and_eq_true_iff.mp q
    exact .cons (Rep.pure hp hh q1 h) (Reps.pure hp hh q2 t)
end
mutual
/-- what named only places that stood ahead -/
theorem Rep.down (hp : ∀ a, a ∉ μ'.pl → a ∉ μ.pl) (hh : μ'.hd = μ.hd) (ha : ∀ (l : Nat) (a : Addr), μ.pl[l]? = some a → μ'.pl[l]? = some a) : ∀ {d : D} {v v0 : V}, Rep G μ H0 d v0 → Rep G μ' H d v → Rep G μ H d v
  | _, _, _, _, .non => .non
  | _, _, _, _, .bl b => .bl b
  | _, _, _, _, .int i => .int i
  | _, _, _, _, .str x => .str x
  | _, _, _, .tup _ r0, .tup s r => .tup s (Reps.down hp hh ha r0 r)
  | _, _, _, .lst _ r0, .lst s r => .lst (lz_down hp hh s) (Reps.down hp hh ha r0 r)
  | _, _, _, .ref h0, .ref h => by
    have e := ha _ _ h0
    rw [h] at e
    cases e
    exact .ref h0
  | _, _, _, _, .scr s => .scr (lq_down hp hh s)
  | _, _, _, _, .ty n => .ty n
  | _, _, _, .pt _ _ r0, .pt s d r => .pt s d (Reps.down hp hh ha r0 r)
theorem Reps.down (hp : ∀ a, a ∉ μ'.pl → a ∉ μ.pl) (hh : μ'.hd = μ.hd) (ha : ∀ (l : Nat) (a : Addr), μ.pl[l]? = some a → μ'.pl[l]? = some a) : ∀ {ds : List D} {vs vs0 : List V}, Reps G μ H0 ds vs0 → Reps G μ' H ds vs → Reps G μ H ds vs
  | _, _, _, _, .nil => .nil
  | _, _, _, .cons h0 t0, .cons h t => .cons (Rep.down hp hh ha h0 h) (Reps.down hp hh ha t0 t)
end
theorem ORep.down (hp : ∀ a, a ∉ μ'.pl → a ∉ μ.pl) (hh : μ'.hd = μ.hd) (ha : ∀ (l : Nat) (a : Addr), μ.pl[l]? = some a → μ'.pl[l]? = some a) {o : O} {a a0 : Addr} (h0 : ORep G μ H0 o a0) (h : ORep G μ' H o a) : ORep G μ H o a := by
  cases o with
  | lst ds => obtain ⟨_, _, r0⟩ := h0; obtain ⟨vs, e, r⟩ := h; exact ⟨vs, e, r0.down hp hh ha r⟩
  | dead => exact h
  | dK ds => obtain ⟨_, _, r0⟩ := h0; obtain ⟨vs, e, r⟩ := h; exact ⟨vs, e, r.1, r0.2.down hp hh ha r.2⟩
  | dT ds => obtain ⟨_, _, r0⟩ := h0; obtain ⟨vs, e, r⟩ := h; exact ⟨vs, e, r.1, r0.2.down hp hh ha r.2⟩
  | ins c fs => obtain ⟨_, _, _, _, _, r0⟩ := h0; obtain ⟨C, dx, vs, m, e, r⟩ := h; exact ⟨C, dx, vs, m, e, r.1, r0.2.down hp hh ha r.2⟩
theorem ORep.pure (hp : ∀ a, a ∉ μ'.pl → a ∉ μ.pl) (hh : μ'.hd = μ.hd) {o : O} {a : Addr} (q : pureO o = true) (h : ORep G μ' H o a) : ORep G μ H o a := by
  cases o with
  | lst ds => obtain ⟨vs, e, r⟩ := h; exact ⟨vs, e, r.pure hp hh q⟩
  | dead => exact h
  | dK ds => obtain ⟨vs, e, r⟩ := h; exact ⟨vs, e, r.1, r.2.pure hp hh q⟩
  | dT ds => obtain ⟨vs, e, r⟩ := h; exact ⟨vs, e, r.1, r.2.pure hp hh q⟩
  | ins c fs => obtain ⟨C, dx, vs, m, e, r⟩ := h; exact ⟨C, dx, vs, m, e, r.1, r.2.pure hp hh q⟩
end
/-- a value told by value: n places stood ahead -/
def seal1 (n : Nat) (st : Sto) (d : D) : Option D := match d with
  | .ref l => if l < n then some (.ref l) else match st[l]? with
    | some (.lst ds) => if pureL ds = true then some (.lst ds) else none
    | _ => none
  | d => if pureB d = true then some d else none
def seals (n : Nat) (st : Sto) : List D → Option (List D)
  | [] => some []
  | d :: ds => (seal1 n st d).bind fun e => (seals n st ds).map (e :: ·)
def sealD (n : Nat) (st : Sto) (d : D) : Option D := match d with
  | .tup ds => (seals n st ds).map .tup
  | d => seal1 n st d
/-- what stood stands, or is plain data -/
def Calm (st st' : Sto) : Prop := ∀ (l : Nat) (o : O), l < st.length → st'[l]? = some o → st[l]? = some o ∨ pureO o = true
open Classical in
noncomputable def letGo (n : Nat) (st : Sto) (p : D × Sto) : Option (D × Sto) := if Calm st p.2 ∧ st.length = n then (sealD n p.2 p.1).map fun d => (d, p.2.take n) else none
noncomputable def sealFn (fn : HA) : HA := fun ds st => (fn ds st).bind fun p => letGo st.length st p
section
variable {G : G0} {μ μ' : Mu} {st st' : Sto} {H H' : Hp}
theorem seal1_rep (x : Ext G μ H μ' H') (S : StR G μ st H) (S' : StR G μ' st' H') {d d2 : D} {v : V} (e : seal1 st.length st' d = some d2) (R : Rep G μ' H' d v) : Rep G μ H' d2 v := by
  obtain ⟨more, hm⟩ := x.pre
  have hp : ∀ a, a ∉ μ'.pl → a ∉ μ.pl := fun a h z => h (by rw [hm]; exact List.mem_append_left _ z)
  unfold seal1 at e
  split at e
  · rename_i l
    cases R with
    | @ref _ a h =>
      split at e
      · rename_i hl
        cases e
        refine .ref ?_
        rw [hm, List.getElem?_append_left (by rw [S.len]; exact hl)] at h
        exact h
      · rename_i hl
        split at e
        · rename_i ds hs
          split at e
          · rename_i hq
            cases e
            obtain ⟨vs, e1, r⟩ := S'.obj _ _ _ hs h
            refine .lst ⟨e1, fun z => ?_, fun z => ?_⟩ (r.pure hp x.hid hq)
            · obtain ⟨i, hi⟩ := List.mem_iff_getElem?.mp z
              have := nd_get S'.nd h (x.at hi)
              subst this
              have := (List.getElem?_eq_some_iff.mp hi).1
              rw [S.len] at this
              exact hl this
            · exact (S'.dis a (by rw [x.hid]; exact z)).1 (List.mem_of_getElem? h)
          · cases e
        · cases e
  · split at e
    · rename_i hq
      cases e
      exact R.pure hp x.hid hq
    · cases e
theorem seals_rep (x : Ext G μ H μ' H') (S : StR G μ st H) (S' : StR G μ' st' H') : ∀ {ds es : List D} {vs : List V}, seals st.length st' ds = some es → Reps G μ' H' ds vs → Reps G μ H' es vs
  | _, _, _, e, .nil => by cases e; exact .nil
  | _, _, _, e, .cons h t => by
    unfold seals at e
    obtain ⟨d, e1, e⟩ := Option.bind_eq_some_iff.mp e
    obtain ⟨r, e2, rfl⟩ := Option.map_eq_some_iff.mp e
    exact .cons (seal1_rep x S S' e1 h) (seals_rep x S S' e2 t)
theorem seal_rep (x : Ext G μ H μ' H') (S : StR G μ st H) (S' : StR G μ' st' H') {d d2 : D} {v : V} (e : sealD st.length st' d = some d2) (R : Rep G μ' H' d v) : Rep G μ H' d2 v := by
  unfold sealD at e
  split at e
  · obtain ⟨es, e1, rfl⟩ := Option.map_eq_some_iff.mp e
    cases R with
    | tup s r => exact .tup s (seals_rep x S S' e1 r)
  · exact seal1_rep x S S' e R
theorem letGo_ext (x : Ext G μ H μ' H') : Ext G μ H μ H' :=
  ⟨⟨[], by simp⟩, rfl, x.kept, x.tup, fun a u h n m q => ⟨(x.raw a u h n m q).1, n⟩, x.xd, x.dom⟩
theorem letGo_st (x : Ext G μ H μ' H') (S : StR G μ st H) (S' : StR G μ' st' H') (c : Calm st st') : StR G μ (st'.take st.length) H' := by
  obtain ⟨more, hm⟩ := x.pre
  have hp : ∀ a, a ∉ μ'.pl → a ∉ μ.pl := fun a h z => h (by rw [hm]; exact List.mem_append_left _ z)
  have hle : st.length ≤ st'.length := by
    rw [← S.len, ← S'.len, hm]; simp
  refine ⟨by rw [S.len, List.length_take]; omega, fun l o a h1 h2 => ?_, fun a ha => S'.own a (by rw [hm]; exact List.mem_append_left _ ha), S.nd, fun a ha => ?_, S'.tab, S'.lab, S'.dj⟩
  · have hl : l < st.length := by rw [← S.len]; exact (List.getElem?_eq_some_iff.mp h2).1
    rw [List.getElem?_take_of_lt hl] at h1
    have r := S'.obj l o a h1 (x.at h2)
    rcases c l o hl h1 with q | q
    · exact ORep.down hp x.hid (fun _ _ h => x.at h) (S.obj l o a q h2) r
    · exact r.pure hp x.hid q
  · obtain ⟨h1, h2⟩ := S'.dis a (by rw [x.hid]; exact ha)
    exact ⟨hp _ h1, h2⟩
theorem Def.seal {k : Nat} {x : Str} {n : Nat} {fn : HA} (F : Def G k x n fn) : Def G k x n (sealFn fn) := by
  obtain ⟨f, fd, ps, h1, h2, h3⟩ := F.ex
  refine ⟨f, fd, ps, h1, h2.imp fun vs H Q E ⟨μ, st, ds, d2, st2, hn, S, R, e, k⟩ => ?_, h3⟩
  unfold sealFn at e
  obtain ⟨⟨d, st'⟩, e1, e⟩ := Option.bind_eq_some_iff.mp e
  unfold letGo at e
  split at e
  · rename_i hc
    obtain ⟨d3, e2, e3⟩ := Option.map_eq_some_iff.mp e
    cases e3
    refine ⟨μ, st, ds, d, st', hn, S, R, e1, fun μ' H' v X1 S1 R1 => k μ H' v (letGo_ext X1) (letGo_st X1 S S1 hc.1) (seal_rep X1 S S1 e2 R1)⟩
  · cases e
end
end EL
set_option Elab.async false
set_option linter.all false
set_option maxRecDepth 100000
set_option maxHeartbeats 1000000
namespace ZN
open PySem
open PySem.Sem (wp)
/-- an iterator over a tuple (true) or a list -/
def It (b : Bool) (h : Heap) (it l : Addr) (k : Nat) : Prop := if b = true then h.IsTupleIter it l k else h.IsListIter it l k
def Sq (b : Bool) (h : Heap) (l : Addr) (u : Array Value) : Prop := if b = true then h.IsTuple l u else h.IsList l u
abbrev Row (h : Heap) (T : Addr) (xs : List Value) : Prop := h.get? T = some { cls := .type "tuple", data := .seq xs.toArray }
theorem It.at {b : Bool} {h h' : Heap} {it l : Addr} {k : Nat} (t : It b h it l k) (e : ∀ o, h.get? it = some o → h'.get? it = some o) : It b h' it l k := by
  cases b with
  | true => exact Heap.IsTupleIter.at t e
  | false => exact Heap.IsListIter.at t e
theorem Sq.at {b : Bool} {h h' : Heap} {l : Addr} {u : Array Value} (t : Sq b h l u) (e : ∀ o, h.get? l = some o → h'.get? l = some o) : Sq b h' l u := by
  cases b with
  | true => obtain ⟨o, h1, r⟩ := t; exact ⟨o, e o h1, r⟩
  | false => obtain ⟨o, h1, r⟩ := t; exact ⟨o, e o h1, r⟩
theorem nd_ne {L : List Addr} (h : L.Nodup) (i j : Nat) {a b : Addr} (h1 : L[i]? = some a) (h2 : L[j]? = some b) (n : i ≠ j) : a ≠ b := fun e => by
  subst e
  obtain ⟨l1, e1⟩ := List.getElem?_eq_some_iff.mp h1
  obtain ⟨l2, e2⟩ := List.getElem?_eq_some_iff.mp h2
  exact n ((List.getElem_inj h).mp (e1.trans e2.symm))
theorem no_ne {L : List Addr} {l : Addr} (h : l ∉ L) (i : Nat) {a : Addr} (h1 : L[i]? = some a) : l ≠ a := fun e => h (by rw [e]; exact List.mem_of_getElem? h1)
section
variable {prog : Program} {w : World} {A : Around} {E : Value → Shared → Prop} {s : Shared}
theorem it_item {b : Bool} {it l : Addr} {k : Nat} {u : Array Value} {x : Value} {Q : Value → Shared → Prop} (t : It b s.heap it l k) (q : Sq b s.heap l u) (e : u[k]? = some x)
    (hQ : ∀ h', It b h' it l (k + 1) → Heap.SameBut it s.heap h' → Q x { s with heap := h' }) : wpAny (model prog w) A (Builtin.SmallTypes.nextOf (.ref it)) Q E s := by
  cases b with
  | true => exact RZ.nextOf_tuple_item t q e hQ
  | false => exact wpAny_nextOf_list_item t q e hQ
theorem it_end {b : Bool} {it l : Addr} {k : Nat} {u : Array Value} {Q : Value → Shared → Prop} (hh : A.handled = none) (t : It b s.heap it l k) (q : Sq b s.heap l u) (e : u[k]? = none)
    (hE : ∀ h' e, Heap.ExtBut it s.heap h' → (∃ o, h'.get? e = some o ∧ o.cls = .type "StopIteration") → E (.ref e) { s with heap := h' }) : wpAny (model prog w) A (Builtin.SmallTypes.nextOf (.ref it)) Q E s := by
  cases b with
  | true => exact RZ.nextOf_tuple_end hh t q e hE
  | false => exact wpAny_nextOf_list_end hh t q e hE
theorem next2_item {z TI TO i1 l1 i2 l2 : Addr} {k : Nat} {b1 b2 : Bool} {u1 u2 : Array Value} {x1 a1 x2 a2 : Value} {Q : Value → Shared → Prop} (hd : List.Nodup [z, TI, TO, i1, i2]) (m1 : l1 ∉ [z, TI, TO, i1, i2]) (m2 : l2 ∉ [z, TI, TO, i1, i2]) (zz : IsZip s.heap z TI TO .none) (ti : Row s.heap TI [.ref i1, .ref i2]) (to : Row s.heap TO [a1, a2])
    (t1 : It b1 s.heap i1 l1 k) (q1 : Sq b1 s.heap l1 u1) (t2 : It b2 s.heap i2 l2 k) (q2 : Sq b2 s.heap l2 u2)
    (e1 : u1[k]? = some x1) (e2 : u2[k]? = some x2)
    (hQ : ∀ h', IsZip h' z TI TO (rawInt s.heap.objs.size) → Row h' TO [x1, x2] → It b1 h' i1 l1 (k + 1) → It b2 h' i2 l2 (k + 1) → Row h' s.heap.objs.size [x1, x2] → h'.objs.size = s.heap.objs.size + 1 →
      (∀ c o, c ≠ z → c ≠ TO → c ≠ i1 → c ≠ i2 → s.heap.get? c = some o → h'.get? c = some o) → Q (.ref s.heap.objs.size) { s with heap := h' }) :
    wpAny (model prog w) A (Builtin.«zip.__next__» ⟨[.ref z], []⟩) (fun fin s' => ∃ v, fin = .done (.ret v) ∧ Q v s') E s := by
  show wpAny _ _ (field (.ref z) 2 >>= _) _ _ _
  refine wpAny_bind (wpAny_field zz rfl (x := .bool false) rfl ?_)
  show wpAny _ _ (field (.ref z) 3 >>= _) _ _ _
  refine wpAny_bind (wpAny_field zz rfl (x := .ref TI) rfl ?_)
  refine wpAny_bind (wpAny_seqItems ti rfl ?_)
  show wpAny _ _ (Builtin.SmallTypes.ownedTupleIsFree (.ref z) >>= _) _ _ _
  refine wpAny_bind ?_
  unfold Builtin.SmallTypes.ownedTupleIsFree
  refine wpAny_bind (wpAny_field zz rfl (x := .none) rfl (wpAny_pure ?_))
  simp only [if_true]
  refine wpAny_bind (wpAny_rule ?_)
  refine wpAny_bind (wpAny_field zz rfl (x := .ref TO) rfl ?_)
  refine wpAny_bind (wpAny_setField_rec zz (by simp) fun g0 z0 s0 => ?_)
  replace z0 : IsZip g0 z TI TO .ellipsis := z0
  have K0 : ∀ c o, c ≠ z → s.heap.get? c = some o → g0.get? c = some o := fun c o c1 e => s0.extBut _ _ c1 e
  have to0 : Row g0 TO [a1, a2] := K0 _ _ (nd_ne hd 2 0 rfl rfl (by decide)) to
  refine wpAny_bind ?_
  simp only [List.zipIdx_cons, List.zipIdx_nil, List.forIn_cons, List.forIn_nil]
  refine wpAny_bind (wpAny_bind (wpAny_onRaise ?_))
  show wpAny _ _ (Builtin.SmallTypes.nextOf (.ref i1) >>= _) _ _ _
  refine wpAny_bind (it_item (t1.at (fun o e => K0 _ o (nd_ne hd 3 0 rfl rfl (by decide)) e)) (q1.at (fun o e => K0 _ o (no_ne m1 0 rfl) e)) e1 fun f1 r1 v1 => wpAny_pure ?_)
  have tp1 : Row f1 TO [a1, a2] := v1.extBut _ _ (nd_ne hd 2 3 rfl rfl (by decide)) to0
  refine wpAny_bind (wpAny_seqItems tp1 rfl ?_)
  refine wpAny_bind (wpAny_updateSeq tp1 rfl ?_)
  obtain ⟨g1, hg1⟩ : ∃ g : Heap, g = f1.update TO (Obj.mapSeq (·.setIfInBounds 0 x1)) := ⟨_, rfl⟩
  have s1 : Heap.SameBut TO f1 g1 := by rw [hg1]; exact Heap.SameBut.update ..
  have to1 : Row g1 TO [x1, a2] := by
    rw [hg1]
    unfold Row
    rw [Heap.get?_update_self _ tp1 rfl]
    simp [Obj.mapSeq]
  rw [← hg1]
  have y1 : It b1 g1 i1 l1 (k + 1) := r1.at fun o e => s1.extBut _ _ (nd_ne hd 3 2 rfl rfl (by decide)) e
  have K1 : ∀ c o, c ≠ z → c ≠ TO → c ≠ i1 → s.heap.get? c = some o → g1.get? c = some o := fun c o c1 c2 c3 e => s1.extBut _ _ c2 (v1.extBut _ _ c3 (K0 c o c1 e))
  have z1 : IsZip g1 z TI TO .ellipsis := s1.extBut _ _ (nd_ne hd 0 2 rfl rfl (by decide)) (v1.extBut _ _ (nd_ne hd 0 3 rfl rfl (by decide)) z0)
  have n1 : g1.objs.size = g0.objs.size := s1.1.trans v1.1
  refine wpAny_bind (wpAny_letGo (wpAny_pure ?_))
  refine wpAny_bind (wpAny_bind (wpAny_onRaise ?_))
  show wpAny _ _ (Builtin.SmallTypes.nextOf (.ref i2) >>= _) _ _ _
  refine wpAny_bind (it_item (t2.at (fun o e => K1 _ o (nd_ne hd 4 0 rfl rfl (by decide)) (nd_ne hd 4 2 rfl rfl (by decide)) (nd_ne hd 4 3 rfl rfl (by decide)) e)) (q2.at (fun o e => K1 _ o (no_ne m2 0 rfl) (no_ne m2 2 rfl) (no_ne m2 3 rfl) e)) e2 fun f2 r2 v2 => wpAny_pure ?_)
  have tp2 : Row f2 TO [x1, a2] := v2.extBut _ _ (nd_ne hd 2 4 rfl rfl (by decide)) to1
  refine wpAny_bind (wpAny_seqItems tp2 rfl ?_)
  refine wpAny_bind (wpAny_updateSeq tp2 rfl ?_)
  obtain ⟨g2, hg2⟩ : ∃ g : Heap, g = f2.update TO (Obj.mapSeq (·.setIfInBounds 1 x2)) := ⟨_, rfl⟩
  have s2 : Heap.SameBut TO f2 g2 := by rw [hg2]; exact Heap.SameBut.update ..
  have to2 : Row g2 TO [x1, x2] := by
    rw [hg2]
    unfold Row
    rw [Heap.get?_update_self _ tp2 rfl]
    simp [Obj.mapSeq]
  rw [← hg2]
  have y2 : It b2 g2 i2 l2 (k + 1) := r2.at fun o e => s2.extBut _ _ (nd_ne hd 4 2 rfl rfl (by decide)) e
  have K2 : ∀ c o, c ≠ z → c ≠ TO → c ≠ i1 → c ≠ i2 → s.heap.get? c = some o → g2.get? c = some o := fun c o c1 c2 c3 c4 e => s2.extBut _ _ c2 (v2.extBut _ _ c4 (K1 c o c1 c2 c3 e))
  have z2 : IsZip g2 z TI TO .ellipsis := s2.extBut _ _ (nd_ne hd 0 2 rfl rfl (by decide)) (v2.extBut _ _ (nd_ne hd 0 4 rfl rfl (by decide)) z1)
  have n2 : g2.objs.size = g1.objs.size := s2.1.trans v2.1
  refine wpAny_bind (wpAny_letGo (wpAny_pure ?_))
  replace y1 : It b1 g2 i1 l1 (k + 1) := y1.at fun o e => s2.extBut _ _ (nd_ne hd 3 2 rfl rfl (by decide)) (v2.extBut _ _ (nd_ne hd 3 4 rfl rfl (by decide)) e)
  refine wpAny_pure ?_
  refine wpAny_bind (wpAny_seqItems to2 rfl ?_)
  refine wpAny_bind (wpAny_newTuple ?_)
  have sz : g2.objs.size = s.heap.objs.size := by rw [n2, n1, s0.1]
  have zl : z < g2.objs.size := Heap.lt_size z2
  show wpAny _ _ (Builtin.SmallTypes.ownedTupleHandOut (.ref z) (.ref g2.objs.size) >>= _) _ _ _
  refine wpAny_bind ?_
  unfold Builtin.SmallTypes.ownedTupleHandOut
  have zp : IsZip (g2.push { cls := .type "tuple", data := .seq #[x1, x2] }) z TI TO .ellipsis := Heap.get?_push_of_some _ z2
  refine wpAny_bind (wpAny_setField_rec zp (by simp) fun p1 zq sq => ?_)
  replace zq : IsZip p1 z TI TO (rawInt g2.objs.size) := zq
  refine wpAny_setField_rec zq (by simp) fun p2 zr sr => ?_
  replace zr : IsZip p2 z TI TO (rawInt g2.objs.size) := zr
  have up : ∀ c o, c ≠ z → g2.get? c = some o → p2.get? c = some o := fun c o c1 e => sr.extBut _ _ c1 (sq.extBut _ _ c1 (Heap.get?_push_of_some _ e))
  have new : Row p2 g2.objs.size [x1, x2] := sr.extBut _ _ (Nat.ne_of_gt zl) (sq.extBut _ _ (Nat.ne_of_gt zl) (Heap.get?_push_size _ rfl))
  have s2 : p2.objs.size = g2.objs.size + 1 := by rw [sr.1, sq.1, Heap.size_push]
  rw [sz] at zr new s2
  refine wpAny_pure ⟨_, rfl, ?_⟩
  show Q (.ref g2.objs.size) _
  rw [sz]
  exact hQ p2 zr (up _ _ (nd_ne hd 2 0 rfl rfl (by decide)) to2) (y1.at fun o e => up _ o (nd_ne hd 3 0 rfl rfl (by decide)) e) (y2.at fun o e => up _ o (nd_ne hd 4 0 rfl rfl (by decide)) e) new s2 fun c o c1 c2 c3 c4 e => up c o c1 (K2 c o c1 c2 c3 c4 e)
theorem next2_end {z TI TO i1 l1 i2 l2 : Addr} {k : Nat} {b1 b2 : Bool} {u1 u2 : Array Value} {a1 a2 : Value} {Q : Fin → Shared → Prop} (hh : A.handled = none) (hd : List.Nodup [z, TI, TO, i1, i2]) (m1 : l1 ∉ [z, TI, TO, i1, i2]) (m2 : l2 ∉ [z, TI, TO, i1, i2]) (zz : IsZip s.heap z TI TO .none) (ti : Row s.heap TI [.ref i1, .ref i2]) (to : Row s.heap TO [a1, a2])
    (t1 : It b1 s.heap i1 l1 k) (q1 : Sq b1 s.heap l1 u1) (t2 : It b2 s.heap i2 l2 k) (q2 : Sq b2 s.heap l2 u2)
    (out : u1[k]? = none ∨ u2[k]? = none)
    (hE : ∀ h' e, (∀ c o, c ≠ z → c ≠ TO → c ≠ i1 → c ≠ i2 → s.heap.get? c = some o → h'.get? c = some o) → (∃ o, h'.get? e = some o ∧ o.cls = .type "StopIteration") → E (.ref e) { s with heap := h' }) :
    wpAny (model prog w) A (Builtin.«zip.__next__» ⟨[.ref z], []⟩) Q E s := by
  show wpAny _ _ (field (.ref z) 2 >>= _) _ _ _
  refine wpAny_bind (wpAny_field zz rfl (x := .bool false) rfl ?_)
  show wpAny _ _ (field (.ref z) 3 >>= _) _ _ _
  refine wpAny_bind (wpAny_field zz rfl (x := .ref TI) rfl ?_)
  refine wpAny_bind (wpAny_seqItems ti rfl ?_)
  show wpAny _ _ (Builtin.SmallTypes.ownedTupleIsFree (.ref z) >>= _) _ _ _
  refine wpAny_bind ?_
  unfold Builtin.SmallTypes.ownedTupleIsFree
  refine wpAny_bind (wpAny_field zz rfl (x := .none) rfl (wpAny_pure ?_))
  simp only [if_true]
  refine wpAny_bind (wpAny_rule ?_)
  refine wpAny_bind (wpAny_field zz rfl (x := .ref TO) rfl ?_)
  refine wpAny_bind (wpAny_setField_rec zz (by simp) fun g0 z0 s0 => ?_)
  replace z0 : IsZip g0 z TI TO .ellipsis := z0
  have K0 : ∀ c o, c ≠ z → s.heap.get? c = some o → g0.get? c = some o := fun c o c1 e => s0.extBut _ _ c1 e
  have to0 : Row g0 TO [a1, a2] := K0 _ _ (nd_ne hd 2 0 rfl rfl (by decide)) to
  refine wpAny_bind ?_
  simp only [List.zipIdx_cons, List.zipIdx_nil, List.forIn_cons, List.forIn_nil]
  by_cases w1 : u1[k]? = none
  · refine wpAny_bind (wpAny_bind (wpAny_onRaise ?_))
    show wpAny _ _ (Builtin.SmallTypes.nextOf (.ref i1) >>= _) _ _ _
    refine wpAny_bind (it_end hh (t1.at (fun o e => K0 _ o (nd_ne hd 3 0 rfl rfl (by decide)) e)) (q1.at (fun o e => K0 _ o (no_ne m1 0 rfl) e)) w1 fun f e hs he => ?_)
    obtain ⟨oe, hoe, hce⟩ := he
    have zf : IsZip f z TI TO .ellipsis := hs _ _ (nd_ne hd 0 3 rfl rfl (by decide)) z0
    have ez : e ≠ z := fun x => by subst x; rw [zf] at hoe; cases hoe; simp at hce
    exact wpAny_setField_rec zf (by simp) fun f' _ hs' => hE f' e (fun c o c1 c2 c3 c4 x => hs'.extBut _ _ c1 (hs _ _ c3 (K0 c o c1 x))) ⟨oe, hs'.extBut _ _ ez hoe, hce⟩
  obtain ⟨x1, e1⟩ := Option.ne_none_iff_exists'.mp w1
  refine wpAny_bind (wpAny_bind (wpAny_onRaise ?_))
  show wpAny _ _ (Builtin.SmallTypes.nextOf (.ref i1) >>= _) _ _ _
  refine wpAny_bind (it_item (t1.at (fun o e => K0 _ o (nd_ne hd 3 0 rfl rfl (by decide)) e)) (q1.at (fun o e => K0 _ o (no_ne m1 0 rfl) e)) e1 fun f1 r1 v1 => wpAny_pure ?_)
  have tp1 : Row f1 TO [a1, a2] := v1.extBut _ _ (nd_ne hd 2 3 rfl rfl (by decide)) to0
  refine wpAny_bind (wpAny_seqItems tp1 rfl ?_)
  refine wpAny_bind (wpAny_updateSeq tp1 rfl ?_)
  obtain ⟨g1, hg1⟩ : ∃ g : Heap, g = f1.update TO (Obj.mapSeq (·.setIfInBounds 0 x1)) := ⟨_, rfl⟩
  have s1 : Heap.SameBut TO f1 g1 := by rw [hg1]; exact Heap.SameBut.update ..
  have to1 : Row g1 TO [x1, a2] := by
    rw [hg1]
    unfold Row
    rw [Heap.get?_update_self _ tp1 rfl]
    simp [Obj.mapSeq]
  rw [← hg1]
  have y1 : It b1 g1 i1 l1 (k + 1) := r1.at fun o e => s1.extBut _ _ (nd_ne hd 3 2 rfl rfl (by decide)) e
  have K1 : ∀ c o, c ≠ z → c ≠ TO → c ≠ i1 → s.heap.get? c = some o → g1.get? c = some o := fun c o c1 c2 c3 e => s1.extBut _ _ c2 (v1.extBut _ _ c3 (K0 c o c1 e))
  have z1 : IsZip g1 z TI TO .ellipsis := s1.extBut _ _ (nd_ne hd 0 2 rfl rfl (by decide)) (v1.extBut _ _ (nd_ne hd 0 3 rfl rfl (by decide)) z0)
  have n1 : g1.objs.size = g0.objs.size := s1.1.trans v1.1
  refine wpAny_bind (wpAny_letGo (wpAny_pure ?_))
  by_cases w2 : u2[k]? = none
  · refine wpAny_bind (wpAny_bind (wpAny_onRaise ?_))
    show wpAny _ _ (Builtin.SmallTypes.nextOf (.ref i2) >>= _) _ _ _
    refine wpAny_bind (it_end hh (t2.at (fun o e => K1 _ o (nd_ne hd 4 0 rfl rfl (by decide)) (nd_ne hd 4 2 rfl rfl (by decide)) (nd_ne hd 4 3 rfl rfl (by decide)) e)) (q2.at (fun o e => K1 _ o (no_ne m2 0 rfl) (no_ne m2 2 rfl) (no_ne m2 3 rfl) e)) w2 fun f e hs he => ?_)
    obtain ⟨oe, hoe, hce⟩ := he
    have zf : IsZip f z TI TO .ellipsis := hs _ _ (nd_ne hd 0 4 rfl rfl (by decide)) z1
    have ez : e ≠ z := fun x => by subst x; rw [zf] at hoe; cases hoe; simp at hce
    exact wpAny_setField_rec zf (by simp) fun f' _ hs' => hE f' e (fun c o c1 c2 c3 c4 x => hs'.extBut _ _ c1 (hs _ _ c4 (K1 c o c1 c2 c3 x))) ⟨oe, hs'.extBut _ _ ez hoe, hce⟩
  exact absurd out (by simp [w1, w2])
end
end ZN
set_option Elab.async false
set_option linter.all false
set_option maxRecDepth 100000
set_option maxHeartbeats 1000000
namespace ZN
open PySem
open PySem.Sem (wp)
/-- the iterator that is made -/
abbrev itO (b : Bool) (l : Addr) : Obj := { cls := .type (if b = true then "tuple_iterator" else "list_iterator"), data := .fields #[.ref l, .int 0 0] }
theorem tyCall2 (a b : Value) : checkTypeCall "zip" ⟨[a, b], []⟩ = pure () := F.typeCall_zip_2 a b
theorem nwCall2 (a b : Value) : checkBuiltinCall "zip.__new__" ⟨[.type "zip", a, b], []⟩ = pure () := F.newCall_zip_2 a b
theorem oArgs2 (a b c : Value) : argsOk "object.__init__" ⟨[a, b, c], []⟩ := F.args_object_init_3 a b c
def madeTL (h : Heap) (l1 l2 : Addr) : Heap := (((((h).push (itO true l1)).push (itO false l2)).push { cls := .type "tuple", data := .seq #[.ref h.objs.size, .ref (h.objs.size + 1)] }).push { cls := .type "tuple", data := .seq #[.none, .none] }).push { cls := .type "zip", data := .fields #[.none, .bool false, .bool false, .ref (h.objs.size + 2), .ref (h.objs.size + 3)] }
theorem newTL (l1 l2 : Addr) (u1 u2 : Array Value) :
    Meets (Builtin.«zip.__new__» ⟨[.type "zip", .ref l1, .ref l2], []⟩) (fun _ R s => s.heap.IsTuple l1 u1 ∧ s.heap.IsList l2 u2 ∧
      R (.ok (.ret (.ref (s.heap.objs.size + 4)))) { s with heap := madeTL s.heap l1 l2 }) :=
  .of_wp fun prog w A R s h => by
    obtain ⟨hp, g, d, tk, os⟩ := s
    obtain ⟨q1, q2, h⟩ := h
    have hsub := sub_zip
    have Q1 : Heap.IsTuple (Shared.heap ⟨hp, g, d, tk, os⟩) l1 u1 := q1
    have Q2 : Heap.IsList (Shared.heap ⟨(hp).push { cls := .type "tuple_iterator", data := .fields #[.ref l1, .int 0 0] }, g, d, tk, os⟩) l2 u2 := (Heap.IsList.push q2 _)
    wp_walk using wpAny_pyIter_tuple Q1, wpAny_pyIter_list Q2
    refine ⟨_, rfl, ?_⟩
    unfold madeTL at h
    simp only [Heap.size_push]
    exact h
section
variable {prog : Program} {w : World} {A : Around} {E : Value → Shared → Prop} {s : Shared}
theorem callTL {l1 l2 : Addr} {u1 u2 : Array Value} {Q : Value → Shared → Prop} (q1 : Sq true s.heap l1 u1) (q2 : Sq false s.heap l2 u2)
    (h : ∀ h', IsZip h' (s.heap.objs.size + 4) (s.heap.objs.size + 2) (s.heap.objs.size + 3) .none → Row h' (s.heap.objs.size + 2) [.ref s.heap.objs.size, .ref (s.heap.objs.size + 1)] →
      Row h' (s.heap.objs.size + 3) [.none, .none] → It true h' s.heap.objs.size l1 0 → It false h' (s.heap.objs.size + 1) l2 0 → h'.objs.size = s.heap.objs.size + 5 →
      (∀ c o, s.heap.get? c = some o → h'.get? c = some o) → Q (.ref (s.heap.objs.size + 4)) { s with heap := h' }) :
    wpAny (model prog w) A (call (.type "zip") [.ref l1, .ref l2]) Q E s := by
  refine callType_new F.called_zip (by decide) (tyCall2 _ _) (nwCall2 _ _) (fun obj => oArgs2 obj _ _) F.entry_zip_new
    (newTL l1 l2 u1 u2) ⟨q1, q2, ?_⟩
  have sz : ∀ (h : Heap) (o : Obj), (h.push o).objs.size = h.objs.size + 1 := fun h o => Heap.size_push ..
  have up : ∀ (h : Heap) (o : Obj) (c : Addr) (x : Obj), h.get? c = some x → (h.push o).get? c = some x := fun h o c x e => Heap.get?_push_of_some _ e
  have at_ : ∀ (h : Heap) (o : Obj) (c : Addr), o.isFreed = false → h.objs.size = c → (h.push o).get? c = some o := fun h o c f e => by subst e; exact Heap.get?_push_size _ f
  refine ⟨?_, h _ ?_ ?_ ?_ ?_ ?_ ?_ ?_⟩
  · exact ⟨_, at_ _ _ _ rfl (by simp only [sz]), rfl⟩
  · exact at_ _ _ _ rfl (by simp only [sz])
  · exact up _ _ _ _ (up _ _ _ _ (at_ _ _ _ rfl (by simp only [sz])))
  · exact up _ _ _ _ (at_ _ _ _ rfl (by simp only [sz]))
  · exact ⟨_, (up _ _ _ _ (up _ _ _ _ (up _ _ _ _ (up _ _ _ _ (at_ _ _ _ rfl (by simp only [sz])))))), rfl, rfl⟩
  · exact ⟨_, (up _ _ _ _ (up _ _ _ _ (up _ _ _ _ (at_ _ _ _ rfl (by simp only [sz]))))), rfl, rfl⟩
  · unfold madeTL; simp only [sz]
  · intro c o x; exact (up _ _ _ _ (up _ _ _ _ (up _ _ _ _ (up _ _ _ _ (up _ _ _ _ x)))))
end
def madeLT (h : Heap) (l1 l2 : Addr) : Heap := (((((h).push (itO false l1)).push (itO true l2)).push { cls := .type "tuple", data := .seq #[.ref h.objs.size, .ref (h.objs.size + 1)] }).push { cls := .type "tuple", data := .seq #[.none, .none] }).push { cls := .type "zip", data := .fields #[.none, .bool false, .bool false, .ref (h.objs.size + 2), .ref (h.objs.size + 3)] }
theorem newLT (l1 l2 : Addr) (u1 u2 : Array Value) :
    Meets (Builtin.«zip.__new__» ⟨[.type "zip", .ref l1, .ref l2], []⟩) (fun _ R s => s.heap.IsList l1 u1 ∧ s.heap.IsTuple l2 u2 ∧
      R (.ok (.ret (.ref (s.heap.objs.size + 4)))) { s with heap := madeLT s.heap l1 l2 }) :=
  .of_wp fun prog w A R s h => by
    obtain ⟨hp, g, d, tk, os⟩ := s
    obtain ⟨q1, q2, h⟩ := h
    have hsub := sub_zip
    have Q1 : Heap.IsList (Shared.heap ⟨hp, g, d, tk, os⟩) l1 u1 := q1
    have Q2 : Heap.IsTuple (Shared.heap ⟨(hp).push { cls := .type "list_iterator", data := .fields #[.ref l1, .int 0 0] }, g, d, tk, os⟩) l2 u2 := (Heap.IsTuple.push q2 _)
    wp_walk using wpAny_pyIter_list Q1, wpAny_pyIter_tuple Q2
    refine ⟨_, rfl, ?_⟩
    unfold madeLT at h
    simp only [Heap.size_push]
    exact h
section
variable {prog : Program} {w : World} {A : Around} {E : Value → Shared → Prop} {s : Shared}
theorem callLT {l1 l2 : Addr} {u1 u2 : Array Value} {Q : Value → Shared → Prop} (q1 : Sq false s.heap l1 u1) (q2 : Sq true s.heap l2 u2)
    (h : ∀ h', IsZip h' (s.heap.objs.size + 4) (s.heap.objs.size + 2) (s.heap.objs.size + 3) .none → Row h' (s.heap.objs.size + 2) [.ref s.heap.objs.size, .ref (s.heap.objs.size + 1)] →
      Row h' (s.heap.objs.size + 3) [.none, .none] → It false h' s.heap.objs.size l1 0 → It true h' (s.heap.objs.size + 1) l2 0 → h'.objs.size = s.heap.objs.size + 5 →
      (∀ c o, s.heap.get? c = some o → h'.get? c = some o) → Q (.ref (s.heap.objs.size + 4)) { s with heap := h' }) :
    wpAny (model prog w) A (call (.type "zip") [.ref l1, .ref l2]) Q E s := by
  refine callType_new F.called_zip (by decide) (tyCall2 _ _) (nwCall2 _ _) (fun obj => oArgs2 obj _ _) F.entry_zip_new
    (newLT l1 l2 u1 u2) ⟨q1, q2, ?_⟩
  have sz : ∀ (h : Heap) (o : Obj), (h.push o).objs.size = h.objs.size + 1 := fun h o => Heap.size_push ..
  have up : ∀ (h : Heap) (o : Obj) (c : Addr) (x : Obj), h.get? c = some x → (h.push o).get? c = some x := fun h o c x e => Heap.get?_push_of_some _ e
  have at_ : ∀ (h : Heap) (o : Obj) (c : Addr), o.isFreed = false → h.objs.size = c → (h.push o).get? c = some o := fun h o c f e => by subst e; exact Heap.get?_push_size _ f
  refine ⟨?_, h _ ?_ ?_ ?_ ?_ ?_ ?_ ?_⟩
  · exact ⟨_, at_ _ _ _ rfl (by simp only [sz]), rfl⟩
  · exact at_ _ _ _ rfl (by simp only [sz])
  · exact up _ _ _ _ (up _ _ _ _ (at_ _ _ _ rfl (by simp only [sz])))
  · exact up _ _ _ _ (at_ _ _ _ rfl (by simp only [sz]))
  · exact ⟨_, (up _ _ _ _ (up _ _ _ _ (up _ _ _ _ (up _ _ _ _ (at_ _ _ _ rfl (by simp only [sz])))))), rfl, rfl⟩
  · exact ⟨_, (up _ _ _ _ (up _ _ _ _ (up _ _ _ _ (at_ _ _ _ rfl (by simp only [sz]))))), rfl, rfl⟩
  · unfold madeLT; simp only [sz]
  · intro c o x; exact (up _ _ _ _ (up _ _ _ _ (up _ _ _ _ (up _ _ _ _ (up _ _ _ _ x)))))
end
section
variable {prog : Program} {w : World} {A : Around} {E : Value → Shared → Prop} {s : Shared}
/-- zip(x, y), each of either kind -/
theorem call2 {b1 b2 : Bool} {l1 l2 : Addr} {u1 u2 : Array Value} {Q : Value → Shared → Prop} (q1 : Sq b1 s.heap l1 u1) (q2 : Sq b2 s.heap l2 u2)
    (h : ∀ h', IsZip h' (s.heap.objs.size + 4) (s.heap.objs.size + 2) (s.heap.objs.size + 3) .none → Row h' (s.heap.objs.size + 2) [.ref s.heap.objs.size, .ref (s.heap.objs.size + 1)] →
      Row h' (s.heap.objs.size + 3) [.none, .none] → It b1 h' s.heap.objs.size l1 0 → It b2 h' (s.heap.objs.size + 1) l2 0 → h'.objs.size = s.heap.objs.size + 5 →
      (∀ c o, s.heap.get? c = some o → h'.get? c = some o) → Q (.ref (s.heap.objs.size + 4)) { s with heap := h' }) :
    wpAny (model prog w) A (call (.type "zip") [.ref l1, .ref l2]) Q E s := by
  cases b1 with
  | true => cases b2 with
    | true => exact RZ.call_zipT q1 q2 h
    | false => exact callTL q1 q2 h
  | false => cases b2 with
    | true => exact callLT q1 q2 h
    | false => exact call_zip_2 q1 q2 h
end
end ZN
set_option Elab.async false
set_option linter.all false
set_option maxRecDepth 100000
set_option maxHeartbeats 1000000
namespace ZN
open PySem PySem.Spec PyProof.Rows L2
def SqK (b : Bool) (K : PySem.W.Frag) (H : Hp) (a : Addr) (xs : List V) : Prop := if b = true then SqT K H a xs else SqL K H a xs
section
variable {X : Cx} {pins : List (Addr × Obj)} {σ : L2.St} {H : Hp} {s : Shared} {b : Bool} {a : Addr} {xs ys : List V}
theorem sqk_ok (I : Inv X pins σ H s) (h : SqK b X.K H a xs) : ∃ its : List Value, Vals xs its ∧ Sq b s.heap a its.toArray := by
  cases b with
  | true => obtain ⟨its, r, p, _⟩ := I.tuple h; exact ⟨its, r, p⟩
  | false => obtain ⟨its, r, p, _⟩ := I.list h; exact ⟨its, r, p.isList⟩
theorem sqk_inj (I : Inv X pins σ H s) (h : SqK b X.K H a xs) (h' : SqK b X.K H a ys) : xs = ys := by
  cases b with
  | true => exact I.tuple_inj h h'
  | false => exact I.list_inj h h'
theorem Sq.lt {h : Heap} {l : Addr} {u : Array Value} (q : Sq b h l u) : l < h.objs.size := by
  cases b with
  | true => obtain ⟨o, e, _⟩ := q; exact Heap.lt_size e
  | false => obtain ⟨o, e, _⟩ := q; exact Heap.lt_size e
theorem It.obj {h : Heap} {it l : Addr} {k : Nat} (t : ZN.It b h it l k) : ∃ o, h.get? it = some o ∧ ∀ v, o.data ≠ .cell v := by
  cases b with
  | true => obtain ⟨o, e, _, d⟩ := t; exact ⟨o, e, fun v q => by rw [d] at q; cases q⟩
  | false => obtain ⟨o, e, _, d⟩ := t; exact ⟨o, e, fun v q => by rw [d] at q; cases q⟩
end
/-- the sequences as they stand at each turn, the items in new tuples -/
def Itz2 (K : PySem.W.Frag) (b1 b2 : Bool) (a1 a2 : Addr) : L2.It :=
  ⟨fun i H => ∃ (p1 p2 : List V) (x1 x2 : V), SqK b1 K H a1 p1 ∧ SqK b2 K H a2 p2 ∧ p1[i]? = some x1 ∧ p2[i]? = some x2,
    fun i H v H' => ∃ (T : Addr) (x1 x2 : V), v = .ref T ∧ H T = none ∧ H' = upd H T (.tup [x1, x2]) ∧ (∀ p, SqK b1 K H a1 p → p[i]? = some x1) ∧ (∀ p, SqK b2 K H a2 p → p[i]? = some x2),
    fun i H => ∃ (p1 p2 : List V), SqK b1 K H a1 p1 ∧ SqK b2 K H a2 p2 ∧ (p1.length ≤ i ∨ p2.length ≤ i)⟩
theorem turn2 {P : Program} {w : World} {K : PySem.W.Frag} {elts : List Expr} {kk : Nat} {tpos : Pos} {b1 b2 : Bool} {a1 a2 z TI TO i1 i2 : Addr} (hd : List.Nodup [z, TI, TO, i1, i2]) (m1 : a1 ∉ [z, TI, TO, i1, i2]) (m2 : a2 ∉ [z, TI, TO, i1, i2]) :
    Turn P w K (.Tuple elts kk tpos) (Itz2 K b1 b2 a1 a2) [z, TI, TO, i1, i2] z (fun i h => IsZip h z TI TO .none ∧ Row h TI [.ref i1, .ref i2] ∧ (∃ x1 x2, Row h TO [x1, x2]) ∧ ZN.It b1 h i1 a1 i ∧ ZN.It b2 h i2 a2 i) where
  mem := by simp
  obj := fun i h st c hc => by
    obtain ⟨zz, ti, ⟨y1, y2, to⟩, t1, t2⟩ := st
    have e' : c = z ∨ c = TI ∨ c = TO ∨ c = i1 ∨ c = i2 := by simpa using hc
    rcases e' with q | q | q | q | q
    · rw [q]; exact ⟨_, zz, fun v q => nomatch q⟩
    · rw [q]; exact ⟨_, ti, fun v q => nomatch q⟩
    · rw [q]; exact ⟨_, to, fun v q => nomatch q⟩
    · rw [q]; exact t1.obj
    · rw [q]; exact t2.obj
  keep := fun i h h' st k => by
    obtain ⟨zz, ti, ⟨y1, y2, to⟩, t1, t2⟩ := st
    exact ⟨k z (by simp) _ zz, k TI (by simp) _ ti, ⟨y1, y2, k TO (by simp) _ to⟩, t1.at fun o q => k i1 (by simp) o q, t2.at fun o q => k i2 (by simp) o q⟩
  item := by
    intro X hP hw hK hc i pins s σ H E I hf st hg
    subst hP hw hK
    obtain ⟨zz, ti, ⟨y1, y2, to⟩, t1, t2⟩ := st
    obtain ⟨p1, p2, x1, x2, s1, s2, g1, g2⟩ := hg
    obtain ⟨w1, rv1, q1⟩ := sqk_ok I s1
    obtain ⟨u1, hu1, ru1⟩ := rv1.get g1
    obtain ⟨w2, rv2, q2⟩ := sqk_ok I s2
    obtain ⟨u2, hu2, ru2⟩ := rv2.get g2
    have zl : z < s.heap.objs.size := Heap.lt_size zz
    have hT : s.TypeIs (.ref z) "zip" := ⟨_, zz, rfl⟩
    unfold pyNext
    refine wpAny_bind (wpAny_attempt (wpAny_callSpecial?_slot (name := Str.ofString "__next__") hT F.slot_zip_next (wpAny_call_entry F.slot_zip_next hT F.entry_zip_next
      (next2_item hd m1 m2 zz ti to t1 q1 t2 q2 (x1 := u1) (x2 := u2) (by simpa using hu1) (by simpa using hu2) fun h' z' TO' v1 v2 new hsz hk => wpAny_pure ?_) (F.args_zip_next_1 _))))
    refine ⟨_, rfl, wpAny_letOwnedTupleGo_zip (s := { s with heap := h' }) z' fun h'' z'' sb => ?_⟩
    have new2 : h''.get? s.heap.objs.size = some { cls := .type "tuple", data := .seq #[u1, u2] } := (sb.2 _ (Nat.ne_of_gt zl)).trans new
    have newO : ObjOk X.prog X.w (upd H s.heap.objs.size (.tup [x1, x2])) h'' s.heap.objs.size (.tup [x1, x2]) :=
      ⟨by show 2 ≤ sizeLine; decide, [u1, u2], .cons ru1 (.cons ru2 .nil), ⟨_, new2, rfl, _, rfl⟩⟩
    have I1 : Inv X pins σ (upd H s.heap.objs.size (.tup [x1, x2])) { s with heap := h'' } :=
      I.turnedNew (t' := s.toks) (ch := [z, TI, TO, i1, i2]) (fun c o hb q => (sb.2 c (fun q' => hb (by simp [q']))).trans (hk c o (fun q' => hb (by simp [q'])) (fun q' => hb (by simp [q'])) (fun q' => hb (by simp [q'])) (fun q' => hb (by simp [q'])) q)) hf (Nat.le_refl _) newO
    refine ⟨.ref s.heap.objs.size, _, I1, rfl, ⟨_, x1, x2, rfl, I.hok.fresh (Nat.le_refl _), rfl, fun l hl => by rw [sqk_inj I hl s1]; exact g1, fun l hl => by rw [sqk_inj I hl s2]; exact g2⟩, ⟨z'', ?_, ⟨u1, u2, ?_⟩, ?_, ?_⟩, fun c hcm => ?_⟩
    · exact (sb.2 _ (nd_ne hd 1 0 rfl rfl (by decide))).trans (hk _ _ (nd_ne hd 1 0 rfl rfl (by decide)) (nd_ne hd 1 2 rfl rfl (by decide)) (nd_ne hd 1 3 rfl rfl (by decide)) (nd_ne hd 1 4 rfl rfl (by decide)) ti)
    · exact (sb.2 _ (nd_ne hd 2 0 rfl rfl (by decide))).trans TO'
    · exact v1.at fun o q => (sb.2 _ (nd_ne hd 3 0 rfl rfl (by decide))).trans q
    · exact v2.at fun o q => (sb.2 _ (nd_ne hd 4 0 rfl rfl (by decide))).trans q
    · have hlt : c < s.heap.objs.size := by
        have e' : c = z ∨ c = TI ∨ c = TO ∨ c = i1 ∨ c = i2 := by simpa using hcm
        rcases e' with q | q | q | q | q
        · rw [q]; exact zl
        · rw [q]; exact Heap.lt_size ti
        · rw [q]; exact Heap.lt_size to
        · rw [q]; obtain ⟨_, e1, _⟩ := t1.obj; exact Heap.lt_size e1
        · rw [q]; obtain ⟨_, e1, _⟩ := t2.obj; exact Heap.lt_size e1
      rw [upd_ne (Nat.ne_of_lt hlt)]
      exact (hf c hcm).1
  done := by
    intro X hP hw hK hc i pins s σ H E I hf st hg
    subst hP hw hK
    obtain ⟨zz, ti, ⟨y1, y2, to⟩, t1, t2⟩ := st
    obtain ⟨p1, p2, s1, s2, hend⟩ := hg
    obtain ⟨w1, rv1, q1⟩ := sqk_ok I s1
    have n1 := rv1.length
    obtain ⟨w2, rv2, q2⟩ := sqk_ok I s2
    have n2 := rv2.length
    have out : w1.toArray[i]? = none ∨ w2.toArray[i]? = none := by
      rcases hend with q | q
      · exact .inl (by simp; omega)
      · exact .inr ((by simp; omega))
    have hT : s.TypeIs (.ref z) "zip" := ⟨_, zz, rfl⟩
    unfold pyNext
    refine wpAny_bind (wpAny_attempt (wpAny_callSpecial?_slot (name := Str.ofString "__next__") hT F.slot_zip_next (wpAny_call_entry F.slot_zip_next hT F.entry_zip_next
      (next2_end (I.ok.hd hc) hd m1 m2 zz ti to t1 q1 t2 q2 out fun h' e hk he => ?_) (F.args_zip_next_1 _))))
    obtain ⟨o, ho, hcl⟩ := he
    refine wpAny_bind (wpAny_isInstance (T := "StopIteration") (b := true) ⟨o, ho, hcl⟩ isSubtype_stop ?_)
    exact wpAny_pure ⟨rfl, I.turnedL (t' := s.toks) (ch := [z, TI, TO, i1, i2]) (fun c o hb q => hk c o (fun q' => hb (by simp [q'])) (fun q' => hb (by simp [q'])) (fun q' => hb (by simp [q'])) (fun q' => hb (by simp [q'])) q) hf⟩
  self := fun A i s Q E st h => wpAny_pyIter_zip st.1 h
theorem apart2 (I : Nat) : List.Nodup [I + 4, I + 2, I + 3, I, I + 1] := by
  simp
theorem away2 (I l : Nat) (h : l < I) : l ∉ [I + 4, I + 2, I + 3, I, I + 1] := by
  simp
  omega
def iZ2 (K : PySem.W.Frag) (ta : TA) : TI := fun σ H R => ta σ H fun vs H1 => ∃ (b1 b2 : Bool) (a1 a2 : Addr) (p1 p2 : List V), vs = [.ref a1, .ref a2] ∧ SqK b1 K H1 a1 p1 ∧ SqK b2 K H1 a2 p2 ∧ R (Itz2 K b1 b2 a1 a2) H1
theorem pi_z2 {X : Cx} {e1 e2 : Expr} {ta : TA} {p pos tpos : Pos} {elts : List Expr} {kk : Nat} (hg : Gl X "zip") (hm : X.mg "zip" = none) (ha : PA X [e1, e2] ta)
    (hs : starEach [e1, e2] X.env = (false, eval e1 X.env) :: starEach [e2] X.env := by rfl) (hpl : (backTo pos (starEach [e2] X.env)).any (·.1) = false := by rfl) :
    PI X (.Tuple elts kk tpos) (.Call (.Name "zip" p) [e1, e2] [] pos) (iZ2 X.K ta) := by
  refine ⟨fun pins s σ H R I h => ?_⟩
  refine Call_ (ld_blt I hg hm PyProof.Rows.boot_zip (PyProof.Rows.callWith_type1 (thn (ha.run pos pins s σ H _ I h) fun us s1 ⟨vs, H1, I1, r1, q1⟩ => ?_) hs hpl))
  obtain ⟨b1, b2, a1, a2, p1, p2, ex, k1, k2, q⟩ := q1
  subst ex
  cases r1 with
  | cons r rr => cases rr with
    | cons r' rr =>
      cases rr
      cases r; cases r'
      obtain ⟨w1, rv1, c1⟩ := sqk_ok I1 k1
      obtain ⟨w2, rv2, c2⟩ := sqk_ok I1 k2
      have fresh : ∀ c, c ∈ [s1.heap.objs.size + 4, s1.heap.objs.size + 2, s1.heap.objs.size + 3, s1.heap.objs.size, s1.heap.objs.size + 1] → FpOk X pins H1 c := fun c hcm => by
        have hle : s1.heap.objs.size ≤ c := by
          simp at hcm
          omega
        exact I1.fpOk hle (I1.hok.fresh hle)
      refine call2 c1 c2 fun h' hz hTI hTO h1 h2 hsz hk => wpAny_pyIter_zip hz ?_
      have I2 : Inv X pins σ H1 { s1 with heap := h' } := I1.kept (t' := s1.toks) hk
      exact ⟨s1.heap.objs.size + 4, [s1.heap.objs.size + 4, s1.heap.objs.size + 2, s1.heap.objs.size + 3, s1.heap.objs.size, s1.heap.objs.size + 1], _, _, H1, rfl, I2, turn2 (apart2 _) (away2 _ _ c1.lt) (away2 _ _ c2.lt), ⟨hz, hTI, ⟨_, _, hTO⟩, h1, h2⟩, fresh, q⟩
end ZN
namespace EL
open PySem PySem.Spec PyProof.Rows L2 GxR LG ZN
section
variable {G : G0} {X : Cx} {pos : Pos} {fr : FA}
/-- a tuple (true) or a list -/
def sqOf (d : D) (st : Sto) : Option (Bool × List D) := match d with
  | .tup ds => some (true, ds)
  | d => (listOf d st).map fun ds => (false, ds)
theorem sq_live {μ : Mu} {st : Sto} {H : Hp} {d : D} {v : V} {b : Bool} {ds : List D} (S : StR G μ st H) (R : Rep G μ H d v) (e : sqOf d st = some (b, ds)) : ∃ a, v = .ref a ∧
    ∀ μ' st' H', Ext0 G μ H μ' H' → StR G μ' st' H' → Intact (srcOf d ds) st' → ∃ vs, SqK b G.K H' a vs ∧ Reps G μ' H' ds vs := by
  unfold sqOf at e
  split at e
  · cases e
    cases R with
    | tup s r => exact ⟨_, rfl, fun μ' st' H' x S' _ => ⟨_, show SqT G.K H' _ _ from SqT.of (x.tup _ _ s), r.ext0 x⟩⟩
  · obtain ⟨es, e1, e2⟩ := Option.map_eq_some_iff.mp e
    cases e2
    obtain ⟨a, vs, rfl, h1, h2⟩ := list_rep S R e1
    exact ⟨a, rfl, live S R e1⟩
def iZip2 (fr : FA) : FI := fun ρ st => (fr ρ st).bind fun p => match p.1 with
  | [x, y] => (sqOf x p.2).bind fun a => (sqOf y p.2).bind fun b => some (List.zipWith (fun x y => .tup [x, y]) a.2 b.2, srcOf x a.2 ++ srcOf y b.2, p.2)
  | _ => none
theorem zip_at {xs ys : List D} {i : Nat} {x y : D} (h1 : xs[i]? = some x) (h2 : ys[i]? = some y) : (List.zipWith (fun x y => D.tup [x, y]) xs ys)[i]? = some (.tup [x, y]) := by
  rw [List.getElem?_zipWith, h1, h2]
theorem src_now {d : D} {st : Sto} {ds : List D} (h : listOf d st = some ds) : Intact (srcOf d ds) st := by
  intro p hp
  unfold srcOf at hp
  split at hp
  · simp at hp; subst hp
    unfold listOf at h
    simp only at h
    split at h
    · rename_i hl; cases h; exact hl
    · cases h
  · simp at hp
theorem src_sq {d : D} {st : Sto} {b : Bool} {ds : List D} (h : sqOf d st = some (b, ds)) : Intact (srcOf d ds) st := by
  unfold sqOf at h
  split at h
  · cases h; exact fun p hp => by simp [srcOf] at hp
  · obtain ⟨es, e1, e2⟩ := Option.map_eq_some_iff.mp h
    cases e2
    exact src_now e1
theorem di_zip2 {e e2 : Expr} {p tpos : Pos} {elts : List Expr} {kk : Nat} (o : On G X) (hg : Gl X "zip") (hm : G.mg "zip" = none) (ha : PA X [e, e2] (liftA G fr))
    (hs : starEach [e, e2] X.env = (false, eval e X.env) :: starEach [e2] X.env := by rfl) (hpl : (backTo pos (starEach [e2] X.env)).any (·.1) = false := by rfl) :
    PI X (.Tuple elts kk tpos) (.Call (.Name "zip" p) [e, e2] [] pos) (liftI G (iZip2 fr)) := by
  refine PI.imp (pi_z2 hg (by rw [o.mg]; exact hm) ha hs hpl) fun σ H R ⟨ρ, μ, st, items, src, st', E, S, e, k⟩ => ?_
  unfold iZip2 at e
  obtain ⟨⟨ds, s1⟩, e1, e⟩ := Option.bind_eq_some_iff.mp e
  refine ⟨ρ, μ, st, ds, s1, E, S, e1, fun μ1 H1 vs X1 S1 R1 => ?_⟩
  simp only at e
  split at e
  · rename_i x y
    obtain ⟨⟨b1, xs⟩, f1, e⟩ := Option.bind_eq_some_iff.mp e
    obtain ⟨⟨b2, ys⟩, f2, e⟩ := Option.bind_eq_some_iff.mp e
    cases e
    cases R1 with
    | cons r1 t => cases t with
      | cons r2 t =>
        cases t
        obtain ⟨a1, rfl, L1⟩ := sq_live S1 r1 f1
        obtain ⟨a2, rfl, L2⟩ := sq_live S1 r2 f2
        obtain ⟨us, u1, u2⟩ := L1 μ1 _ H1 Ext.refl.to0 S1 (src_sq f1)
        obtain ⟨ws, w1, w2⟩ := L2 μ1 _ H1 Ext.refl.to0 S1 (src_sq f2)
        refine ⟨b1, b2, a1, a2, us, ws, rfl, by rw [o.K]; exact u1, by rw [o.K]; exact w1, k μ1 H1 _ X1 S1 ?_⟩
        rw [o.K]
        intro μ' st' H' i x S hin
        obtain ⟨hin1, hin2⟩ := intact_app.mp hin
        obtain ⟨vs1, h1, h2⟩ := L1 μ' st' H' x S hin1
        obtain ⟨vs2, g1, g2⟩ := L2 μ' st' H' x S hin2
        have len1 : xs.length = vs1.length := h2.length
        have len2 : ys.length = vs2.length := g2.length
        simp only [List.length_zipWith]
        refine ⟨fun hl => ?_, fun hl => ⟨vs1, vs2, h1, g1, by omega⟩⟩
        have hv : i < vs1.length := by omega
        have hw : i < vs2.length := by omega
        refine ⟨⟨vs1, vs2, vs1[i], vs2[i], h1, g1, by simp [hv], by simp [hw]⟩, fun y H'' hy => ?_⟩
        obtain ⟨T, x1, x2, rfl, nT, rfl, q1, q2⟩ := hy
        obtain ⟨d1, z1, r1⟩ := h2.get' i (q1 vs1 h1)
        obtain ⟨d2, z2, r2⟩ := g2.get' i (q2 vs2 g1)
        exact ⟨_, zip_at z1 z2, .tup upd_same (.cons (r1.ext (Ext.new S nT)) (.cons (r2.ext (Ext.new S nT)) .nil)), S.newT nT, Ext.new S nT⟩
  · cases e
end
end EL
set_option Elab.async false
set_option linter.all false
set_option maxRecDepth 100000
set_option maxHeartbeats 1000000
namespace ZN
open PySem PySem.Spec PyProof.Rows L2
open AutoSeq1 (wpAny_loadPart')
theorem newEnT (l : Addr) (u : Array Value) (n : Nat) (dct : Option Addr) (sl : Array (Option Value)) :
    Meets (Builtin.«enumerate.__new__» ⟨[.type "enumerate", .ref l], []⟩) (fun _ R s => s.heap.get? l = some { cls := .type "tuple", dict := dct, data := .seq u n, slots := sl } ∧
      R (.ok (.ret (.ref (s.heap.push (itO true l)).objs.size)))
        { s with heap := (s.heap.push (itO true l)).push { cls := .type "enumerate", data := .fields #[.none, .bool false, .ref s.heap.objs.size, rawInt 0, .none, .none] } }) :=
  .of_wp fun prog w A R s h => by
    obtain ⟨hp, g, d, tk, os⟩ := s
    obtain ⟨at_, h⟩ := h
    have hsub := sub_enumerate
    have hT : Heap.IsTuple (Shared.heap ⟨hp, g, d, tk, os⟩) l u := ⟨_, at_, rfl, n, rfl⟩
    wp_walk using wpAny_loadPart' at_
    refine wpAny_stack_any fun st => wpAny_pure ?_
    split
    · rename_i c _ _ _ _ _
      cases (c == Value.type "enumerate")
      · wp_walk using wpAny_loadPart' at_, wpAny_pyIter_tuple hT
        exact ⟨_, rfl, h⟩
      · wp_walk using wpAny_loadPart' at_, wpAny_pyIter_tuple hT
        exact ⟨_, rfl, h⟩
    · wp_walk using wpAny_loadPart' at_, wpAny_pyIter_tuple hT
      exact ⟨_, rfl, h⟩
section
variable {prog : Program} {w : World} {A : Around} {E : Value → Shared → Prop} {s : Shared}
theorem callEn {b : Bool} {l : Addr} {u : Array Value} {Q : Value → Shared → Prop} (q : Sq b s.heap l u)
    (h : ∀ h', IsEnum h' (s.heap.objs.size + 1) s.heap.objs.size 0 .none → It b h' s.heap.objs.size l 0 → h'.objs.size = s.heap.objs.size + 2 →
      (∀ b o, s.heap.get? b = some o → h'.get? b = some o) → Q (.ref (s.heap.objs.size + 1)) { s with heap := h' }) :
    wpAny (model prog w) A (call (.type "enumerate") [.ref l]) Q E s := by
  cases b with
  | false => exact call_enumerate_list q h
  | true =>
    obtain ⟨⟨c, dct, dt, sl⟩, hl, hc, n, hd⟩ := q
    replace hc : c = .type "tuple" := hc
    replace hd : dt = .seq u n := hd
    subst hc hd
    refine callType_new F.called_enumerate (by decide) (F.typeCall_enumerate_1 _) (F.newCall_enumerate_1 _) (fun obj => F.args_object_init_2 obj _) F.entry_enumerate_new (newEnT l u n dct sl) ⟨hl, ?_⟩
    have hz : (s.heap.push (itO true l)).objs.size = s.heap.objs.size + 1 := Heap.size_push ..
    show _ ∧ _
    rw [hz]
    have he : IsEnum ((s.heap.push (itO true l)).push { cls := .type "enumerate", data := .fields #[.none, .bool false, .ref s.heap.objs.size, rawInt 0, .none, .none] }) (s.heap.objs.size + 1) s.heap.objs.size 0 .none := by
      have := Heap.get?_push_size (s.heap.push (itO true l)) (o := { cls := .type "enumerate", data := .fields #[.none, .bool false, .ref s.heap.objs.size, rawInt 0, .none, .none] }) rfl
      rw [hz] at this; exact this
    exact ⟨⟨_, he, rfl⟩, h _ he ⟨_, Heap.get?_push_of_some _ (Heap.get?_push_size _ rfl), rfl, rfl⟩ (by rw [Heap.size_push, hz]) fun b o x => Heap.get?_push_of_some _ (Heap.get?_push_of_some _ x)⟩
theorem draws {b : Bool} (hh : A.handled = none) (it l : Addr) (hne : l ≠ it) (u : Array Value) : Draws prog w A it [it, l] u.size (fun i v => u[i]? = some v) (fun i h => It b h it l i ∧ Sq b h l u) where
  live := fun _ _ st => let ⟨o, ho, _⟩ := st.1.obj; ⟨o, ho⟩
  frame := fun _ _ _ st hk => ⟨st.1.at fun o e => hk it (by simp) o e, st.2.at fun o e => hk l (by simp) o e⟩
  item := fun i s Q E hi st hQ => by
    refine it_item st.1 st.2 (x := u[i]) (by simp [hi]) fun h' t' hs' => ?_
    exact hQ _ h' s.toks (by simp [hi]) ⟨t', st.2.at fun o e => hs'.extBut _ _ hne e⟩ hs'
  done := fun s Q E st hE => it_end hh st.1 st.2 (by simp) hE
end
def Ite (K : PySem.W.Frag) (b : Bool) (a : Addr) : L2.It :=
  ⟨fun i H => ∃ (xs : List V) (x : V), SqK b K H a xs ∧ xs[i]? = some x,
    fun i H v H' => ∃ (T : Addr) (x : V), v = .ref T ∧ H T = none ∧ H' = upd H T (.tup [.int (i : Nat), x]) ∧ ∀ xs, SqK b K H a xs → xs[i]? = some x,
    fun i H => ∃ xs : List V, SqK b K H a xs ∧ xs.length = i⟩
theorem turnEn {P : Program} {w : World} {K : PySem.W.Frag} {elts : List Expr} {kk : Nat} {tpos : Pos} (b : Bool) (a e it : Addr) (hae : a ≠ e) (hai : a ≠ it) :
    Turn P w K (.Tuple elts kk tpos) (Ite K b a) [e, it] e (fun i h => (∃ old, IsEnum h e it ((i : Nat) : Int) old) ∧ It b h it a i ∧ e ≠ it) where
  mem := by simp
  obj := fun i h st c hc => by
    obtain ⟨⟨old, he⟩, t, _⟩ := st
    have e' : c = e ∨ c = it := by simpa using hc
    rcases e' with z | z
    · rw [z]; exact ⟨_, he, fun v q => nomatch q⟩
    · rw [z]; exact t.obj
  keep := fun i h h' st k => let ⟨⟨old, he⟩, t, hne⟩ := st; ⟨⟨old, k e (by simp) _ he⟩, t.at fun o q => k it (by simp) o q, hne⟩
  item := by
    intro X hP hw hK hc i pins s σ H E I hf st hg
    subst hP hw hK
    obtain ⟨⟨old, he⟩, t, hne⟩ := st
    obtain ⟨xs, x, hq, hx⟩ := hg
    obtain ⟨its, rv, p⟩ := sqk_ok I hq
    obtain ⟨u, hu, ru⟩ := rv.get hx
    have hel : e < s.heap.objs.size := Heap.lt_size he
    have hil : it < s.heap.objs.size := by obtain ⟨_, q, _⟩ := t.obj; exact Heap.lt_size q
    have hlt : i < its.toArray.size := by
      have := (List.getElem?_eq_some_iff.mp hu).1
      simpa using this
    refine wpAny_pyNext_enum_itemD (draws (A := X.A.in1) (b := b) (show X.A.in1.handled = none from I.ok.hd hc) it a hai its.toArray) he ⟨t, p⟩ hlt hne (by simp; exact ⟨hne, Ne.symm hae⟩) fun x' h' tk hp' ho st' hT hsz hk => ?_
    obtain rfl : x' = u := by
      have : its.toArray[i]? = some u := by simpa using hu
      rw [this] at hp'; exact (Option.some.inj hp').symm
    refine ⟨_, rfl, wpAny_letOwnedTupleGo_enum (s := { s with heap := h', toks := tk + 1 }) ho fun h'' he' sb => ?_⟩
    have hT2 : h''.get? s.heap.objs.size = some { cls := .type "tuple", data := .seq #[.int i tk, x'] } := (sb.2 _ (Nat.ne_of_gt hel)).trans hT
    have new : ObjOk X.prog X.w (upd H s.heap.objs.size (.tup [.int (i : Nat), x])) h'' s.heap.objs.size (.tup [.int (i : Nat), x]) :=
      ⟨by show 2 ≤ sizeLine; decide, [.int i tk, x'], .cons ⟨_, rfl⟩ (.cons ru .nil), ⟨_, hT2, rfl, _, rfl⟩⟩
    have I1 : Inv X pins σ (upd H s.heap.objs.size (.tup [.int (i : Nat), x])) { s with heap := h'', toks := tk + 1 } :=
      I.turnedNew (ch := [e, it]) (fun c ob hb q => (sb.2 c (fun z => hb (by simp [z]))).trans (hk c ob (fun z => hb (by simp [z])) (fun z => hb (by simp [z])) q)) hf (Nat.le_refl _) new
    refine ⟨.ref s.heap.objs.size, _, I1, rfl, ⟨_, x, rfl, I.hok.fresh (Nat.le_refl _), rfl, fun ys hy => by rw [sqk_inj I hy hq]; exact hx⟩, ⟨⟨x', ?_⟩, st'.1.at fun o q => (sb.2 it (Ne.symm hne)).trans q, hne⟩, fun c hb => ?_⟩
    · have e1 : ((i + 1 : Nat) : Int) = (i : Int) + 1 := by omega
      rw [e1]; exact he'
    · have hb' : c < s.heap.objs.size := by
        have e' : c = e ∨ c = it := by simpa using hb
        rcases e' with z | z
        · rw [z]; exact hel
        · rw [z]; exact hil
      rw [upd_ne (Nat.ne_of_lt hb')]
      exact (hf c hb).1
  done := by
    intro X hP hw hK hc i pins s σ H E I hf st hg
    subst hP hw hK
    obtain ⟨⟨old, he⟩, t, hne⟩ := st
    obtain ⟨xs, hq, hx⟩ := hg
    obtain ⟨its, rv, p⟩ := sqk_ok I hq
    obtain ⟨f0, f1, f2, f3, f4, f5⟩ := hf it (by simp)
    have hl := rv.length
    have hn : its.toArray.size = i := by simp; omega
    subst hn
    exact wpAny_pyNext_enum_endD (draws (A := X.A.in1) (b := b) (show X.A.in1.handled = none from I.ok.hd hc) it a hai its.toArray) he ⟨t, p⟩ fun h' eb => ⟨rfl, I.turned (t' := s.toks) (fun c o hb q => eb c o hb q) f0 f1 f3 f4 f5⟩
  self := fun A i s Q E st h => let ⟨⟨_, he⟩, _⟩ := st; wpAny_pyIter_enum he h
def iEn (K : PySem.W.Frag) (ta : TA) : TI := fun σ H R => ta σ H fun vs H1 => ∃ (b : Bool) (a : Addr) (xs : List V), vs = [.ref a] ∧ SqK b K H1 a xs ∧ R (Ite K b a) H1
theorem pi_en {X : Cx} {e : Expr} {ta : TA} {p pos tpos : Pos} {elts : List Expr} {kk : Nat} (hg : Gl X "enumerate") (hm : X.mg "enumerate" = none) (ha : PA X [e] ta) (hs : starEach [e] X.env = [(false, eval e X.env)] := by rfl) :
    PI X (.Tuple elts kk tpos) (.Call (.Name "enumerate" p) [e] [] pos) (iEn X.K ta) := by
  refine ⟨fun pins s σ H R I h => ?_⟩
  refine Call_ (ld_blt I hg hm boot_enumerate (PyProof.Rows.callWith_type1 (thn (ha.run pos pins s σ H _ I h) fun us s1 ⟨vs, H1, I1, r1, q1⟩ => ?_) hs rfl))
  obtain ⟨b, a, xs, ex, hq, q⟩ := q1
  subst ex
  cases r1 with
  | cons r rr =>
    cases rr
    cases r
    obtain ⟨its, rv, p'⟩ := sqk_ok I1 hq
    have lt := p'.lt
    refine callEn p' fun h' he t hsz hk => wpAny_pyIter_enum he ?_
    have I2 : Inv X pins σ H1 { s1 with heap := h' } := I1.kept (t' := s1.toks) hk
    refine ⟨s1.heap.objs.size + 1, [s1.heap.objs.size + 1, s1.heap.objs.size], _, _, H1, rfl, I2, turnEn b a (s1.heap.objs.size + 1) s1.heap.objs.size (Nat.ne_of_lt (Nat.lt_succ_of_lt lt)) (Nat.ne_of_lt lt), ⟨⟨.none, he⟩, t, Nat.succ_ne_self _⟩, fun c hb => ?_, q⟩
    have e' : c = s1.heap.objs.size + 1 ∨ c = s1.heap.objs.size := by simpa using hb
    have hle : s1.heap.objs.size ≤ c := by
      rcases e' with z | z
      · exact Nat.le_trans (Nat.le_succ _) (Nat.le_of_eq z.symm)
      · exact Nat.le_of_eq z.symm
    exact I1.fpOk hle (I1.hok.fresh hle)
end ZN
namespace EL
open PySem PySem.Spec PyProof.Rows L2 GxR LG ZN
section
variable {G : G0} {X : Cx} {pos : Pos} {fr : FA}
def enumD (ds : List D) : List D := ds.mapIdx fun i d => .tup [.int (i : Nat), d]
def iEnum (fr : FA) : FI := fun ρ st => (fr ρ st).bind fun p => match p.1 with
  | [x] => (sqOf x p.2).bind fun a => some (enumD a.2, srcOf x a.2, p.2)
  | _ => none
theorem di_enum {e : Expr} {p tpos : Pos} {elts : List Expr} {kk : Nat} (o : On G X) (hg : Gl X "enumerate") (hm : G.mg "enumerate" = none) (ha : PA X [e] (liftA G fr)) (hs : starEach [e] X.env = [(false, eval e X.env)] := by rfl) :
    PI X (.Tuple elts kk tpos) (.Call (.Name "enumerate" p) [e] [] pos) (liftI G (iEnum fr)) := by
  refine PI.imp (pi_en hg (by rw [o.mg]; exact hm) ha hs) fun σ H R ⟨ρ, μ, st, items, src, st', E, S, e, k⟩ => ?_
  unfold iEnum at e
  obtain ⟨⟨ds, s1⟩, e1, e⟩ := Option.bind_eq_some_iff.mp e
  refine ⟨ρ, μ, st, ds, s1, E, S, e1, fun μ1 H1 vs X1 S1 R1 => ?_⟩
  simp only at e
  split at e
  · obtain ⟨⟨b, xs⟩, f1, e⟩ := Option.bind_eq_some_iff.mp e
    cases e
    cases R1 with
    | cons r1 t =>
      cases t
      obtain ⟨a1, rfl, L1⟩ := sq_live S1 r1 f1
      obtain ⟨us, u1, u2⟩ := L1 μ1 _ H1 Ext.refl.to0 S1 (src_sq f1)
      refine ⟨b, a1, us, rfl, by rw [o.K]; exact u1, k μ1 H1 _ X1 S1 ?_⟩
      rw [o.K]
      intro μ' st' H' i x S hin
      obtain ⟨vs1, h1, h2⟩ := L1 μ' st' H' x S hin
      have len1 : xs.length = vs1.length := h2.length
      have len : (enumD xs).length = xs.length := by simp [enumD]
      simp only [len]
      refine ⟨fun hl => ?_, fun hl => ⟨vs1, h1, by omega⟩⟩
      have hv : i < vs1.length := by omega
      refine ⟨⟨vs1, vs1[i], h1, by simp [hv]⟩, fun y H'' hy => ?_⟩
      obtain ⟨T, x1, rfl, nT, rfl, q1⟩ := hy
      obtain ⟨d1, z1, r1⟩ := h2.get' i (q1 vs1 h1)
      refine ⟨.tup [.int (i : Nat), d1], ?_, .tup upd_same (.cons (.int _) (.cons (r1.ext (Ext.new S nT)) .nil)), S.newT nT, Ext.new S nT⟩
      unfold enumD
      rw [List.getElem?_mapIdx, z1]
      rfl
  · cases e
end
end EL
set_option Elab.async false
set_option linter.all false
set_option maxRecDepth 100000
set_option maxHeartbeats 1000000
namespace EL
open PySem PySem.Spec PyProof.Rows L2 GxR LG
/-- a context with its names and its scope -/
structure Here (G : G0) (X : Cx) (Ns : List Str) (scp : Scope) : Prop where
  on : On G X
  N : X.N = Ns
  sc : X.env.scope = scp
  nd : Ns.Nodup
section
variable {G : G0} {W : WX} {X : Cx} {N : List Str} {sc : Scope} {pos : Pos} {a b c e tgt : Expr} {es : List Expr} {fa fb fc : FE} {ta tb : FT} {fr : FA}
theorem Here.gl (o : Here G X N sc) {x : Str} (h : sc.names.lookup x = some .globalImplicit) : Gl X x := by
  show X.env.scope.names.lookup x = _
  rw [o.sc]; exact h
theorem Here.ix (o : Here G X N sc) {i : Nat} {x : Str} (h : N[i]? = some x) : X.N[i]? = some x := by rw [o.N]; exact h
theorem Here.ndX (o : Here G X N sc) : X.N.Nodup := by rw [o.N]; exact o.nd
theorem x_var (o : Here G X N sc) (i : Nat) {x : Str} (hN : N[i]? = some x := by rfl) (hv : Vis sc x := by first | exact Or.inl rfl | exact Or.inr (Or.inl rfl) | exact Or.inr (Or.inr rfl)) (hd : (x == ("__debug__" : Str)) = false := by decide)
    (hcd : (x == ("__classdict__" : Str)) = false := by decide) : PE X (.Name x pos) (lift G (fV i)) := de_var i (o.ix hN) (by rw [o.sc]; exact hv) hd hcd
theorem x_gint (o : Here G X N sc) {x : Str} {i : Int} (hm : ∃ t, G.mg x = some (.int i t)) (hg : sc.names.lookup x = some .globalImplicit := by rfl) (hd : (x == ("__debug__" : Str)) = false := by decide) : PE X (.Name x pos) (lift G (fC (.int i))) :=
  let ⟨_, hm⟩ := hm; de_gint (o.gl hg) (by rw [o.on.mg]; exact hm) hd
theorem x_ty (o : Here G X N sc) {T : String} {x : Str} (hm : G.mg x = none) (hv : bootBuiltins x = some (.type T)) (hg : sc.names.lookup x = some .globalImplicit := by rfl) (hn : x ≠ "__name__" := by decide) (hd : (x == ("__debug__" : Str)) = false := by decide) : PE X (.Name x pos) (lift G (fC (.ty T))) :=
  de_ty o.on (o.gl hg) hm hv hn hd
theorem x_add (o : Here G X N sc) (ha : PE X a (lift G fa)) (hb : PE X b (lift G fb)) : PE X (.BinOp a .Add b pos) (lift G (fOp addD fa fb)) := de_op (do_add o.on) ha hb
theorem x_sub (o : Here G X N sc) (ha : PE X a (lift G fa)) (hb : PE X b (lift G fb)) : PE X (.BinOp a .Sub b pos) (lift G (fOp subD fa fb)) := de_op do_sub ha hb
theorem x_mul (o : Here G X N sc) (ha : PE X a (lift G fa)) (hb : PE X b (lift G fb)) : PE X (.BinOp a .Mult b pos) (lift G (fOp mulD fa fb)) := de_op do_mul ha hb
theorem x_fdiv (o : Here G X N sc) (ha : PE X a (lift G fa)) (hb : PE X b (lift G fb)) : PE X (.BinOp a .FloorDiv b pos) (lift G (fOp fdivD fa fb)) := de_op do_fdiv ha hb
theorem x_mod (o : Here G X N sc) (ha : PE X a (lift G fa)) (hb : PE X b (lift G fb)) : PE X (.BinOp a .Mod b pos) (lift G (fOp modD fa fb)) := de_op do_mod ha hb
theorem x_pow (o : Here G X N sc) (ha : PE X a (lift G fa)) (hb : PE X b (lift G fb)) : PE X (.BinOp a .Pow b pos) (lift G (fOp powD fa fb)) := de_op do_pow ha hb
theorem x_ix (o : Here G X N sc) (ha : PE X a (lift G fa)) (hb : PE X b (lift G fb)) (hs : PlainIx b := by exact fun _ _ => rfl) : PE X (.Subscript a b pos) (lift G (fOp ixD fa fb)) := de_ix (do_ix o.on) ha hb hs
theorem x_slice (o : Here G X N sc) {lo hi : Option Expr} {p2 : Pos} {fl fu : FO} (he : PE X e (lift G fa)) (hl : PO X lo (liftO G fl)) (hu : PO X hi (liftO G fu)) : PE X (.Subscript e (.Slice lo hi none p2) pos) (lift G (fSl fa fl fu)) := de_slice o.on he hl hu
/-- built-in functions by their names -/
theorem x_bi (o : Here G X N sc) {id : String} {x : Str} {p : Pos} {h : HA} (hc : CallR X (.builtin id) (rDA G h)) (hm : G.mg x = none) (hv : bootBuiltins x = some (.builtin id)) (ha : PA X (e :: es) (liftA G fr)) (hg : sc.names.lookup x = some .globalImplicit := by rfl)
    (hn : x ≠ "__name__" := by decide) (hdb : (x == ("__debug__" : Str)) = false := by decide)
    (he : starEach (e :: es) X.env = (false, eval e X.env) :: starEach es X.env := by rfl) (hpl : (backTo pos (starEach es X.env)).any (·.1) = false := by rfl) : PE X (.Call (.Name x p) (e :: es) [] pos) (lift G (fCall h fr)) := de_callB o.on hc (o.gl hg) hm hv ha hn hdb he hpl
theorem x_bt (o : Here G X N sc) {T : String} {x : Str} {p : Pos} {h : HA} (hc : CallR X (.type T) (rDA G h)) (hm : G.mg x = none) (hv : bootBuiltins x = some (.type T)) (ha : PA X (e :: es) (liftA G fr)) (hg : sc.names.lookup x = some .globalImplicit := by rfl)
    (hn : x ≠ "__name__" := by decide) (hdb : (x == ("__debug__" : Str)) = false := by decide)
    (he : starEach (e :: es) X.env = (false, eval e X.env) :: starEach es X.env := by rfl) (hpl : (backTo pos (starEach es X.env)).any (·.1) = false := by rfl) : PE X (.Call (.Name x p) (e :: es) [] pos) (lift G (fCall h fr)) := de_callTy o.on hc (o.gl hg) hm hv ha hn hdb he hpl
theorem x_call (o : Here G X N sc) {k n : Nat} {x : Str} {fn : HA} {p : Pos} (F : Def G k x n fn) (hr : Room k X.A) (ha : PA X (e :: es) (liftA G fr)) (hg : sc.names.lookup x = some .globalImplicit := by rfl) (hdb : (x == ("__debug__" : Str)) = false := by decide)
    (he : starEach (e :: es) X.env = (false, eval e X.env) :: starEach es X.env := by rfl) (hpl : (backTo pos (starEach es X.env)).any (·.1) = false := by rfl) : PE X (.Call (.Name x p) (e :: es) [] pos) (lift G (fFn n fn fr)) := de_call o.on F hr (o.gl hg) ha hdb he hpl
theorem x_set (o : Here G X N sc) (i : Nat) {x : Str} {pos' : Pos} (he : PE X e (lift G fa)) (hi : N[i]? = some x := by rfl) (hx : Loc sc x := by first | exact Or.inl rfl | exact Or.inr rfl) (hs : swapsWith e (some (.Name x pos')) pos.line X.env = pure false := by rfl)
    (hf : X.fn x = true ∨ X.env.scope.names.lookup x = some .local := by first | exact .inl rfl | exact .inr rfl | assumption) : PS X (.Assign [.Name x pos'] e pos) (liftS G W (sSet i fa)) := ds_set o.ndX (o.ix hi) (by rw [o.sc]; exact hx) he hs hf
theorem x_tg1 (o : Here G X N sc) (i : Nat) {x : Str} (hi : N[i]? = some x := by rfl) (hx : Loc sc x := by first | exact Or.inl rfl | exact Or.inr rfl) (hf : X.fn x = true ∨ sc.names.lookup x = some .local := by first | exact .inr rfl | exact .inl rfl) : PG X (.Name x pos) (gOf G.K (.one i)) :=
  dg_name o.ndX (o.ix hi) (by rw [o.sc]; exact hx) (by rw [o.sc]; exact hf)
theorem x_tgs (o : Here G X N sc) (i : Nat) {is : List Nat} {x : Str} (h2 : PGs X es (gMany is)) (hi : N[i]? = some x := by rfl) (hx : Loc sc x := by first | exact Or.inl rfl | exact Or.inr rfl) (hf : X.fn x = true ∨ sc.names.lookup x = some .local := by first | exact .inr rfl | exact .inl rfl)
    (ha : (assignEach (.Name x pos :: es) X.env).map (·.2) = assign (.Name x pos) X.env :: (assignEach es X.env).map (·.2) := by rfl) : PGs X (.Name x pos :: es) (gMany (i :: is)) := dgs_cons o.ndX (o.ix hi) (by rw [o.sc]; exact hx) h2 (by rw [o.sc]; exact hf) ha
theorem x_tgm (o : Here G X N sc) {k : Nat} {is : List Nat} (h : PGs X es (gMany is)) (hn : (assignEach es X.env).length = is.length := by rfl) (hst : (assignEach es X.env).findIdx? (·.1) = none := by rfl) : PG X (.Tuple es k pos) (gOf G.K (.many is)) := dg_tup o.on h hn hst
theorem x_par2 (o : Here G X N sc) (i j : Nat) {x y : Str} {px py pt : Pos} {kt k2 : Nat} {pt2 : Pos} (ha : PA X [a, b] (liftA G fr)) (hi : N[i]? = some x := by rfl) (hj : N[j]? = some y := by rfl) (hij : i ≠ j := by decide)
    (hx : sc.names.lookup x = some .local := by rfl) (hy : sc.names.lookup y = some .local := by rfl)
    (hw : swappedStores [.Tuple [.Name x px, .Name y py] kt pt] (.Tuple [a, b] k2 pt2) X.env = pure (some [x, y]) := by rfl)
    (hs : swapsWithSole [.Tuple [.Name x px, .Name y py] kt pt] (.Tuple [a, b] k2 pt2) pos.line X.env = pure false := by rfl) :
    PS X (.Assign [.Tuple [.Name x px, .Name y py] kt pt] (.Tuple [a, b] k2 pt2) pos) (liftS G W (sPar [i, j] fr)) := ds_par2 o.on o.ndX (o.ix hi) (o.ix hj) hij (by rw [o.sc]; exact hx) (by rw [o.sc]; exact hy) ha hw hs
variable {fi : FI} {iter : Expr} {tg : Tg} {body : List Stmt} {sb : FS}
theorem x_for (o : Here G X N sc) (hi : PI X tgt iter (liftI G fi)) (hg : PG X tgt (gOf G.K tg)) (hb : PSs X body (liftS G W sb)) (hp : PassesOwn (model X.prog X.w) X.A X.env X.xe := by exact PassesOwn.never)
    (hs : ∀ x, foldedSetIterable iter X.env x = pure x := by intro _; rfl) : PS X (.For tgt iter body [] pos) (liftS G W (sFor fi tg sb)) := ds_for hp o.on hi hg hb hs
theorem x_in (o : Here G X N sc) (h : PE X e (lift G fa)) : PI X tgt e (liftI G (iSeq fa)) := di_seq o.on h
theorem x_rng1 (o : Here G X N sc) {p : Pos} (hm : G.mg "range" = none) (ha : PA X [a] (liftA G fr)) (hg : sc.names.lookup ("range" : Str) = some NameKind.globalImplicit := by rfl) (hs : starEach [a] X.env = [(false, eval a X.env)] := by rfl) : PI X tgt (.Call (.Name "range" p) [a] [] pos) (liftI G (iRange1 fr)) := di_range1 (o.gl hg) (by rw [o.on.mg]; exact hm) ha hs
theorem x_rng2 (o : Here G X N sc) {p : Pos} (hm : G.mg "range" = none) (ha : PA X [a, b] (liftA G fr)) (hg : sc.names.lookup ("range" : Str) = some NameKind.globalImplicit := by rfl) (hs : starEach [a, b] X.env = [(false, eval a X.env), (false, eval b X.env)] := by rfl) (hs2 : starEach [b] X.env = [(false, eval b X.env)] := by rfl) :
    PI X tgt (.Call (.Name "range" p) [a, b] [] pos) (liftI G (iRange2 fr)) := di_range2 (o.gl hg) (by rw [o.on.mg]; exact hm) ha hs hs2
theorem x_zip2 (o : Here G X N sc) {e2 : Expr} {p tpos : Pos} {elts : List Expr} {kk : Nat} (hm : G.mg "zip" = none) (ha : PA X [e, e2] (liftA G fr)) (hg : sc.names.lookup ("zip" : Str) = some NameKind.globalImplicit := by rfl)
    (hs : starEach [e, e2] X.env = (false, eval e X.env) :: starEach [e2] X.env := by rfl) (hpl : (backTo pos (starEach [e2] X.env)).any (·.1) = false := by rfl) : PI X (.Tuple elts kk tpos) (.Call (.Name "zip" p) [e, e2] [] pos) (liftI G (iZip2 fr)) := di_zip2 o.on (o.gl hg) hm ha hs hpl
theorem x_enum (o : Here G X N sc) {p tpos : Pos} {elts : List Expr} {kk : Nat} (hm : G.mg "enumerate" = none) (ha : PA X [e] (liftA G fr)) (hg : sc.names.lookup ("enumerate" : Str) = some NameKind.globalImplicit := by rfl)
    (hs : starEach [e] X.env = [(false, eval e X.env)] := by rfl) : PI X (.Tuple elts kk tpos) (.Call (.Name "enumerate" p) [e] [] pos) (liftI G (iEnum fr)) := di_enum o.on (o.gl hg) hm ha hs
def reS (scope sc : Scope) : Scope := { scope with names := scope.names.map fun (n, k) => if (k == NameKind.free && sc.kind == .function && sc.names.lookup n == some .cell) then (n, NameKind.cell) else (n, k) }
theorem Here.blk (o : Here G X N sc) {s : Shared} {H : Hp} {scope : Scope} {cl : List (Str × Addr)} {C : Addr} {fp : List Addr} : Here G (X.blk s H scope (compEnvC scope cl C X.env) fp) N (reS scope sc) := ⟨o.on.blk, o.N, by rw [← o.sc]; rfl, o.nd⟩
theorem x_setLc (o : Here G X N sc) (i : Nat) {y : Str} {py spos : Pos} {elt : Expr} {ifs : List Expr} {scope : Scope} (own : List (Str × Nat)) {tt : FT} {fe : FE} (hi : PI X tgt iter (liftI G fi))
    (hg : ∀ X', Here G X' N (reS scope sc) → X'.A = X.A → PG X' tgt (gOf G.K tg)) (ht : ∀ X', Here G X' N (reS scope sc) → X'.A = X.A → PTs X' ifs (liftT G tt)) (he : ∀ X', Here G X' N (reS scope sc) → X'.A = X.A → PE X' elt (lift G fe))
    (hsw : swapsWith (.ListComp elt [⟨tgt, iter, ifs, 0⟩] scope pos) (some (.Name y py)) spos.line X.env = pure true := by exact sw_true rfl rfl rfl (by decide +kernel))
    (hy : N[i]? = some y := by rfl) (hyl : sc.names.lookup y = some .local := by rfl)
    (ok : BlkOk N sc scope own := by exact blkOk_by (by decide +kernel)) (hin : ∀ i ∈ tg.ins, i ∈ own.map (·.2) := by decide) (hs : ∀ x, foldedSetIterable iter X.env x = pure x := by intro _; rfl) :
    PS X (.Assign [.Name y py] (.ListComp elt [⟨tgt, iter, ifs, 0⟩] scope pos) spos) (liftS G W (sSet i (fLc fi tg tt fe (own.map (·.2))))) :=
  ds_setLc o.on o.ndX (o.ix hy) (by rw [o.sc]; exact hyl) hsw hi (by rw [o.N, o.sc]; exact ok) (fun _ _ _ _ _ => hg _ o.blk rfl) (fun _ _ _ _ _ => ht _ o.blk rfl) (fun _ _ _ _ _ => he _ o.blk rfl) hin hs
theorem x_lcZ (o : Here G X N sc) {elt : Expr} {ifs : List Expr} {scope : Scope} (own : List (Str × Nat)) {tt : FT} {fe : FE} (hi : PI X tgt iter (liftI G fi))
    (hg : ∀ X', Here G X' N (reS scope sc) → X'.A = X.A → PG X' tgt (gOf G.K tg)) (ht : ∀ X', Here G X' N (reS scope sc) → X'.A = X.A → PTs X' ifs (liftT G tt)) (he : ∀ X', Here G X' N (reS scope sc) → X'.A = X.A → PE X' elt (lift G fe))
    (ok : BlkOk N sc scope own := by exact blkOk_by (by decide +kernel)) (hin : ∀ i ∈ tg.ins, i ∈ own.map (·.2) := by decide) (hs : ∀ x, foldedSetIterable iter X.env x = pure x := by intro _; rfl) :
    PE X (.ListComp elt [⟨tgt, iter, ifs, 0⟩] scope pos) (lift G (fLcZ fi tg tt fe (own.map (·.2)))) :=
  de_lcZ o.on o.ndX hi (by rw [o.N, o.sc]; exact ok) (fun _ _ _ _ _ => hg _ o.blk rfl) (fun _ _ _ _ _ => ht _ o.blk rfl) (fun _ _ _ _ _ => he _ o.blk rfl) hin hs
theorem x_setLcZ (o : Here G X N sc) (i : Nat) {y : Str} {py spos : Pos} {elt : Expr} {ifs : List Expr} {scope : Scope} (own : List (Str × Nat)) {tt : FT} {fe : FE} (hi : PI X tgt iter (liftI G fi))
    (hg : ∀ X', Here G X' N (reS scope sc) → X'.A = X.A → PG X' tgt (gOf G.K tg)) (ht : ∀ X', Here G X' N (reS scope sc) → X'.A = X.A → PTs X' ifs (liftT G tt)) (he : ∀ X', Here G X' N (reS scope sc) → X'.A = X.A → PE X' elt (lift G fe))
    (hsw : swapsWith (.ListComp elt [⟨tgt, iter, ifs, 0⟩] scope pos) (some (.Name y py)) spos.line X.env = pure true := by exact sw_true rfl rfl rfl (by decide +kernel))
    (hy : N[i]? = some y := by rfl) (hyl : sc.names.lookup y = some .local := by rfl)
    (ok : BlkOk N sc scope own := by exact blkOk_by (by decide +kernel)) (hin : ∀ i ∈ tg.ins, i ∈ own.map (·.2) := by decide) (hs : ∀ x, foldedSetIterable iter X.env x = pure x := by intro _; rfl) :
    PS X (.Assign [.Name y py] (.ListComp elt [⟨tgt, iter, ifs, 0⟩] scope pos) spos) (liftS G W (sSet i (fLcZ fi tg tt fe (own.map (·.2))))) :=
  ds_setLcZ o.on o.ndX (o.ix hy) (by rw [o.sc]; exact hyl) hsw hi (by rw [o.N, o.sc]; exact ok) (fun _ _ _ _ _ => hg _ o.blk rfl) (fun _ _ _ _ _ => ht _ o.blk rfl) (fun _ _ _ _ _ => he _ o.blk rfl) hin hs
theorem x_all (o : Here G X N sc) {cc P : Addr} {elt : Expr} {p gpos : Pos} {scope : Scope} {fe : FE} {k : Nat} (N' : List Str) (cap : List (Option Nat)) (hP : P ∈ G.Ps)
    (hr : Room (k + 1) X.A) (hm : G.mg "all" = none) (TB : TabB G.base G.mg cc P) (hcode : X.env.code = .ref cc) (hi : PI X tgt iter (liftI G fi))
    (hgt : ∀ X', Here G X' N' scope → Room k X'.A → PG X' tgt (gOf G.K tg)) (hel : ∀ X', Here G X' N' scope → Room k X'.A → PE X' elt (lift G fe))
    (S : GSc X.env scope) (hnd : N'.Nodup := by decide) (hcl : cap.length = N'.length := by rfl)
    (hcap : ∀ (i : Nat) (x : Str) (j : Nat), N'[i]? = some x → cap[i]? = some (some j) → scope.names.lookup x = some .free ∧ N[j]? = some x ∧ (sc.names.lookup x = some .cell ∨ sc.names.lookup x = some .free))
    (hg : sc.names.lookup ("all" : Str) = some NameKind.globalImplicit := by rfl)
    (hs : ∀ v, genFold iter X.env v = pure v := by intro _; rfl)
    (he : starEach [.GeneratorExp elt [⟨tgt, iter, [], 0⟩] scope gpos] X.env = (false, eval (.GeneratorExp elt [⟨tgt, iter, [], 0⟩] scope gpos) X.env) :: starEach [] X.env := by rfl) :
    PE X (.Call (.Name "all" p) [.GeneratorExp elt [⟨tgt, iter, [], 0⟩] scope gpos] [] pos) (lift G (fAllG fi tg fe cap)) :=
  de_all o.on hP hr (o.gl hg) hm TB hcode S hi hcl (fun i x j h1 h2 => by
    obtain ⟨q1, q2, q3⟩ := hcap i x j h1 h2
    refine ⟨q1, o.ix q2, ?_⟩
    show X.env.scope.names.lookup x = _ ∨ X.env.scope.names.lookup x = _
    rw [o.sc]; exact q3) (fun X' h => hgt X' ⟨o.on.inner h, h.N, h.scope, hnd⟩ h.room) (fun X' h => hel X' ⟨o.on.inner h, h.N, h.scope, hnd⟩ h.room) hs he
end
end EL
namespace EL
open PySem PySem.Spec PyProof.Rows L2 GxR LG
/-- a def of the text as the top has left it -/
structure FnAt (G : G0) (name : Str) (st : Stmt) (cdv : Value) : Prop where
  ex : ∃ (f : Addr) (oc : Value) (od : Option Addr) (kV doc pm : Value) (an : Option Addr) (ct : Value) (osl : Array (Option Value)),
    G.K.lookup f = some ⟨oc, od, .func (PySem.W.fnOf name name (defArgs st) (defBody st) (defScope st) .none kV doc pm an cdv ct), osl⟩ ∧ PySem.W.codeIn G.K cdv name = true ∧ G.mg name = some (.ref f) ∧ PySem.W.keepIn G.K (.ref f) = true
section
variable {G : G0}
theorem def_at {k : Nat} {name : Str} {st : Stmt} {cdv : Value} {N ps : List Str} {sb : FS} (F : FnAt G name st cdv) (S : FnScope N ps (defScope st))
    (hb : ∀ (kV doc pm : Value) (an : Option Addr) (ct : Value) (us : List Value), us.length = ps.length → bindArgs (PySem.W.fnOf name name (defArgs st) (defBody st) (defScope st) .none kV doc pm an cdv ct) ⟨us, []⟩ = pure (ps.zip us))
    (hbody : ∀ (f : Addr) (A : Around) (outer : List Env) (s : Shared) (H : Hp), Here G (bodyCx G N name (defScope st) f cdv A outer s H) N (defScope st) → Room k (bodyCx G N name (defScope st) f cdv A outer s H).A →
      (∀ x : Str, (defScope st).names.lookup x = some .cell → ∃ c, (bodyCx G N name (defScope st) f cdv A outer s H).env.cells.lookup x = some c) → PSs (bodyCx G N name (defScope st) f cdv A outer s H) (defBody st) (liftS G W sb)) : Def G (k + 1) name ps.length (runD N.length sb) := by
  obtain ⟨f, oc, od, kV, doc, pm, an, ct, osl, lk, hcd, hm, hk⟩ := F.ex
  refine def_of (W := W) lk hcd S hm hk (hb kV doc pm an ct) fun A outer s H hr => ?_
  exact hbody f A outer s H ⟨On.body, rfl, rfl, S.nd⟩ hr fun x h => cell_has h
theorem gsc_by {X : Cx} {N : List Str} {sc scope : Scope} (o : Here G X N sc) (hc : ∀ x : Str, sc.names.lookup x = some .cell → ∃ c, X.env.cells.lookup x = some c)
    (h : ((scope.kind == .function) && !scope.isCoroutine && scope.names.all (fun y => y.2 != .cell) && (scope.names.lookup (".0" : Str) == some NameKind.local) && scope.names.all fun y => y.2 != .free || (sc.names.lookup y.1 == some .cell)) = true) : GSc X.env scope := by
  simp only [Bool.and_eq_true, List.all_eq_true] at h
  obtain ⟨⟨⟨⟨h1, h2⟩, h3⟩, h4⟩, h5⟩ := h
  refine ⟨eq_of_beq h1, by simpa using h2, fun y hy => by simpa using h3 y hy, eq_of_beq h4, fun y hy e => ?_⟩
  have q := h5 y hy
  rw [e] at q
  have q2 : (sc.names.lookup y.1 == some NameKind.cell) = true := by simpa using q
  exact hc y.1 (eq_of_beq q2)
end
end EL
namespace EL
open PySem PySem.Spec PyProof.Rows L2 GxR LG
end EL
namespace EL
open PySem PySem.Spec PyProof.Rows L2 GxR LG
theorem fn_at {G : G0} {k : Nat} {f : Addr} {name : Str} {st : Stmt} {kV doc pm cdv ct oc : Value} {an od : Option Addr} {osl : Array (Option Value)} {N ps : List Str} {sb : FS}
    (lk : G.K.lookup f = some ⟨oc, od, .func (PySem.W.fnOf name name (defArgs st) (defBody st) (defScope st) .none kV doc pm an cdv ct), osl⟩) (hcd : PySem.W.codeIn G.K cdv name = true) (S : FnScope N ps (defScope st))
    (hbody : ∀ (f : Addr) (A : Around) (outer : List Env) (s : Shared) (H : Hp), Here G (bodyCx G N name (defScope st) f cdv A outer s H) N (defScope st) → Room k (bodyCx G N name (defScope st) f cdv A outer s H).A →
      (∀ x : Str, (defScope st).names.lookup x = some .cell → ∃ c, (bodyCx G N name (defScope st) f cdv A outer s H).env.cells.lookup x = some c) → PSs (bodyCx G N name (defScope st) f cdv A outer s H) (defBody st) (liftS G W sb)) :
    FnOk G.P G.w G.K G.mg G.base CX0 (k + 1) f (PySem.W.fnOf name name (defArgs st) (defBody st) (defScope st) .none kV doc pm an cdv ct) ps (spD G ps.length (runD N.length sb)) :=
  fn_data lk hcd S fun A outer s H hr => hbody f A outer s H ⟨On.body, rfl, rfl, S.nd⟩ hr fun x h => cell_has h
end EL
set_option Elab.async false
set_option linter.all false
set_option maxRecDepth 100000
set_option maxHeartbeats 1000000
namespace EL
open PySem PySem.Spec PyProof.Rows L2 GxR LG
section
variable {G : G0} {W : WX} {X : Cx} {pos : Pos} {a b e : Expr} {fa fb : FE}
def sNever : FS := fun _ _ => none
theorem ds_never {s : Stmt} : PS X s (liftS G W sNever) := ⟨fun pins s σ H E I q => by
  obtain ⟨ρ, μ, st, fl, ρ', st', _, _, e, _⟩ := q
  cases e⟩
def noneB : D → Bool
  | .non => true
  | _ => false
def isW (neg : Bool) : D → D → Sto → Option (D × Sto) := fun c d st => match d with
  | .non => some (.bl (if neg = true then !noneB c else noneB c), st)
  | _ => none
theorem rep_none {μ : Mu} {H : Hp} {c : D} {x : V} (R : Rep G μ H c x) : decide (x = .non) = noneB c := by
  cases R <;> simp [noneB]
theorem do_is : OpR X (compareOp .Is) (rD G (isW false)) := OpR.imp op_isN fun x y H Q ⟨μ, st, c, d, z, st', S, Rc, Rd, e, k⟩ => by
  unfold isW at e
  split at e
  · cases e; cases Rd
    refine ⟨rfl, ?_⟩
    rw [rep_none Rc]
    exact k μ H _ .refl S (.bl _)
  · cases e
theorem do_isnot : OpR X (compareOp .IsNot) (rD G (isW true)) := OpR.imp op_notN fun x y H Q ⟨μ, st, c, d, z, st', S, Rc, Rd, e, k⟩ => by
  unfold isW at e
  split at e
  · cases e; cases Rd
    refine ⟨rfl, ?_⟩
    rw [rep_none Rc]
    exact k μ H _ .refl S (.bl _)
  · cases e
end
end EL
set_option Elab.async false
set_option linter.all false
set_option maxRecDepth 100000
set_option maxHeartbeats 1000000
namespace EL
open PySem PySem.Spec PyProof.Rows L2 GxR LG
section
variable {G : G0} {W : WX} {X : Cx} {pos : Pos} {c : Expr} {body : List Stmt} {ta : FT} {sb : FS}
def whileD (t : FT) (b : FS) : Nat → Rho → Sto → Option (Fl × Rho × Sto)
  | 0, _, _ => none
  | n + 1, ρ, st => (t ρ st).bind fun p => if p.1 = true then (b ρ p.2).bind fun q => match q.1 with
      | .nx => whileD t b n q.2.1 q.2.2
      | .ct => whileD t b n q.2.1 q.2.2
      | .bk => some (.nx, q.2.1, q.2.2)
      | .rt r => some (.rt r, q.2.1, q.2.2)
      | .ex x => some (.ex x, q.2.1, q.2.2)
    else some (.nx, ρ, p.2)
def sWhile (n : Nat) (t : FT) (b : FS) : FS := fun ρ st => whileD t b n ρ st
theorem ds_while {n : Nat} (hp : PassesOwn (model X.prog X.w) X.A X.env X.xe) (hc : PT X c (liftT G ta)) (hb : PSs X body (liftS G W sb)) : PS X (.While c body [] pos) (liftS G W (sWhile n ta sb)) :=
  PS.imp (ps_while hp hc hb) fun D0 σ H ⟨ρ, μ, st, fl, ρ', st', E, S, e, k⟩ => by
    refine ⟨fun m σ2 H2 => ∃ ρ2 μ2 st2, EnvR G μ2 H2 ρ2 σ2 ∧ StR G μ2 st2 H2 ∧ Ext G μ H μ2 H2 ∧ whileD ta sb m ρ2 st2 = some (fl, ρ', st'), ⟨n, ρ, μ, st, E, S, .refl, e⟩, ?_⟩
    rintro m σ2 H2 ⟨ρ2, μ2, st2, E2, S2, X2, e2⟩
    cases m with
    | zero => cases e2
    | succ m =>
      unfold whileD at e2
      obtain ⟨⟨b, s3⟩, e3, e2⟩ := Option.bind_eq_some_iff.mp e2
      refine ⟨ρ2, μ2, st2, b, s3, E2, S2, e3, fun μ3 H3 X3 S3 => ?_⟩
      cases b with
      | false =>
        simp only [Bool.false_eq_true, if_false] at e2 ⊢
        cases e2
        exact k μ3 H3 (X2.trans X3) S3 σ2 (E2.ext X3)
      | true =>
        simp only [if_true] at e2 ⊢
        obtain ⟨⟨f4, ρ4, s4⟩, e4, e2⟩ := Option.bind_eq_some_iff.mp e2
        simp only at e2
        refine ⟨fun σ5 H5 => ∃ m', m' < m + 1 ∧ ∃ ρ5 μ5 st5, EnvR G μ5 H5 ρ5 σ5 ∧ StR G μ5 st5 H5 ∧ Ext G μ H μ5 H5 ∧ whileD ta sb m' ρ5 st5 = some (fl, ρ', st'), fun _ _ h => h, ρ2, μ3, s3, f4, ρ4, s4, E2.ext X3, S3, e4, fun μ4 H4 X4 S4 => ?_⟩
        cases f4 with
        | nx => exact fun σ5 E5 => ⟨m, Nat.lt_succ_self _, ρ4, μ4, s4, E5, S4, (X2.trans X3).trans X4, e2⟩
        | ct => exact fun σ5 E5 => ⟨m, Nat.lt_succ_self _, ρ4, μ4, s4, E5, S4, (X2.trans X3).trans X4, e2⟩
        | bk => cases e2; exact fun σ5 E5 => k μ4 H4 ((X2.trans X3).trans X4) S4 σ5 E5
        | rt d => cases e2; exact fun v R5 => k μ4 H4 ((X2.trans X3).trans X4) S4 v R5
        | ex x => cases e2; exact k μ4 H4 ((X2.trans X3).trans X4) S4
def intsD : List D → Option (List Int)
  | [] => some []
  | .int x :: r => (intsD r).map (x :: ·)
  | _ :: _ => none
theorem intsD_eq : ∀ {ds : List D} {xs : List Int}, intsD ds = some xs → ds = xs.map D.int
  | [], xs, h => by cases h; rfl
  | d :: ds, xs, h => by
    cases d with
    | int x =>
      simp only [intsD] at h
      obtain ⟨ys, h1, rfl⟩ := Option.map_eq_some_iff.mp h
      rw [intsD_eq h1]; rfl
    | _ => cases h
theorem ints_of_reps {μ : Mu} {H : Hp} : ∀ {xs : List Int} {vs : List V}, Reps G μ H (xs.map D.int) vs → vs = xs.map V.int
  | [], _, .nil => rfl
  | x :: xs, _, .cons h t => by cases h; rw [ints_of_reps t]; rfl
def sumD : HA
  | [c], st => (listOf c st).bind fun ds => (intsD ds).map fun ns => (.int ns.sum, st)
  | _, _ => none
theorem dc_sum (o : On G X) : CallR X (.builtin "sum") (rDA G sumD) := CallR.imp (cr_sum o.calm) fun xs H Q ⟨μ, st, ds, z, st', S, R, e, k⟩ => by
  unfold sumD at e
  split at e
  · obtain ⟨ds, e0, e⟩ := Option.bind_eq_some_iff.mp e
    obtain ⟨ns, e1, e2⟩ := Option.map_eq_some_iff.mp e
    cases e2
    cases R with
    | cons r t =>
      cases t
      obtain ⟨a, vs, rfl, h1, h2⟩ := list_rep S r e0
      have h3 := intsD_eq e1
      subst h3
      have h4 := ints_of_reps h2
      subst h4
      exact ⟨_, ns, rfl, by rw [o.K]; exact h1, k μ H _ .refl S (.int _)⟩
  · cases e
end
end EL
set_option Elab.async false
set_option linter.all false
set_option maxRecDepth 100000
set_option maxHeartbeats 4000000
namespace LG
open PySem PySem.Spec PyProof.Rows L2 GenW GxR NdefX
end LG
set_option Elab.async false
set_option linter.all false
set_option maxRecDepth 100000
set_option maxHeartbeats 1000000
namespace EL
open PySem PySem.Spec PyProof.Rows L2 GxR LG RZ
section
variable {G : G0} {X : Cx} {pos : Pos} {a b c e tgt : Expr} {fi : FI} {iter : Expr} {tg : Tg}
open Classical in
noncomputable def tupD (tg : Tg) (fe : FE) (src : Src) : List D → Rho → Sto → Option (List D × Sto)
  | [], _, st => if Intact src st then some ([], st) else none
  | d :: ds, ρ, st => if Intact src st then (tgD tg d ρ).bind fun ρ1 => (fe ρ1 st).bind fun y => (tupD tg fe src ds ρ1 y.2).bind fun r => some (y.1 :: r.1, r.2) else none
noncomputable def fTupG (fi : FI) (tg : Tg) (fe : FE) (cap : List (Option Nat)) : FE := fun ρ st => (fi ρ st).bind fun p => (tupD tg fe p.2.1 p.1 (capD cap ρ) p.2.2).bind fun q => if q.1.length + 1 < sizeLine ∧ p.1.length < sizeLine then some (.tup q.1, q.2) else none
end
end EL
set_option Elab.async false
set_option linter.all false
set_option maxRecDepth 100000
set_option maxHeartbeats 1000000
namespace ZN
open PySem PySem.Spec PyProof.Rows L2
open AutoSeq1 (wpAny_loadPart')
theorem mul_zero (l : Addr) (u : Array Value) (n : Nat) (dd : Option Addr) (sl : Array (Option Value)) (t : Tok) (hu : u.isEmpty = false) :
    Meets (Builtin.«tuple.__mul__» ⟨[.ref l, .int 0 t], []⟩) (fun _ R s => s.heap.get? l = some { cls := .type "tuple", dict := dd, data := .seq u n, slots := sl } ∧
      R (.ok (.ret (.ref s.heap.objs.size))) { s with heap := s.heap.push { cls := Value.type "tuple", data := Data.seq #[] } }) :=
  .of_wp fun prog w A R s h => by
    obtain ⟨hp, g, d, tk, os⟩ := s
    obtain ⟨hl, h⟩ := h
    have f1 := AutoSeq1.idx_int
    have c1 : (u.isEmpty || (0 : Int) == 1) = false := by simp [hu]
    have c2 : (decide ((0 : Int) ≤ 0) || u.isEmpty) = true := by simp
    wp_walk using wpAny_loadPart' hl
    repeat (first
      | (refine wpAny_ite_false (decide_eq_false (by rw [c1]; exact Bool.false_ne_true)) ?_; wp_walk using wpAny_loadPart' hl)
      | (refine wpAny_ite_true (decide_eq_true c2) ?_; wp_walk using wpAny_loadPart' hl)
      | (refine wpAny_ite_false (decide_eq_false (by decide)) ?_; wp_walk using wpAny_loadPart' hl))
    exact ⟨_, rfl, h⟩
end ZN
namespace EL
open PySem PySem.Spec PyProof.Rows L2 GxR LG ZN
section
variable {G : G0} {W : WX} {X : Cx} {pos : Pos} {a b e : Expr} {es : List Expr} {fa fb fo : FE} {fr : FA}
def fStar (fa : FE) (fr : FA) : FA := fun ρ st => (fa ρ st).bind fun p => (seqD p.1 p.2).bind fun xs => (fr ρ p.2).bind fun q => some (xs ++ q.1, q.2)
theorem da_star {p : Pos} (o : On G X) (ha : PE X e (lift G fa)) (hr : PA X es (liftA G fr)) (hs : starEach (.Starred e p :: es) X.env = (true, eval e X.env) :: starEach es X.env := by rfl) : PA X (.Starred e p :: es) (liftA G (fStar fa fr)) :=
  PA.imp (StX.pa_star ha hr hs) fun σ H Q ⟨ρ, μ, st, d, st', E, S, e, k⟩ => by
    unfold fStar at e
    obtain ⟨p, e1, e⟩ := Option.bind_eq_some_iff.mp e
    obtain ⟨xs, e2, e⟩ := Option.bind_eq_some_iff.mp e
    obtain ⟨q, e3, e⟩ := Option.bind_eq_some_iff.mp e
    cases e
    refine ⟨ρ, μ, st, p.1, p.2, E, S, e1, fun μ1 H1 v X1 S1 R1 => ?_⟩
    obtain ⟨a, vs, rfl, h1, h2⟩ := seq_rep S1 R1 e2
    exact ⟨a, vs, rfl, by rw [o.K]; exact h1.symm, ρ, μ1, p.2, q.1, q.2, E.ext X1, S1, e3, fun μ2 H2 ws X2 S2 R2 => k μ2 H2 _ (X1.trans X2) S2 ((h2.ext X2).append R2)⟩
def isB (neg : Bool) : D → D → Sto → Option (D × Sto) := fun c d st => match c, d with
  | .bl x, .bl y => some (.bl (nB neg (decide (x = y))), st)
  | c, .non => some (.bl (nB neg (noneB c)), st)
  | _, _ => none
theorem do_isB : OpR X (compareOp .Is) (rD G (isB false)) := OpR.imp ((do_is (G := G)).or op_isBl) fun x y H Q ⟨μ, st, c, d, z, st', S, Rc, Rd, e, k⟩ => by
  unfold isB at e
  split at e
  · cases e; cases Rc; cases Rd
    exact .inr ⟨_, _, rfl, rfl, k μ H _ .refl S (.bl _)⟩
  · exact .inl ⟨μ, st, _, _, z, st', S, Rc, Rd, e, k⟩
  · cases e
theorem do_isnB : OpR X (compareOp .IsNot) (rD G (isB true)) := OpR.imp ((do_isnot (G := G)).or op_notBl) fun x y H Q ⟨μ, st, c, d, z, st', S, Rc, Rd, e, k⟩ => by
  unfold isB at e
  split at e
  · cases e; cases Rc; cases Rd
    exact .inr ⟨_, _, rfl, rfl, k μ H _ .refl S (.bl _)⟩
  · exact .inl ⟨μ, st, _, _, z, st', S, Rc, Rd, e, k⟩
  · cases e
end
end EL
set_option Elab.async false
set_option linter.all false
set_option maxRecDepth 100000
set_option maxHeartbeats 1000000
namespace EL
open PySem PySem.Spec PyProof.Rows L2 GxR LG ZN
section
variable {G : G0} {W : WX} {X : Cx} {pos : Pos} {a b e : Expr} {es : List Expr} {fa fb fo : FE} {fr : FA}
theorem opR_ip {op : Operator} {r : R2} (h : OpR X (inplaceOp op) r) : PIp X op r := fun pins s σ H x y v u Q I rx ry q => h pins s σ H x y v u Q I rx ry q
def imulD := intOp fun i j => if (-(2 ^ 64) < i ∧ i < 2 ^ 64) ∨ (-(2 ^ 64) < j ∧ j < 2 ^ 64) then some (.int (i * j)) else none
theorem rD_int {f : Int → Int → Option D} {x y : V} {H : Hp} {Q : VK} (q : rD G (intOp f) x y H Q) : ∃ i j z, x = .int i ∧ y = .int j ∧ f i j = some z ∧ ∃ μ st, StR G μ st H ∧ After G μ H z st Q := by
  obtain ⟨μ, st, c, d, z, st', S, Rc, Rd, e, k⟩ := q
  unfold intOp at e
  split at e
  · obtain ⟨w, e1, e2⟩ := Option.map_eq_some_iff.mp e
    cases e2; cases Rc; cases Rd
    exact ⟨_, _, _, rfl, rfl, e1, μ, _, S, k⟩
  · cases e
theorem dip_mul : PIp X .Mult (rD G imulD) := opR_ip (OpR.imp iop_mul fun x y H Q q => by
  obtain ⟨i, j, z, rfl, rfl, e, μ, st, S, k⟩ := rD_int q
  split at e
  · rename_i h
    cases e
    exact ⟨i, j, rfl, rfl, h, k μ H _ .refl S (.int _)⟩
  · cases e)
def sAug (i : Nat) (h : D → D → Sto → Option (D × Sto)) (fa : FE) : FS := fun ρ st => match ρ[i]? with
  | some (some x) => (fa ρ st).bind fun p => (h x p.1 p.2).bind fun z => some (.nx, ρ.set i (some z.1), z.2)
  | _ => none
theorem ds_aug {i : Nat} {x : Str} {op : Operator} {h : D → D → Sto → Option (D × Sto)} {pos' : Pos} (hN : X.N.Nodup) (hi : X.N[i]? = some x) (hx : Loc X.env.scope x) (he : PE X e (lift G fa)) (ho : PIp X op (rD G h))
    (hf : X.fn x = true ∨ X.env.scope.names.lookup x = some .local := by first | exact .inl rfl | exact .inr rfl | assumption) : PS X (.AugAssign (.Name x pos') op e pos) (liftS G W (sAug i h fa)) :=
  PS.imp (ps_aug hN hi hx he ho hf) fun D0 σ H ⟨ρ, μ, st, fl, ρ', st', E, S, e, k⟩ => by
    unfold sAug at e
    split at e
    · rename_i xd hxd
      obtain ⟨p, e1, e⟩ := Option.bind_eq_some_iff.mp e
      obtain ⟨z, e2, e⟩ := Option.bind_eq_some_iff.mp e
      cases e
      obtain ⟨v, hv, Rv⟩ := E.get i xd hxd
      refine ⟨v, hv, ρ, μ, st, p.1, p.2, E, S, e1, fun μ1 H1 w X1 S1 R1 => ⟨μ1, p.2, xd, p.1, z.1, z.2, S1, Rv.ext X1, R1, e2, fun μ2 H2 u X2 S2 R2 => ?_⟩⟩
      exact k μ2 H2 (X1.trans X2) S2 _ ((E.ext (X1.trans X2)).set R2)
    · cases e
theorem Reps.erase {μ : Mu} {H : Hp} : ∀ {ds : List D} {vs : List V} (i : Nat), Reps G μ H ds vs → Reps G μ H (ds.eraseIdx i) (vs.eraseIdx i)
  | _, _, _, .nil => .nil
  | _, _, 0, .cons _ t => t
  | _, _, i + 1, .cons h t => .cons h (Reps.erase i t)
variable {N : List Str} {sc : Scope}
theorem x_aug (o : Here G X N sc) (i : Nat) {x : Str} {op : Operator} {h : D → D → Sto → Option (D × Sto)} {pos' : Pos} (he : PE X e (lift G fa)) (ho : PIp X op (rD G h)) (hi : N[i]? = some x := by rfl) (hx : Loc sc x := by first | exact Or.inl rfl | exact Or.inr rfl)
    (hf : X.fn x = true ∨ X.env.scope.names.lookup x = some .local := by first | exact .inl rfl | exact .inr rfl | assumption) : PS X (.AugAssign (.Name x pos') op e pos) (liftS G W (sAug i h fa)) := ds_aug o.ndX (o.ix hi) (by rw [o.sc]; exact hx) he ho hf
/-- the captured names, by a look -/
theorem cap_ok {N N' : List Str} {sc scope : Scope} {cap : List (Option Nat)}
    (h : ((List.range cap.length).all fun i => match cap[i]?, N'[i]? with
      | some (some j), some x => (scope.names.lookup x == some .free) && ((N[j]? == some x) && ((sc.names.lookup x == some .cell) || (sc.names.lookup x == some .free)))
      | _, _ => true) = true) :
    ∀ (i : Nat) (x : Str) (j : Nat), N'[i]? = some x → cap[i]? = some (some j) → scope.names.lookup x = some .free ∧ N[j]? = some x ∧ (sc.names.lookup x = some .cell ∨ sc.names.lookup x = some .free) := by
  intro i x j h1 h2
  have hi : i < cap.length := (List.getElem?_eq_some_iff.mp h2).1
  have q := List.all_eq_true.mp h i (List.mem_range.mpr hi)
  rw [h1, h2] at q
  simp only [Bool.and_eq_true, Bool.or_eq_true, beq_iff_eq] at q
  exact q
end
end EL
set_option Elab.async false
set_option linter.all false
set_option maxRecDepth 100000
set_option maxHeartbeats 1000000
namespace EL
open PySem PySem.Spec PyProof.Rows L2 GxR LG
/-- what the law is asked: any script of at most 63 ints, each of at most a million bits -/
def spLaw (K : PySem.W.Frag) (cs : List (Addr × Addr)) : Sp := fun vs H Q _ => ∃ (a : Addr) (ns : List Int), vs = [.ref a] ∧ SqL K H a (ns.map V.int) ∧ ns.length ≤ 63 ∧ (∀ z ∈ ns, Builtin.Int.intBits z ≤ 1048576) ∧ (∀ p ∈ cs, H p.2 = some (.tbl #[])) ∧ ∀ H', Q (.bl true) H'
theorem law_fn {P : Program} {w : World} {K : PySem.W.Frag} {mg : Str → Option Value} {base : Heap} {k : Nat} {fa : Addr} {fd : FuncData} {cs : List (Addr × Addr)} {tg : List Addr} {tl : List (Addr × Str)} (hg : ∀ P ∈ tg, P ∈ cs.map (·.2)) (hl0 : ∀ p ∈ tl, p.1 ∈ cs.map (·.2)) (hd : ∀ p ∈ tl, p.1 ∉ tg)
    (h : ∀ (a : Addr) (ns : List Int), ns.length ≤ 63 → (∀ z ∈ ns, Builtin.Int.intBits z ≤ 1048576) → ∃ fn st', FnOk P w K mg base CX0 k fa fd ["script"] (spD ⟨P, w, mg, base, K, tg, tl⟩ 1 fn) ∧ fn [.scr ns] [] = some (.bl true, st')) :
    FnOk P w K mg base CX0 k fa fd ["script"] (spLaw K cs) := by
  refine ⟨fun vs H Q E hs => ?_, fun A outer s H args us vs Q E hr e0 hb r hs => ?_⟩
  · obtain ⟨a, ns, rfl, _⟩ := hs
    rfl
  · obtain ⟨a, ns, rfl, hS, hl, hbits, ht, q⟩ := hs
    obtain ⟨fn, st', F, e⟩ := h a ns hl hbits
    refine F.run A outer s H args us [.ref a] Q E hr e0 hb r ⟨⟨[], []⟩, [], [.scr ns], .bl true, st', rfl, ?_, .cons (.scr ?_) .nil, e, fun μ' H' v _ _ R => ?_⟩
    · refine ⟨rfl, fun l o b h1 => by simp at h1, fun a ha => by simp at ha, List.nodup_nil, fun a ha => by simp at ha, fun P hP => ?_, fun q hq => ?_, hd⟩
      · obtain ⟨p, hp, rfl⟩ := List.mem_map.mp (hg P hP)
        exact ⟨#[], ht p hp, trivial⟩
      · obtain ⟨p, hp, e⟩ := List.mem_map.mp (hl0 q hq)
        exact LamX.TabS.nil (by rw [← e]; exact ht p hp)
    · rcases hS with z | z
      · exact .inl ⟨z, by simp, by simp⟩
      · exact .inr z
    · cases R
      exact q H'
/-- a def of the head's facts -/
theorem fnAt_of {G : G0} {name : Str} {st : Stmt} {h : Heap} (X : G.K.In h) (Gs : h.Ns mainGlobals G.mg) {fd : FuncData} (F : FunD G.K name name (defArgs st) (defBody st) (defScope st) [] [] (He.ga G.K name) fd) (hg : (He.Fa.glo name).ok G.K = true) : ∃ cdv, FnAt G name st cdv ∧ fd.code = cdv := by
  obtain ⟨oc, od, dV, kV, doc, pm, an, cdv, ct, osl, rfl, lk, hcd, hd, hk⟩ := F.ex
  rcases hd with ⟨_, rfl⟩ | ⟨z, _⟩
  · exact ⟨cdv, ⟨_, oc, od, kV, doc, pm, an, ct, osl, lk, hcd, He.glo_ok X Gs hg, F.kp⟩, rfl⟩
  · exact absurd rfl z
theorem fnAt_tab {G : G0} {name : Str} {st : Stmt} {h : Heap} (X : G.K.In h) (Gs : h.Ns mainGlobals G.mg) {fd : FuncData} (F : FunD G.K name name (defArgs st) (defBody st) (defScope st) [] [] (He.ga G.K name) fd) (hg : (He.Fa.glo name).ok G.K = true) : FnAt G name st (.ref (He.cT G.K (name, none)).1) := by
  obtain ⟨oc, od, dV, kV, doc, pm, an, cdv, ct, osl, rfl, lk, hcd, hd, hk⟩ := F.ex
  rcases hd with ⟨_, rfl⟩ | ⟨z, _⟩
  · obtain ⟨c, rfl⟩ := He.codeIn_ref hcd
    have e : He.codeOf G.K (name, none) = c := He.codeOf_eq lk rfl
    have e2 : (He.cT G.K (name, none)).1 = c := e
    rw [e2]
    exact ⟨_, oc, od, kV, doc, pm, an, ct, osl, lk, hcd, He.glo_ok X Gs hg, F.kp⟩
  · exact absurd rfl z
theorem fn_atD {G : G0} {W : WX} {k : Nat} {f : Addr} {fd : FuncData} {name : Str} {st : Stmt} {N ps : List Str} {sb : FS} (D : FunD G.K name name (defArgs st) (defBody st) (defScope st) [] [] f fd) (S : FnScope N ps (defScope st))
    (hbody : ∀ (cdv : Value) (f : Addr) (A : Around) (outer : List Env) (s : Shared) (H : Hp), Here G (bodyCx G N name (defScope st) f cdv A outer s H) N (defScope st) → Room k (bodyCx G N name (defScope st) f cdv A outer s H).A →
      (∀ x : Str, (defScope st).names.lookup x = some .cell → ∃ c, (bodyCx G N name (defScope st) f cdv A outer s H).env.cells.lookup x = some c) → PSs (bodyCx G N name (defScope st) f cdv A outer s H) (defBody st) (liftS G W sb)) :
    FnOk G.P G.w G.K G.mg G.base CX0 (k + 1) f fd ps (spD G ps.length (runD N.length sb)) := by
  obtain ⟨oc, od, dV, kV, doc, pm, an, cdv, ct, osl, rfl, lk, hcd, hd, hk⟩ := D.ex
  rcases hd with ⟨_, rfl⟩ | ⟨z, _⟩
  · exact fn_at lk hcd S (hbody cdv)
  · exact absurd rfl z
theorem tabB_of {base : Heap} {mg : Str → Option Value} {c P : Addr} (t : LamX.TabB base mg c P) : GxR.TabB base mg c P := ⟨t.code, t.bm, t.gP⟩
end EL
set_option Elab.async false
set_option linter.all false
set_option maxRecDepth 100000
set_option maxHeartbeats 1000000
namespace EL
open PySem PySem.Spec PyProof.Rows L2 GxR LG
/-- the context of an own exception's __init__: it closes over its class -/
def iniCx (G : G0) (x qual : Str) (scope : Scope) (f : Addr) (cd : Value) (cc : Addr) (A : Around) (outer : List Env) (s : Shared) (H : Hp) : Cx :=
  let env : Env := PySem.W.envX qual scope s.heap.objs.size f cd [("__class__", cc)]
  ⟨G.P, G.w, G.K, G.mg, G.base, A.deeper env, ["self", x], s, H, env, outer, env :: outer, [], fun _ => false, true, [], fun _ _ => False⟩
section
variable {G : G0} {x qual : Str} {scope : Scope} {f cc : Addr} {cd : Value} {A : Around} {outer : List Env} {s : Shared} {H : Hp}
theorem On.ini : On G (iniCx G x qual scope f cd cc A outer s H) := ⟨rfl, rfl, rfl, rfl, rfl, rfl⟩
end
end EL
set_option Elab.async false
set_option linter.all false
set_option maxRecDepth 100000
set_option maxHeartbeats 1000000
namespace EL
open PySem PySem.Spec PyProof.Rows L2 GxR LG
end EL
set_option Elab.async false
set_option linter.all false
set_option maxRecDepth 100000
set_option maxHeartbeats 1000000
namespace EL
open PySem PySem.Spec PyProof.Rows L2 GxR LG
end EL
set_option Elab.async false
set_option linter.all false
set_option maxRecDepth 100000
set_option maxHeartbeats 1000000
namespace EL
open PySem PySem.Spec PyProof.Rows L2 GxR LG
end EL
set_option Elab.async false
set_option linter.all false
set_option maxRecDepth 100000
set_option maxHeartbeats 1000000
namespace EL
open PySem PySem.Spec PyProof.Rows L2 GxR LG
end EL
set_option Elab.async false
set_option linter.all false
set_option maxRecDepth 100000
set_option maxHeartbeats 1000000
namespace EL
open PySem PySem.Spec PyProof.Rows L2 GxR LG
/-- one such __init__ -/
structure IniD where
  c : Str
  qual : Str
  params : Arguments
  body : List Stmt
  scope : Scope
  fld : Str
abbrev IniW : Type := Option (Str × Str × Arguments × FuncBody × Scope × Addr × List Str × Addr × Value)
def iniW (K : PySem.W.Frag) (d : IniD) : IniW := match K.lookup (He.fAd K (d.c, some "__init__")) with
  | some ob => (match ob.data with
    | .func fd => some (fd.name, fd.qualname, fd.params, fd.body, fd.scope, fd.globals, fd.closure.map (·.1), fd.builtins, fd.defaults)
    | _ => none)
  | none => none
def IniD.val (d : IniD) : IniW := some ("__init__", d.qual, d.params, .stmts d.body, d.scope, mainGlobals, ["__class__"], builtinsNs, .none)
abbrev AlY : Type := He.AlX × List IniW
def asY (g : Addr → Option Obj) (n : Nat) : List Addr := cStatics :: He.asD g n
def obsY (n : Nat) (fa : List He.Fa) (fn : List He.DefD) (tf : List He.Defn) (inis : List IniD) (ex : PySem.W.Frag → Bool) (g : Addr → Option Obj) : AlY :=
  ((He.obsT fa fn [] (He.frT g (asY g n)), ex (He.frT g (asY g n)) && He.tabsB g tf (He.frT g (asY g n))), inis.map fun d => iniW (He.frT g (asY g n)) d)
structure SaysY (fa : List He.Fa) (fn : List He.DefD) (tf : List He.Defn) (inis : List IniD) (ex : PySem.W.Frag → Bool) (w : World) (h : Heap) (K : PySem.W.Frag) : Prop where
  x : He.SaysX fa fn [] tf ex w h K
  ini : inis.map (fun d => iniW K d) = inis.map IniD.val
theorem saysY_of {n : Nat} {fa : List He.Fa} {fn : List He.DefD} {tf : List He.Defn} {inis : List IniD} {ex : PySem.W.Frag → Bool} {w : World} {h : Heap} (e : obsY n fa fn tf inis ex h.get? = (He.valX fn [] w, inis.map IniD.val)) :
    SaysY fa fn tf inis ex w h (He.frT h.get? (asY h.get? n)) := by
  have e0 := congrArg (fun z : AlY => z.1) e
  have e3 := congrArg (fun z : AlY => z.2) e
  have e1 : He.obsT fa fn [] (He.frT h.get? (asY h.get? n)) = He.valT fn [] w := congrArg (fun z : He.AlX => z.1) e0
  have e2 : (ex (He.frT h.get? (asY h.get? n)) && He.tabsB h.get? tf (He.frT h.get? (asY h.get? n))) = true := congrArg (fun z : He.AlX => z.2) e0
  obtain ⟨h1, h2⟩ := Bool.and_eq_true_iff.mp e2
  have key : ∀ p ∈ tf, PySem.W.codeHdIn (He.frT h.get? (asY h.get? n)) (He.cT (He.frT h.get? (asY h.get? n)) p).1 (He.cT (He.frT h.get? (asY h.get? n)) p).2 = true ∧ ∃ o, h.get? (He.cT (He.frT h.get? (asY h.get? n)) p).2 = some o ∧ He.emptyTab o = true := fun p hp => by
    obtain ⟨q1, q2⟩ := Bool.and_eq_true_iff.mp (List.all_eq_true.mp h2 p hp)
    refine ⟨q1, ?_⟩
    split at q2
    · rename_i o ho
      exact ⟨o, ho, q2⟩
    · cases q2
  refine ⟨⟨e1, h1, fun p hp => (key p hp).1, fun p hp => ?_, fun p hp => ?_⟩, e3⟩
  · obtain ⟨_, o, q, z⟩ := key p hp
    exact He.frT_none q z
  · obtain ⟨_, o, q, z⟩ := key p hp
    rw [q, He.emptyTab_eq z]
def hookY (n : Nat) (fa : List He.Fa) (fn : List He.DefD) (tf : List He.Defn) (inis : List IniD) (ex : PySem.W.Frag → Bool) : PySem.W.Hook where
  α := AlY
  obs := fun s => obsY n fa fn tf inis ex s.heap.get?
  val := fun w => (He.valX fn [] w, inis.map IniD.val)
  says := fun w h => ∃ K : PySem.W.Frag, K.In h ∧ SaysY fa fn tf inis ex w h K
  of := fun _ _ e => ⟨_, He.frT_in, saysY_of e⟩
  keeps := fun _ _ _ ⟨K, hK, c⟩ k => ⟨K, PySem.W.Frag.In.keeps hK k, ⟨⟨c.x.t, c.x.more, c.x.hd, c.x.out, fun p hp => k _ _ (c.x.empty p hp)⟩, c.ini⟩⟩
theorem obsY_eq {n : Nat} {fa : List He.Fa} {fn : List He.DefD} {tf : List He.Defn} {inis : List IniD} {ex : PySem.W.Frag → Bool} {g : Addr → Option Obj} {s : Shared} (h : ∀ a, g a = s.heap.get? a) : obsY n fa fn tf inis ex g = (hookY n fa fn tf inis ex).obs s := by
  have e : g = s.heap.get? := funext h
  subst e
  rfl
theorem SaysY.at {fa : List He.Fa} {fn : List He.DefD} {tf : List He.Defn} {inis : List IniD} {ex : PySem.W.Frag → Bool} {w : World} {h : Heap} {K : PySem.W.Frag} (c : SaysY fa fn tf inis ex w h K) (i : Nat) {d : IniD} (hd : inis[i]? = some d := by rfl) : iniW K d = d.val := by
  have e2 : (inis.map fun d => iniW K d)[i]? = (inis.map IniD.val)[i]? := by rw [c.ini]
  rw [List.getElem?_map, List.getElem?_map, hd] at e2
  exact Option.some.inj e2
end EL
set_option Elab.async false
set_option linter.all false
set_option maxRecDepth 100000
set_option maxHeartbeats 1000000
namespace EL
open PySem PySem.Spec PyProof.Rows L2 GxR LG
open PySem.W (AlikeAll min_tuple_data max_tuple_data minD_ints maxD_ints)
def most (i : Int) (l : List Int) : Int := l.foldl max i
end EL
set_option Elab.async false
set_option linter.all false
set_option maxRecDepth 100000
set_option maxHeartbeats 1000000
namespace EL
open PySem PySem.Spec PyProof.Rows L2 GxR LG
def key1 : D → Option Key
  | .int i => some (.inl i)
  | .str x => some (.inr x)
  | _ => none
def keysD : List D → Option (List Key)
  | [] => some []
  | d :: ds => (key1 d).bind fun k => (keysD ds).bind fun ks => some (k :: ks)
def keyOf : D → Option (List Key)
  | .tup ds => keysD ds
  | _ => none
def dictOf : D → Sto → Option (Nat × List (List Key × D))
  | .ref l, st => match st[l]? with
    | some (.dT kvs) => some (l, kvs)
    | _ => none
  | _, _ => none
def valD {κ : Type} [DecidableEq κ] (kvs : List (κ × D)) (k : κ) : Option D := (kvs.find? fun kv => decide (kv.1 = k)).map (·.2)
def putD {κ : Type} [DecidableEq κ] (kvs : List (κ × D)) (k : κ) (v : D) : List (κ × D) :=
  if (kvs.any fun kv => decide (kv.1 = k)) = true then kvs.map (fun kv => if kv.1 = k then (kv.1, v) else kv) else kvs ++ [(k, v)]
section
variable {G : G0} {X : Cx} {μ : Mu} {H : Hp} {st : Sto}
theorem key1_rep {d : D} {v : V} {k : Key} (R : Rep G μ H d v) (e : key1 d = some k) : v = kV k := by
  cases d with
  | int i => cases e; cases R; rfl
  | str x => cases e; cases R; rfl
  | _ => cases e
theorem keys_rep : ∀ {ds : List D} {vs : List V} {ks : List Key}, Reps G μ H ds vs → keysD ds = some ks → vs = ks.map kV
  | [], _, ks, .nil, e => by cases e; rfl
  | d :: ds, _, ks, .cons h t, e => by
    unfold keysD at e
    obtain ⟨k, e1, e⟩ := Option.bind_eq_some_iff.mp e
    obtain ⟨kr, e2, e3⟩ := Option.bind_eq_some_iff.mp e
    cases e3
    rw [key1_rep h e1, keys_rep t e2]
    rfl
theorem key_rep {d : D} {v : V} {k : List Key} (R : Rep G μ H d v) (e : keyOf d = some k) : ∃ b, v = .ref b ∧ H b = some (.tup (k.map kV)) := by
  cases d with
  | tup ds =>
    cases R with
    | tup s r =>
      have := keys_rep r e
      subst this
      exact ⟨_, rfl, s⟩
  | _ => cases e
theorem dict_rep {d : D} {v : V} {l : Nat} {kvs : List (List Key × D)} (S : StR G μ st H) (R : Rep G μ H d v) (e : dictOf d st = some (l, kvs)) : d = .ref l ∧ st[l]? = some (.dT kvs) ∧ ∃ a vs, v = .ref a ∧ μ.pl[l]? = some a ∧ H a = some (.dT vs) ∧ RKs G μ H kvs vs := by
  unfold dictOf at e
  split at e
  · rename_i ll
    split at e
    · rename_i kk hl
      cases e
      cases R with
      | ref h =>
        obtain ⟨vs, h1, h2⟩ := S.obj _ _ _ hl h
        exact ⟨rfl, hl, _, vs, rfl, h, h1, h2⟩
    · cases e
  · cases e
theorem val_rep {κ : Type} [DecidableEq κ] : ∀ {kvs : List (κ × D)} {vs : List (κ × V)} (k : κ), RKs G μ H kvs vs → (∃ d v, valD kvs k = some d ∧ valV vs k = some v ∧ Rep G μ H d v) ∨ (valD kvs k = none ∧ valV vs k = none)
  | [], [], k, _ => .inr ⟨rfl, rfl⟩
  | [], _ :: _, k, h => by have := h.1; simp at this
  | _ :: _, [], k, h => by have := h.1; simp at this
  | (a, d) :: kvs, (b, v) :: vs, k, h => by
    obtain ⟨h1, h2⟩ := h
    simp only [List.map_cons, List.cons.injEq] at h1 h2
    obtain ⟨rfl, h1⟩ := h1
    cases h2 with
    | cons r t =>
      by_cases e : a = k
      · exact .inl ⟨d, v, by simp [valD, e], by simp [valV, e], r⟩
      · have ih := val_rep (kvs := kvs) (vs := vs) k ⟨h1, t⟩
        have e1 : valD ((a, d) :: kvs) k = valD kvs k := by simp [valD, e]
        have e2 : valV ((a, v) :: vs) k = valV vs k := by simp [valV, e]
        rw [e1, e2]
        exact ih
theorem put_rep {κ : Type} [DecidableEq κ] {kvs : List (κ × D)} {vs : List (κ × V)} {k : κ} {d : D} {v : V} (h : RKs G μ H kvs vs) (r : Rep G μ H d v) : RKs G μ H (putD kvs k d) (putK vs k v) := by
  obtain ⟨h1, h2⟩ := h
  have an : (kvs.any fun kv => decide (kv.1 = k)) = (vs.any fun kv => decide (kv.1 = k)) := by
    have e1 : (kvs.any fun kv => decide (kv.1 = k)) = (kvs.map (·.1)).any fun x => decide (x = k) := by rw [List.any_map]; rfl
    have e2 : (vs.any fun kv => decide (kv.1 = k)) = (vs.map (·.1)).any fun x => decide (x = k) := by rw [List.any_map]; rfl
    rw [e1, e2, h1]
  unfold putD putK
  rw [an]
  split
  · have key : ∀ (kvs : List (κ × D)) (vs : List (κ × V)), kvs.map (·.1) = vs.map (·.1) → Reps G μ H (kvs.map (·.2)) (vs.map (·.2)) → RKs G μ H (kvs.map fun kv => if kv.1 = k then (kv.1, d) else kv) (vs.map fun kv => if kv.1 = k then (kv.1, v) else kv) := by
      intro kvs
      induction kvs with
      | nil =>
        intro vs q1 q2
        cases vs with
        | nil => exact ⟨rfl, .nil⟩
        | cons x l => simp at q1
      | cons x kvs ih =>
        intro vs q1 q2
        cases vs with
        | nil => simp at q1
        | cons y vs =>
          simp only [List.map_cons, List.cons.injEq] at q1 q2
          cases q2 with
          | cons q2 q3 =>
            obtain ⟨z1, z2⟩ := ih vs q1.2 q3
            refine ⟨?_, ?_⟩
            · simp only [List.map_cons, z1]
              congr 1
              rw [q1.1]
              split <;> simp [q1.1]
            · simp only [List.map_cons]
              refine .cons ?_ z2
              rw [q1.1]
              split
              · exact r
              · exact q2
    exact key kvs vs h1 h2
  · refine ⟨by simp [h1], ?_⟩
    simp only [List.map_append, List.map_cons, List.map_nil]
    exact h2.append (.cons r .nil)
def inT (neg : Bool) : D → D → Sto → Option (D × Sto) := fun c d st => (keyOf c).bind fun k => (dictOf d st).bind fun p => some (.bl (nB neg (valD p.2 k).isSome), st)
theorem do_inT (o : On G X) {k : Nat} (hr : Room k X.A) : OpR X (compareOp .In) (rD G (inT false)) := fun pins s σ H x y v u Q I rx ry ⟨μ, st, c, d, z, st', S, Rc, Rd, e, kk⟩ => by
  unfold inT at e
  obtain ⟨ks, e1, e⟩ := Option.bind_eq_some_iff.mp e
  obtain ⟨⟨l, kvs⟩, e2, e3⟩ := Option.bind_eq_some_iff.mp e
  cases e3
  obtain ⟨b, rfl, hb⟩ := key_rep Rc e1
  obtain ⟨_, _, a, vs, rfl, _, ha, rk⟩ := dict_rep S Rd e2
  obtain rfl : u = Value.ref a := ry
  have un := hr.units
  refine d_in (o := valV vs ks) (by omega) I (.t ha hb) rx fun s' J => ⟨.bl (valV vs ks).isSome, H, J, rfl, ?_⟩
  have : (valV vs ks).isSome = nB false (valD kvs ks).isSome := by
    rcases val_rep ks rk with ⟨_, _, q1, q2, _⟩ | ⟨q1, q2⟩ <;> rw [q1, q2] <;> rfl
  rw [this]
  exact kk μ H _ .refl S (.bl _)
theorem do_notinT (o : On G X) {k : Nat} (hr : Room k X.A) : OpR X (compareOp .NotIn) (rD G (inT true)) := fun pins s σ H x y v u Q I rx ry ⟨μ, st, c, d, z, st', S, Rc, Rd, e, kk⟩ => by
  unfold inT at e
  obtain ⟨ks, e1, e⟩ := Option.bind_eq_some_iff.mp e
  obtain ⟨⟨l, kvs⟩, e2, e3⟩ := Option.bind_eq_some_iff.mp e
  cases e3
  obtain ⟨b, rfl, hb⟩ := key_rep Rc e1
  obtain ⟨_, _, a, vs, rfl, _, ha, rk⟩ := dict_rep S Rd e2
  obtain rfl : u = Value.ref a := ry
  have un := hr.units
  refine d_notIn (o := valV vs ks) (by omega) I (.t ha hb) rx fun s' J => ⟨.bl (!(valV vs ks).isSome), H, J, rfl, ?_⟩
  have : (!(valV vs ks).isSome) = nB true (valD kvs ks).isSome := by
    rcases val_rep ks rk with ⟨_, _, q1, q2, _⟩ | ⟨q1, q2⟩ <;> rw [q1, q2] <;> rfl
  rw [this]
  exact kk μ H _ .refl S (.bl _)
def fDNew : FE := fun _ st => some (.ref st.length, st ++ [.dT []])
theorem de_dnew {pos : Pos} : PE X (.Dict [] [] pos) (lift G fDNew) := PE.imp pe_dnewT fun σ H Q ⟨ρ, μ, st, d, st', E, S, e, k⟩ => by
  cases e
  intro p hp
  refine k (μ.add p) _ _ (Ext.newAt S hp) (S.newO hp trivial ⟨[], upd_same, rfl, .nil⟩) (.ref ?_)
  show (μ.pl ++ [p])[st.length]? = some p
  rw [← S.len]
  simp
def getT : D → D → Sto → Option (D × Sto) := fun c d st => (dictOf c st).bind fun p => (keyOf d).bind fun k => (valD p.2 k).bind fun v => some (v, st)
theorem de_dget {a b : Expr} {fa fb : FE} {pos : Pos} {k : Nat} (hr : Room k X.A) (ha : PE X a (lift G fa)) (hb : PE X b (lift G fb)) (hs : NoSl b) : PE X (.Subscript a b pos) (lift G (fOp getT fa fb)) := by
  have un := hr.units
  refine PE.imp (pe_dget (by omega) ha hb hs) fun σ H Q ⟨ρ, μ, st, d, st', E, S, e, kk⟩ => ?_
  unfold fOp at e
  obtain ⟨p, e1, e⟩ := Option.bind_eq_some_iff.mp e
  obtain ⟨q, e2, e⟩ := Option.bind_eq_some_iff.mp e
  unfold getT at e
  obtain ⟨⟨l, kvs⟩, e3, e⟩ := Option.bind_eq_some_iff.mp e
  obtain ⟨ks, e4, e⟩ := Option.bind_eq_some_iff.mp e
  obtain ⟨v, e5, e6⟩ := Option.bind_eq_some_iff.mp e
  cases e6
  refine ⟨ρ, μ, st, p.1, p.2, E, S, e1, fun μ1 H1 x X1 S1 R1 => ⟨ρ, μ1, p.2, q.1, q.2, E.ext X1, S1, e2, fun μ2 H2 y X2 S2 R2 => ?_⟩⟩
  obtain ⟨bb, rfl, hb2⟩ := key_rep R2 e4
  obtain ⟨_, _, aa, vs, rfl, _, ha2, rk⟩ := dict_rep S2 (R1.ext X2) e3
  rcases val_rep ks rk with ⟨d', v', q1, q2, q3⟩ | ⟨q1, _⟩
  · have q1 : valD kvs ks = some d' := q1
    rw [q1] at e5
    cases e5
    exact ⟨aa, v', rfl, by rw [← q2]; exact .t ha2 hb2, kk μ2 H2 _ (X1.trans X2) S2 q3⟩
  · have q1 : valD kvs ks = none := q1
    rw [q1] at e5
    cases e5
def sDPutT (fv fo fi : FE) : FS := fun ρ st => (fv ρ st).bind fun p => (fo ρ p.2).bind fun q => (fi ρ q.2).bind fun r => (dictOf q.1 r.2).bind fun z => (keyOf r.1).bind fun k => if z.2.length < sizeLine then some (.nx, ρ, r.2.set z.1 (.dT (putD z.2 k p.1))) else none
theorem ds_dput {a b e : Expr} {fv fo fi : FE} {p1 pos : Pos} {k : Nat} {W : WX} (hr : Room k X.A) (hv : PE X e (lift G fv)) (ho : PE X a (lift G fo)) (hi : PE X b (lift G fi)) (hs : swapsWith e (some (.Subscript a b p1)) pos.line X.env = pure false := by rfl) :
    PS X (.Assign [.Subscript a b p1] e pos) (liftS G W (sDPutT fv fo fi)) := by
  have un := hr.units
  refine PS.imp (ps_dput (by omega) ho hi hv hs) fun D0 σ H ⟨ρ, μ, st, fl, ρ', st', E, S, e, kk⟩ => ?_
  unfold sDPutT at e
  obtain ⟨p, e1, e⟩ := Option.bind_eq_some_iff.mp e
  obtain ⟨q, e2, e⟩ := Option.bind_eq_some_iff.mp e
  obtain ⟨r, e3, e⟩ := Option.bind_eq_some_iff.mp e
  obtain ⟨⟨l, kvs⟩, e4, e⟩ := Option.bind_eq_some_iff.mp e
  obtain ⟨ks, e5, e⟩ := Option.bind_eq_some_iff.mp e
  split at e
  · rename_i hz
    cases e
    refine ⟨ρ, μ, st, p.1, p.2, E, S, e1, fun μ1 H1 v X1 S1 R1 => ⟨ρ, μ1, p.2, q.1, q.2, E.ext X1, S1, e2, fun μ2 H2 w X2 S2 R2 => ⟨ρ, μ2, q.2, r.1, r.2, E.ext (X1.trans X2), S2, e3, fun μ3 H3 u X3 S3 R3 => ?_⟩⟩⟩
    obtain ⟨bb, rfl, hb2⟩ := key_rep R3 e5
    obtain ⟨_, hl, aa, vs, rfl, hpl, ha2, rk⟩ := dict_rep S3 (R2.ext X3) e4
    have hm : aa ∈ μ3.pl := List.mem_of_getElem? hpl
    have X4 : Ext G μ3 H3 μ3 (upd H3 aa (.dT (putK vs ks v))) := Ext.own S3 hm ha2 trivial
    have S4 := S3.setO (o := .dT (putD kvs ks p.1)) hpl (y := .dT (putK vs ks v)) trivial ⟨_, upd_same, (put_rep rk (R1.ext (X2.trans X3))).ext X4⟩
    refine ⟨aa, _, rfl, .t ha2 hb2 ?_, kk μ3 _ (X1.trans (X2.trans (X3.trans X4))) S4 σ (E.ext (X1.trans (X2.trans (X3.trans X4))))⟩
    have hz : kvs.length < sizeLine := hz
    have : kvs.length = vs.length := by have := congrArg List.length rk.1; simpa using this
    omega
  · cases e
def getN : D → D → Sto → Option (D × Sto) := fun c d st => (dictOf c st).bind fun p => (keyOf d).bind fun k => some ((valD p.2 k).getD .non, st)
def fDGet1 (fo fe : FE) : FE := fun ρ st => (fo ρ st).bind fun p => (dictOf p.1 p.2).bind fun _ => (fe ρ p.2).bind fun q => getN p.1 q.1 q.2
theorem de_dget1 {a b : Expr} {fa fb : FE} {apos pos : Pos} {k : Nat} (hr : Room k X.A) (ha : PE X a (lift G fa)) (hb : PE X b (lift G fb)) (m : M1 X a "get" apos b pos) : PE X (.Call (.Attribute a "get" apos) [b] [] pos) (lift G (fDGet1 fa fb)) := by
  have un := hr.units
  refine PE.imp (pe_dget1 (by omega) ha hb m) fun σ H Q ⟨ρ, μ, st, d, st', E, S, e, kk⟩ => ?_
  unfold fDGet1 at e
  obtain ⟨p, e1, e⟩ := Option.bind_eq_some_iff.mp e
  obtain ⟨⟨l0, kv0⟩, e0, e⟩ := Option.bind_eq_some_iff.mp e
  obtain ⟨q, e2, e⟩ := Option.bind_eq_some_iff.mp e
  unfold getN at e
  obtain ⟨⟨l, kvs⟩, e3, e⟩ := Option.bind_eq_some_iff.mp e
  obtain ⟨ks, e4, e5⟩ := Option.bind_eq_some_iff.mp e
  cases e5
  refine ⟨ρ, μ, st, p.1, p.2, E, S, e1, fun μ1 H1 x X1 S1 R1 => ?_⟩
  obtain ⟨_, _, a0, vs0, rfl, _, ha0, rk0⟩ := dict_rep S1 R1 e0
  refine ⟨a0, rfl, .inr ⟨vs0, .inl ha0⟩, ρ, μ1, p.2, q.1, q.2, E.ext X1, S1, e2, fun μ2 H2 y X2 S2 R2 => ?_⟩
  obtain ⟨bb, rfl, hb2⟩ := key_rep R2 e4
  obtain ⟨_, _, aa, vs, h1, _, ha2, rk⟩ := dict_rep S2 (R1.ext X2) e3
  cases h1
  refine ⟨valV vs ks, .t ha2 hb2, ?_⟩
  rcases val_rep ks rk with ⟨d', v', q1, q2, q3⟩ | ⟨q1, q2⟩
  · have q1 : valD kvs ks = some d' := q1
    rw [q1] at kk
    rw [q2]
    exact kk μ2 H2 _ (X1.trans X2) S2 q3
  · have q1 : valD kvs ks = none := q1
    rw [q1] at kk
    rw [q2]
    exact kk μ2 H2 _ (X1.trans X2) S2 .non
end
end EL
set_option Elab.async false
set_option linter.all false
set_option maxRecDepth 100000
set_option maxHeartbeats 1000000
namespace EL
open PySem PySem.Spec PyProof.Rows L2 GxR LG
section
variable {G : G0} {X : Cx}
theorem pe_disp1T {ke ve : Expr} {pos : Pos} {tk tv : TE} (hu : X.A.units + 1 < cLine) (hk : PE X ke tk) (hv : PE X ve tv) :
    PE X (.Dict [some ke] [ve] pos) (fun σ H Q => ∀ p, H p = none → tk σ (upd H p (.dT [])) fun y H1 => tv σ H1 fun v H2 => H2 p = some (.dT []) ∧ ∃ (k : List Key) (b : Addr), y = .ref b ∧ H2 b = some (.tup (k.map kV)) ∧ Q (.ref p) (upd H2 p (.dT [(k, v)]))) := by
  refine ⟨fun pins s σ H Q I q => ?_⟩
  have hn := I.hok.fresh (Nat.le_refl s.heap.objs.size)
  have I1 := I.laid (a := s.heap.objs.size) (o := .dT []) (h' := s.heap.push { cls := .type "dict", data := .dict #[] }) (t' := s.toks) (fun _ _ q => Heap.get?_push_of_some _ q) (Nat.le_refl _) (dt_empty s.heap I.big)
  have q := q _ hn
  rw [arm_eval_Dict, zip_pairTrees [some ke] [ve] X.env pos rfl rfl, dictDisplay_pairs (pairTrees [some ke] [ve] X.env pos) (by intro z; cases z) (by show 1 < 17; decide)]
  refine wpAny_bind (wpAny_standAt (wpAny_bind ?_))
  unfold subDict
  refine wpAny_bind (wpAny_alloc ?_)
  refine wpAny_bind (wpAny_holding ?_)
  rw [if_pos (by show 1 ≤ 15; decide)]
  refine wpAny_bind (pairTrees_cons_walk (thn (hk.run pins _ σ _ _ I1 q) fun kv s1 ⟨y, H1, I2, ry, q1⟩ => thn (hv.run pins _ σ _ _ I2 q1) fun vv s2 ⟨v, H2, I3, rv, ea, k, b, ey, eb, q2⟩ => pairTrees_nil_walk ?_))
  subst ey
  obtain rfl : kv = Value.ref b := ry
  refine wpAny_holding ?_
  rw [List.forIn_cons]
  obtain ⟨z, hd, xs, rel, dd⟩ := dt_of I3.hok ea
  have hz : xs.length ≤ sizeLine := by rw [← Paired.length rel]; exact z
  have room : (tupleKind (mixKind X.prog X.w)).room X.A := by show X.A.units < cLine; omega
  refine wpAny_bind (wpAny_bind (wpAny_bind (wpAny_dictSet_heap (hsz := hz) room (key_of I3.hok eb) dd fun h' dd' hs => wpAny_pure ?_)))
  refine wpAny_pure (wpAny_pure (wpAny_pure (wpAny_pure ⟨.ref s.heap.objs.size, _, ?_, rfl, q2⟩)))
  have hl : (putK ([] : List (List Key × V)) k v).length ≤ sizeLine := by
    have := length_putK ([] : List (List Key × V)) k v
    rw [sizeLine_eq]
    simp at this ⊢
    omega
  have ep : putK ([] : List (List Key × V)) k v = [(k, v)] := rfl
  rw [ep] at hl
  obtain ⟨q, es, ep', hq, h2, h3, h4, _, h5⟩ := dd'
  refine d_write I3 (by rw [ea]; exact True.intro) hs ⟨q, hq⟩ ⟨hl, hd, _, (rel.put k eb rv).keeps fun c ys ec => ?_, q, es, ep', hq, h2, h3, h4, h5⟩
  rw [upd_ne (ne_of ec ea (fun z => nomatch z))]
  exact ec
def fDisp1 (fk fv : FE) : FE := fun ρ st => (fk ρ (st ++ [.dT []])).bind fun p => (fv ρ p.2).bind fun q => (keyOf p.1).bind fun k => match q.2[st.length]? with
  | some (.dT []) => some (.ref st.length, q.2.set st.length (.dT [(k, q.1)]))
  | _ => none
theorem de_disp1 {ke ve : Expr} {pos : Pos} {fk fv : FE} {j : Nat} (hr : Room j X.A) (hk : PE X ke (lift G fk)) (hv : PE X ve (lift G fv)) : PE X (.Dict [some ke] [ve] pos) (lift G (fDisp1 fk fv)) := by
  have un := hr.units
  refine PE.imp (pe_disp1T (by omega) hk hv) fun σ H Q ⟨ρ, μ, st, d, st', E, S, e, kk⟩ => ?_
  intro p hp
  unfold fDisp1 at e
  obtain ⟨x, e1, e⟩ := Option.bind_eq_some_iff.mp e
  obtain ⟨y, e2, e⟩ := Option.bind_eq_some_iff.mp e
  obtain ⟨ks, e3, e⟩ := Option.bind_eq_some_iff.mp e
  have X0 : Ext G μ H (μ.add p) (upd H p (.dT [])) := Ext.newAt S hp
  have S0 : StR G (μ.add p) (st ++ [.dT []]) (upd H p (.dT [])) := S.newO hp trivial ⟨[], upd_same, rfl, .nil⟩
  have at0 : (μ.add p).pl[st.length]? = some p := by
    show (μ.pl ++ [p])[st.length]? = some p
    rw [← S.len]
    simp
  split at e
  · rename_i hl
    cases e
    refine ⟨ρ, μ.add p, st ++ [.dT []], x.1, x.2, E.ext X0, S0, e1, fun μ1 H1 kv X1 S1 R1 => ⟨ρ, μ1, x.2, y.1, y.2, (E.ext X0).ext X1, S1, e2, fun μ2 H2 v X2 S2 R2 => ?_⟩⟩
    have at2 : μ2.pl[st.length]? = some p := X2.at (X1.at at0)
    obtain ⟨vs, h1, h2⟩ := S2.obj _ _ _ hl at2
    have : vs = [] := by
      have := h2.1
      cases vs with
      | nil => rfl
      | cons a b => simp at this
    subst this
    obtain ⟨bb, rfl, hb2⟩ := key_rep (R1.ext X2) e3
    have X4 : Ext G μ2 H2 μ2 (upd H2 p (.dT [(ks, v)])) := Ext.own S2 (List.mem_of_getElem? at2) h1 trivial
    have S4 := S2.setO (o := .dT [(ks, y.1)]) at2 (y := .dT [(ks, v)]) trivial ⟨_, upd_same, rfl, .cons (R2.ext X4) .nil⟩
    exact ⟨h1, ks, bb, rfl, hb2, kk μ2 _ _ (X0.trans (X1.trans (X2.trans X4))) S4 (.ref at2)⟩
  · cases e
end
end EL
set_option Elab.async false
set_option linter.all false
set_option maxRecDepth 100000
set_option maxHeartbeats 1000000
namespace EL
open PySem PySem.Spec PyProof.Rows L2 GxR LG
def insOf (c : Str) : D → Sto → Option (Nat × List (Str × D))
  | .ref l, st => match st[l]? with
    | some (.ins c' fs) => if c' = c then some (l, fs) else none
    | _ => none
  | _, _ => none
def putFD (f : Str) (v : D) : List (Str × D) → List (Str × D)
  | [] => [(f, v)]
  | (g, x) :: r => if g = f then (g, v) :: r else (g, x) :: putFD f v r
section
variable {G : G0} {X : Cx} {μ : Mu} {H : Hp} {st : Sto}
/-- a class: its fields are none of its own attributes -/
structure ClsF (G : G0) (c : Str) (fs : List Str) : Prop where
  ex : ∃ C, G.mg c = some (.ref C) ∧ Cls G.K C ∧ ∀ f ∈ fs, NoAttr G.K C f
theorem ins_rep {c : Str} {d : D} {v : V} {l : Nat} {fs : List (Str × D)} (S : StR G μ st H) (R : Rep G μ H d v) (e : insOf c d st = some (l, fs)) : d = .ref l ∧ st[l]? = some (.ins c fs) ∧ ∃ a C dx vs, v = .ref a ∧ μ.pl[l]? = some a ∧ G.mg c = some (.ref C) ∧ H a = some (.ins C dx vs) ∧ RKs G μ H fs vs := by
  unfold insOf at e
  split at e
  · split at e
    · rename_i c' kk hl
      split at e
      · rename_i hc
        cases e
        subst hc
        cases R with
        | ref h =>
          obtain ⟨C, dx, vs, h0, h1, h2⟩ := S.obj _ _ _ hl h
          exact ⟨rfl, hl, _, C, dx, vs, rfl, h, h0, h1, h2⟩
      · cases e
    · cases e
  · cases e
theorem look_rep : ∀ {fs : List (Str × D)} {vs : List (Str × V)} (f : Str), RKs G μ H fs vs → (∃ d v, fs.lookup f = some d ∧ vs.lookup f = some v ∧ Rep G μ H d v) ∨ (fs.lookup f = none ∧ vs.lookup f = none)
  | [], [], f, _ => .inr ⟨rfl, rfl⟩
  | [], _ :: _, f, h => by have := h.1; simp at this
  | _ :: _, [], f, h => by have := h.1; simp at this
  | (a, d) :: fs, (b, v) :: vs, f, h => by
    obtain ⟨h1, h2⟩ := h
    simp only [List.map_cons, List.cons.injEq] at h1 h2
    obtain ⟨rfl, h1⟩ := h1
    cases h2 with
    | cons r t =>
      by_cases e : f = a
      · subst e
        exact .inl ⟨d, v, by simp, by simp, r⟩
      · have ih := look_rep (fs := fs) (vs := vs) f ⟨h1, t⟩
        have be : (f == a) = false := beq_false_of_ne e
        have e1 : ((a, d) :: fs).lookup f = fs.lookup f := by simp only [List.lookup, be]
        have e2 : ((a, v) :: vs).lookup f = vs.lookup f := by simp only [List.lookup, be]
        rw [e1, e2]
        exact ih
theorem putF_rep {f : Str} {d : D} {v : V} (r : Rep G μ H d v) : ∀ {fs : List (Str × D)} {vs : List (Str × V)}, RKs G μ H fs vs → RKs G μ H (putFD f d fs) (putF f v vs)
  | [], [], _ => ⟨rfl, .cons r .nil⟩
  | [], _ :: _, h => by have := h.1; simp at this
  | _ :: _, [], h => by have := h.1; simp at this
  | (a, x) :: fs, (b, y) :: vs, h => by
    obtain ⟨h1, h2⟩ := h
    simp only [List.map_cons, List.cons.injEq] at h1 h2
    obtain ⟨rfl, h1⟩ := h1
    cases h2 with
    | cons r1 t =>
      unfold putFD putF
      by_cases e : a = f
      · rw [if_pos e, if_pos e]
        exact ⟨by simp [h1], .cons r t⟩
      · rw [if_neg e, if_neg e]
        obtain ⟨z1, z2⟩ := putF_rep r (fs := fs) (vs := vs) ⟨h1, t⟩
        exact ⟨by simp only [List.map_cons, z1], .cons r1 z2⟩
def fFld (c f : Str) (fa : FE) : FE := fun ρ st => (fa ρ st).bind fun p => (insOf c p.1 p.2).bind fun q => (q.2.lookup f).bind fun v => some (v, p.2)
theorem de_fld {c f : Str} {fs : List Str} {e : Expr} {fa : FE} {pos : Pos} (o : On G X) (K : ClsF G c fs) (hf : f ∈ fs) (he : PE X e (lift G fa)) (hb : attributeBase e f X.env (eval e X.env) = eval e X.env := by rfl) : PE X (.Attribute e f pos) (lift G (fFld c f fa)) := by
  obtain ⟨C0, hC0, cl, na⟩ := K.ex
  refine PE.imp (pe_fld he hb) fun σ H Q ⟨ρ, μ, st, d, st', E, S, e, kk⟩ => ?_
  unfold fFld at e
  obtain ⟨p, e1, e⟩ := Option.bind_eq_some_iff.mp e
  obtain ⟨⟨l, gs⟩, e2, e⟩ := Option.bind_eq_some_iff.mp e
  obtain ⟨v, e3, e4⟩ := Option.bind_eq_some_iff.mp e
  cases e4
  refine ⟨ρ, μ, st, p.1, p.2, E, S, e1, fun μ1 H1 x X1 S1 R1 => ?_⟩
  obtain ⟨_, _, a, C, dx, vs, rfl, _, hC, ha, rk⟩ := ins_rep S1 R1 e2
  rw [hC0] at hC
  cases hC
  rcases look_rep f rk with ⟨d', v', q1, q2, q3⟩ | ⟨q1, _⟩
  · have q1 : gs.lookup f = some d' := q1
    rw [q1] at e3
    cases e3
    exact ⟨a, C0, dx, vs, v', rfl, ha, by rw [o.K]; exact cl, by rw [o.K]; exact na f hf, q2, kk μ1 H1 _ X1 S1 q3⟩
  · have q1 : gs.lookup f = none := q1
    rw [q1] at e3
    cases e3
def sFldT (c f : Str) (fv fo : FE) : FS := fun ρ st => (fv ρ st).bind fun p => (fo ρ p.2).bind fun q => (insOf c q.1 q.2).bind fun z => if z.2.length < 1000 then some (.nx, ρ, q.2.set z.1 (.ins c (putFD f p.1 z.2))) else none
theorem ds_fld {c f : Str} {fs : List Str} {a e : Expr} {fv fo : FE} {p1 pos : Pos} {W : WX} (o : On G X) (K : ClsF G c fs) (hf : f ∈ fs) (hv : PE X e (lift G fv)) (ho : PE X a (lift G fo)) (hs : swapsWith e (some (.Attribute a f p1)) pos.line X.env = pure false := by rfl) :
    PS X (.Assign [.Attribute a f p1] e pos) (liftS G W (sFldT c f fv fo)) := by
  obtain ⟨C0, hC0, cl, na⟩ := K.ex
  refine PS.imp (ps_fld ho hv hs) fun D0 σ H ⟨ρ, μ, st, fl, ρ', st', E, S, e, kk⟩ => ?_
  unfold sFldT at e
  obtain ⟨p, e1, e⟩ := Option.bind_eq_some_iff.mp e
  obtain ⟨q, e2, e⟩ := Option.bind_eq_some_iff.mp e
  obtain ⟨⟨l, gs⟩, e3, e⟩ := Option.bind_eq_some_iff.mp e
  split at e
  · rename_i hz
    cases e
    refine ⟨ρ, μ, st, p.1, p.2, E, S, e1, fun μ1 H1 v X1 S1 R1 => ⟨ρ, μ1, p.2, q.1, q.2, E.ext X1, S1, e2, fun μ2 H2 x X2 S2 R2 => ?_⟩⟩
    obtain ⟨_, _, aa, C, dx, vs, rfl, hpl, hC, ha, rk⟩ := ins_rep S2 R2 e3
    have hC' := hC
    rw [hC0] at hC'
    cases hC'
    have X4 : Ext G μ2 H2 μ2 (upd H2 aa (.ins C0 dx (putF f v vs))) := Ext.own S2 (List.mem_of_getElem? hpl) ha trivial
    have S4 := S2.setO (o := .ins c (putFD f p.1 gs)) hpl (y := .ins C0 dx (putF f v vs)) trivial ⟨C0, dx, _, hC, upd_same, (putF_rep (R1.ext X2) rk).ext X4⟩
    refine ⟨aa, C0, dx, vs, rfl, ha, by rw [o.K]; exact cl, by rw [o.K]; exact na f hf, ?_, kk μ2 _ (X1.trans (X2.trans X4)) S4 σ (E.ext (X1.trans (X2.trans X4)))⟩
    have hz : gs.length < 1000 := hz
    have : gs.length = vs.length := by have := congrArg List.length rk.1; simpa using this
    omega
  · cases e
structure DefM (G : G0) (k : Nat) (c m : Str) (n : Nat) (fn : HA) : Prop where
  ex : ∃ (C f : Addr) (fd : FuncData) (ps : List Str), ps.length = n ∧ FnOk G.P G.w G.K G.mg G.base CX0 k f fd ps (spD G n fn) ∧ G.mg c = some (.ref C) ∧ Cls G.K C ∧ Meth G.K C m f ∧ Binds G.K fd ps []
def fMeth (c m : Str) (n : Nat) (fn : HA) (fo : FE) (fr : FA) : FE := fun ρ st => (fo ρ st).bind fun p => (insOf c p.1 p.2).bind fun z => if z.2.lookup m = none then (fr ρ p.2).bind fun q => if (p.1 :: q.1).length = n then fn (p.1 :: q.1) q.2 else none else none
theorem de_meth {k n : Nat} {c m : Str} {fn : HA} {a e : Expr} {es : List Expr} {fo : FE} {fr : FA} {apos pos : Pos} {pl : Sem Bool} (o : On G X) (F : DefM G k c m n fn) (hr : Room k X.A) (ho : PE X a (lift G fo)) (ha : PA X (e :: es) (liftA G fr))
    (hst : starEach (e :: es) X.env = (false, eval e X.env) :: starEach es X.env := by rfl) (hpl : (backTo pos (starEach es X.env)).any (·.1) = false := by rfl)
    (ht : eval (.Call (.Attribute a m apos) (e :: es) [] pos) X.env = (do
      let ov ← eval a X.env
      standAt apos.atName
      let (f, first) ← holding [ov] (getMethod ov m pl)
      callWith pos f first (backTo pos (starEach (e :: es) X.env)) (backToKw pos (keywordEach [] X.env))) := by rfl) : PE X (.Call (.Attribute a m apos) (e :: es) [] pos) (lift G (fMeth c m n fn fo fr)) := by
  obtain ⟨C, f, fd, ps, hl, F, hC, cl, me, hb⟩ := F.ex
  have F' : FnOk X.prog X.w X.K X.mg X.base CX0 k f fd ps (spD G n fn) := by rw [o.prog, o.w, o.K, o.mg, o.base]; exact F
  refine PE.imp (pe_meth ho (by rw [o.K]; exact cl) (by rw [o.K]; exact me) F' hr (by rw [o.K]; exact hb) .nil pass0 ha hst hpl ht) fun σ H Q ⟨ρ, μ, st, d, st', E, S, e, kk⟩ => ?_
  unfold fMeth at e
  obtain ⟨p, e1, e⟩ := Option.bind_eq_some_iff.mp e
  obtain ⟨⟨l, gs⟩, e2, e⟩ := Option.bind_eq_some_iff.mp e
  split at e
  · rename_i hn
    obtain ⟨q, e3, e⟩ := Option.bind_eq_some_iff.mp e
    split at e
    · rename_i hz
      refine ⟨ρ, μ, st, p.1, p.2, E, S, e1, fun μ1 H1 x X1 S1 R1 => ?_⟩
      obtain ⟨_, _, aa, C', dx, vs, rfl, _, hC', ha', rk⟩ := ins_rep S1 R1 e2
      rw [hC] at hC'
      cases hC'
      refine ⟨aa, dx, vs, rfl, ha', ?_, ρ, μ1, p.2, q.1, q.2, E.ext X1, S1, e3, fun μ2 H2 ws X2 S2 R2 => ⟨μ2, q.2, p.1 :: q.1, d, st', hz, S2, by rw [List.append_nil]; exact .cons (R1.ext X2) R2, e, kk.trans (X1.trans X2)⟩⟩
      rcases look_rep m rk with ⟨d', v', q1, q2, q3⟩ | ⟨_, q2⟩
      · have q1 : gs.lookup m = some d' := q1
        have hn : gs.lookup m = none := hn
        rw [hn] at q1
        cases q1
      · exact q2
    · cases e
  · cases e
structure DefI (G : G0) (k : Nat) (c : Str) (n : Nat) (fn : HA) : Prop where
  ex : ∃ (C f : Addr) (fd : FuncData) (ps : List Str), ps.length = n ∧ FnOk G.P G.w G.K G.mg G.base CX0 k f fd ps (spD G n fn) ∧ G.mg c = some (.ref C) ∧ Mk G.K C f ∧ Binds G.K fd ps []
def fMake (c : Str) (n : Nat) (fn : HA) (fr : FA) : FE := fun ρ st => (fr ρ st).bind fun p => if p.1.length + 1 = n then (fn (.ref p.2.length :: p.1) (p.2 ++ [.ins c []])).bind fun q => match q.1 with
  | .non => some (.ref p.2.length, q.2)
  | _ => none
  else none
theorem de_make {k n : Nat} {c : Str} {fn : HA} {e : Expr} {es : List Expr} {fr : FA} {p0 pos : Pos} (o : On G X) (F : DefI G k c n fn) (hr : Room (k + 1) X.A) (hg : Gl X c) (ha : PA X (e :: es) (liftA G fr)) (hdb : (c == ("__debug__" : Str)) = false := by decide)
    (he : starEach (e :: es) X.env = (false, eval e X.env) :: starEach es X.env := by rfl) (hpl : (backTo pos (starEach es X.env)).any (·.1) = false := by rfl) : PE X (.Call (.Name c p0) (e :: es) [] pos) (lift G (fMake c n fn fr)) := by
  obtain ⟨C, f, fd, ps, hl, F, hC, mk, hb⟩ := F.ex
  have F' : FnOk X.prog X.w X.K X.mg X.base CX0 k f fd ps (spD G n fn) := by rw [o.prog, o.w, o.K, o.mg, o.base]; exact F
  refine PE.imp (pe_make (by rw [o.K]; exact mk) F' hr hg (by rw [o.mg]; exact hC) (by rw [o.K]; exact hb) .nil pass0 ha hdb he hpl) fun σ H Q ⟨ρ, μ, st, d, st', E, S, e, kk⟩ => ?_
  unfold fMake at e
  obtain ⟨p, e1, e⟩ := Option.bind_eq_some_iff.mp e
  split at e
  · rename_i hz
    obtain ⟨q, e2, e⟩ := Option.bind_eq_some_iff.mp e
    split at e
    · rename_i hq
      cases e
      refine ⟨ρ, μ, st, p.1, p.2, E, S, e1, fun μ1 H1 vs X1 S1 R1 => fun x dx hx hdx ne => ?_⟩
      have X2 : Ext G μ1 H1 μ1 (upd H1 dx (.own x)) := Ext.new S1 hdx
      have S2 : StR G μ1 p.2 (upd H1 dx (.own x)) := S1.newT hdx
      have hx2 : upd H1 dx (.own x) x = none := by rw [upd_ne (Ne.symm ne)]; exact hx
      have X3 : Ext G μ1 (upd H1 dx (.own x)) (μ1.add x) (upd (upd H1 dx (.own x)) x (.ins C dx [])) := Ext.newAt S2 hx2
      have S3 : StR G (μ1.add x) (p.2 ++ [.ins c []]) (upd (upd H1 dx (.own x)) x (.ins C dx [])) := S2.newO hx2 trivial ⟨C, dx, [], hC, upd_same, rfl, .nil⟩
      have at0 : (μ1.add x).pl[p.2.length]? = some x := by
        show (μ1.pl ++ [x])[p.2.length]? = some x
        rw [← S1.len]
        simp
      refine ⟨μ1.add x, p.2 ++ [.ins c []], .ref p.2.length :: p.1, .non, q.2, by simp; omega, S3, by rw [List.append_nil]; exact .cons (.ref at0) (R1.ext (X2.trans X3)), ?_, fun μ' H' v X4 S4 R4 => ?_⟩
      · rw [e2, ← hq]
      · cases R4
        exact ⟨rfl, kk μ' H' _ (X1.trans (X2.trans (X3.trans X4))) S4 (.ref (X4.at at0))⟩
    · cases e
  · cases e
end
end EL
set_option Elab.async false
set_option linter.all false
set_option maxRecDepth 100000
set_option maxHeartbeats 2000000
namespace LGA
open PySem PySem.Spec PyProof.Rows L2 GenW GxR NdefX
open LG (over_gen over_gen0 GSc gx Inner Caps)
/-- a truth is handed out -/
def YT (a : Addr) (g : Nat) (Post : Bool → Shared → Prop) : Protocol := fun n s₀ v s1 kap =>
  ∃ b, v = .bool b ∧ AllBare s1.gens ∧ s1.heap.NoLimit ∧ s1.heap.IsGen a g ∧
    (b = false → ∀ s' : Shared, s'.heap = s1.heap → s'.os = s1.os → AllBare s'.gens → kap (.send .none) s') ∧
    (b = true → ∀ s' : Shared, s'.heap = s1.heap → s'.os = s1.os → AllBare s'.gens → Post true s')
def RT (Post : Bool → Shared → Prop) (s1 : Shared) : Prop :=
  AllBare s1.gens ∧ ∀ s' : Shared, (∀ b o, s1.heap.get? b = some o → s'.heap.get? b = some o) → s'.os = s1.os → AllBare s'.gens → Post false s'
theorem any_loud {P : Program} {w : World} {A : Around} {R : Result → Shared → Prop} {a : Addr} {g : Nat} {Post : Bool → Shared → Prop} (hh : A.handled = none) (hd : A.depth < recursionLimit)
    (hend : ∀ b s', Post b s' → R (.ok (.ret (.bool b))) s') :
    ∀ (m : Nat) (s : Shared), s.heap.IsGen a g → s.heap.NoLimit →
      (∃ gs, s.gens[g]? = some gs ∧ gs.Goes (model P w) A.in1.in1 (fun n s₀ r s₁ => r = .ok .next ∧ RT Post s₁) (YT a g Post) m (.send .none) (s.setGen g .running)) →
      codeAny (model P w) A (.builtin "any.loop" ⟨[.ref a], []⟩) R s := by
  intro m
  induction m with
  | zero =>
    intro s hg hl ⟨gs, hgs, hgo⟩
    refine codeAny_builtin F.entry_any_loop ?_
    rw [Around.under_plainId F.plain_any_loop _]
    show wpAny _ A.in1 (pyNext (.ref a) >>= _) _ _ s
    refine wpAny_bind (wpAny_pyNext_genexpQ (A := A.in1) (P := fun _ _ s₁ => RT Post s₁) hh hl hd hg hgs hgo (fun v s₁ gs' hb hv => ?_) (fun s₁ hp h' hk => ?_))
    · obtain ⟨b, rfl, hb1, hl1, hg1, ht, hf⟩ := hv
      refine wpAny_bind (wpAny_holding (wpAny_truthy_bool ?_))
      refine wpAny_bind (wpAny_letGo ?_)
      cases b with
      | false => exact (ht rfl s₁ rfl rfl hb1).elim
      | true =>
        simp only [if_true]
        refine wpAny_bind (wpAny_rule (wpAny_pure ?_))
        exact hend _ _ (hf rfl _ rfl rfl (allBare_setGen hb1 hb))
    · refine wpAny_bind (wpAny_rule (wpAny_pure ?_))
      exact hend _ _ (hp.2 _ hk rfl (allBare_setGen (s := s₁) hp.1 rfl))
  | succ m ih =>
    intro s hg hl ⟨gs, hgs, hgo⟩
    have hgl : g < s.gens.size := (Array.getElem?_eq_some_iff.mp hgs).1
    refine codeAny_builtin F.entry_any_loop ?_
    rw [Around.under_plainId F.plain_any_loop _]
    show wpAny _ A.in1 (pyNext (.ref a) >>= _) _ _ s
    refine wpAny_bind (wpAny_gsz (n := g + 1) hgl (wpAny_pyNext_genexpQ (A := A.in1) (P := fun _ _ s₁ => RT Post s₁) hh hl hd hg hgs hgo (fun v s₁ gs' hb hv => ?_) (fun s₁ hp h' hk => ?_)))
    · intro hsz
      obtain ⟨b, rfl, hb1, hl1, hg1, ht, hf⟩ := hv
      have hsz1 : g < s₁.gens.size := by
        have q : (s₁.setGen g gs').gens.size = s₁.gens.size := setGen_size _ _ _
        have hsz' : g + 1 ≤ (s₁.setGen g gs').gens.size := hsz
        omega
      refine wpAny_bind (wpAny_holding (wpAny_truthy_bool ?_))
      refine wpAny_bind (wpAny_letGo ?_)
      cases b with
      | false =>
        simp only [Bool.false_eq_true, if_false]
        refine wpAny_pure ⟨plainId_quiet F.plain_any_loop _, ih _ hg1 hl1 ⟨gs', setGen_at hsz1, ?_⟩⟩
        exact ht rfl _ rfl rfl (allBare_setGen (s := s₁.setGen g gs') (allBare_setGen hb1 hb) rfl)
      | true =>
        simp only [if_true]
        refine wpAny_bind (wpAny_rule (wpAny_pure ?_))
        exact hend _ _ (hf rfl _ rfl rfl (allBare_setGen hb1 hb))
    · intro _
      refine wpAny_bind (wpAny_rule (wpAny_pure ?_))
      exact hend _ _ (hp.2 _ hk rfl (allBare_setGen (s := s₁) hp.1 rfl))
/-- the turns of a generator expression drawn by all(..) -/
def Turns (J : It) (g : TG) (te : TE) (Fin : Bool → Hp → Prop) (W : Nat → Nat → L2.St → Hp → Prop) : Prop :=
  ∀ i m σ H, W i m σ H → (J.stop i H ∧ Fin false H) ∨
    (J.go i H ∧ ∀ x H', J.yld i H x H' → g x σ H' fun σ2 H2 => te σ2 H2 fun y H3 => ∃ b, y = .bl b ∧ if b = false then ∃ m', m' < m ∧ W (i + 1) m' σ2 H3 else Fin true H3)
section
variable {X : Cx} {Aw : Around} {elt iter tg : Expr} {scope : Scope} {gpos : Pos} {J : It} {fp : List Addr} {it a : Addr} {gn : Nat} {go : Obj} {tn : Nat → Heap → Prop} {g : TG} {te : TE} {Fin : Bool → Hp → Prop} {W : Nat → Nat → L2.St → Hp → Prop} {Post : Bool → Shared → Prop}
theorem seg_loop (hA : X.A = Aw.deeper X.env) (hxe : X.xe = fun _ _ => False) (hc : X.calm = true) (hco : X.env.scope.isCoroutine = false) (hpn : (a, go) ∈ X.pn) (hgo : ∀ h : Heap, h.get? a = some go → h.IsGen a gn)
    (T : Turn X.prog X.w X.K tg J fp it tn) (hg : PG X tg g) (he : PE X elt te) (hW : Turns J g te Fin W)
    (hPost : ∀ b σ H s s', Inv X [] σ H s → Fin b H → (∀ c o, s.heap.get? c = some o → s'.heap.get? c = some o) → s'.os = s.os → AllBare s'.gens → Post b s') :
    ∀ (n i m : Nat) (s₀ s : Shared) (σ : L2.St) (H : Hp), m < n → Inv X [] σ H s → tn i s.heap → (∀ b ∈ fp, FpOk X [] H b) → W i m σ H →
      Seg (model X.prog X.w) Aw (fun n s₀ r s₁ => r = .ok .next ∧ RT Post s₁) (YT a gn Post) n s₀ (.compLoop (.GeneratorExp elt [⟨tg, iter, [], 0⟩] scope gpos) 0 (.ref it) .none X.env)
        ((model X.prog X.w).den (.compLoop (.GeneratorExp elt [⟨tg, iter, [], 0⟩] scope gpos) 0 (.ref it) .none X.env)) [] s := by
  intro n
  induction n with
  | zero => intro i m s₀ s σ H hm; omega
  | succ n ih =>
    intro i m s₀ s σ H hm I ht hf w
    have hov : Aw.over (.compLoop (.GeneratorExp elt [⟨tg, iter, [], 0⟩] scope gpos) 0 (.ref it) .none X.env) [] = X.A := over_gen.trans hA.symm
    show Seg _ Aw _ _ _ s₀ _ ((compTurn (.GeneratorExp elt [⟨tg, iter, [], 0⟩] scope gpos) 0 (.ref it) .none X.env).onRaise (leaving X.env)) [] s
    rw [compTurn_gen, Sem.onRaise_eq_wrap]
    refine seg_bind_wrap (wpAny_standAt ?_)
    rcases hW i m σ H w with ⟨stop, fin⟩ | ⟨goes, step⟩
    · refine seg_bind_wrap ?_
      rw [hov]
      refine thn (T.done X rfl rfl rfl hc i [] s σ H _ I hf ht stop) fun r s1 ⟨hr, I1⟩ => ?_
      subst hr
      exact seg_end (.ok .next) ⟨rfl, I1.bare, fun s' hk ho hb => hPost false σ H s1 s' I1 fin hk ho hb⟩
    · refine seg_bind_wrap ?_
      rw [hov]
      refine thn (T.item X rfl rfl rfl hc i [] s σ H _ I hf ht goes) fun r s1 ⟨u, hr, h1⟩ => ?_
      subst hr
      refine seg_bind_wrap ?_
      rw [hov]
      refine thn h1 fun _ s2 ⟨x, H2, I2, rx, y2, ht2, fr2⟩ => ?_
      have hf2 : ∀ b ∈ fp, FpOk X [] H2 b := fun b hb => ⟨fr2 b hb, (hf b hb).2⟩
      have I2' := I2.pinned hf2 (T.obj _ _ ht2)
      refine seg_bind_wrap ?_
      rw [hov]
      refine wpAny_mono (hg.run _ s2 σ H2 x u _ I2' rx (step x H2 y2)) (fun _ s3 ⟨σ3, H3, I3, q3⟩ => ?_) fun e s' hx => by rw [hxe] at hx; exact hx.elim
      refine seg_bind_wrap ?_
      simp only [List.forIn_nil]
      refine wpAny_pure ?_
      have hy : ∀ v, yieldOut X.env v = yieldValue v := fun v => by simp only [yieldOut, hco, Bool.false_eq_true, if_false]
      simp only [if_true, hy]
      rw [Sem.bind_eq_wrap', Sem.bind_eq_wrap', Sem.wrap_wrap, Sem.wrap_wrap]
      refine seg_wrap ?_
      rw [hov]
      refine wpAny_mono (he.run _ s3 σ3 H3 _ I3 q3) (fun y s4 ⟨yv, H4, I4, r4, b, eb, q4⟩ => ?_) fun e s' hx => by rw [hxe] at hx; exact hx.elim
      subst eb
      obtain rfl : y = Value.bool b := r4
      have pin : ∀ c ∈ fp, ∀ o, s2.heap.get? c = some o → s4.heap.get? c = some o ∧ H4 c = none := fun c hcc o e =>
        let z := I4.pin (c, o) (List.mem_append_right _ (List.mem_append_right _ (mem_pinsAt hcc e)))
        ⟨z.1, z.2.1⟩
      have I5 : Inv X [] σ3 H4 s4 := I4.unpinned
      refine seg_at (seg_yield rfl rfl rfl ⟨b, rfl, I5.bare, I5.nolimit, hgo _ (I5.pin (a, go) (List.mem_append_left _ hpn)).1, fun hb s' h1 h2 h3 => ?_, fun hb s' h1 h2 h3 => ?_⟩)
      · subst hb
        rw [if_pos rfl] at q4
        obtain ⟨m', hm', w'⟩ := q4
        have I6 : Inv X [] σ3 H4 s' := I5.call' (ch := []) h2 (by rw [h1]; exact Un.refl) (by rw [h1]; exact I5.hok) h3 fun b z => by simp at z
        refine seg_again rfl (ih (i + 1) m' s' s' σ3 H4 (by omega) I6 (by rw [h1]; exact T.keep _ _ _ ht2 fun c hcc o e => (pin c hcc o e).1) (fun c hcc => ?_) w')
        obtain ⟨o, e, _⟩ := T.obj _ _ ht2 c hcc
        exact ⟨(pin c hcc o e).2, (hf c hcc).2⟩
      · subst hb
        rw [if_neg (by decide)] at q4
        exact hPost true σ3 H4 s4 s' I5 q4 (fun c o e => by rw [h1]; exact e) h2 h3
theorem seg_start (hA : X.A = Aw.deeper X.env) (hxe : X.xe = fun _ _ => False) (hc : X.calm = true) (hco : X.env.scope.isCoroutine = false) (hpn : (a, go) ∈ X.pn) (hgo : ∀ h : Heap, h.get? a = some go → h.IsGen a gn)
    (T : Turn X.prog X.w X.K tg J fp it tn) (hg : PG X tg g) (he : PE X elt te) (hW : Turns J g te Fin W)
    (hPost : ∀ b σ H s s', Inv X [] σ H s → Fin b H → (∀ c o, s.heap.get? c = some o → s'.heap.get? c = some o) → s'.os = s.os → AllBare s'.gens → Post b s')
    (m : Nat) (s₀ s : Shared) (σ : L2.St) (H : Hp) (I : Inv X [] σ H s) (ht : tn 0 s.heap) (hf : ∀ b ∈ fp, FpOk X [] H b) (w : W 0 m σ H) :
    Seg (model X.prog X.w) Aw (fun n s₀ r s₁ => r = .ok .next ∧ RT Post s₁) (YT a gn Post) (m + 1) s₀ (.compStart (.GeneratorExp elt [⟨tg, iter, [], 0⟩] scope gpos) 0 (.ref it) .none X.env)
        ((model X.prog X.w).den (.compStart (.GeneratorExp elt [⟨tg, iter, [], 0⟩] scope gpos) 0 (.ref it) .none X.env)) [] s := by
  have hov : Aw.over (.compStart (.GeneratorExp elt [⟨tg, iter, [], 0⟩] scope gpos) 0 (.ref it) .none X.env) [] = X.A := over_gen0.trans hA.symm
  have loop := seg_loop (iter := iter) (scope := scope) (gpos := gpos) (gn := gn) hA hxe hc hco hpn hgo T hg he hW hPost (m + 1) 0 m s₀ s σ H (Nat.lt_succ_self m) I ht hf w
  show Seg _ Aw _ _ _ s₀ _ ((compStart (.GeneratorExp elt [⟨tg, iter, [], 0⟩] scope gpos) 0 (.ref it) .none X.env).onRaise (leaving X.env)) [] s
  unfold compStart
  rw [Sem.onRaise_eq_wrap]
  show Seg _ Aw _ _ _ s₀ _ ((ask >>= _).wrap _ _ _ _) [] s
  refine seg_bind_wrap (wpAny_askSetting ?_)
  split
  · exact seg_again rfl loop
  · first
      | exact seg_bind_wrap (wpAny_rule (seg_bind_wrap (wpAny_standAt (seg_bind_wrap (T.self _ 0 s _ _ ht (seg_again rfl loop))))))
      | (refine seg_bind_wrap (wpAny_rule ?_); show Seg _ Aw _ _ _ s₀ _ ((standAt iter.pos >>= _).wrap _ _ _ _) [] s; exact seg_bind_wrap (wpAny_standAt (seg_bind_wrap (T.self _ 0 s _ _ ht (seg_again rfl loop)))))
end
def tAnyG (X : Cx) (P : Addr) (scope : Scope) (N : List Str) (wi : TI) (g : TG) (te : TE) : TE := fun σ H Q => wi σ H fun J H1 => TabG H1 P ∧ ∃ σ', Caps X scope N σ σ' ∧
  ∀ H2, Tabbed P H1 H2 → ∃ W : Nat → Nat → L2.St → Hp → Prop, (∃ m, W 0 m σ' H2) ∧ Turns J g te (fun b H' => Q (.bl b) H') W
section
variable {X : Cx}
theorem pe_anyG {c P : Addr} {elt iter tg : Expr} {p pos gpos : Pos} {scope : Scope} {wi : TI} {g : TG} {te : TE} {k : Nat} {N : List Str}
    (hr : Room (k + 1) X.A) (hg0 : Gl X "any") (hm : X.mg "any" = none) (hcalm : X.calm = true) (TB : TabB X.base X.mg c P) (hcode : X.env.code = .ref c) (S : GSc X.env scope) (hi : PI X tg iter wi)
    (hgt : ∀ X', Inner X scope N k X' → PG X' tg g) (hel : ∀ X', Inner X scope N k X' → PE X' elt te)
    (hs : ∀ v, genFold iter X.env v = pure v)
    (he : starEach [.GeneratorExp elt [⟨tg, iter, [], 0⟩] scope gpos] X.env = (false, eval (.GeneratorExp elt [⟨tg, iter, [], 0⟩] scope gpos) X.env) :: starEach [] X.env := by rfl) :
    PE X (.Call (.Name "any" p) [.GeneratorExp elt [⟨tg, iter, [], 0⟩] scope gpos] [] pos) (tAnyG X P scope N wi g te) := by
  refine ⟨fun pins s σ H Q I h => ?_⟩
  refine wpAny_Call_Name_kw (ld_blt I hg0 hm (show bootBuiltins "any" = some (.builtin "any") by decide +kernel) ?_)
  refine PyProof.Rows.callWith_builtin1 ?_ he (by rfl)
  rw [he]
  show wpAny _ _ (spliced ((false, eval (.GeneratorExp elt [⟨tg, iter, [], 0⟩] scope gpos) X.env) :: backTo pos (starEach [] X.env))) _ _ s
  refine Calls.spliced_cons ?_
  refine wpAny_GeneratorExp_make S.co (closure_ok S.free) S.cell S.dot S.kind (by have := hr.dp; omega) ?_ hs
  refine thn (hi.run pins s σ H _ I h) fun xv s1 h1 => thn h1 fun itv s2 h2 => ?_
  obtain ⟨it, fp, tn, J, H2, rfl, I2, T, ht2, hf2, hR⟩ := h2
  obtain ⟨⟨ps, hP, htr⟩, σ', hcap, hR⟩ := hR
  have lim2 : s2.heap.NoLimit := I2.nolimit
  have hPs : s2.heap.get? P = some { cls := .none, data := .fields ps } := I2.hok P _ hP
  have cd : PySem.W.CodeHd s2.heap c P := TB.code.keeps fun b u e => I2.bk b u e
  refine ⟨lim2, ?_⟩
  have cont : ∀ (code : Value) (h3 : Heap) (tk : Nat) (ps' : Array Value), Heap.ExtBut P s2.heap h3 → s2.heap.objs.size ≤ h3.objs.size → h3.get? P = some { cls := .none, data := .fields ps' } → (∃ more, ps' = ps ++ more) → TriplesOk ps'.toList →
      wpAny (model X.prog X.w) X.A (builtinsFor X.env.globals X.env.builtins) (fun bi s₄ =>
        ∀ h', h'.Ns s₄.heap.objs.size (fun y => if y = ".0" then some (Value.ref it) else none) → Heap.SameBut s₄.heap.objs.size (s₄.heap.push { cls := .type "frame", data := .dict #[] }) h' →
          (fun a s' => wpAny (model X.prog X.w) X.A (spliced (backTo pos (starEach [] X.env))) (fun x s'' => wpAny (model X.prog X.w) X.A (call (.builtin "any") (a :: x)) (EP X pins σ Q) X.xe s'') X.xe s') (Value.ref h'.objs.size) { s₄ with
            gens := s₄.gens.push (.fresh (.compStart (.GeneratorExp elt [⟨tg, iter, [], 0⟩] scope gpos) 0 (.ref it) .none (genEnv scope (cloFrom X.env.cells scope.names []) s₄.heap.objs.size code bi X.env))),
            toks := s₄.toks + 1 + 1 + 1,
            heap := h'.push { cls := .type "generator", data := .fields #[.int s₄.gens.size 0, .str "<genexpr>" (s₄.toks + 1), .str (X.env.qual ++ "<genexpr>") (s₄.toks + 1 + 1)] } }) X.xe { s2 with heap := h3, toks := tk } := by
    intro code h3 tk ps' hx hsz hP3 hmore ht3
    obtain ⟨bm, ob, e1, e2, e3, e4, e5, e6, e7, e8⟩ := TB.bm
    have keep3 : ∀ b u, b ≠ P → s2.heap.get? b = some u → h3.get? b = some u := fun b u hb e => hx b u hb e
    refine wpAny_builtinsFor (m := X.mg) (by rw [I2.ok.glob]; exact (I2.mod.glob.keeps I2.bk).extBut hx TB.gP) e1 e2 (keep3 _ _ e4 (I2.bk _ _ e5)) e6 e7 e8 ?_
    obtain ⟨more, em⟩ := hmore
    have I4 : Inv X pins σ (upd H2 P (.tbl (ps ++ more))) { s2 with heap := h3, toks := tk } :=
      inv_tab (more := more) (h' := h3) (g' := s2.gens) (d' := s2.drawn) (t' := tk) I2 hP keep3 (by rw [← em]; exact hP3) I2.bare
    have hTab : Tabbed P H2 (upd H2 P (.tbl (ps ++ more))) := ⟨⟨ps ++ more, upd_same, by rw [← em]; exact ht3⟩, fun b hb => upd_ne hb⟩
    obtain ⟨W, ⟨m, w0⟩, hW⟩ := hR _ hTab
    generalize hH3 : upd H2 P (.tbl (ps ++ more)) = H3 at I4 hTab w0
    generalize hs4 : ({ s2 with heap := h3, toks := tk } : Shared) = s4 at I4
    have nP : ∀ b ∈ fp, b ≠ P := fun b hb z => by
      have q := (hf2 b hb).1
      rw [z, hP] at q
      cases q
    have hf4 : ∀ b ∈ fp, FpOk X pins H3 b := fun b hb => ⟨by rw [hTab.2 b (nP b hb)]; exact (hf2 b hb).1, (hf2 b hb).2⟩
    have ht4 : tn 0 s4.heap := T.keep _ _ _ ht2 fun b hb o e => by rw [← hs4]; exact keep3 b o (nP b hb) e
    have lim4 : s4.heap.NoLimit := I4.nolimit
    intro h' hn' hs'
    have hszN : h'.objs.size = s4.heap.objs.size + 1 := by rw [hs'.1, Heap.size_push]
    have keep' : ∀ b o, s4.heap.get? b = some o → h'.get? b = some o := fun b o e => hs'.extBut b o (Nat.ne_of_lt (Heap.lt_size e)) (Heap.get?_push_of_some _ e)
    generalize hgo : ({ cls := .type "generator", data := .fields #[.int s4.gens.size 0, .str "<genexpr>" (s4.toks + 1), .str (X.env.qual ++ "<genexpr>") (s4.toks + 1 + 1)] } : Obj) = go
    have hgen : ∀ h : Heap, h.get? h'.objs.size = some go → h.IsGen h'.objs.size s4.gens.size := fun h e => ⟨go, _, _, e, by rw [← hgo], by rw [← hgo], by rw [← hgo]⟩
    have hfreed : go.data ≠ .freed := by rw [← hgo]; intro z; cases z
    have hpush : (h'.push go).get? h'.objs.size = some go := Heap.get?_push_size _ (by rw [← hgo]; rfl)
    have keep5 : ∀ b o, s4.heap.get? b = some o → (h'.push go).get? b = some o := fun b o e => Heap.get?_push_of_some _ (keep' b o e)
    generalize hcenv : genEnv scope (cloFrom X.env.cells scope.names []) s4.heap.objs.size code builtinsNs X.env = cenv
    have eLoc : cenv.locals = s4.heap.objs.size := by rw [← hcenv]; rfl
    have eScope : cenv.scope = scope := by rw [← hcenv]; rfl
    have eCells : cenv.cells = cloFrom X.env.cells scope.names [] := by rw [← hcenv]; rfl
    have eFrame : cenv.frame = some cenv.locals := by rw [← hcenv]; rfl
    have eGlob : cenv.globals = X.env.globals := by rw [← hcenv]; rfl
    have eBlt : cenv.builtins = builtinsNs := by rw [← hcenv]; rfl
    have cm : ∀ {y : Str} {c : Addr}, cenv.cells.lookup y = some c → X.env.cells.lookup y = some c := fun {y c} e => clo_cm S.free (by rw [← eCells]; exact e)
    -- the generator's own context, whatever wakes it
    have wake : ∀ (Aw : Around), Room k (Aw.deeper cenv) → Aw.frames = some X.stack → ∀ (s6 : Shared), (∀ b o, (h'.push go).get? b = some o → s6.heap.get? b = some o) → s6.os = s4.os → AllBare s6.gens →
        Inv (gx X s4 H3 N cenv Aw fp [(h'.objs.size, go)]) [] σ' H3 s6 := by
      intro Aw hrw hfr s6 hk6 ho6 hb6
      have keep6 : ∀ b o, s4.heap.get? b = some o → s6.heap.get? b = some o := fun b o e => hk6 b o (keep5 b o e)
      have fpl : ∀ b ∈ fp, b < s4.heap.objs.size := fun b hb => by
        obtain ⟨o, e, _⟩ := T.obj _ _ ht4 b hb
        exact Heap.lt_size e
      refine ⟨⟨I4.ok.mod, by show cenv.scope.kind = _; rw [eScope]; exact S.kind, by show cenv.globals = _; rw [eGlob]; exact I4.ok.glob, eBlt, by show s4.heap.objs.size ≤ cenv.locals; rw [eLoc]; exact Nat.le_refl _,
        fun y z c h1 h2 => I4.ok.inj y z c (cm h1) (cm h2), fun y hy => ?_, fun y c hf _ => absurd (show false = true from hf) (by decide), fun _ => hrw.hd, ?_, .inr ⟨rfl, eFrame⟩, fun b hb => ⟨?_, fun y c e => (hf4 b hb).2.2.2.2.1 y c (cm e)⟩, I4.bs, Nat.le_trans I4.ok.bsz I4.sz,
        fun b o e hb => ?_, fun b hb hm => ?_, I4.stack, I4.stkFree⟩, ho6, hb6, Un.kept keep6, ?_, fun y c e => ?_, ?_, fun y c e => I4.freeC y c (cm e), fun q hq => ?_, I4.hok.kept keep6, hcap.1⟩
      · have hy' : scope.names.lookup y = some .cell ∨ scope.names.lookup y = some .free := by
          have z : cenv.scope.names.lookup y = some .cell ∨ cenv.scope.names.lookup y = some .free := hy
          rw [eScope] at z
          exact z
        rcases hy' with z | z
        · exact absurd rfl (S.cell _ (PySem.mem_of_lookup z))
        · obtain ⟨c0, e0⟩ := S.free _ (PySem.mem_of_lookup z) rfl
          exact ⟨c0, by show cenv.cells.lookup y = _; rw [eCells]; exact clo_has S.free (PySem.mem_of_lookup z) e0⟩
      · show (Aw.deeper cenv).frames = some (cenv :: X.stack)
        exact Around.frames_deeper hfr
      · show b ≠ cenv.locals
        rw [eLoc]; exact Nat.ne_of_lt (fpl b hb)
      · rcases (hf4 b hb).2.2.2.1 with z | z
        · exact I4.ok.noex b o e z
        · exact absurd (Nat.lt_of_lt_of_le (Heap.lt_size e) (Nat.le_trans I4.ok.bsz z)) (Nat.lt_irrefl _)
      · rcases List.mem_cons.mp (I4.stkSub b hm) with z | z
        · exact (hf4 b hb).2.1 z
        · exact (hf4 b hb).2.2.1 z
      · refine ⟨_, by show s6.heap.Ns cenv.locals _; rw [eLoc]; exact (hn'.push go).keeps hk6, fun i x v e1 e2 e3 => ?_⟩
        obtain ⟨f1, j, f2, f3, f4⟩ := hcap.2 i x v e1 e2
        obtain ⟨mo, hno, hlo⟩ := I4.loc
        have hvis : Vis X.env.scope x := by
          rcases f4 with z | z
          · exact .inr (.inl z)
          · exact .inr (.inr z)
        obtain ⟨u, ru, l⟩ := hlo j x v f2 f3 hvis
        refine ⟨u, ru, .inr ⟨.inr (by show cenv.scope.names.lookup x = _; rw [eScope]; exact f1), ?_⟩⟩
        rcases l with ⟨l1, _⟩ | ⟨_, c0, l2, l3⟩
        · rcases f4 with z | z
          · rw [z] at l1; cases l1
          · rw [z] at l1; cases l1
        · obtain ⟨oc, hoc, hd⟩ := l3
          exact ⟨c0, by show cenv.cells.lookup x = _; rw [eCells]; exact clo_has S.free (PySem.mem_of_lookup f1) l2, oc, keep6 _ _ hoc, hd⟩
      · obtain ⟨v, o, ho, hd⟩ := I4.cell y c (cm e)
        exact ⟨v, o, keep6 _ _ ho, hd⟩
      · show H3 cenv.locals = none
        rw [eLoc]; exact I4.hok.fresh (Nat.le_refl _)
      · have hq' : q = (h'.objs.size, go) := by
          have z : q ∈ [(h'.objs.size, go)] ++ [] := hq
          simpa using z
        subst hq'
        have ga : s4.heap.objs.size ≤ h'.objs.size := by omega
        refine ⟨hk6 _ _ hpush, I4.hok.fresh ga, by show h'.objs.size ≠ cenv.locals; rw [eLoc]; omega, fun hm => ?_, fun v z => ?_⟩
        · rcases List.mem_cons.mp (I4.stkSub _ hm) with z | z
          · exact absurd (Nat.lt_of_lt_of_le I4.lt ga) (by rw [← z]; exact Nat.lt_irrefl _)
          · exact I4.nofs ga z
        · rw [← hgo] at z; cases z
    refine Calls.spliced_nil ?_
    -- all(..) draws
    refine call_function_tree F.kind_any F.plain_any F.entry_any (F.args_any1 _) ?_
    unfold Builtin.«any»
    refine wpAny_bind (m := oneArg "any" _) (wpAny_pure ?_)
    refine wpAny_bind (wpAny_pyIter_gen (s := { s4 with heap := h'.push go, gens := _, toks := _ }) (hgen _ hpush) ?_)
    refine wpAny_pure ⟨plainId_quiet F.plain_any_loop _, ?_⟩
    have hrw : Room k ((X.A.in1.in1).deeper cenv) := ⟨hr.hd, by have := hr.dp; show X.A.depth + 1 + 3 * k + 5 < _; omega, by have := hr.un; show X.A.units + 1 + 1 + 3 + 16 * k + 200 < _; omega⟩
    have hInner : Inner X scope N k (gx X s4 H3 N cenv (X.A.in1.in1) fp [(h'.objs.size, go)]) := ⟨rfl, rfl, rfl, rfl, rfl, rfl, eScope, rfl, rfl, hrw⟩
    refine any_loud (P := X.prog) (w := X.w) (A := X.A) (a := h'.objs.size) (g := s4.gens.size) (Post := fun b s' => EP X pins σ Q (.bool b) s') hr.hd (by have := hr.dp; show X.A.depth < _; omega) (fun b s' z => z) (m + 1) { s4 with heap := h'.push go, gens := s4.gens.push (.fresh (.compStart (.GeneratorExp elt [⟨tg, iter, [], 0⟩] scope gpos) 0 (.ref it) .none cenv)), toks := s4.toks + 1 + 1 + 1 } (hgen _ hpush) (lim4.keeps keep5) ⟨.fresh (.compStart (.GeneratorExp elt [⟨tg, iter, [], 0⟩] scope gpos) 0 (.ref it) .none cenv), Array.getElem?_push_size .., rfl, ?_⟩
    have fpF : ∀ b ∈ fp, FpOk (gx X s4 H3 N cenv (X.A.in1.in1) fp [(h'.objs.size, go)]) [] H3 b := fun b hb => by
      obtain ⟨o, e, _⟩ := T.obj _ _ ht4 b hb
      have bl := Heap.lt_size e
      refine ⟨(hf4 b hb).1, by show b ≠ cenv.locals; rw [eLoc]; exact Nat.ne_of_lt bl, fun hm => ?_, .inl hb, fun y c z => (hf4 b hb).2.2.2.2.1 y c (cm z), fun q hq => ?_⟩
      · rcases List.mem_cons.mp (I4.stkSub b hm) with z | z
        · exact (hf4 b hb).2.1 z
        · exact (hf4 b hb).2.2.1 z
      · have hq' : q = (h'.objs.size, go) := by
          have z : q ∈ [(h'.objs.size, go)] ++ [] := hq
          simpa using z
        subst hq'
        show h'.objs.size ≠ b
        exact Nat.ne_of_gt (by rw [hszN]; exact Nat.lt_succ_of_lt bl)
    have I6 := wake (X.A.in1.in1) hrw I4.ok.frames ({ s4 with heap := h'.push go, gens := s4.gens.push (.fresh (.compStart (.GeneratorExp elt [⟨tg, iter, [], 0⟩] scope gpos) 0 (.ref it) .none cenv)), toks := s4.toks + 1 + 1 + 1 }.setGen s4.gens.size .running) (fun b o e => e) rfl (allBare_setGen (s := { s4 with heap := h'.push go, gens := s4.gens.push (.fresh (.compStart (.GeneratorExp elt [⟨tg, iter, [], 0⟩] scope gpos) 0 (.ref it) .none cenv)), toks := s4.toks + 1 + 1 + 1 }) (AllBare.push I4.bare rfl) rfl)
    refine seg_start (X := gx X s4 H3 N cenv (X.A.in1.in1) fp [(h'.objs.size, go)]) (Aw := X.A.in1.in1) (go := go) rfl rfl rfl (by show cenv.scope.isCoroutine = false; rw [eScope]; exact S.co) (List.mem_singleton.mpr rfl) hgen T (hgt _ hInner) (hel _ hInner) hW (fun b σ1 H1 sa sb J fin hk ho hb => ?_) m _ _ σ' H3 I6 (T.keep _ _ _ ht4 fun b hb o e => keep5 b o e) fpF w0
    refine ⟨.bl b, H1, I4.call' (ch := fp) (ho.trans J.os) ((show Un (frs X.stack) fp H3 H1 s4.heap sa.heap from J.base).trans (Un.kept hk)) (J.hok.kept hk) hb (fun b hb => ⟨(hf4 b hb).2.2.2.1, (hf4 b hb).2.1, (hf4 b hb).2.2.2.2.1, (hf4 b hb).2.2.2.2.2⟩), rfl, fin⟩
  cases hfc : codeAmong gpos ps.toList with
  | none =>
    refine wpAny_genexprCodeX hcode (cd.code hPs htr) (cd.tab hPs) hfc fun c' h' tk hx hge hlt hco' _ htab' _ => ?_
    obtain ⟨o1, vs, f1, tf, fl, tg', inF, tx, tt, op, _, _, _, _, _, _, _, _, _, htr', _⟩ := hco'
    exact cont _ h' tk _ hx (Nat.le_trans hge (Nat.le_of_lt hlt)) htab'.2 ⟨_, rfl⟩ htr'
  | some cv =>
    refine wpAny_genexprCode_hit hcode (cd.code hPs htr) hfc ?_
    exact cont cv s2.heap s2.toks ps (Heap.ExtBut.refl _ _) (Nat.le_refl _) hPs ⟨#[], by simp⟩ htr
end
end LGA
set_option Elab.async false
set_option linter.all false
set_option maxRecDepth 100000
set_option maxHeartbeats 1000000
namespace EL
open PySem PySem.Spec PyProof.Rows L2 GxR LG
open Classical in
noncomputable def anyD (tg : Tg) (fe : FE) (src : Src) : List D → Rho → Sto → Option (Bool × Sto)
  | [], _, st => if Intact src st then some (false, st) else none
  | d :: ds, ρ, st => if Intact src st then (tgD tg d ρ).bind fun ρ1 => (fe ρ1 st).bind fun y => (asB y.1).bind fun b => if b = true then some (true, y.2) else anyD tg fe src ds ρ1 y.2 else none
noncomputable def fAnyG (fi : FI) (tg : Tg) (fe : FE) (cap : List (Option Nat)) : FE := fun ρ st => (fi ρ st).bind fun p => (anyD tg fe p.2.1 p.1 (capD cap ρ) p.2.2).bind fun q => some (.bl q.1, q.2)
section
variable {G : G0} {W : WX} {X : Cx} {pos : Pos} {iter tgt : Expr} {fi : FI} {tg : Tg}
theorem de_any {cc P : Addr} {elt : Expr} {p gpos : Pos} {scope : Scope} {fe : FE} {k : Nat} {N : List Str} {cap : List (Option Nat)} (o : On G X) (hP : P ∈ G.Ps)
    (hr : Room (k + 1) X.A) (hg0 : Gl X "any") (hm : G.mg "any" = none) (TB : TabB G.base G.mg cc P) (hcode : X.env.code = .ref cc) (S : GSc X.env scope) (hi : PI X tgt iter (liftI G fi))
    (hcl : cap.length = N.length) (hcap : ∀ (i : Nat) (x : Str) (j : Nat), N[i]? = some x → cap[i]? = some (some j) → scope.names.lookup x = some .free ∧ X.N[j]? = some x ∧ (X.env.kindOf x = some .cell ∨ X.env.kindOf x = some .free))
    (hgt : ∀ X', Inner X scope N k X' → PG X' tgt (gOf G.K tg)) (hel : ∀ X', Inner X scope N k X' → PE X' elt (lift G fe))
    (hs : ∀ v, genFold iter X.env v = pure v := by intro _; rfl)
    (he : starEach [.GeneratorExp elt [⟨tgt, iter, [], 0⟩] scope gpos] X.env = (false, eval (.GeneratorExp elt [⟨tgt, iter, [], 0⟩] scope gpos) X.env) :: starEach [] X.env := by rfl) :
    PE X (.Call (.Name "any" p) [.GeneratorExp elt [⟨tgt, iter, [], 0⟩] scope gpos] [] pos) (lift G (fAnyG fi tg fe cap)) := by
  refine PE.imp (LGA.pe_anyG (P := P) hr hg0 (by rw [o.mg]; exact hm) o.calm (by rw [o.base, o.mg]; exact TB) hcode S hi hgt hel hs he) fun σ H Q ⟨ρ, μ, st, d, st', E, Sx, e, kk⟩ => ?_
  unfold fAnyG at e
  obtain ⟨⟨items, src, s1⟩, e1, e⟩ := Option.bind_eq_some_iff.mp e
  obtain ⟨⟨res, sf⟩, e2, e⟩ := Option.bind_eq_some_iff.mp e
  obtain ⟨rfl, rfl⟩ : D.bl res = d ∧ sf = st' := by
    have q := Option.some.inj e
    exact ⟨congrArg Prod.fst q, congrArg Prod.snd q⟩
  refine ⟨ρ, μ, st, items, src, s1, E, Sx, e1, fun μ1 H1 J X1 S1 F => ⟨S1.tab P hP, capS cap σ, ⟨by simp [capS, hcl], fun i x v h1 h2 => ?_⟩, fun H2 tb => ?_⟩⟩
  · unfold capS at h2
    rw [List.getElem?_map] at h2
    cases hc : cap[i]? with
    | none => rw [hc] at h2; cases h2
    | some oj =>
      rw [hc] at h2
      cases oj with
      | none => simp at h2
      | some j =>
        obtain ⟨q1, q2, q3⟩ := hcap i x j h1 hc
        refine ⟨q1, j, q2, ?_, q3⟩
        simp only [Option.map_some, Option.bind_some, Option.some.injEq] at h2
        cases hj : σ[j]? with
        | none => rw [hj] at h2; cases h2
        | some w => rw [hj] at h2; simp at h2; rw [h2]
  · have hT := S1.tab P hP
    have S2 := S1.tabbed hP hT tb
    have X2 : Ext G μ1 H1 μ1 H2 := Ext.tabbed S1 hT tb
    have E0 : EnvR G μ1 H2 (capD cap ρ) (capS cap σ) := ⟨by simp [capS, capD], fun i dd h => by
      unfold capD at h
      rw [List.getElem?_map] at h
      cases hc : cap[i]? with
      | none => rw [hc] at h; cases h
      | some oj =>
        rw [hc] at h
        cases oj with
        | none => simp at h
        | some j =>
          simp only [Option.map_some, Option.bind_some, Option.some.injEq] at h
          cases hj : ρ[j]? with
          | none => rw [hj] at h; cases h
          | some w =>
            rw [hj] at h
            simp at h
            subst h
            obtain ⟨v, v1, v2⟩ := E.get j dd hj
            refine ⟨v, ?_, v2.ext (X1.trans X2)⟩
            unfold capS
            rw [List.getElem?_map, hc]
            simp [v1]⟩
    refine ⟨fun i m σ3 H3 => m = items.length - i ∧ i ≤ items.length ∧ ∃ ρ3 μ3 st3, EnvR G μ3 H3 ρ3 σ3 ∧ StR G μ3 st3 H3 ∧ Ext G μ1 H1 μ3 H3 ∧ anyD tg fe src (items.drop i) ρ3 st3 = some (res, sf),
      ⟨items.length, by simp, Nat.zero_le _, capD cap ρ, μ1, s1, E0, S2, X2, by simpa using e2⟩, ?_⟩
    rintro i m σ3 H3 ⟨rfl, hi2, ρ3, μ3, st3, E3, S3, X3, e3⟩
    by_cases hlt : i < items.length
    · have hd : items.drop i = items[i] :: items.drop (i + 1) := List.drop_eq_getElem_cons hlt
      rw [hd] at e3
      unfold anyD at e3
      split at e3
      · rename_i hin
        obtain ⟨ρ4, e4, e3⟩ := Option.bind_eq_some_iff.mp e3
        obtain ⟨⟨y, s5⟩, e5, e3⟩ := Option.bind_eq_some_iff.mp e3
        obtain ⟨t, e6, e3⟩ := Option.bind_eq_some_iff.mp e3
        obtain ⟨go, yl⟩ := (F μ3 st3 H3 i X3.to0 S3 hin).1 hlt
        refine .inr ⟨go, fun x H4 hy => ?_⟩
        obtain ⟨dd, ed, Rd, S4, X4⟩ := yl x H4 hy
        have ed' : dd = items[i] := by
          rw [List.getElem?_eq_getElem hlt] at ed
          exact (Option.some.inj ed).symm
        subst ed'
        refine gOf_ok (vs' := []) Rd (E3.ext X4) e4 fun σ6 E6 _ => ?_
        refine ⟨ρ4, μ3, st3, y, s5, E6, S4, e5, fun μ7 H7 v X7 S7 R7 => ⟨t, asB_rep e6 R7, ?_⟩⟩
        cases t with
        | false =>
          rw [if_neg Bool.false_ne_true] at e3
          rw [if_pos rfl]
          exact ⟨items.length - (i + 1), by omega, rfl, hlt, ρ4, μ7, s5, E6.ext X7, S7, X3.trans (X4.trans X7), e3⟩
        | true =>
          rw [if_pos rfl] at e3
          rw [if_neg (by decide)]
          cases e3
          exact kk μ7 H7 _ (X1.trans (X3.trans (X4.trans X7))) S7 (.bl true)
      · cases e3
    · have hi3 : i = items.length := by omega
      rw [hi3, List.drop_length] at e3
      unfold anyD at e3
      split at e3
      · rename_i hin
        have stop := (F μ3 _ H3 i X3.to0 S3 hin).2 hi3
        cases e3
        exact .inl ⟨stop, kk μ3 H3 _ (X1.trans X3) S3 (.bl false)⟩
      · cases e3
variable {N : List Str} {sc : Scope}
theorem x_any (o : Here G X N sc) {cc P : Addr} {elt : Expr} {p gpos : Pos} {scope : Scope} {fe : FE} {k : Nat} (N' : List Str) (cap : List (Option Nat)) (hP : P ∈ G.Ps)
    (hr : Room (k + 1) X.A) (hm : G.mg "any" = none) (TB : TabB G.base G.mg cc P) (hcode : X.env.code = .ref cc) (hi : PI X tgt iter (liftI G fi))
    (hgt : ∀ X', Here G X' N' scope → Room k X'.A → PG X' tgt (gOf G.K tg)) (hel : ∀ X', Here G X' N' scope → Room k X'.A → PE X' elt (lift G fe))
    (S : GSc X.env scope) (hnd : N'.Nodup := by decide) (hcl : cap.length = N'.length := by rfl)
    (hcap : ∀ (i : Nat) (x : Str) (j : Nat), N'[i]? = some x → cap[i]? = some (some j) → scope.names.lookup x = some .free ∧ N[j]? = some x ∧ (sc.names.lookup x = some .cell ∨ sc.names.lookup x = some .free))
    (hg : sc.names.lookup ("any" : Str) = some NameKind.globalImplicit := by rfl)
    (hs : ∀ v, genFold iter X.env v = pure v := by intro _; rfl)
    (he : starEach [.GeneratorExp elt [⟨tgt, iter, [], 0⟩] scope gpos] X.env = (false, eval (.GeneratorExp elt [⟨tgt, iter, [], 0⟩] scope gpos) X.env) :: starEach [] X.env := by rfl) :
    PE X (.Call (.Name "any" p) [.GeneratorExp elt [⟨tgt, iter, [], 0⟩] scope gpos] [] pos) (lift G (fAnyG fi tg fe cap)) :=
  de_any o.on hP hr (o.gl hg) hm TB hcode S hi hcl (fun i x j h1 h2 => by
    obtain ⟨q1, q2, q3⟩ := hcap i x j h1 h2
    refine ⟨q1, o.ix q2, ?_⟩
    show X.env.scope.names.lookup x = _ ∨ X.env.scope.names.lookup x = _
    rw [o.sc]; exact q3) (fun X' h => hgt X' ⟨o.on.inner h, h.N, h.scope, hnd⟩ h.room) (fun X' h => hel X' ⟨o.on.inner h, h.N, h.scope, hnd⟩ h.room) hs he
end
end EL
set_option Elab.async false
set_option linter.all false
set_option maxRecDepth 100000
set_option maxHeartbeats 1000000
namespace EL
open PySem PySem.Spec PyProof.Rows L2 GxR LG
/-- a method m of the class c -/
structure MeAt (G : G0) (c m qual : Str) (st : Stmt) (cdv : Value) : Prop where
  ex : ∃ (C f : Addr) (oc : Value) (od : Option Addr) (kV doc pm : Value) (an : Option Addr) (ct : Value) (osl : Array (Option Value)),
    G.K.lookup f = some ⟨oc, od, .func (PySem.W.fnOf m qual (defArgs st) (defBody st) (defScope st) .none kV doc pm an cdv ct), osl⟩ ∧ PySem.W.codeIn G.K cdv qual = true ∧ G.mg c = some (.ref C) ∧ Cls G.K C ∧ Meth G.K C m f
/-- the __init__ of the class c -/
structure InAt (G : G0) (c qual : Str) (st : Stmt) (cdv : Value) : Prop where
  ex : ∃ (C f : Addr) (oc : Value) (od : Option Addr) (kV doc pm : Value) (an : Option Addr) (ct : Value) (osl : Array (Option Value)),
    G.K.lookup f = some ⟨oc, od, .func (PySem.W.fnOf "__init__" qual (defArgs st) (defBody st) (defScope st) .none kV doc pm an cdv ct), osl⟩ ∧ PySem.W.codeIn G.K cdv qual = true ∧ G.mg c = some (.ref C) ∧ Mk G.K C f
section
variable {G : G0} {W : WX}
theorem meth_at {k : Nat} {c m qual : Str} {st : Stmt} {cdv : Value} {N ps : List Str} {sb : FS} (F : MeAt G c m qual st cdv) (S : FnScope N ps (defScope st))
    (hb : ∀ (kV doc pm : Value) (an : Option Addr) (ct : Value) (us : List Value), us.length = ps.length → bindArgs (PySem.W.fnOf m qual (defArgs st) (defBody st) (defScope st) .none kV doc pm an cdv ct) ⟨us, []⟩ = pure (ps.zip us))
    (hbody : ∀ (f : Addr) (A : Around) (outer : List Env) (s : Shared) (H : Hp), Here G (bodyCx G N qual (defScope st) f cdv A outer s H) N (defScope st) → Room k (bodyCx G N qual (defScope st) f cdv A outer s H).A →
      (∀ x : Str, (defScope st).names.lookup x = some .cell → ∃ c, (bodyCx G N qual (defScope st) f cdv A outer s H).env.cells.lookup x = some c) → PSs (bodyCx G N qual (defScope st) f cdv A outer s H) (defBody st) (liftS G W sb)) : DefM G (k + 1) c m ps.length (runD N.length sb) := by
  obtain ⟨C, f, oc, od, kV, doc, pm, an, ct, osl, lk, hcd, hm, cl, me⟩ := F.ex
  exact ⟨C, f, _, ps, rfl, fn_data lk hcd S fun A outer s H hr => hbody f A outer s H ⟨On.body, rfl, rfl, S.nd⟩ hr fun x h => cell_has h, hm, cl, me, .all (hb kV doc pm an ct)⟩
theorem init_at {k : Nat} {c qual : Str} {st : Stmt} {cdv : Value} {N ps : List Str} {sb : FS} (F : InAt G c qual st cdv) (S : FnScope N ps (defScope st))
    (hb : ∀ (kV doc pm : Value) (an : Option Addr) (ct : Value) (us : List Value), us.length = ps.length → bindArgs (PySem.W.fnOf "__init__" qual (defArgs st) (defBody st) (defScope st) .none kV doc pm an cdv ct) ⟨us, []⟩ = pure (ps.zip us))
    (hbody : ∀ (f : Addr) (A : Around) (outer : List Env) (s : Shared) (H : Hp), Here G (bodyCx G N qual (defScope st) f cdv A outer s H) N (defScope st) → Room k (bodyCx G N qual (defScope st) f cdv A outer s H).A →
      (∀ x : Str, (defScope st).names.lookup x = some .cell → ∃ c, (bodyCx G N qual (defScope st) f cdv A outer s H).env.cells.lookup x = some c) → PSs (bodyCx G N qual (defScope st) f cdv A outer s H) (defBody st) (liftS G W sb)) : DefI G (k + 1) c ps.length (runD N.length sb) := by
  obtain ⟨C, f, oc, od, kV, doc, pm, an, ct, osl, lk, hcd, hm, mk⟩ := F.ex
  exact ⟨C, f, _, ps, rfl, fn_data lk hcd S fun A outer s H hr => hbody f A outer s H ⟨On.body, rfl, rfl, S.nd⟩ hr fun x h => cell_has h, hm, mk, .all (hb kV doc pm an ct)⟩
theorem seal_fn {P : Program} {k : Nat} {f : Addr} {fd : FuncData} {ps : List Str} {n : Nat} {fn : HA} (F : FnOk G.P G.w G.K G.mg G.base CX0 k f fd ps (spD G n fn)) : FnOk G.P G.w G.K G.mg G.base CX0 k f fd ps (spD G n (sealFn fn)) :=
  F.imp fun vs H Q E ⟨μ, st, ds, d2, st2, hn, S, R, e, k⟩ => by
    unfold sealFn at e
    obtain ⟨⟨d, st'⟩, e1, e⟩ := Option.bind_eq_some_iff.mp e
    unfold letGo at e
    split at e
    · rename_i hc
      obtain ⟨z, e2, e3⟩ := Option.map_eq_some_iff.mp e
      cases e3
      exact ⟨μ, st, ds, d, st', hn, S, R, e1, fun μ' H' v x S' R' => k μ H' v (letGo_ext x) (letGo_st x S S' hc.1) (seal_rep x S S' e2 R')⟩
    · cases e
theorem DefM.seal {k : Nat} {c m : Str} {n : Nat} {fn : HA} (F : DefM G k c m n fn) : DefM G k c m n (sealFn fn) := by
  obtain ⟨C, f, fd, ps, h1, h2, h3⟩ := F.ex
  exact ⟨C, f, fd, ps, h1, seal_fn (P := G.P) h2, h3⟩
theorem DefI.seal {k : Nat} {c : Str} {n : Nat} {fn : HA} (F : DefI G k c n fn) : DefI G k c n (sealFn fn) := by
  obtain ⟨C, f, fd, ps, h1, h2, h3⟩ := F.ex
  exact ⟨C, f, fd, ps, h1, seal_fn (P := G.P) h2, h3⟩
theorem meAt_of {c m qual : Str} {st : Stmt} {h : Heap} (X : G.K.In h) (Gs : h.Ns mainGlobals G.mg) {fd : FuncData} (F : FunD G.K m qual (defArgs st) (defBody st) (defScope st) [] [] (He.fAd G.K (c, some m)) fd) (hg : (He.Fa.glo c).ok G.K = true) (hc : (He.Fa.cls c).ok G.K = true) (hm : (He.Fa.meth c m).ok G.K = true) : ∃ cdv, MeAt G c m qual st cdv ∧ fd.code = cdv := by
  obtain ⟨oc, od, dV, kV, doc, pm, an, cdv, ct, osl, rfl, lk, hcd, hd, hk⟩ := F.ex
  rcases hd with ⟨_, rfl⟩ | ⟨z, _⟩
  · exact ⟨cdv, ⟨He.ga G.K c, _, oc, od, kV, doc, pm, an, ct, osl, lk, hcd, He.glo_ok X Gs hg, He.cls_ok hc, He.meth_ok hm⟩, rfl⟩
  · exact absurd rfl z
theorem inAt_of {c qual : Str} {st : Stmt} {h : Heap} (X : G.K.In h) (Gs : h.Ns mainGlobals G.mg) {fd : FuncData} (F : FunD G.K "__init__" qual (defArgs st) (defBody st) (defScope st) [] [] (He.fAd G.K (c, some "__init__")) fd) (hg : (He.Fa.glo c).ok G.K = true) (hm : (He.Fa.mkr c).ok G.K = true) : ∃ cdv, InAt G c qual st cdv ∧ fd.code = cdv := by
  obtain ⟨oc, od, dV, kV, doc, pm, an, cdv, ct, osl, rfl, lk, hcd, hd, hk⟩ := F.ex
  rcases hd with ⟨_, rfl⟩ | ⟨z, _⟩
  · exact ⟨cdv, ⟨He.ga G.K c, _, oc, od, kV, doc, pm, an, ct, osl, lk, hcd, He.glo_ok X Gs hg, He.mkr_ok hm⟩, rfl⟩
  · exact absurd rfl z
theorem clsF_of {c : Str} {fs : List Str} {h : Heap} (X : G.K.In h) (Gs : h.Ns mainGlobals G.mg) (hg : (He.Fa.glo c).ok G.K = true) (hc : (He.Fa.cls c).ok G.K = true) (hf : ∀ f ∈ fs, (He.Fa.noat c f).ok G.K = true) : ClsF G c fs := ⟨He.ga G.K c, He.glo_ok X Gs hg, He.cls_ok hc, fun f h => He.noat_ok (hf f h)⟩
end
section
variable {G : G0} {X : Cx} {N : List Str} {sc : Scope}
theorem x_fld (o : Here G X N sc) {c f : Str} {fs : List Str} {e : Expr} {fa : FE} {pos : Pos} (K : ClsF G c fs) (he : PE X e (lift G fa)) (hf : f ∈ fs := by simp) (hb : attributeBase e f X.env (eval e X.env) = eval e X.env := by rfl) : PE X (.Attribute e f pos) (lift G (fFld c f fa)) := de_fld o.on K hf he hb
theorem x_sfld (o : Here G X N sc) {c f : Str} {fs : List Str} {a e : Expr} {fv fo : FE} {p1 pos : Pos} {W : WX} (K : ClsF G c fs) (hv : PE X e (lift G fv)) (ho : PE X a (lift G fo)) (hf : f ∈ fs := by simp) (hs : swapsWith e (some (.Attribute a f p1)) pos.line X.env = pure false := by rfl) :
    PS X (.Assign [.Attribute a f p1] e pos) (liftS G W (sFldT c f fv fo)) := ds_fld o.on K hf hv ho hs
theorem x_make (o : Here G X N sc) {k n : Nat} {c : Str} {fn : HA} {e : Expr} {es : List Expr} {fr : FA} {p0 pos : Pos} (F : DefI G k c n fn) (hr : Room (k + 1) X.A) (ha : PA X (e :: es) (liftA G fr)) (hg : sc.names.lookup c = some .globalImplicit := by rfl) (hdb : (c == ("__debug__" : Str)) = false := by decide)
    (he : starEach (e :: es) X.env = (false, eval e X.env) :: starEach es X.env := by rfl) (hpl : (backTo pos (starEach es X.env)).any (·.1) = false := by rfl) : PE X (.Call (.Name c p0) (e :: es) [] pos) (lift G (fMake c n fn fr)) := de_make o.on F hr (o.gl hg) ha hdb he hpl
def methOf (s : Stmt) (m : Str) : Stmt := match s with
  | .ClassDef _ _ _ body _ _ _ _ _ _ _ => (body.find? fun s => match s with | .FunctionDef n .. => n == m | _ => false).getD (.Pass ⟨0, 0, 0, 0⟩)
  | s => s
end
end EL
set_option Elab.async false
set_option linter.all false
set_option maxRecDepth 100000
set_option maxHeartbeats 0
namespace K10
open PySem PySem.Spec PyProof.Rows L2 GxR LG EL
def top (i : Nat) : Stmt := PySem.Challenge.pw_wavehall_k10_whole_no_row_of_moves_is_sh.main.body.getD i (.Pass ⟨0, 0, 0, 0⟩)
abbrev st_is_number : Stmt := top 1
abbrev st_is_whole : Stmt := top 2
abbrev st_check_size : Stmt := top 21
abbrev st_check_bands : Stmt := top 36
abbrev st_is_tuple_of : Stmt := top 3
abbrev st_is_tuning : Stmt := top 18
abbrev st_spread : Stmt := top 22
abbrev st_ear : Stmt := top 24
abbrev st_ears_of : Stmt := top 25
abbrev st_gap : Stmt := top 23
abbrev st_hears : Stmt := top 26
abbrev st_first_unheard : Stmt := top 27
abbrev st_all_heard : Stmt := top 28
abbrev st_check_tuning : Stmt := top 37
abbrev st_silent_seats : Stmt := top 38
abbrev st_names_of : Stmt := top 19
abbrev st_Judge____init__ : Stmt := methOf (top 35) "__init__"
abbrev st_retuned : Stmt := top 29
abbrev st_Judge__allows : Stmt := methOf (top 35) "allows"
abbrev st_moves_from : Stmt := top 39
abbrev st_ways : Stmt := top 40
abbrev st_moves : Stmt := top 41
abbrev st_moves_table : Stmt := top 42
abbrev st_is_rising : Stmt := top 4
abbrev st_is_numbered : Stmt := top 43
abbrev st_are_numbered : Stmt := top 44
abbrev st_is_moves_table : Stmt := top 45
abbrev st__law_bag : Stmt := top 47
abbrev st__law_take : Stmt := top 48
abbrev st__law_stations : Stmt := top 50
abbrev st__law_air : Stmt := top 51
abbrev st__law_tuning : Stmt := top 52
abbrev st__law_part : Stmt := top 53
abbrev st__law_rows : Stmt := top 54
abbrev st__law_sum : Stmt := top 55
abbrev st__law_stands : Stmt := top 56
abbrev st__law_heard : Stmt := top 57
abbrev st__law_unheard : Stmt := top 58
abbrev st__law_good_tunings : Stmt := top 61
abbrev st_seat : Stmt := top 20
abbrev st_is_heard : Stmt := top 30
abbrev st_unheard : Stmt := top 31
abbrev st__law_names : Stmt := top 59
abbrev st__law_row_so : Stmt := top 62
abbrev st__law_of : Stmt := top 49
abbrev st__law_steps : Stmt := top 60
abbrev st__law_walk_so : Stmt := top 63
abbrev st_law : Stmt := top 64
def dd_is_number : He.DefD := ⟨("is_number", none), "is_number", "is_number", defArgs st_is_number, defBody st_is_number, defScope st_is_number, [], []⟩
def dd_is_whole : He.DefD := ⟨("is_whole", none), "is_whole", "is_whole", defArgs st_is_whole, defBody st_is_whole, defScope st_is_whole, [], []⟩
def dd_check_size : He.DefD := ⟨("check_size", none), "check_size", "check_size", defArgs st_check_size, defBody st_check_size, defScope st_check_size, [], []⟩
def dd_check_bands : He.DefD := ⟨("check_bands", none), "check_bands", "check_bands", defArgs st_check_bands, defBody st_check_bands, defScope st_check_bands, [], []⟩
def dd_is_tuple_of : He.DefD := ⟨("is_tuple_of", none), "is_tuple_of", "is_tuple_of", defArgs st_is_tuple_of, defBody st_is_tuple_of, defScope st_is_tuple_of, [], []⟩
def dd_is_tuning : He.DefD := ⟨("is_tuning", none), "is_tuning", "is_tuning", defArgs st_is_tuning, defBody st_is_tuning, defScope st_is_tuning, [], []⟩
def dd_spread : He.DefD := ⟨("spread", none), "spread", "spread", defArgs st_spread, defBody st_spread, defScope st_spread, [], []⟩
def dd_ear : He.DefD := ⟨("ear", none), "ear", "ear", defArgs st_ear, defBody st_ear, defScope st_ear, [], []⟩
def dd_ears_of : He.DefD := ⟨("ears_of", none), "ears_of", "ears_of", defArgs st_ears_of, defBody st_ears_of, defScope st_ears_of, [], []⟩
def dd_gap : He.DefD := ⟨("gap", none), "gap", "gap", defArgs st_gap, defBody st_gap, defScope st_gap, [], []⟩
def dd_hears : He.DefD := ⟨("hears", none), "hears", "hears", defArgs st_hears, defBody st_hears, defScope st_hears, [], []⟩
def dd_first_unheard : He.DefD := ⟨("first_unheard", none), "first_unheard", "first_unheard", defArgs st_first_unheard, defBody st_first_unheard, defScope st_first_unheard, [], []⟩
def dd_all_heard : He.DefD := ⟨("all_heard", none), "all_heard", "all_heard", defArgs st_all_heard, defBody st_all_heard, defScope st_all_heard, [], []⟩
def dd_check_tuning : He.DefD := ⟨("check_tuning", none), "check_tuning", "check_tuning", defArgs st_check_tuning, defBody st_check_tuning, defScope st_check_tuning, [], []⟩
def dd_silent_seats : He.DefD := ⟨("silent_seats", none), "silent_seats", "silent_seats", defArgs st_silent_seats, defBody st_silent_seats, defScope st_silent_seats, [], []⟩
def dd_names_of : He.DefD := ⟨("names_of", none), "names_of", "names_of", defArgs st_names_of, defBody st_names_of, defScope st_names_of, [], []⟩
def dd_Judge____init__ : He.DefD := ⟨("Judge", some "__init__"), "__init__", "Judge.__init__", defArgs st_Judge____init__, defBody st_Judge____init__, defScope st_Judge____init__, [], []⟩
def dd_retuned : He.DefD := ⟨("retuned", none), "retuned", "retuned", defArgs st_retuned, defBody st_retuned, defScope st_retuned, [], []⟩
def dd_Judge__allows : He.DefD := ⟨("Judge", some "allows"), "allows", "Judge.allows", defArgs st_Judge__allows, defBody st_Judge__allows, defScope st_Judge__allows, [], []⟩
def dd_moves_from : He.DefD := ⟨("moves_from", none), "moves_from", "moves_from", defArgs st_moves_from, defBody st_moves_from, defScope st_moves_from, [], []⟩
def dd_ways : He.DefD := ⟨("ways", none), "ways", "ways", defArgs st_ways, defBody st_ways, defScope st_ways, [], []⟩
def dd_moves : He.DefD := ⟨("moves", none), "moves", "moves", defArgs st_moves, defBody st_moves, defScope st_moves, [], []⟩
def dd_moves_table : He.DefD := ⟨("moves_table", none), "moves_table", "moves_table", defArgs st_moves_table, defBody st_moves_table, defScope st_moves_table, [], []⟩
def dd_is_rising : He.DefD := ⟨("is_rising", none), "is_rising", "is_rising", defArgs st_is_rising, defBody st_is_rising, defScope st_is_rising, [], []⟩
def dd_is_numbered : He.DefD := ⟨("is_numbered", none), "is_numbered", "is_numbered", defArgs st_is_numbered, defBody st_is_numbered, defScope st_is_numbered, [], []⟩
def dd_are_numbered : He.DefD := ⟨("are_numbered", none), "are_numbered", "are_numbered", defArgs st_are_numbered, defBody st_are_numbered, defScope st_are_numbered, [], []⟩
def dd_is_moves_table : He.DefD := ⟨("is_moves_table", none), "is_moves_table", "is_moves_table", defArgs st_is_moves_table, defBody st_is_moves_table, defScope st_is_moves_table, [], []⟩
def dd__law_bag : He.DefD := ⟨("_law_bag", none), "_law_bag", "_law_bag", defArgs st__law_bag, defBody st__law_bag, defScope st__law_bag, [], []⟩
def dd__law_take : He.DefD := ⟨("_law_take", none), "_law_take", "_law_take", defArgs st__law_take, defBody st__law_take, defScope st__law_take, [], []⟩
def dd__law_stations : He.DefD := ⟨("_law_stations", none), "_law_stations", "_law_stations", defArgs st__law_stations, defBody st__law_stations, defScope st__law_stations, [], []⟩
def dd__law_air : He.DefD := ⟨("_law_air", none), "_law_air", "_law_air", defArgs st__law_air, defBody st__law_air, defScope st__law_air, [], []⟩
def dd__law_tuning : He.DefD := ⟨("_law_tuning", none), "_law_tuning", "_law_tuning", defArgs st__law_tuning, defBody st__law_tuning, defScope st__law_tuning, [], []⟩
def dd__law_part : He.DefD := ⟨("_law_part", none), "_law_part", "_law_part", defArgs st__law_part, defBody st__law_part, defScope st__law_part, [], []⟩
def dd__law_rows : He.DefD := ⟨("_law_rows", none), "_law_rows", "_law_rows", defArgs st__law_rows, defBody st__law_rows, defScope st__law_rows, [], []⟩
def dd__law_sum : He.DefD := ⟨("_law_sum", none), "_law_sum", "_law_sum", defArgs st__law_sum, defBody st__law_sum, defScope st__law_sum, [], []⟩
def dd__law_stands : He.DefD := ⟨("_law_stands", none), "_law_stands", "_law_stands", defArgs st__law_stands, defBody st__law_stands, defScope st__law_stands, [], []⟩
def dd__law_heard : He.DefD := ⟨("_law_heard", none), "_law_heard", "_law_heard", defArgs st__law_heard, defBody st__law_heard, defScope st__law_heard, [], []⟩
def dd__law_unheard : He.DefD := ⟨("_law_unheard", none), "_law_unheard", "_law_unheard", defArgs st__law_unheard, defBody st__law_unheard, defScope st__law_unheard, [], []⟩
def dd__law_good_tunings : He.DefD := ⟨("_law_good_tunings", none), "_law_good_tunings", "_law_good_tunings", defArgs st__law_good_tunings, defBody st__law_good_tunings, defScope st__law_good_tunings, [], []⟩
def dd_seat : He.DefD := ⟨("seat", none), "seat", "seat", defArgs st_seat, defBody st_seat, defScope st_seat, [], []⟩
def dd_is_heard : He.DefD := ⟨("is_heard", none), "is_heard", "is_heard", defArgs st_is_heard, defBody st_is_heard, defScope st_is_heard, [], []⟩
def dd_unheard : He.DefD := ⟨("unheard", none), "unheard", "unheard", defArgs st_unheard, defBody st_unheard, defScope st_unheard, [], []⟩
def dd__law_names : He.DefD := ⟨("_law_names", none), "_law_names", "_law_names", defArgs st__law_names, defBody st__law_names, defScope st__law_names, [], []⟩
def dd__law_row_so : He.DefD := ⟨("_law_row_so", none), "_law_row_so", "_law_row_so", defArgs st__law_row_so, defBody st__law_row_so, defScope st__law_row_so, [], []⟩
def dd__law_of : He.DefD := ⟨("_law_of", none), "_law_of", "_law_of", defArgs st__law_of, defBody st__law_of, defScope st__law_of, [], []⟩
def dd__law_steps : He.DefD := ⟨("_law_steps", none), "_law_steps", "_law_steps", defArgs st__law_steps, defBody st__law_steps, defScope st__law_steps, [], []⟩
def dd__law_walk_so : He.DefD := ⟨("_law_walk_so", none), "_law_walk_so", "_law_walk_so", defArgs st__law_walk_so, defBody st__law_walk_so, defScope st__law_walk_so, [], []⟩
def dd_law : He.DefD := ⟨("law", none), "law", "law", defArgs st_law, defBody st_law, defScope st_law, [], []⟩
def fnL : List He.DefD := [dd_is_number, dd_is_whole, dd_check_size, dd_check_bands, dd_is_tuple_of, dd_is_tuning, dd_spread, dd_ear, dd_ears_of, dd_gap, dd_hears, dd_first_unheard, dd_all_heard, dd_check_tuning, dd_silent_seats, dd_names_of, dd_Judge____init__, dd_retuned, dd_Judge__allows, dd_moves_from, dd_ways, dd_moves, dd_moves_table, dd_is_rising, dd_is_numbered, dd_are_numbered, dd_is_moves_table, dd__law_bag, dd__law_take, dd__law_stations, dd__law_air, dd__law_tuning, dd__law_part, dd__law_rows, dd__law_sum, dd__law_stands, dd__law_heard, dd__law_unheard, dd__law_good_tunings, dd_seat, dd_is_heard, dd_unheard, dd__law_names, dd__law_row_so, dd__law_of, dd__law_steps, dd__law_walk_so, dd_law]
def faL : List He.Fa := [.glo "is_number", .glo "is_whole", .glo "check_size", .glo "check_bands", .glo "is_tuple_of", .glo "is_tuning", .glo "spread", .glo "ear", .glo "ears_of", .glo "gap", .glo "hears", .glo "first_unheard", .glo "all_heard", .glo "check_tuning", .glo "silent_seats", .glo "names_of", .mkr "Judge", .glo "retuned", .meth "Judge" "allows", .glo "moves_from", .glo "ways", .glo "moves", .glo "moves_table", .glo "is_rising", .glo "is_numbered", .glo "are_numbered", .glo "is_moves_table", .glo "_law_bag", .glo "_law_take", .glo "_law_stations", .glo "_law_air", .glo "_law_tuning", .glo "_law_part", .glo "_law_rows", .glo "_law_sum", .glo "_law_stands", .glo "_law_heard", .glo "_law_unheard", .glo "_law_good_tunings", .glo "seat", .glo "is_heard", .glo "unheard", .glo "_law_names", .glo "_law_row_so", .glo "_law_of", .glo "_law_steps", .glo "_law_walk_so", .glo "law", .free "abs", .free "all", .free "any", .free "bool", .free "dict", .free "enumerate", .free "int", .free "isinstance", .free "len", .free "max", .free "min", .free "range", .free "sorted", .free "sum", .free "tuple", .free "zip", .int "APART" 2, .int "LAST_BAND" 9, .int "MOST_BANDS" 5, .int "MOST_MOVED" 4, .int "SILENCE" 0, .glo "Judge", .cls "Judge", .noat "Judge" "ears", .noat "Judge" "verdicts"]
def tgL : List He.Defn := [("is_tuning", none), ("check_tuning", none), ("is_rising", none), ("are_numbered", none)]
def tfL : List He.Defn := [("is_tuning", none), ("check_tuning", none), ("is_rising", none), ("are_numbered", none)]
def inL : List IniD := []
def exs (K : PySem.W.Frag) : List Bool := []
def exL (K : PySem.W.Frag) : Bool := (exs K).all id
abbrev RR : PySem.W.OpenRow := PySem.W.OpenLaw.row PySem.Challenge.rw_wavehall_k10_whole_no_row_of_moves_is_sh
abbrev hkL : PySem.W.Hook := hookY 4 faL fnL tfL inL exL
def obL (s : PySem.W.SharedT) : AlY := obsY 4 faL fnL tfL inL exL (HandSHeadRun.getT s)
theorem ob_eq (s : PySem.W.SharedT) : obL s = hkL.obs s.abs := obsY_eq (HandSHeadRun.getT_eq s)
def looseL : List PySem.Str := (["is_number", "is_whole", "is_tuple_of", "is_rising", "copied", "WaveError", "ToldError", "NoBands", "NoTuning", "AskedError", "NoStation", "TooMany"] : List PySem.Str) ++ (["LAST_BAND", "SILENCE", "APART", "is_tuning", "names_of", "seat", "check_size", "spread", "gap", "ear", "ears_of", "hears"] : List PySem.Str) ++ (["first_unheard", "all_heard", "retuned", "is_heard", "unheard", "MOST_MOVED", "MOST_BANDS", "Judge", "check_bands", "check_tuning", "silent_seats", "moves_from"] : List PySem.Str) ++ (["ways", "moves", "moves_table", "is_numbered", "are_numbered", "is_moves_table", "_law_bag", "_law_take", "_law_of", "_law_stations", "_law_air", "_law_tuning"] : List PySem.Str) ++ (["_law_part", "_law_rows", "_law_sum", "_law_stands", "_law_heard", "_law_unheard", "_law_names", "_law_steps", "_law_good_tunings", "_law_row_so", "_law_walk_so"] : List PySem.Str)
theorem runL (w : World) : HandSHeadRun.RunEq RR (PySem.W.view RR.prog [64]) hkL obL 20000 looseL w := by
  intro os
  kernel_rfl
end K10
set_option Elab.async false
set_option linter.all false
set_option maxRecDepth 100000
set_option maxHeartbeats 1000000
namespace EL
open PySem PySem.Spec PyProof.Rows L2 GxR LG
open PySem.W (EachIs AllAlike Sortable dataLe sorted_data)
def SortOk (ds : List D) : Prop := okBs 59 ds = true ∧ AllAlike (ds.map pd) ∧ Sortable (ds.map pd) ∧ ds.length ≤ sizeLine
open Classical in
noncomputable def sortedZ : HA
  | [d], st => (listOf d st).bind fun ds => if SortOk ds then some (.lst (ds.mergeSort (dataLe false pd)), st) else none
  | _, _ => none
section
variable {G : G0} {X : Cx} {μ : Mu} {H : Hp}
theorem each_reps : ∀ {ds : List D} {ws : List V} {us : List Value}, Reps G μ H ds ws → Vals ws us → EachIs (fun v b => ∃ x, RelV x v ∧ Rep G μ H b x) us ds
  | [], _, _, .nil, .nil => .nil
  | _ :: _, _, _, .cons r t, .cons a b => .cons ⟨_, a, r⟩ (each_reps t b)
theorem reps_each : ∀ {ds : List D} {us : List Value}, EachIs (fun v b => ∃ x, RelV x v ∧ Rep G μ H b x) us ds → ∃ ws, Vals ws us ∧ Reps G μ H ds ws
  | [], _, .nil => ⟨[], .nil, .nil⟩
  | _ :: _, _, .cons ⟨x, r1, r2⟩ t => by
    obtain ⟨ws, h1, h2⟩ := reps_each t
    exact ⟨x :: ws, .cons r1 h1, .cons r2 h2⟩
theorem each_reads {pins : List (Addr × Obj)} {σ : L2.St} {s : Shared} {n : Nat} (o : On G X) (I : Inv X pins σ H s) : ∀ {ds : List D} {ws : List V} {us : List Value}, okBs n ds = true → Reps G μ H ds ws → Vals ws us → EachIs (fun v b => ∃ as, Reads s.heap v (pd b) as) us ds
  | [], _, _, _, .nil, .nil => .nil
  | d :: ds, _, _, h, .cons r t, .cons a b => by
    unfold okBs at h
    obtain ⟨h1, h2⟩ := Bool.and_eq_true_iff.mp h
    exact .cons (Dp.reads I _ _ _ (by rw [o.K]; exact pd_ok h1 r) a) (each_reads o I h2 t b)
theorem okBs_at {n : Nat} : ∀ {ds : List D}, okBs n ds = true → ∀ d ∈ ds, okB n d = true
  | [], _, _, h => by cases h
  | x :: ds, h, d, hd => by
    unfold okBs at h
    obtain ⟨h1, h2⟩ := Bool.and_eq_true_iff.mp h
    rcases List.mem_cons.mp hd with rfl | hd
    · exact h1
    · exact okBs_at h2 d hd
theorem dc_sorted {k : Nat} (o : On G X) (hr : Room k X.A) : CallR X (.builtin "sorted") (rDA G sortedZ) := fun pins s σ H vs us Q I r ⟨μ, st, ds, z, st', S, R, e, kk⟩ => by
  unfold sortedZ at e
  split at e
  · obtain ⟨xs, e1, e⟩ := Option.bind_eq_some_iff.mp e
    split at e
    · rename_i hok
      cases e
      cases R with
      | cons R1 t =>
        cases t
        obtain ⟨a, ws, rfl, hs, rp⟩ := list_rep S R1 e1
        obtain ⟨its, rv, hl, hz⟩ := I.list (X := X) (by rw [o.K]; exact hs)
        obtain ⟨h1, h2, h3, h4⟩ := hok
        have un := hr.un
        rw [Vals.ref1 r]
        refine sorted_data (R := fun v b => ∃ x, RelV x v ∧ Rep G μ H b x) (bs := xs) (enc := pd) (vs := its) hl.isList (each_reps rp rv) (each_reads o I h1 rp rv) h2 h3 h4 (fun b hb => ?_) fun out ho he => ?_
        · have := (ok_shape (okBs_at h1 b hb)).2
          omega
        · obtain ⟨ep, he'⟩ := PyProof.Rows.sortedAll_at s.heap its out.toArray
          obtain ⟨zs, v1, r1⟩ := reps_each he
          have hn : H (s.heap.objs.size + 1) = none := I.hok.fresh (Nat.le_succ _)
          have hlen : zs.length ≤ sizeLine := by rw [← r1.length, (List.mergeSort_perm xs _).length_eq]; exact h4
          refine ⟨.ref _, upd H (s.heap.objs.size + 1) (.lst zs), I.laid (t' := s.toks) (fun _ _ => PyProof.Rows.sortedAll_old) (Nat.le_succ _) ⟨hlen, out, ep, v1, he'⟩, rfl, ?_⟩
          exact kk μ _ _ (Ext.new S hn) (S.newT hn) (.lst ⟨upd_same, fun z => S.tracked z hn, fun z => S.hid_ne z hn rfl⟩ (r1.ext (Ext.new S hn)))
    · cases e
  · cases e
end
end EL
set_option Elab.async false
set_option linter.all false
set_option maxRecDepth 100000
set_option maxHeartbeats 1000000
namespace EL
open PySem PySem.Spec PyProof.Rows L2 GxR LG
section
variable {G : G0} {X : Cx} {μ : Mu} {H : Hp} {st : Sto}
/-- d.get(y, z) with a tuple for a key -/
def fDGet2 (fo fe fx : FE) : FE := fun ρ st => (fo ρ st).bind fun p => (dictOf p.1 p.2).bind fun _ => (fe ρ p.2).bind fun q => (fx ρ q.2).bind fun r => (dictOf p.1 r.2).bind fun z => (keyOf q.1).bind fun k => some ((valD z.2 k).getD r.1, r.2)
theorem de_dget2 {a b c : Expr} {fa fb fc : FE} {apos pos : Pos} {k : Nat} (hr : Room k X.A) (ha : PE X a (lift G fa)) (hb : PE X b (lift G fb)) (hc : PE X c (lift G fc)) (m : M2 X a "get" apos b c pos) : PE X (.Call (.Attribute a "get" apos) [b, c] [] pos) (lift G (fDGet2 fa fb fc)) := by
  have un := hr.units
  refine PE.imp (pe_dget2 (by omega) ha hb hc m) fun σ H Q ⟨ρ, μ, st, d, st', E, S, e, kk⟩ => ?_
  unfold fDGet2 at e
  obtain ⟨p, e1, e⟩ := Option.bind_eq_some_iff.mp e
  obtain ⟨⟨l0, kv0⟩, e0, e⟩ := Option.bind_eq_some_iff.mp e
  obtain ⟨q, e2, e⟩ := Option.bind_eq_some_iff.mp e
  obtain ⟨r, e9, e⟩ := Option.bind_eq_some_iff.mp e
  obtain ⟨⟨l, kvs⟩, e3, e⟩ := Option.bind_eq_some_iff.mp e
  obtain ⟨ks, e4, e5⟩ := Option.bind_eq_some_iff.mp e
  cases e5
  refine ⟨ρ, μ, st, p.1, p.2, E, S, e1, fun μ1 H1 x X1 S1 R1 => ?_⟩
  obtain ⟨_, _, a0, vs0, rfl, _, ha0, rk0⟩ := dict_rep S1 R1 e0
  refine ⟨a0, rfl, .inr ⟨vs0, .inl ha0⟩, ρ, μ1, p.2, q.1, q.2, E.ext X1, S1, e2, fun μ2 H2 y X2 S2 R2 => ⟨ρ, μ2, q.2, r.1, r.2, (E.ext X1).ext X2, S2, e9, fun μ3 H3 z X3 S3 R3 => ?_⟩⟩
  obtain ⟨bb, rfl, hb2⟩ := key_rep (R2.ext X3) e4
  obtain ⟨_, _, aa, vs, h1, _, ha2, rk⟩ := dict_rep S3 ((R1.ext X2).ext X3) e3
  cases h1
  refine ⟨valV vs ks, .t ha2 hb2, ?_⟩
  rcases val_rep ks rk with ⟨d', v', q1, q2, q3⟩ | ⟨q1, q2⟩
  · have q1 : valD kvs ks = some d' := q1
    rw [q1] at kk
    rw [q2]
    exact kk μ3 H3 _ (X1.trans (X2.trans X3)) S3 q3
  · have q1 : valD kvs ks = none := q1
    rw [q1] at kk
    rw [q2]
    exact kk μ3 H3 _ (X1.trans (X2.trans X3)) S3 R3
end
end EL
set_option Elab.async false
set_option linter.all false
set_option maxRecDepth 100000
set_option maxHeartbeats 1000000
namespace EL
open PySem PySem.Spec PyProof.Rows L2 GxR LG
section
variable {G : G0} {X : Cx} {μ : Mu} {H : Hp} {st : Sto}
structure DefIK (G : G0) (k : Nat) (c : Str) (n : Nat) (ks : List Str) (fn : HA) : Prop where
  ex : ∃ (C f : Addr) (fd : FuncData) (ps : List Str) (g : List Value → List Value → List Value) (gV : List V → List V → List V), FnOk G.P G.w G.K G.mg G.base CX0 k f fd ps (spD G (n + 1 + ks.length) fn) ∧ G.mg c = some (.ref C) ∧ Mk G.K C f ∧ KBn G.K fd ps (n + 1) ks g gV ∧ ∀ vs zs, gV vs zs = vs ++ zs
theorem PK.imp {kws : List Keyword} {t t' : TA} (h : PK X kws t) (i : ∀ σ H Q, t' σ H Q → t σ H Q) : PK X kws t' := ⟨fun pos pins s σ H Q I q => h.run pos pins s σ H Q I (i σ H Q q)⟩
end
end EL
set_option Elab.async false
set_option linter.all false
set_option maxRecDepth 100000
set_option maxHeartbeats 1000000
namespace EL
open PySem PySem.Spec PyProof.Rows L2 GxR LG
section
variable {G : G0} {X : Cx}
theorem Here.nox {N : List Str} {sc : Scope} (o : Here G X N sc) : Here G X.nox N sc := ⟨⟨o.on.prog, o.on.w, o.on.mg, o.on.base, o.on.K, o.on.calm⟩, o.N, o.sc, o.nd⟩
end
end EL
set_option Elab.async false
set_option linter.all false
set_option maxRecDepth 100000
set_option maxHeartbeats 1000000
namespace EL
open PySem PySem.Spec PyProof.Rows L2 GxR LG
end EL
set_option Elab.async false
set_option linter.all false
set_option maxRecDepth 100000
set_option maxHeartbeats 2000000
namespace EL
open PySem PySem.Spec PyProof.Rows L2 GxR LG
open PpSet (eval_SetComp newSet_ok compLoopS_any codeAny_compStart_set)
end EL
set_option Elab.async false
set_option linter.all false
set_option maxRecDepth 100000
set_option maxHeartbeats 1000000
namespace EL
open PySem PySem.Spec PyProof.Rows L2 GxR LG
abbrev Ts := List (List Int)
/-- each once -/
def ddT : Ts → Ts
  | [] => []
  | t :: ts => if t ∈ ddT ts then ddT ts else t :: ddT ts
def leT (a b : List Int) : Bool := decide (TS.code 64 a ≤ TS.code 64 b)
def sortT (ts : Ts) : Ts := (ddT ts).mergeSort leT
end EL
set_option Elab.async false
set_option linter.all false
set_option maxRecDepth 100000
set_option maxHeartbeats 1000000
namespace EL
open PySem PySem.Spec PyProof.Rows L2 GxR LG
def intsOf1 : D → Option (List Int)
  | .tup ds => intsD ds
  | _ => none
section
variable {G : G0} {X : Cx} {μ μ' μ1 : Mu} {H H' H1 : Hp} {st : Sto}
theorem key_rep1 {d : D} {v : V} {t : List Int} (R : Rep G μ H d v) (e : intsOf1 d = some t) : ∃ b, v = .ref b ∧ H b = some (.tup (t.map V.int)) := by
  cases d with
  | tup ds =>
    have e1 := intsD_eq (show intsD ds = some t from e)
    subst e1
    cases R with
    | tup s r =>
      have e2 := ints_of_reps r
      subst e2
      exact ⟨_, rfl, s⟩
  | _ => cases e
end
end EL
set_option Elab.async false
set_option linter.all false
set_option maxRecDepth 100000
set_option maxHeartbeats 1000000
namespace EL
open PySem PySem.Spec PyProof.Rows L2 GxR LG
section
variable {G : G0} {X : Cx} {μ : Mu} {H : Hp}
theorem paired_imp {α β : Type} {P Q : α → β → Prop} (i : ∀ a b, P a b → Q a b) : ∀ {as : List α} {bs : List β}, Paired P as bs → Paired Q as bs
  | _, _, .nil => .nil
  | _, _, .cons h t => .cons (i _ _ h) (paired_imp i t)
end
end EL
set_option Elab.async false
set_option linter.all false
set_option maxRecDepth 100000
set_option maxHeartbeats 1000000
namespace EL
open PySem PySem.Spec PyProof.Rows L2 GxR LG
section
variable {G : G0} {W : WX}
theorem DefIK.seal {k n : Nat} {c : Str} {ks : List Str} {fn : HA} (F : DefIK G k c n ks fn) : DefIK G k c n ks (sealFn fn) := by
  obtain ⟨C, f, fd, ps, g, gV, h1, h3⟩ := F.ex
  exact ⟨C, f, fd, ps, g, gV, seal_fn (P := G.P) h1, h3⟩
end
end EL
set_option Elab.async false
set_option linter.all false
set_option maxRecDepth 100000
set_option maxHeartbeats 1000000
namespace EL
open PySem PySem.Spec PyProof.Rows L2 GxR LG
end EL
set_option Elab.async false
set_option linter.all false
set_option maxRecDepth 100000
set_option maxHeartbeats 2000000
namespace EL
open PySem PySem.Spec PyProof.Rows L2 GxR LG
section
variable {X : Cx} {pins : List (Addr × Obj)} {σ : L2.St} {H : Hp} {s : Shared}
theorem putT_ok {D b : Addr} {kvs : List (List Key × V)} {k : List Key} {v : V} {r : Value} {E : Value → Shared → Prop} {Q : Unit → Shared → Prop} (hun : X.A.units + 2 < cLine) (I : Inv X pins σ H s) (eD : H D = some (.dT kvs)) (eb : H b = some (.tup (k.map kV))) (few : kvs.length < sizeLine) (rv : RelV v r)
    (more : ∀ s', Inv X pins σ (upd H D (.dT (putK kvs k v))) s' → Q () s') : wpAny (model X.prog X.w) X.A (dictSet D (.ref b) r) Q E s := by
  obtain ⟨z, low, xs, rel, dd⟩ := dt_of I.hok eD
  have z1 : (putK kvs k v).length ≤ sizeLine := Nat.le_trans (length_putK kvs k v) few
  refine wpAny_dictSet_heap (hsz := Nat.le_trans (Nat.le_of_eq (Paired.length rel).symm) z) (show X.A.units < cLine by omega) (key_of I.hok eb) dd fun h' dd' same => more _ ?_
  obtain ⟨q, es, ep, hq, h2, h3, h4, _, h5⟩ := dd'
  have rel2 := (rel.put k eb rv).keeps (H' := upd H D (.dT (putK kvs k v))) fun c ys ec => (upd_ne (ne_of ec eD (by intro w; cases w))).trans ec
  exact d_write I (by rw [eD]; exact True.intro) same ⟨q, hq⟩ ⟨z1, low, _, rel2, q, es, ep, hq, h2, h3, h4, h5⟩
end
def tDcT (wi : TI) (g : TG) (tk tv : TE) (vs : List Nat) : TE := fun σ H Q => wi σ H fun J Ha => ∀ D, Ha D = none → ∃ W : Nat → Nat → Hp → Prop, (∃ m, W 0 m (upd Ha D (.dT []))) ∧ ∀ i m Hb, W i m Hb →
  (J.stop i Hb ∧ Q (.ref D) Hb) ∨ (J.go i Hb ∧ ∃ Nx : Hp → Prop, (∀ Hc, Nx Hc → ∃ m', m' < m ∧ W (i + 1) m' Hc) ∧ ∀ x Hc, J.yld i Hb x Hc → g x (wipe σ vs) Hc fun σ2 Hd => wipe σ2 vs = wipe σ vs ∧ tk σ2 Hd fun y He => tv σ2 He fun z Hf =>
    ∃ kvs k b, y = .ref b ∧ Hf b = some (.tup (k.map kV)) ∧ Hf D = some (.dT kvs) ∧ kvs.length < sizeLine ∧ Nx (upd Hf D (.dT (putK kvs k z))))
section
variable {X : Cx}
theorem dcT_core {pins : List (Addr × Obj)} {sa : Shared} {σ : L2.St} {Ha : Hp} {Q : VK} {kx vx tg iter : Expr} {scope : Scope} {own : List (PySem.Str × Nat)} {pos pos' : Pos} {wi : TI} {g : TG} {tk tv : TE} {use : Option (Value → Sem Unit)} {Qf : Value → Shared → Prop} (Ia : Inv X pins σ Ha sa) (hcalm : X.calm = true) (hnd : X.N.Nodup) (hun : X.A.units + 10 < cLine) (hit : PI X tg iter wi) (bk : BlkOk X.N X.env.scope scope own)
    (htg : ∀ (s : Shared) (H : Hp) (C : Addr) (cl : List (PySem.Str × Addr)) (fp : List Addr), PG (X.blk s H scope (compEnvC scope cl C X.env) fp) tg g)
    (hkx : ∀ (s : Shared) (H : Hp) (C : Addr) (cl : List (PySem.Str × Addr)) (fp : List Addr), PE (X.blk s H scope (compEnvC scope cl C X.env) fp) kx tk)
    (hvx : ∀ (s : Shared) (H : Hp) (C : Addr) (cl : List (PySem.Str × Addr)) (fp : List Addr), PE (X.blk s H scope (compEnvC scope cl C X.env) fp) vx tv) (hfo : ∀ x, foldedSetIterable iter X.env x = pure x) (want : tDcT wi g tk tv (own.map (·.2)) σ Ha Q)
    (last : ∀ D C s' m H', Inv X pins σ H' s' → Q (.ref D) H' → s'.heap.Ns C m → FpOk X pins H' C → compPost (model X.prog X.w) X.A X.xe use Qf (.ref D) C (.ok .next) s') :
    wpAny (model X.prog X.w) X.A (comprehension (.DictComp kx vx [⟨tg, iter, [], 0⟩] scope pos) scope X.env pos' newDict false (eval iter X.env) use) Qf X.xe sa := by
  have freeN : ∀ y ∈ scope.names, y.2 = .free → ∃ c, X.env.cells.lookup y.1 = some c := fun y hy e => Ia.ok.has _ (bk.free y hy e)
  refine wpAny_comprehension_free (use := use) rfl hfo (closure_ok freeN) bk.kind (fun y hy e => (bk.uniq y hy).trans (congrArg some e)) (thn (hit.run pins sa σ Ha _ Ia want) fun xv sb hx => thn hx fun itv sc hc => ?_)
  obtain ⟨it, fp, tn, J, Hc, rfl, Ic, T, stc, fc, more⟩ := hc
  refine wpAny_newObj_type ?_
  refine newEnv_comp ?_
  -- the new, empty dict
  generalize eD : sc.heap.objs.size = D
  have nD : Hc D = none := Ic.hok.fresh (Nat.le_of_eq eD)
  obtain ⟨W, ⟨m0, w0⟩, turn⟩ := more D nD
  generalize esd : ({ sc with heap := sc.heap.push { cls := .type "dict", data := .dict #[] } } : Shared) = sd
  have hpd : sd.heap = sc.heap.push { cls := .type "dict", data := .dict #[] } := by rw [← esd]
  have Id : Inv X pins σ (upd Hc D (.dT [])) sd := by
    rw [← esd]
    refine Ic.laid (t' := sc.toks) (fun c u q => Heap.get?_push_of_some _ q) (Nat.le_of_eq eD) ?_
    rw [← eD]
    exact dt_empty sc.heap Ic.big
  have fpl : ∀ c ∈ fp, c < sc.heap.objs.size := fun c hc => let ⟨_, q, _⟩ := T.obj _ _ stc c hc; Heap.lt_size q
  have fd : ∀ c ∈ fp, FpOk X pins (upd Hc D (.dT [])) c ∧ c < sd.heap.objs.size := fun c hc => by
    have lt := fpl c hc
    refine ⟨⟨?_, (fc c hc).2⟩, by rw [hpd, Heap.size_push]; exact Nat.lt_succ_of_lt lt⟩
    rw [upd_ne (Nat.ne_of_lt (eD ▸ lt))]; exact (fc c hc).1
  have std : tn 0 sd.heap := T.keep _ _ _ stc fun c _ u q => by rw [hpd]; exact Heap.get?_push_of_some _ q
  have Ie := block_start Id bk hnd fd
  have rg := htg sd (upd Hc D (.dT [])) sd.heap.objs.size (cellsFrom (sd.heap.objs.size + 1) scope.names (cloFrom X.env.cells scope.names [])) fp
  have rk := hkx sd (upd Hc D (.dT [])) sd.heap.objs.size (cellsFrom (sd.heap.objs.size + 1) scope.names (cloFrom X.env.cells scope.names [])) fp
  have re := hvx sd (upd Hc D (.dT [])) sd.heap.objs.size (cellsFrom (sd.heap.objs.size + 1) scope.names (cloFrom X.env.cells scope.names [])) fp
  show codeAny _ _ (.compStart (.DictComp kx vx [⟨tg, iter, [], 0⟩] scope pos) 0 (.ref it) (.ref D) (compEnvC scope (cellsFrom (sd.heap.objs.size + 1) scope.names (cloFrom X.env.cells scope.names [])) sd.heap.objs.size X.env)) (compPost (model X.prog X.w) X.A X.xe use Qf (.ref D) sd.heap.objs.size) { sd with heap := pushCells (sd.heap.push { cls := .type "dict", data := .dict #[] }) scope.names }
  have nf : ∀ c ∈ fp, (upd Hc D (.dT [])) c = none := fun c hc => (fd c hc).1.1
  generalize ece : compEnvC scope (cellsFrom (sd.heap.objs.size + 1) scope.names (cloFrom X.env.cells scope.names [])) sd.heap.objs.size X.env = ce at Ie rg rk re ⊢
  have lce : ce.locals = sd.heap.objs.size := by rw [← ece]; rfl
  generalize eHd : upd Hc D (.dT []) = Hd at Id Ie rg rk re w0 nf fd
  generalize ese : ({ sd with heap := pushCells (sd.heap.push { cls := .type "dict", data := .dict #[] }) scope.names } : Shared) = se at Ie ⊢
  have ste : tn 0 se.heap := T.keep _ _ _ std fun c _ u q => by rw [← ese]; exact pushCells_keeps _ _ _ _ (Heap.get?_push_of_some _ q)
  have fpx : ∀ {ρ : L2.St} {Hx : Hp} {sx : Shared}, Inv (X.blk sd Hd scope ce fp) [] ρ Hx sx → (∀ c ∈ fp, Hx c = none) → ∀ c ∈ fp, FpOk (X.blk sd Hd scope ce fp) [] Hx c := fun {ρ Hx sx} Ix nx c hc =>
    ⟨nx c hc, (Ix.ok.exf c hc).1, Ix.ok.exfs c hc, .inl hc, fun y d q => (Ix.ok.exf c hc).2 y d q, fun p hp => by
      have : p ∈ ([] : List (Addr × Obj)) ++ [] := hp
      simp at this⟩
  have loop : codeAny (model X.prog X.w) X.A (.compLoop (.DictComp kx vx [⟨tg, iter, [], 0⟩] scope pos) 0 (.ref it) (.ref D) ce) (compPost (model X.prog X.w) X.A X.xe use Qf (.ref D) sd.heap.objs.size) se := by
    refine compLoop_anyD (fun n sx => ∃ i Hx, Inv (X.blk sd Hd scope ce fp) [] (wipe σ (own.map (·.2))) Hx sx ∧ tn i sx.heap ∧ (∀ c ∈ fp, Hx c = none) ∧ W i n Hx) ?_ m0 ⟨0, Hd, Ie, ste, nf, w0⟩
    rintro n s1 ⟨i, H1, I1, st1, n1, w1⟩
    rcases turn i n H1 w1 with ⟨stop, qq⟩ | ⟨go, Nx, hNx, step⟩
    · refine thnF (T.done (X.blk sd Hd scope ce fp) rfl rfl rfl hcalm i [] s1 _ H1 (fun _ _ => False) I1 (fpx I1 n1) st1 stop) fun r s2 ⟨hr, I2⟩ => ?_
      subst hr
      have I3 : Inv X pins σ H1 s2 := Id.call' (ch := fp) I2.os I2.base I2.hok I2.bare fun c hc => let z := (fd c hc).1.2; ⟨z.2.2.1, z.1, z.2.2.2.1, z.2.2.2.2⟩
      have nC : H1 sd.heap.objs.size = none := by rw [← lce]; exact I2.free
      obtain ⟨mm, hns, _⟩ := I2.loc
      have hns : s2.heap.Ns ce.locals mm := hns
      rw [lce] at hns
      exact last D sd.heap.objs.size s2 mm H1 I3 qq hns (Id.fpOk (Nat.le_refl _) nC)
    · refine thnF (T.item (X.blk sd Hd scope ce fp) rfl rfl rfl hcalm i [] s1 _ H1 (fun _ _ => False) I1 (fpx I1 n1) st1 go) fun r s2 ⟨u, hr, h2⟩ => ?_
      subst hr
      refine thnF h2 fun _ s3 ⟨x, H3, I3, r3, y3, st3, n3⟩ => ?_
      refine thnF (rg.run _ s3 _ H3 x u _ (I3.pinned (fpx I3 n3) (T.obj _ _ st3)) r3 (step x H3 y3)) fun _ s4 ⟨σ4, H4, I4, hw, q4⟩ => ?_
      rw [List.forIn_nil]
      refine wpAny_pure ?_
      rw [if_pos rfl]
      refine thnF (rk.run _ s4 σ4 H4 _ I4 q4) fun zk s4b ⟨yk, H4b, I4b, r4b, q4b⟩ => ?_
      refine thnF (re.run _ s4b σ4 H4b _ I4b q4b) fun z s5 ⟨yv, H5, I5, r5, kvs, kk, bb, ey, hb5, hD5, hfew, nx⟩ => ?_
      subst ey
      obtain rfl : zk = Value.ref bb := r4b
      refine putT_ok (X := X.blk sd Hd scope ce fp) (by show X.A.units + 2 < cLine; omega) I5 hD5 hb5 hfew r5 fun s6 I6 => ?_
      obtain ⟨m', hm, w'⟩ := hNx _ nx
      have pin : ∀ c ∈ fp, ∀ u, s3.heap.get? c = some u → s6.heap.get? c = some u ∧ upd H5 D (.dT (putK kvs kk yv)) c = none := fun c hc u q =>
        let z := I6.pin (c, u) (List.mem_append_right _ (List.mem_append_right _ (mem_pinsAt hc q)))
        ⟨z.1, z.2.1⟩
      refine ⟨m', hm, i + 1, _, (I6.unpinned (pins := [])).weak (by rw [← hw, wipe_length]) (fun j v e => ?_), T.keep _ _ _ st3 fun c hc u q => (pin c hc u q).1, fun c hc => ?_, w'⟩
      · rw [← hw] at e
        exact (wipe_some e).1
      · obtain ⟨u, q, _⟩ := T.obj _ _ st3 c hc
        exact (pin c hc u q).2
  exact codeAny_compStart_dict loop (T.self X.A 0 _ _ _ ste loop)
/-- y = {..} -/
theorem ps_setDcT {i : Nat} {y : Str} {py spos : Pos} {kx vx tg iter : Expr} {scope : Scope} {own : List (PySem.Str × Nat)} {pos : Pos} {wi : TI} {g : TG} {tk tv : TE} (hcalm : X.calm = true) (hnd : X.N.Nodup) (hun : X.A.units + 10 < cLine) (hy : X.N[i]? = some y) (hyl : X.env.scope.names.lookup y = some .local)
    (hsw : swapsWith (.DictComp kx vx [⟨tg, iter, [], 0⟩] scope pos) (some (.Name y py)) spos.line X.env = pure true) (hit : PI X tg iter wi) (bk : BlkOk X.N X.env.scope scope own)
    (htg : ∀ (s : Shared) (H : Hp) (C : Addr) (cl : List (PySem.Str × Addr)) (fp : List Addr), PG (X.blk s H scope (compEnvC scope cl C X.env) fp) tg g)
    (hkx : ∀ (s : Shared) (H : Hp) (C : Addr) (cl : List (PySem.Str × Addr)) (fp : List Addr), PE (X.blk s H scope (compEnvC scope cl C X.env) fp) kx tk)
    (hvx : ∀ (s : Shared) (H : Hp) (C : Addr) (cl : List (PySem.Str × Addr)) (fp : List Addr), PE (X.blk s H scope (compEnvC scope cl C X.env) fp) vx tv) (hfo : ∀ x, foldedSetIterable iter X.env x = pure x := by intro _; rfl) :
    PS X (.Assign [.Name y py] (.DictComp kx vx [⟨tg, iter, [], 0⟩] scope pos) spos) (tAsg (tDcT wi g tk tv (own.map (·.2))) (gName i)) := by
  refine ⟨fun pins sa σ Ha E0 Ia want => ?_⟩
  rw [exec_Assign_Name_used _ _ _ _ hsw]
  refine wpAny_bind (wpAny_standAt (wpAny_bind ?_))
  have want' : tDcT wi g tk tv (own.map (·.2)) σ Ha (fun x H1 => gName i x σ H1 E0.nx) := want
  show wpAny _ X.A (do let _ ← comprehension (.DictComp kx vx [⟨tg, iter, [], 0⟩] scope pos) scope X.env (firstIterPos [⟨tg, iter, [], 0⟩] pos) newDict false (eval iter X.env) (some (assign (.Name y py) X.env))) _ _ sa
  refine wpAny_bind (thn (dcT_core (Qf := fun _ s' => SP X pins E0 .next s') Ia hcalm hnd hun hit bk htg hkx hvx hfo want' fun D C s' m H' I' q hn f => ?_) fun _ s' hq => wpAny_pure (wpAny_pure hq))
  refine (wpAny_assign_Name (store_ok2 (v := V.ref D) I' hnd hy (.inl hyl) rfl (fun s2 I2 ⟨a, sb, ha⟩ => ?_) (.inr hyl)) : wpAny _ _ (assign (.Name y py) X.env (.ref D)) _ _ _)
  obtain ⟨f0, f1, f2, f3, f4, f5⟩ := f
  have nC : C ≠ a := by
    rcases ha with w | w
    · rw [w]; exact f1
    · exact fun w2 => f4 y a w w2.symm
  exact ⟨m, hn.sameBut sb nC, fun h3 sb3 => ⟨_, H', I2.turned (t' := s2.toks) (fun c u hc q => (sb3.2 c hc).trans q) f0 f1 f3 f4 f5, q⟩⟩
end
end EL
set_option Elab.async false
set_option linter.all false
set_option maxRecDepth 100000
set_option maxHeartbeats 2000000
namespace EL
open PySem PySem.Spec PyProof.Rows L2 GxR LG
open Classical in
noncomputable def dcD (tg : Tg) (fk fv : FE) (l : Nat) (src : Src) (ρ : Rho) : List D → Sto → Option Sto
  | [], st => if Intact src st then some st else none
  | d :: ds, st => if Intact src st then (tgD tg d ρ).bind fun ρ1 => (fk ρ1 st).bind fun p => (fv ρ1 p.2).bind fun q => (dictOf (.ref l) q.2).bind fun r => (keyOf p.1).bind fun ks => if r.2.length < sizeLine then dcD tg fk fv l src ρ ds (q.2.set l (.dT (putD r.2 ks q.1))) else none else none
noncomputable def fDcT (fi : FI) (tg : Tg) (fk fv : FE) (vs : List Nat) : FE := fun ρ st => (fi ρ st).bind fun p => (dcD tg fk fv p.2.2.length p.2.1 (wipeD ρ vs) p.1 (p.2.2 ++ [.dT []])).bind fun s => some (.ref p.2.2.length, s)
section
variable {G : G0} {X : Cx} {fi : FI} {tg : Tg} {fk fv : FE} {vs : List Nat}
theorem dict_at {l l' : Nat} {st : Sto} {kvs : List (List Key × D)} (e : dictOf (.ref l) st = some (l', kvs)) : l' = l := by
  unfold dictOf at e
  simp only at e
  split at e
  · cases e; rfl
  · cases e
theorem dcT_data (hin : ∀ i ∈ tg.ins, i ∈ vs) {σ : L2.St} {H : Hp} {Q : VK} (q : lift G (fDcT fi tg fk fv vs) σ H Q) : tDcT (liftI G fi) (gOf G.K tg) (lift G fk) (lift G fv) vs σ H Q := by
  obtain ⟨ρ, μ, st, d, st', E, S, e, k⟩ := q
  unfold fDcT at e
  obtain ⟨⟨items, src, s1⟩, e1, e⟩ := Option.bind_eq_some_iff.mp e
  obtain ⟨sf, e2, e⟩ := Option.bind_eq_some_iff.mp e
  simp only at e2 e
  obtain ⟨rfl, rfl⟩ : D.ref s1.length = d ∧ sf = st' := ⟨congrArg Prod.fst (Option.some.inj e), congrArg Prod.snd (Option.some.inj e)⟩
  refine ⟨ρ, μ, st, items, src, s1, E, S, e1, fun μ1 H1 J X1 S1 F Da hD => ?_⟩
  have SN : StR G (μ1.add Da) (s1 ++ [.dT []]) (upd H1 Da (.dT [])) := S1.newO hD trivial ⟨[], upd_same, rfl, .nil⟩
  have XN : Ext G μ1 H1 (μ1.add Da) (upd H1 Da (.dT [])) := Ext.newAt S1 hD
  have RN : Rep G (μ1.add Da) (upd H1 Da (.dT [])) (.ref s1.length) (.ref Da) := .ref (by
    show (μ1.pl ++ [Da])[s1.length]? = some Da
    rw [← S1.len]
    simp)
  refine ⟨fun i m H2 => m = items.length - i ∧ i ≤ items.length ∧ ∃ μ2 st2, StR G μ2 st2 H2 ∧ Ext G μ1 H1 μ2 H2 ∧ Rep G μ2 H2 (.ref s1.length) (.ref Da) ∧ dcD tg fk fv s1.length src (wipeD ρ vs) (items.drop i) st2 = some sf,
    ⟨items.length, by simp, Nat.zero_le _, _, _, SN, XN, RN, by simpa using e2⟩, ?_⟩
  rintro i m H2 ⟨rfl, hi2, μ2, st2, S2, X2, RD, e3⟩
  by_cases hlt : i < items.length
  · have hd : items.drop i = items[i] :: items.drop (i + 1) := List.drop_eq_getElem_cons hlt
    rw [hd] at e3
    unfold dcD at e3
    split at e3
    · rename_i hin2
      obtain ⟨ρ3, e4, e3⟩ := Option.bind_eq_some_iff.mp e3
      obtain ⟨⟨kd, s5⟩, e5, e3⟩ := Option.bind_eq_some_iff.mp e3
      obtain ⟨⟨vd, s6⟩, e6, e3⟩ := Option.bind_eq_some_iff.mp e3
      obtain ⟨⟨l, kvs⟩, e7, e3⟩ := Option.bind_eq_some_iff.mp e3
      obtain ⟨ks, e8, e9⟩ := Option.bind_eq_some_iff.mp e3
      simp only at e6 e7 e8 e9
      by_cases hz : kvs.length < sizeLine
      · rw [if_pos hz] at e9
        obtain ⟨go, yl⟩ := (F μ2 st2 H2 i X2.to0 S2 hin2).1 hlt
        refine .inr ⟨go, fun H5 => ∃ μ5 st5, StR G μ5 st5 H5 ∧ Ext G μ1 H1 μ5 H5 ∧ Rep G μ5 H5 (.ref s1.length) (.ref Da) ∧ dcD tg fk fv s1.length src (wipeD ρ vs) (items.drop (i + 1)) st5 = some sf, fun H5 h5 => ⟨items.length - (i + 1), by omega, rfl, hlt, h5⟩, fun x H3 hy => ?_⟩
        obtain ⟨dd, ed, Rd, S3, X3⟩ := yl x H3 hy
        have ed' : dd = items[i] := by
          rw [List.getElem?_eq_getElem hlt] at ed
          exact (Option.some.inj ed).symm
        subst ed'
        have E3 : EnvR G μ2 H3 (wipeD ρ vs) (L2.wipe σ vs) := (((E.ext X1).ext X2).ext X3).wipe vs
        refine gOf_ok (vs' := vs) Rd E3 e4 fun σ6 E6 hw => ⟨(hw hin).trans (wipe_idem σ vs), ?_⟩
        refine ⟨ρ3, μ2, st2, kd, s5, E6, S3, e5, fun μ7 H7 y X7 S7 R7 => ⟨ρ3, μ7, s5, vd, s6, E6.ext X7, S7, e6, fun μ9 H9 z X9 S9 R9 => ?_⟩⟩
        obtain ⟨bb, rfl, hb9⟩ := key_rep (R7.ext X9) e8
        obtain ⟨_, hl, aa, ws, ea, hpl, ha9, rk⟩ := dict_rep S9 (RD.ext (X3.trans (X7.trans X9))) e7
        cases ea
        obtain rfl : l = s1.length := by
          have := dict_at e7
          exact this
        have hm : Da ∈ μ9.pl := List.mem_of_getElem? hpl
        have X10 : Ext G μ9 H9 μ9 (upd H9 Da (.dT (putK ws ks z))) := Ext.own S9 hm ha9 trivial
        have S10 := S9.setO (o := .dT (putD kvs ks vd)) hpl (y := .dT (putK ws ks z)) trivial ⟨_, upd_same, (put_rep rk R9).ext X10⟩
        have X29 := X3.trans (X7.trans (X9.trans X10))
        refine ⟨ws, ks, bb, rfl, hb9, ha9, ?_, μ9, _, S10, X2.trans X29, RD.ext X29, e9⟩
        have : kvs.length = ws.length := by have := congrArg List.length rk.1; simpa using this
        omega
      · rw [if_neg hz] at e9; cases e9
    · cases e3
  · have hi3 : i = items.length := by omega
    rw [hi3, List.drop_length] at e3
    unfold dcD at e3
    split at e3
    · rename_i hin2
      have stop := (F μ2 _ H2 i X2.to0 S2 hin2).2 hi3
      cases e3
      exact .inl ⟨stop, k μ2 H2 _ (X1.trans X2) S2 RD⟩
    · cases e3
variable {N : List Str} {sc : Scope} {W : WX}
theorem swap_dc {kx vx : Expr} {gs : List Comprehension} {scope : Scope} {pos py : Pos} {y : Str} {l : Nat} {env : Env} (h1 : env.scope.kind = .function) (h2 : env.scope.names.lookup y = some .local) (h3 : (py.line == pos.line) = true)
    (h4 : (scope.names.any fun (n, k) => n == y && (k == .local || k == .cell)) = false) : swapsWith (.DictComp kx vx gs scope pos) (some (.Name y py)) l env = pure true := by
  have b1 : env.kindOf y = some .local := h2
  have b2 : env.blockKind = .function := by unfold Env.blockKind; rw [h1]; rfl
  unfold swapsWith
  simp only [b1, b2, h4, Expr.pos, h3]
  rfl
theorem ds_setDcT {i k : Nat} {y : Str} {py spos pos : Pos} {kx vx tgt iter : Expr} {scope : Scope} {own : List (Str × Nat)} (o : On G X) (hr : Room k X.A) (hN : X.N.Nodup) (hy : X.N[i]? = some y) (hyl : X.env.scope.names.lookup y = some .local)
    (hsw : swapsWith (.DictComp kx vx [⟨tgt, iter, [], 0⟩] scope pos) (some (.Name y py)) spos.line X.env = pure true) (hi : PI X tgt iter (liftI G fi)) (ok : BlkOk X.N X.env.scope scope own)
    (hg : ∀ (s : Shared) (H : Hp) (C : Addr) (cl : List (Str × Addr)) (fp : List Addr), PG (X.blk s H scope (compEnvC scope cl C X.env) fp) tgt (gOf G.K tg))
    (hk : ∀ (s : Shared) (H : Hp) (C : Addr) (cl : List (Str × Addr)) (fp : List Addr), PE (X.blk s H scope (compEnvC scope cl C X.env) fp) kx (lift G fk))
    (he : ∀ (s : Shared) (H : Hp) (C : Addr) (cl : List (Str × Addr)) (fp : List Addr), PE (X.blk s H scope (compEnvC scope cl C X.env) fp) vx (lift G fv)) (hin : ∀ i ∈ tg.ins, i ∈ own.map (·.2)) (hs : ∀ x, foldedSetIterable iter X.env x = pure x) :
    PS X (.Assign [.Name y py] (.DictComp kx vx [⟨tgt, iter, [], 0⟩] scope pos) spos) (liftS G W (sSet i (fDcT fi tg fk fv (own.map (·.2))))) := by
  have un := hr.units
  refine PS.imp (ps_setDcT o.calm hN (by omega) hy hyl hsw hi ok hg hk he hs) fun D0 σ H ⟨ρ, μ, st, fl, ρ', st', E, S, e, kk⟩ => ?_
  unfold sSet at e
  obtain ⟨p, e1, e⟩ := Option.bind_eq_some_iff.mp e
  cases e
  exact dcT_data hin ⟨ρ, μ, st, p.1, p.2, E, S, e1, fun μ1 H1 v X1 S1 R1 => kk μ1 H1 X1 S1 _ ((E.ext X1).set R1)⟩
theorem x_setDcT (o : Here G X N sc) (i : Nat) {k : Nat} {y : Str} {py spos pos : Pos} {kx vx tgt iter : Expr} {scope : Scope} (own : List (Str × Nat)) (hr : Room k X.A) (hi : PI X tgt iter (liftI G fi))
    (hg : ∀ X', Here G X' N (reS scope sc) → X'.A = X.A → PG X' tgt (gOf G.K tg)) (hk : ∀ X', Here G X' N (reS scope sc) → X'.A = X.A → PE X' kx (lift G fk)) (he : ∀ X', Here G X' N (reS scope sc) → X'.A = X.A → PE X' vx (lift G fv))
    (hsw : swapsWith (.DictComp kx vx [⟨tgt, iter, [], 0⟩] scope pos) (some (.Name y py)) spos.line X.env = pure true := by exact swap_dc rfl rfl rfl (by decide +kernel))
    (hy : N[i]? = some y := by rfl) (hyl : sc.names.lookup y = some .local := by rfl)
    (ok : BlkOk N sc scope own := by exact blkOk_by (by decide +kernel)) (hin : ∀ i ∈ tg.ins, i ∈ own.map (·.2) := by decide) (hs : ∀ x, foldedSetIterable iter X.env x = pure x := by intro _; rfl) :
    PS X (.Assign [.Name y py] (.DictComp kx vx [⟨tgt, iter, [], 0⟩] scope pos) spos) (liftS G W (sSet i (fDcT fi tg fk fv (own.map (·.2))))) :=
  ds_setDcT o.on hr o.ndX (o.ix hy) (by rw [o.sc]; exact hyl) hsw hi (by rw [o.N, o.sc]; exact ok) (fun _ _ _ _ _ => hg _ o.blk rfl) (fun _ _ _ _ _ => hk _ o.blk rfl) (fun _ _ _ _ _ => he _ o.blk rfl) hin hs
end
end EL
set_option Elab.async false
set_option linter.all false
set_option maxRecDepth 100000
set_option maxHeartbeats 1000000
namespace EL
open PySem PySem.Spec PyProof.Rows L2 GxR LG
def fIdx (fo fa : FE) : FE := fun ρ st => (fo ρ st).bind fun p => (fa ρ p.2).bind fun q => match p.1 with
  | .lst ds => if flatD q.1 = true ∧ ds.all flatD = true then (ds.findIdx? fun y => eqB y q.1).bind fun j => some (.int (j : Nat), q.2) else none
  | _ => none
section
variable {G : G0} {X : Cx} {N : List Str} {sc : Scope} {a b : Expr} {fa fo : FE} {pos : Pos}
theorem de_idx {apos : Pos} (o : On G X) (ho : PE X b (lift G fo)) (ha : PE X a (lift G fa)) (hst : starEach [a] X.env = (false, eval a X.env) :: starEach [] X.env := by rfl)
    (hb : attributeBase b "index" X.env (eval b X.env) = eval b X.env := by rfl) (hl : (apos.endLine == pos.line) = true := by rfl) (hpl : (backTo pos (starEach [] X.env)).any (·.1) = false := by rfl)
    (hfew : ((backTo pos (starEach [a] X.env)).all (fun x => !x.1) && (backToKw pos (keywordEach [] X.env)).all (fun x => x.1.isSome) && decide ([a].length + ([] : List Keyword).length + (if ([] : List Keyword).isEmpty then 0 else 1) < 30)) = true := by rfl) : PE X (.Call (.Attribute b "index" apos) [a] [] pos) (lift G (fIdx fo fa)) :=
  PE.imp (pe_bm PySem.F.plainAttrs_list PySem.F.slot_list_index PySem.F.type_list_index mt_index ho (pa_cons ha pa_nil hst) hb hfew hl hst hpl) fun σ H Q ⟨ρ, μ, st, d, st', E, S, e, k⟩ => by
    unfold fIdx at e
    obtain ⟨⟨x, s1⟩, e1, e⟩ := Option.bind_eq_some_iff.mp e
    obtain ⟨⟨y, s2⟩, e2, e⟩ := Option.bind_eq_some_iff.mp e
    simp only at e
    split at e
    · rename_i ds
      split at e
      · rename_i hf
        obtain ⟨j, ej, e⟩ := Option.bind_eq_some_iff.mp e
        cases e
        obtain ⟨hj, p1, p2⟩ := List.findIdx?_eq_some_iff_getElem.mp ej
        refine ⟨ρ, μ, st, _, s1, E, S, e1, fun μ1 H1 v X1 S1 R1 => ?_⟩
        obtain ⟨l, vs, rfl, h1, _⟩ := list_rep S1 R1 rfl
        refine ⟨.inl ⟨rfl, _, by rw [o.K]; exact h1⟩, ⟨ρ, μ1, s1, _, _, E.ext X1, S1, e2, fun μ2 H2 w X2 S2 R2 => ?_⟩⟩
        obtain ⟨l', ws, el, h3, h4⟩ := list_rep S2 (R1.ext X2) rfl
        cases el
        obtain ⟨v0, g1, g2⟩ := h4.get j (List.getElem?_eq_getElem hj)
        refine ⟨l, ws, w, j, v0, rfl, rfl, by rw [o.K]; exact h3, flat_rep hf.1 R2, flats_rep hf.2 h4, g1, ?_, fun m z' hm hz => ?_, k μ2 H2 _ (X1.trans X2) S2 (.int _)⟩
        · rw [eq_flat (List.all_eq_true.mp hf.2 _ (List.getElem_mem hj)) hf.1 g2 R2]
          exact p1
        · have ml := Nat.lt_trans hm hj
          obtain ⟨v1, g3, g4⟩ := h4.get m (List.getElem?_eq_getElem ml)
          rw [hz] at g3
          cases g3
          rw [eq_flat (List.all_eq_true.mp hf.2 _ (List.getElem_mem ml)) hf.1 g4 R2]
          have := p2 m hm
          simpa using this
      · cases e
    · cases e
end
end EL
set_option Elab.async false
set_option linter.all false
set_option maxRecDepth 100000
set_option maxHeartbeats 1000000
namespace EL
open PySem PySem.Spec PyProof.Rows L2 GxR LG
def kD : Key → D
  | .inl i => .int i
  | .inr s => .str s
def keyD (k : List Key) : D := .tup (k.map kD)
def lenL : Option D → Option Nat
  | some (.lst xs) => some xs.length
  | _ => none
def klD (kvs : List (List Key × D)) : List (List Key × D) → Option (List D)
  | [] => some []
  | p :: r => (lenL (valD kvs p.1)).bind fun n => (klD kvs r).bind fun t => some (.tup [keyD p.1, .int (n : Nat)] :: t)
def fKL (i j : Nat) : FE := fun ρ st => (fV i ρ st).bind fun p => (dictOf p.1 st).bind fun q => if q.2.length < sizeLine ∧ j < ρ.length then (klD q.2 q.2).bind fun es => some (.lst es, st) else none
section
variable {G : G0} {X : Cx} {μ : Mu} {H : Hp} {st : Sto}
theorem reps_key (k : List Key) : Reps G μ H (k.map kD) (k.map kV) := by
  induction k with
  | nil => exact .nil
  | cons x k ih =>
    cases x with
    | inl i => exact .cons (.int i) ih
    | inr s => exact .cons (.str s) ih
theorem klD_at {kvs : List (List Key × D)} : ∀ {L : List (List Key × D)} {es : List D} {n : Nat} {p : List Key × D}, klD kvs L = some es → L[n]? = some p → ∃ xs, valD kvs p.1 = some (.lst xs) ∧ es[n]? = some (.tup [keyD p.1, .int (xs.length : Nat)])
  | q :: L, es, n, p, e, h => by
    unfold klD at e
    obtain ⟨m, e1, e⟩ := Option.bind_eq_some_iff.mp e
    obtain ⟨t, e2, e⟩ := Option.bind_eq_some_iff.mp e
    cases e
    cases n with
    | zero =>
      cases h
      unfold lenL at e1
      split at e1
      · rename_i xs hx
        cases e1
        exact ⟨xs, hx, rfl⟩
      · cases e1
    | succ n =>
      obtain ⟨xs, h1, h2⟩ := klD_at e2 (show L[n]? = some p from h)
      exact ⟨xs, h1, h2⟩
theorem klD_len {kvs : List (List Key × D)} : ∀ {L : List (List Key × D)} {es : List D}, klD kvs L = some es → es.length = L.length
  | [], _, e => by cases e; rfl
  | q :: L, es, e => by
    unfold klD at e
    obtain ⟨m, e1, e⟩ := Option.bind_eq_some_iff.mp e
    obtain ⟨t, e2, e⟩ := Option.bind_eq_some_iff.mp e
    cases e
    rw [List.length_cons, List.length_cons, klD_len e2]
/-- what is read of an element -/
abbrev teKL (K : PySem.W.Frag) (i j : Nat) : TE := tTup (tCons (tVar j) (tCons (tCB (fun xs H Q => ∃ p ys, xs = [.ref p] ∧ (SqL K H p ys ∨ SqT K H p ys) ∧ Q (.int ys.length) H) (tCons (tDGet (tVar i) (tVar j)) tNil)) tNil))
theorem upd_swap {H : Hp} {a b : Addr} {u v : HO} (ne : a ≠ b) : upd (upd H a u) b v = upd (upd H b v) a u := by
  funext c
  by_cases h1 : c = a
  · subst h1
    rw [upd_ne ne, upd_same, upd_same]
  · by_cases h2 : c = b
    · subst h2
      rw [upd_same, upd_ne h1, upd_same]
    · rw [upd_ne h2, upd_ne h1, upd_ne h1, upd_ne h2]
theorem upd_back {H : Hp} {a : Addr} {u v : HO} (h : H a = some u) : upd (upd H a v) a u = H := by
  funext c
  by_cases h1 : c = a
  · subst h1
    rw [upd_same, h]
  · rw [upd_ne h1, upd_ne h1]
theorem kl_data {i j : Nat} {vs : List Nat} (hij : i ≠ j) (hi : i ∉ vs) (hj : j ∈ vs) {σ : L2.St} {Q : VK} (q : lift G (fKL i j) σ H Q) : tLockE (tLc (iKeys (tVar i)) (gName j) tYes (teKL G.K i j) vs) σ H Q := by
  obtain ⟨ρ, μ, st, d, st', E, S, e, k⟩ := q
  unfold fKL at e
  obtain ⟨⟨d0, s0⟩, e1, e⟩ := Option.bind_eq_some_iff.mp e
  obtain ⟨⟨l, kvs⟩, e2, e⟩ := Option.bind_eq_some_iff.mp e
  simp only at e2 e
  split at e
  · rename_i hz
    obtain ⟨es, e3, e4⟩ := Option.bind_eq_some_iff.mp e
    obtain ⟨rfl, rfl⟩ : D.lst es = d ∧ st = st' := ⟨congrArg Prod.fst (Option.some.inj e4), congrArg Prod.snd (Option.some.inj e4)⟩
    unfold fV at e1
    split at e1
    · rename_i dd hd
      cases e1
      obtain ⟨v, hσ, hR⟩ := E.get i _ hd
      obtain ⟨_, hl, a, ws, rfl, hpl, ha, rk⟩ := dict_rep S hR e2
      have wl : kvs.length = ws.length := by have := congrArg List.length rk.1; simpa using this
      refine ⟨a, .dT ws, ha, trivial, fun od => ?_⟩
      refine ⟨.ref a, hσ, a, od, rfl, .inr ⟨ws, upd_same, fun Da hDa => ?_⟩⟩
      have na : Da ≠ a := fun z => by rw [z, upd_same] at hDa; cases hDa
      have hD : H Da = none := by rw [upd_ne na] at hDa; exact hDa
      have nD : Da ∉ μ.hd := fun z => S.hid_ne z hD rfl
      refine ⟨fun n m H2 => m = ws.length - n ∧ n ≤ ws.length ∧ H2 a = some (.frz od (.dT ws)) ∧ ∃ accV, StR G (μ.hide Da) st (upd H2 a (.dT ws)) ∧ Ext G μ H ⟨(μ.hide Da).pl, μ.hd⟩ (upd H2 a (.dT ws)) ∧ H2 Da = some (.lst accV) ∧ Reps G (μ.hide Da) (upd H2 a (.dT ws)) (es.take n) accV,
        ⟨ws.length, by simp, Nat.zero_le _, ?_, [], ?_, ?_, upd_same, .nil⟩, ?_⟩
      · rw [upd_ne (fun z => na z.symm)]; exact upd_same
      · rw [upd_swap na, upd_back ha]
        exact S.hide hD
      · rw [upd_swap na, upd_back ha]
        exact Ext.bare nD hD .refl fun b hb => upd_ne (S.hid_ne hb hD)
      · rintro n m H2 ⟨rfl, hn, hfz, accV, S2, X2, hDa2, RA⟩
        have mD : Da ∈ (μ.hide Da).hd := List.mem_cons_self
        have hDu : upd H2 a (.dT ws) Da = some (.lst accV) := by rw [upd_ne na]; exact hDa2
        have le : es.length = ws.length := (klD_len e3).trans wl
        by_cases hlt : n < ws.length
        · refine .inr ⟨⟨hfz, hlt⟩, fun H5 => H5 a = some (.frz od (.dT ws)) ∧ ∃ accV, StR G (μ.hide Da) st (upd H5 a (.dT ws)) ∧ Ext G μ H ⟨(μ.hide Da).pl, μ.hd⟩ (upd H5 a (.dT ws)) ∧ H5 Da = some (.lst accV) ∧ Reps G (μ.hide Da) (upd H5 a (.dT ws)) (es.take (n + 1)) accV, fun H5 h5 => ⟨ws.length - (n + 1), by omega, rfl, hlt, h5⟩, fun x H3 hy => ?_⟩
          obtain ⟨rfl, k0, v0, q, hk, rfl, hq⟩ := hy
          have kk : ∃ p, kvs[n]? = some p ∧ p.1 = k0 := by
            have h1 : (ws.map (·.1))[n]? = some k0 := by rw [List.getElem?_map, hk]; rfl
            rw [← rk.1, List.getElem?_map] at h1
            obtain ⟨p, h2, h3⟩ := Option.map_eq_some_iff.mp h1
            exact ⟨p, h2, h3⟩
          obtain ⟨p, hp, rfl⟩ := kk
          obtain ⟨xs, hv, hes⟩ := klD_at e3 hp
          obtain ⟨dv, vv, g1, g2, g3⟩ | ⟨g1, _⟩ := val_rep p.1 rk
          · rw [hv] at g1
            cases g1
            have g4 := g3.ext X2
            cases g4 with
            | lst sL rL =>
              rename_i pl ys
              have npa : pl ≠ a := fun z => by
                have := sL.1
                rw [z, upd_same] at this
                cases this
              have hpl2 : H3 pl = some (.lst ys) := by
                have := sL.1
                rw [upd_ne npa] at this
                exact this
              have jl : j < (wipe σ vs).length := by rw [wipe_length, E.len]; exact hz.2
              have sj : ((wipe σ vs).set j (some (V.ref q)))[j]? = some (some (.ref q)) := List.getElem?_set_self jl
              have si : ((wipe σ vs).set j (some (V.ref q)))[i]? = some (some (.ref a)) := by
                rw [List.getElem?_set_ne (fun z => hij z.symm), wipe_get, if_neg hi]
                exact hσ
              refine ⟨(wipe_set_in hj _ _).trans (wipe_idem σ vs), ?_⟩
              unfold tYes
              simp only [if_true]
              refine ⟨.ref q, sj, .ref a, si, .ref q, sj, a, .ref pl, rfl, .inr ⟨ws, p.1, q, .inr ⟨od, hfz⟩, rfl, hq, g2.symm⟩, pl, ys, rfl, .inl (SqL.of hpl2), by rw [sizeLine_eq]; exact (by decide : 2 ≤ 16777216), fun p' hp' => ?_⟩
              have nDp : Da ≠ p' := fun z => by rw [z, hp'] at hDa2; cases hDa2
              have nap : p' ≠ a := fun z => by rw [z, hfz] at hp'; cases hp'
              have hUp : upd H3 a (.dT ws) p' = none := by rw [upd_ne nap]; exact hp'
              have hU5 : upd (upd (upd H3 p' (.tup [.ref q, .int (ys.length : Nat)])) Da (.lst (accV ++ [.ref p']))) a (.dT ws) = upd (upd (upd H3 a (.dT ws)) p' (.tup [.ref q, .int (ys.length : Nat)])) Da (.lst (accV ++ [.ref p'])) := by
                rw [upd_swap na, upd_swap nap]
              have X3 : Ext G (μ.hide Da) (upd H3 a (.dT ws)) (μ.hide Da) (upd (upd H3 a (.dT ws)) p' (.tup [.ref q, .int (ys.length : Nat)])) := Ext.new S2 hUp
              have h9 : upd (upd H3 a (.dT ws)) p' (.tup [.ref q, .int (ys.length : Nat)]) Da = some (.lst accV) := by rw [upd_ne nDp]; exact hDu
              have lx : xs.length = ys.length := rL.length
              refine ⟨accV, by rw [upd_ne nDp]; exact hDa2, ?_, by rw [upd_ne (fun z => na z.symm), upd_ne (fun z => nap z.symm)]; exact hfz, accV ++ [.ref p'], ?_, ?_, upd_same, ?_⟩
              · rw [← RA.length, List.length_take]
                have := hz.1
                omega
              · rw [hU5]
                exact (S2.newT hUp).hset mD
              · rw [hU5]
                exact (X2.step rfl hD X3).stepSet hD h9 nD
              · rw [hU5, List.take_succ, hes]
                have hq5 : upd (upd H3 a (.dT ws)) p' (.tup [.ref q, .int (ys.length : Nat)]) q = some (.tup (p.1.map kV)) := by
                  rw [upd_ne (fun z => by rw [z, hp'] at hq; cases hq), upd_ne (fun z => by rw [z, hfz] at hq; cases hq)]
                  exact hq
                have R' : Reps G (μ.hide Da) (upd (upd H3 a (.dT ws)) p' (.tup [.ref q, .int (ys.length : Nat)])) (es.take n ++ [.tup [keyD p.1, .int (xs.length : Nat)]]) (accV ++ [.ref p']) := (RA.ext X3).append (.cons (.tup upd_same (.cons (.tup hq5 (reps_key p.1)) (.cons (by rw [lx]; exact .int _) .nil))) .nil)
                exact R'.ext0 (Ext0.hset mD h9)
          · rw [hv] at g1; cases g1
        · have hn2 : n = ws.length := by omega
          refine .inl ⟨⟨hfz, by omega⟩, hfz, ?_⟩
          rw [hn2, ← le, List.take_length] at RA
          exact k ⟨(μ.hide Da).pl, μ.hd⟩ _ _ X2 (S2.bare rfl) (.lst ⟨hDu, (S2.dis Da mD).1, nD⟩ (RA.ext0 (Ext0.bare rfl)))
    · cases e1
  · cases e
variable {N : List Str} {sc : Scope}
theorem kl_elt {i j k : Nat} {x t : Str} {p1 p2 p3 p4 p5 p6 p7 : Pos} {kk : Nat} (o : Here G X N sc) (hr : Room k X.A) (hm : G.mg "len" = none) (ni : N[i]? = some x) (nj : N[j]? = some t) (vx : Vis sc x) (vt : Vis sc t) (gl : sc.names.lookup ("len" : Str) = some .globalImplicit) (dx : (x == ("__debug__" : Str)) = false) (cx : (x == ("__classdict__" : Str)) = false) (dt : (t == ("__debug__" : Str)) = false) (ct : (t == ("__classdict__" : Str)) = false) :
    PE X (.Tuple [.Name t p1, .Call (.Name "len" p2) [.Subscript (.Name x p3) (.Name t p4) p5] [] p6] kk p7) (teKL G.K i j) := by
  have un := hr.units
  have vx' : Vis X.env.scope x := by rw [o.sc]; exact vx
  have vt' : Vis X.env.scope t := by rw [o.sc]; exact vt
  have g := pe_dget (pos := p5) (by omega) (pe_var (pos := p3) (o.ix ni) vx' dx cx) (pe_var (pos := p4) (o.ix nj) vt' dt ct) (fun _ _ => rfl)
  have c := pe_callB (p := p2) (pos := p6) call_len_seq (o.gl gl) (by rw [o.on.mg]; exact hm) (by decide +kernel) (pa_cons g pa_nil)
  have r := pe_tup (x1 := kk) (pos := p7) (pa_cons (pe_var (pos := p1) (o.ix nj) vt' dt ct) (pa_cons c pa_nil))
  rw [← o.on.K]
  exact r
theorem de_kl {i j k : Nat} {x t : Str} {p1 p2 p3 p4 p5 p6 p7 p8 p9 pos : Pos} {kk : Nat} {scope : Scope} {own : List (Str × Nat)} (o : Here G X N sc) (hr : Room k X.A) (hm : G.mg "len" = none) (ok : BlkOk N sc scope own) (hij : i ≠ j) (hi : i ∉ own.map (·.2)) (hj : j ∈ own.map (·.2)) (ni : N[i]? = some x) (nj : N[j]? = some t)
    (vx : Vis sc x) (vx' : Vis (reS scope sc) x) (vt : Vis (reS scope sc) t) (lt : Loc (reS scope sc) t) (gl : (reS scope sc).names.lookup ("len" : Str) = some .globalImplicit) (dx : (x == ("__debug__" : Str)) = false) (cx : (x == ("__classdict__" : Str)) = false) (dt : (t == ("__debug__" : Str)) = false) (ct : (t == ("__classdict__" : Str)) = false)
    (hg : ∀ X', Here G X' N (reS scope sc) → X'.A = X.A → PG X' (.Name t p8) (gName j)) (he : ∀ X', Here G X' N (reS scope sc) → X'.A = X.A → PE X' (.Tuple [.Name t p1, .Call (.Name "len" p2) [.Subscript (.Name x p3) (.Name t p4) p5] [] p6] kk p7) (teKL G.K i j)) (hs : ∀ y, foldedSetIterable (.Name x p9) X.env y = pure y := by intro _; rfl) :
    PE X (.ListComp (.Tuple [.Name t p1, .Call (.Name "len" p2) [.Subscript (.Name x p3) (.Name t p4) p5] [] p6] kk p7) [⟨.Name t p8, .Name x p9, [], 0⟩] scope pos) (lift G (fKL i j)) :=
  PE.imp (pe_lock (pe_lc o.on.calm o.ndX (pi_keys (pe_var (o.ix ni) (by rw [o.sc]; exact vx) dx cx)) (by rw [o.N, o.sc]; exact ok) (fun _ _ _ _ _ => hg _ o.blk rfl) (fun _ _ _ _ _ => pts_nil) (fun _ _ _ _ _ => he _ o.blk rfl) hs)) fun _ _ _ => kl_data hij hi hj
theorem x_kl (o : Here G X N sc) (i j : Nat) {k : Nat} {x t : Str} {p1 p2 p3 p4 p5 p6 p7 p8 p9 pos : Pos} {kk : Nat} {scope : Scope} (own : List (Str × Nat)) (hr : Room k X.A) (hm : G.mg "len" = none) (hg : ∀ X', Here G X' N (reS scope sc) → X'.A = X.A → PG X' (.Name t p8) (gOf G.K (.one j)))
    (ok : BlkOk N sc scope own := by exact blkOk_by (by decide +kernel)) (hij : i ≠ j := by decide) (hi : i ∉ own.map (·.2) := by decide) (hj : j ∈ own.map (·.2) := by decide) (ni : N[i]? = some x := by rfl) (nj : N[j]? = some t := by rfl)
    (vx : Vis sc x := by first | exact Or.inl rfl | exact Or.inr (Or.inl rfl) | exact Or.inr (Or.inr rfl)) (vx' : Vis (reS scope sc) x := by first | exact Or.inl rfl | exact Or.inr (Or.inl rfl) | exact Or.inr (Or.inr rfl)) (vt : Vis (reS scope sc) t := by first | exact Or.inl rfl | exact Or.inr (Or.inl rfl) | exact Or.inr (Or.inr rfl))
    (lt : Loc (reS scope sc) t := by first | exact Or.inl rfl | exact Or.inr rfl) (gl : (reS scope sc).names.lookup ("len" : Str) = some .globalImplicit := by rfl) (dx : (x == ("__debug__" : Str)) = false := by decide) (cx : (x == ("__classdict__" : Str)) = false := by decide) (dt : (t == ("__debug__" : Str)) = false := by decide) (ct : (t == ("__classdict__" : Str)) = false := by decide)
    (hs : ∀ y, foldedSetIterable (.Name x p9) X.env y = pure y := by intro _; rfl) :
    PE X (.ListComp (.Tuple [.Name t p1, .Call (.Name "len" p2) [.Subscript (.Name x p3) (.Name t p4) p5] [] p6] kk p7) [⟨.Name t p8, .Name x p9, [], 0⟩] scope pos) (lift G (fKL i j)) :=
  de_kl o hr hm ok hij hi hj ni nj vx vx' vt lt gl dx cx dt ct hg (fun X' o' hA => kl_elt o' (k := k) (by rw [hA]; exact hr) hm ni nj vx' vt gl dx cx dt ct) hs
end
end EL
set_option Elab.async false
set_option linter.all false
set_option maxRecDepth 100000
set_option maxHeartbeats 1000000
namespace EL
open PySem PySem.Spec PyProof.Rows L2 GxR LG
def mergeT (kvs more : List (List Key × V)) : List (List Key × V) := more.foldl (fun acc kv => putK acc kv.1 kv.2) kvs
theorem mergeT_len : ∀ (more kvs : List (List Key × V)), (mergeT kvs more).length ≤ kvs.length + more.length
  | [], kvs => Nat.le_refl _
  | p :: r, kvs => by
    have h1 := mergeT_len r (putK kvs p.1 p.2)
    have h2 := length_putK kvs p.1 p.2
    show (mergeT (putK kvs p.1 p.2) r).length ≤ _
    rw [List.length_cons]
    omega
theorem KT.mergeT {H : Hp} : ∀ {more : List (List Key × V)} {ps : List (List Key × Addr × Value)} {kvs : List (List Key × V)} {xs : List (List Key × Addr × Value)}, KT H more ps → KT H kvs xs → KT H (EL.mergeT kvs more) (storedAllH xs ps)
  | _, _, _, _, .nil, h => h
  | _, _, kvs, xs, .cons (a := p) (b := q) h t, h0 => by
    obtain ⟨e, hb, rv⟩ := h
    have := KT.mergeT t (KT.put h0 p.1 hb rv)
    obtain ⟨p1, p2⟩ := p
    obtain ⟨q1, q2, q3⟩ := q
    simp only at e
    subst e
    exact this
section
variable {X : Cx}
theorem call_tuple_pt : CallR X (.type "tuple") (fun xs H Q => ∃ p ys, xs = [.ref p] ∧ SqL X.K H p ys ∧ ∀ l o, H l = none → o.dict = none → Q (.ref l) (upd H l (.frz o (.tup ys)))) := by
  intro pins s σ H xs us Q I r h
  obtain ⟨p, ys, rfl, hq, q⟩ := h
  obtain ⟨u, rfl, rx⟩ := vals1 r
  cases rx
  obtain ⟨its, r', pl, hz⟩ := I.list hq
  have hlen := r'.length
  refine call_tuple_list pl.isList (fun h' kp => ?_) (by simp only [List.size_toArray] <;> omega)
  have I1 : Inv X pins σ H { s with heap := h' } := I.kept (t' := s.toks) kp
  have I2 : Inv X pins σ (upd H h'.objs.size (.frz { cls := .type "tuple", data := .seq its.toArray } (.tup ys))) { s with heap := h'.push { cls := .type "tuple", data := .seq its.toArray } } :=
    I1.laid (t' := s.toks) (fun b o e => Heap.get?_push_of_some _ e) (Nat.le_refl _) (show ObjOk X.prog X.w _ _ _ (.frz _ (.tup ys)) from ⟨Heap.get?_push_size _ rfl, hz, its, r', IsTup.new _ _⟩)
  exact ⟨.ref h'.objs.size, _, I2, rfl, q _ _ (I1.hok.fresh (Nat.le_refl _)) rfl⟩
theorem pairsT_of {pins : List (Addr × Obj)} {σ : L2.St} {H : Hp} {s : Shared} (I : Inv X pins σ H s) : ∀ {ps : List Addr} {kvs : List (List Key × V)}, Paired (fun p kv => ∃ b, SqT X.K H p [.ref b, kv.2] ∧ H b = some (.tup (kv.1.map kV))) ps kvs →
    ∃ prs : List (List Key × Addr × Value), KT H kvs prs ∧ prs.length = ps.length ∧ ∀ (j : Nat) (q : List Key × Addr × Value), prs[j]? = some q → ∃ b : Addr, ps[j]? = some b ∧ IsTup s.heap b #[.ref q.2.1, q.2.2]
  | _, _, .nil => ⟨[], .nil, rfl, fun j q e => by simp at e⟩
  | _, _, .cons (a := p) (b := kv) h t => by
    obtain ⟨prs, r, hl, hp⟩ := pairsT_of I t
    obtain ⟨b, h1, h2⟩ := h
    obtain ⟨its, rv, ht, _⟩ := I.tuple h1
    obtain ⟨u, y, ei, ru, ry⟩ := vals2 rv
    subst ei
    cases ru
    refine ⟨(kv.1, b, y) :: prs, .cons ⟨rfl, h2, ry⟩ r, by rw [List.length_cons, List.length_cons, hl], fun j q e => ?_⟩
    cases j with
    | zero =>
      have e' : (kv.1, b, y) = q := Option.some.inj e
      subst e'
      exact ⟨p, rfl, ht⟩
    | succ j =>
      obtain ⟨b', e1, e2⟩ := hp j q (by simpa using e)
      exact ⟨b', by simpa using e1, e2⟩
theorem kt_key {H : Hp} : ∀ {kvs : List (List Key × V)} {xs : List (List Key × Addr × Value)}, KT H kvs xs → ∀ x ∈ xs, H x.2.1 = some (.tup (x.1.map kV))
  | _, _, .nil => fun x hx => nomatch hx
  | _, _, .cons h t => fun x hx => by
    rcases List.mem_cons.mp hx with e | hx
    · subst e
      rw [← h.1]; exact h.2.1
    · exact kt_key t x hx
theorem call_dictT (hcalm : X.calm = true) (hun : X.A.units + 6 < cLine) : CallR X (.type "dict") (fun xs H Q => ∃ (a : Addr) (o : Obj) (ps : List Addr) (kvs : List (List Key × V)), xs = [.ref a] ∧ H a = some (.frz o (.tup (ps.map V.ref))) ∧ o.dict = none ∧ Paired (fun p kv => ∃ b, SqT X.K H p [.ref b, kv.2] ∧ H b = some (.tup (kv.1.map kV))) ps kvs ∧
    ∀ p, H p = none → Q (.ref p) (upd H p (.dT (mergeT [] kvs)))) := by
  intro pins s σ H xs us Q I r q
  obtain ⟨a, o, ps, kvs, ex, hq, hod, hp, q⟩ := q
  subst ex
  obtain ⟨u, eu, rx⟩ := vals1 r
  subst eu
  cases rx
  obtain ⟨ho, hz, its, rv, o', ho', hc, n, hdat⟩ := (show ObjOk X.prog X.w H s.heap a (.frz o (.tup (ps.map V.ref))) from I.hok a _ hq)
  rw [ho] at ho'
  cases ho'
  have ei := refs_at rv
  subst ei
  rw [List.length_map] at hz
  obtain ⟨prs, rel, hl, hpr⟩ := pairsT_of I hp
  have lk : prs.length = kvs.length := (Paired.length rel).symm
  have room : (tupleKind (mixKind X.prog X.w)).room X.A.in1.in1 := by
    show X.A.in1.in1.units < cLine
    have : X.A.in1.in1.units ≤ X.A.units + 2 := by first | exact Nat.le_refl _ | (simp [Around.in1]; done) | (unfold Around.in1; simp)
    omega
  refine call_dict_pairsH (knd := tupleKind (mixKind X.prog X.w)) (ps := prs) (PairArg.tuple a (ps.map Value.ref).toArray (fun j => (ps[j]?).getD 0) (prs.map fun q => (.ref q.2.1, q.2.2))) (I.ok.hd hcalm) room ⟨⟨o, n, ho, hc, hod, hdat⟩, ?_, ?_⟩ ⟨by simp, fun i key v hr => ?_⟩ ?_ (by simp [hl]; exact hz) fun h' tk hd' k => ?_
  · simp [hl]
  · intro j k v hj
    rw [List.getElem?_map] at hj
    obtain ⟨z, hz1, hz2⟩ := Option.map_eq_some_iff.mp hj
    cases hz2
    obtain ⟨b, e1, e2⟩ := hpr j z hz1
    refine ⟨by simp [e1], .inl ?_⟩
    show s.heap.IsTuple ((ps[j]?).getD 0) _
    rw [e1]
    exact e2
  · rw [PairRel, List.getElem?_map] at hr
    obtain ⟨z, hz1, hz2⟩ := Option.map_eq_some_iff.mp hr
    cases hz2
    exact ⟨z.1, z.2.1, hz1, rfl⟩
  · intro h' hk x hx
    have hH := kt_key rel x hx
    obtain ⟨ob, its', n', h1, h2, h3, h4⟩ := key_of I.hok hH
    exact ⟨ob, its', n', hk _ _ (Nat.ne_of_lt (Heap.lt_size h1)) (by simp) h1, h2, h3, h4⟩
  · have hm : (s.heap.objs.size == sysModules) = false := beq_eq_false_iff_ne.mpr (Nat.ne_of_gt I.big)
    have hlen : (mergeT [] kvs).length ≤ sizeLine := by
      refine Nat.le_trans (mergeT_len kvs []) ?_
      rw [List.length_nil, Nat.zero_add, ← lk, hl]
      exact hz
    have kk : ∀ b o, s.heap.get? b = some o → h'.get? b = some o := fun b o e => k b o (by simp) e
    have hf := I.hok.fresh (Nat.le_refl s.heap.objs.size)
    obtain ⟨q1, es, ep, hq1, h2, h3, h4, _, h5⟩ := hd'
    refine ⟨.ref s.heap.objs.size, upd H s.heap.objs.size (.dT (mergeT [] kvs)), I.laid (t' := tk) kk (Nat.le_refl _) (show ObjOk X.prog X.w _ _ _ (.dT (mergeT [] kvs)) from ⟨hlen, hm, storedAllH [] prs, ?_, q1, es, ep, hq1, h2, h3, h4, h5⟩), rfl, q _ hf⟩
    exact KT.keeps (KT.mergeT rel .nil) fun b ys e => by rw [upd_ne (ne_of_none e hf)]; exact e
end
def ptD : HA
  | [c], st => (listOf c st).map fun ds => (.pt ds, st)
  | _, _ => none
def pairsT : List D → Option (List (List Key × D))
  | [] => some []
  | .tup [k, v] :: ds => (keyOf k).bind fun q => (pairsT ds).bind fun r => some ((q, v) :: r)
  | _ :: _ => none
def mergeDT (kvs more : List (List Key × D)) : List (List Key × D) := more.foldl (fun acc kv => putD acc kv.1 kv.2) kvs
def dictPt : HA
  | [.pt ds], st => (pairsT ds).bind fun kvs => some (.ref st.length, st ++ [.dT (mergeDT [] kvs)])
  | _, _ => none
section
variable {G : G0} {X : Cx} {μ : Mu} {H : Hp}
theorem dc_pt (o : On G X) : CallR X (.type "tuple") (rDA G ptD) := CallR.imp call_tuple_pt fun xs H Q ⟨μ, st, ds, z, st', S, R, e, k⟩ => by
  unfold ptD at e
  split at e
  · obtain ⟨ys, e1, e2⟩ := Option.map_eq_some_iff.mp e
    cases e2
    cases R with
    | cons r t =>
      cases t
      obtain ⟨a, vs, rfl, h1, h2⟩ := list_rep S r e1
      refine ⟨a, vs, rfl, by rw [o.K]; exact h1, fun l ob hl hod => ?_⟩
      exact k μ _ _ (Ext.new S hl) (S.newT hl) (.pt upd_same hod (h2.ext (Ext.new S hl)))
  · cases e
theorem pairsT_rep : ∀ {ds : List D} {vs : List V} {kvs : List (List Key × D)}, Reps G μ H ds vs → pairsT ds = some kvs → ∃ (ps : List Addr) (kw : List (List Key × V)), vs = ps.map V.ref ∧ Paired (fun p kv => ∃ b, H p = some (.tup [.ref b, kv.2]) ∧ H b = some (.tup (kv.1.map kV))) ps kw ∧ RKs G μ H kvs kw
  | [], _, _, .nil, e => by cases e; exact ⟨[], [], rfl, .nil, rfl, .nil⟩
  | d :: ds, _, kvs, .cons r t, e => by
    unfold pairsT at e
    split at e
    · cases ‹d :: ds = []›
    · rename_i k v ds' heq
      cases heq
      obtain ⟨q, e1, e⟩ := Option.bind_eq_some_iff.mp e
      obtain ⟨rr, e2, e3⟩ := Option.bind_eq_some_iff.mp e
      cases e3
      obtain ⟨ps, kw, h1, h2, h3, h4⟩ := pairsT_rep t e2
      cases r with
      | tup s r2 =>
        cases r2 with
        | cons rk r3 => cases r3 with
          | cons rv r4 =>
            cases r4
            obtain ⟨b, rfl, hb⟩ := key_rep rk e1
            exact ⟨_ :: ps, (q, _) :: kw, by rw [h1]; rfl, .cons ⟨b, s, hb⟩ h2, by simp [h3], .cons rv h4⟩
    · cases e
theorem mergeT_rep : ∀ {more : List (List Key × D)} {mv : List (List Key × V)} {kvs : List (List Key × D)} {vs : List (List Key × V)}, RKs G μ H more mv → RKs G μ H kvs vs → RKs G μ H (mergeDT kvs more) (mergeT vs mv)
  | [], [], _, _, _, h => h
  | [], _ :: _, _, _, h, _ => by have := h.1; simp at this
  | _ :: _, [], _, _, h, _ => by have := h.1; simp at this
  | (a, d) :: more, (b, v) :: mv, kvs, vs, h, h0 => by
    obtain ⟨h1, h2⟩ := h
    simp only [List.map_cons, List.cons.injEq] at h1 h2
    obtain ⟨rfl, h1⟩ := h1
    cases h2 with
    | cons r t => exact mergeT_rep (more := more) (mv := mv) ⟨h1, t⟩ (put_rep h0 r)
theorem dc_dictPt {j : Nat} (o : On G X) (hr : Room j X.A) : CallR X (.type "dict") (rDA G dictPt) := by
  have un := hr.units
  refine CallR.imp (call_dictT o.calm (by omega)) fun xs H Q ⟨μ, st, ds, z, st', S, R, e, k⟩ => ?_
  unfold dictPt at e
  split at e
  · obtain ⟨kvs, e2, e3⟩ := Option.bind_eq_some_iff.mp e
    cases e3
    cases R with
    | cons r t =>
      cases t
      cases r with
      | pt s hd r =>
        obtain ⟨ps, kw, rfl, h3, h4⟩ := pairsT_rep r e2
        refine ⟨_, _, ps, kw, rfl, s, hd, paired_imp (fun p kv ⟨b, h, hb⟩ => ⟨b, SqT.of h, hb⟩) h3, fun p hp => ?_⟩
        refine k (μ.add p) _ _ (Ext.newAt S hp) (S.newO hp trivial ⟨_, upd_same, (mergeT_rep h4 ⟨rfl, .nil⟩).ext (Ext.newAt S hp)⟩) (.ref ?_)
        show (μ.pl ++ [p])[st.length]? = some p
        rw [← S.len]
        simp
  · cases e
end
def ltX (c d : D) (st : Sto) : Option (D × Sto) := (intsOf1 c).bind fun ns => (intsOf1 d).bind fun ms => some (.bl (HT.lexLt ns ms), st)
theorem do_ltX {G : G0} {X : Cx} {j : Nat} (o : On G X) (hr : Room j X.A) : OpR X (compareOp .Lt) (rD G ltX) := by
  have un := hr.units
  refine OpR.imp (op_ltT (by omega)) fun x y H Q ⟨μ, st, c, d, z, st', S, Rc, Rd, e, k⟩ => ?_
  unfold ltX at e
  obtain ⟨ns, e1, e⟩ := Option.bind_eq_some_iff.mp e
  obtain ⟨ms, e2, e⟩ := Option.bind_eq_some_iff.mp e
  cases e
  obtain ⟨a, rfl, h1⟩ := key_rep1 Rc e1
  obtain ⟨b, rfl, h2⟩ := key_rep1 Rd e2
  exact ⟨a, b, ns, ms, rfl, rfl, SqT.of h1, SqT.of h2, k μ H _ .refl S (.bl _)⟩
end EL
set_option Elab.async false
set_option linter.all false
set_option maxRecDepth 100000
set_option maxHeartbeats 1000000
namespace EL
open PySem PySem.Spec PyProof.Rows L2 GxR LG
end EL
set_option Elab.async false
set_option linter.all false
set_option maxRecDepth 100000
set_option maxHeartbeats 3200000
namespace EL
open PySem PySem.Spec PyProof.Rows L2 GxR LG
end EL
set_option Elab.async false
set_option linter.all false
set_option maxRecDepth 100000
set_option maxHeartbeats 4000000
namespace FW
open PySem PySem.Spec PyProof.Rows L2 GxR LG EL
noncomputable def sb_is_tuple_of : FS :=
    (sRet (fAnd (fCall isiD (fCons (fV 0) (fCons (fC (.ty "tuple")) fNil))) (fOp eqD (fCall lenD (fCons (fV 0) fNil)) (fV 1))))
noncomputable def fn_is_tuple_of : HA := sealFn (runD 2 sb_is_tuple_of)
noncomputable def sb_is_number : FS :=
    (sRet (fAnd (fCall isiD (fCons (fV 0) (fCons (fC (.ty "int")) fNil))) (fNot (fCall isiD (fCons (fV 0) (fCons (fC (.ty "bool")) fNil))))))
noncomputable def fn_is_number : HA := sealFn (runD 1 sb_is_number)
noncomputable def sb_is_whole : FS :=
    (sRet (fAnd (fFn 1 fn_is_number (fCons (fV 0) fNil)) (fChain leD leD (fV 1) (fV 0) (fV 2))))
noncomputable def fn_is_whole : HA := sealFn (runD 3 sb_is_whole)
noncomputable def sb_names_of : FS :=
    (sRet (fLcZ (iSeq (fV 0)) (.one 1) fYes (fOp ixD (fV 1) (fC (.int 0))) [1]))
noncomputable def fn_names_of : HA := sealFn (runD 2 sb_names_of)
noncomputable def sb_is_tuning : FS :=
    (sSeq (sSet 2 (fOp ixD (fV 0) (fC (.int 0))))
    (sRet (fAnd (fFn 2 fn_is_tuple_of (fCons (fV 1) (fCons (fCall lenD (fCons (fV 2) fNil)) fNil))) (fAllG (iSeq (fV 1)) (.one 0) (fFn 3 fn_is_whole (fCons (fV 0) (fCons (fC (.int 0)) (fCons (fC (.int 9)) fNil)))) [none]))))
noncomputable def fn_is_tuning : HA := sealFn (runD 3 sb_is_tuning)
noncomputable def sb__law_bag : FS :=
    (sSeq (sSet 2 (fC (.int 0)))
    (sSeq (sIf (fTst (fOp ltD (fV 1) (fCall lenD (fCons (fV 0) fNil)))) (sSet 2 (fCall absD (fCons (fOp ixD (fV 0) (fV 1)) fNil))) sNext)
    (sSeq (sIf (fTst (fOp ltD (fV 2) (fOp powD (fC (.int 10)) (fC (.int 18))))) (sRet (fLst (fCons (fC (.int 0)) (fCons (fOp addD (fC (.int 1)) (fOp modD (fOp addD (fOp mulD (fV 2) (fC (.int 7919))) (fOp mulD (fC (.int 104729)) (fV 1))) (fC (.int 2147483646)))) fNil)))) sNext)
    (sRet (fLst (fCons (fV 2) (fCons (fOp addD (fC (.int 1)) (fOp modD (fOp addD (fV 2) (fV 1)) (fC (.int 2147483646)))) fNil)))))))
noncomputable def fn__law_bag : HA := runD 3 sb__law_bag
noncomputable def sb__law_take : FS :=
    (sSeq (sIf (fTst (fOp gtD (fOp ixD (fV 0) (fC (.int 0))) (fC (.int 0)))) (sSeq (sSet 2 (fOp modD (fOp ixD (fV 0) (fC (.int 0))) (fV 1)))
    (sSeq (sPut (fOp fdivD (fOp ixD (fV 0) (fC (.int 0))) (fV 1)) (fV 0) (fC (.int 0)))
    (sRet (fV 2)))) sNext)
    (sSeq (sPut (fOp modD (fOp mulD (fOp ixD (fV 0) (fC (.int 1))) (fC (.int 48271))) (fC (.int 2147483647))) (fV 0) (fC (.int 1)))
    (sRet (fOp modD (fOp fdivD (fOp modD (fOp mulD (fOp ixD (fV 0) (fC (.int 1))) (fOp ixD (fV 0) (fC (.int 1)))) (fC (.int 2147483629))) (fC (.int 64))) (fV 1)))))
noncomputable def fn__law_take : HA := sealFn (runD 3 sb__law_take)
noncomputable def sb__law_stations : FS :=
    (sSeq (sSet 2 (fLst fNil))
    (sSeq (sSet 3 (fOp ixD (fLz (fCons (fC (.int 4)) (fCons (fC (.int 12)) (fCons (fC (.int 60)) (fCons (fC (.int 1000)) fNil))))) (fFn 2 fn__law_take (fCons (fV 0) (fCons (fC (.int 4)) fNil)))))
    (sSeq (sFor (iSeq (fSl (fLz (fCons (fC (.str "ann")) (fCons (fC (.str "bo")) (fCons (fC (.str "cy")) (fCons (fC (.str "dee")) (fCons (fC (.str "eli")) (fCons (fC (.str "fay")) (fCons (fC (.str "gus")) (fCons (fC (.str "hal")) fNil))))))))) oNone (oSome (fOp addD (fC (.int 1)) (fFn 2 fn__law_take (fCons (fV 0) (fCons (fV 1) fNil))))))) (.one 4) (sSeq (sPar [5, 6] (fCons (fOp subD (fFn 2 fn__law_take (fCons (fV 0) (fCons (fOp addD (fOp mulD (fC (.int 2)) (fV 3)) (fC (.int 1))) fNil))) (fV 3)) (fCons (fOp subD (fFn 2 fn__law_take (fCons (fV 0) (fCons (fOp addD (fOp mulD (fC (.int 2)) (fV 3)) (fC (.int 1))) fNil))) (fV 3)) fNil)))
    (sSeq (sSet 7 (fOp addD (fC (.int 1)) (fOp fdivD (fV 3) (fC (.int 3)))))
    (sSeq (sSet 8 (fTup (fCons (fCall maxD (fCons (fNeg (fC (.int 1000))) (fCons (fOp subD (fV 5) (fFn 2 fn__law_take (fCons (fV 0) (fCons (fV 7) fNil)))) fNil))) (fCons (fCall minD (fCons (fC (.int 1000)) (fCons (fOp addD (fV 6) (fFn 2 fn__law_take (fCons (fV 0) (fCons (fV 7) fNil)))) fNil))) fNil))))
    (sSeq (sSet 9 (fOp ixD (fLz (fCons (fC (.int 1)) (fCons (fC (.int 100)) (fCons (fOp addD (fC (.int 1)) (fFn 2 fn__law_take (fCons (fV 0) (fCons (fC (.int 1000)) fNil)))) (fCons (fOp addD (fC (.int 1)) (fFn 2 fn__law_take (fCons (fV 0) (fCons (fC (.int 1000000)) fNil)))) fNil))))) (fFn 2 fn__law_take (fCons (fV 0) (fCons (fC (.int 4)) fNil)))))
    (sSeq (sSet 10 (fOp addD (fC (.int 1)) (fFn 2 fn__law_take (fCons (fV 0) (fCons (fOp ixD (fLz (fCons (fC (.int 2)) (fCons (fC (.int 10)) (fCons (fC (.int 1000)) fNil)))) (fFn 2 fn__law_take (fCons (fV 0) (fCons (fC (.int 3)) fNil)))) fNil)))))
    (sExpr (fApp (fV 2) (fTup (fCons (fV 4) (fCons (fTup (fCons (fV 5) (fCons (fV 6) fNil))) (fCons (fV 9) (fCons (fV 8) (fCons (fV 10) fNil))))))))))))))
    (sRet (fCall tupleD (fCons (fV 2) fNil))))))
noncomputable def fn__law_stations : HA := sealFn (runD 11 sb__law_stations)
noncomputable def sb__law_air : FS :=
    (sRet (fTup (fCons (fFn 2 fn__law_stations (fCons (fV 0) (fCons (fV 1) fNil))) (fCons (fOp ixD (fLz (fCons (fC (.int 1)) (fCons (fC (.int 1000)) (fCons (fOp addD (fC (.int 1)) (fFn 2 fn__law_take (fCons (fV 0) (fCons (fC (.int 50)) fNil)))) fNil)))) (fFn 2 fn__law_take (fCons (fV 0) (fCons (fC (.int 3)) fNil)))) fNil))))
noncomputable def fn__law_air : HA := sealFn (runD 2 sb__law_air)
noncomputable def sb__law_tuning : FS :=
    (sSeq (sSet 4 (fLst fNil))
    (sSeq (sFor (iSeq (fOp ixD (fV 1) (fC (.int 0)))) (.one 5) (sExpr (fApp (fV 4) (fIf (fTAnd (fTru (fV 3)) (fTst (fOp eqD (fFn 2 fn__law_take (fCons (fV 0) (fCons (fC (.int 4)) fNil))) (fC (.int 0))))) (fC (.int 0)) (fOp addD (fC (.int 1)) (fFn 2 fn__law_take (fCons (fV 0) (fCons (fV 2) fNil))))))))
    (sRet (fCall tupleD (fCons (fV 4) fNil)))))
noncomputable def fn__law_tuning : HA := sealFn (runD 6 sb__law_tuning)
noncomputable def sb__law_of : FS :=
    (sRet (fOp ixD (fV 1) (fFn 2 fn__law_take (fCons (fV 0) (fCons (fCall lenD (fCons (fV 1) fNil)) fNil)))))
noncomputable def fn__law_of : HA := sealFn (runD 2 sb__law_of)
noncomputable def sb_seat : FS :=
    (sSeq (sFor (iEnum (fCons (fV 0) fNil)) (.many [2, 3]) (sIf (fTst (fOp eqD (fOp ixD (fV 3) (fC (.int 0))) (fV 1))) (sRet (fV 2)) sNext))
    sNever)
noncomputable def fn_seat : HA := sealFn (runD 4 sb_seat)
noncomputable def sb_spread : FS :=
    (sSeq (sSet 2 (fOp subD (fOp ixD (fV 1) (fC (.int 0))) (fOp ixD (fV 0) (fC (.int 0)))))
    (sSeq (sSet 3 (fOp subD (fOp ixD (fV 1) (fC (.int 1))) (fOp ixD (fV 0) (fC (.int 1)))))
    (sRet (fOp addD (fOp addD (fOp mulD (fV 2) (fV 2)) (fOp mulD (fV 3) (fV 3))) (fC (.int 1))))))
noncomputable def fn_spread : HA := sealFn (runD 4 sb_spread)
noncomputable def sb_ear : FS :=
    (sSeq (sUnp (.many [2, 3]) (fV 0))
    (sSeq (sUnp (.many [4, 5]) (fSl (fOp ixD (fV 2) (fV 1)) (oSome (fC (.int 3))) oNone))
    (sSeq (sSet 6 (fLcZ (iSeq (fV 2)) (.one 11) fYes (fFn 2 fn_spread (fCons (fOp ixD (fV 11) (fC (.int 1))) (fCons (fV 4) fNil))) [11]))
    (sSeq (sSet 7 (fC (.int 1)))
    (sSeq (sFor (iSeq (fV 6)) (.one 8) (sAug 7 imulD (fV 8)))
    (sSeq (sSet 9 (fLcZ (iZip2 (fCons (fV 2) (fCons (fV 6) fNil))) (.many [11, 8]) fYes (fOp mulD (fOp ixD (fV 11) (fC (.int 2))) (fOp fdivD (fV 7) (fV 8))) [11, 8]))
    (sSeq (sSet 10 (fLc (iSeq (fV 9)) (.one 12) fYes (fTup (fCons (fOp mulD (fOp mulD (fV 5) (fV 3)) (fV 12)) (fCons (fOp mulD (fV 5) (fV 12)) (fCons (fC (.int 0)) fNil)))) [12]))
    (sSeq (sPut (fTup (fCons (fC (.int 0)) (fCons (fC (.int 0)) (fCons (fC (.int 0)) fNil)))) (fV 10) (fV 1))
    (sRet (fTup (fCons (fOp mulD (fV 3) (fOp ixD (fV 9) (fV 1))) (fCons (fV 10) fNil))))))))))))
noncomputable def fn_ear : HA := sealFn (runD 13 sb_ear)
noncomputable def sb_gap : FS :=
    (sSeq (sIf (fTst (fOp (inW false) (fC (.int 0)) (fTup (fCons (fV 0) (fCons (fV 1) fNil))))) (sRet (fC (.int 2))) sNext)
    (sRet (fCall minD (fCons (fCall absD (fCons (fOp subD (fV 0) (fV 1)) fNil)) (fCons (fC (.int 2)) fNil)))))
noncomputable def fn_gap : HA := sealFn (runD 2 sb_gap)
noncomputable def sb_hears : FS :=
    (sSeq (sUnp (.many [3, 4]) (fV 0))
    (sRet (fOp geD (fV 3) (fCall sumD (fCons (fLcZ (iZip2 (fCons (fV 4) (fCons (fV 2) fNil))) (.many [5, 6]) fYes (fOp ixD (fV 5) (fFn 2 fn_gap (fCons (fV 1) (fCons (fV 6) fNil)))) [5, 6]) fNil)))))
noncomputable def fn_hears : HA := sealFn (runD 7 sb_hears)
noncomputable def sb_is_heard : FS :=
    (sSeq (sSet 3 (fFn 2 fn_seat (fCons (fOp ixD (fV 0) (fC (.int 0))) (fCons (fV 2) fNil))))
    (sRet (fAnd (fOp neD (fOp ixD (fV 1) (fV 3)) (fC (.int 0))) (fFn 3 fn_hears (fCons (fFn 2 fn_ear (fCons (fV 0) (fCons (fV 3) fNil))) (fCons (fOp ixD (fV 1) (fV 3)) (fCons (fV 1) fNil)))))))
noncomputable def fn_is_heard : HA := sealFn (runD 4 sb_is_heard)
noncomputable def sb_silenced : FS :=
    (sSeq (sSet 3 (fOp ixD (fV 0) (fC (.int 0))))
    (sRet (fTupG (iZip2 (fCons (fV 3) (fCons (fV 1) fNil))) (.many [0, 1]) (fIf (fTst (fOp (inW false) (fOp ixD (fV 0) (fC (.int 0))) (fV 2))) (fC (.int 0)) (fV 1)) [none, none, some 2])))
noncomputable def fn_silenced : HA := sealFn (runD 4 sb_silenced)
noncomputable def sb__law_names : FS :=
    (sRet (fLcZ (iSeq (fOp ixD (fV 0) (fC (.int 0)))) (.one 1) fYes (fOp ixD (fV 1) (fC (.int 0))) [1]))
noncomputable def fn__law_names : HA := sealFn (runD 2 sb__law_names)
noncomputable def sb__law_part : FS :=
    (sSeq (sPar [2, 3] (fCons (fOp subD (fOp ixD (fOp ixD (fV 0) (fC (.int 1))) (fC (.int 0))) (fOp ixD (fOp ixD (fV 1) (fC (.int 3))) (fC (.int 0)))) (fCons (fOp subD (fOp ixD (fOp ixD (fV 0) (fC (.int 1))) (fC (.int 1))) (fOp ixD (fOp ixD (fV 1) (fC (.int 3))) (fC (.int 1)))) fNil)))
    (sRet (fTup (fCons (fOp ixD (fV 0) (fC (.int 2))) (fCons (fOp addD (fOp addD (fOp powD (fV 2) (fC (.int 2))) (fOp powD (fV 3) (fC (.int 2)))) (fC (.int 1))) fNil)))))
noncomputable def fn__law_part : HA := sealFn (runD 4 sb__law_part)
noncomputable def sb__law_rows : FS :=
    (sSeq (sSet 3 (fLst fNil))
    (sSeq (sFor (iEnum (fCons (fOp ixD (fV 0) (fC (.int 0))) fNil)) (.many [4, 5]) (sIf (fTAnd (fTst (fOp neD (fV 4) (fV 2))) (fTst (fOp gtD (fOp mulD (fOp ixD (fV 1) (fV 2)) (fOp ixD (fV 1) (fV 4))) (fC (.int 0))))) (sSeq (sUnp (.many [6, 7]) (fFn 2 fn__law_part (fCons (fV 5) (fCons (fOp ixD (fOp ixD (fV 0) (fC (.int 0))) (fV 2)) fNil))))
    (sIf (fTst (fOp eqD (fOp ixD (fV 1) (fV 2)) (fOp ixD (fV 1) (fV 4)))) (sExpr (fApp (fV 3) (fTup (fCons (fV 4) (fCons (fV 6) (fCons (fV 7) fNil)))))) (sIf (fTst (fOp (inW false) (fOp subD (fOp ixD (fV 1) (fV 2)) (fOp ixD (fV 1) (fV 4))) (fLz (fCons (fC (.int 1)) (fCons (fNeg (fC (.int 1))) fNil))))) (sExpr (fApp (fV 3) (fTup (fCons (fV 4) (fCons (fV 6) (fCons (fOp mulD (fV 7) (fOp ixD (fV 0) (fC (.int 1)))) fNil)))))) sNext))) sNext))
    (sRet (fV 3))))
noncomputable def fn__law_rows : HA := sealFn (runD 8 sb__law_rows)
noncomputable def sb__law_sum : FS :=
    (sSeq (sSet 1 (fC (.int 1)))
    (sSeq (sFor (iSeq (fV 0)) (.one 2) (sSet 1 (fOp mulD (fV 1) (fOp ixD (fV 2) (fC (.int 2))))))
    (sRet (fTup (fCons (fCall sumD (fCons (fLcZ (iSeq (fV 0)) (.one 2) fYes (fOp mulD (fOp ixD (fV 2) (fC (.int 1))) (fOp fdivD (fV 1) (fOp ixD (fV 2) (fC (.int 2))))) [2]) fNil)) (fCons (fV 1) fNil))))))
noncomputable def fn__law_sum : HA := sealFn (runD 3 sb__law_sum)
noncomputable def sb__law_stands : FS :=
    (sSeq (sUnp (.many [3, 4]) (fFn 2 fn__law_part (fCons (fOp ixD (fOp ixD (fV 0) (fC (.int 0))) (fV 1)) (fCons (fOp ixD (fOp ixD (fV 0) (fC (.int 0))) (fV 1)) fNil))))
    (sSeq (sUnp (.many [5, 6]) (fFn 1 fn__law_sum (fCons (fV 2) fNil)))
    (sRet (fOp geD (fOp mulD (fV 3) (fV 6)) (fOp mulD (fOp mulD (fOp ixD (fOp ixD (fOp ixD (fV 0) (fC (.int 0))) (fV 1)) (fC (.int 4))) (fV 5)) (fV 4))))))
noncomputable def fn__law_stands : HA := sealFn (runD 7 sb__law_stands)
end FW
set_option Elab.async false
set_option linter.all false
set_option maxRecDepth 100000
set_option maxHeartbeats 4000000
namespace FW
open PySem PySem.Spec PyProof.Rows L2 GxR LG EL
noncomputable def sb_unheard : FS :=
    (sSeq (sSet 2 (fOp ixD (fV 0) (fC (.int 0))))
    (sRet (fLcZ (iZip2 (fCons (fV 2) (fCons (fV 1) fNil))) (.many [3, 4]) (fTAnd (fTst (fOp neD (fV 4) (fC (.int 0)))) (fTNot (fTst (fFn 3 fn_is_heard (fCons (fV 0) (fCons (fV 1) (fCons (fOp ixD (fV 3) (fC (.int 0))) fNil))))))) (fOp ixD (fV 3) (fC (.int 0))) [3, 4])))
noncomputable def fn_unheard : HA := sealFn (runD 5 sb_unheard)
noncomputable def sb_check_size : FS :=
    (sIf (fTst (fOp gtD (fCall lenD (fCons (fOp ixD (fV 0) (fC (.int 0))) fNil)) (fV 1))) sNever sNext)
noncomputable def fn_check_size : HA := sealFn (runD 2 sb_check_size)
noncomputable def sb_ears_of : FS :=
    (sRet (fLcZ (iRange1 (fCons (fCall lenD (fCons (fOp ixD (fV 0) (fC (.int 0))) fNil)) fNil)) (.one 1) fYes (fFn 2 fn_ear (fCons (fV 0) (fCons (fV 1) fNil))) [1]))
noncomputable def fn_ears_of : HA := sealFn (runD 2 sb_ears_of)
noncomputable def sb_first_unheard : FS :=
    (sSeq (sFor (iEnum (fCons (fV 1) fNil)) (.many [2, 3]) (sIf (fTAnd (fTst (fOp neD (fV 3) (fC (.int 0)))) (fTNot (fTst (fFn 3 fn_hears (fCons (fOp ixD (fV 0) (fV 2)) (fCons (fV 3) (fCons (fV 1) fNil))))))) (sRet (fV 2)) sNext))
    (sRet (fC .non)))
noncomputable def fn_first_unheard : HA := sealFn (runD 4 sb_first_unheard)
noncomputable def sb_all_heard : FS :=
    (sRet (fOp (isB false) (fFn 2 fn_first_unheard (fCons (fV 0) (fCons (fV 1) fNil))) (fC .non)))
noncomputable def fn_all_heard : HA := sealFn (runD 2 sb_all_heard)
end FW
set_option Elab.async false
set_option linter.all false
set_option maxRecDepth 100000
set_option maxHeartbeats 4000000
namespace FW
open PySem PySem.Spec PyProof.Rows L2 GxR LG EL
end FW
set_option Elab.async false
set_option linter.all false
set_option maxRecDepth 100000
set_option maxHeartbeats 4000000
namespace FW
open PySem PySem.Spec PyProof.Rows L2 GxR LG EL
noncomputable def sb__law_heard : FS :=
    (sRet (fAnd (fOp gtD (fOp ixD (fV 1) (fV 2)) (fC (.int 0))) (fFn 3 fn__law_stands (fCons (fV 0) (fCons (fV 2) (fCons (fFn 3 fn__law_rows (fCons (fV 0) (fCons (fV 1) (fCons (fV 2) fNil)))) fNil))))))
noncomputable def fn__law_heard : HA := sealFn (runD 3 sb__law_heard)
noncomputable def sb__law_unheard : FS :=
    (sRet (fLcZ (iRange1 (fCons (fCall lenD (fCons (fV 1) fNil)) fNil)) (.one 2) (fTAnd (fTst (fOp gtD (fOp ixD (fV 1) (fV 2)) (fC (.int 0)))) (fTNot (fTst (fFn 3 fn__law_heard (fCons (fV 0) (fCons (fV 1) (fCons (fV 2) fNil))))))) (fV 2) [2]))
noncomputable def fn__law_unheard : HA := sealFn (runD 3 sb__law_unheard)
end FW
set_option Elab.async false
set_option linter.all false
set_option maxRecDepth 100000
set_option maxHeartbeats 4000000
namespace FW
open PySem PySem.Spec PyProof.Rows L2 GxR LG EL
end FW
set_option Elab.async false
set_option linter.all false
set_option maxRecDepth 100000
set_option maxHeartbeats 4000000
namespace FW
open PySem PySem.Spec PyProof.Rows L2 GxR LG EL
noncomputable def sb_check_bands : FS :=
    (sSeq (sExpr (fFn 2 fn_check_size (fCons (fV 0) (fCons (fC (.int 4)) fNil))))
    (sIf (fTNot (fTst (fFn 3 fn_is_whole (fCons (fV 1) (fCons (fC (.int 1)) (fCons (fC (.int 5)) fNil)))))) sNever sNext))
noncomputable def fn_check_bands : HA := sealFn (runD 2 sb_check_bands)
noncomputable def sb_check_tuning : FS :=
    (sSeq (sIf (fTNot (fTst (fFn 2 fn_is_tuning (fCons (fV 0) (fCons (fV 2) fNil))))) sNever sNext)
    (sSeq (sIf (fTst (fAnyG (iSeq (fV 2)) (.one 0) (fOp gtD (fV 0) (fV 1)) [none, some 1])) sNever sNext)
    (sIf (fTNot (fTst (fFn 2 fn_all_heard (fCons (fFn 1 fn_ears_of (fCons (fV 0) fNil)) (fCons (fV 2) fNil))))) sNever sNext)))
noncomputable def fn_check_tuning : HA := sealFn (runD 3 sb_check_tuning)
noncomputable def sb_silent_seats : FS :=
    (sRet (fLcZ (iEnum (fCons (fV 0) fNil)) (.many [1, 2]) (fTst (fOp eqD (fV 2) (fC (.int 0)))) (fV 1) [1, 2]))
noncomputable def fn_silent_seats : HA := sealFn (runD 3 sb_silent_seats)
noncomputable def sb_Judge____init__ : FS :=
    (sSeq (sFldT "Judge" "ears" (fFn 1 fn_ears_of (fCons (fV 1) fNil)) (fV 0))
    (sFldT "Judge" "verdicts" fDNew (fV 0)))
noncomputable def fn_Judge____init__ : HA := runD 2 sb_Judge____init__
noncomputable def sb_retuned : FS :=
    (sRet (fOp addD (fOp addD (fSl (fV 0) oNone (oSome (fV 1))) (fTup (fCons (fV 2) fNil))) (fSl (fV 0) (oSome (fOp addD (fV 1) (fC (.int 1)))) oNone)))
noncomputable def fn_retuned : HA := sealFn (runD 3 sb_retuned)
noncomputable def sb_Judge__allows : FS :=
    (sSeq (sIf (fTst (fOp (inT true) (fV 1) (fFld "Judge" "verdicts" (fV 0)))) (sDPutT (fFn 2 fn_all_heard (fCons (fFld "Judge" "ears" (fV 0)) (fCons (fV 1) fNil))) (fFld "Judge" "verdicts" (fV 0)) (fV 1)) sNext)
    (sRet (fOp getT (fFld "Judge" "verdicts" (fV 0)) (fV 1))))
noncomputable def fn_Judge__allows : HA := sealFn (runD 2 sb_Judge__allows)
noncomputable def sb_moves_from : FS :=
    (sSeq (sSet 3 (fLst fNil))
    (sSeq (sFor (iEnum (fCons (fV 2) fNil)) (.many [4, 5]) (sSeq (sIf (fTst (fOp eqD (fV 5) (fC (.int 0)))) sCont sNext)
    (sFor (iRange2 (fCons (fC (.int 1)) (fCons (fOp addD (fV 1) (fC (.int 1))) fNil))) (.one 6) (sSeq (sSet 7 (fFn 3 fn_retuned (fCons (fV 2) (fCons (fV 4) (fCons (fV 6) fNil)))))
    (sIf (fTAnd (fTst (fOp neD (fV 6) (fV 5))) (fTst (fMeth "Judge" "allows" 2 fn_Judge__allows (fV 0) (fCons (fV 7) fNil)))) (sExpr (fApp (fV 3) (fTup (fCons (fV 4) (fCons (fV 6) (fCons (fV 7) fNil)))))) sNext)))))
    (sRet (fV 3))))
noncomputable def fn_moves_from : HA := sealFn (runD 8 sb_moves_from)
noncomputable def sb_ways : FS :=
    (sSeq (sSet 3 (fMake "Judge" 2 fn_Judge____init__ (fCons (fV 0) fNil)))
    (sSeq (sSet 4 (fFn 1 fn_names_of (fCons (fOp ixD (fV 0) (fC (.int 0))) fNil)))
    (sSeq (sSet 5 (fDisp1 (fV 2) (fLz fNil)))
    (sSeq (sSet 6 (fLz (fCons (fV 2) fNil)))
    (sSeq (sWhile 4000 (fTru (fV 6)) (sSeq (sSet 7 (fLst fNil))
    (sSeq (sFor (iSeq (fV 6)) (.one 8) (sFor (iSeq (fFn 3 fn_moves_from (fCons (fV 3) (fCons (fV 1) (fCons (fV 8) fNil))))) (.many [9, 10, 11]) (sIf (fTst (fOp (inT true) (fV 11) (fV 5))) (sSeq (sDPutT (fLz (fStar (fOp getT (fV 5) (fV 8)) (fCons (fTup (fCons (fOp ixD (fV 4) (fV 9)) (fCons (fV 10) fNil))) fNil))) (fV 5) (fV 11))
    (sExpr (fApp (fV 7) (fV 11)))) sNext)))
    (sSet 6 (fV 7)))))
    (sRet (fV 5)))))))
noncomputable def fn_ways : HA := runD 12 sb_ways
noncomputable def sb_moves : FS :=
    (sSeq (sExpr (fFn 2 fn_check_bands (fCons (fV 0) (fCons (fV 1) fNil))))
    (sSeq (sExpr (fFn 3 fn_check_tuning (fCons (fV 0) (fCons (fV 1) (fCons (fV 2) fNil)))))
    (sSeq (sExpr (fFn 3 fn_check_tuning (fCons (fV 0) (fCons (fV 1) (fCons (fV 3) fNil)))))
    (sSeq (sIf (fTst (fOp neD (fFn 1 fn_silent_seats (fCons (fV 2) fNil)) (fFn 1 fn_silent_seats (fCons (fV 3) fNil)))) sNever sNext)
    (sRet (fDGet1 (fFn 3 fn_ways (fCons (fV 0) (fCons (fV 1) (fCons (fV 2) fNil)))) (fV 3)))))))
noncomputable def fn_moves : HA := sealFn (runD 4 sb_moves)
noncomputable def sb__law_good_tunings : FS :=
    (sSeq (sSet 3 (fLst fNil))
    (sSeq (sFor (iRange1 (fCons (fC (.int 12)) fNil)) (.one 4) (sSeq (sSet 5 (fFn 4 fn__law_tuning (fCons (fV 0) (fCons (fV 1) (fCons (fV 2) (fCons (fOp eqD (fFn 2 fn__law_take (fCons (fV 0) (fCons (fC (.int 3)) fNil))) (fC (.int 0))) fNil))))))
    (sIf (fTst (fOp eqD (fFn 2 fn__law_unheard (fCons (fV 1) (fCons (fV 5) fNil))) (fLz fNil))) (sExpr (fApp (fV 3) (fV 5))) sNext)))
    (sRet (fSl (fV 3) oNone (oSome (fC (.int 4)))))))
noncomputable def fn__law_good_tunings : HA := sealFn (runD 6 sb__law_good_tunings)
end FW
set_option Elab.async false
set_option linter.all false
set_option maxRecDepth 100000
set_option maxHeartbeats 4000000
namespace FW
open PySem PySem.Spec PyProof.Rows L2 GxR LG EL
end FW
set_option Elab.async false
set_option linter.all false
set_option maxRecDepth 100000
set_option maxHeartbeats 4000000
namespace FW
open PySem PySem.Spec PyProof.Rows L2 GxR LG EL
end FW
set_option Elab.async false
set_option linter.all false
set_option maxRecDepth 100000
set_option maxHeartbeats 4000000
namespace FW
open PySem PySem.Spec PyProof.Rows L2 GxR LG EL
noncomputable def sb_moves_table : FS :=
    (sSeq (sExpr (fFn 2 fn_check_bands (fCons (fV 0) (fCons (fV 1) fNil))))
    (sSeq (sExpr (fFn 3 fn_check_tuning (fCons (fV 0) (fCons (fV 1) (fCons (fV 2) fNil)))))
    (sSeq (sSet 3 (fFn 3 fn_ways (fCons (fV 0) (fCons (fV 1) (fCons (fV 2) fNil)))))
    (sRet (fCall ptD (fCons (fCall sortedZ (fCons (fKL 3 4) fNil)) fNil))))))
noncomputable def fn_moves_table : HA := sealFn (runD 5 sb_moves_table)
noncomputable def sb_is_risingT : FS :=
    (sRet (fAllG (iZip2 (fCons (fV 0) (fCons (fSl (fV 0) (oSome (fC (.int 1))) oNone) fNil))) (.many [0, 1]) (fOp ltX (fV 0) (fV 1)) [none, none]))
noncomputable def fn_is_risingT : HA := sealFn (runD 1 sb_is_risingT)
noncomputable def sb_is_numbered : FS :=
    (sRet (fAnd (fFn 2 fn_is_tuple_of (fCons (fV 1) (fCons (fC (.int 2)) fNil))) (fAnd (fFn 2 fn_is_tuning (fCons (fV 0) (fCons (fOp ixD (fV 1) (fC (.int 0))) fNil))) (fFn 1 fn_is_number (fCons (fOp ixD (fV 1) (fC (.int 1))) fNil)))))
noncomputable def fn_is_numbered : HA := sealFn (runD 2 sb_is_numbered)
noncomputable def sb_are_numbered : FS :=
    (sSeq (sIf (fTOr (fTNot (fTst (fCall isiD (fCons (fV 1) (fCons (fC (.ty "tuple")) fNil))))) (fTNot (fTst (fAllG (iSeq (fV 1)) (.one 0) (fFn 2 fn_is_numbered (fCons (fV 1) (fCons (fV 0) fNil))) [none, some 0])))) (sRet (fC (.bl false))) sNext)
    (sRet (fFn 1 fn_is_risingT (fCons (fLcZ (iSeq (fV 1)) (.many [2, 3]) fYes (fV 2) [2, 3]) fNil))))
noncomputable def fn_are_numbered : HA := sealFn (runD 4 sb_are_numbered)
noncomputable def sb_is_moves_table : FS :=
    (sSeq (sExpr (fFn 2 fn_check_bands (fCons (fV 0) (fCons (fV 1) fNil))))
    (sSeq (sExpr (fFn 3 fn_check_tuning (fCons (fV 0) (fCons (fV 1) (fCons (fV 2) fNil)))))
    (sSeq (sIf (fTNot (fTst (fFn 2 fn_are_numbered (fCons (fV 0) (fCons (fV 3) fNil))))) (sRet (fC (.bl false))) sNext)
    (sSeq (sSet 4 (fDcT (iSeq (fV 3)) (.many [6, 7]) (fV 6) (fV 7) [6, 7]))
    (sSeq (sIf (fTst (fOp gtD (fDGet2 (fV 4) (fV 2) (fC (.int 1))) (fC (.int 0)))) (sRet (fC (.bl false))) sNext)
    (sSeq (sSet 5 (fMake "Judge" 2 fn_Judge____init__ (fCons (fV 0) fNil)))
    (sSeq (sFor (iSeq (fV 3)) (.many [6, 7]) (sFor (iSeq (fFn 3 fn_moves_from (fCons (fV 5) (fCons (fV 1) (fCons (fV 6) fNil))))) (.many [8, 9, 10]) (sIf (fTst (fOp gtD (fDGet2 (fV 4) (fV 10) (fOp addD (fV 7) (fC (.int 2)))) (fOp addD (fV 7) (fC (.int 1))))) (sRet (fC (.bl false))) sNext)))
    (sRet (fC (.bl true))))))))))
noncomputable def fn_is_moves_table : HA := sealFn (runD 11 sb_is_moves_table)
noncomputable def sb__law_row_so : FS :=
    (sSeq (sSet 5 (fFn 1 fn__law_names (fCons (fV 0) fNil)))
    (sSeq (sSet 6 (fV 2))
    (sSeq (sFor (iSeq (fV 4)) (.many [7, 8]) (sSeq (sSet 9 (fIdx (fV 5) (fV 7)))
    (sSeq (sIf (fTOr (fTNot (fTst (fChain leD leD (fC (.int 1)) (fV 8) (fV 1)))) (fTst (fOp (inW false) (fOp ixD (fV 6) (fV 9)) (fLz (fCons (fC (.int 0)) (fCons (fV 8) fNil)))))) (sRet (fC (.bl false))) sNext)
    (sSeq (sSet 6 (fOp addD (fOp addD (fSl (fV 6) oNone (oSome (fV 9))) (fTup (fCons (fV 8) fNil))) (fSl (fV 6) (oSome (fOp addD (fV 9) (fC (.int 1)))) oNone)))
    (sIf (fTst (fOp neD (fFn 2 fn_unheard (fCons (fV 0) (fCons (fV 6) fNil))) (fLz fNil))) (sRet (fC (.bl false))) sNext)))))
    (sRet (fOp eqD (fV 6) (fV 3))))))
noncomputable def fn__law_row_so : HA := sealFn (runD 10 sb__law_row_so)
noncomputable def sb__law_steps : FS :=
    (sSeq (sSet 3 (fLst fNil))
    (sSeq (sFor (iEnum (fCons (fFn 1 fn__law_names (fCons (fV 0) fNil)) fNil)) (.many [4, 5]) (sFor (iRange2 (fCons (fC (.int 1)) (fCons (fOp addD (fV 1) (fC (.int 1))) fNil))) (.one 6) (sSeq (sSet 7 (fOp addD (fOp addD (fSl (fV 2) oNone (oSome (fV 4))) (fTup (fCons (fV 6) fNil))) (fSl (fV 2) (oSome (fOp addD (fV 4) (fC (.int 1)))) oNone)))
    (sIf (fTAnd (fTst (fOp gtD (fOp ixD (fV 2) (fV 4)) (fC (.int 0)))) (fTAnd (fTst (fOp neD (fV 6) (fOp ixD (fV 2) (fV 4)))) (fTst (fOp eqD (fFn 2 fn__law_unheard (fCons (fV 0) (fCons (fV 7) fNil))) (fLz fNil))))) (sExpr (fApp (fV 3) (fTup (fCons (fV 5) (fCons (fV 6) (fCons (fV 7) fNil)))))) sNext))))
    (sRet (fV 3))))
noncomputable def fn__law_steps : HA := sealFn (runD 8 sb__law_steps)
noncomputable def sb__law_walk_so : FS :=
    (sSeq (sSet 5 (fV 3))
    (sSeq (sFor (iRange1 (fCons (fC (.int 21)) fNil)) (.one 6) (sSeq (sFor (iSeq (fV 4)) (.one 7) (sIf (fTOr (fTst (fOp (inT true) (fV 5) (fV 7))) (fTst (fOp gtD (fOp getT (fV 7) (fV 5)) (fV 6)))) (sRet (fC (.bl false))) sNext))
    (sSeq (sSet 8 (fFn 3 fn__law_steps (fCons (fV 1) (fCons (fV 2) (fCons (fV 5) fNil)))))
    (sSeq (sIf (fTst (fOp eqD (fV 8) (fLz fNil))) (sRet (fC (.bl true))) sNext)
    (sSet 5 (fOp ixD (fFn 2 fn__law_of (fCons (fV 0) (fCons (fV 8) fNil))) (fC (.int 2))))))))
    (sRet (fC (.bl true)))))
noncomputable def fn__law_walk_so : HA := sealFn (runD 9 sb__law_walk_so)
end FW
set_option Elab.async false
set_option linter.all false
set_option maxRecDepth 100000
set_option maxHeartbeats 4000000
namespace K10
open PySem PySem.Spec PyProof.Rows L2 GxR LG EL FW
/-- the built-ins' names are not taken; the module's numbers -/
structure T0 (G : G0) : Prop where
  b_abs : G.mg "abs" = none
  b_all : G.mg "all" = none
  b_any : G.mg "any" = none
  b_bool : G.mg "bool" = none
  b_dict : G.mg "dict" = none
  b_enumerate : G.mg "enumerate" = none
  b_int : G.mg "int" = none
  b_isinstance : G.mg "isinstance" = none
  b_len : G.mg "len" = none
  b_max : G.mg "max" = none
  b_min : G.mg "min" = none
  b_range : G.mg "range" = none
  b_sorted : G.mg "sorted" = none
  b_sum : G.mg "sum" = none
  b_tuple : G.mg "tuple" = none
  b_zip : G.mg "zip" = none
  c_APART : ∃ t, G.mg "APART" = some (.int 2 t)
  c_LAST_BAND : ∃ t, G.mg "LAST_BAND" = some (.int 9 t)
  c_MOST_BANDS : ∃ t, G.mg "MOST_BANDS" = some (.int 5 t)
  c_MOST_MOVED : ∃ t, G.mg "MOST_MOVED" = some (.int 4 t)
  c_SILENCE : ∃ t, G.mg "SILENCE" = some (.int 0 t)
  k_Judge : ClsF G "Judge" ["ears", "verdicts"]
variable {G : G0}
abbrev W0 : WX := fun _ _ _ _ => False
theorem sc_is_number : FnScope ["thing"] ["thing"] (defScope st_is_number) := ⟨rfl, rfl, rfl, by decide +kernel, rfl, by decide +kernel, by decide +kernel⟩
theorem d_is_number {cdv : Value} (T : T0 G) (F : FnAt G "is_number" st_is_number cdv)  : Def G 1 "is_number" 1 fn_is_number :=
  (def_at (W := W0) (k := 0) (sb := sb_is_number) F sc_is_number (fun _ _ _ _ _ us hl => match us, hl with | [_], _ => rfl) fun f A outer s H o hr hcell =>
    (ds_one (ds_ret (de_and (x_bi o (dc_isi o.on) T.b_isinstance (by decide +kernel) (da_cons (x_var o 0) (da_cons (x_ty o T.b_int (by decide +kernel)) da_nil))) (de_one (de_not (x_bi o (dc_isi o.on) T.b_isinstance (by decide +kernel) (da_cons (x_var o 0) (da_cons (x_ty o T.b_bool (by decide +kernel)) da_nil))))))))).seal
theorem sc_is_whole : FnScope ["thing", "low", "high"] ["thing", "low", "high"] (defScope st_is_whole) := ⟨rfl, rfl, rfl, by decide +kernel, rfl, by decide +kernel, by decide +kernel⟩
theorem d_is_whole {cdv : Value} (T : T0 G) (F : FnAt G "is_whole" st_is_whole cdv) (d_is_number : Def G 1 "is_number" 1 (fn_is_number)) : Def G 2 "is_whole" 3 fn_is_whole :=
  (def_at (W := W0) (k := 1) (sb := sb_is_whole) F sc_is_whole (fun _ _ _ _ _ us hl => match us, hl with | [_, _, _], _ => rfl) fun f A outer s H o hr hcell =>
    (ds_one (ds_ret (de_and (x_call o d_is_number (hr.mono (by decide)) (da_cons (x_var o 0) da_nil)) (de_one (de_chain do_le do_le (x_var o 1) (x_var o 0) (x_var o 2))))))).seal
theorem sc_check_size : FnScope ["air", "most"] ["air", "most"] (defScope st_check_size) := ⟨rfl, rfl, rfl, by decide +kernel, rfl, by decide +kernel, by decide +kernel⟩
theorem d_check_size {cdv : Value} (T : T0 G) (F : FnAt G "check_size" st_check_size cdv)  : Def G 1 "check_size" 2 fn_check_size :=
  (def_at (W := W0) (k := 0) (sb := sb_check_size) F sc_check_size (fun _ _ _ _ _ us hl => match us, hl with | [_, _], _ => rfl) fun f A outer s H o hr hcell =>
    (ds_one (ds_if (dt_cmp do_gt (x_bi o (dc_len o.on) T.b_len (by decide +kernel) (da_cons (x_ix o (x_var o 0) de_int) da_nil)) (x_var o 1) (nomark _)) (ds_one ds_never) ds_nil))).seal
theorem sc_check_bands : FnScope ["air", "many"] ["air", "many"] (defScope st_check_bands) := ⟨rfl, rfl, rfl, by decide +kernel, rfl, by decide +kernel, by decide +kernel⟩
theorem d_check_bands {cdv : Value} (T : T0 G) (F : FnAt G "check_bands" st_check_bands cdv) (d_check_size : Def G 1 "check_size" 2 (fn_check_size)) (d_is_whole : Def G 2 "is_whole" 3 (fn_is_whole)) : Def G 3 "check_bands" 2 fn_check_bands :=
  (def_at (W := W0) (k := 2) (sb := sb_check_bands) F sc_check_bands (fun _ _ _ _ _ us hl => match us, hl with | [_, _], _ => rfl) fun f A outer s H o hr hcell =>
    (ds_cons (ds_expr (x_call o d_check_size (hr.mono (by decide)) (da_cons (x_var o 0) (da_cons (x_gint o T.c_MOST_MOVED) da_nil))))
    (ds_one (ds_if (dt_not (dt_val (x_call o d_is_whole (hr.mono (by decide)) (da_cons (x_var o 1) (da_cons de_int (da_cons (x_gint o T.c_MOST_BANDS) da_nil)))))) (ds_one ds_never) ds_nil)))).seal
theorem sc_is_tuple_of : FnScope ["thing", "many"] ["thing", "many"] (defScope st_is_tuple_of) := ⟨rfl, rfl, rfl, by decide +kernel, rfl, by decide +kernel, by decide +kernel⟩
theorem d_is_tuple_of {cdv : Value} (T : T0 G) (F : FnAt G "is_tuple_of" st_is_tuple_of cdv)  : Def G 1 "is_tuple_of" 2 fn_is_tuple_of :=
  (def_at (W := W0) (k := 0) (sb := sb_is_tuple_of) F sc_is_tuple_of (fun _ _ _ _ _ us hl => match us, hl with | [_, _], _ => rfl) fun f A outer s H o hr hcell =>
    (ds_one (ds_ret (de_and (x_bi o (dc_isi o.on) T.b_isinstance (by decide +kernel) (da_cons (x_var o 0) (da_cons (x_ty o T.b_tuple (by decide +kernel)) da_nil))) (de_one (de_cmp (do_eq (k := 0) o.on (hr.mono (Nat.zero_le _))) (x_bi o (dc_len o.on) T.b_len (by decide +kernel) (da_cons (x_var o 0) da_nil)) (x_var o 1) (nomark _))))))).seal
theorem sc_is_tuning : FnScope ["air", "thing", "stations"] ["air", "thing"] (defScope st_is_tuning) := ⟨rfl, rfl, rfl, by decide +kernel, rfl, by decide +kernel, by decide +kernel⟩
theorem d_is_tuning {cc P : Addr} (hP : P ∈ G.Ps) (hTB : TabB G.base G.mg cc P) (T : T0 G) (F : FnAt G "is_tuning" st_is_tuning (.ref cc)) (d_is_tuple_of : Def G 1 "is_tuple_of" 2 (fn_is_tuple_of)) (d_is_whole : Def G 2 "is_whole" 3 (fn_is_whole)) : Def G 4 "is_tuning" 2 fn_is_tuning :=
  (def_at (W := W0) (k := 3) (sb := sb_is_tuning) F sc_is_tuning (fun _ _ _ _ _ us hl => match us, hl with | [_, _], _ => rfl) fun f A outer s H o hr hcell =>
    (ds_cons (x_set o 2 (x_ix o (x_var o 0) de_int))
    (ds_one (ds_ret (de_and (x_call o d_is_tuple_of (hr.mono (by decide)) (da_cons (x_var o 1) (da_cons (x_bi o (dc_len o.on) T.b_len (by decide +kernel) (da_cons (x_var o 2) da_nil)) da_nil))) (de_one (x_all (k := 2) o ["band"] [none] hP (hr.mono (by decide)) T.b_all hTB rfl (x_in o (x_var o 1)) (fun X' o' hr' => (x_tg1 o' 0)) (fun X' o' hr' => (x_call o' d_is_whole (hr'.mono (by decide)) (da_cons (x_var o' 0) (da_cons (x_gint o' T.c_SILENCE) (da_cons (x_gint o' T.c_LAST_BAND) da_nil))))) (gsc_by o hcell (by decide +kernel)) (hcap := (cap_ok (by decide +kernel)))))))))).seal
theorem sc_spread : FnScope ["place", "hearer", "across", "along"] ["place", "hearer"] (defScope st_spread) := ⟨rfl, rfl, rfl, by decide +kernel, rfl, by decide +kernel, by decide +kernel⟩
theorem d_spread {cdv : Value} (T : T0 G) (F : FnAt G "spread" st_spread cdv)  : Def G 1 "spread" 2 fn_spread :=
  (def_at (W := W0) (k := 0) (sb := sb_spread) F sc_spread (fun _ _ _ _ _ us hl => match us, hl with | [_, _], _ => rfl) fun f A outer s H o hr hcell =>
    (ds_cons (x_set o 2 (x_sub o (x_ix o (x_var o 1) de_int) (x_ix o (x_var o 0) de_int)))
    (ds_cons (x_set o 3 (x_sub o (x_ix o (x_var o 1) de_int) (x_ix o (x_var o 0) de_int)))
    (ds_one (ds_ret (x_add o (x_add o (x_mul o (x_var o 2) (x_var o 2)) (x_mul o (x_var o 3) (x_var o 3))) de_int)))))).seal
theorem sc_ear : FnScope ["air", "at", "stations", "leak", "hearer", "need", "spreads", "product", "much", "shares", "others", "station", "share"] ["air", "at"] (defScope st_ear) := ⟨rfl, rfl, rfl, by decide +kernel, rfl, by decide +kernel, by decide +kernel⟩
theorem d_ear {cdv : Value} (T : T0 G) (F : FnAt G "ear" st_ear cdv) (d_spread : Def G 1 "spread" 2 (fn_spread)) : Def G 2 "ear" 2 fn_ear :=
  (def_at (W := W0) (k := 1) (sb := sb_ear) F sc_ear (fun _ _ _ _ _ us hl => match us, hl with | [_, _], _ => rfl) fun f A outer s H o hr hcell =>
    (ds_cons (ds_unp (x_var o 0) (x_tgm o (x_tgs o 2 (x_tgs o 3 dgs_nil))))
    (ds_cons (ds_unp (x_slice o (x_ix o (x_var o 2) (x_var o 1)) (dp_some de_int) dp_none) (x_tgm o (x_tgs o 4 (x_tgs o 5 dgs_nil))))
    (ds_cons (x_setLcZ o 6 [("station", 11)] (x_in o (x_var o 2)) (fun X' o' hA => (x_tg1 o' 11)) (fun X' o' hA => dts_nil) (fun X' o' hA => (x_call o' d_spread (by rw [hA]; exact (hr.mono (by decide))) (da_cons (x_ix o' (x_var o' 11) de_int) (da_cons (x_var o' 4) da_nil)))))
    (ds_cons (x_set o 7 de_int)
    (ds_cons (x_for o (x_in o (x_var o 6)) (x_tg1 o 8) (ds_one (x_aug o 7 (x_var o 8) dip_mul)))
    (ds_cons (x_setLcZ o 9 [("station", 11), ("much", 8)] (x_zip2 o T.b_zip (da_cons (x_var o 2) (da_cons (x_var o 6) da_nil))) (fun X' o' hA => (x_tgm o' (x_tgs o' 11 (x_tgs o' 8 dgs_nil)))) (fun X' o' hA => dts_nil) (fun X' o' hA => (x_mul o' (x_ix o' (x_var o' 11) de_int) (x_fdiv o' (x_var o' 7) (x_var o' 8)))))
    (ds_cons (x_setLc o 10 [("share", 12)] (x_in o (x_var o 9)) (fun X' o' hA => (x_tg1 o' 12)) (fun X' o' hA => dts_nil) (fun X' o' hA => (de_tup (da_cons (x_mul o' (x_mul o' (x_var o' 5) (x_var o' 3)) (x_var o' 12)) (da_cons (x_mul o' (x_var o' 5) (x_var o' 12)) (da_cons de_int da_nil))))))
    (ds_cons (ds_put (de_tup (da_cons de_int (da_cons de_int (da_cons de_int da_nil)))) (x_var o 10) (x_var o 1) (pg_sub (x_var o 10) (x_var o 1) set_list))
    (ds_one (ds_ret (de_tup (da_cons (x_mul o (x_var o 3) (x_ix o (x_var o 9) (x_var o 1))) (da_cons (x_var o 10) da_nil)))))))))))))).seal
theorem sc_ears_of : FnScope ["air", "at"] ["air"] (defScope st_ears_of) := ⟨rfl, rfl, rfl, by decide +kernel, rfl, by decide +kernel, by decide +kernel⟩
theorem d_ears_of {cdv : Value} (T : T0 G) (F : FnAt G "ears_of" st_ears_of cdv) (d_ear : Def G 2 "ear" 2 (fn_ear)) : Def G 3 "ears_of" 1 fn_ears_of :=
  (def_at (W := W0) (k := 2) (sb := sb_ears_of) F sc_ears_of (fun _ _ _ _ _ us hl => match us, hl with | [_], _ => rfl) fun f A outer s H o hr hcell =>
    (ds_one (ds_ret (x_lcZ o [("at", 1)] (x_rng1 o T.b_range (da_cons (x_bi o (dc_len o.on) T.b_len (by decide +kernel) (da_cons (x_ix o (x_var o 0) de_int) da_nil)) da_nil)) (fun X' o' hA => (x_tg1 o' 1)) (fun X' o' hA => dts_nil) (fun X' o' hA => (x_call o' d_ear (by rw [hA]; exact (hr.mono (by decide))) (da_cons (x_var o' 0) (da_cons (x_var o' 1) da_nil)))))))).seal
theorem sc_gap : FnScope ["band", "other"] ["band", "other"] (defScope st_gap) := ⟨rfl, rfl, rfl, by decide +kernel, rfl, by decide +kernel, by decide +kernel⟩
theorem d_gap {cdv : Value} (T : T0 G) (F : FnAt G "gap" st_gap cdv)  : Def G 1 "gap" 2 fn_gap :=
  (def_at (W := W0) (k := 0) (sb := sb_gap) F sc_gap (fun _ _ _ _ _ us hl => match us, hl with | [_, _], _ => rfl) fun f A outer s H o hr hcell =>
    (ds_cons (ds_if (dt_cmp (do_in (k := 0) o.on (hr.mono (Nat.zero_le _))) (x_gint o T.c_SILENCE) (de_tup (da_cons (x_var o 0) (da_cons (x_var o 1) da_nil))) (by rfl)) (ds_one (ds_ret (x_gint o T.c_APART))) ds_nil)
    (ds_one (ds_ret (x_bi o (dc_min o.on) T.b_min (by decide +kernel) (da_cons (x_bi o dc_abs T.b_abs (by decide +kernel) (da_cons (x_sub o (x_var o 0) (x_var o 1)) da_nil)) (da_cons (x_gint o T.c_APART) da_nil))))))).seal
theorem sc_hears : FnScope ["one_ear", "band", "tuning", "own", "others", "much", "there"] ["one_ear", "band", "tuning"] (defScope st_hears) := ⟨rfl, rfl, rfl, by decide +kernel, rfl, by decide +kernel, by decide +kernel⟩
theorem d_hears {cdv : Value} (T : T0 G) (F : FnAt G "hears" st_hears cdv) (d_gap : Def G 1 "gap" 2 (fn_gap)) : Def G 2 "hears" 3 fn_hears :=
  (def_at (W := W0) (k := 1) (sb := sb_hears) F sc_hears (fun _ _ _ _ _ us hl => match us, hl with | [_, _, _], _ => rfl) fun f A outer s H o hr hcell =>
    (ds_cons (ds_unp (x_var o 0) (x_tgm o (x_tgs o 3 (x_tgs o 4 dgs_nil))))
    (ds_one (ds_ret (de_cmp do_ge (x_var o 3) (x_bi o (dc_sum o.on) T.b_sum (by decide +kernel) (da_cons (x_lcZ o [("much", 5), ("there", 6)] (x_zip2 o T.b_zip (da_cons (x_var o 4) (da_cons (x_var o 2) da_nil))) (fun X' o' hA => (x_tgm o' (x_tgs o' 5 (x_tgs o' 6 dgs_nil)))) (fun X' o' hA => dts_nil) (fun X' o' hA => (x_ix o' (x_var o' 5) (x_call o' d_gap (by rw [hA]; exact (hr.mono (by decide))) (da_cons (x_var o' 1) (da_cons (x_var o' 6) da_nil)))))) da_nil)) (nomark _)))))).seal
theorem sc_first_unheard : FnScope ["ears", "tuning", "at", "band"] ["ears", "tuning"] (defScope st_first_unheard) := ⟨rfl, rfl, rfl, by decide +kernel, rfl, by decide +kernel, by decide +kernel⟩
theorem d_first_unheard {cdv : Value} (T : T0 G) (F : FnAt G "first_unheard" st_first_unheard cdv) (d_hears : Def G 2 "hears" 3 (fn_hears)) : Def G 3 "first_unheard" 2 fn_first_unheard :=
  (def_at (W := W0) (k := 2) (sb := sb_first_unheard) F sc_first_unheard (fun _ _ _ _ _ us hl => match us, hl with | [_, _], _ => rfl) fun f A outer s H o hr hcell =>
    (ds_cons (x_for o (x_enum o T.b_enumerate (da_cons (x_var o 1) da_nil)) (x_tgm o (x_tgs o 2 (x_tgs o 3 dgs_nil))) (ds_one (ds_if (PW.pt (dw_and (dt_cmp (do_ne (k := 0) o.on (hr.mono (Nat.zero_le _))) (x_var o 3) (x_gint o T.c_SILENCE) (nomark _)) (dw_and1 (dt_not (dt_val (x_call o d_hears (hr.mono (by decide)) (da_cons (x_ix o (x_var o 0) (x_var o 2)) (da_cons (x_var o 3) (da_cons (x_var o 1) da_nil))))))))) (ds_one (ds_ret (x_var o 2))) ds_nil)))
    (ds_one (ds_ret de_non)))).seal
theorem sc_all_heard : FnScope ["ears", "tuning"] ["ears", "tuning"] (defScope st_all_heard) := ⟨rfl, rfl, rfl, by decide +kernel, rfl, by decide +kernel, by decide +kernel⟩
theorem d_all_heard {cdv : Value} (T : T0 G) (F : FnAt G "all_heard" st_all_heard cdv) (d_first_unheard : Def G 3 "first_unheard" 2 (fn_first_unheard)) : Def G 4 "all_heard" 2 fn_all_heard :=
  (def_at (W := W0) (k := 3) (sb := sb_all_heard) F sc_all_heard (fun _ _ _ _ _ us hl => match us, hl with | [_, _], _ => rfl) fun f A outer s H o hr hcell =>
    (ds_one (ds_ret (de_cmp do_isB (x_call o d_first_unheard (hr.mono (by decide)) (da_cons (x_var o 0) (da_cons (x_var o 1) da_nil))) de_non (nomark _))))).seal
theorem sc_check_tuning : FnScope ["air", "many", "thing"] ["air", "many", "thing"] (defScope st_check_tuning) := ⟨rfl, rfl, rfl, by decide +kernel, rfl, by decide +kernel, by decide +kernel⟩
theorem d_check_tuning {cc P : Addr} (hP : P ∈ G.Ps) (hTB : TabB G.base G.mg cc P) (T : T0 G) (F : FnAt G "check_tuning" st_check_tuning (.ref cc)) (d_all_heard : Def G 4 "all_heard" 2 (fn_all_heard)) (d_ears_of : Def G 3 "ears_of" 1 (fn_ears_of)) (d_is_tuning : Def G 4 "is_tuning" 2 (fn_is_tuning)) : Def G 5 "check_tuning" 3 fn_check_tuning :=
  (def_at (W := W0) (k := 4) (sb := sb_check_tuning) F sc_check_tuning (fun _ _ _ _ _ us hl => match us, hl with | [_, _, _], _ => rfl) fun f A outer s H o hr hcell =>
    (ds_cons (ds_if (dt_not (dt_val (x_call o d_is_tuning (hr.mono (by decide)) (da_cons (x_var o 0) (da_cons (x_var o 2) da_nil))))) (ds_one ds_never) ds_nil)
    (ds_cons (ds_if (dt_val (x_any (k := 0) o ["band", "many"] [none, some 1] hP (hr.mono (by decide)) T.b_any hTB rfl (x_in o (x_var o 2)) (fun X' o' hr' => (x_tg1 o' 0)) (fun X' o' hr' => (de_cmp do_gt (x_var o' 0) (x_var o' 1) (nomark _))) (gsc_by o hcell (by decide +kernel)) (hcap := (cap_ok (by decide +kernel))))) (ds_one ds_never) ds_nil)
    (ds_one (ds_if (dt_not (dt_val (x_call o d_all_heard (hr.mono (by decide)) (da_cons (x_call o d_ears_of (hr.mono (by decide)) (da_cons (x_var o 0) da_nil)) (da_cons (x_var o 2) da_nil))))) (ds_one ds_never) ds_nil))))).seal
theorem sc_silent_seats : FnScope ["tuning", "at", "band"] ["tuning"] (defScope st_silent_seats) := ⟨rfl, rfl, rfl, by decide +kernel, rfl, by decide +kernel, by decide +kernel⟩
theorem d_silent_seats {cdv : Value} (T : T0 G) (F : FnAt G "silent_seats" st_silent_seats cdv)  : Def G 1 "silent_seats" 1 fn_silent_seats :=
  (def_at (W := W0) (k := 0) (sb := sb_silent_seats) F sc_silent_seats (fun _ _ _ _ _ us hl => match us, hl with | [_], _ => rfl) fun f A outer s H o hr hcell =>
    (ds_one (ds_ret (x_lcZ o [("at", 1), ("band", 2)] (x_enum o T.b_enumerate (da_cons (x_var o 0) da_nil)) (fun X' o' hA => (x_tgm o' (x_tgs o' 1 (x_tgs o' 2 dgs_nil)))) (fun X' o' hA => (dts_one (dt_cmp (do_eq (k := 0) o'.on (by rw [hA]; exact (hr.mono (Nat.zero_le _)))) (x_var o' 2) (x_gint o' T.c_SILENCE) (nomark _)))) (fun X' o' hA => (x_var o' 1)))))).seal
theorem sc_names_of : FnScope ["stations", "station"] ["stations"] (defScope st_names_of) := ⟨rfl, rfl, rfl, by decide +kernel, rfl, by decide +kernel, by decide +kernel⟩
theorem d_names_of {cdv : Value} (T : T0 G) (F : FnAt G "names_of" st_names_of cdv)  : Def G 1 "names_of" 1 fn_names_of :=
  (def_at (W := W0) (k := 0) (sb := sb_names_of) F sc_names_of (fun _ _ _ _ _ us hl => match us, hl with | [_], _ => rfl) fun f A outer s H o hr hcell =>
    (ds_one (ds_ret (x_lcZ o [("station", 1)] (x_in o (x_var o 0)) (fun X' o' hA => (x_tg1 o' 1)) (fun X' o' hA => dts_nil) (fun X' o' hA => (x_ix o' (x_var o' 1) de_int)))))).seal
theorem sc_Judge____init__ : FnScope ["self", "air"] ["self", "air"] (defScope st_Judge____init__) := ⟨rfl, rfl, rfl, by decide +kernel, rfl, by decide +kernel, by decide +kernel⟩
theorem d_Judge____init__ {cdv : Value} (T : T0 G) (F : InAt G "Judge" "Judge.__init__" st_Judge____init__ cdv) (d_ears_of : Def G 3 "ears_of" 1 (fn_ears_of)) : DefI G 4 "Judge" 2 fn_Judge____init__ :=
  (init_at (W := W0) (k := 3) (sb := sb_Judge____init__) F sc_Judge____init__ (fun _ _ _ _ _ us hl => match us, hl with | [_, _], _ => rfl) fun f A outer s H o hr hcell =>
    (ds_cons (x_sfld o T.k_Judge (x_call o d_ears_of (hr.mono (by decide)) (da_cons (x_var o 1) da_nil)) (x_var o 0))
    (ds_one (x_sfld o T.k_Judge de_dnew (x_var o 0)))))
theorem sc_retuned : FnScope ["tuning", "at", "band"] ["tuning", "at", "band"] (defScope st_retuned) := ⟨rfl, rfl, rfl, by decide +kernel, rfl, by decide +kernel, by decide +kernel⟩
theorem d_retuned {cdv : Value} (T : T0 G) (F : FnAt G "retuned" st_retuned cdv)  : Def G 1 "retuned" 3 fn_retuned :=
  (def_at (W := W0) (k := 0) (sb := sb_retuned) F sc_retuned (fun _ _ _ _ _ us hl => match us, hl with | [_, _, _], _ => rfl) fun f A outer s H o hr hcell =>
    (ds_one (ds_ret (x_add o (x_add o (x_slice o (x_var o 0) dp_none (dp_some (x_var o 1))) (de_tup (da_cons (x_var o 2) da_nil))) (x_slice o (x_var o 0) (dp_some (x_add o (x_var o 1) de_int)) dp_none))))).seal
theorem sc_Judge__allows : FnScope ["self", "tuning"] ["self", "tuning"] (defScope st_Judge__allows) := ⟨rfl, rfl, rfl, by decide +kernel, rfl, by decide +kernel, by decide +kernel⟩
theorem d_Judge__allows {cdv : Value} (T : T0 G) (F : MeAt G "Judge" "allows" "Judge.allows" st_Judge__allows cdv) (d_all_heard : Def G 4 "all_heard" 2 (fn_all_heard)) : DefM G 5 "Judge" "allows" 2 fn_Judge__allows :=
  (meth_at (W := W0) (k := 4) (sb := sb_Judge__allows) F sc_Judge__allows (fun _ _ _ _ _ us hl => match us, hl with | [_, _], _ => rfl) fun f A outer s H o hr hcell =>
    (ds_cons (ds_if (dt_cmp (do_notinT (k := 0) o.on (hr.mono (Nat.zero_le _))) (x_var o 1) (x_fld o T.k_Judge (x_var o 0)) (by rfl)) (ds_one (ds_dput (k := 0) (hr.mono (Nat.zero_le _)) (x_call o d_all_heard (hr.mono (by decide)) (da_cons (x_fld o T.k_Judge (x_var o 0)) (da_cons (x_var o 1) da_nil))) (x_fld o T.k_Judge (x_var o 0)) (x_var o 1))) ds_nil)
    (ds_one (ds_ret (de_dget (k := 0) (hr.mono (Nat.zero_le _)) (x_fld o T.k_Judge (x_var o 0)) (x_var o 1) (by exact fun _ _ => rfl)))))).seal
theorem sc_moves_from : FnScope ["judge", "many", "tuning", "found", "at", "own", "band", "behind"] ["judge", "many", "tuning"] (defScope st_moves_from) := ⟨rfl, rfl, rfl, by decide +kernel, rfl, by decide +kernel, by decide +kernel⟩
theorem d_moves_from {cdv : Value} (T : T0 G) (F : FnAt G "moves_from" st_moves_from cdv) (d_Judge__allows : DefM G 5 "Judge" "allows" 2 fn_Judge__allows) (d_retuned : Def G 1 "retuned" 3 (fn_retuned)) : Def G 6 "moves_from" 3 fn_moves_from :=
  (def_at (W := W0) (k := 5) (sb := sb_moves_from) F sc_moves_from (fun _ _ _ _ _ us hl => match us, hl with | [_, _, _], _ => rfl) fun f A outer s H o hr hcell =>
    (ds_cons (x_set o 3 (de_lst da_nil))
    (ds_cons (x_for o (x_enum o T.b_enumerate (da_cons (x_var o 2) da_nil)) (x_tgm o (x_tgs o 4 (x_tgs o 5 dgs_nil))) (ds_cons (ds_if (dt_cmp (do_eq (k := 0) o.on (hr.mono (Nat.zero_le _))) (x_var o 5) (x_gint o T.c_SILENCE) (nomark _)) (ds_one ds_cont) ds_nil)
    (ds_one (x_for o (x_rng2 o T.b_range (da_cons de_int (da_cons (x_add o (x_var o 1) de_int) da_nil))) (x_tg1 o 6) (ds_cons (x_set o 7 (x_call o d_retuned (hr.mono (by decide)) (da_cons (x_var o 2) (da_cons (x_var o 4) (da_cons (x_var o 6) da_nil)))))
    (ds_one (ds_if (PW.pt (dw_and (dt_cmp (do_ne (k := 0) o.on (hr.mono (Nat.zero_le _))) (x_var o 6) (x_var o 5) (nomark _)) (dw_and1 (dt_val (de_meth o.on d_Judge__allows (hr.mono (by decide)) (x_var o 0) (da_cons (x_var o 7) da_nil)))))) (ds_one (ds_expr (de_append o.on (x_var o 3) (de_tup (da_cons (x_var o 4) (da_cons (x_var o 6) (da_cons (x_var o 7) da_nil))))))) ds_nil)))))))
    (ds_one (ds_ret (x_var o 3)))))).seal
theorem sc_ways : FnScope ["air", "many", "one", "judge", "names", "rows", "edge", "beyond", "tuning", "at", "band", "behind"] ["air", "many", "one"] (defScope st_ways) := ⟨rfl, rfl, rfl, by decide +kernel, rfl, by decide +kernel, by decide +kernel⟩
theorem d_ways {cdv : Value} (T : T0 G) (F : FnAt G "ways" st_ways cdv) (d_Judge____init__ : DefI G 4 "Judge" 2 fn_Judge____init__) (d_moves_from : Def G 6 "moves_from" 3 (fn_moves_from)) (d_names_of : Def G 1 "names_of" 1 (fn_names_of)) : Def G 7 "ways" 3 fn_ways :=
  (def_at (W := W0) (k := 6) (sb := sb_ways) F sc_ways (fun _ _ _ _ _ us hl => match us, hl with | [_, _, _], _ => rfl) fun f A outer s H o hr hcell =>
    (ds_cons (x_set o 3 (x_make o d_Judge____init__ (hr.mono (by decide)) (da_cons (x_var o 0) da_nil)))
    (ds_cons (x_set o 4 (x_call o d_names_of (hr.mono (by decide)) (da_cons (x_ix o (x_var o 0) de_int) da_nil)))
    (ds_cons (x_set o 5 (de_disp1 (j := 0) (hr.mono (Nat.zero_le _)) (x_var o 2) (de_lz da_nil)))
    (ds_cons (x_set o 6 (de_lz (da_cons (x_var o 2) da_nil)))
    (ds_cons (ds_while PassesOwn.never (dt_tru o.on (x_var o 6)) (ds_cons (x_set o 7 (de_lst da_nil))
    (ds_cons (x_for o (x_in o (x_var o 6)) (x_tg1 o 8) (ds_one (x_for o (x_in o (x_call o d_moves_from (hr.mono (by decide)) (da_cons (x_var o 3) (da_cons (x_var o 1) (da_cons (x_var o 8) da_nil))))) (x_tgm o (x_tgs o 9 (x_tgs o 10 (x_tgs o 11 dgs_nil)))) (ds_one (ds_if (dt_cmp (do_notinT (k := 0) o.on (hr.mono (Nat.zero_le _))) (x_var o 11) (x_var o 5) (by rfl)) (ds_cons (ds_dput (k := 0) (hr.mono (Nat.zero_le _)) (de_lz (da_star o.on (de_dget (k := 0) (hr.mono (Nat.zero_le _)) (x_var o 5) (x_var o 8) (by exact fun _ _ => rfl)) (da_cons (de_tup (da_cons (x_ix o (x_var o 4) (x_var o 9)) (da_cons (x_var o 10) da_nil))) da_nil))) (x_var o 5) (x_var o 11))
    (ds_one (ds_expr (de_append o.on (x_var o 7) (x_var o 11))))) ds_nil)))))
    (ds_one (x_set o 6 (x_var o 7))))))
    (ds_one (ds_ret (x_var o 5)))))))))
theorem sc_moves : FnScope ["air", "many", "one", "other"] ["air", "many", "one", "other"] (defScope st_moves) := ⟨rfl, rfl, rfl, by decide +kernel, rfl, by decide +kernel, by decide +kernel⟩
theorem d_moves {cdv : Value} (T : T0 G) (F : FnAt G "moves" st_moves cdv) (d_check_bands : Def G 3 "check_bands" 2 (fn_check_bands)) (d_check_tuning : Def G 5 "check_tuning" 3 (fn_check_tuning)) (d_silent_seats : Def G 1 "silent_seats" 1 (fn_silent_seats)) (d_ways : Def G 7 "ways" 3 (fn_ways)) : Def G 8 "moves" 4 fn_moves :=
  (def_at (W := W0) (k := 7) (sb := sb_moves) F sc_moves (fun _ _ _ _ _ us hl => match us, hl with | [_, _, _, _], _ => rfl) fun f A outer s H o hr hcell =>
    (ds_cons (ds_expr (x_call o d_check_bands (hr.mono (by decide)) (da_cons (x_var o 0) (da_cons (x_var o 1) da_nil))))
    (ds_cons (ds_expr (x_call o d_check_tuning (hr.mono (by decide)) (da_cons (x_var o 0) (da_cons (x_var o 1) (da_cons (x_var o 2) da_nil)))))
    (ds_cons (ds_expr (x_call o d_check_tuning (hr.mono (by decide)) (da_cons (x_var o 0) (da_cons (x_var o 1) (da_cons (x_var o 3) da_nil)))))
    (ds_cons (ds_if (dt_cmp (do_ne (k := 0) o.on (hr.mono (Nat.zero_le _))) (x_call o d_silent_seats (hr.mono (by decide)) (da_cons (x_var o 2) da_nil)) (x_call o d_silent_seats (hr.mono (by decide)) (da_cons (x_var o 3) da_nil)) (nomark _)) (ds_one ds_never) ds_nil)
    (ds_one (ds_ret (de_dget1 (k := 0) (hr.mono (Nat.zero_le _)) (x_call o d_ways (hr.mono (by decide)) (da_cons (x_var o 0) (da_cons (x_var o 1) (da_cons (x_var o 2) da_nil)))) (x_var o 3) ⟨rfl, rfl, rfl, rfl⟩)))))))).seal
theorem sc_moves_table : FnScope ["air", "many", "one", "rows", "tuning"] ["air", "many", "one"] (defScope st_moves_table) := ⟨rfl, rfl, rfl, by decide +kernel, rfl, by decide +kernel, by decide +kernel⟩
theorem d_moves_table {cdv : Value} (T : T0 G) (F : FnAt G "moves_table" st_moves_table cdv) (d_check_bands : Def G 3 "check_bands" 2 (fn_check_bands)) (d_check_tuning : Def G 5 "check_tuning" 3 (fn_check_tuning)) (d_ways : Def G 7 "ways" 3 (fn_ways)) : Def G 8 "moves_table" 3 fn_moves_table :=
  (def_at (W := W0) (k := 7) (sb := sb_moves_table) F sc_moves_table (fun _ _ _ _ _ us hl => match us, hl with | [_, _, _], _ => rfl) fun f A outer s H o hr hcell =>
    (ds_cons (ds_expr (x_call o d_check_bands (hr.mono (by decide)) (da_cons (x_var o 0) (da_cons (x_var o 1) da_nil))))
    (ds_cons (ds_expr (x_call o d_check_tuning (hr.mono (by decide)) (da_cons (x_var o 0) (da_cons (x_var o 1) (da_cons (x_var o 2) da_nil)))))
    (ds_cons (x_set o 3 (x_call o d_ways (hr.mono (by decide)) (da_cons (x_var o 0) (da_cons (x_var o 1) (da_cons (x_var o 2) da_nil)))))
    (ds_one (ds_ret (x_bt o (dc_pt o.on) T.b_tuple (by decide +kernel) (da_cons (x_bi o (dc_sorted (k := 0) o.on (hr.mono (Nat.zero_le _))) T.b_sorted (by decide +kernel) (da_cons (x_kl o 3 4 (k := 0) [("tuning", 4)] (hr.mono (Nat.zero_le _)) T.b_len (fun X' o' hA => (x_tg1 o' 4))) da_nil)) da_nil)))))))).seal
theorem sc_is_rising : FnScope ["things"] ["things"] (defScope st_is_rising) := ⟨rfl, rfl, rfl, by decide +kernel, rfl, by decide +kernel, by decide +kernel⟩
theorem d_is_rising {cc P : Addr} (hP : P ∈ G.Ps) (hTB : TabB G.base G.mg cc P) (T : T0 G) (F : FnAt G "is_rising" st_is_rising (.ref cc))  : Def G 2 "is_rising" 1 fn_is_risingT :=
  (def_at (W := W0) (k := 1) (sb := sb_is_risingT) F sc_is_rising (fun _ _ _ _ _ us hl => match us, hl with | [_], _ => rfl) fun f A outer s H o hr hcell =>
    (ds_one (ds_ret (x_all (k := 0) o ["one", "other"] [none, none] hP (hr.mono (by decide)) T.b_all hTB rfl (x_zip2 o T.b_zip (da_cons (x_var o 0) (da_cons (x_slice o (x_var o 0) (dp_some de_int) dp_none) da_nil))) (fun X' o' hr' => (x_tgm o' (x_tgs o' 0 (x_tgs o' 1 dgs_nil)))) (fun X' o' hr' => (de_cmp (do_ltX (j := 0) o'.on (hr'.mono (Nat.zero_le _))) (x_var o' 0) (x_var o' 1) (nomark _))) (gsc_by o hcell (by decide +kernel)) (hcap := (cap_ok (by decide +kernel))))))).seal
theorem sc_is_numbered : FnScope ["air", "thing"] ["air", "thing"] (defScope st_is_numbered) := ⟨rfl, rfl, rfl, by decide +kernel, rfl, by decide +kernel, by decide +kernel⟩
theorem d_is_numbered {cdv : Value} (T : T0 G) (F : FnAt G "is_numbered" st_is_numbered cdv) (d_is_number : Def G 1 "is_number" 1 (fn_is_number)) (d_is_tuning : Def G 4 "is_tuning" 2 (fn_is_tuning)) (d_is_tuple_of : Def G 1 "is_tuple_of" 2 (fn_is_tuple_of)) : Def G 5 "is_numbered" 2 fn_is_numbered :=
  (def_at (W := W0) (k := 4) (sb := sb_is_numbered) F sc_is_numbered (fun _ _ _ _ _ us hl => match us, hl with | [_, _], _ => rfl) fun f A outer s H o hr hcell =>
    (ds_one (ds_ret (de_and (x_call o d_is_tuple_of (hr.mono (by decide)) (da_cons (x_var o 1) (da_cons de_int da_nil))) (de_and (x_call o d_is_tuning (hr.mono (by decide)) (da_cons (x_var o 0) (da_cons (x_ix o (x_var o 1) de_int) da_nil))) (de_one (x_call o d_is_number (hr.mono (by decide)) (da_cons (x_ix o (x_var o 1) de_int) da_nil)))))))).seal
theorem sc_are_numbered : FnScope ["air", "thing", "tuning", "number"] ["air", "thing"] (defScope st_are_numbered) := ⟨rfl, rfl, rfl, by decide +kernel, rfl, by decide +kernel, by decide +kernel⟩
theorem d_are_numbered {cc P : Addr} (hP : P ∈ G.Ps) (hTB : TabB G.base G.mg cc P) (T : T0 G) (F : FnAt G "are_numbered" st_are_numbered (.ref cc)) (d_is_numbered : Def G 5 "is_numbered" 2 (fn_is_numbered)) (d_is_rising : Def G 2 "is_rising" 1 (fn_is_risingT)) : Def G 7 "are_numbered" 2 fn_are_numbered :=
  (def_at (W := W0) (k := 6) (sb := sb_are_numbered) F sc_are_numbered (fun _ _ _ _ _ us hl => match us, hl with | [_, _], _ => rfl) fun f A outer s H o hr hcell =>
    (ds_cons (ds_if (PW.pt (dw_or (dt_not (dt_val (x_bi o (dc_isi o.on) T.b_isinstance (by decide +kernel) (da_cons (x_var o 1) (da_cons (x_ty o T.b_tuple (by decide +kernel)) da_nil))))) (dw_or1 (dt_not (dt_val (x_all (k := 5) o ["part", "air"] [none, some 0] hP (hr.mono (by decide)) T.b_all hTB rfl (x_in o (x_var o 1)) (fun X' o' hr' => (x_tg1 o' 0)) (fun X' o' hr' => (x_call o' d_is_numbered (hr'.mono (by decide)) (da_cons (x_var o' 1) (da_cons (x_var o' 0) da_nil)))) (gsc_by o hcell (by decide +kernel)) (hcap := (cap_ok (by decide +kernel))))))))) (ds_one (ds_ret de_bl)) ds_nil)
    (ds_one (ds_ret (x_call o d_is_rising (hr.mono (by decide)) (da_cons (x_lcZ o [("tuning", 2), ("number", 3)] (x_in o (x_var o 1)) (fun X' o' hA => (x_tgm o' (x_tgs o' 2 (x_tgs o' 3 dgs_nil)))) (fun X' o' hA => dts_nil) (fun X' o' hA => (x_var o' 2))) da_nil)))))).seal
theorem sc_is_moves_table : FnScope ["air", "many", "one", "thing", "numbers", "judge", "tuning", "number", "at", "band", "behind"] ["air", "many", "one", "thing"] (defScope st_is_moves_table) := ⟨rfl, rfl, rfl, by decide +kernel, rfl, by decide +kernel, by decide +kernel⟩
theorem d_is_moves_table {cdv : Value} (T : T0 G) (F : FnAt G "is_moves_table" st_is_moves_table cdv) (d_Judge____init__ : DefI G 4 "Judge" 2 fn_Judge____init__) (d_are_numbered : Def G 7 "are_numbered" 2 (fn_are_numbered)) (d_check_bands : Def G 3 "check_bands" 2 (fn_check_bands)) (d_check_tuning : Def G 5 "check_tuning" 3 (fn_check_tuning)) (d_moves_from : Def G 6 "moves_from" 3 (fn_moves_from)) : Def G 8 "is_moves_table" 4 fn_is_moves_table :=
  (def_at (W := W0) (k := 7) (sb := sb_is_moves_table) F sc_is_moves_table (fun _ _ _ _ _ us hl => match us, hl with | [_, _, _, _], _ => rfl) fun f A outer s H o hr hcell =>
    (ds_cons (ds_expr (x_call o d_check_bands (hr.mono (by decide)) (da_cons (x_var o 0) (da_cons (x_var o 1) da_nil))))
    (ds_cons (ds_expr (x_call o d_check_tuning (hr.mono (by decide)) (da_cons (x_var o 0) (da_cons (x_var o 1) (da_cons (x_var o 2) da_nil)))))
    (ds_cons (ds_if (dt_not (dt_val (x_call o d_are_numbered (hr.mono (by decide)) (da_cons (x_var o 0) (da_cons (x_var o 3) da_nil))))) (ds_one (ds_ret de_bl)) ds_nil)
    (ds_cons (x_setDcT o 4 (k := 0) [("tuning", 6), ("number", 7)] (hr.mono (Nat.zero_le _)) (x_in o (x_var o 3)) (fun X' o' hA => (x_tgm o' (x_tgs o' 6 (x_tgs o' 7 dgs_nil)))) (fun X' o' hA => (x_var o' 6)) (fun X' o' hA => (x_var o' 7)))
    (ds_cons (ds_if (dt_cmp do_gt (de_dget2 (k := 0) (hr.mono (Nat.zero_le _)) (x_var o 4) (x_var o 2) de_int ⟨rfl, rfl, rfl, rfl⟩) de_int (nomark _)) (ds_one (ds_ret de_bl)) ds_nil)
    (ds_cons (x_set o 5 (x_make o d_Judge____init__ (hr.mono (by decide)) (da_cons (x_var o 0) da_nil)))
    (ds_cons (x_for o (x_in o (x_var o 3)) (x_tgm o (x_tgs o 6 (x_tgs o 7 dgs_nil))) (ds_one (x_for o (x_in o (x_call o d_moves_from (hr.mono (by decide)) (da_cons (x_var o 5) (da_cons (x_var o 1) (da_cons (x_var o 6) da_nil))))) (x_tgm o (x_tgs o 8 (x_tgs o 9 (x_tgs o 10 dgs_nil)))) (ds_one (ds_if (dt_cmp do_gt (de_dget2 (k := 0) (hr.mono (Nat.zero_le _)) (x_var o 4) (x_var o 10) (x_add o (x_var o 7) de_int) ⟨rfl, rfl, rfl, rfl⟩) (x_add o (x_var o 7) de_int) (nomark _)) (ds_one (ds_ret de_bl)) ds_nil)))))
    (ds_one (ds_ret de_bl)))))))))).seal
theorem sc__law_bag : FnScope ["script", "k", "cell"] ["script", "k"] (defScope st__law_bag) := ⟨rfl, rfl, rfl, by decide +kernel, rfl, by decide +kernel, by decide +kernel⟩
theorem d__law_bag {cdv : Value} (T : T0 G) (F : FnAt G "_law_bag" st__law_bag cdv)  : Def G 1 "_law_bag" 2 fn__law_bag :=
  (def_at (W := W0) (k := 0) (sb := sb__law_bag) F sc__law_bag (fun _ _ _ _ _ us hl => match us, hl with | [_, _], _ => rfl) fun f A outer s H o hr hcell =>
    (ds_cons (x_set o 2 de_int)
    (ds_cons (ds_if (dt_cmp do_lt (x_var o 1) (x_bi o (dc_len o.on) T.b_len (by decide +kernel) (da_cons (x_var o 0) da_nil)) (nomark _)) (ds_one (x_set o 2 (x_bi o dc_abs T.b_abs (by decide +kernel) (da_cons (x_ix o (x_var o 0) (x_var o 1)) da_nil)))) ds_nil)
    (ds_cons (ds_if (dt_cmp do_lt (x_var o 2) (x_pow o de_int de_int) (nomark _)) (ds_one (ds_ret (de_lst (da_cons de_int (da_cons (x_add o de_int (x_mod o (x_add o (x_mul o (x_var o 2) de_int) (x_mul o de_int (x_var o 1))) de_int)) da_nil))))) ds_nil)
    (ds_one (ds_ret (de_lst (da_cons (x_var o 2) (da_cons (x_add o de_int (x_mod o (x_add o (x_var o 2) (x_var o 1)) de_int)) da_nil)))))))))
theorem sc__law_take : FnScope ["bag", "many", "found"] ["bag", "many"] (defScope st__law_take) := ⟨rfl, rfl, rfl, by decide +kernel, rfl, by decide +kernel, by decide +kernel⟩
theorem d__law_take {cdv : Value} (T : T0 G) (F : FnAt G "_law_take" st__law_take cdv)  : Def G 1 "_law_take" 2 fn__law_take :=
  (def_at (W := W0) (k := 0) (sb := sb__law_take) F sc__law_take (fun _ _ _ _ _ us hl => match us, hl with | [_, _], _ => rfl) fun f A outer s H o hr hcell =>
    (ds_cons (ds_if (dt_cmp do_gt (x_ix o (x_var o 0) de_int) de_int (nomark _)) (ds_cons (x_set o 2 (x_mod o (x_ix o (x_var o 0) de_int) (x_var o 1)))
    (ds_cons (ds_put (x_fdiv o (x_ix o (x_var o 0) de_int) (x_var o 1)) (x_var o 0) de_int (pg_sub (x_var o 0) de_int set_list))
    (ds_one (ds_ret (x_var o 2))))) ds_nil)
    (ds_cons (ds_put (x_mod o (x_mul o (x_ix o (x_var o 0) de_int) de_int) de_int) (x_var o 0) de_int (pg_sub (x_var o 0) de_int set_list))
    (ds_one (ds_ret (x_mod o (x_fdiv o (x_mod o (x_mul o (x_ix o (x_var o 0) de_int) (x_ix o (x_var o 0) de_int)) de_int) de_int) (x_var o 1))))))).seal
theorem sc__law_stations : FnScope ["bag", "most", "found", "wide", "name", "across", "along", "by", "hearer", "power", "need"] ["bag", "most"] (defScope st__law_stations) := ⟨rfl, rfl, rfl, by decide +kernel, rfl, by decide +kernel, by decide +kernel⟩
theorem d__law_stations {cdv : Value} (T : T0 G) (F : FnAt G "_law_stations" st__law_stations cdv) (d__law_take : Def G 1 "_law_take" 2 (fn__law_take)) : Def G 2 "_law_stations" 2 fn__law_stations :=
  (def_at (W := W0) (k := 1) (sb := sb__law_stations) F sc__law_stations (fun _ _ _ _ _ us hl => match us, hl with | [_, _], _ => rfl) fun f A outer s H o hr hcell =>
    (ds_cons (x_set o 2 (de_lst da_nil))
    (ds_cons (x_set o 3 (x_ix o (de_lz (da_cons de_int (da_cons de_int (da_cons de_int (da_cons de_int da_nil))))) (x_call o d__law_take (hr.mono (by decide)) (da_cons (x_var o 0) (da_cons de_int da_nil)))))
    (ds_cons (x_for o (x_in o (x_slice o (de_lz (da_cons de_str (da_cons de_str (da_cons de_str (da_cons de_str (da_cons de_str (da_cons de_str (da_cons de_str (da_cons de_str da_nil))))))))) dp_none (dp_some (x_add o de_int (x_call o d__law_take (hr.mono (by decide)) (da_cons (x_var o 0) (da_cons (x_var o 1) da_nil))))))) (x_tg1 o 4) (ds_cons (x_par2 o 5 6 (da_cons (x_sub o (x_call o d__law_take (hr.mono (by decide)) (da_cons (x_var o 0) (da_cons (x_add o (x_mul o de_int (x_var o 3)) de_int) da_nil))) (x_var o 3)) (da_cons (x_sub o (x_call o d__law_take (hr.mono (by decide)) (da_cons (x_var o 0) (da_cons (x_add o (x_mul o de_int (x_var o 3)) de_int) da_nil))) (x_var o 3)) da_nil)))
    (ds_cons (x_set o 7 (x_add o de_int (x_fdiv o (x_var o 3) de_int)))
    (ds_cons (x_set o 8 (de_tup (da_cons (x_bi o (dc_max o.on) T.b_max (by decide +kernel) (da_cons (de_neg de_int) (da_cons (x_sub o (x_var o 5) (x_call o d__law_take (hr.mono (by decide)) (da_cons (x_var o 0) (da_cons (x_var o 7) da_nil)))) da_nil))) (da_cons (x_bi o (dc_min o.on) T.b_min (by decide +kernel) (da_cons de_int (da_cons (x_add o (x_var o 6) (x_call o d__law_take (hr.mono (by decide)) (da_cons (x_var o 0) (da_cons (x_var o 7) da_nil)))) da_nil))) da_nil))))
    (ds_cons (x_set o 9 (x_ix o (de_lz (da_cons de_int (da_cons de_int (da_cons (x_add o de_int (x_call o d__law_take (hr.mono (by decide)) (da_cons (x_var o 0) (da_cons de_int da_nil)))) (da_cons (x_add o de_int (x_call o d__law_take (hr.mono (by decide)) (da_cons (x_var o 0) (da_cons de_int da_nil)))) da_nil))))) (x_call o d__law_take (hr.mono (by decide)) (da_cons (x_var o 0) (da_cons de_int da_nil)))))
    (ds_cons (x_set o 10 (x_add o de_int (x_call o d__law_take (hr.mono (by decide)) (da_cons (x_var o 0) (da_cons (x_ix o (de_lz (da_cons de_int (da_cons de_int (da_cons de_int da_nil)))) (x_call o d__law_take (hr.mono (by decide)) (da_cons (x_var o 0) (da_cons de_int da_nil)))) da_nil)))))
    (ds_one (ds_expr (de_append o.on (x_var o 2) (de_tup (da_cons (x_var o 4) (da_cons (de_tup (da_cons (x_var o 5) (da_cons (x_var o 6) da_nil))) (da_cons (x_var o 9) (da_cons (x_var o 8) (da_cons (x_var o 10) da_nil)))))))))))))))
    (ds_one (ds_ret (x_bt o (dc_tuple o.on) T.b_tuple (by decide +kernel) (da_cons (x_var o 2) da_nil)))))))).seal
theorem sc__law_air : FnScope ["bag", "most"] ["bag", "most"] (defScope st__law_air) := ⟨rfl, rfl, rfl, by decide +kernel, rfl, by decide +kernel, by decide +kernel⟩
theorem d__law_air {cdv : Value} (T : T0 G) (F : FnAt G "_law_air" st__law_air cdv) (d__law_stations : Def G 2 "_law_stations" 2 (fn__law_stations)) (d__law_take : Def G 1 "_law_take" 2 (fn__law_take)) : Def G 3 "_law_air" 2 fn__law_air :=
  (def_at (W := W0) (k := 2) (sb := sb__law_air) F sc__law_air (fun _ _ _ _ _ us hl => match us, hl with | [_, _], _ => rfl) fun f A outer s H o hr hcell =>
    (ds_one (ds_ret (de_tup (da_cons (x_call o d__law_stations (hr.mono (by decide)) (da_cons (x_var o 0) (da_cons (x_var o 1) da_nil))) (da_cons (x_ix o (de_lz (da_cons de_int (da_cons de_int (da_cons (x_add o de_int (x_call o d__law_take (hr.mono (by decide)) (da_cons (x_var o 0) (da_cons de_int da_nil)))) da_nil)))) (x_call o d__law_take (hr.mono (by decide)) (da_cons (x_var o 0) (da_cons de_int da_nil)))) da_nil)))))).seal
theorem sc__law_tuning : FnScope ["bag", "air", "bands", "silent", "found", "station"] ["bag", "air", "bands", "silent"] (defScope st__law_tuning) := ⟨rfl, rfl, rfl, by decide +kernel, rfl, by decide +kernel, by decide +kernel⟩
theorem d__law_tuning {cdv : Value} (T : T0 G) (F : FnAt G "_law_tuning" st__law_tuning cdv) (d__law_take : Def G 1 "_law_take" 2 (fn__law_take)) : Def G 2 "_law_tuning" 4 fn__law_tuning :=
  (def_at (W := W0) (k := 1) (sb := sb__law_tuning) F sc__law_tuning (fun _ _ _ _ _ us hl => match us, hl with | [_, _, _, _], _ => rfl) fun f A outer s H o hr hcell =>
    (ds_cons (x_set o 4 (de_lst da_nil))
    (ds_cons (x_for o (x_in o (x_ix o (x_var o 1) de_int)) (x_tg1 o 5) (ds_one (ds_expr (de_append o.on (x_var o 4) (de_if (PW.pt (dw_and (dt_tru o.on (x_var o 3)) (dw_and1 (dt_cmp (do_eq (k := 0) o.on (hr.mono (Nat.zero_le _))) (x_call o d__law_take (hr.mono (by decide)) (da_cons (x_var o 0) (da_cons de_int da_nil))) de_int (nomark _))))) de_int (x_add o de_int (x_call o d__law_take (hr.mono (by decide)) (da_cons (x_var o 0) (da_cons (x_var o 2) da_nil)))))))))
    (ds_one (ds_ret (x_bt o (dc_tuple o.on) T.b_tuple (by decide +kernel) (da_cons (x_var o 4) da_nil))))))).seal
theorem sc__law_part : FnScope ["one", "other", "across", "along"] ["one", "other"] (defScope st__law_part) := ⟨rfl, rfl, rfl, by decide +kernel, rfl, by decide +kernel, by decide +kernel⟩
theorem d__law_part {cdv : Value} (T : T0 G) (F : FnAt G "_law_part" st__law_part cdv)  : Def G 1 "_law_part" 2 fn__law_part :=
  (def_at (W := W0) (k := 0) (sb := sb__law_part) F sc__law_part (fun _ _ _ _ _ us hl => match us, hl with | [_, _], _ => rfl) fun f A outer s H o hr hcell =>
    (ds_cons (x_par2 o 2 3 (da_cons (x_sub o (x_ix o (x_ix o (x_var o 0) de_int) de_int) (x_ix o (x_ix o (x_var o 1) de_int) de_int)) (da_cons (x_sub o (x_ix o (x_ix o (x_var o 0) de_int) de_int) (x_ix o (x_ix o (x_var o 1) de_int) de_int)) da_nil)))
    (ds_one (ds_ret (de_tup (da_cons (x_ix o (x_var o 0) de_int) (da_cons (x_add o (x_add o (x_pow o (x_var o 2) de_int) (x_pow o (x_var o 3) de_int)) de_int) da_nil))))))).seal
theorem sc__law_rows : FnScope ["air", "tuning", "at", "found", "place", "one", "top", "bottom"] ["air", "tuning", "at"] (defScope st__law_rows) := ⟨rfl, rfl, rfl, by decide +kernel, rfl, by decide +kernel, by decide +kernel⟩
theorem d__law_rows {cdv : Value} (T : T0 G) (F : FnAt G "_law_rows" st__law_rows cdv) (d__law_part : Def G 1 "_law_part" 2 (fn__law_part)) : Def G 2 "_law_rows" 3 fn__law_rows :=
  (def_at (W := W0) (k := 1) (sb := sb__law_rows) F sc__law_rows (fun _ _ _ _ _ us hl => match us, hl with | [_, _, _], _ => rfl) fun f A outer s H o hr hcell =>
    (ds_cons (x_set o 3 (de_lst da_nil))
    (ds_cons (x_for o (x_enum o T.b_enumerate (da_cons (x_ix o (x_var o 0) de_int) da_nil)) (x_tgm o (x_tgs o 4 (x_tgs o 5 dgs_nil))) (ds_one (ds_if (PW.pt (dw_and (dt_cmp (do_ne (k := 0) o.on (hr.mono (Nat.zero_le _))) (x_var o 4) (x_var o 2) (nomark _)) (dw_and1 (dt_cmp do_gt (x_mul o (x_ix o (x_var o 1) (x_var o 2)) (x_ix o (x_var o 1) (x_var o 4))) de_int (nomark _))))) (ds_cons (ds_unp (x_call o d__law_part (hr.mono (by decide)) (da_cons (x_var o 5) (da_cons (x_ix o (x_ix o (x_var o 0) de_int) (x_var o 2)) da_nil))) (x_tgm o (x_tgs o 6 (x_tgs o 7 dgs_nil))))
    (ds_one (ds_if (dt_cmp (do_eq (k := 0) o.on (hr.mono (Nat.zero_le _))) (x_ix o (x_var o 1) (x_var o 2)) (x_ix o (x_var o 1) (x_var o 4)) (nomark _)) (ds_one (ds_expr (de_append o.on (x_var o 3) (de_tup (da_cons (x_var o 4) (da_cons (x_var o 6) (da_cons (x_var o 7) da_nil))))))) (ds_one (ds_if (dt_cmp (do_in (k := 0) o.on (hr.mono (Nat.zero_le _))) (x_sub o (x_ix o (x_var o 1) (x_var o 2)) (x_ix o (x_var o 1) (x_var o 4))) (de_lz (da_cons de_int (da_cons (de_neg de_int) da_nil))) (by rfl)) (ds_one (ds_expr (de_append o.on (x_var o 3) (de_tup (da_cons (x_var o 4) (da_cons (x_var o 6) (da_cons (x_mul o (x_var o 7) (x_ix o (x_var o 0) de_int)) da_nil))))))) ds_nil))))) ds_nil)))
    (ds_one (ds_ret (x_var o 3)))))).seal
theorem sc__law_sum : FnScope ["rows", "bottom", "row"] ["rows"] (defScope st__law_sum) := ⟨rfl, rfl, rfl, by decide +kernel, rfl, by decide +kernel, by decide +kernel⟩
theorem d__law_sum {cdv : Value} (T : T0 G) (F : FnAt G "_law_sum" st__law_sum cdv)  : Def G 1 "_law_sum" 1 fn__law_sum :=
  (def_at (W := W0) (k := 0) (sb := sb__law_sum) F sc__law_sum (fun _ _ _ _ _ us hl => match us, hl with | [_], _ => rfl) fun f A outer s H o hr hcell =>
    (ds_cons (x_set o 1 de_int)
    (ds_cons (x_for o (x_in o (x_var o 0)) (x_tg1 o 2) (ds_one (x_set o 1 (x_mul o (x_var o 1) (x_ix o (x_var o 2) de_int)))))
    (ds_one (ds_ret (de_tup (da_cons (x_bi o (dc_sum o.on) T.b_sum (by decide +kernel) (da_cons (x_lcZ o [("row", 2)] (x_in o (x_var o 0)) (fun X' o' hA => (x_tg1 o' 2)) (fun X' o' hA => dts_nil) (fun X' o' hA => (x_mul o' (x_ix o' (x_var o' 2) de_int) (x_fdiv o' (x_var o' 1) (x_ix o' (x_var o' 2) de_int))))) da_nil)) (da_cons (x_var o 1) da_nil)))))))).seal
theorem sc__law_stands : FnScope ["air", "at", "rows", "top", "bottom", "total", "under"] ["air", "at", "rows"] (defScope st__law_stands) := ⟨rfl, rfl, rfl, by decide +kernel, rfl, by decide +kernel, by decide +kernel⟩
theorem d__law_stands {cdv : Value} (T : T0 G) (F : FnAt G "_law_stands" st__law_stands cdv) (d__law_part : Def G 1 "_law_part" 2 (fn__law_part)) (d__law_sum : Def G 1 "_law_sum" 1 (fn__law_sum)) : Def G 2 "_law_stands" 3 fn__law_stands :=
  (def_at (W := W0) (k := 1) (sb := sb__law_stands) F sc__law_stands (fun _ _ _ _ _ us hl => match us, hl with | [_, _, _], _ => rfl) fun f A outer s H o hr hcell =>
    (ds_cons (ds_unp (x_call o d__law_part (hr.mono (by decide)) (da_cons (x_ix o (x_ix o (x_var o 0) de_int) (x_var o 1)) (da_cons (x_ix o (x_ix o (x_var o 0) de_int) (x_var o 1)) da_nil))) (x_tgm o (x_tgs o 3 (x_tgs o 4 dgs_nil))))
    (ds_cons (ds_unp (x_call o d__law_sum (hr.mono (by decide)) (da_cons (x_var o 2) da_nil)) (x_tgm o (x_tgs o 5 (x_tgs o 6 dgs_nil))))
    (ds_one (ds_ret (de_cmp do_ge (x_mul o (x_var o 3) (x_var o 6)) (x_mul o (x_mul o (x_ix o (x_ix o (x_ix o (x_var o 0) de_int) (x_var o 1)) de_int) (x_var o 5)) (x_var o 4)) (nomark _))))))).seal
theorem sc__law_heard : FnScope ["air", "tuning", "at"] ["air", "tuning", "at"] (defScope st__law_heard) := ⟨rfl, rfl, rfl, by decide +kernel, rfl, by decide +kernel, by decide +kernel⟩
theorem d__law_heard {cdv : Value} (T : T0 G) (F : FnAt G "_law_heard" st__law_heard cdv) (d__law_rows : Def G 2 "_law_rows" 3 (fn__law_rows)) (d__law_stands : Def G 2 "_law_stands" 3 (fn__law_stands)) : Def G 3 "_law_heard" 3 fn__law_heard :=
  (def_at (W := W0) (k := 2) (sb := sb__law_heard) F sc__law_heard (fun _ _ _ _ _ us hl => match us, hl with | [_, _, _], _ => rfl) fun f A outer s H o hr hcell =>
    (ds_one (ds_ret (de_and (de_cmp do_gt (x_ix o (x_var o 1) (x_var o 2)) de_int (nomark _)) (de_one (x_call o d__law_stands (hr.mono (by decide)) (da_cons (x_var o 0) (da_cons (x_var o 2) (da_cons (x_call o d__law_rows (hr.mono (by decide)) (da_cons (x_var o 0) (da_cons (x_var o 1) (da_cons (x_var o 2) da_nil)))) da_nil))))))))).seal
theorem sc__law_unheard : FnScope ["air", "tuning", "at"] ["air", "tuning"] (defScope st__law_unheard) := ⟨rfl, rfl, rfl, by decide +kernel, rfl, by decide +kernel, by decide +kernel⟩
theorem d__law_unheard {cdv : Value} (T : T0 G) (F : FnAt G "_law_unheard" st__law_unheard cdv) (d__law_heard : Def G 3 "_law_heard" 3 (fn__law_heard)) : Def G 4 "_law_unheard" 2 fn__law_unheard :=
  (def_at (W := W0) (k := 3) (sb := sb__law_unheard) F sc__law_unheard (fun _ _ _ _ _ us hl => match us, hl with | [_, _], _ => rfl) fun f A outer s H o hr hcell =>
    (ds_one (ds_ret (x_lcZ o [("at", 2)] (x_rng1 o T.b_range (da_cons (x_bi o (dc_len o.on) T.b_len (by decide +kernel) (da_cons (x_var o 1) da_nil)) da_nil)) (fun X' o' hA => (x_tg1 o' 2)) (fun X' o' hA => (dts_one (PW.pt (dw_and (dt_cmp do_gt (x_ix o' (x_var o' 1) (x_var o' 2)) de_int (nomark _)) (dw_and1 (dt_not (dt_val (x_call o' d__law_heard (by rw [hA]; exact (hr.mono (by decide))) (da_cons (x_var o' 0) (da_cons (x_var o' 1) (da_cons (x_var o' 2) da_nil))))))))))) (fun X' o' hA => (x_var o' 2)))))).seal
theorem sc__law_good_tunings : FnScope ["bag", "air", "many", "found", "turn", "tuning"] ["bag", "air", "many"] (defScope st__law_good_tunings) := ⟨rfl, rfl, rfl, by decide +kernel, rfl, by decide +kernel, by decide +kernel⟩
theorem d__law_good_tunings {cdv : Value} (T : T0 G) (F : FnAt G "_law_good_tunings" st__law_good_tunings cdv) (d__law_take : Def G 1 "_law_take" 2 (fn__law_take)) (d__law_tuning : Def G 2 "_law_tuning" 4 (fn__law_tuning)) (d__law_unheard : Def G 4 "_law_unheard" 2 (fn__law_unheard)) : Def G 5 "_law_good_tunings" 3 fn__law_good_tunings :=
  (def_at (W := W0) (k := 4) (sb := sb__law_good_tunings) F sc__law_good_tunings (fun _ _ _ _ _ us hl => match us, hl with | [_, _, _], _ => rfl) fun f A outer s H o hr hcell =>
    (ds_cons (x_set o 3 (de_lst da_nil))
    (ds_cons (x_for o (x_rng1 o T.b_range (da_cons de_int da_nil)) (x_tg1 o 4) (ds_cons (x_set o 5 (x_call o d__law_tuning (hr.mono (by decide)) (da_cons (x_var o 0) (da_cons (x_var o 1) (da_cons (x_var o 2) (da_cons (de_cmp (do_eq (k := 0) o.on (hr.mono (Nat.zero_le _))) (x_call o d__law_take (hr.mono (by decide)) (da_cons (x_var o 0) (da_cons de_int da_nil))) de_int (nomark _)) da_nil))))))
    (ds_one (ds_if (dt_cmp (do_eq (k := 0) o.on (hr.mono (Nat.zero_le _))) (x_call o d__law_unheard (hr.mono (by decide)) (da_cons (x_var o 1) (da_cons (x_var o 5) da_nil))) (de_lz da_nil) (nomark _)) (ds_one (ds_expr (de_append o.on (x_var o 3) (x_var o 5)))) ds_nil))))
    (ds_one (ds_ret (x_slice o (x_var o 3) dp_none (dp_some de_int))))))).seal
theorem sc_seat : FnScope ["stations", "name", "at", "station"] ["stations", "name"] (defScope st_seat) := ⟨rfl, rfl, rfl, by decide +kernel, rfl, by decide +kernel, by decide +kernel⟩
theorem d_seat {cdv : Value} (T : T0 G) (F : FnAt G "seat" st_seat cdv)  : Def G 1 "seat" 2 fn_seat :=
  (def_at (W := W0) (k := 0) (sb := sb_seat) F sc_seat (fun _ _ _ _ _ us hl => match us, hl with | [_, _], _ => rfl) fun f A outer s H o hr hcell =>
    (ds_cons (x_for o (x_enum o T.b_enumerate (da_cons (x_var o 0) da_nil)) (x_tgm o (x_tgs o 2 (x_tgs o 3 dgs_nil))) (ds_one (ds_if (dt_cmp (do_eq (k := 0) o.on (hr.mono (Nat.zero_le _))) (x_ix o (x_var o 3) de_int) (x_var o 1) (nomark _)) (ds_one (ds_ret (x_var o 2))) ds_nil)))
    (ds_one ds_never))).seal
theorem sc_is_heard : FnScope ["air", "tuning", "name", "at"] ["air", "tuning", "name"] (defScope st_is_heard) := ⟨rfl, rfl, rfl, by decide +kernel, rfl, by decide +kernel, by decide +kernel⟩
theorem d_is_heard {cdv : Value} (T : T0 G) (F : FnAt G "is_heard" st_is_heard cdv) (d_ear : Def G 2 "ear" 2 (fn_ear)) (d_hears : Def G 2 "hears" 3 (fn_hears)) (d_seat : Def G 1 "seat" 2 (fn_seat)) : Def G 3 "is_heard" 3 fn_is_heard :=
  (def_at (W := W0) (k := 2) (sb := sb_is_heard) F sc_is_heard (fun _ _ _ _ _ us hl => match us, hl with | [_, _, _], _ => rfl) fun f A outer s H o hr hcell =>
    (ds_cons (x_set o 3 (x_call o d_seat (hr.mono (by decide)) (da_cons (x_ix o (x_var o 0) de_int) (da_cons (x_var o 2) da_nil))))
    (ds_one (ds_ret (de_and (de_cmp (do_ne (k := 0) o.on (hr.mono (Nat.zero_le _))) (x_ix o (x_var o 1) (x_var o 3)) (x_gint o T.c_SILENCE) (nomark _)) (de_one (x_call o d_hears (hr.mono (by decide)) (da_cons (x_call o d_ear (hr.mono (by decide)) (da_cons (x_var o 0) (da_cons (x_var o 3) da_nil))) (da_cons (x_ix o (x_var o 1) (x_var o 3)) (da_cons (x_var o 1) da_nil)))))))))).seal
theorem sc_unheard : FnScope ["air", "tuning", "stations", "station", "band"] ["air", "tuning"] (defScope st_unheard) := ⟨rfl, rfl, rfl, by decide +kernel, rfl, by decide +kernel, by decide +kernel⟩
theorem d_unheard {cdv : Value} (T : T0 G) (F : FnAt G "unheard" st_unheard cdv) (d_is_heard : Def G 3 "is_heard" 3 (fn_is_heard)) : Def G 4 "unheard" 2 fn_unheard :=
  (def_at (W := W0) (k := 3) (sb := sb_unheard) F sc_unheard (fun _ _ _ _ _ us hl => match us, hl with | [_, _], _ => rfl) fun f A outer s H o hr hcell =>
    (ds_cons (x_set o 2 (x_ix o (x_var o 0) de_int))
    (ds_one (ds_ret (x_lcZ o [("station", 3), ("band", 4)] (x_zip2 o T.b_zip (da_cons (x_var o 2) (da_cons (x_var o 1) da_nil))) (fun X' o' hA => (x_tgm o' (x_tgs o' 3 (x_tgs o' 4 dgs_nil)))) (fun X' o' hA => (dts_one (PW.pt (dw_and (dt_cmp (do_ne (k := 0) o'.on (by rw [hA]; exact (hr.mono (Nat.zero_le _)))) (x_var o' 4) (x_gint o' T.c_SILENCE) (nomark _)) (dw_and1 (dt_not (dt_val (x_call o' d_is_heard (by rw [hA]; exact (hr.mono (by decide))) (da_cons (x_var o' 0) (da_cons (x_var o' 1) (da_cons (x_ix o' (x_var o' 3) de_int) da_nil))))))))))) (fun X' o' hA => (x_ix o' (x_var o' 3) de_int))))))).seal
theorem sc__law_names : FnScope ["air", "station"] ["air"] (defScope st__law_names) := ⟨rfl, rfl, rfl, by decide +kernel, rfl, by decide +kernel, by decide +kernel⟩
theorem d__law_names {cdv : Value} (T : T0 G) (F : FnAt G "_law_names" st__law_names cdv)  : Def G 1 "_law_names" 1 fn__law_names :=
  (def_at (W := W0) (k := 0) (sb := sb__law_names) F sc__law_names (fun _ _ _ _ _ us hl => match us, hl with | [_], _ => rfl) fun f A outer s H o hr hcell =>
    (ds_one (ds_ret (x_lcZ o [("station", 1)] (x_in o (x_ix o (x_var o 0) de_int)) (fun X' o' hA => (x_tg1 o' 1)) (fun X' o' hA => dts_nil) (fun X' o' hA => (x_ix o' (x_var o' 1) de_int)))))).seal
theorem sc__law_row_so : FnScope ["air", "many", "one", "other", "row", "names", "tuning", "name", "band", "at"] ["air", "many", "one", "other", "row"] (defScope st__law_row_so) := ⟨rfl, rfl, rfl, by decide +kernel, rfl, by decide +kernel, by decide +kernel⟩
theorem d__law_row_so {cdv : Value} (T : T0 G) (F : FnAt G "_law_row_so" st__law_row_so cdv) (d__law_names : Def G 1 "_law_names" 1 (fn__law_names)) (d_unheard : Def G 4 "unheard" 2 (fn_unheard)) : Def G 5 "_law_row_so" 5 fn__law_row_so :=
  (def_at (W := W0) (k := 4) (sb := sb__law_row_so) F sc__law_row_so (fun _ _ _ _ _ us hl => match us, hl with | [_, _, _, _, _], _ => rfl) fun f A outer s H o hr hcell =>
    (ds_cons (x_set o 5 (x_call o d__law_names (hr.mono (by decide)) (da_cons (x_var o 0) da_nil)))
    (ds_cons (x_set o 6 (x_var o 2))
    (ds_cons (x_for o (x_in o (x_var o 4)) (x_tgm o (x_tgs o 7 (x_tgs o 8 dgs_nil))) (ds_cons (x_set o 9 (de_idx o.on (x_var o 5) (x_var o 7)))
    (ds_cons (ds_if (PW.pt (dw_or (dt_not (dt_chain do_le do_le de_int (x_var o 8) (x_var o 1))) (dw_or1 (dt_cmp (do_in (k := 0) o.on (hr.mono (Nat.zero_le _))) (x_ix o (x_var o 6) (x_var o 9)) (de_lz (da_cons de_int (da_cons (x_var o 8) da_nil))) (by rfl))))) (ds_one (ds_ret de_bl)) ds_nil)
    (ds_cons (x_set o 6 (x_add o (x_add o (x_slice o (x_var o 6) dp_none (dp_some (x_var o 9))) (de_tup (da_cons (x_var o 8) da_nil))) (x_slice o (x_var o 6) (dp_some (x_add o (x_var o 9) de_int)) dp_none)))
    (ds_one (ds_if (dt_cmp (do_ne (k := 0) o.on (hr.mono (Nat.zero_le _))) (x_call o d_unheard (hr.mono (by decide)) (da_cons (x_var o 0) (da_cons (x_var o 6) da_nil))) (de_lz da_nil) (nomark _)) (ds_one (ds_ret de_bl)) ds_nil))))))
    (ds_one (ds_ret (de_cmp (do_eq (k := 0) o.on (hr.mono (Nat.zero_le _))) (x_var o 6) (x_var o 3) (nomark _)))))))).seal
theorem sc__law_of : FnScope ["bag", "some"] ["bag", "some"] (defScope st__law_of) := ⟨rfl, rfl, rfl, by decide +kernel, rfl, by decide +kernel, by decide +kernel⟩
theorem d__law_of {cdv : Value} (T : T0 G) (F : FnAt G "_law_of" st__law_of cdv) (d__law_take : Def G 1 "_law_take" 2 (fn__law_take)) : Def G 2 "_law_of" 2 fn__law_of :=
  (def_at (W := W0) (k := 1) (sb := sb__law_of) F sc__law_of (fun _ _ _ _ _ us hl => match us, hl with | [_, _], _ => rfl) fun f A outer s H o hr hcell =>
    (ds_one (ds_ret (x_ix o (x_var o 1) (x_call o d__law_take (hr.mono (by decide)) (da_cons (x_var o 0) (da_cons (x_bi o (dc_len o.on) T.b_len (by decide +kernel) (da_cons (x_var o 1) da_nil)) da_nil))))))).seal
theorem sc__law_steps : FnScope ["air", "many", "tuning", "found", "at", "name", "band", "new"] ["air", "many", "tuning"] (defScope st__law_steps) := ⟨rfl, rfl, rfl, by decide +kernel, rfl, by decide +kernel, by decide +kernel⟩
theorem d__law_steps {cdv : Value} (T : T0 G) (F : FnAt G "_law_steps" st__law_steps cdv) (d__law_names : Def G 1 "_law_names" 1 (fn__law_names)) (d__law_unheard : Def G 4 "_law_unheard" 2 (fn__law_unheard)) : Def G 5 "_law_steps" 3 fn__law_steps :=
  (def_at (W := W0) (k := 4) (sb := sb__law_steps) F sc__law_steps (fun _ _ _ _ _ us hl => match us, hl with | [_, _, _], _ => rfl) fun f A outer s H o hr hcell =>
    (ds_cons (x_set o 3 (de_lst da_nil))
    (ds_cons (x_for o (x_enum o T.b_enumerate (da_cons (x_call o d__law_names (hr.mono (by decide)) (da_cons (x_var o 0) da_nil)) da_nil)) (x_tgm o (x_tgs o 4 (x_tgs o 5 dgs_nil))) (ds_one (x_for o (x_rng2 o T.b_range (da_cons de_int (da_cons (x_add o (x_var o 1) de_int) da_nil))) (x_tg1 o 6) (ds_cons (x_set o 7 (x_add o (x_add o (x_slice o (x_var o 2) dp_none (dp_some (x_var o 4))) (de_tup (da_cons (x_var o 6) da_nil))) (x_slice o (x_var o 2) (dp_some (x_add o (x_var o 4) de_int)) dp_none)))
    (ds_one (ds_if (PW.pt (dw_and (dt_cmp do_gt (x_ix o (x_var o 2) (x_var o 4)) de_int (nomark _)) (dw_and (dt_cmp (do_ne (k := 0) o.on (hr.mono (Nat.zero_le _))) (x_var o 6) (x_ix o (x_var o 2) (x_var o 4)) (nomark _)) (dw_and1 (dt_cmp (do_eq (k := 0) o.on (hr.mono (Nat.zero_le _))) (x_call o d__law_unheard (hr.mono (by decide)) (da_cons (x_var o 0) (da_cons (x_var o 7) da_nil))) (de_lz da_nil) (nomark _)))))) (ds_one (ds_expr (de_append o.on (x_var o 3) (de_tup (da_cons (x_var o 5) (da_cons (x_var o 6) (da_cons (x_var o 7) da_nil))))))) ds_nil))))))
    (ds_one (ds_ret (x_var o 3)))))).seal
theorem sc__law_walk_so : FnScope ["bag", "air", "many", "one", "tables", "tuning", "number", "held", "some"] ["bag", "air", "many", "one", "tables"] (defScope st__law_walk_so) := ⟨rfl, rfl, rfl, by decide +kernel, rfl, by decide +kernel, by decide +kernel⟩
theorem d__law_walk_so {cdv : Value} (T : T0 G) (F : FnAt G "_law_walk_so" st__law_walk_so cdv) (d__law_of : Def G 2 "_law_of" 2 (fn__law_of)) (d__law_steps : Def G 5 "_law_steps" 3 (fn__law_steps)) : Def G 6 "_law_walk_so" 5 fn__law_walk_so :=
  (def_at (W := W0) (k := 5) (sb := sb__law_walk_so) F sc__law_walk_so (fun _ _ _ _ _ us hl => match us, hl with | [_, _, _, _, _], _ => rfl) fun f A outer s H o hr hcell =>
    (ds_cons (x_set o 5 (x_var o 3))
    (ds_cons (x_for o (x_rng1 o T.b_range (da_cons de_int da_nil)) (x_tg1 o 6) (ds_cons (x_for o (x_in o (x_var o 4)) (x_tg1 o 7) (ds_one (ds_if (PW.pt (dw_or (dt_cmp (do_notinT (k := 0) o.on (hr.mono (Nat.zero_le _))) (x_var o 5) (x_var o 7) (by rfl)) (dw_or1 (dt_cmp do_gt (de_dget (k := 0) (hr.mono (Nat.zero_le _)) (x_var o 7) (x_var o 5) (by exact fun _ _ => rfl)) (x_var o 6) (nomark _))))) (ds_one (ds_ret de_bl)) ds_nil)))
    (ds_cons (x_set o 8 (x_call o d__law_steps (hr.mono (by decide)) (da_cons (x_var o 1) (da_cons (x_var o 2) (da_cons (x_var o 5) da_nil)))))
    (ds_cons (ds_if (dt_cmp (do_eq (k := 0) o.on (hr.mono (Nat.zero_le _))) (x_var o 8) (de_lz da_nil) (nomark _)) (ds_one (ds_ret de_bl)) ds_nil)
    (ds_one (x_set o 5 (x_ix o (x_call o d__law_of (hr.mono (by decide)) (da_cons (x_var o 0) (da_cons (x_var o 8) da_nil))) de_int)))))))
    (ds_one (ds_ret de_bl))))).seal
theorem sc_law : FnScope ["script", "k", "bag", "air", "many", "some", "one", "told", "lower", "tables", "other", "row", "tuning", "number", "band"] ["script"] (defScope st_law) := ⟨rfl, rfl, rfl, by decide +kernel, rfl, by decide +kernel, by decide +kernel⟩
noncomputable def sb_law : FS :=
    (sSeq (sFor (iRange1 (fCons (fOp addD (fC (.int 1)) (fCall minD (fCons (fCall lenD (fCons (fV 0) fNil)) (fCons (fC (.int 3)) fNil)))) fNil)) (.one 1) (sSeq (sSet 2 (fFn 2 fn__law_bag (fCons (fV 0) (fCons (fV 1) fNil))))
    (sSeq (sSet 3 (fFn 2 fn__law_air (fCons (fV 2) (fCons (fC (.int 4)) fNil))))
    (sSeq (sSet 4 (fOp addD (fC (.int 2)) (fFn 2 fn__law_take (fCons (fV 2) (fCons (fC (.int 2)) fNil)))))
    (sSeq (sSet 5 (fSl (fFn 3 fn__law_good_tunings (fCons (fV 2) (fCons (fV 3) (fCons (fV 4) fNil)))) oNone (oSome (fC (.int 3)))))
    (sFor (iSeq (fV 5)) (.one 6) (sSeq (sSet 7 (fFn 3 fn_moves_table (fCons (fV 3) (fCons (fV 4) (fCons (fV 6) fNil)))))
    (sSeq (sSet 8 (fCall ptD (fCons (fLcZ (iSeq (fV 7)) (.many [12, 13]) fYes (fTup (fCons (fV 12) (fCons (fOp subD (fV 13) (fFn 2 fn__law_take (fCons (fV 2) (fCons (fC (.int 2)) fNil)))) fNil))) [12, 13]) fNil)))
    (sSeq (sSet 9 (fLst (fCons (fCall dictPt (fCons (fV 7) fNil)) fNil)))
    (sSeq (sIf (fTst (fFn 4 fn_is_moves_table (fCons (fV 3) (fCons (fV 4) (fCons (fV 6) (fCons (fV 8) fNil)))))) (sExpr (fApp (fV 9) (fCall dictPt (fCons (fV 8) fNil)))) sNext)
    (sSeq (sIf (fTOr (fTst (fOp (isB true) (fFn 4 fn_is_moves_table (fCons (fV 3) (fCons (fV 4) (fCons (fV 6) (fCons (fV 7) fNil))))) (fC (.bl true)))) (fTNot (fTst (fFn 5 fn__law_walk_so (fCons (fV 2) (fCons (fV 3) (fCons (fV 4) (fCons (fV 6) (fCons (fV 9) fNil))))))))) (sRet (fC (.bl false))) sNext)
    (sFor (iSeq (fV 5)) (.one 10) (sIf (fTst (fOp eqD (fLcZ (iSeq (fV 6)) (.one 14) fYes (fOp eqD (fV 14) (fC (.int 0))) [14]) (fLcZ (iSeq (fV 10)) (.one 14) fYes (fOp eqD (fV 14) (fC (.int 0))) [14]))) (sSeq (sSet 11 (fFn 4 fn_moves (fCons (fV 3) (fCons (fV 4) (fCons (fV 6) (fCons (fV 10) fNil))))))
    (sIf (fTst (fOp (isB false) (fV 11) (fC .non))) (sIf (fTOr (fTst (fOp (inT false) (fV 10) (fCall dictPt (fCons (fV 7) fNil)))) (fTst (fOp (isB true) (fFn 4 fn_moves (fCons (fV 3) (fCons (fV 4) (fCons (fV 10) (fCons (fV 6) fNil))))) (fC .non)))) (sRet (fC (.bl false))) sNext) (sIf (fTOr (fTNot (fTst (fFn 5 fn__law_row_so (fCons (fV 3) (fCons (fV 4) (fCons (fV 6) (fCons (fV 10) (fCons (fV 11) fNil)))))))) (fTst (fOp neD (fCall lenD (fCons (fV 11) fNil)) (fDGet2 (fCall dictPt (fCons (fV 7) fNil)) (fV 10) (fNeg (fC (.int 1))))))) (sRet (fC (.bl false))) (sIf (fTst (fOp neD (fCall lenD (fCons (fFn 4 fn_moves (fCons (fV 3) (fCons (fV 4) (fCons (fV 10) (fCons (fV 6) fNil))))) fNil)) (fCall lenD (fCons (fV 11) fNil)))) (sRet (fC (.bl false))) sNext)))) sNext)))))))))))))
    (sRet (fC (.bl true))))
noncomputable def fn_law : HA := runD 15 sb_law
theorem b_law {cdv : Value} (T : T0 G) (d__law_air : Def G 3 "_law_air" 2 (fn__law_air)) (d__law_bag : Def G 1 "_law_bag" 2 (fn__law_bag)) (d__law_good_tunings : Def G 5 "_law_good_tunings" 3 (fn__law_good_tunings)) (d__law_row_so : Def G 5 "_law_row_so" 5 (fn__law_row_so)) (d__law_take : Def G 1 "_law_take" 2 (fn__law_take)) (d__law_walk_so : Def G 6 "_law_walk_so" 5 (fn__law_walk_so)) (d_is_moves_table : Def G 8 "is_moves_table" 4 (fn_is_moves_table)) (d_moves : Def G 8 "moves" 4 (fn_moves)) (d_moves_table : Def G 8 "moves_table" 3 (fn_moves_table))  : ∀ (f : Addr) (A : Around) (outer : List Env) (s : Shared) (H : Hp), Here G (bodyCx G ["script", "k", "bag", "air", "many", "some", "one", "told", "lower", "tables", "other", "row", "tuning", "number", "band"] "law" (defScope st_law) f cdv A outer s H) ["script", "k", "bag", "air", "many", "some", "one", "told", "lower", "tables", "other", "row", "tuning", "number", "band"] (defScope st_law) → Room 8 (bodyCx G ["script", "k", "bag", "air", "many", "some", "one", "told", "lower", "tables", "other", "row", "tuning", "number", "band"] "law" (defScope st_law) f cdv A outer s H).A → (∀ x : Str, (defScope st_law).names.lookup x = some .cell → ∃ c, (bodyCx G ["script", "k", "bag", "air", "many", "some", "one", "told", "lower", "tables", "other", "row", "tuning", "number", "band"] "law" (defScope st_law) f cdv A outer s H).env.cells.lookup x = some c) → PSs (bodyCx G ["script", "k", "bag", "air", "many", "some", "one", "told", "lower", "tables", "other", "row", "tuning", "number", "band"] "law" (defScope st_law) f cdv A outer s H) (defBody st_law) (liftS G W0 sb_law) :=
  fun f A outer s H o hr hcell =>
    (ds_cons (x_for o (x_rng1 o T.b_range (da_cons (x_add o de_int (x_bi o (dc_min o.on) T.b_min (by decide +kernel) (da_cons (x_bi o (dc_len o.on) T.b_len (by decide +kernel) (da_cons (x_var o 0) da_nil)) (da_cons de_int da_nil)))) da_nil)) (x_tg1 o 1) (ds_cons (x_set o 2 (x_call o d__law_bag (hr.mono (by decide)) (da_cons (x_var o 0) (da_cons (x_var o 1) da_nil))))
    (ds_cons (x_set o 3 (x_call o d__law_air (hr.mono (by decide)) (da_cons (x_var o 2) (da_cons de_int da_nil))))
    (ds_cons (x_set o 4 (x_add o de_int (x_call o d__law_take (hr.mono (by decide)) (da_cons (x_var o 2) (da_cons de_int da_nil)))))
    (ds_cons (x_set o 5 (x_slice o (x_call o d__law_good_tunings (hr.mono (by decide)) (da_cons (x_var o 2) (da_cons (x_var o 3) (da_cons (x_var o 4) da_nil)))) dp_none (dp_some de_int)))
    (ds_one (x_for o (x_in o (x_var o 5)) (x_tg1 o 6) (ds_cons (x_set o 7 (x_call o d_moves_table (hr.mono (by decide)) (da_cons (x_var o 3) (da_cons (x_var o 4) (da_cons (x_var o 6) da_nil)))))
    (ds_cons (x_set o 8 (x_bt o (dc_pt o.on) T.b_tuple (by decide +kernel) (da_cons (x_lcZ o [("tuning", 12), ("number", 13)] (x_in o (x_var o 7)) (fun X' o' hA => (x_tgm o' (x_tgs o' 12 (x_tgs o' 13 dgs_nil)))) (fun X' o' hA => dts_nil) (fun X' o' hA => (de_tup (da_cons (x_var o' 12) (da_cons (x_sub o' (x_var o' 13) (x_call o' d__law_take (by rw [hA]; exact (hr.mono (by decide))) (da_cons (x_var o' 2) (da_cons de_int da_nil)))) da_nil))))) da_nil)))
    (ds_cons (x_set o 9 (de_lst (da_cons (x_bt o (dc_dictPt (j := 0) o.on (hr.mono (Nat.zero_le _))) T.b_dict (by decide +kernel) (da_cons (x_var o 7) da_nil)) da_nil)))
    (ds_cons (ds_if (dt_val (x_call o d_is_moves_table (hr.mono (by decide)) (da_cons (x_var o 3) (da_cons (x_var o 4) (da_cons (x_var o 6) (da_cons (x_var o 8) da_nil)))))) (ds_one (ds_expr (de_append o.on (x_var o 9) (x_bt o (dc_dictPt (j := 0) o.on (hr.mono (Nat.zero_le _))) T.b_dict (by decide +kernel) (da_cons (x_var o 8) da_nil))))) ds_nil)
    (ds_cons (ds_if (PW.pt (dw_or (dt_cmp do_isnB (x_call o d_is_moves_table (hr.mono (by decide)) (da_cons (x_var o 3) (da_cons (x_var o 4) (da_cons (x_var o 6) (da_cons (x_var o 7) da_nil))))) de_bl (nomark _)) (dw_or1 (dt_not (dt_val (x_call o d__law_walk_so (hr.mono (by decide)) (da_cons (x_var o 2) (da_cons (x_var o 3) (da_cons (x_var o 4) (da_cons (x_var o 6) (da_cons (x_var o 9) da_nil))))))))))) (ds_one (ds_ret de_bl)) ds_nil)
    (ds_one (x_for o (x_in o (x_var o 5)) (x_tg1 o 10) (ds_one (ds_if (dt_cmp (do_eq (k := 0) o.on (hr.mono (Nat.zero_le _))) (x_lcZ o [("band", 14)] (x_in o (x_var o 6)) (fun X' o' hA => (x_tg1 o' 14)) (fun X' o' hA => dts_nil) (fun X' o' hA => (de_cmp (do_eq (k := 0) o'.on (by rw [hA]; exact (hr.mono (Nat.zero_le _)))) (x_var o' 14) de_int (nomark _)))) (x_lcZ o [("band", 14)] (x_in o (x_var o 10)) (fun X' o' hA => (x_tg1 o' 14)) (fun X' o' hA => dts_nil) (fun X' o' hA => (de_cmp (do_eq (k := 0) o'.on (by rw [hA]; exact (hr.mono (Nat.zero_le _)))) (x_var o' 14) de_int (nomark _)))) (nomark _)) (ds_cons (x_set o 11 (x_call o d_moves (hr.mono (by decide)) (da_cons (x_var o 3) (da_cons (x_var o 4) (da_cons (x_var o 6) (da_cons (x_var o 10) da_nil))))))
    (ds_one (ds_if (dt_cmp do_isB (x_var o 11) de_non (nomark _)) (ds_one (ds_if (PW.pt (dw_or (dt_cmp (do_inT (k := 0) o.on (hr.mono (Nat.zero_le _))) (x_var o 10) (x_bt o (dc_dictPt (j := 0) o.on (hr.mono (Nat.zero_le _))) T.b_dict (by decide +kernel) (da_cons (x_var o 7) da_nil)) (by rfl)) (dw_or1 (dt_cmp do_isnB (x_call o d_moves (hr.mono (by decide)) (da_cons (x_var o 3) (da_cons (x_var o 4) (da_cons (x_var o 10) (da_cons (x_var o 6) da_nil))))) de_non (nomark _))))) (ds_one (ds_ret de_bl)) ds_nil)) (ds_one (ds_if (PW.pt (dw_or (dt_not (dt_val (x_call o d__law_row_so (hr.mono (by decide)) (da_cons (x_var o 3) (da_cons (x_var o 4) (da_cons (x_var o 6) (da_cons (x_var o 10) (da_cons (x_var o 11) da_nil)))))))) (dw_or1 (dt_cmp (do_ne (k := 0) o.on (hr.mono (Nat.zero_le _))) (x_bi o (dc_len o.on) T.b_len (by decide +kernel) (da_cons (x_var o 11) da_nil)) (de_dget2 (k := 0) (hr.mono (Nat.zero_le _)) (x_bt o (dc_dictPt (j := 0) o.on (hr.mono (Nat.zero_le _))) T.b_dict (by decide +kernel) (da_cons (x_var o 7) da_nil)) (x_var o 10) (de_neg de_int) ⟨rfl, rfl, rfl, rfl⟩) (nomark _))))) (ds_one (ds_ret de_bl)) (ds_one (ds_if (dt_cmp (do_ne (k := 0) o.on (hr.mono (Nat.zero_le _))) (x_bi o (dc_len o.on) T.b_len (by decide +kernel) (da_cons (x_call o d_moves (hr.mono (by decide)) (da_cons (x_var o 3) (da_cons (x_var o 4) (da_cons (x_var o 10) (da_cons (x_var o 6) da_nil))))) da_nil)) (x_bi o (dc_len o.on) T.b_len (by decide +kernel) (da_cons (x_var o 11) da_nil)) (nomark _)) (ds_one (ds_ret de_bl)) ds_nil))))))) ds_nil))))))))))))))))
    (ds_one (ds_ret de_bl)))
end K10
set_option Elab.async false
set_option linter.all false
set_option maxRecDepth 100000
set_option maxHeartbeats 400000
namespace BF
abbrev T := List Int
abbrev Mv := Nat × Int × T
abbrev Stp := Nat × Int
abbrev Rows := List (T × List Stp)
structure Bf where
  R : Rows
  nb : List T
def hasK (R : Rows) (t : T) : Bool := R.any fun p => decide (p.1 = t)
def rowO (R : Rows) (t : T) : Option (List Stp) := (R.find? fun p => decide (p.1 = t)).map (·.2)
def rowOf (R : Rows) (t : T) : List Stp := (rowO R t).getD []
def addMv (t : T) (s : Bf) (m : Mv) : Bf := if hasK s.R m.2.2 = true then s else ⟨s.R ++ [(m.2.2, rowOf s.R t ++ [(m.1, m.2.1)])], s.nb ++ [m.2.2]⟩
def doT (adj : T → List Mv) (s : Bf) (t : T) : Bf := (adj t).foldl (addMv t) s
def rnd (adj : T → List Mv) (R : Rows) (edge : List T) : Bf := edge.foldl (doT adj) ⟨R, []⟩
def bfsO (adj : T → List Mv) : Nat → Rows → List T → Option Rows
  | 0, _, _ => none
  | n + 1, R, edge => if edge = [] then some R else bfsO adj n (rnd adj R edge).R (rnd adj R edge).nb
/-- a row of moves -/
inductive Wk (adj : T → List Mv) (o : T) : List Stp → T → Prop
  | nil : Wk adj o [] o
  | snoc {row : List Stp} {t : T} {m : Mv} : Wk adj o row t → m ∈ adj t → Wk adj o (row ++ [(m.1, m.2.1)]) m.2.2
theorem hasK_iff {R : Rows} {t : T} : hasK R t = true ↔ ∃ row, (t, row) ∈ R := by
  unfold hasK
  rw [List.any_eq_true]
  exact ⟨fun ⟨p, h, e⟩ => ⟨p.2, by have := of_decide_eq_true e; rw [← this]; exact h⟩, fun ⟨row, h⟩ => ⟨_, h, by simp⟩⟩
theorem nd_row {R : Rows} (nd : (R.map (·.1)).Nodup) {t : T} {r1 r2 : List Stp} (h1 : (t, r1) ∈ R) (h2 : (t, r2) ∈ R) : r1 = r2 := by
  induction R with
  | nil => simp at h1
  | cons p R ih =>
    rw [List.map_cons, List.nodup_cons] at nd
    have no : ∀ r, (t, r) ∈ R → p.1 ≠ t := fun r h e => nd.1 (by rw [e]; exact List.mem_map_of_mem (f := (·.1)) h)
    rcases List.mem_cons.mp h1 with e1 | h1
    · rcases List.mem_cons.mp h2 with e2 | h2
      · rw [← e1] at e2; cases e2; rfl
      · exact absurd (by rw [← e1]) (no _ h2)
    · rcases List.mem_cons.mp h2 with e2 | h2
      · exact absurd (by rw [← e2]) (no _ h1)
      · exact ih nd.2 h1 h2
theorem rowO_none {R : Rows} {t : T} (h : hasK R t = false) : rowO R t = none := by
  unfold rowO
  rw [Option.map_eq_none_iff, List.find?_eq_none]
  unfold hasK at h
  rw [List.any_eq_false] at h
  exact fun p hp => h p hp
theorem rowO_some {R : Rows} (nd : (R.map (·.1)).Nodup) {t : T} {row : List Stp} : rowO R t = some row ↔ (t, row) ∈ R := by
  unfold rowO
  rw [Option.map_eq_some_iff]
  constructor
  · rintro ⟨p, h, rfl⟩
    have e : p.1 = t := by simpa using List.find?_some h
    have := List.mem_of_find?_eq_some h
    rw [← e]
    exact this
  · intro h
    cases z : R.find? fun p => decide (p.1 = t) with
    | none => exact absurd (by simp) (List.find?_eq_none.mp z _ h)
    | some p =>
      refine ⟨p, rfl, ?_⟩
      have e : p.1 = t := by simpa using List.find?_some z
      have hm := List.mem_of_find?_eq_some z
      exact nd_row nd (t := t) (by rw [← e]; exact hm) h
theorem rowOf_eq {R : Rows} (nd : (R.map (·.1)).Nodup) {t : T} {row : List Stp} (h : (t, row) ∈ R) : rowOf R t = row := by
  unfold rowOf
  rw [(rowO_some nd).mpr h]
  rfl
/-- within one round: R0 stood ahead, its rows of those at the edge have k moves -/
structure In (adj : T → List Mv) (o : T) (k : Nat) (R0 : Rows) (s : Bf) : Prop where
  nd : (s.R.map (·.1)).Nodup
  ex : ∃ more : Rows, s.R = R0 ++ more ∧ s.nb = more.map (·.1) ∧ ∀ p ∈ more, p.2.length = k + 1 ∧ Wk adj o p.2 p.1
theorem In.sub {adj : T → List Mv} {o : T} {k : Nat} {R0 : Rows} {s : Bf} (h : In adj o k R0 s) {p : T × List Stp} (hp : p ∈ R0) : p ∈ s.R := by
  obtain ⟨more, e, _⟩ := h.ex
  rw [e]
  exact List.mem_append_left _ hp
theorem add_in {adj : T → List Mv} {o t : T} {k : Nat} {R0 : Rows} {s : Bf} {row : List Stp} {m : Mv} (h : In adj o k R0 s) (ht : (t, row) ∈ R0) (hk : row.length = k) (hw : Wk adj o row t) (hm : m ∈ adj t) : In adj o k R0 (addMv t s m) ∧ (∀ p ∈ s.R, p ∈ (addMv t s m).R) ∧ hasK (addMv t s m).R m.2.2 = true := by
  unfold addMv
  by_cases z : hasK s.R m.2.2 = true
  · rw [if_pos z]
    exact ⟨h, fun _ h => h, z⟩
  · rw [if_neg z]
    have er := rowOf_eq h.nd (h.sub ht)
    obtain ⟨more, e1, e2, e3⟩ := h.ex
    refine ⟨⟨?_, more ++ [(m.2.2, rowOf s.R t ++ [(m.1, m.2.1)])], ?_, ?_, ?_⟩, fun p hp => List.mem_append_left _ hp, hasK_iff.mpr ⟨_, List.mem_append_right _ (List.mem_singleton.mpr rfl)⟩⟩
    · show ((s.R ++ [(m.2.2, rowOf s.R t ++ [(m.1, m.2.1)])]).map (·.1)).Nodup
      rw [List.map_append, List.nodup_append]
      refine ⟨h.nd, by simp, fun x hx y hy e => z ?_⟩
      simp only [List.map_cons, List.map_nil, List.mem_singleton] at hy
      subst hy; subst e
      obtain ⟨p, hp, e⟩ := List.mem_map.mp hx
      exact hasK_iff.mpr ⟨p.2, by rw [← e]; exact hp⟩
    · show s.R ++ _ = _
      rw [e1, List.append_assoc]
    · show s.nb ++ _ = _
      rw [e2]
      simp
    · intro p hp
      rcases List.mem_append.mp hp with hp | hp
      · exact e3 p hp
      · rw [List.mem_singleton.mp hp, er]
        exact ⟨by simp [hk], .snoc hw hm⟩
theorem fold_in {adj : T → List Mv} {o t : T} {k : Nat} {R0 : Rows} {row : List Stp} (ht : (t, row) ∈ R0) (hk : row.length = k) (hw : Wk adj o row t) : ∀ {ms : List Mv} {s : Bf}, In adj o k R0 s → (∀ m ∈ ms, m ∈ adj t) → In adj o k R0 (ms.foldl (addMv t) s) ∧ (∀ p ∈ s.R, p ∈ (ms.foldl (addMv t) s).R) ∧ ∀ m ∈ ms, hasK (ms.foldl (addMv t) s).R m.2.2 = true
  | [], s, h, _ => ⟨h, fun _ h => h, fun _ h => by simp at h⟩
  | m :: ms, s, h, hm => by
    obtain ⟨h1, h2, h3⟩ := add_in h ht hk hw (hm m List.mem_cons_self)
    obtain ⟨i1, i2, i3⟩ := fold_in ht hk hw (ms := ms) h1 fun x hx => hm x (List.mem_cons_of_mem _ hx)
    refine ⟨i1, fun p hp => i2 p (h2 p hp), fun x hx => ?_⟩
    rcases List.mem_cons.mp hx with e | hx
    · subst e
      obtain ⟨r, hr⟩ := hasK_iff.mp h3
      exact hasK_iff.mpr ⟨r, i2 _ hr⟩
    · exact i3 x hx
theorem edge_in {adj : T → List Mv} {o : T} {k : Nat} {R0 : Rows} : ∀ {edge : List T} {s : Bf}, In adj o k R0 s → (∀ t ∈ edge, ∃ row, (t, row) ∈ R0 ∧ row.length = k ∧ Wk adj o row t) → In adj o k R0 (edge.foldl (doT adj) s) ∧ (∀ p ∈ s.R, p ∈ (edge.foldl (doT adj) s).R) ∧ ∀ t ∈ edge, ∀ m ∈ adj t, hasK (edge.foldl (doT adj) s).R m.2.2 = true
  | [], s, h, _ => ⟨h, fun _ h => h, fun _ h => by simp at h⟩
  | t :: edge, s, h, he => by
    obtain ⟨row, r1, r2, r3⟩ := he t List.mem_cons_self
    obtain ⟨h1, h2, h3⟩ := fold_in r1 r2 r3 (ms := adj t) h fun _ h => h
    obtain ⟨i1, i2, i3⟩ := edge_in (edge := edge) (s := doT adj s t) h1 fun x hx => he x (List.mem_cons_of_mem _ hx)
    refine ⟨i1, fun p hp => i2 p (h2 p hp), fun x hx m hm => ?_⟩
    rcases List.mem_cons.mp hx with e | hx
    · subst e
      obtain ⟨r, hr⟩ := hasK_iff.mp (h3 m hm)
      exact hasK_iff.mpr ⟨r, i2 _ hr⟩
    · exact i3 x hx m hm
/-- at the head of a round -/
structure BI (adj : T → List Mv) (o : T) (k : Nat) (R : Rows) (edge : List T) : Prop where
  nd : (R.map (·.1)).Nodup
  st : (o, []) ∈ R
  wk : ∀ p ∈ R, Wk adj o p.2 p.1
  le : ∀ p ∈ R, p.2.length ≤ k
  ed : ∀ t ∈ edge, ∃ row, (t, row) ∈ R ∧ row.length = k
  cl : ∀ p ∈ R, p.1 ∈ edge ∨ ∀ m ∈ adj p.1, ∃ row, (m.2.2, row) ∈ R ∧ row.length ≤ p.2.length + 1
theorem bi_start {adj : T → List Mv} {o : T} : BI adj o 0 [(o, [])] [o] where
  nd := by simp
  st := by simp
  wk := by intro p hp; rw [List.mem_singleton.mp hp]; exact .nil
  le := by intro p hp; rw [List.mem_singleton.mp hp]; simp
  ed := by intro t ht; rw [List.mem_singleton.mp ht]; exact ⟨[], by simp, rfl⟩
  cl := by intro p hp; rw [List.mem_singleton.mp hp]; simp
theorem bi_rnd {adj : T → List Mv} {o : T} {k : Nat} {R : Rows} {edge : List T} (h : BI adj o k R edge) : BI adj o (k + 1) (rnd adj R edge).R (rnd adj R edge).nb ∧ ((rnd adj R edge).nb ≠ [] → R.length < (rnd adj R edge).R.length) ∧ ∀ p ∈ R, p ∈ (rnd adj R edge).R := by
  have i0 : In adj o k R ⟨R, []⟩ := ⟨h.nd, [], by simp, rfl, by simp⟩
  obtain ⟨i1, i2, i3⟩ := edge_in (edge := edge) i0 fun t ht => by
    obtain ⟨row, h1, h2⟩ := h.ed t ht
    exact ⟨row, h1, h2, h.wk _ h1⟩
  obtain ⟨more, e1, e2, e3⟩ := i1.ex
  have le : ∀ p ∈ (rnd adj R edge).R, p.2.length ≤ k + 1 := fun p hp => by
    have hp : p ∈ R ++ more := by rw [← e1]; exact hp
    rcases List.mem_append.mp hp with hp | hp
    · have := h.le p hp; omega
    · exact Nat.le_of_eq (e3 p hp).1
  refine ⟨⟨i1.nd, i2 _ h.st, ?_, le, ?_, ?_⟩, fun hn => ?_, i2⟩
  · intro p hp
    have hp : p ∈ R ++ more := by rw [← e1]; exact hp
    rcases List.mem_append.mp hp with hp | hp
    · exact h.wk p hp
    · exact (e3 p hp).2
  · intro t ht
    have ht : t ∈ more.map (·.1) := by rw [← e2]; exact ht
    obtain ⟨p, hp, rfl⟩ := List.mem_map.mp ht
    exact ⟨p.2, by show (p.1, p.2) ∈ (rnd adj R edge).R; exact e1 ▸ List.mem_append_right _ hp, (e3 p hp).1⟩
  · intro p hp
    have hp : p ∈ R ++ more := by rw [← e1]; exact hp
    rcases List.mem_append.mp hp with hp | hp
    · right
      rcases h.cl p hp with z | z
      · intro m hm
        obtain ⟨r, hr⟩ := hasK_iff.mp (i3 p.1 z m hm)
        refine ⟨r, hr, ?_⟩
        obtain ⟨row, h1, h2⟩ := h.ed p.1 z
        have := nd_row h.nd (t := p.1) h1 hp
        have := le _ hr
        subst row
        simp only at this
        omega
      · intro m hm
        obtain ⟨r, hr, hl⟩ := z m hm
        exact ⟨r, i2 _ hr, hl⟩
    · left
      show p.1 ∈ (rnd adj R edge).nb
      exact e2 ▸ List.mem_map_of_mem hp
  · show R.length < (List.foldl (doT adj) ⟨R, []⟩ edge).R.length
    rw [e1, List.length_append]
    have : more ≠ [] := fun z => hn (by show (List.foldl (doT adj) ⟨R, []⟩ edge).nb = []; rw [e2, z]; rfl)
    have := List.length_pos_iff.mpr this
    omega
/-- a list with no thing twice is no longer than what holds it -/
theorem nodup_le {α : Type} [DecidableEq α] : ∀ {l L : List α}, l.Nodup → (∀ x ∈ l, x ∈ L) → l.length ≤ L.length
  | [], _, _, _ => by simp
  | x :: l, L, h, hs => by
    rw [List.nodup_cons] at h
    have hx := hs x List.mem_cons_self
    have := nodup_le (l := l) (L := L.erase x) h.2 fun y hy => by
      have : y ≠ x := fun e => h.1 (e ▸ hy)
      exact (List.mem_erase_of_ne this).mpr (hs y (List.mem_cons_of_mem _ hy))
    rw [List.length_erase_of_mem hx] at this
    have := List.length_pos_of_mem hx
    simp only [List.length_cons]
    omega
def unv (b : Nat) : Nat → List T
  | 0 => [[]]
  | n + 1 => (List.range b).flatMap fun (j : Nat) => (unv b n).map (((j : Nat) : Int) :: ·)
theorem unv_len (b : Nat) : ∀ n : Nat, (unv b n).length = b ^ n
  | 0 => rfl
  | n + 1 => by
    unfold unv
    rw [List.length_flatMap]
    have : ((List.range b).map fun (j : Nat) => ((unv b n).map (((j : Nat) : Int) :: ·)).length) = (List.range b).map fun _ => b ^ n := List.map_congr_left fun j _ => by rw [List.length_map, unv_len b n]
    rw [this, List.map_const', List.sum_replicate_nat, List.length_range, Nat.pow_succ, Nat.mul_comm]
theorem unv_mem {b : Nat} : ∀ {n : Nat} {t : T}, t.length = n → (∀ x ∈ t, 0 ≤ x ∧ x < (b : Int)) → t ∈ unv b n
  | 0, [], _, _ => by simp [unv]
  | n + 1, x :: t, hl, hb => by
    unfold unv
    rw [List.mem_flatMap]
    obtain ⟨h1, h2⟩ := hb x List.mem_cons_self
    refine ⟨x.toNat, List.mem_range.mpr (by omega), List.mem_map.mpr ⟨t, unv_mem (by simpa using hl) fun y hy => hb y (List.mem_cons_of_mem _ hy), ?_⟩⟩
    rw [Int.toNat_of_nonneg h1]
/-- enough rounds -/
theorem bfs_some {adj : T → List Mv} {o : T} {U : List T} (hc : ∀ t ∈ U, ∀ m ∈ adj t, m.2.2 ∈ U) (ho : o ∈ U) : ∀ (n k : Nat) (R : Rows) (edge : List T), BI adj o k R edge → (∀ p ∈ R, p.1 ∈ U) → U.length + 2 ≤ n + R.length ∨ (edge = [] ∧ 1 ≤ n) → ∃ R' k', bfsO adj n R edge = some R' ∧ BI adj o k' R' [] ∧ ∀ p ∈ R', p.1 ∈ U
  | 0, k, R, edge, h, hu, hn => by
    rcases hn with hn | hn
    · have : (R.map (·.1)).length ≤ U.length := nodup_le h.nd fun x hx => by
        obtain ⟨p, hp, rfl⟩ := List.mem_map.mp hx
        exact hu p hp
      rw [List.length_map] at this
      omega
    · omega
  | n + 1, k, R, edge, h, hu, hn => by
    unfold bfsO
    by_cases z : edge = []
    · rw [if_pos z]
      subst z
      exact ⟨R, k, rfl, h, hu⟩
    · rw [if_neg z]
      obtain ⟨b1, b2, b3⟩ := bi_rnd h
      have wu : ∀ {row : List Stp} {t : T}, Wk adj o row t → t ∈ U := fun w => by
        induction w with
        | nil => exact ho
        | snoc _ hm ih => exact hc _ ih _ hm
      have hn : U.length + 2 ≤ n + 1 + R.length := by
        rcases hn with hn | hn
        · exact hn
        · exact absurd hn.1 z
      refine bfs_some hc ho n (k + 1) _ _ b1 (fun p hp => wu (b1.wk p hp)) ?_
      by_cases w : (rnd adj R edge).nb = []
      · have : (R.map (·.1)).length ≤ U.length := nodup_le h.nd fun x hx => by
          obtain ⟨p, hp, rfl⟩ := List.mem_map.mp hx
          exact hu p hp
        rw [List.length_map] at this
        exact .inr ⟨w, by omega⟩
      · have := b2 w
        exact .inl (by omega)
/-- nothing is come to by fewer moves -/
theorem bi_least {adj : T → List Mv} {o : T} {k : Nat} {R : Rows} (h : BI adj o k R []) {w : List Stp} {x : T} (hw : Wk adj o w x) : ∃ row, (x, row) ∈ R ∧ row.length ≤ w.length := by
  induction hw with
  | nil => exact ⟨[], h.st, by simp⟩
  | snoc _ hm ih =>
    obtain ⟨row, h1, h2⟩ := ih
    rcases h.cl _ h1 with z | z
    · simp at z
    · obtain ⟨r, hr, hl⟩ := z _ hm
      refine ⟨r, hr, ?_⟩
      simp only at hl
      rw [List.length_append, List.length_singleton]
      omega
end BF
set_option Elab.async false
set_option linter.all false
set_option maxRecDepth 100000
set_option maxHeartbeats 1000000
namespace EL
open PySem PySem.Spec PyProof.Rows L2 GxR LG ZN
section
variable {ρ : Rho} {st : Sto} {fa fb fc : FE} {ta tb : FT} {fr : FA} {s1 s2 : FS} {h h' : D → D → Sto → Option (D × Sto)} {hA : HA} {n : Nat}
@[simp] theorem e_run {N : Nat} {sb : FS} {ds : List D} : runD N sb ds st = (sb (ds.map some ++ List.replicate (N - ds.length) none) st).bind fun p => match p.1 with
  | .rt d => some (d, p.2.2)
  | .nx => some (.non, p.2.2)
  | _ => none := rfl
@[simp] theorem e_seq : sSeq s1 s2 ρ st = (s1 ρ st).bind fun p => match p.1 with
  | .nx => s2 p.2.1 p.2.2
  | f => some (f, p.2.1, p.2.2) := rfl
@[simp] theorem e_next : sNext ρ st = some (.nx, ρ, st) := rfl
@[simp] theorem e_set {i : Nat} : sSet i fa ρ st = (fa ρ st).bind fun p => some (.nx, ρ.set i (some p.1), p.2) := rfl
@[simp] theorem e_expr : sExpr fa ρ st = (fa ρ st).bind fun p => some (.nx, ρ, p.2) := rfl
@[simp] theorem e_ret : sRet fa ρ st = (fa ρ st).bind fun p => some (.rt p.1, ρ, p.2) := rfl
@[simp] theorem e_if : sIf ta s1 s2 ρ st = (ta ρ st).bind fun p => if p.1 = true then s1 ρ p.2 else s2 ρ p.2 := rfl
@[simp] theorem e_put {fo fi : FE} : sPut fa fo fi ρ st = (fa ρ st).bind fun p => (fo ρ p.2).bind fun q => (fi ρ q.2).bind fun r => (putIx q.1 r.1 p.1 r.2).bind fun st' => some (.nx, ρ, st') := by
  unfold sPut
  congr; funext p; congr; funext q; congr; funext r
  cases putIx q.1 r.1 p.1 r.2 <;> rfl
@[simp] theorem e_unp {tg : Tg} : sUnp tg fa ρ st = (fa ρ st).bind fun p => (tgD tg p.1 ρ).bind fun ρ' => some (.nx, ρ', p.2) := by
  unfold sUnp
  congr; funext p
  cases tgD tg p.1 ρ <;> rfl
@[simp] theorem e_par {is : List Nat} : sPar is fr ρ st = (fr ρ st).bind fun p => if p.1.length = is.length then some (.nx, setM ρ is p.1, p.2) else none := rfl
@[simp] theorem e_C {d : D} : fC d ρ st = some (d, st) := rfl
@[simp] theorem e_V {i : Nat} : fV i ρ st = match ρ[i]? with
  | some (some d) => some (d, st)
  | _ => none := rfl
@[simp] theorem e_op : fOp h fa fb ρ st = (fa ρ st).bind fun p => (fb ρ p.2).bind fun q => h p.1 q.1 q.2 := rfl
@[simp] theorem e_chain : fChain h h' fa fb fc ρ st = (fa ρ st).bind fun p => (fb ρ p.2).bind fun q => (h p.1 q.1 q.2).bind fun r => match r.1 with
  | .bl true => (fc ρ r.2).bind fun z => h' q.1 z.1 z.2
  | .bl false => some (.bl false, r.2)
  | _ => none := rfl
@[simp] theorem e_asB {b : Bool} : asB (.bl b) = some b := rfl
@[simp] theorem e_and : fAnd fa fb ρ st = (fa ρ st).bind fun p => (asB p.1).bind fun k => if k = true then fb ρ p.2 else some (.bl false, p.2) := rfl
@[simp] theorem e_or : fOr fa fb ρ st = (fa ρ st).bind fun p => (asB p.1).bind fun k => if k = true then some (.bl true, p.2) else fb ρ p.2 := rfl
@[simp] theorem e_not : fNot fa ρ st = (fa ρ st).bind fun p => (asB p.1).bind fun k => some (.bl (!k), p.2) := rfl
@[simp] theorem e_tst : fTst fa ρ st = (fa ρ st).bind fun p => (asB p.1).bind fun k => some (k, p.2) := rfl
@[simp] theorem e_tand : fTAnd ta tb ρ st = (ta ρ st).bind fun p => if p.1 = true then tb ρ p.2 else some (false, p.2) := rfl
@[simp] theorem e_tor : fTOr ta tb ρ st = (ta ρ st).bind fun p => if p.1 = true then some (true, p.2) else tb ρ p.2 := rfl
@[simp] theorem e_tnot : fTNot ta ρ st = (ta ρ st).bind fun p => some (!p.1, p.2) := rfl
@[simp] theorem e_ifx : fIf ta fa fb ρ st = (ta ρ st).bind fun p => if p.1 = true then fa ρ p.2 else fb ρ p.2 := rfl
@[simp] theorem e_nil : fNil ρ st = some ([], st) := rfl
@[simp] theorem e_cons : fCons fa fr ρ st = (fa ρ st).bind fun p => (fr ρ p.2).bind fun q => some (p.1 :: q.1, q.2) := rfl
@[simp] theorem e_tup : fTup fr ρ st = (fr ρ st).bind fun p => if p.1.length ≤ sizeLine then some (.tup p.1, p.2) else none := rfl
@[simp] theorem e_lst : fLst fr ρ st = (fr ρ st).bind fun p => if p.1.length ≤ sizeLine then some (.ref p.2.length, p.2 ++ [.lst p.1]) else none := rfl
@[simp] theorem e_lz : fLz fr ρ st = (fr ρ st).bind fun p => if p.1.length ≤ sizeLine then some (.lst p.1, p.2) else none := rfl
@[simp] theorem e_star : fStar fa fr ρ st = (fa ρ st).bind fun p => (seqD p.1 p.2).bind fun xs => (fr ρ p.2).bind fun q => some (xs ++ q.1, q.2) := rfl
@[simp] theorem e_tru : fTru fa ρ st = (fa ρ st).bind fun p => (truD p.1 p.2).bind fun k => some (k, p.2) := rfl
@[simp] theorem e_aug {i : Nat} : sAug i h fa ρ st = match ρ[i]? with
  | some (some x) => (fa ρ st).bind fun p => (h x p.1 p.2).bind fun z => some (.nx, ρ.set i (some z.1), z.2)
  | _ => none := rfl
@[simp] theorem e_yes : fYes ρ st = some (true, st) := rfl
@[simp] theorem e_call : fCall hA fr ρ st = (fr ρ st).bind fun p => hA p.1 p.2 := rfl
@[simp] theorem e_fn : fFn n hA fr ρ st = (fr ρ st).bind fun p => if p.1.length = n then hA p.1 p.2 else none := rfl
@[simp] theorem e_neg : fNeg fa ρ st = (fa ρ st).bind fun p => match p.1 with
  | .int i => some (.int (-i), p.2)
  | .bl b => some (.int (-(bI b)), p.2)
  | _ => none := rfl
@[simp] theorem e_sl {fl fu : FO} : fSl fa fl fu ρ st = (fa ρ st).bind fun p => (fl ρ p.2).bind fun l => (fu ρ l.2).bind fun u => sliceD p.1 l.1 u.1 u.2 := rfl
@[simp] theorem e_oN : oNone ρ st = some (none, st) := rfl
@[simp] theorem e_oS : oSome fa ρ st = (fa ρ st).bind fun p => match p.1 with
  | .int i => some (some i, p.2)
  | _ => none := rfl
@[simp] theorem e_isiT {Ts : List String} : fIsiT Ts fa ρ st = (fa ρ st).bind fun p => (tyN p.1 p.2).bind fun t => (kits t Ts).bind fun b => some (.bl b, p.2) := by
  unfold fIsiT
  congr; funext p; congr; funext t
  cases kits t Ts <;> rfl
@[simp] theorem e_app {fo : FE} : fApp fo fa ρ st = (fo ρ st).bind fun p => (fa ρ p.2).bind fun q => match p.1 with
  | .ref l => match p.2[l]?, q.2[l]? with
    | some (.lst _), some (.lst ds) => if ds.length < sizeLine then some (.non, q.2.set l (.lst (ds ++ [q.1]))) else none
    | _, _ => none
  | _ => none := rfl
@[simp] theorem e_upper : fUpper fa ρ st = (fa ρ st).bind fun p => match p.1 with
  | .str x => if x.length ≤ 5592405 then some (.str (Txt.upper x), p.2) else none
  | _ => none := rfl
variable {i j : Int} {x y : Str} {l m : Nat} {xs ys : List D}
@[simp] theorem e_addI : addD (.int i) (.int j) st = some (.int (i + j), st) := rfl
@[simp] theorem e_subI : subD (.int i) (.int j) st = some (.int (i - j), st) := rfl
@[simp] theorem e_mulI : mulD (.int i) (.int j) st = if i.natAbs.log2 + j.natAbs.log2 < 1000000 then some (.int (i * j), st) else none := by
  show Option.map _ (if _ then _ else _) = _
  split <;> rfl
@[simp] theorem e_fdivI : fdivD (.int i) (.int j) st = if 0 < j ∧ j.natAbs.log2 < 9000 then some (.int (i / j), st) else none := by
  show Option.map _ (if _ then _ else _) = _
  split <;> rfl
@[simp] theorem e_modI : modD (.int i) (.int j) st = if 0 < j then some (.int (i % j), st) else none := by
  show Option.map _ (if _ then _ else _) = _
  split <;> rfl
@[simp] theorem e_powI : powD (.int i) (.int j) st = if 0 ≤ j ∧ j ≤ 1000000 ∧ i.natAbs < 2 ^ 64 then some (.int (i ^ j.toNat), st) else none := by
  show Option.map _ (if _ then _ else _) = _
  split <;> rfl
@[simp] theorem e_ltI : ltD (.int i) (.int j) st = some (.bl (decide (i < j)), st) := rfl
@[simp] theorem e_leI : leD (.int i) (.int j) st = some (.bl (decide (i ≤ j)), st) := rfl
@[simp] theorem e_gtI : gtD (.int i) (.int j) st = some (.bl (decide (j < i)), st) := rfl
@[simp] theorem e_geI : geD (.int i) (.int j) st = some (.bl (decide (j ≤ i)), st) := rfl
@[simp] theorem e_ixT : ixD (.tup xs) (.int i) st = (atI xs i).bind fun d => some (d, st) := by
  show Option.map _ (atI xs i) = _
  cases atI xs i <;> rfl
@[simp] theorem e_ixZ : ixD (.lst xs) (.int i) st = (atI xs i).bind fun d => some (d, st) := by
  unfold ixD listOf
  simp only [Option.bind_some]
  cases atI xs i <;> rfl
theorem e_ixL {ds : List D} (h : st[l]? = some (.lst ds)) : ixD (.ref l) (.int i) st = (atI ds i).bind fun d => some (d, st) := by
  have q : listOf (.ref l) st = some ds := by unfold listOf; simp only [h]
  unfold ixD
  simp only [q, Option.bind_some]
  cases atI ds i <;> rfl
theorem e_putL {v : D} {ds : List D} (h : st[l]? = some (.lst ds)) : putIx (.ref l) (.int i) v st = (ixN ds.length i).bind fun j => some (st.set l (.lst (ds.set j v))) := by
  unfold putIx
  simp only [h]
  cases ixN ds.length i <;> rfl
@[simp] theorem e_lenT : lenD [.tup xs] st = some (.int xs.length, st) := rfl
@[simp] theorem e_lenZ : lenD [.lst xs] st = some (.int xs.length, st) := rfl
@[simp] theorem e_tupT : tupleD [.tup xs] st = some (.tup xs, st) := rfl
@[simp] theorem e_tupZ : tupleD [.lst xs] st = some (.tup xs, st) := rfl
@[simp] theorem e_listOfZ : listOf (.lst xs) st = some xs := rfl
theorem e_listOfR {ds : List D} (h : st[l]? = some (.lst ds)) : listOf (.ref l) st = some ds := by unfold listOf; simp only [h]
@[simp] theorem e_sqT : sqOf (.tup xs) st = some (true, xs) := rfl
@[simp] theorem e_sqZ : sqOf (.lst xs) st = some (false, xs) := rfl
@[simp] theorem e_seqT : seqD (.tup xs) st = some xs := rfl
@[simp] theorem e_seqZ : seqD (.lst xs) st = some xs := rfl
@[simp] theorem e_valZ : byVal (.lst xs) st = .lst xs := rfl
@[simp] theorem e_valT : byVal (.tup xs) st = .tup xs := rfl
@[simp] theorem e_valI : byVal (.int i) st = .int i := rfl
@[simp] theorem e_valS : byVal (.str x) st = .str x := rfl
@[simp] theorem e_valB {b : Bool} : byVal (.bl b) st = .bl b := rfl
@[simp] theorem e_valN : byVal .non st = .non := rfl
@[simp] theorem e_eqI : eqD (.int i) (.int j) st = some (.bl (decide (i = j)), st) := by
  unfold eqD eqW
  simp [okB, eqB]
  cases h : (i == j) <;> simp_all
@[simp] theorem e_neI : neD (.int i) (.int j) st = some (.bl (!decide (i = j)), st) := by
  unfold neD eqW
  simp [okB, eqB]
  cases h : (i == j) <;> simp_all
@[simp] theorem e_addT : addD (.tup xs) (.tup ys) st = if xs.length + ys.length ≤ sizeLine then some (.tup (xs ++ ys), st) else none := rfl
@[simp] theorem e_addZ : addD (.lst xs) (.lst ys) st = if xs.length + ys.length ≤ sizeLine then some (.lst (xs ++ ys), st) else none := rfl
@[simp] theorem e_slT {a b : Option Int} : sliceD (.tup xs) a b st = some (.tup (cutD xs a b), st) := rfl
@[simp] theorem e_slZ {a b : Option Int} : sliceD (.lst xs) a b st = some (.lst (cutD xs a b), st) := rfl
end
@[simp] theorem atI_0 {α : Type} {x : α} {r : List α} : atI (x :: r) 0 = some x := by simp [atI, ixN]
@[simp] theorem atI_1 {α : Type} {x y : α} {r : List α} : atI (x :: y :: r) 1 = some y := by
  have h : (1 : Int) < ((r.length : Int) + 1 + 1) := by omega
  simp [atI, ixN, h]
@[simp] theorem ixN_0 {n : Nat} : ixN (n + 1) 0 = some 0 := by
  have h : (0 : Int) < (n : Int) + 1 := by omega
  simp [ixN, h]
@[simp] theorem ixN_1 {n : Nat} : ixN (n + 1 + 1) 1 = some 1 := by
  have h : (1 : Int) < (n : Int) + 1 + 1 := by omega
  simp [ixN, h]
end EL
set_option Elab.async false
set_option linter.all false
set_option maxRecDepth 100000
set_option maxHeartbeats 1000000
namespace EL
open PySem PySem.Spec PyProof.Rows L2 GxR LG
def Ok {α : Type} (x : Option α) (Q : α → Prop) : Prop := ∃ a, x = some a ∧ Q a
section
variable {α β : Type} {x : Option α} {Q R : α → Prop}
theorem Ok.mono (h : Ok x Q) (i : ∀ a, Q a → R a) : Ok x R := let ⟨a, e, q⟩ := h; ⟨a, e, i a q⟩
theorem Ok.pure {a : α} (h : Q a) : Ok (some a) Q := ⟨a, rfl, h⟩
theorem Ok.bind {f : α → Option β} {S : β → Prop} (h : Ok x fun a => Ok (f a) S) : Ok (x.bind f) S := by
  obtain ⟨a, rfl, b, e, s⟩ := h
  exact ⟨b, e, s⟩
theorem Ok.then {f : α → Option β} {S : β → Prop} (h : Ok x Q) (i : ∀ a, Q a → Ok (f a) S) : Ok (x.bind f) S := Ok.bind (h.mono i)
theorem Ok.eq {y : Option α} (h : Ok y Q) (e : x = y) : Ok x Q := by rw [e]; exact h
theorem Ok.and (h : Ok x Q) (h' : Ok x R) : Ok x fun a => Q a ∧ R a := by
  obtain ⟨a, rfl, q⟩ := h
  obtain ⟨b, e, r⟩ := h'
  cases e
  exact ⟨a, rfl, q, r⟩
end
def bagO (x y : Int) : O := .lst [.int x, .int y]
def BagOk (x y : Int) : Prop := 0 ≤ x ∧ 0 ≤ y ∧ y < 2147483648
def Bg (lb : Nat) (st : Sto) : Prop := ∃ x y : Int, st[lb]? = some (bagO x y) ∧ BagOk x y
/-- only the bag has changed -/
def Go (lb : Nat) (st st' : Sto) : Prop := ∃ x y : Int, BagOk x y ∧ st' = st.set lb (bagO x y)
section
variable {lb l : Nat} {st st' st'' : Sto} {o : O}
theorem at_lt (h : st[l]? = some o) : l < st.length := (List.getElem?_eq_some_iff.mp h).1
theorem Bg.lt (h : Bg lb st) : lb < st.length := let ⟨_, _, h, _⟩ := h; at_lt h
theorem Go.refl (h : Bg lb st) : Go lb st st := by
  obtain ⟨x, y, h, b⟩ := h
  refine ⟨x, y, b, ?_⟩
  apply List.ext_getElem?
  intro i
  by_cases e : i = lb
  · subst e; rw [List.getElem?_set_self (at_lt h), h]
  · rw [List.getElem?_set_ne (Ne.symm e)]
theorem Go.trans (a : Go lb st st') (b : Go lb st' st'') : Go lb st st'' := by
  obtain ⟨x, y, _, rfl⟩ := a
  obtain ⟨x', y', h', rfl⟩ := b
  exact ⟨x', y', h', by rw [List.set_set]⟩
theorem Go.len (a : Go lb st st') : st'.length = st.length := by obtain ⟨x, y, _, rfl⟩ := a; simp
theorem Go.bg (h : lb < st.length) (a : Go lb st st') : Bg lb st' := by
  obtain ⟨x, y, b, rfl⟩ := a
  exact ⟨x, y, by rw [List.getElem?_set_self h], b⟩
theorem Go.at (a : Go lb st st') (n : l ≠ lb) : st'[l]? = st[l]? := by
  obtain ⟨x, y, b, rfl⟩ := a
  rw [List.getElem?_set_ne (Ne.symm n)]
theorem Go.app {more : Sto} (h : lb < st.length) (a : Go lb (st ++ more) st') : ∃ s2, st' = s2 ++ more ∧ Go lb st s2 := by
  obtain ⟨x, y, b, rfl⟩ := a
  exact ⟨st.set lb (bagO x y), by rw [List.set_append_left _ _ h], x, y, b, rfl⟩
theorem Bg.app (h : Bg lb st) (more : Sto) : Bg lb (st ++ more) := by
  obtain ⟨x, y, q, b⟩ := h
  exact ⟨x, y, by rw [List.getElem?_append_left (at_lt q)]; exact q, b⟩
theorem Go.calm (a : Go lb st st') : Calm st st' := by
  obtain ⟨x, y, b, rfl⟩ := a
  intro l o hl h
  by_cases e : l = lb
  · subst e
    rw [List.getElem?_set_self hl] at h
    cases h
    exact .inr rfl
  · rw [List.getElem?_set_ne (Ne.symm e)] at h
    exact .inl h
theorem at_new : (st ++ [o])[st.length]? = some o := by simp
end
section
variable {fn : HA} {ds : List D} {st st' : Sto} {d d2 : D}
theorem seal_pure {n : Nat} (h : pureB d = true) : sealD n st d = some d := by
  unfold sealD
  split
  · rename_i es
    have q : ∀ es : List D, pureL es = true → seals n st es = some es := by
      intro es
      induction es with
      | nil => intro _; rfl
      | cons e es ih =>
        intro hp
        unfold pureL at hp
        obtain ⟨h1, h2⟩ := Bool.and_eq_true_iff.mp hp
        have s1 : seal1 n st e = some e := by
          unfold seal1
          split
          · unfold pureB at h1; cases h1
          · rw [if_pos h1]
        simp [seals, s1, ih h2]
    have hp : pureL es = true := by unfold pureB at h; exact h
    rw [q es hp]; rfl
  · unfold seal1
    split
    · unfold pureB at h; cases h
    · rw [if_pos h]
theorem seal_to {s2 : Sto} (h : fn ds st = some (d, st')) (c : Calm st st') (s : sealD st.length st' d = some d2) (t : st'.take st.length = s2) : sealFn fn ds st = some (d2, s2) := by
  unfold sealFn
  rw [h]
  simp only [Option.bind_some]
  unfold letGo
  rw [if_pos ⟨c, rfl⟩, s, t]
  rfl
theorem calm_refl : Calm st st := fun _ _ _ h => .inl h
theorem calm_app {more : Sto} (c : Calm st st') (hl : st'.length = st.length) : Calm st (st' ++ more) := fun l o h q => c l o h (by rw [List.getElem?_append_left (by omega)] at q; exact q)
/-- nothing is left behind -/
theorem seal_same (h : fn ds st = some (d, st)) (p : pureB d = true) : sealFn fn ds st = some (d, st) := seal_to h calm_refl (seal_pure p) (by simp)
/-- something is left behind -/
theorem seal_more {more : Sto} (h : fn ds st = some (d, st ++ more)) (p : pureB d = true) : sealFn fn ds st = some (d, st) := seal_to h (calm_app calm_refl rfl) (seal_pure p) (by simp)
theorem seal_list {more : Sto} {es : List D} (h : fn ds st = some (.ref st.length, st ++ .lst es :: more)) (p : pureL es = true) : sealFn fn ds st = some (.lst es, st) :=
  seal_to h (calm_app calm_refl rfl) (by simp [sealD, seal1, p]) (by simp)
/-- a def that draws -/
theorem seal_ok {lb : Nat} {P : D → Prop} (h : Ok (fn ds st) fun p => P p.1 ∧ pureB p.1 = true ∧ ∃ s2 more, p.2 = s2 ++ more ∧ Go lb st s2) : Ok (sealFn fn ds st) fun p => P p.1 ∧ Go lb st p.2 := by
  obtain ⟨⟨v, st'⟩, e, hp, hq, s2, more, rfl, g⟩ := h
  refine ⟨(v, s2), seal_to e (calm_app g.calm g.len) (seal_pure hq) ?_, hp, g⟩
  rw [← g.len]
  simp
end
end EL
set_option Elab.async false
set_option linter.all false
set_option maxRecDepth 100000
set_option maxHeartbeats 1000000
namespace EL
open PySem PySem.Spec PyProof.Rows L2 GxR LG FW
def ED (lb : Nat) (ρ : Rho) (f : FE) (P : D → Prop) : Prop := ∀ st, Bg lb st → Ok (f ρ st) fun p => P p.1 ∧ Go lb st p.2
def EA (lb : Nat) (ρ : Rho) (f : FA) (P : List D → Prop) : Prop := ∀ st, Bg lb st → Ok (f ρ st) fun p => P p.1 ∧ Go lb st p.2
def ET (lb : Nat) (ρ : Rho) (f : FT) : Prop := ∀ st, Bg lb st → Ok (f ρ st) fun p => Go lb st p.2
def Nn (lo hi : Int) (d : D) : Prop := ∃ i, d = .int i ∧ lo ≤ i ∧ i ≤ hi
section
variable {lb : Nat} {ρ : Rho} {f g : FE} {fr : FA} {ta tb : FT} {P Q R : D → Prop} {A B : List D → Prop}
theorem ED.mono (h : ED lb ρ f P) (i : ∀ d, P d → Q d) : ED lb ρ f Q := fun st b => (h st b).mono fun _ q => ⟨i _ q.1, q.2⟩
theorem EA.mono (h : EA lb ρ fr A) (i : ∀ d, A d → B d) : EA lb ρ fr B := fun st b => (h st b).mono fun _ q => ⟨i _ q.1, q.2⟩
theorem ED.c {d : D} (h : P d) : ED lb ρ (fC d) P := fun st b => ⟨_, rfl, h, .refl b⟩
theorem ED.v {i : Nat} {d : D} (e : ρ[i]? = some (some d)) (h : P d) : ED lb ρ (fV i) P := fun st b => ⟨(d, st), by unfold fV; rw [e], h, .refl b⟩
/-- whatever does not draw -/
theorem ED.q {d : D} (e : ∀ st, f ρ st = some (d, st)) (h : P d) : ED lb ρ f P := fun st b => ⟨(d, st), e st, h, .refl b⟩
theorem EA.nil (h : A []) : EA lb ρ fNil A := fun st b => ⟨_, rfl, h, .refl b⟩
theorem EA.cons (h : ED lb ρ f P) (t : EA lb ρ fr A) : EA lb ρ (fCons f fr) (fun ds => ∃ d r, ds = d :: r ∧ P d ∧ A r) := fun st b =>
  (h st b).then fun p q => (t p.2 (q.2.bg b.lt)).then fun r s => .pure ⟨⟨_, _, rfl, q.1, s.1⟩, q.2.trans s.2⟩
theorem EA.all0 : EA lb ρ fNil (fun ds => ds.length = 0 ∧ ∀ d ∈ ds, P d) := .nil ⟨rfl, fun _ h => by cases h⟩
theorem EA.allC {n : Nat} (h : ED lb ρ f P) (t : EA lb ρ fr (fun ds => ds.length = n ∧ ∀ d ∈ ds, P d)) : EA lb ρ (fCons f fr) (fun ds => ds.length = n + 1 ∧ ∀ d ∈ ds, P d) :=
  (EA.cons h t).mono fun ds ⟨d, r, e, p, q1, q2⟩ => by
    subst e
    exact ⟨by simp [q1], fun x hx => by rcases List.mem_cons.mp hx with z | z; exact z ▸ p; exact q2 x z⟩
theorem ED.tup (h : EA lb ρ fr (fun ds => ds.length ≤ sizeLine ∧ P (.tup ds))) : ED lb ρ (fTup fr) P := fun st b =>
  (h st b).then fun p q => by rw [if_pos q.1.1]; exact .pure ⟨q.1.2, q.2⟩
theorem ED.lz (h : EA lb ρ fr (fun ds => ds.length ≤ sizeLine ∧ P (.lst ds))) : ED lb ρ (fLz fr) P := fun st b =>
  (h st b).then fun p q => by rw [if_pos q.1.1]; exact .pure ⟨q.1.2, q.2⟩
theorem ED.call {h : HA} (a : EA lb ρ fr A) (k : ∀ ds st, A ds → Ok (h ds st) fun p => P p.1 ∧ p.2 = st) : ED lb ρ (fCall h fr) P := fun st b =>
  (a st b).then fun p q => (k p.1 p.2 q.1).mono fun r s => ⟨s.1, by rw [s.2]; exact q.2⟩
theorem ED.op {h : D → D → Sto → Option (D × Sto)} (a : ED lb ρ f P) (c : ED lb ρ g Q) (k : ∀ x y st, P x → Q y → Ok (h x y st) fun p => R p.1 ∧ p.2 = st) : ED lb ρ (fOp h f g) R := fun st b =>
  (a st b).then fun p q => (c p.2 (q.2.bg b.lt)).then fun r s => (k p.1 r.1 r.2 q.1 s.1).mono fun t u => ⟨u.1, by rw [u.2]; exact q.2.trans s.2⟩
theorem ED.fn {n : Nat} {h : HA} (a : EA lb ρ fr A) (k : ∀ ds st, A ds → Bg lb st → ds.length = n ∧ Ok (h ds st) fun p => P p.1 ∧ Go lb st p.2) : ED lb ρ (fFn n h fr) P := fun st b =>
  (a st b).then fun p q => by
    obtain ⟨e, o⟩ := k p.1 p.2 q.1 (q.2.bg b.lt)
    rw [if_pos e]
    exact o.mono fun r s => ⟨s.1, q.2.trans s.2⟩
theorem ED.ite (t : ET lb ρ ta) (a : ED lb ρ f P) (c : ED lb ρ g P) : ED lb ρ (fIf ta f g) P := fun st b =>
  (t st b).then fun p q => by
    split
    · exact (a p.2 (q.bg b.lt)).mono fun r s => ⟨s.1, q.trans s.2⟩
    · exact (c p.2 (q.bg b.lt)).mono fun r s => ⟨s.1, q.trans s.2⟩
theorem ET.tst (a : ED lb ρ f fun d => ∃ k, asB d = some k) : ET lb ρ (fTst f) := fun st b =>
  (a st b).then fun p q => by
    obtain ⟨⟨k, e⟩, g⟩ := q
    rw [e]
    exact .pure g
theorem ET.and (t : ET lb ρ ta) (u : ET lb ρ tb) : ET lb ρ (fTAnd ta tb) := fun st b =>
  (t st b).then fun p q => by
    split
    · exact (u p.2 (q.bg b.lt)).mono fun r s => q.trans s
    · exact .pure q
theorem ED.neg {lo hi : Int} (a : ED lb ρ f (Nn lo hi)) : ED lb ρ (fNeg f) (Nn (-hi) (-lo)) := fun st b => (a st b).then fun p q => by
  obtain ⟨⟨i, e, h1, h2⟩, g⟩ := q
  rw [e]
  exact .pure ⟨⟨_, rfl, by omega, by omega⟩, g⟩
theorem ED.add {l1 h1 l2 h2 lo hi : Int} (a : ED lb ρ f (Nn l1 h1)) (c : ED lb ρ g (Nn l2 h2)) (e1 : lo ≤ l1 + l2 := by decide) (e2 : h1 + h2 ≤ hi := by decide) : ED lb ρ (fOp addD f g) (Nn lo hi) :=
  .op a c fun x y st ⟨i, ei, i1, i2⟩ ⟨j, ej, j1, j2⟩ => by subst ei; subst ej; exact .pure ⟨⟨_, rfl, by omega, by omega⟩, rfl⟩
theorem ED.sub {l1 h1 l2 h2 lo hi : Int} (a : ED lb ρ f (Nn l1 h1)) (c : ED lb ρ g (Nn l2 h2)) (e1 : lo ≤ l1 - h2 := by decide) (e2 : h1 - l2 ≤ hi := by decide) : ED lb ρ (fOp subD f g) (Nn lo hi) :=
  .op a c fun x y st ⟨i, ei, i1, i2⟩ ⟨j, ej, j1, j2⟩ => by subst ei; subst ej; exact ⟨_, e_subI, ⟨_, rfl, by omega, by omega⟩, rfl⟩
theorem ED.n {i lo hi : Int} (h1 : lo ≤ i := by decide) (h2 : i ≤ hi := by decide) : ED lb ρ (fC (.int i)) (Nn lo hi) := .c ⟨i, rfl, h1, h2⟩
theorem ED.x {k : Nat} {i lo hi : Int} (e : ρ[k]? = some (some (.int i))) (h1 : lo ≤ i) (h2 : i ≤ hi) : ED lb ρ (fV k) (Nn lo hi) := .v e ⟨i, rfl, h1, h2⟩
theorem atI_lt {α : Type} {l : List α} {i : Int} (h0 : 0 ≤ i) (h1 : i < l.length) : ∃ x, atI l i = some x ∧ x ∈ l ∧ l[i.toNat]? = some x := by
  have h2 : i.toNat < l.length := by omega
  refine ⟨l[i.toNat], ?_, List.getElem_mem h2, by simp [h2]⟩
  unfold atI ixN
  have e1 : ¬ i < 0 := by omega
  simp [e1, h0, h1, h2]
theorem atI_nat {α : Type} {l : List α} {i : Nat} : atI l (i : Int) = l[i]? := by
  unfold atI ixN
  by_cases h : i < l.length
  · simp [h]
  · simp [h]
theorem ED.pick {n : Nat} (a : EA lb ρ fr (fun ds => ds.length = n ∧ ∀ d ∈ ds, P d)) (c : ED lb ρ g (Nn 0 ((n : Int) - 1))) (hn : n ≤ sizeLine := by decide) : ED lb ρ (fOp ixD (fLz fr) g) P :=
  .op (P := fun d => ∃ ds, d = .lst ds ∧ ds.length = n ∧ ∀ d ∈ ds, P d) (.lz (a.mono fun ds q => ⟨by rw [q.1]; exact hn, ds, rfl, q⟩)) c fun x y st ⟨ds, ex, h1, h2⟩ ⟨i, ey, i1, i2⟩ => by
    subst ex; subst ey
    obtain ⟨d, e1, e2, _⟩ := atI_lt (l := ds) i1 (by omega)
    rw [e_ixZ, e1]
    exact .pure ⟨h2 d e2, rfl⟩
end
theorem log2_small {i : Int} (h0 : 0 ≤ i) (h1 : i < 4294967296) : i.natAbs.log2 < 32 := by
  by_cases hz : i.natAbs = 0
  · rw [hz]; decide
  · exact (Nat.log2_lt hz).mpr (by omega)
theorem take_spec {lb : Nat} {m : Int} (hm : 1 ≤ m) (hm2 : m ≤ 1073741824) {st : Sto} (b : Bg lb st) : Ok (fn__law_take [.ref lb, .int m] st) fun p => Nn 0 (m - 1) p.1 ∧ Go lb st p.2 := by
  unfold fn__law_take
  refine seal_ok ?_
  obtain ⟨x, y, h, hx, hy, hz⟩ := b
  have e0 : (0 : Int) < m := by omega
  have em : m.natAbs.log2 < 9000 := by have := log2_small (i := m) (by omega) (by omega); omega
  unfold sb__law_take
  unfold bagO at h
  by_cases hp : 0 < x
  · refine ⟨(.int (x % m), st.set lb (bagO (x / m) y)), ?_, ⟨_, rfl, Int.emod_nonneg _ (by omega), by have := Int.emod_lt_of_pos x e0; omega⟩, rfl, _, [], (List.append_nil _).symm, _, _, ⟨Int.ediv_nonneg hx (by omega), hy, hz⟩, rfl⟩
    simp [e_ixL h, hp, e0, em, e_putL h, bagO]
  · have q1 := Int.emod_nonneg (y * 48271) (show (2147483647 : Int) ≠ 0 by decide)
    have q2 := Int.emod_lt_of_pos (y * 48271) (show (0 : Int) < 2147483647 by decide)
    have h' : (st.set lb (.lst [.int x, .int (y * 48271 % 2147483647)]))[lb]? = some (.lst [.int x, .int (y * 48271 % 2147483647)]) := by rw [List.getElem?_set_self (at_lt h)]
    have k1 : y.natAbs.log2 < 32 := log2_small hy (by omega)
    have k2 : (y * 48271 % 2147483647).natAbs.log2 < 32 := log2_small q1 (by omega)
    refine ⟨(.int (y * 48271 % 2147483647 * (y * 48271 % 2147483647) % 2147483629 / 64 % m), st.set lb (bagO x (y * 48271 % 2147483647))), ?_, ⟨_, rfl, Int.emod_nonneg _ (by omega), by have := Int.emod_lt_of_pos (y * 48271 % 2147483647 * (y * 48271 % 2147483647) % 2147483629 / 64) e0; omega⟩, rfl, _, [], (List.append_nil _).symm, _, _, ⟨hx, q1, by omega⟩, rfl⟩
    have w1 : Nat.log2 48271 < 32 := by decide
    have w2 : Nat.log2 64 < 9000 := by decide
    have l1 : y.natAbs.log2 + Nat.log2 48271 < 1000000 := by omega
    have l2 : (y * 48271 % 2147483647).natAbs.log2 + (y * 48271 % 2147483647).natAbs.log2 < 1000000 := by omega
    simp [e_ixL h, hp, e0, e_putL h, e_ixL h', l1, l2, w2, bagO]
section
variable {lb : Nat} {ρ : Rho} {f g h : FE} {fr : FA} {P : D → Prop} {s : Sto} {t : FS} {Q : Fl × Rho × Sto → Prop}
theorem ED.take {i : Nat} {M hi : Int} (hb : ρ[i]? = some (some (.ref lb))) (c : ED lb ρ f (Nn 1 M)) (hM : M ≤ 1073741824 := by decide) (hh : M - 1 ≤ hi := by decide) : ED lb ρ (fFn 2 fn__law_take (fCons (fV i) (fCons f fNil))) (Nn 0 hi) :=
  .fn (EA.cons (.v (P := (· = .ref lb)) hb rfl) (EA.cons c (.nil (A := (· = [])) rfl))) fun ds st ⟨d1, r, e, e1, d2, r2, e', ⟨m, e2, m1, m2⟩, e3⟩ b => by
    subst e; subst e1; subst e'; subst e2; subst e3
    exact ⟨rfl, (take_spec m1 (by omega) b).mono fun p ⟨⟨j, ej, j1, j2⟩, g⟩ => ⟨⟨j, ej, j1, by omega⟩, g⟩⟩
theorem ok_set {i : Nat} (e : ED lb ρ f P) (b : Bg lb s) (k : ∀ d s', P d → Go lb s s' → Ok (t (ρ.set i (some d)) s') Q) : Ok (sSeq (sSet i f) t ρ s) Q :=
  Ok.bind (Ok.bind ((e s b).mono fun p q => .pure (k p.1 p.2 q.1 q.2)))
theorem ok_ret (e : ED lb ρ f P) (b : Bg lb s) (k : ∀ d s', P d → Go lb s s' → Q (.rt d, ρ, s')) : Ok (sRet f ρ s) Q := Ok.bind ((e s b).mono fun p q => .pure (k p.1 p.2 q.1 q.2))
theorem ok_par2 {i j : Nat} {P' : D → Prop} (e : ED lb ρ f P) (e' : ED lb ρ h P') (b : Bg lb s) (k : ∀ d d' s', P d → P' d' → Go lb s s' → Ok (t ((ρ.set i (some d)).set j (some d')) s') Q) : Ok (sSeq (sPar [i, j] (fCons f (fCons h fNil))) t ρ s) Q := by
  refine Ok.bind (Ok.bind ?_)
  refine ((EA.cons e (EA.cons e' (.nil (A := (· = [])) rfl))) s b).mono fun p ⟨⟨d, r, e1, p1, d', r', e2, p2, e3⟩, g⟩ => ?_
  subst e3; subst e2
  rw [e1]
  simp only [List.length_cons, List.length_nil, if_true]
  exact .pure (k d d' p.2 p1 p2 g)
theorem ok_run {N : Nat} {sb : FS} {ds : List D} {st : Sto} {R : D × Sto → Prop} (h : Ok (sb (ds.map some ++ List.replicate (N - ds.length) none) st) fun p => ∃ x, p.1 = .rt x ∧ R (x, p.2.2)) : Ok (runD N sb ds st) R :=
  Ok.bind (h.mono fun p ⟨x, e, r⟩ => by rw [e]; exact .pure r)
/-- a list that grows at the store's end -/
def Acc (lb : Nat) (st : Sto) (acc : List D) (s : Sto) : Prop := ∃ s0, Go lb st s0 ∧ s = s0 ++ [.lst acc]
theorem Acc.bg {st : Sto} {acc : List D} (b : Bg lb st) (a : Acc lb st acc s) : Bg lb s := by
  obtain ⟨s0, g, rfl⟩ := a
  exact (g.bg b.lt).app _
theorem Acc.go {st s' : Sto} {acc : List D} (b : Bg lb st) (a : Acc lb st acc s) (q : Go lb s s') : Acc lb st acc s' := by
  obtain ⟨s0, g, rfl⟩ := a
  obtain ⟨s2, rfl, q2⟩ := q.app (by rw [g.len]; exact b.lt)
  exact ⟨s2, g.trans q2, rfl⟩
theorem Acc.at {st : Sto} {acc : List D} (a : Acc lb st acc s) : s[st.length]? = some (.lst acc) := by
  obtain ⟨s0, g, rfl⟩ := a
  rw [← g.len]; simp
theorem Acc.start {st : Sto} (b : Bg lb st) : Acc lb st [] (st ++ [.lst []]) := ⟨st, .refl b, rfl⟩
theorem ok_app {st : Sto} {acc : List D} {j : Nat} (b : Bg lb st) (a : Acc lb st acc s) (e : ED lb ρ f P) (hj : ρ[j]? = some (some (.ref st.length))) (hz : acc.length < sizeLine) :
    Ok (sExpr (fApp (fV j) f) ρ s) fun q => q.1 = .nx ∧ q.2.1 = ρ ∧ ∃ d, P d ∧ Acc lb st (acc ++ [d]) q.2.2 := by
  obtain ⟨⟨d, s1⟩, e1, p, g⟩ := e s (a.bg b)
  have a1 := a.go b g
  refine ⟨(.nx, ρ, s1.set st.length (.lst (acc ++ [d]))), ?_, rfl, rfl, d, p, ?_⟩
  · simp only [e_expr, e_app, e_V, hj, Option.bind_some, e1, a.at, a1.at]
    rw [if_pos hz]
    rfl
  · obtain ⟨s0, g0, rfl⟩ := a1
    refine ⟨s0, g0, ?_⟩
    rw [← g0.len, List.set_append_right _ _ (Nat.le_refl _)]
    simp
theorem for_ok {tg : Tg} {b : FS} {src : Src} {items : List D} {I : Nat → Rho → Sto → Prop} (hi : ∀ i ρ s, I i ρ s → Intact src s)
    (step : ∀ i d, items[i]? = some d → ∀ ρ s, I i ρ s → ∃ ρ1, tgD tg d ρ = some ρ1 ∧ Ok (b ρ1 s) fun q => q.1 = .nx ∧ I (i + 1) q.2.1 q.2.2) :
    ∀ (j i : Nat) (ρ : Rho) (s : Sto), j = items.length - i → i ≤ items.length → I i ρ s → Ok (forD tg b src (items.drop i) ρ s) fun q => q.1 = .nx ∧ I items.length q.2.1 q.2.2 := by
  intro j
  induction j with
  | zero =>
    intro i ρ s hj hl h
    have : i = items.length := by omega
    subst this
    rw [List.drop_length]
    unfold forD
    rw [if_pos (hi _ _ _ h)]
    exact .pure ⟨rfl, h⟩
  | succ j ih =>
    intro i ρ s hj hl h
    have hlt : i < items.length := by omega
    obtain ⟨ρ1, e1, q⟩ := step i items[i] (by simp [hlt]) ρ s h
    rw [List.drop_eq_getElem_cons hlt]
    unfold forD
    rw [if_pos (hi _ _ _ h), e1]
    refine Ok.bind (.pure (Ok.bind (q.mono fun q ⟨e, i2⟩ => ?_)))
    rw [e]
    exact ih (i + 1) q.2.1 q.2.2 (by omega) (by omega) i2
end
end EL
set_option Elab.async false
set_option linter.all false
set_option maxRecDepth 100000
set_option maxHeartbeats 1000000
namespace EL
open PySem PySem.Spec PyProof.Rows L2 GxR LG FW
structure Stn where
  nm : Str
  px : Int
  py : Int
  pw : Int
  hx : Int
  hy : Int
  nd : Int
def Stn.d (s : Stn) : D := .tup [.str s.nm, .tup [.int s.px, .int s.py], .int s.pw, .tup [.int s.hx, .int s.hy], .int s.nd]
structure Air where
  ss : List Stn
  lk : Int
def ssD (ss : List Stn) : D := .tup (ss.map Stn.d)
def Air.d (a : Air) : D := .tup [ssD a.ss, .int a.lk]
def tun (t : List Int) : D := .tup (t.map D.int)
def nms : List Str := ["ann", "bo", "cy", "dee", "eli", "fay", "gus", "hal"]
structure Stn.Ok (s : Stn) : Prop where
  px : -1000 ≤ s.px ∧ s.px ≤ 1000
  py : -1000 ≤ s.py ∧ s.py ≤ 1000
  pw : 1 ≤ s.pw ∧ s.pw ≤ 1000000
  hx : -1000 ≤ s.hx ∧ s.hx ≤ 1000
  hy : -1000 ≤ s.hy ∧ s.hy ≤ 1000
  nd : 1 ≤ s.nd ∧ s.nd ≤ 1000
  nm : s.nm ∈ nms
structure SsOk (ss : List Stn) : Prop where
  len : 1 ≤ ss.length ∧ ss.length ≤ 8
  nm : (ss.map Stn.nm).Sublist nms
  all : ∀ s ∈ ss, s.Ok
structure Air.Ok (a : Air) : Prop where
  ss : SsOk a.ss
  lk : 1 ≤ a.lk ∧ a.lk ≤ 1000
theorem pure_stn (s : Stn) : pureB s.d = true := rfl
theorem pureL_map {α : Type} {f : α → D} (h : ∀ a, pureB (f a) = true) : ∀ l : List α, pureL (l.map f) = true
  | [] => rfl
  | a :: l => by simp [pureL, h a, pureL_map h l]
theorem pure_ss (ss : List Stn) : pureB (ssD ss) = true := by unfold ssD pureB; exact pureL_map pure_stn ss
theorem pure_air (a : Air) : pureB a.d = true := by
  unfold Air.d
  simp [pureB, pureL, pure_ss]
theorem pure_tun (t : List Int) : pureB (tun t) = true := by unfold tun pureB; exact pureL_map (fun _ => rfl) t
section
variable {lb : Nat} {ρ : Rho} {f g h : FE} {fr : FA} {P : D → Prop} {st s : Sto} {t : FS} {Q : Fl × Rho × Sto → Prop}
theorem ED.mul2 {hi : Int} (a : ED lb ρ f (Nn 1 hi)) (hh : hi ≤ 1000000) : ED lb ρ (fOp mulD (fC (.int 2)) f) (Nn 2 (2 * hi)) := .op (.c (P := (· = .int 2)) rfl) a fun x y st ex ⟨j, ej, j1, j2⟩ => by
  subst ex; subst ej
  have l1 := log2_small (i := j) (by omega) (by omega)
  have l2 : (2 : Int).natAbs.log2 < 32 := by decide
  rw [e_mulI, if_pos (by omega)]
  exact .pure ⟨⟨_, rfl, by omega, by omega⟩, rfl⟩
theorem ED.div3 {hi : Int} (a : ED lb ρ f (Nn 1 hi)) : ED lb ρ (fOp fdivD f (fC (.int 3))) (Nn 0 hi) := .op a (.c (P := (· = .int 3)) rfl) fun x y st ⟨j, ej, j1, j2⟩ ey => by
  subst ej; subst ey
  rw [e_fdivI, if_pos (by decide)]
  exact .pure ⟨⟨_, rfl, by omega, by omega⟩, rfl⟩
theorem ED.mxT {l1 h1 l2 h2 lo hi : Int} (a : ED lb ρ f (Nn l1 h1)) (c : ED lb ρ h (Nn l2 h2)) (q1 : lo ≤ l1 := by decide) (q3 : h1 ≤ hi := by decide) (q4 : h2 ≤ hi := by decide) : ED lb ρ (fCall maxD (fCons f (fCons h fNil))) (Nn lo hi) :=
  .call (EA.cons a (EA.cons c (.nil (A := (· = [])) rfl))) fun ds st q => by
    obtain ⟨_, _, rfl, ⟨i, rfl, i1, i2⟩, _, _, rfl, ⟨j, rfl, j1, j2⟩, rfl⟩ := q
    refine ⟨_, rfl, ⟨_, rfl, ?_⟩, rfl⟩
    split <;> omega
theorem ED.mnT {l1 h1 l2 h2 lo hi : Int} (a : ED lb ρ f (Nn l1 h1)) (c : ED lb ρ h (Nn l2 h2)) (q1 : lo ≤ l1 := by decide) (q2 : lo ≤ l2 := by decide) (q3 : h1 ≤ hi := by decide) : ED lb ρ (fCall minD (fCons f (fCons h fNil))) (Nn lo hi) :=
  .call (EA.cons a (EA.cons c (.nil (A := (· = [])) rfl))) fun ds st q => by
    obtain ⟨_, _, rfl, ⟨i, rfl, i1, i2⟩, _, _, rfl, ⟨j, rfl, j1, j2⟩, rfl⟩ := q
    refine ⟨_, rfl, ⟨_, rfl, ?_⟩, rfl⟩
    split <;> omega
noncomputable def bodyS : FS := (sSeq (sPar [5, 6] (fCons (fOp subD (fFn 2 fn__law_take (fCons (fV 0) (fCons (fOp addD (fOp mulD (fC (.int 2)) (fV 3)) (fC (.int 1))) fNil))) (fV 3)) (fCons (fOp subD (fFn 2 fn__law_take (fCons (fV 0) (fCons (fOp addD (fOp mulD (fC (.int 2)) (fV 3)) (fC (.int 1))) fNil))) (fV 3)) fNil)))
    (sSeq (sSet 7 (fOp addD (fC (.int 1)) (fOp fdivD (fV 3) (fC (.int 3)))))
    (sSeq (sSet 8 (fTup (fCons (fCall maxD (fCons (fNeg (fC (.int 1000))) (fCons (fOp subD (fV 5) (fFn 2 fn__law_take (fCons (fV 0) (fCons (fV 7) fNil)))) fNil))) (fCons (fCall minD (fCons (fC (.int 1000)) (fCons (fOp addD (fV 6) (fFn 2 fn__law_take (fCons (fV 0) (fCons (fV 7) fNil)))) fNil))) fNil))))
    (sSeq (sSet 9 (fOp ixD (fLz (fCons (fC (.int 1)) (fCons (fC (.int 100)) (fCons (fOp addD (fC (.int 1)) (fFn 2 fn__law_take (fCons (fV 0) (fCons (fC (.int 1000)) fNil)))) (fCons (fOp addD (fC (.int 1)) (fFn 2 fn__law_take (fCons (fV 0) (fCons (fC (.int 1000000)) fNil)))) fNil))))) (fFn 2 fn__law_take (fCons (fV 0) (fCons (fC (.int 4)) fNil)))))
    (sSeq (sSet 10 (fOp addD (fC (.int 1)) (fFn 2 fn__law_take (fCons (fV 0) (fCons (fOp ixD (fLz (fCons (fC (.int 2)) (fCons (fC (.int 10)) (fCons (fC (.int 1000)) fNil)))) (fFn 2 fn__law_take (fCons (fV 0) (fCons (fC (.int 3)) fNil)))) fNil)))))
    (sExpr (fApp (fV 2) (fTup (fCons (fV 4) (fCons (fTup (fCons (fV 5) (fCons (fV 6) fNil))) (fCons (fV 9) (fCons (fV 8) (fCons (fV 10) fNil)))))))))))))
theorem bodyS_ok {acc : List D} {x : Str} {w : Int} {x1 x5 x6 x7 x8 x9 x10 : Option D} (b : Bg lb st) (a : Acc lb st acc s) (hz : acc.length < sizeLine) (hn : x ∈ nms) (w1 : 1 ≤ w) (w2 : w ≤ 1000) :
    Ok (bodyS [some (.ref lb), x1, some (.ref st.length), some (.int w), some (.str x), x5, x6, x7, x8, x9, x10] s) fun q => q.1 = .nx ∧ (∃ x4 x5 x6 x7 x8 x9 x10, q.2.1 = [some (.ref lb), x1, some (.ref st.length), some (.int w), x4, x5, x6, x7, x8, x9, x10]) ∧ ∃ o : Stn, o.Ok ∧ o.nm = x ∧ Acc lb st (acc ++ [o.d]) q.2.2 := by
  have vw : ∀ {ρ : Rho}, ρ[3]? = some (some (.int w)) → ED lb ρ (fV 3) (Nn 1 1000) := fun e => .x e w1 w2
  unfold bodyS
  have tq : ∀ {ρ : Rho}, ρ[0]? = some (some (.ref lb)) → ρ[3]? = some (some (.int w)) → ED lb ρ (fOp subD (fFn 2 fn__law_take (fCons (fV 0) (fCons (fOp addD (fOp mulD (fC (.int 2)) (fV 3)) (fC (.int 1))) fNil))) (fV 3)) (Nn (-w) w) := fun e0 e3 =>
    ED.sub (l1 := 0) (h1 := 2 * w) (l2 := w) (h2 := w) (ED.take (M := 2 * w + 1) (hi := 2 * w) e0 (ED.add (l1 := 2) (h1 := 2 * w) (l2 := 1) (h2 := 1) (ED.mul2 (hi := w) (.x e3 w1 (Int.le_refl _)) (by omega)) (ED.n (lo := 1) (hi := 1)) (by omega) (by omega)) (by omega) (by omega)) (.x e3 (Int.le_refl _) (Int.le_refl _)) (by omega) (by omega)
  refine ok_par2 (P := Nn (-w) w) (P' := Nn (-w) w) (tq rfl rfl) (tq rfl rfl) (a.bg b) fun pa pb s1 ha hb g1 => ?_
  have a1 := a.go b g1
  refine ok_set (P := Nn 1 1001) (ED.add (ED.n (lo := 1) (hi := 1)) (ED.div3 (hi := 1000) (vw rfl))) (a1.bg b) fun pc s2 hc g2 => ?_
  have a2 := a1.go b g2
  obtain ⟨pa, rfl, pa1, pa2⟩ := ha
  obtain ⟨pb, rfl, pb1, pb2⟩ := hb
  obtain ⟨pc, rfl, pc1, pc2⟩ := hc
  have tk : ∀ {ρ : Rho}, ρ[0]? = some (some (.ref lb)) → ρ[7]? = some (some (.int pc)) → ED lb ρ (fFn 2 fn__law_take (fCons (fV 0) (fCons (fV 7) fNil))) (Nn 0 1000) := fun e1 e2 => ED.take (M := 1001) e1 (.x e2 pc1 pc2)
  refine ok_set (P := fun d => ∃ i j, d = .tup [.int i, .int j] ∧ (-1000 ≤ i ∧ i ≤ 1000) ∧ (-1000 ≤ j ∧ j ≤ 1000)) (ED.tup ((EA.cons (P := Nn (-1000) 1000) (ED.mxT (l1 := -1000) (h1 := -1000) (l2 := -2000) (h2 := 1000) ((ED.neg (ED.n (lo := 1000) (hi := 1000)))) (ED.sub (l1 := -1000) (h1 := 1000) (.x rfl (by omega) (by omega)) (tk rfl rfl))) (EA.cons (P := Nn (-1000) 1000) (ED.mnT (l1 := 1000) (h1 := 1000) (l2 := -1000) (h2 := 2000) ED.n (ED.add (l1 := -1000) (h1 := 1000) (.x rfl (by omega) (by omega)) (tk rfl rfl))) (.nil (A := (· = [])) rfl))).mono fun ds q => ?_)) (a2.bg b) fun d8 s3 h8 g3 => ?_
  · obtain ⟨_, _, rfl, ⟨i, rfl, i1, i2⟩, _, _, rfl, ⟨j, rfl, j1, j2⟩, rfl⟩ := q
    exact ⟨by simp [sizeLine_eq], i, j, rfl, ⟨i1, i2⟩, j1, j2⟩
  have a3 := a2.go b g3
  refine ok_set (P := Nn 1 1000000) (ED.pick (P := Nn 1 1000000) (.allC ED.n (.allC ED.n (.allC (ED.add (ED.n (lo := 1) (hi := 1)) (ED.take (M := 1000) (hi := 999) rfl (ED.n))) (.allC (ED.add (ED.n (lo := 1) (hi := 1)) (ED.take (M := 1000000) (hi := 999999) rfl (ED.n))) .all0)))) (ED.take (M := 4) rfl ED.n)) (a3.bg b) fun d9 s4 h9 g4 => ?_
  have a4 := a3.go b g4
  refine ok_set (P := Nn 1 1000) (ED.add (ED.n (lo := 1) (hi := 1)) (ED.take (M := 1000) (hi := 999) rfl (ED.pick (P := Nn 1 1000) (.allC ED.n (.allC ED.n (.allC ED.n .all0))) (ED.take (M := 3) rfl ED.n)))) (a4.bg b) fun d10 s5 h10 g5 => ?_
  have a5 := a4.go b g5
  obtain ⟨hx, hy, rfl, hx1, hy1⟩ := h8
  obtain ⟨pw, rfl, pw1, pw2⟩ := h9
  obtain ⟨nd, rfl, nd1, nd2⟩ := h10
  let o : Stn := ⟨x, pa, pb, pw, hx, hy, nd⟩
  refine (ok_app (P := (· = o.d)) b a5 (ED.q (fun st => ?_) rfl) rfl hz).mono fun q ⟨e1, e2, d, ed, e3⟩ => ⟨e1, ?_, o, ⟨⟨by show -1000 ≤ pa; omega, by show pa ≤ 1000; omega⟩, ⟨by show -1000 ≤ pb; omega, by show pb ≤ 1000; omega⟩, ⟨pw1, pw2⟩, hx1, hy1, ⟨nd1, nd2⟩, hn⟩, rfl, by rw [← ed]; exact e3⟩
  · simp [sizeLine_eq, o, Stn.d]
  · rw [e2]
    exact ⟨_, _, _, _, _, _, _, rfl⟩
theorem nms_at {i : Nat} {n : Nat} {d : D} (h : ((nms.map D.str).take n)[i]? = some d) : ∃ x, x ∈ nms ∧ d = .str x ∧ nms[i]? = some x ∧ i < n := by
  have hi : i < n := by
    have := (List.getElem?_eq_some_iff.mp h).1
    simp at this
    omega
  rw [List.getElem?_take_of_lt hi, List.getElem?_map] at h
  cases q : nms[i]? with
  | none => rw [q] at h; cases h
  | some x => rw [q] at h; cases h; exact ⟨x, List.mem_of_getElem? q, rfl, rfl, hi⟩
theorem cut_hi {ds : List D} {v : Int} (h : 0 ≤ v) : cutD ds none (some v) = ds.take v.toNat := by
  unfold cutD HT.sIx
  have n1 : ¬ v < 0 := by omega
  simp [n1]
theorem stations_spec {most : Int} (b : Bg lb st) (m1 : 1 ≤ most) (m2 : most ≤ 8) : Ok (fn__law_stations [.ref lb, .int most] st) fun p => (∃ ss, p.1 = ssD ss ∧ SsOk ss ∧ (ss.length : Int) ≤ most) ∧ Go lb st p.2 := by
  unfold fn__law_stations
  refine seal_ok (P := fun d => ∃ ss, d = ssD ss ∧ SsOk ss ∧ (ss.length : Int) ≤ most) (ok_run ?_)
  have a0 := Acc.start (lb := lb) b
  show Ok (sSeq (sSet 2 (fLst fNil)) (sSeq (sSet 3 _) (sSeq (sFor _ (.one 4) bodyS) _)) _ _) _
  refine Ok.bind (⟨(.nx, _, st ++ [.lst []]), by simp [sizeLine_eq]; rfl, ?_⟩)
  refine ok_set (P := Nn 1 1000) (ED.pick (P := Nn 1 1000) (.allC ED.n (.allC ED.n (.allC ED.n (.allC ED.n .all0)))) (ED.take (M := 4) rfl ED.n)) (a0.bg b) fun w s1 hw g1 => ?_
  obtain ⟨w, rfl, w1, w2⟩ := hw
  have a1 := a0.go b g1
  obtain ⟨⟨v, s2⟩, ev, hv, g2⟩ := (ED.add (lo := 1) (hi := most) (l1 := 1) (h1 := 1) (l2 := 0) (h2 := most - 1) (ED.n) (ED.take (M := most) rfl (.x (k := 1) (i := most) rfl m1 (Int.le_refl _)) (by omega) (by omega)) (by omega) (by omega) : ED lb [some (.ref lb), some (.int most), some (.ref st.length), some (.int w), none, none, none, none, none, none, none] (fOp addD (fC (.int 1)) (fFn 2 fn__law_take (fCons (fV 0) (fCons (fV 1) fNil)))) (Nn 1 most)) s1 (a1.bg b)
  obtain ⟨v, rfl, v1, v2⟩ := hv
  have a2 := a1.go b g2
  refine Ok.bind (Ok.bind (Ok.bind ⟨(.lst ((nms.map D.str).take v.toNat), s2), ?_, .pure ?_⟩))
  · simp only [e_sl, e_lz, e_cons, e_C, e_nil, Option.bind_some, e_oN, e_oS]
    rw [if_pos (by simp [sizeLine_eq])]
    simp only [Option.bind_some]
    rw [show (fOp addD (fC (.int 1)) (fFn 2 fn__law_take (fCons (fV 0) (fCons (fV 1) fNil))) ([some (D.ref lb), some (D.int most), some (D.ref (List.length st)), none, none, none, none, none, none, none, none].set 3 (some (D.int w))) s1) = some (D.int v, s2) from ev]
    simp only [Option.bind_some, e_slZ, cut_hi (show 0 ≤ v by omega)]
    rfl
  have fo := for_ok (tg := .one 4) (b := bodyS) (src := []) (items := (nms.map D.str).take v.toNat)
    (I := fun i ρ s => (∃ x4 x5 x6 x7 x8 x9 x10, ρ = [some (.ref lb), some (.int most), some (.ref st.length), some (.int w), x4, x5, x6, x7, x8, x9, x10]) ∧ ∃ ss : List Stn, ss.length = i ∧ (∀ o ∈ ss, o.Ok) ∧ ss.map Stn.nm = nms.take i ∧ Acc lb st (ss.map Stn.d) s)
    (fun _ _ _ _ => Intact.nil) (fun i d hd ρ s ⟨⟨x4, x5, x6, x7, x8, x9, x10, eρ⟩, ss, hl, hok, hnm, ha⟩ => ?_) _ 0 [some (.ref lb), some (.int most), some (.ref st.length), some (.int w), none, none, none, none, none, none, none] s2 rfl (Nat.zero_le _) ⟨⟨_, _, _, _, _, _, _, rfl⟩, [], rfl, by simp, by simp, a2⟩
  · obtain ⟨⟨fl, ρ', s3⟩, e3, hfl, ⟨x4, x5, x6, x7, x8, x9, x10, eρ⟩, ss, hl, hok, hnm, ha⟩ := fo
    simp only at hfl eρ ha
    subst hfl; subst eρ
    refine ⟨_, e3, ?_⟩
    refine ⟨(.rt (ssD ss), [some (.ref lb), some (.int most), some (.ref st.length), some (.int w), x4, x5, x6, x7, x8, x9, x10], s3), ?_, ssD ss, rfl, ⟨ss, rfl, ⟨?_, ?_, hok⟩, ?_⟩, pure_ss ss, ?_⟩
    · have q := e_listOfR ha.at
      simp only [e_ret, e_call, e_cons, e_nil, e_V, Option.bind_some]
      simp [tupleD, q, ssD]
    · rw [hl]
      simp [nms]
      omega
    · rw [hnm]; exact List.take_sublist _ _
    · rw [hl]
      simp [nms]
      omega
    · obtain ⟨s0, g0, rfl⟩ := ha
      exact ⟨s0, _, rfl, g0⟩
  · subst eρ
    obtain ⟨x, hx, rfl, hx2, hiv⟩ := nms_at hd
    refine ⟨_, rfl, ?_⟩
    have hi8 : i < 8 := (List.getElem?_eq_some_iff.mp hx2).1
    refine (bodyS_ok (x1 := some (.int most)) b ha (by simp [hl, sizeLine_eq]; omega) hx w1 w2).mono fun q ⟨e1, e2, o, ho, hno, ha2⟩ => ⟨e1, e2, ss ++ [o], by simp [hl], fun z hz => ?_, ?_, by simpa using ha2⟩
    · rcases List.mem_append.mp hz with z1 | z1
      · exact hok z z1
      · simp at z1; rw [z1]; exact ho
    · rw [List.map_append, hnm, List.take_succ, hx2]
      simp [hno]
theorem air_spec {most : Int} (b : Bg lb st) (m1 : 1 ≤ most) (m2 : most ≤ 8) : Ok (fn__law_air [.ref lb, .int most] st) fun p => (∃ a : Air, p.1 = a.d ∧ a.Ok ∧ (a.ss.length : Int) ≤ most) ∧ Go lb st p.2 := by
  unfold fn__law_air
  refine seal_ok (P := fun d => ∃ a : Air, d = a.d ∧ a.Ok ∧ (a.ss.length : Int) ≤ most) (ok_run ?_)
  refine ok_ret (P := fun d => ∃ a : Air, d = a.d ∧ a.Ok ∧ (a.ss.length : Int) ≤ most) (ED.tup ((EA.cons (P := fun d => ∃ ss, d = ssD ss ∧ SsOk ss ∧ (ss.length : Int) ≤ most) (ED.fn (EA.cons (.v (P := (· = .ref lb)) rfl rfl) (EA.cons (.v (P := (· = .int most)) rfl rfl) (.nil (A := (· = [])) rfl))) fun ds st' q bb => ?_) (EA.cons (P := Nn 1 1000) (ED.pick (P := Nn 1 1000) (.allC ED.n (.allC ED.n (.allC (ED.add (ED.n (lo := 1) (hi := 1)) (ED.take (M := 50) (hi := 49) rfl ED.n)) .all0))) (ED.take (M := 3) rfl ED.n)) (.nil (A := (· = [])) rfl))).mono fun ds q => ?_)) b fun d s' h g => ?_
  · obtain ⟨_, _, rfl, rfl, _, _, rfl, rfl, rfl⟩ := q
    exact ⟨rfl, stations_spec bb m1 m2⟩
  · obtain ⟨_, _, rfl, ⟨ss, rfl, h1, h2⟩, _, _, rfl, ⟨l, rfl, l1, l2⟩, rfl⟩ := q
    exact ⟨by simp [sizeLine_eq], ⟨ss, l⟩, rfl, ⟨h1, l1, l2⟩, h2⟩
  · obtain ⟨a, rfl, h1, h2⟩ := h
    exact ⟨_, rfl, ⟨a, rfl, h1, h2⟩, pure_air a, s', [], by simp, g⟩
theorem tuning_spec {a : Air} {bands : Int} {sil : Bool} (b : Bg lb st) (b1 : 1 ≤ bands) (b2 : bands ≤ 9) (ha : a.ss.length ≤ 8) : Ok (fn__law_tuning [.ref lb, a.d, .int bands, .bl sil] st) fun p => (∃ t, p.1 = tun t ∧ t.length = a.ss.length ∧ (∀ z ∈ t, 0 ≤ z ∧ z ≤ bands) ∧ (sil = false → ∀ z ∈ t, 1 ≤ z)) ∧ Go lb st p.2 := by
  unfold fn__law_tuning
  refine seal_ok (P := fun d => ∃ t, d = tun t ∧ t.length = a.ss.length ∧ (∀ z ∈ t, 0 ≤ z ∧ z ≤ bands) ∧ (sil = false → ∀ z ∈ t, 1 ≤ z)) (ok_run ?_)
  have a0 := Acc.start (lb := lb) b
  show Ok (sSeq (sSet 4 (fLst fNil)) (sSeq (sFor _ (.one 5) (sExpr (fApp (fV 4) _))) _) _ _) _
  refine Ok.bind (⟨(.nx, _, st ++ [.lst []]), by simp [sizeLine_eq]; rfl, ?_⟩)
  refine Ok.bind (Ok.bind ⟨(a.ss.map Stn.d, [], st ++ [.lst []]), by simp [iSeq, Air.d, ssD], ?_⟩)
  have fo := for_ok (tg := .one 5) (b := sExpr (fApp (fV 4) (fIf (fTAnd (fTru (fV 3)) (fTst (fOp eqD (fFn 2 fn__law_take (fCons (fV 0) (fCons (fC (.int 4)) fNil))) (fC (.int 0))))) (fC (.int 0)) (fOp addD (fC (.int 1)) (fFn 2 fn__law_take (fCons (fV 0) (fCons (fV 2) fNil))))))) (src := []) (items := a.ss.map Stn.d)
    (I := fun i ρ s => (∃ x5, ρ = [some (.ref lb), some a.d, some (.int bands), some (.bl sil), some (.ref st.length), x5]) ∧ ∃ t : List Int, t.length = i ∧ (∀ z ∈ t, 0 ≤ z ∧ z ≤ bands) ∧ (sil = false → ∀ z ∈ t, 1 ≤ z) ∧ Acc lb st (t.map D.int) s)
    (fun _ _ _ _ => Intact.nil) (fun i d hd ρ s ⟨⟨x5, eρ⟩, t, hl, h1, h2, ha⟩ => ?_) _ 0 [some (.ref lb), some a.d, some (.int bands), some (.bl sil), some (.ref st.length), none] _ rfl (Nat.zero_le _) ⟨⟨_, rfl⟩, [], rfl, by simp, by simp, a0⟩
  · obtain ⟨⟨fl, ρ', s3⟩, e3, hfl, ⟨x5, eρ⟩, t, hl, h1, h2, ha⟩ := fo
    simp only at hfl eρ ha
    subst hfl; subst eρ
    refine ⟨_, e3, ?_⟩
    refine ⟨(.rt (tun t), [some (.ref lb), some a.d, some (.int bands), some (.bl sil), some (.ref st.length), x5], s3), ?_, tun t, rfl, ⟨t, rfl, by simpa using hl, h1, h2⟩, pure_tun t, ?_⟩
    · have q := e_listOfR ha.at
      simp only [e_ret, e_call, e_cons, e_nil, e_V, Option.bind_some]
      simp [tupleD, q, tun]
    · obtain ⟨s0, g0, rfl⟩ := ha
      exact ⟨s0, _, rfl, g0⟩
  · subst eρ
    have hi : i < a.ss.length := by
      have := (List.getElem?_eq_some_iff.mp hd).1
      simpa using this
    refine ⟨_, rfl, ?_⟩
    have add : ED lb [some (.ref lb), some a.d, some (.int bands), some (.bl sil), some (.ref st.length), some d] (fOp addD (fC (.int 1)) (fFn 2 fn__law_take (fCons (fV 0) (fCons (fV 2) fNil)))) (Nn 1 bands) := ED.add (lo := 1) (hi := bands) (l1 := 1) (h1 := 1) (l2 := 0) (h2 := bands - 1) ED.n (ED.take (M := bands) rfl (.x rfl b1 (Int.le_refl _)) (by omega) (by omega)) (by omega) (by omega)
    have key : ED lb [some (.ref lb), some a.d, some (.int bands), some (.bl sil), some (.ref st.length), some d] (fIf (fTAnd (fTru (fV 3)) (fTst (fOp eqD (fFn 2 fn__law_take (fCons (fV 0) (fCons (fC (.int 4)) fNil))) (fC (.int 0))))) (fC (.int 0)) (fOp addD (fC (.int 1)) (fFn 2 fn__law_take (fCons (fV 0) (fCons (fV 2) fNil))))) (fun e => ∃ z, e = .int z ∧ 0 ≤ z ∧ z ≤ bands ∧ (sil = false → 1 ≤ z)) := by
      cases sil with
      | true =>
        refine ED.ite (ET.and (fun s b => ⟨(true, s), rfl, .refl b⟩) (ET.tst (ED.op (ED.take (M := 4) (hi := 3) rfl ED.n) (ED.n (lo := 0) (hi := 0)) fun x y st ⟨i, ei, _⟩ ⟨j, ej, _⟩ => ?_))) (ED.c ⟨0, rfl, by omega, by omega, by simp⟩) (add.mono fun e ⟨z, ez, z1, z2⟩ => ⟨z, ez, by omega, z2, fun _ => z1⟩)
        subst ei; subst ej
        rw [e_eqI]
        exact .pure ⟨⟨_, rfl⟩, rfl⟩
      | false =>
        intro s b
        refine Ok.bind ⟨(false, s), rfl, ?_⟩
        simp only [Bool.false_eq_true, if_false]
        exact (add s b).mono fun p ⟨⟨z, ez, z1, z2⟩, g⟩ => ⟨⟨z, ez, by omega, z2, fun _ => z1⟩, g⟩
    refine (ok_app b ha key rfl (by simp [hl, sizeLine_eq]; omega)).mono fun q ⟨e1, e2, e, ⟨z, ez, z1, z2, z3⟩, ha2⟩ => ⟨e1, ⟨some d, e2⟩, t ++ [z], by simp [hl], fun y hy => ?_, fun hs y hy => ?_, by rw [ez] at ha2; simpa using ha2⟩
    · rcases List.mem_append.mp hy with q | q
      · exact h1 y q
      · simp at q; rw [q]; exact ⟨z1, z2⟩
    · rcases List.mem_append.mp hy with q | q
      · exact h2 hs y q
      · simp at q; rw [q]; exact z3 hs
end
end EL
set_option Elab.async false
set_option linter.all false
set_option maxRecDepth 100000
set_option maxHeartbeats 1000000
namespace EL
open PySem PySem.Spec PyProof.Rows L2 GxR LG FW
section
variable {tg : Tg} {tt : FT} {fe : FE} {src : Src} {ρ : Rho} {st : Sto} {b : D → Bool} {v : D → D}
theorem allD_eq (hs : Intact src st) {I : Rho → Prop} : ∀ {items : List D} {ρ : Rho}, I ρ → (∀ d ∈ items, ∀ ρ, I ρ → ∃ ρ1, tgD tg d ρ = some ρ1 ∧ I ρ1 ∧ fe ρ1 st = some (.bl (b d), st)) → allD tg fe src items ρ st = some (items.all b, st)
  | [], _, _, _ => by unfold allD; rw [if_pos hs]; rfl
  | d :: ds, ρ, i, h => by
    obtain ⟨ρ1, e1, i1, e2⟩ := h d List.mem_cons_self ρ i
    have ih := allD_eq hs (items := ds) i1 fun x hx => h x (List.mem_cons_of_mem _ hx)
    unfold allD
    rw [if_pos hs, e1]
    simp only [Option.bind_some, e2, e_asB]
    cases hb : b d with
    | true => simp [ih, hb]
    | false => simp [hb]
/-- a loop that looks for the first one -/
theorem forD_find {bd : FS} (hs : Intact src st) {I : Rho → Prop} {r : D → D} : ∀ {items : List D} {ρ : Rho}, I ρ →
    (∀ d ∈ items, ∀ ρ, I ρ → ∃ ρ1 ρ2, tgD tg d ρ = some ρ1 ∧ I ρ2 ∧ bd ρ1 st = some (if b d = true then .rt (r d) else .nx, ρ2, st)) →
    ∃ ρ', forD tg bd src items ρ st = some ((match items.find? b with | some d => .rt (r d) | none => .nx), ρ', st) ∧ I ρ'
  | [], ρ, i, _ => ⟨ρ, by unfold forD; rw [if_pos hs]; rfl, i⟩
  | d :: ds, ρ, i, h => by
    obtain ⟨ρ1, ρ2, e1, i2, e2⟩ := h d List.mem_cons_self ρ i
    cases hb : b d with
    | true =>
      refine ⟨ρ2, ?_, i2⟩
      unfold forD
      rw [if_pos hs, e1]
      simp [e2, hb]
    | false =>
      obtain ⟨ρ', e3, i3⟩ := forD_find hs (items := ds) i2 fun x hx => h x (List.mem_cons_of_mem _ hx)
      refine ⟨ρ', ?_, i3⟩
      unfold forD
      rw [if_pos hs, e1]
      simp [e2, hb, e3]
end
section
variable {st : Sto}
/-- of at most k bits -/
def Bt (k : Nat) (i : Int) : Prop := i.natAbs < 2 ^ k
theorem Bt.mul {a b : Nat} {i j : Int} (h1 : Bt a i) (h2 : Bt b j) : Bt (a + b) (i * j) := by
  unfold Bt at *
  rw [Int.natAbs_mul, Nat.pow_add]
  exact Nat.mul_lt_mul'' h1 h2
theorem Bt.up {a b : Nat} {i : Int} (h : Bt a i) (hab : a ≤ b) : Bt b i := Nat.lt_of_lt_of_le h (Nat.pow_le_pow_right (by decide) hab)
theorem Bt.log {k : Nat} {i : Int} (h : Bt k i) : i.natAbs.log2 ≤ k := by
  by_cases hz : i.natAbs = 0
  · rw [hz]; simp
  · exact Nat.le_of_lt ((Nat.log2_lt hz).mpr h)
theorem mul_ok {a b : Nat} {i j : Int} (hi : Bt a i) (hj : Bt b j) (h : a + b < 9000 := by decide) : mulD (.int i) (.int j) st = some (.int (i * j), st) := by
  have := hi.log
  have := hj.log
  rw [e_mulI, if_pos (by omega)]
theorem fdiv_ok {b : Nat} {i j : Int} (h0 : 0 < j) (hj : Bt b j) (h : b < 9000 := by decide) : fdivD (.int i) (.int j) st = some (.int (i / j), st) := by
  have := hj.log
  rw [e_fdivI, if_pos ⟨h0, by omega⟩]
@[simp] theorem src_tup {xs : List D} : srcOf (.tup xs) xs = [] := rfl
@[simp] theorem src_lst {xs : List D} : srcOf (.lst xs) xs = [] := rfl
@[simp] theorem eqB_int {i j : Int} : eqB (.int i) (.int j) = decide (i = j) := by
  unfold eqB
  cases h : (i == j) <;> simp_all
theorem str_okB : ∀ x ∈ nms, PyData.strOk x = true := by decide +kernel
@[simp] theorem eqB_str {x y : Str} : eqB (.str x) (.str y) = decide (x = y) := by
  unfold eqB
  cases h : (x == y) <;> simp_all
theorem eq_str {x y : Str} (hx : PyData.strOk x = true) (hy : PyData.strOk y = true) : eqD (.str x) (.str y) st = some (.bl (decide (x = y)), st) := by
  unfold eqD eqW
  simp [okB, hx, hy]
theorem nms_nd : nms.Nodup := by decide +kernel
theorem SsOk.inj {ss : List Stn} (h : SsOk ss) {i j : Nat} {s t : Stn} (e : ss[i]? = some s) (e' : ss[j]? = some t) (q : s.nm = t.nm) : i = j := by
  have nd : (ss.map Stn.nm).Nodup := nms_nd.sublist h.nm
  have hi := (List.getElem?_eq_some_iff.mp e).1
  refine (List.getElem?_inj (l := ss.map Stn.nm) (by rw [List.length_map]; exact hi) nd).mp (by rw [List.getElem?_map, List.getElem?_map, e, e', Option.map_some, Option.map_some, q])
theorem enum_at {xs : List D} {i : Nat} : (enumD xs)[i]? = (xs[i]?).map fun d => D.tup [.int (i : Nat), d] := by
  unfold enumD
  rw [List.getElem?_mapIdx]
theorem mem_enum {xs : List D} {d : D} (h : d ∈ enumD xs) : ∃ i x, xs[i]? = some x ∧ d = .tup [.int (i : Nat), x] := by
  obtain ⟨i, hi⟩ := List.mem_iff_getElem?.mp h
  rw [enum_at] at hi
  cases q : xs[i]? with
  | none => rw [q] at hi; cases hi
  | some x => rw [q] at hi; cases hi; exact ⟨i, x, q, rfl⟩
theorem seat_eq {ss : List Stn} (h : SsOk ss) {i : Nat} {s : Stn} (e : ss[i]? = some s) : fn_seat [ssD ss, .str s.nm] st = some (.int (i : Nat), st) := by
  unfold fn_seat
  refine seal_same ?_ rfl
  unfold sb_seat ssD
  have key : ∀ d ∈ enumD (ss.map Stn.d), ∀ ρ : Rho, (∃ a b, ρ = [some (.tup (ss.map Stn.d)), some (.str s.nm), a, b]) → ∃ ρ1 ρ2, tgD (.many [2, 3]) d ρ = some ρ1 ∧ (∃ a b, ρ2 = [some (.tup (ss.map Stn.d)), some (.str s.nm), a, b]) ∧
      (sIf (fTst (fOp eqD (fOp ixD (fV 3) (fC (.int 0))) (fV 1))) (sRet (fV 2)) sNext) ρ1 st = some (if (match d with | .tup [_, .tup (.str x :: _)] => decide (x = s.nm) | _ => false) = true then .rt (match d with | .tup [j, _] => j | d => d) else .nx, ρ2, st) := by
    intro d hd ρ ⟨a, b, eρ⟩
    subst eρ
    obtain ⟨j, x, hx, rfl⟩ := mem_enum hd
    rw [List.getElem?_map] at hx
    cases q : ss[j]? with
    | none => rw [q] at hx; cases hx
    | some t =>
      rw [q] at hx
      cases hx
      have s1 := str_okB _ (h.all s (List.mem_of_getElem? e)).nm
      have s2 := str_okB _ (h.all t (List.mem_of_getElem? q)).nm
      refine ⟨_, [some (.tup (ss.map Stn.d)), some (.str s.nm), some (.int (j : Nat)), some t.d], rfl, ⟨_, _, rfl⟩, ?_⟩
      simp [setM, Stn.d, eq_str s2 s1]
      by_cases z : t.nm = s.nm <;> simp [z]
  obtain ⟨ρ', e1, i1⟩ := forD_find (src := []) Intact.nil (items := enumD (ss.map Stn.d)) (ρ := [some (.tup (ss.map Stn.d)), some (.str s.nm), none, none]) ⟨_, _, rfl⟩ key
  have f : (enumD (ss.map Stn.d)).find? (fun d => match d with | .tup [_, .tup (.str x :: _)] => decide (x = s.nm) | _ => false) = some (.tup [.int (i : Nat), s.d]) := by
    have hi := (List.getElem?_eq_some_iff.mp e).1
    have ei : (enumD (ss.map Stn.d))[i]? = some (.tup [.int (i : Nat), s.d]) := by rw [enum_at, List.getElem?_map, e]; rfl
    rw [List.find?_eq_some_iff_getElem]
    refine ⟨by simp [Stn.d], i, (List.getElem?_eq_some_iff.mp ei).1, (List.getElem?_eq_some_iff.mp ei).2, fun j hj => ?_⟩
    have hjl : j < ss.length := by omega
    have ej : (enumD (ss.map Stn.d))[j]? = some (.tup [.int (j : Nat), ss[j].d]) := by rw [enum_at, List.getElem?_map, List.getElem?_eq_getElem hjl]; rfl
    rw [(List.getElem?_eq_some_iff.mp ej).2]
    simp only [Stn.d]
    simp
    intro q
    have := h.inj (i := j) (j := i) (List.getElem?_eq_getElem hjl) e q
    omega
  rw [f] at e1
  simp only [e_run, e_seq]
  unfold sFor
  simp [iEnum]
  rw [e1]
  rfl
def spr (s r : Stn) : Int := (r.hx - s.px) * (r.hx - s.px) + (r.hy - s.py) * (r.hy - s.py) + 1
theorem sq_le {x : Int} (h1 : -10000 ≤ x) (h2 : x ≤ 10000) : 0 ≤ x * x ∧ x * x ≤ 100000000 := by
  refine ⟨by rcases Int.le_total 0 x with h | h; exact Int.mul_nonneg h h; exact Int.mul_nonneg_of_nonpos_of_nonpos h h, ?_⟩
  have : x.natAbs * x.natAbs ≤ 10000 * 10000 := Nat.mul_le_mul (by omega) (by omega)
  have e : x * x = ((x.natAbs * x.natAbs : Nat) : Int) := by rw [Int.natCast_mul, Int.natAbs_mul_self' x]
  omega
theorem spr_pos {s r : Stn} (hs : s.Ok) (hr : r.Ok) : 1 ≤ spr s r ∧ spr s r ≤ 200000001 := by
  have a1 := hs.px; have a2 := hs.py; have a3 := hr.hx; have a4 := hr.hy
  have h1 := sq_le (x := r.hx - s.px) (by omega) (by omega)
  have h2 := sq_le (x := r.hy - s.py) (by omega) (by omega)
  unfold spr
  omega
theorem bt64 {x : Int} (h1 : -(2 ^ 64) < x) (h2 : x < 2 ^ 64) : Bt 64 x := by
  unfold Bt
  omega
theorem spread_eq {s r : Stn} (hs : s.Ok) (hr : r.Ok) : fn_spread [.tup [.int s.px, .int s.py], .tup [.int r.hx, .int r.hy]] st = some (.int (spr s r), st) := by
  unfold fn_spread
  refine seal_same ?_ rfl
  have a1 := hs.px; have a2 := hs.py; have a3 := hr.hx; have a4 := hr.hy
  have b1 : Bt 64 (r.hx - s.px) := bt64 (by omega) (by omega)
  have b2 : Bt 64 (r.hy - s.py) := bt64 (by omega) (by omega)
  unfold sb_spread
  simp only [e_run, e_seq, e_set, e_op, e_V, e_C, e_ret, List.map_cons, List.map_nil, List.length_cons, List.length_nil]
  simp only [List.replicate, List.cons_append, List.nil_append, List.getElem?_cons_zero, List.getElem?_cons_succ, Option.bind_some, e_ixT, atI_0, atI_1, e_subI, List.set_cons_zero, List.set_cons_succ, mul_ok b1 b1, mul_ok b2 b2, e_addI]
  rfl
def gapI (b o : Int) : Int := if b = 0 ∨ o = 0 then 2 else if 2 < (if b - o < 0 then -(b - o) else b - o) then 2 else if b - o < 0 then -(b - o) else b - o
theorem gap_eq {b o : Int} : fn_gap [.int b, .int o] st = some (.int (gapI b o), st) := by
  unfold fn_gap
  refine seal_same ?_ rfl
  unfold sb_gap gapI
  simp [sizeLine_eq, inW, flatD, nB]
  by_cases h1 : b = 0
  · simp [h1]
  · by_cases h2 : o = 0
    · simp [h1, h2]
    · simp [h1, h2, absD, minD]
end
end EL
set_option Elab.async false
set_option linter.all false
set_option maxRecDepth 100000
set_option maxHeartbeats 1000000
namespace EL
open PySem PySem.Spec PyProof.Rows L2 GxR LG FW
section
variable {α : Type} {tg : Tg} {tt : FT} {fe : FE} {src : Src} {ρ : Rho} {st : Sto} {enc : α → D} {b : α → Bool} {w : α → D}
theorem lcE (hs : Intact src st) : ∀ {l : List α}, (∀ x ∈ l, ∃ ρ1, tgD tg (enc x) ρ = some ρ1 ∧ tt ρ1 st = some (b x, st) ∧ (b x = true → fe ρ1 st = some (w x, st))) → lcZ tg tt fe src ρ (l.map enc) st = some ((l.filter b).map w, st)
  | [], _ => by unfold lcZ; simp only [List.map_nil]; rw [if_pos hs]; rfl
  | d :: ds, h => by
    obtain ⟨ρ1, e1, e2, e3⟩ := h d List.mem_cons_self
    have ih := lcE hs (l := ds) fun x hx => h x (List.mem_cons_of_mem _ hx)
    simp only [List.map_cons]
    unfold lcZ
    rw [if_pos hs, e1]
    simp only [Option.bind_some, e2]
    cases hb : b d with
    | true => simp [e3 hb, ih, hb]
    | false => simp [ih, hb]
theorem lcM (hs : Intact src st) : ∀ {l : List α}, (∀ x ∈ l, ∃ ρ1, tgD tg (enc x) ρ = some ρ1 ∧ fe ρ1 st = some (w x, st)) → lcZ tg fYes fe src ρ (l.map enc) st = some (l.map w, st)
  | [], _ => by unfold lcZ; simp only [List.map_nil]; rw [if_pos hs]
  | d :: ds, h => by
    obtain ⟨ρ1, e1, e3⟩ := h d List.mem_cons_self
    have ih := lcM hs (l := ds) fun x hx => h x (List.mem_cons_of_mem _ hx)
    simp only [List.map_cons]
    unfold lcZ
    rw [if_pos hs, e1]
    simp [e3, ih]
end
def prodI (l : List Int) : Int := l.foldl (· * ·) 1
def sprs (ss : List Stn) (r : Stn) : List Int := ss.map fun s => spr s r
def shareI (ss : List Stn) (r s : Stn) : Int := s.pw * (prodI (sprs ss r) / spr s r)
def tri (p : Int × Int × Int) : D := .tup [.int p.1, .int p.2.1, .int p.2.2]
def othL (a : Air) (i : Nat) (r : Stn) : List (Int × Int × Int) := (a.ss.map fun s => (r.nd * a.lk * shareI a.ss r s, r.nd * shareI a.ss r s, (0 : Int))).set i (0, 0, 0)
def ownI (a : Air) (r : Stn) : Int := a.lk * shareI a.ss r r
def earD (a : Air) (i : Nat) (r : Stn) : D := .tup [.int (ownI a r), .lst ((othL a i r).map tri)]
theorem foldl_mul : ∀ (l : List Int) (x : Int), l.foldl (· * ·) x = x * prodI l
  | [], x => by simp [prodI]
  | y :: l, x => by
    unfold prodI
    simp only [List.foldl_cons]
    rw [foldl_mul l (x * y), foldl_mul l (1 * y)]
    rw [Int.one_mul, Int.mul_assoc]
theorem prodI_cons (x : Int) (l : List Int) : prodI (x :: l) = x * prodI l := by
  unfold prodI
  simp only [List.foldl_cons]
  rw [foldl_mul, Int.one_mul]
  rfl
theorem prodI_nil : prodI [] = 1 := rfl
theorem prodI_pos : ∀ {l : List Int}, (∀ x ∈ l, 1 ≤ x) → 1 ≤ prodI l
  | [], _ => by decide
  | x :: l, h => by
    rw [prodI_cons]
    have h1 := h x List.mem_cons_self
    have h2 := prodI_pos fun y hy => h y (List.mem_cons_of_mem _ hy)
    have := Int.mul_le_mul h1 h2 (by decide) (by omega)
    simpa using this
theorem prodI_bt {k : Nat} : ∀ {l : List Int}, (∀ x ∈ l, Bt k x) → Bt (k * l.length) (prodI l) ∨ l = []
  | [], _ => .inr rfl
  | x :: l, h => by
    rw [prodI_cons]
    have h1 := h x List.mem_cons_self
    rcases prodI_bt fun y hy => h y (List.mem_cons_of_mem _ hy) with h2 | rfl
    · exact .inl ((h1.mul h2).up (by simp [Nat.mul_add]; omega))
    · exact .inl (by rw [prodI_nil]; simpa using h1)
theorem prodI_dvd : ∀ {l : List Int} {x : Int}, x ∈ l → x ∣ prodI l
  | y :: l, x, h => by
    rw [prodI_cons]
    rcases List.mem_cons.mp h with rfl | h
    · exact Int.dvd_mul_right _ _
    · exact Int.dvd_trans (prodI_dvd h) (Int.dvd_mul_left _ _)
section
variable {st : Sto}
theorem bt28 {x : Int} (h1 : 1 ≤ x) (h2 : x ≤ 200000001) : Bt 28 x := by unfold Bt; omega
theorem bt10 {x : Int} (h1 : 1 ≤ x) (h2 : x ≤ 1000) : Bt 10 x := by unfold Bt; omega
theorem bt20 {x : Int} (h1 : 1 ≤ x) (h2 : x ≤ 1000000) : Bt 20 x := by unfold Bt; omega
theorem Bt.div {k : Nat} {x y : Int} (h : Bt k x) (hx : 0 ≤ x) (hy : 1 ≤ y) : Bt k (x / y) := by
  unfold Bt at *
  have h1 : x / y ≤ x := Int.ediv_le_self _ hx
  have h2 : 0 ≤ x / y := Int.ediv_nonneg hx (by omega)
  have e1 : ((x / y).natAbs : Int) = x / y := Int.natAbs_of_nonneg h2
  have e2 : (x.natAbs : Int) = x := Int.natAbs_of_nonneg hx
  have : (x / y).natAbs ≤ x.natAbs := by omega
  omega
theorem sprs_ok {ss : List Stn} (h : SsOk ss) {r : Stn} (hr : r.Ok) : (∀ x ∈ sprs ss r, 1 ≤ x ∧ x ≤ 200000001) ∧ Bt 224 (prodI (sprs ss r)) := by
  have h1 : ∀ x ∈ sprs ss r, 1 ≤ x ∧ x ≤ 200000001 := fun x hx => by
    obtain ⟨s, hs, rfl⟩ := List.mem_map.mp hx
    exact spr_pos (h.all s hs) hr
  refine ⟨h1, ?_⟩
  rcases prodI_bt (k := 28) (l := sprs ss r) (fun x hx => bt28 (h1 x hx).1 (h1 x hx).2) with q | q
  · refine q.up ?_
    have := h.len.2
    simp [sprs]
    omega
  · rw [q, prodI_nil]
    unfold Bt; decide
theorem seq_nx {s1 s2 : FS} {ρ ρ1 : Rho} {st1 : Sto} (h : s1 ρ st = some (.nx, ρ1, st1)) : sSeq s1 s2 ρ st = s2 ρ1 st1 := by rw [e_seq, h]; rfl
theorem set_ok {i : Nat} {f : FE} {ρ : Rho} {d : D} {st1 : Sto} (h : f ρ st = some (d, st1)) : sSet i f ρ st = some (.nx, ρ.set i (some d), st1) := by rw [e_set, h]; rfl
theorem lcz_ok {fi : FI} {tg : Tg} {tt : FT} {fe : FE} {vs : List Nat} {ρ : Rho} {items ds : List D} {src : Src} {st1 st2 : Sto} (h1 : fi ρ st = some (items, src, st1)) (h2 : lcZ tg tt fe src (wipeD ρ vs) items st1 = some (ds, st2)) (hz : ds.length ≤ 1000) : fLcZ fi tg tt fe vs ρ st = some (.lst ds, st2) := by
  unfold fLcZ
  rw [h1]
  simp only [Option.bind_some, h2]
  rw [if_pos (by rw [sizeLine_eq]; omega)]
theorem lcD_eq {tg : Tg} {fe : FE} {ρ : Rho} {s0 : Sto} {v : D → D} : ∀ {items acc : List D}, items.length + acc.length ≤ 1000 → (∀ d ∈ items, ∃ ρ1, tgD tg d ρ = some ρ1 ∧ ∀ st, fe ρ1 st = some (v d, st)) → lcD tg fYes fe s0.length [] ρ items (s0 ++ [.lst acc]) = some (s0 ++ [.lst (acc ++ items.map v)])
  | [], acc, _, _ => by unfold lcD; rw [if_pos Intact.nil]; simp
  | d :: ds, acc, hz, h => by
    obtain ⟨ρ1, e1, e2⟩ := h d List.mem_cons_self
    simp only [List.length_cons] at hz
    have ih := lcD_eq (tg := tg) (fe := fe) (ρ := ρ) (s0 := s0) (items := ds) (acc := acc ++ [v d]) (by simp; omega) fun x hx => h x (List.mem_cons_of_mem _ hx)
    unfold lcD
    rw [if_pos Intact.nil, e1]
    simp only [Option.bind_some, e_yes, if_true, e2]
    have q : (s0 ++ [O.lst acc])[s0.length]? = some (.lst acc) := by simp
    rw [q]
    simp only
    rw [if_pos (by rw [sizeLine_eq]; omega), List.set_append_right _ _ (Nat.le_refl _)]
    simp only [Nat.sub_self, List.set_cons_zero]
    rw [ih]
    simp
theorem seal_pair {fn : HA} {ds : List D} {x : Int} {es : List D} (h : fn ds st = some (.tup [.int x, .ref st.length], st ++ [.lst es])) (p : pureL es = true) : sealFn fn ds st = some (.tup [.int x, .lst es], st) :=
  seal_to h (calm_app calm_refl rfl) (by simp [sealD, seals, seal1, p, pureB]) (by simp)
theorem zipWith_map {α β γ : Type} (f : α → β → γ) (g : α → β) : ∀ l : List α, List.zipWith f l (l.map g) = l.map fun x => f x (g x)
  | [] => rfl
  | x :: l => by simp [zipWith_map f g l]
theorem ear_eq {a : Air} (h : a.Ok) {i : Nat} {r : Stn} (e : a.ss[i]? = some r) : fn_ear [a.d, .int (i : Nat)] st = some (earD a i r, st) := by
  have hr := h.ss.all r (List.mem_of_getElem? e)
  have hi := (List.getElem?_eq_some_iff.mp e).1
  obtain ⟨hS, hP⟩ := sprs_ok h.ss hr
  have hPp : 1 ≤ prodI (sprs a.ss r) := prodI_pos fun x hx => (hS x hx).1
  have hl8 := h.ss.len.2
  unfold fn_ear
  refine seal_pair ?_ (pureL_map (fun _ => rfl) _)
  unfold sb_ear
  have e0 : ixD (ssD a.ss) (.int (i : Nat)) st = some (r.d, st) := by
    unfold ssD
    rw [e_ixT, atI_nat, List.getElem?_map, e]
    rfl
  have c3 : cutD [D.str r.nm, D.tup [D.int r.px, D.int r.py], D.int r.pw, D.tup [D.int r.hx, D.int r.hy], D.int r.nd] (some 3) none = [.tup [.int r.hx, .int r.hy], .int r.nd] := rfl
  have L1 : ∀ ρ0 : Rho, ρ0[4]? = some (some (.tup [.int r.hx, .int r.hy])) → ρ0.length = 13 → lcZ (.one 11) fYes (fFn 2 fn_spread (fCons (fOp ixD (fV 11) (fC (.int 1))) (fCons (fV 4) fNil))) [] ρ0 (a.ss.map Stn.d) st = some ((sprs a.ss r).map D.int, st) := by
    intro ρ0 h4 hl
    rw [sprs, List.map_map]
    refine lcM Intact.nil fun s hs => ⟨_, rfl, ?_⟩
    have q11 : (ρ0.set 11 (some s.d))[11]? = some (some s.d) := by rw [List.getElem?_set_self (by omega)]
    have q4 : (ρ0.set 11 (some s.d))[4]? = some (some (.tup [.int r.hx, .int r.hy])) := by rw [List.getElem?_set_ne (by decide)]; exact h4
    simp only [e_fn, e_cons, e_op, e_V, e_C, e_nil, q11, q4, Option.bind_some]
    simp only [Stn.d, e_ixT, atI_1, Option.bind_some, List.length_cons, List.length_nil, if_true]
    rw [spread_eq (st := st) (h.ss.all s hs) hr]
    rfl
  have L2 : ∀ ρ0 : Rho, ρ0.length = 13 → ρ0[7]? = some (some (.int 1)) → ∃ ρ', forD (.one 8) (sAug 7 imulD (fV 8)) [] ((sprs a.ss r).map D.int) ρ0 st = some (.nx, ρ', st) ∧ ρ'.length = 13 ∧ ρ'[7]? = some (some (.int (prodI (sprs a.ss r)))) ∧ ∀ j, j ≠ 7 → j ≠ 8 → ρ'[j]? = ρ0[j]? := by
    intro ρ0 hl h7
    have gen : ∀ (l : List Int) (ρ0 : Rho) (x : Int), (∀ y ∈ l, 1 ≤ y ∧ y ≤ 200000001) → ρ0.length = 13 → ρ0[7]? = some (some (.int x)) → ∃ ρ', forD (.one 8) (sAug 7 imulD (fV 8)) [] (l.map D.int) ρ0 st = some (.nx, ρ', st) ∧ ρ'.length = 13 ∧ ρ'[7]? = some (some (.int (l.foldl (· * ·) x))) ∧ ∀ j, j ≠ 7 → j ≠ 8 → ρ'[j]? = ρ0[j]? := by
      intro l
      induction l with
      | nil => intro ρ0 x _ hl h7; exact ⟨ρ0, by unfold forD; simp only [List.map_nil]; rw [if_pos Intact.nil], hl, h7, fun _ _ _ => rfl⟩
      | cons y l ih =>
        intro ρ0 x hy hl h7
        have y1 := hy y List.mem_cons_self
        obtain ⟨ρ', e1, e2, e3, e4⟩ := ih ((ρ0.set 8 (some (.int y))).set 7 (some (.int (x * y)))) (x * y) (fun z hz => hy z (List.mem_cons_of_mem _ hz)) (by simp [hl]) (by rw [List.getElem?_set_self (by simp [hl])])
        refine ⟨ρ', ?_, e2, e3, fun j h1 h2 => ?_⟩
        · simp only [List.map_cons]
          unfold forD
          rw [if_pos Intact.nil]
          have q7 : (ρ0.set 8 (some (.int y)))[7]? = some (some (.int x)) := by rw [List.getElem?_set_ne (by decide)]; exact h7
          have q8 : (ρ0.set 8 (some (.int y)))[8]? = some (some (.int y)) := by rw [List.getElem?_set_self (by omega)]
          simp only [tgD, Option.bind_some, e_aug, q7, e_V, q8, imulD, intOp]
          rw [if_pos (Or.inr ⟨by omega, by omega⟩)]
          simp only [Option.map_some, Option.bind_some]
          exact e1
        · rw [e4 j h1 h2, List.getElem?_set_ne (Ne.symm h1), List.getElem?_set_ne (Ne.symm h2)]
    exact gen _ ρ0 1 hS hl h7
  have L3 : ∀ ρ0 : Rho, ρ0.length = 13 → ρ0[7]? = some (some (.int (prodI (sprs a.ss r)))) → lcZ (.many [11, 8]) fYes (fOp mulD (fOp ixD (fV 11) (fC (.int 2))) (fOp fdivD (fV 7) (fV 8))) [] ρ0 (List.zipWith (fun x y => D.tup [x, y]) (a.ss.map Stn.d) ((sprs a.ss r).map D.int)) st = some ((a.ss.map fun s => shareI a.ss r s).map D.int, st) := by
    intro ρ0 hl h7
    have e : List.zipWith (fun x y => D.tup [x, y]) (a.ss.map Stn.d) ((sprs a.ss r).map D.int) = a.ss.map fun s => D.tup [s.d, .int (spr s r)] := by
      unfold sprs
      rw [List.map_map, List.zipWith_map, ]
      simp [List.zipWith_self]
    rw [e, List.map_map]
    refine lcM Intact.nil fun s hs => ⟨(ρ0.set 11 (some s.d)).set 8 (some (.int (spr s r))), rfl, ?_⟩
    have sp := spr_pos (h.ss.all s hs) hr
    have q11 : ((ρ0.set 11 (some s.d)).set 8 (some (.int (spr s r))))[11]? = some (some s.d) := by rw [List.getElem?_set_ne (by decide), List.getElem?_set_self (by omega)]
    have q8 : ((ρ0.set 11 (some s.d)).set 8 (some (.int (spr s r))))[8]? = some (some (.int (spr s r))) := by rw [List.getElem?_set_self (by simp [hl])]
    have q7 : ((ρ0.set 11 (some s.d)).set 8 (some (.int (spr s r))))[7]? = some (some (.int (prodI (sprs a.ss r)))) := by rw [List.getElem?_set_ne (by decide), List.getElem?_set_ne (by decide)]; exact h7
    have pw := (h.ss.all s hs).pw
    simp only [e_op, e_V, e_C, q11, q8, q7, Option.bind_some]
    have i2 : ixD s.d (.int 2) st = some (.int s.pw, st) := rfl
    simp only [i2, Option.bind_some, fdiv_ok (st := st) (show 0 < spr s r by omega) (bt28 sp.1 sp.2)]
    rw [mul_ok (bt20 pw.1 pw.2) (hP.div (by omega) sp.1)]
    rfl
  have L4 : ∀ ρ0 : Rho, ρ0.length = 13 → ρ0[5]? = some (some (.int r.nd)) → ρ0[3]? = some (some (.int a.lk)) → lcD (.one 12) fYes (fTup (fCons (fOp mulD (fOp mulD (fV 5) (fV 3)) (fV 12)) (fCons (fOp mulD (fV 5) (fV 12)) (fCons (fC (.int 0)) fNil)))) st.length [] ρ0 ((a.ss.map fun s => shareI a.ss r s).map D.int) (st ++ [.lst []]) = some (st ++ [.lst ((a.ss.map fun s => (r.nd * a.lk * shareI a.ss r s, r.nd * shareI a.ss r s, (0 : Int))).map tri)]) := by
    intro ρ0 hl h5 h3
    rw [lcD_eq (v := fun d => match d with | .int x => tri (r.nd * a.lk * x, r.nd * x, 0) | d => d) (by simp; omega)]
    · simp [Function.comp_def]
    · intro d hd
      obtain ⟨x, hx, rfl⟩ := List.mem_map.mp hd
      obtain ⟨s, hs, rfl⟩ := List.mem_map.mp hx
      have sp := spr_pos (h.ss.all s hs) hr
      have pw := (h.ss.all s hs).pw
      have b1 : Bt 244 (shareI a.ss r s) := (bt20 pw.1 pw.2).mul (hP.div (by omega) sp.1)
      refine ⟨_, rfl, fun st => ?_⟩
      have q12 : (ρ0.set 12 (some (.int (shareI a.ss r s))))[12]? = some (some (.int (shareI a.ss r s))) := by rw [List.getElem?_set_self (by omega)]
      have q5 : (ρ0.set 12 (some (.int (shareI a.ss r s))))[5]? = some (some (.int r.nd)) := by rw [List.getElem?_set_ne (by decide)]; exact h5
      have q3 : (ρ0.set 12 (some (.int (shareI a.ss r s))))[3]? = some (some (.int a.lk)) := by rw [List.getElem?_set_ne (by decide)]; exact h3
      have bn := bt10 hr.nd.1 hr.nd.2
      have bk := bt10 h.lk.1 h.lk.2
      simp only [e_tup, e_cons, e_op, e_V, e_C, e_nil, q12, q5, q3, Option.bind_some, mul_ok (st := st) bn bk, mul_ok (st := st) (bn.mul bk) b1, mul_ok (st := st) bn b1]
      rw [if_pos (by simp [sizeLine_eq])]
      rfl
  obtain ⟨ρ8, e8, l8, p8, k8⟩ := L2 [some a.d, some (.int (i : Nat)), some (ssD a.ss), some (.int a.lk), some (.tup [.int r.hx, .int r.hy]), some (.int r.nd), some (.lst ((sprs a.ss r).map D.int)), some (.int 1), none, none, none, none, none] rfl rfl
  have k2 := k8 2 (by decide) (by decide)
  have k1 := k8 1 (by decide) (by decide)
  have k3 := k8 3 (by decide) (by decide)
  have k5 := k8 5 (by decide) (by decide)
  have k6 := k8 6 (by decide) (by decide)
  have shb : ∀ s ∈ a.ss, Bt 244 (shareI a.ss r s) := fun s hs => by
    have sp := spr_pos (h.ss.all s hs) hr
    have pw := (h.ss.all s hs).pw
    exact (bt20 pw.1 pw.2).mul (hP.div (by omega) sp.1)
  rw [e_run]
  simp only [List.map_cons, List.map_nil, List.length_cons, List.length_nil, List.replicate, List.cons_append, List.nil_append]
  rw [seq_nx (ρ1 := [some a.d, some (.int (i : Nat)), some (ssD a.ss), some (.int a.lk), none, none, none, none, none, none, none, none, none]) (st1 := st) rfl]
  rw [seq_nx (ρ1 := [some a.d, some (.int (i : Nat)), some (ssD a.ss), some (.int a.lk), some (.tup [.int r.hx, .int r.hy]), some (.int r.nd), none, none, none, none, none, none, none]) (st1 := st) (by
    simp only [e_unp, e_sl, e_op, e_V, List.getElem?_cons_zero, List.getElem?_cons_succ, Option.bind_some, e0, e_oS, e_C, e_oN]
    simp only [Stn.d, e_slT, c3, Option.bind_some]
    rfl)]
  rw [seq_nx (set_ok (lcz_ok (items := a.ss.map Stn.d) (src := []) (st1 := st) rfl (L1 _ rfl rfl) (by simp [sprs]; omega)))]
  rw [seq_nx (set_ok (d := .int 1) (st1 := st) rfl)]
  rw [seq_nx (ρ1 := ρ8) (st1 := st) (by
    unfold sFor
    exact e8)]
  rw [seq_nx (set_ok (lcz_ok (items := List.zipWith (fun x y => D.tup [x, y]) (a.ss.map Stn.d) ((sprs a.ss r).map D.int)) (src := []) (st1 := st) (by
    unfold iZip2
    simp only [e_cons, e_V, e_nil, k2, k6, List.getElem?_cons_zero, List.getElem?_cons_succ, Option.bind_some]
    rfl) (L3 _ (by simp [wipeD, l8]) (by simp [wipeD]; exact p8)) (by simp; omega)))]
  have q9 : ∀ j, j ≠ 9 → (ρ8.set 9 (some (.lst ((a.ss.map fun s => shareI a.ss r s).map D.int))))[j]? = ρ8[j]? := fun j hj => by rw [List.getElem?_set_ne (Ne.symm hj)]
  have q99 : (ρ8.set 9 (some (.lst ((a.ss.map fun s => shareI a.ss r s).map D.int))))[9]? = some (some (.lst ((a.ss.map fun s => shareI a.ss r s).map D.int))) := by rw [List.getElem?_set_self (by omega)]
  generalize hρ9 : (ρ8.set 9 (some (.lst ((a.ss.map fun s => shareI a.ss r s).map D.int)))) = ρ9 at q9 q99
  have l9 : ρ9.length = 13 := by rw [← hρ9]; simp [l8]
  have r5 : ρ9[5]? = some (some (.int r.nd)) := (q9 5 (by decide)).trans k5
  have r3 : ρ9[3]? = some (some (.int a.lk)) := (q9 3 (by decide)).trans k3
  have r1 : ρ9[1]? = some (some (.int (i : Nat))) := (q9 1 (by decide)).trans k1
  rw [seq_nx (ρ1 := ρ9.set 10 (some (.ref st.length))) (st1 := st ++ [.lst ((a.ss.map fun s => (r.nd * a.lk * shareI a.ss r s, r.nd * shareI a.ss r s, (0 : Int))).map tri)]) (by
    refine set_ok ?_
    unfold fLc iSeq
    simp only [e_V, q99, Option.bind_some]
    rw [L4 _ (by simp [wipeD, l9]) (by simp [wipeD]; exact r5) (by simp [wipeD]; exact r3)]
    rfl)]
  have t1 : (ρ9.set 10 (some (.ref st.length)))[1]? = some (some (.int (i : Nat))) := by rw [List.getElem?_set_ne (by decide)]; exact r1
  have t3 : (ρ9.set 10 (some (.ref st.length)))[3]? = some (some (.int a.lk)) := by rw [List.getElem?_set_ne (by decide)]; exact r3
  have t9 : (ρ9.set 10 (some (.ref st.length)))[9]? = some (some (.lst ((a.ss.map fun s => shareI a.ss r s).map D.int))) := by rw [List.getElem?_set_ne (by decide)]; exact q99
  have t10 : (ρ9.set 10 (some (.ref st.length)))[10]? = some (some (.ref st.length)) := by rw [List.getElem?_set_self (by omega)]
  have nx : ixN ((a.ss.map fun s => (r.nd * a.lk * shareI a.ss r s, r.nd * shareI a.ss r s, (0 : Int))).map tri).length (i : Nat) = some i := by
    unfold ixN
    simp [hi]
  rw [seq_nx (ρ1 := ρ9.set 10 (some (.ref st.length))) (st1 := st ++ [.lst ((othL a i r).map tri)]) (by
    simp only [e_put, e_tup, e_cons, e_C, e_nil, e_V, t1, t10, Option.bind_some]
    rw [if_pos (by simp [sizeLine_eq])]
    simp only [Option.bind_some]
    rw [e_putL (ds := (a.ss.map fun s => (r.nd * a.lk * shareI a.ss r s, r.nd * shareI a.ss r s, (0 : Int))).map tri) (by simp), nx]
    simp only [Option.bind_some]
    rw [List.set_append_right _ _ (Nat.le_refl _)]
    simp [othL, tri])]
  have ii : atI ((a.ss.map fun s => shareI a.ss r s).map D.int) (i : Nat) = some (.int (shareI a.ss r r)) := by
    rw [atI_nat, List.getElem?_map, List.getElem?_map, e]
    rfl
  simp only [e_ret, e_tup, e_cons, e_op, e_V, e_nil, t1, t3, t9, t10, Option.bind_some, e_ixZ, ii, mul_ok (bt10 h.lk.1 h.lk.2) (shb r (List.mem_of_getElem? e))]
  rw [if_pos (by simp [sizeLine_eq])]
  rfl
def pick3 (p : Int × Int × Int) (g : Int) : Int := if g = 0 then p.1 else if g = 1 then p.2.1 else p.2.2
theorem gap_cases (b o : Int) : gapI b o = 0 ∨ gapI b o = 1 ∨ gapI b o = 2 := by
  unfold gapI
  split
  · exact .inr (.inr rfl)
  · split <;> split <;> omega
def disI (oth : List (Int × Int × Int)) (band : Int) (t : List Int) : Int := (List.zipWith (fun p o => pick3 p (gapI band o)) oth t).sum
theorem intsD_map (l : List Int) : intsD (l.map D.int) = some l := by
  induction l with
  | nil => rfl
  | cons x l ih => simp [intsD, ih]
theorem hears_eq {own band : Int} {oth : List (Int × Int × Int)} {t : List Int} (hz : oth.length ≤ 100) : fn_hears [.tup [.int own, .lst (oth.map tri)], .int band, tun t] st = some (.bl (decide (disI oth band t ≤ own)), st) := by
  unfold fn_hears
  refine seal_same ?_ rfl
  unfold sb_hears
  rw [e_run]
  simp only [List.map_cons, List.map_nil, List.length_cons, List.length_nil, List.replicate, List.cons_append, List.nil_append]
  rw [seq_nx (ρ1 := [some (.tup [.int own, .lst (oth.map tri)]), some (.int band), some (tun t), some (.int own), some (.lst (oth.map tri)), none, none]) (st1 := st) rfl]
  have e : List.zipWith (fun x y => D.tup [x, y]) (oth.map tri) (t.map D.int) = (oth.zip t).map fun p => D.tup [tri p.1, .int p.2] := by
    rw [List.zip, List.zipWith_map, List.map_zipWith]
  have L : lcZ (.many [5, 6]) fYes (fOp ixD (fV 5) (fFn 2 fn_gap (fCons (fV 1) (fCons (fV 6) fNil)))) [] (wipeD [some (.tup [.int own, .lst (oth.map tri)]), some (.int band), some (tun t), some (.int own), some (.lst (oth.map tri)), none, none] [5, 6]) (List.zipWith (fun x y => D.tup [x, y]) (oth.map tri) (t.map D.int)) st = some (((oth.zip t).map fun p => pick3 p.1 (gapI band p.2)).map D.int, st) := by
    rw [e, List.map_map]
    refine lcM Intact.nil fun p hp => ⟨_, rfl, ?_⟩
    simp [wipeD, setM, gap_eq, tri]
    unfold pick3
    rcases gap_cases band p.2 with q | q | q
    · simp [q]
    · simp [q]
    · rw [q]; simp; rfl
  simp only [e_ret, e_op, e_V, e_call, e_cons, e_nil, List.getElem?_cons_zero, List.getElem?_cons_succ, Option.bind_some]
  rw [lcz_ok (items := List.zipWith (fun x y => D.tup [x, y]) (oth.map tri) (t.map D.int)) (src := []) (st1 := st) (by unfold iZip2 tun; simp) L (by simp; omega)]
  simp only [Option.bind_some, sumD, e_listOfZ, intsD_map, Option.map_some, e_geI]
  have : ((oth.zip t).map fun p => pick3 p.1 (gapI band p.2)).sum = disI oth band t := by
    unfold disI
    rw [List.zip, List.map_zipWith]
  rw [this]
/-- whether the one at the seat i is heard -/
def heardB (a : Air) (t : List Int) (i : Nat) (r : Stn) : Bool := decide (t.getD i 0 ≠ 0) && decide (disI (othL a i r) (t.getD i 0) t ≤ ownI a r)
theorem heard_eq {a : Air} (h : a.Ok) {t : List Int} (ht : t.length = a.ss.length) {i : Nat} {r : Stn} (e : a.ss[i]? = some r) : fn_is_heard [a.d, tun t, .str r.nm] st = some (.bl (heardB a t i r), st) := by
  unfold fn_is_heard
  refine seal_same ?_ rfl
  have hi := (List.getElem?_eq_some_iff.mp e).1
  have it : t[i]? = some (t.getD i 0) := by
    rw [List.getD_eq_getElem?_getD]
    have : i < t.length := by omega
    simp [this]
  have ix : ixD (tun t) (.int (i : Nat)) st = some (.int (t.getD i 0), st) := by
    unfold tun
    rw [e_ixT, atI_nat, List.getElem?_map, it]
    rfl
  unfold sb_is_heard
  rw [e_run]
  simp only [List.map_cons, List.map_nil, List.length_cons, List.length_nil, List.replicate, List.cons_append, List.nil_append]
  have s1 : ixD a.d (.int 0) st = some (ssD a.ss, st) := rfl
  rw [seq_nx (set_ok (d := .int (i : Nat)) (st1 := st) (by
    simp only [e_fn, e_cons, e_op, e_V, e_C, e_nil, List.getElem?_cons_zero, List.getElem?_cons_succ, Option.bind_some, s1, List.length_cons, List.length_nil, if_true]
    exact seat_eq h.ss e))]
  have lo : (othL a i r).length ≤ 100 := by
    have := h.ss.len.2
    simp [othL]
    omega
  simp only [e_ret, e_and, e_op, e_V, e_C, List.set_cons_zero, List.set_cons_succ, List.getElem?_cons_zero, List.getElem?_cons_succ, Option.bind_some, ix, e_neI, e_asB, e_fn, e_cons, e_nil, List.length_cons, List.length_nil, if_true, ear_eq (st := st) h e, earD, hears_eq (st := st) lo]
  unfold heardB
  generalize t.getD i 0 = tz
  by_cases z : tz = 0
  · simp [z]
  · simp [z]
end
end EL
set_option Elab.async false
set_option linter.all false
set_option maxRecDepth 100000
set_option maxHeartbeats 1000000
namespace EL
open PySem PySem.Spec PyProof.Rows L2 GxR LG FW
section
variable {st : Sto}
/-- a loop that makes a list at the store's end -/
theorem forAcc {α : Type} {tg : Tg} {bd : FS} {enc : α → D} {g : α → List D} {I : Rho → Prop} {s0 : Sto} : ∀ {l : List α} {acc : List D} {ρ : Rho}, I ρ →
    (∀ x ∈ l, ∀ ρ acc, I ρ → acc.length + (g x).length < 2000 → ∃ ρ1 ρ2, tgD tg (enc x) ρ = some ρ1 ∧ I ρ2 ∧ bd ρ1 (s0 ++ [.lst acc]) = some (.nx, ρ2, s0 ++ [.lst (acc ++ g x)])) → acc.length + (l.flatMap g).length < 2000 →
    ∃ ρ', forD tg bd [] (l.map enc) ρ (s0 ++ [.lst acc]) = some (.nx, ρ', s0 ++ [.lst (acc ++ l.flatMap g)]) ∧ I ρ'
  | [], acc, ρ, i, _, _ => ⟨ρ, by unfold forD; simp only [List.map_nil]; rw [if_pos Intact.nil]; simp, i⟩
  | x :: l, acc, ρ, i, h, hz => by
    simp only [List.flatMap_cons, List.length_append] at hz
    obtain ⟨ρ1, ρ2, e1, i2, e2⟩ := h x List.mem_cons_self ρ acc i (by omega)
    obtain ⟨ρ', e3, i3⟩ := forAcc (l := l) (acc := acc ++ g x) i2 (fun y hy => h y (List.mem_cons_of_mem _ hy)) (by simp only [List.length_append]; omega)
    refine ⟨ρ', ?_, i3⟩
    simp only [List.map_cons]
    unfold forD
    rw [if_pos Intact.nil, e1]
    simp only [Option.bind_some, e2]
    rw [e3]
    simp
theorem sq2 (x y : Int) : (x - y) ^ 2 = (y - x) * (y - x) := by grind
theorem part_eq {s r : Stn} (hs : s.Ok) (hr : r.Ok) : fn__law_part [s.d, r.d] st = some (.tup [.int s.pw, .int (spr s r)], st) := by
  unfold fn__law_part
  refine seal_same ?_ rfl
  have a1 := hs.px; have a2 := hs.py; have a3 := hr.hx; have a4 := hr.hy
  have p1 : powD (.int (s.px - r.hx)) (.int 2) st = some (.int ((r.hx - s.px) * (r.hx - s.px)), st) := by
    rw [e_powI, if_pos ⟨by decide, by decide, by omega⟩, ← sq2]
    rfl
  have p2 : powD (.int (s.py - r.hy)) (.int 2) st = some (.int ((r.hy - s.py) * (r.hy - s.py)), st) := by
    rw [e_powI, if_pos ⟨by decide, by decide, by omega⟩, ← sq2]
    rfl
  have x1 : ixD s.d (.int 1) st = some (.tup [.int s.px, .int s.py], st) := rfl
  have x2 : ixD s.d (.int 2) st = some (.int s.pw, st) := rfl
  have x3 : ixD r.d (.int 3) st = some (.tup [.int r.hx, .int r.hy], st) := rfl
  unfold sb__law_part
  simp only [e_run, List.map_cons, List.map_nil, List.length_cons, List.length_nil, List.replicate, List.cons_append, List.nil_append]
  rw [seq_nx (ρ1 := [some s.d, some r.d, some (.int (s.px - r.hx)), some (.int (s.py - r.hy))]) (st1 := st) (by
    simp only [e_par, e_cons, e_op, e_V, e_C, e_nil, List.getElem?_cons_zero, List.getElem?_cons_succ, Option.bind_some, x1, x3, e_ixT, atI_0, atI_1, e_subI]
    rfl)]
  simp only [e_ret, e_tup, e_cons, e_op, e_V, e_C, e_nil, List.getElem?_cons_zero, List.getElem?_cons_succ, Option.bind_some, x2, p1, p2, e_addI]
  rw [if_pos (by simp [sizeLine_eq])]
  rfl
abbrev Rw := Nat × Int × Int
def rowD (p : Rw) : D := .tup [.int (p.1 : Nat), .int p.2.1, .int p.2.2]
def rowAt (a : Air) (t : List Int) (i : Nat) (r : Stn) (x : Stn × Nat) : List Rw :=
  if x.2 ≠ i ∧ t.getD i 0 * t.getD x.2 0 > 0 then (if t.getD i 0 = t.getD x.2 0 then [(x.2, x.1.pw, spr x.1 r)] else if t.getD i 0 - t.getD x.2 0 = 1 ∨ t.getD i 0 - t.getD x.2 0 = -1 then [(x.2, x.1.pw, spr x.1 r * a.lk)] else []) else []
def rowsL (a : Air) (t : List Int) (i : Nat) (r : Stn) : List Rw := a.ss.zipIdx.flatMap (rowAt a t i r)
theorem enum_zip (ss : List Stn) : enumD (ss.map Stn.d) = ss.zipIdx.map fun x => D.tup [.int (x.2 : Nat), x.1.d] := by
  unfold enumD
  apply List.ext_getElem?
  intro i
  rw [List.getElem?_mapIdx, List.getElem?_map, List.getElem?_map, List.getElem?_zipIdx]
  cases ss[i]? <;> simp
theorem row_one (a : Air) (t : List Int) (i : Nat) (r : Stn) (x : Stn × Nat) : (rowAt a t i r x).length ≤ 1 := by
  unfold rowAt
  split
  · split
    · simp
    · split <;> simp
  · simp
theorem flat_le {α β : Type} {g : α → List β} (h : ∀ x, (g x).length ≤ 1) : ∀ l : List α, (l.flatMap g).length ≤ l.length
  | [] => by simp
  | x :: l => by
    have := h x
    have := flat_le h l
    simp only [List.flatMap_cons, List.length_append, List.length_cons]
    omega
theorem tun_at {t : List Int} {n j : Nat} (ht : t.length = n) (hj : j < n) : ixD (tun t) (.int (j : Nat)) st = some (.int (t.getD j 0), st) := by
  have it : t[j]? = some (t.getD j 0) := by
    rw [List.getD_eq_getElem?_getD]
    have : j < t.length := by omega
    simp [this]
  unfold tun
  rw [e_ixT, atI_nat, List.getElem?_map, it]
  rfl
theorem ss_at {ss : List Stn} {j : Nat} {s : Stn} (e : ss[j]? = some s) : ixD (ssD ss) (.int (j : Nat)) st = some (s.d, st) := by
  unfold ssD
  rw [e_ixT, atI_nat, List.getElem?_map, e]
  rfl
theorem t_bound {t : List Int} (h : ∀ b ∈ t, 0 ≤ b ∧ b ≤ 9) (j : Nat) : 0 ≤ t.getD j 0 ∧ t.getD j 0 ≤ 9 := by
  rw [List.getD_eq_getElem?_getD]
  cases q : t[j]? with
  | none => simp
  | some x => exact h x (List.mem_of_getElem? q)
theorem in_pm {x : Int} : inW false (.int x) (.lst [.int 1, .int (-1)]) st = some (.bl (decide (x = 1 ∨ x = -1)), st) := by
  have o1 : okB 60 (.int x) = true := rfl
  have o2 : okBs 59 [.int 1, .int (-1)] = true := rfl
  unfold inW
  simp only [e_listOfZ, Option.bind_some, e_valI, o1, o2, and_self, if_true, List.any_cons, List.any_nil, eqB_int, nB, Bool.false_eq_true, if_false, Bool.or_false]
  congr 3
  rw [Bool.decide_or]
  congr 1 <;> (apply decide_eq_decide.mpr; omega)
theorem app_acc {ρ : Rho} {f : FE} {j : Nat} {d : D} {s0 : Sto} {acc : List D} (hj : ρ[j]? = some (some (.ref s0.length))) (e : f ρ (s0 ++ [.lst acc]) = some (d, s0 ++ [.lst acc])) (hz : acc.length < 2000) : sExpr (fApp (fV j) f) ρ (s0 ++ [.lst acc]) = some (.nx, ρ, s0 ++ [.lst (acc ++ [d])]) := by
  have q : (s0 ++ [O.lst acc])[s0.length]? = some (.lst acc) := by simp
  simp only [e_expr, e_app, e_V, hj, Option.bind_some, e, q]
  rw [if_pos (by rw [sizeLine_eq]; omega), List.set_append_right _ _ (Nat.le_refl _)]
  simp
noncomputable def bodyR : FS := (sIf (fTAnd (fTst (fOp neD (fV 4) (fV 2))) (fTst (fOp gtD (fOp mulD (fOp ixD (fV 1) (fV 2)) (fOp ixD (fV 1) (fV 4))) (fC (.int 0))))) (sSeq (sUnp (.many [6, 7]) (fFn 2 fn__law_part (fCons (fV 5) (fCons (fOp ixD (fOp ixD (fV 0) (fC (.int 0))) (fV 2)) fNil))))
    (sIf (fTst (fOp eqD (fOp ixD (fV 1) (fV 2)) (fOp ixD (fV 1) (fV 4)))) (sExpr (fApp (fV 3) (fTup (fCons (fV 4) (fCons (fV 6) (fCons (fV 7) fNil)))))) (sIf (fTst (fOp (inW false) (fOp subD (fOp ixD (fV 1) (fV 2)) (fOp ixD (fV 1) (fV 4))) (fLz (fCons (fC (.int 1)) (fCons (fNeg (fC (.int 1))) fNil))))) (sExpr (fApp (fV 3) (fTup (fCons (fV 4) (fCons (fV 6) (fCons (fOp mulD (fV 7) (fOp ixD (fV 0) (fC (.int 1)))) fNil)))))) sNext))) sNext)
theorem bodyR_eq {a : Air} (h : a.Ok) {t : List Int} (ht : t.length = a.ss.length) (hb : ∀ b ∈ t, 0 ≤ b ∧ b ≤ 9) {i : Nat} {r : Stn} (e : a.ss[i]? = some r) {x : Stn × Nat} (hx : a.ss[x.2]? = some x.1) {x6 x7 : Option D} {acc : List D} (hz : acc.length < 2000) :
    ∃ y6 y7, bodyR [some a.d, some (tun t), some (.int (i : Nat)), some (.ref st.length), some (.int (x.2 : Nat)), some x.1.d, x6, x7] (st ++ [.lst acc]) = some (.nx, [some a.d, some (tun t), some (.int (i : Nat)), some (.ref st.length), some (.int (x.2 : Nat)), some x.1.d, y6, y7], st ++ [.lst (acc ++ (rowAt a t i r x).map rowD)]) := by
  have hi := (List.getElem?_eq_some_iff.mp e).1
  have hj := (List.getElem?_eq_some_iff.mp hx).1
  have hr := h.ss.all r (List.mem_of_getElem? e)
  have hs := h.ss.all x.1 (List.mem_of_getElem? hx)
  have b1 := t_bound hb i
  have b2 := t_bound hb x.2
  have sp := spr_pos hs hr
  have m1 : ∀ st, mulD (.int (t.getD i 0)) (.int (t.getD x.2 0)) st = some (.int (t.getD i 0 * t.getD x.2 0), st) := fun st => mul_ok (a := 64) (b := 64) (bt64 (by omega) (by omega)) (bt64 (by omega) (by omega))
  have m2 : ∀ st, mulD (.int (spr x.1 r)) (.int a.lk) st = some (.int (spr x.1 r * a.lk), st) := fun st => mul_ok (bt28 sp.1 sp.2) (bt10 h.lk.1 h.lk.2)
  have i0 : ∀ st, ixD a.d (.int 0) st = some (ssD a.ss, st) := fun _ => rfl
  have i1 : ∀ st, ixD a.d (.int 1) st = some (.int a.lk, st) := fun _ => rfl
  have ti : ∀ st, ixD (tun t) (.int (i : Nat)) st = some (.int (t.getD i 0), st) := fun _ => tun_at ht hi
  have tj : ∀ st, ixD (tun t) (.int (x.2 : Nat)) st = some (.int (t.getD x.2 0), st) := fun _ => tun_at ht hj
  have si : ∀ st, ixD (ssD a.ss) (.int (i : Nat)) st = some (r.d, st) := fun _ => ss_at e
  have pe : ∀ st, fn__law_part [x.1.d, r.d] st = some (.tup [.int x.1.pw, .int (spr x.1 r)], st) := fun _ => part_eq hs hr
  unfold bodyR rowAt
  generalize t.getD i 0 = ti0 at *
  generalize t.getD x.2 0 = tj0 at *
  simp only [e_if, e_tand, e_tst, e_op, e_V, e_C, List.getElem?_cons_zero, List.getElem?_cons_succ, Option.bind_some, e_neI, e_asB, ti, tj, m1, e_gtI]
  by_cases z1 : (x.2 : Int) = (i : Nat)
  · have z1' : x.2 = i := by omega
    refine ⟨x6, x7, ?_⟩
    simp [z1']
  · have z1' : x.2 ≠ i := by omega
    simp only [z1, decide_false, Bool.not_false, if_true]
    by_cases z2 : 0 < ti0 * tj0
    · simp only [z2, decide_true, if_true, Option.bind_some]
      refine ⟨some (.int x.1.pw), some (.int (spr x.1 r)), ?_⟩
      rw [seq_nx (ρ1 := [some a.d, some (tun t), some (.int (i : Nat)), some (.ref st.length), some (.int (x.2 : Nat)), some x.1.d, some (.int x.1.pw), some (.int (spr x.1 r))]) (st1 := st ++ [.lst acc]) (by
        simp only [e_unp, e_fn, e_cons, e_op, e_V, e_C, e_nil, List.getElem?_cons_zero, List.getElem?_cons_succ, Option.bind_some, i0, si, List.length_cons, List.length_nil, if_true, pe]
        rfl)]
      simp only [e_if, e_tst, e_op, e_V, e_C, List.getElem?_cons_zero, List.getElem?_cons_succ, Option.bind_some, e_asB, ti, tj, e_eqI]
      by_cases z3 : ti0 = tj0
      · simp only [z3, decide_true, if_true]
        rw [app_acc (d := rowD (x.2, x.1.pw, spr x.1 r)) rfl (by simp [sizeLine_eq, rowD]) hz]
        rw [z3] at z2
        simp [z1', z2]
      · simp only [z3, decide_false, Bool.false_eq_true, if_false, e_lz, e_cons, e_C, e_nil, e_neg, Option.bind_some, e_subI]
        rw [if_pos (by simp [sizeLine_eq])]
        simp only [Option.bind_some, in_pm, e_asB]
        by_cases z4 : ti0 - tj0 = 1 ∨ ti0 - tj0 = -1
        · simp only [z4, decide_true, if_true]
          rw [app_acc (d := rowD (x.2, x.1.pw, spr x.1 r * a.lk)) rfl (by
            simp only [e_tup, e_cons, e_op, e_V, e_C, e_nil, List.getElem?_cons_zero, List.getElem?_cons_succ, Option.bind_some, i1, m2]
            rw [if_pos (by simp [sizeLine_eq])]
            rfl) hz]
          simp [z1', z2]
        · simp [z4, z1', z2]
    · refine ⟨x6, x7, ?_⟩
      simp [z2]
theorem rows_eq {a : Air} (h : a.Ok) {t : List Int} (ht : t.length = a.ss.length) (hb : ∀ b ∈ t, 0 ≤ b ∧ b ≤ 9) {i : Nat} {r : Stn} (e : a.ss[i]? = some r) : fn__law_rows [a.d, tun t, .int (i : Nat)] st = some (.lst ((rowsL a t i r).map rowD), st) := by
  unfold fn__law_rows
  refine seal_list (more := []) ?_ (pureL_map (fun _ => rfl) _)
  have hl8 := h.ss.len.2
  have fl : ∀ l : List (Stn × Nat), (l.flatMap (rowAt a t i r)).map rowD = l.flatMap fun x => (rowAt a t i r x).map rowD := fun l => by
    rw [List.map_flatMap]
  obtain ⟨ρ', e1, i1⟩ := forAcc (tg := .many [4, 5]) (bd := bodyR) (enc := fun x : Stn × Nat => D.tup [.int (x.2 : Nat), x.1.d]) (g := fun x => (rowAt a t i r x).map rowD) (s0 := st)
    (I := fun ρ => ∃ x4 x5 x6 x7, ρ = [some a.d, some (tun t), some (.int (i : Nat)), some (.ref st.length), x4, x5, x6, x7]) (l := a.ss.zipIdx) (acc := []) (ρ := [some a.d, some (tun t), some (.int (i : Nat)), some (.ref st.length), none, none, none, none]) ⟨_, _, _, _, rfl⟩ (by
      intro x hx ρ acc ⟨x4, x5, x6, x7, eρ⟩ hz
      subst eρ
      have hx2 : a.ss[x.2]? = some x.1 := by
        obtain ⟨k, hk⟩ := List.mem_iff_getElem?.mp hx
        rw [List.getElem?_zipIdx] at hk
        cases q : a.ss[k]? with
        | none => rw [q] at hk; cases hk
        | some s => rw [q] at hk; cases hk; simpa using q
      obtain ⟨y6, y7, ey⟩ := bodyR_eq (st := st) h ht hb e hx2 (x6 := x6) (x7 := x7) (acc := acc) (by omega)
      exact ⟨_, _, rfl, ⟨_, _, _, _, rfl⟩, ey⟩) (by
      have := flat_le (row_one a t i r) a.ss.zipIdx
      rw [← fl]
      simp at this ⊢
      omega)
  unfold sb__law_rows
  rw [e_run]
  simp only [List.map_cons, List.map_nil, List.length_cons, List.length_nil, List.replicate, List.cons_append, List.nil_append]
  rw [seq_nx (ρ1 := [some a.d, some (tun t), some (.int (i : Nat)), some (.ref st.length), none, none, none, none]) (st1 := st ++ [.lst []]) (by simp [sizeLine_eq])]
  obtain ⟨x4, x5, x6, x7, eρ⟩ := i1
  rw [seq_nx (ρ1 := ρ') (st1 := st ++ [.lst ((rowsL a t i r).map rowD)]) (by
    unfold sFor
    have z : iEnum (fCons (fOp ixD (fV 0) (fC (.int 0))) fNil) [some a.d, some (tun t), some (.int (i : Nat)), some (.ref st.length), none, none, none, none] (st ++ [.lst []]) = some (a.ss.zipIdx.map (fun x : Stn × Nat => D.tup [.int (x.2 : Nat), x.1.d]), [], st ++ [.lst []]) := by
      rw [← enum_zip]
      rfl
    rw [z]
    simp only [Option.bind_some]
    have := e1
    simp only [List.nil_append] at this
    show forD (.many [4, 5]) bodyR [] _ _ _ = _
    rw [this, rowsL, fl])]
  rw [eρ]
  rfl
end
end EL
set_option Elab.async false
set_option linter.all false
set_option maxRecDepth 100000
set_option maxHeartbeats 1000000
namespace EL
open PySem PySem.Spec PyProof.Rows L2 GxR LG FW
section
variable {st : Sto}
structure RwOk (p : Rw) : Prop where
  t : 1 ≤ p.2.1 ∧ p.2.1 ≤ 1000000
  b : 1 ≤ p.2.2 ∧ p.2.2 ≤ 200000001000
theorem bt38 {x : Int} (h1 : 1 ≤ x) (h2 : x ≤ 200000001000) : Bt 38 x := by unfold Bt; omega
theorem mul_okL {a b : Nat} {i j : Int} (hi : Bt a i) (hj : Bt b j) (h : a + b < 9000) : mulD (.int i) (.int j) st = some (.int (i * j), st) := mul_ok hi hj h
def botI (rows : List Rw) : Int := prodI (rows.map fun p => p.2.2)
def sumI (rows : List Rw) : Int := (rows.map fun p => p.2.1 * (botI rows / p.2.2)).sum
theorem row_ix {p : Rw} : ixD (rowD p) (.int 0) st = some (.int (p.1 : Nat), st) ∧ ixD (rowD p) (.int 1) st = some (.int p.2.1, st) ∧ ixD (rowD p) (.int 2) st = some (.int p.2.2, st) := ⟨rfl, rfl, rfl⟩
theorem prodLoop {z : Option D} : ∀ (rows : List Rw) (x : Int) (k : Nat) (y : Option D), (∀ p ∈ rows, RwOk p) → Bt k x → k + 38 * rows.length ≤ 1000 →
    ∃ y', forD (.one 2) (sSet 1 (fOp mulD (fV 1) (fOp ixD (fV 2) (fC (.int 2))))) [] (rows.map rowD) [z, some (.int x), y] st = some (.nx, [z, some (.int (x * botI rows)), y'], st)
  | [], x, k, y, _, _, _ => ⟨y, by unfold forD; simp only [List.map_nil]; rw [if_pos Intact.nil]; simp [botI, prodI_nil]⟩
  | p :: rows, x, k, y, h, hx, hk => by
    have hp := h p List.mem_cons_self
    have b := bt38 hp.b.1 hp.b.2
    simp only [List.length_cons] at hk
    obtain ⟨y', e⟩ := prodLoop (z := z) rows (x * p.2.2) (k + 38) (some (rowD p)) (fun q hq => h q (List.mem_cons_of_mem _ hq)) (hx.mul b) (by omega)
    refine ⟨y', ?_⟩
    simp only [List.map_cons]
    unfold forD
    rw [if_pos Intact.nil]
    have t : tgD (.one 2) (rowD p) [z, some (.int x), y] = some [z, some (.int x), some (rowD p)] := rfl
    rw [t]
    simp only [Option.bind_some, e_set, e_op, e_V, e_C, List.getElem?_cons_zero, List.getElem?_cons_succ, row_ix.2.2, mul_okL hx b (show k + 38 < 9000 by omega)]
    simp only [List.set_cons_succ, List.set_cons_zero, e]
    simp [botI, prodI_cons, Int.mul_assoc]
theorem bot_ok {rows : List Rw} (h : ∀ p ∈ rows, RwOk p) (hz : rows.length ≤ 8) : 1 ≤ botI rows ∧ Bt 304 (botI rows) := by
  have h1 : ∀ x ∈ rows.map (fun p : Rw => p.2.2), 1 ≤ x := by
    intro x hx
    obtain ⟨p, hp, rfl⟩ := List.mem_map.mp hx
    exact (h p hp).b.1
  have h2 : ∀ x ∈ rows.map (fun p : Rw => p.2.2), Bt 38 x := by
    intro x hx
    obtain ⟨p, hp, rfl⟩ := List.mem_map.mp hx
    exact bt38 (h p hp).b.1 (h p hp).b.2
  refine ⟨prodI_pos h1, ?_⟩
  rcases prodI_bt h2 with q | q
  · refine q.up ?_
    rw [List.length_map]
    omega
  · unfold botI
    rw [q]
    have : Bt 1 (prodI []) := by rw [prodI_nil]; unfold Bt; decide
    exact this.up (by decide)
theorem term_bt {rows : List Rw} (h : ∀ p ∈ rows, RwOk p) (hz : rows.length ≤ 8) {p : Rw} (hp : p ∈ rows) : Bt 324 (p.2.1 * (botI rows / p.2.2)) := by
  have q := h p hp
  have b := bot_ok h hz
  have := (bt20 q.t.1 q.t.2).mul (b.2.div (by omega) q.b.1)
  exact this.up (by decide)
theorem Bt.add {k : Nat} {i j : Int} (h1 : Bt k i) (h2 : Bt k j) : Bt (k + 1) (i + j) := by
  unfold Bt at *
  rw [Nat.pow_succ]
  omega
theorem sum_bt {k : Nat} : ∀ {l : List Int}, (∀ x ∈ l, Bt k x) → Bt (k + l.length) l.sum
  | [], _ => by show Bt _ 0; unfold Bt; exact Nat.two_pow_pos _
  | x :: l, h => by
    have := sum_bt (l := l) fun y hy => h y (List.mem_cons_of_mem _ hy)
    rw [List.sum_cons, List.length_cons, ← Nat.add_assoc]
    exact ((h x List.mem_cons_self).up (Nat.le_add_right _ _)).add this
theorem sumI_bt {rows : List Rw} (h : ∀ p ∈ rows, RwOk p) (hz : rows.length ≤ 8) : Bt 332 (sumI rows) := by
  have := sum_bt (k := 324) (l := rows.map fun p => p.2.1 * (botI rows / p.2.2)) fun x hx => by
    obtain ⟨p, hp, rfl⟩ := List.mem_map.mp hx
    exact term_bt h hz hp
  rw [List.length_map] at this
  exact this.up (by omega)
theorem sum_eq {rows : List Rw} (h : ∀ p ∈ rows, RwOk p) (hz : rows.length ≤ 8) : fn__law_sum [.lst (rows.map rowD)] st = some (.tup [.int (sumI rows), .int (botI rows)], st) := by
  unfold fn__law_sum
  refine seal_same ?_ rfl
  unfold sb__law_sum
  rw [e_run]
  simp only [List.map_cons, List.map_nil, List.length_cons, List.length_nil, List.replicate, List.cons_append, List.nil_append]
  rw [seq_nx (ρ1 := [some (.lst (rows.map rowD)), some (.int 1), none]) (st1 := st) rfl]
  obtain ⟨y', e⟩ := prodLoop (st := st) (z := some (.lst (rows.map rowD))) rows 1 1 none h (by unfold Bt; decide) (by omega)
  rw [seq_nx (ρ1 := [some (.lst (rows.map rowD)), some (.int (botI rows)), y']) (st1 := st) (by
    unfold sFor
    have z : iSeq (fV 0) [some (.lst (rows.map rowD)), some (.int 1), none] st = some (rows.map rowD, [], st) := rfl
    rw [z]
    simp only [Option.bind_some]
    rw [e, Int.one_mul])]
  have b := bot_ok h hz
  have L : lcZ (.one 2) fYes (fOp mulD (fOp ixD (fV 2) (fC (.int 1))) (fOp fdivD (fV 1) (fOp ixD (fV 2) (fC (.int 2))))) [] (wipeD [some (.lst (rows.map rowD)), some (.int (botI rows)), y'] [2]) (rows.map rowD) st = some ((rows.map fun p => p.2.1 * (botI rows / p.2.2)).map D.int, st) := by
    rw [List.map_map]
    refine lcM Intact.nil fun p hp => ⟨_, rfl, ?_⟩
    have q := h p hp
    have f := fdiv_ok (st := st) (i := botI rows) (j := p.2.2) (by have := q.b.1; omega) (bt38 q.b.1 q.b.2)
    have m := mul_ok (st := st) (bt20 q.t.1 q.t.2) (b.2.div (by omega) q.b.1 : Bt 304 (botI rows / p.2.2))
    have w : wipeD [some (.lst (rows.map rowD)), some (.int (botI rows)), y'] [2] = [some (.lst (rows.map rowD)), some (.int (botI rows)), none] := rfl
    simp only [w, List.set_cons_succ, List.set_cons_zero, e_op, e_V, e_C, List.getElem?_cons_zero, List.getElem?_cons_succ, Option.bind_some, row_ix.2.1, row_ix.2.2, f, m, Function.comp]
  simp only [e_ret, e_tup, e_V, e_call, e_cons, e_nil, List.getElem?_cons_zero, List.getElem?_cons_succ, Option.bind_some]
  rw [lcz_ok (items := rows.map rowD) (src := []) (st1 := st) rfl L (by simp; omega)]
  simp only [Option.bind_some, sumD, e_listOfZ, intsD_map, Option.map_some]
  rw [if_pos (by simp [sizeLine_eq])]
  rfl
theorem stands_eq {a : Air} (h : a.Ok) {i : Nat} {r : Stn} (e : a.ss[i]? = some r) {rows : List Rw} (hr : ∀ p ∈ rows, RwOk p) (hz : rows.length ≤ 8) :
    fn__law_stands [a.d, .int (i : Nat), .lst (rows.map rowD)] st = some (.bl (decide (r.nd * sumI rows * spr r r ≤ r.pw * botI rows)), st) := by
  unfold fn__law_stands
  refine seal_same ?_ rfl
  unfold sb__law_stands
  rw [e_run]
  simp only [List.map_cons, List.map_nil, List.length_cons, List.length_nil, List.replicate, List.cons_append, List.nil_append]
  have ok := h.ss.all r (List.mem_of_getElem? e)
  have i0 : ixD a.d (.int 0) st = some (ssD a.ss, st) := rfl
  have si : ixD (ssD a.ss) (.int (i : Nat)) st = some (r.d, st) := ss_at e
  have i4 : ixD r.d (.int 4) st = some (.int r.nd, st) := rfl
  have sp := spr_pos ok ok
  have b := bot_ok hr hz
  have sb := sumI_bt hr hz
  have m1 := mul_ok (st := st) (bt20 ok.pw.1 ok.pw.2) b.2
  have m2 := mul_ok (st := st) (bt10 ok.nd.1 ok.nd.2) sb
  have m3 := mul_ok (st := st) ((bt10 ok.nd.1 ok.nd.2).mul sb) (bt28 sp.1 sp.2)
  rw [seq_nx (ρ1 := [some a.d, some (.int (i : Nat)), some (.lst (rows.map rowD)), some (.int r.pw), some (.int (spr r r)), none, none]) (st1 := st) (by
    simp only [e_unp, e_fn, e_cons, e_op, e_V, e_C, e_nil, List.getElem?_cons_zero, List.getElem?_cons_succ, Option.bind_some, i0, si, List.length_cons, List.length_nil, if_true, part_eq ok ok]
    rfl)]
  rw [seq_nx (ρ1 := [some a.d, some (.int (i : Nat)), some (.lst (rows.map rowD)), some (.int r.pw), some (.int (spr r r)), some (.int (sumI rows)), some (.int (botI rows))]) (st1 := st) (by
    simp only [e_unp, e_fn, e_cons, e_op, e_V, e_C, e_nil, List.getElem?_cons_zero, List.getElem?_cons_succ, Option.bind_some, List.length_cons, List.length_nil, if_true, sum_eq hr hz]
    rfl)]
  simp only [e_ret, e_op, e_V, e_C, List.getElem?_cons_zero, List.getElem?_cons_succ, Option.bind_some, i0, si, i4, m1, m2, m3, e_geI]
end
end EL
set_option Elab.async false
set_option linter.all false
set_option maxRecDepth 100000
set_option maxHeartbeats 1000000
namespace EL
open PySem PySem.Spec PyProof.Rows L2 GxR LG FW
section
/-- the sum of the rows, over the bottom M -/
def FM (rows : List Rw) (M : Int) : Int := (rows.map fun p => p.2.1 * (M / p.2.2)).sum
theorem fm_mul {M k : Int} : ∀ {rows : List Rw}, (∀ p ∈ rows, p.2.2 ∣ M) → FM rows (M * k) = FM rows M * k
  | [], _ => by simp [FM]
  | p :: rows, h => by
    have ih := fm_mul (M := M) (k := k) (rows := rows) fun q hq => h q (List.mem_cons_of_mem _ hq)
    unfold FM at ih ⊢
    rw [List.map_cons, List.sum_cons, List.map_cons, List.sum_cons, ih, Int.add_mul, Int.mul_assoc]
    have : M * k / p.2.2 = M / p.2.2 * k := by
      rw [Int.mul_comm M k, Int.mul_ediv_assoc _ (h p List.mem_cons_self), Int.mul_comm]
    rw [this]
theorem fm_cross {M N : Int} {rows : List Rw} (h1 : ∀ p ∈ rows, p.2.2 ∣ M) (h2 : ∀ p ∈ rows, p.2.2 ∣ N) : FM rows M * N = FM rows N * M := by
  rw [← fm_mul h1, ← fm_mul h2, Int.mul_comm]
theorem bot_dvd {rows : List Rw} {p : Rw} (hp : p ∈ rows) : p.2.2 ∣ botI rows := prodI_dvd (List.mem_map.mpr ⟨p, hp, rfl⟩)
theorem sum_fm (rows : List Rw) : sumI rows = FM rows (botI rows) := rfl
/-- one's own over the same bottom -/
theorem cross {rows : List Rw} {nd pw S M B : Int} (hS : 0 < S) (hM : 0 < M) (hB : 0 < B) (dS : S ∣ M) (h1 : ∀ p ∈ rows, p.2.2 ∣ M) (h2 : ∀ p ∈ rows, p.2.2 ∣ B) :
    nd * FM rows M ≤ pw * (M / S) ↔ nd * FM rows B * S ≤ pw * B := by
  have c := fm_cross h1 h2
  obtain ⟨m, rfl⟩ := dS
  rw [Int.mul_ediv_cancel_left _ (by omega)]
  have hm : 0 < m := by
    rcases Int.lt_trichotomy m 0 with q | q | q
    · have := Int.mul_neg_of_pos_of_neg hS q; omega
    · subst q; simp at hM
    · exact q
  have e : nd * FM rows (S * m) * B = nd * FM rows B * S * m := by
    rw [Int.mul_assoc, c]; simp [Int.mul_assoc]
  constructor
  · intro h
    have := Int.mul_le_mul_of_nonneg_right h (Int.le_of_lt hB)
    rw [e] at this
    have e2 : pw * m * B = pw * B * m := by rw [Int.mul_assoc, Int.mul_comm m B, Int.mul_assoc]
    rw [e2] at this
    exact Int.le_of_mul_le_mul_right this hm
  · intro h
    have := Int.mul_le_mul_of_nonneg_right h (Int.le_of_lt hm)
    rw [← e] at this
    have e2 : pw * B * m = pw * m * B := by rw [Int.mul_assoc, Int.mul_comm B m, Int.mul_assoc]
    rw [e2] at this
    exact Int.le_of_mul_le_mul_right this hB
theorem oth_idx (a : Air) (i : Nat) (r : Stn) : othL a i r = a.ss.zipIdx.map fun x => if x.2 = i then ((0, 0, 0) : Int × Int × Int) else (r.nd * a.lk * shareI a.ss r x.1, r.nd * shareI a.ss r x.1, 0) := by
  unfold othL
  apply List.ext_getElem?
  intro j
  rw [List.getElem?_set, List.getElem?_map, List.getElem?_map, List.getElem?_zipIdx, List.length_map]
  by_cases q : i = j
  · subst q
    by_cases hl : i < a.ss.length
    · simp [hl]
    · simp [hl]
  · have q' : ¬ j = i := fun z => q z.symm
    cases a.ss[j]? <;> simp [q, q']
theorem zip_idx {α β : Type} (g : β → Int → Int) (u : α × Nat → β) {ss : List α} {t : List Int} (ht : t.length = ss.length) : List.zipWith g (ss.zipIdx.map u) t = ss.zipIdx.map fun x => g (u x) (t.getD x.2 0) := by
  apply List.ext_getElem?
  intro j
  rw [List.getElem?_zipWith, List.getElem?_map, List.getElem?_map, List.getElem?_zipIdx]
  by_cases hl : j < ss.length
  · have : j < t.length := by omega
    simp [hl, this]
  · have h1 : ss[j]? = none := by simp; omega
    simp [h1]
theorem sum_flat {α : Type} (g : α → List Rw) (f : Rw → Int) : ∀ l : List α, ((l.flatMap g).map f).sum = (l.map fun x => ((g x).map f).sum).sum
  | [] => rfl
  | x :: l => by rw [List.flatMap_cons, List.map_append, List.sum_append, sum_flat g f l, List.map_cons, List.sum_cons]
theorem sum_mul {α : Type} (f : α → Int) (k : Int) : ∀ l : List α, k * (l.map f).sum = (l.map fun x => k * f x).sum
  | [] => by simp
  | x :: l => by rw [List.map_cons, List.sum_cons, List.map_cons, List.sum_cons, Int.mul_add, sum_mul f k l]
theorem zipIdx_mem {ss : List Stn} {x : Stn × Nat} (hx : x ∈ ss.zipIdx) : ss[x.2]? = some x.1 := by
  obtain ⟨k, hk⟩ := List.mem_iff_getElem?.mp hx
  rw [List.getElem?_zipIdx] at hk
  cases q : ss[k]? with
  | none => rw [q] at hk; cases hk
  | some s => rw [q] at hk; cases hk; simpa using q
theorem gap_zero {b o : Int} (hb : 0 < b) (ho : 0 ≤ o) : gapI b o = 0 ↔ 0 < b * o ∧ b = o := by
  unfold gapI
  have : b * o = 0 ↔ o = 0 := by
    constructor
    · intro h; rcases Int.mul_eq_zero.mp h with q | q <;> omega
    · intro h; rw [h]; simp
  have p := Int.mul_nonneg (Int.le_of_lt hb) ho
  split
  · rename_i q
    have : o = 0 := by omega
    subst this
    simp
  · split <;> split <;> omega
theorem gap_one {b o : Int} (hb : 0 < b) (ho : 0 ≤ o) : gapI b o = 1 ↔ 0 < b * o ∧ (b - o = 1 ∨ b - o = -1) := by
  unfold gapI
  have : b * o = 0 ↔ o = 0 := by
    constructor
    · intro h; rcases Int.mul_eq_zero.mp h with q | q <;> omega
    · intro h; rw [h]; simp
  have p := Int.mul_nonneg (Int.le_of_lt hb) ho
  split
  · rename_i q
    have : o = 0 := by omega
    subst this
    simp
  · split <;> split <;> omega
theorem dis_rows {a : Air} (h : a.Ok) {t : List Int} (ht : t.length = a.ss.length) (hb : ∀ b ∈ t, 0 ≤ b ∧ b ≤ 9) {i : Nat} {r : Stn} (hr : r.Ok) (hi : 0 < t.getD i 0) :
    disI (othL a i r) (t.getD i 0) t = r.nd * FM (rowsL a t i r) (a.lk * prodI (sprs a.ss r)) := by
  unfold disI FM rowsL
  rw [oth_idx, zip_idx _ _ ht, sum_flat, sum_mul]
  congr 1
  refine List.map_congr_left fun x hx => ?_
  have hx2 := zipIdx_mem hx
  have hs := h.ss.all x.1 (List.mem_of_getElem? hx2)
  have sp := spr_pos hs hr
  have dv : spr x.1 r ∣ prodI (sprs a.ss r) := prodI_dvd (List.mem_map.mpr ⟨x.1, List.mem_of_getElem? hx2, rfl⟩)
  have bx := t_bound hb x.2
  have lk := h.lk.1
  unfold rowAt
  by_cases q : x.2 = i
  · have : ∀ g : Int, pick3 (0, 0, 0) g = 0 := fun g => by unfold pick3; simp
    simp [q, this]
  · simp only [q, if_false, ne_eq, not_false_eq_true, true_and]
    have g0 := gap_zero hi bx.1
    have g1 := gap_one hi bx.1
    have gc := gap_cases (t.getD i 0) (t.getD x.2 0)
    generalize t.getD i 0 = b at *
    generalize t.getD x.2 0 = o at *
    generalize gapI b o = g at *
    unfold pick3 shareI
    rcases gc with z | z | z
    · have ⟨z1, z2⟩ := g0.mp z
      rw [z2] at z1
      simp only [z, z2, z1, if_true, gt_iff_lt, List.map_cons, List.map_nil, List.sum_cons, List.sum_nil, Int.add_zero]
      rw [Int.mul_ediv_assoc _ dv]
      grind
    · have ⟨z1, z2⟩ := g1.mp z
      have z3 : ¬ b = o := by omega
      simp only [z, z1, z2, z3, if_true, if_false, gt_iff_lt, List.map_cons, List.map_nil, List.sum_cons, List.sum_nil, Int.add_zero]
      rw [Int.mul_comm (spr x.1 r), Int.mul_ediv_mul_of_pos _ _ (by omega)]
      simp [Int.mul_assoc]
    · have z0 : ¬ (0 < b * o ∧ b = o) := fun w => by have := g0.mpr w; omega
      have z1 : ¬ (0 < b * o ∧ (b - o = 1 ∨ b - o = -1)) := fun w => by have := g1.mpr w; omega
      have e0 : ¬ g = 0 := by omega
      have e1 : ¬ g = 1 := by omega
      simp only [e0, e1, if_false, gt_iff_lt]
      split
      · rename_i w
        have w1 : ¬ b = o := fun v => z0 ⟨w, v⟩
        have w2 : ¬ (b - o = 1 ∨ b - o = -1) := fun v => z1 ⟨w, v⟩
        simp [w1, w2]
      · simp
theorem row_mem {a : Air} (h : a.Ok) {t : List Int} {i : Nat} {r : Stn} (hr : r.Ok) {p : Rw} (hp : p ∈ rowsL a t i r) : RwOk p ∧ p.2.2 ∣ a.lk * prodI (sprs a.ss r) ∧ p.1 < a.ss.length := by
  unfold rowsL at hp
  obtain ⟨x, hx, hp⟩ := List.mem_flatMap.mp hp
  have hx2 := zipIdx_mem hx
  have hs := h.ss.all x.1 (List.mem_of_getElem? hx2)
  have sp := spr_pos hs hr
  have dv : spr x.1 r ∣ prodI (sprs a.ss r) := prodI_dvd (List.mem_map.mpr ⟨x.1, List.mem_of_getElem? hx2, rfl⟩)
  have lk := h.lk
  have pw := hs.pw
  have hl := (List.getElem?_eq_some_iff.mp hx2).1
  unfold rowAt at hp
  split at hp
  · split at hp
    · rw [List.mem_singleton] at hp; subst hp
      exact ⟨⟨pw, sp.1, by show spr x.1 r ≤ _; omega⟩, Int.dvd_mul_of_dvd_right dv, hl⟩
    · split at hp
      · rw [List.mem_singleton] at hp; subst hp
        refine ⟨⟨pw, ?_, ?_⟩, ?_, hl⟩
        · show 1 ≤ spr x.1 r * a.lk
          have := Int.mul_le_mul sp.1 lk.1 (by decide) (by omega)
          omega
        · show spr x.1 r * a.lk ≤ _
          have := Int.mul_le_mul sp.2 lk.2 (by omega) (by decide)
          omega
        · show spr x.1 r * a.lk ∣ _
          rw [Int.mul_comm]
          exact Int.mul_dvd_mul_left _ dv
      · cases hp
  · cases hp
theorem heard_rows {a : Air} (h : a.Ok) {t : List Int} (ht : t.length = a.ss.length) (hb : ∀ b ∈ t, 0 ≤ b ∧ b ≤ 9) {i : Nat} {r : Stn} (e : a.ss[i]? = some r) (hi : 0 < t.getD i 0) :
    heardB a t i r = decide (r.nd * sumI (rowsL a t i r) * spr r r ≤ r.pw * botI (rowsL a t i r)) := by
  have hr := h.ss.all r (List.mem_of_getElem? e)
  have sp := spr_pos hr hr
  have hp : ∀ p ∈ rowsL a t i r, RwOk p ∧ p.2.2 ∣ a.lk * prodI (sprs a.ss r) ∧ p.1 < a.ss.length := fun p => row_mem h hr
  have lk := h.lk
  have P1 : 1 ≤ prodI (sprs a.ss r) := prodI_pos fun x hx => ((sprs_ok h.ss hr).1 x hx).1
  have dv : spr r r ∣ prodI (sprs a.ss r) := prodI_dvd (List.mem_map.mpr ⟨r, List.mem_of_getElem? e, rfl⟩)
  have M1 : 0 < a.lk * prodI (sprs a.ss r) := Int.mul_pos (by omega) (by omega)
  have B1 : 1 ≤ botI (rowsL a t i r) := prodI_pos fun x hx => by
    obtain ⟨p, q, rfl⟩ := List.mem_map.mp hx
    exact (hp p q).1.b.1
  have c := cross (rows := rowsL a t i r) (nd := r.nd) (pw := r.pw) (S := spr r r) (by omega) M1 (by omega : 0 < botI (rowsL a t i r)) (Int.dvd_mul_of_dvd_right dv) (fun p q => (hp p q).2.1) (fun p q => bot_dvd q)
  unfold heardB
  rw [dis_rows h ht hb hr hi, sum_fm]
  have o : ownI a r = r.pw * (a.lk * prodI (sprs a.ss r) / spr r r) := by
    unfold ownI shareI
    rw [Int.mul_ediv_assoc _ dv]
    grind
  have nz : decide (t.getD i 0 ≠ 0) = true := decide_eq_true (fun z => by omega)
  rw [o, nz, Bool.true_and]
  exact decide_eq_decide.mpr c
end
end EL
set_option Elab.async false
set_option linter.all false
set_option maxRecDepth 100000
set_option maxHeartbeats 1000000
namespace EL
open PySem PySem.Spec PyProof.Rows L2 GxR LG FW
section
variable {st : Sto}
theorem cut_one {ds : List D} : cutD ds (some 1) none = ds.drop 1 := by
  unfold cutD
  have e1 : HT.sIx ds.length 0 (some 1) = min 1 ds.length := HT.sIx_nat _ _ 1
  rw [e1]
  show List.take (ds.length - _) _ = _
  cases ds with
  | nil => rfl
  | cons x r => simp
def sendB (t : List Int) (r : Stn) (x : Stn × Nat) : Bool := decide (t.getD x.2 0 ≠ 0) && decide (x.1.nm ≠ r.nm)
def sendL (a : Air) (t : List Int) (r : Stn) : List Str := (a.ss.zipIdx.filter (sendB t r)).map fun x => x.1.nm
theorem zip_ss {ss : List Stn} {t : List Int} (ht : t.length = ss.length) : List.zipWith (fun x y => D.tup [x, y]) (ss.map Stn.d) (t.map D.int) = ss.zipIdx.map fun x => D.tup [x.1.d, .int (t.getD x.2 0)] := by
  apply List.ext_getElem?
  intro j
  rw [List.getElem?_zipWith, List.getElem?_map, List.getElem?_map, List.getElem?_map, List.getElem?_zipIdx]
  by_cases hl : j < ss.length
  · have : j < t.length := by omega
    simp [hl, this]
  · have h1 : ss[j]? = none := by simp; omega
    simp [h1]
theorem ss_len {a : Air} (h : a.Ok) (f : Stn × Nat → Bool) : (a.ss.zipIdx.filter f).length ≤ 8 := by
  have h1 := List.length_filter_le f a.ss.zipIdx
  have h2 := h.ss.len.2
  rw [List.length_zipIdx] at h1
  omega
theorem nm_ok {s : Stn} (h : s.Ok) : PyData.strOk s.nm = true := str_okB _ h.nm
end
end EL
set_option Elab.async false
set_option linter.all false
set_option maxRecDepth 100000
set_option maxHeartbeats 1000000
namespace EL
open PySem PySem.Spec PyProof.Rows L2 GxR LG FW
section
variable {st : Sto}
def silT (a : Air) (t : List Int) (xs : List Str) : List Int := a.ss.zipIdx.map fun x => if x.1.nm ∈ xs then 0 else t.getD x.2 0
theorem sil_len {a : Air} {t : List Int} {xs : List Str} : (silT a t xs).length = a.ss.length := by simp [silT]
theorem sil_at {a : Air} {t : List Int} {xs : List Str} {j : Nat} {s : Stn} (e : a.ss[j]? = some s) : (silT a t xs).getD j 0 = if s.nm ∈ xs then 0 else t.getD j 0 := by
  unfold silT
  rw [List.getD_eq_getElem?_getD, List.getElem?_map, List.getElem?_zipIdx, e]
  simp
theorem sil_ok {a : Air} {t : List Int} {xs : List Str} (hb : ∀ b ∈ t, 0 ≤ b ∧ b ≤ 9) : ∀ b ∈ silT a t xs, 0 ≤ b ∧ b ≤ 9 := by
  intro b h
  obtain ⟨x, hx, rfl⟩ := List.mem_map.mp h
  split
  · omega
  · exact t_bound hb x.2
theorem okB_up : ∀ {n m : Nat} {d : D}, okB n d = true → n ≤ m → okB m d = true := by
  have key : ∀ n, (∀ {m : Nat} {d : D}, okB n d = true → n ≤ m → okB m d = true) ∧ (∀ {m : Nat} {ds : List D}, okBs n ds = true → n ≤ m → okBs m ds = true) := by
    intro n
    induction n with
    | zero =>
      have one : ∀ {m : Nat} {d : D}, okB 0 d = true → 0 ≤ m → okB m d = true := by
        intro m d h _
        cases d <;> first | (cases h; done) | (cases m <;> exact h)
      refine ⟨one, ?_⟩
      intro m ds
      induction ds with
      | nil => intro _ _; cases m <;> rfl
      | cons d ds ih =>
        intro h hm
        unfold okBs at h ⊢
        rw [Bool.and_eq_true] at h ⊢
        exact ⟨one h.1 hm, ih h.2 hm⟩
    | succ n ih =>
      have one : ∀ {m : Nat} {d : D}, okB (n + 1) d = true → n + 1 ≤ m → okB m d = true := by
        intro m d h hm
        obtain ⟨k, rfl⟩ : ∃ k, m = k + 1 := ⟨m - 1, by omega⟩
        cases d with
        | tup ds => unfold okB at h ⊢; exact ih.2 h (by omega)
        | lst ds => unfold okB at h ⊢; exact ih.2 h (by omega)
        | _ => first | exact h | cases h
      refine ⟨one, ?_⟩
      intro m ds
      induction ds with
      | nil => intro _ _; cases m <;> rfl
      | cons d ds ih2 =>
        intro h hm
        unfold okBs at h ⊢
        rw [Bool.and_eq_true] at h ⊢
        exact ⟨one h.1 hm, ih2 h.2 hm⟩
  intro n m d h hm
  exact (key n).1 h hm
end
end EL
set_option Elab.async false
set_option linter.all false
set_option maxRecDepth 100000
set_option maxHeartbeats 1000000
namespace EL
open PySem PySem.Spec PyProof.Rows L2 GxR LG FW
section
variable {st : Sto}
theorem rows_len {a : Air} (h : a.Ok) {t : List Int} {i : Nat} {r : Stn} : (rowsL a t i r).length ≤ 8 := by
  have h1 := flat_le (row_one a t i r) a.ss.zipIdx
  have h2 := h.ss.len.2
  rw [List.length_zipIdx] at h1
  unfold rowsL
  omega
theorem range_gen {fr : FA} {ρ : Rho} {j : Int} {st1 : Sto} (e : fr ρ st = some ([.int j], st1)) : iRange1 fr ρ st = if -(2 ^ 62) ≤ j ∧ j < 2 ^ 62 then some (rangeD 0 j.toNat, [], st1) else none := by
  unfold iRange1
  rw [e]
  rfl
theorem small_n {n : Nat} (hn : n ≤ 1000) : -(2 ^ 62 : Int) ≤ (n : Int) ∧ (n : Int) < 2 ^ 62 :=
  ⟨Int.le_trans (by decide) (Int.natCast_nonneg n), Int.lt_of_le_of_lt (by omega : (n : Int) ≤ 1000) (by decide)⟩
theorem range_ok {fr : FA} {ρ : Rho} {n : Nat} {st1 : Sto} (e : fr ρ st = some ([.int (n : Nat)], st1)) (hn : n ≤ 1000) : iRange1 fr ρ st = some (rangeD 0 n, [], st1) := by
  rw [range_gen e, if_pos (small_n hn), Int.toNat_natCast]
theorem range_len {ρ : Rho} {j : Nat} {t : List Int} (hj : ρ[j]? = some (some (tun t))) (hn : t.length ≤ 1000) : iRange1 (fCons (fCall lenD (fCons (fV j) fNil)) fNil) ρ st = some (rangeD 0 t.length, [], st) := by
  refine range_ok ?_ hn
  have : lenD [tun t] st = some (.int (t.length : Nat), st) := by unfold tun; rw [e_lenT, List.length_map]
  simp only [e_cons, e_call, e_V, e_nil, hj, Option.bind_some, this]
end
end EL
set_option Elab.async false
set_option linter.all false
set_option maxRecDepth 100000
set_option maxHeartbeats 1000000
namespace EL
open PySem PySem.Spec PyProof.Rows L2 GxR LG FW
section
variable {st : Sto}
theorem cut_from {ds : List D} {n : Nat} : cutD ds (some ((n : Nat) : Int)) none = ds.drop n := by
  unfold cutD
  have e1 : HT.sIx ds.length 0 (some ((n : Nat) : Int)) = min n ds.length := HT.sIx_nat _ _ n
  rw [e1]
  show List.take (ds.length - _) _ = _
  by_cases hn : n ≤ ds.length
  · rw [Nat.min_eq_left hn]
    exact List.take_of_length_le (by simp)
  · rw [Nat.min_eq_right (by omega)]
    rw [List.drop_of_length_le (by omega), List.drop_of_length_le (by omega)]
    simp
end
end EL
set_option Elab.async false
set_option linter.all false
set_option maxRecDepth 100000
set_option maxHeartbeats 1000000
namespace EL
open PySem PySem.Spec PyProof.Rows L2 GxR LG FW
section
variable {st : Sto}
theorem fn_ok {n : Nat} {hA : HA} {fr : FA} {ρ : Rho} {ds : List D} {d : D} {st1 st2 : Sto} (h1 : fr ρ st = some (ds, st1)) (h2 : ds.length = n) (h3 : hA ds st1 = some (d, st2)) : fFn n hA fr ρ st = some (d, st2) := by
  rw [e_fn, h1]
  simp only [Option.bind_some]
  rw [if_pos h2, h3]
theorem ret_ok {f : FE} {ρ : Rho} {d : D} {st1 : Sto} (h : f ρ st = some (d, st1)) : sRet f ρ st = some (.rt d, ρ, st1) := by rw [e_ret, h]; rfl
theorem run_ok {N : Nat} {sb : FS} {ds : List D} {ρ' : Rho} {d : D} {st1 : Sto} (h : sb (ds.map some ++ List.replicate (N - ds.length) none) st = some (.rt d, ρ', st1)) : runD N sb ds st = some (d, st1) := by
  rw [e_run, h]; rfl
noncomputable def bodyI : FS := (sIf (fTst (fFn 3 fn_is_heard (fCons (fV 0) (fCons (fFn 3 fn_silenced (fCons (fV 0) (fCons (fV 1) (fCons (fV 5) fNil)))) (fCons (fV 2) fNil))))) (sRet (fV 5)) sNext)
end
end EL
set_option Elab.async false
set_option linter.all false
set_option maxRecDepth 100000
set_option maxHeartbeats 1000000
namespace EL
open PySem PySem.Spec PyProof.Rows L2 GxR LG FW
def SO (B : Nat) (x : Str) : Prop := x.length ≤ B ∧ ∀ c ∈ x.cps.toList, c < 128
/-- data of depth n, g times spoilt -/
def Dv (g : Nat) : Nat → D → Prop
  | _, .non => True
  | _, .bl _ => True
  | _, .int i => i.natAbs ≤ 10 ^ 30 + 2000 * g
  | _, .str x => SO (300 * 4 ^ g) x
  | n + 1, .tup ds => ds.length ≤ 20 + g ∧ ∀ d ∈ ds, Dv g n d
  | n + 1, .lst ds => ds.length ≤ 20 + g ∧ ∀ d ∈ ds, Dv g n d
  | _, _ => False
section
variable {g g' n m : Nat} {d : D} {lb : Nat} {st : Sto}
theorem SO.up {A B : Nat} {x : Str} (h : SO A x) (hab : A ≤ B) : SO B x := ⟨Nat.le_trans h.1 hab, h.2⟩
theorem Dv.up (h : Dv g n d) (hg : g ≤ g') (hn : n ≤ m) : Dv g' m d := by
  induction n generalizing m d with
  | zero =>
    cases d with
    | int i => cases m <;> (simp only [Dv] at h ⊢; omega)
    | str x => cases m <;> (simp only [Dv] at h ⊢; exact h.up (Nat.mul_le_mul_left _ (Nat.pow_le_pow_right (by decide) hg)))
    | non => cases m <;> simp [Dv]
    | bl b => cases m <;> simp [Dv]
    | _ => simp [Dv] at h
  | succ n ih =>
    obtain ⟨k, rfl⟩ : ∃ k, m = k + 1 := ⟨m - 1, by omega⟩
    cases d with
    | int i => simp only [Dv] at h ⊢; omega
    | str x => simp only [Dv] at h ⊢; exact h.up (Nat.mul_le_mul_left _ (Nat.pow_le_pow_right (by decide) hg))
    | non => simp [Dv]
    | bl b => simp [Dv]
    | tup ds => simp only [Dv] at h ⊢; exact ⟨by omega, fun x hx => ih (h.2 x hx) (by omega)⟩
    | lst ds => simp only [Dv] at h ⊢; exact ⟨by omega, fun x hx => ih (h.2 x hx) (by omega)⟩
    | _ => simp [Dv] at h
theorem Dv.pure (h : Dv g n d) : pureB d = true := by
  induction n generalizing d with
  | zero => cases d <;> first | rfl | (simp [Dv] at h)
  | succ n ih =>
    have all : ∀ ds : List D, (∀ x ∈ ds, Dv g n x) → pureL ds = true := by
      intro ds
      induction ds with
      | nil => intro _; rfl
      | cons x ds ih2 =>
        intro hx
        unfold pureL
        rw [ih (hx x List.mem_cons_self), ih2 fun y hy => hx y (List.mem_cons_of_mem _ hy)]
        rfl
    cases d with
    | tup ds => simp only [Dv] at h; unfold pureB; exact all ds h.2
    | lst ds => simp only [Dv] at h; unfold pureB; exact all ds h.2
    | _ => first | rfl | (simp [Dv] at h)
def bS (x : Str) : Bool := decide (x.length ≤ 300) && x.cps.toList.all (fun c => decide (c < 128))
def dvB : Nat → D → Bool
  | _, .non => true
  | _, .bl _ => true
  | _, .int i => decide (i.natAbs ≤ 10 ^ 30)
  | _, .str x => bS x
  | n + 1, .tup ds => decide (ds.length ≤ 20) && ds.all (dvB n)
  | n + 1, .lst ds => decide (ds.length ≤ 20) && ds.all (dvB n)
  | _, _ => false
theorem SO.of {x : Str} (h : bS x = true) : SO 300 x := by
  unfold bS at h
  simp only [Bool.and_eq_true, decide_eq_true_eq, List.all_eq_true] at h
  exact h
theorem Dv.by : ∀ {n : Nat} {d : D}, dvB n d = true → Dv 0 n d := by
  intro n
  induction n with
  | zero =>
    intro d h
    cases d with
    | int i => simp only [dvB, decide_eq_true_eq] at h; simp only [Dv]; omega
    | str x => simp only [dvB] at h; simp only [Dv]; exact (SO.of h).up (by omega)
    | non => simp [Dv]
    | bl b => simp [Dv]
    | _ => simp [dvB] at h
  | succ n ih =>
    intro d h
    cases d with
    | int i => simp only [dvB, decide_eq_true_eq] at h; simp only [Dv]; omega
    | str x => simp only [dvB] at h; simp only [Dv]; exact (SO.of h).up (by omega)
    | non => simp [Dv]
    | bl b => simp [Dv]
    | tup ds => simp only [dvB, Bool.and_eq_true, decide_eq_true_eq, List.all_eq_true] at h; simp only [Dv]; exact ⟨by omega, fun x hx => ih (h.2 x hx)⟩
    | lst ds => simp only [dvB, Bool.and_eq_true, decide_eq_true_eq, List.all_eq_true] at h; simp only [Dv]; exact ⟨by omega, fun x hx => ih (h.2 x hx)⟩
    | _ => simp [dvB] at h
end
end EL
set_option Elab.async false
set_option linter.all false
set_option maxRecDepth 100000
set_option maxHeartbeats 1000000
namespace EL
open PySem PySem.Spec PyProof.Rows L2 GxR LG FW
section
variable {lb : Nat} {st s : Sto} {P : D → Prop} {d : D} {g n : Nat}
/-- what a def may give back: data, or the list that it has made first -/
def Gv (lb : Nat) (st : Sto) (P : D → Prop) (x : D) (s : Sto) : Prop :=
  (∃ s2 more, s = s2 ++ more ∧ Go lb st s2) ∧ ((pureB x = true ∧ P x) ∨ ∃ es, x = .ref st.length ∧ s[st.length]? = some (.lst es) ∧ pureL es = true ∧ P (.lst es))
/-- the rows as they stand in the variable -/
def Rv (lb : Nat) (st : Sto) (x : D) (es : List D) (s : Sto) : Prop := (x = .ref st.length ∧ Acc lb st es s) ∨ (x = .lst es ∧ ∃ s2 more, s = s2 ++ more ∧ Go lb st s2)
theorem Rv.pre {x : D} {es : List D} (h : Rv lb st x es s) : ∃ s2 more, s = s2 ++ more ∧ Go lb st s2 := by
  rcases h with ⟨_, s0, g0, rfl⟩ | ⟨_, h⟩
  · exact ⟨s0, _, rfl, g0⟩
  · exact h
theorem Rv.listOf {x : D} {es : List D} (h : Rv lb st x es s) : listOf x s = some es := by
  rcases h with ⟨rfl, a⟩ | ⟨rfl, h⟩
  · exact e_listOfR a.at
  · rfl
theorem Rv.tuple {x : D} {es : List D} (h : Rv lb st x es s) : tupleD [x] s = some (.tup es, s) := by
  have q := h.listOf
  rcases h with ⟨rfl, a⟩ | ⟨rfl, h⟩
  · unfold tupleD; simp only [q, Option.map_some]
  · rfl
theorem Dv.tupL {es : List D} (h1 : es.length ≤ 20 + g) (h2 : ∀ e ∈ es, Dv g n e) : Dv g (n + 1) (.tup es) ∧ Dv g (n + 1) (.lst es) := by
  simp only [Dv]; exact ⟨⟨h1, h2⟩, h1, h2⟩
theorem Dv.pureL {es : List D} (h2 : ∀ e ∈ es, Dv g n e) : EL.pureL es = true := by
  induction es with
  | nil => rfl
  | cons x es ih =>
    unfold EL.pureL
    rw [(h2 x List.mem_cons_self).pure, ih fun y hy => h2 y (List.mem_cons_of_mem _ hy)]
    rfl
theorem Rv.gv {x : D} {es : List D} (h : Rv lb st x es s) (h1 : es.length ≤ 20 + g) (h2 : ∀ e ∈ es, Dv g n e) : Gv lb st (Dv g (n + 1)) x s := by
  refine ⟨h.pre, ?_⟩
  have q := Dv.tupL h1 h2
  rcases h with ⟨rfl, a⟩ | ⟨rfl, h⟩
  · exact .inr ⟨es, rfl, a.at, Dv.pureL h2, q.2⟩
  · exact .inl ⟨q.2.pure, q.2⟩
end
end EL
set_option Elab.async false
set_option linter.all false
set_option maxRecDepth 100000
set_option maxHeartbeats 1000000
namespace EL
open PySem PySem.Spec PyProof.Rows L2 GxR LG FW
end EL
set_option Elab.async false
set_option linter.all false
set_option maxRecDepth 100000
set_option maxHeartbeats 1000000
namespace EL
open PySem PySem.Spec PyProof.Rows L2 GxR LG FW
section
variable {lb : Nat} {st s : Sto} {d : D} {g n : Nat} {rec : HA}
theorem SO.app {A B : Nat} {x y : Str} (h1 : SO A x) (h2 : SO B y) : SO (A + B) (x ++ y) := ⟨by rw [Str.length_append]; exact Nat.add_le_add h1.1 h2.1, fun c hc => by
  rw [Str.cps_append, Array.toList_append] at hc
  rcases List.mem_append.mp hc with z | z
  · exact h1.2 c z
  · exact h2.2 c z⟩
theorem SO.cut {B : Nat} {x : Str} {lo hi : Option Int} (h : SO B x) : SO B (cutS x lo hi) := by
  refine ⟨Nat.le_trans ?_ h.1, fun c hc => h.2 c (List.mem_of_mem_drop (List.mem_of_mem_take (by simpa [cutS] using hc)))⟩
  show (cutS x lo hi).cps.size ≤ x.cps.size
  unfold cutS
  simp
  omega
theorem upper_ascii : ∀ c, c < 128 → ∀ e ∈ Unicode.upperOf c, e < 128 := by
  have : (List.range 128).all (fun c => (Unicode.upperOf c).all fun e => decide (e < 128)) = true := by decide +kernel
  intro c hc e he
  have h := List.all_eq_true.mp this c (List.mem_range.mpr hc)
  exact of_decide_eq_true (List.all_eq_true.mp h e he)
theorem SO.upper {B : Nat} {x : Str} (h : SO B x) : SO (3 * B) (Txt.upper x) := by
  refine ⟨Nat.le_trans (len_upper x) (Nat.mul_le_mul_left _ h.1), fun c hc => ?_⟩
  have hc : c ∈ (x.cps.mapIdx fun _ c => (Unicode.upperOf c).toArray).flatten.toList := hc
  rw [Array.mem_toList_iff, Array.mem_flatten] at hc
  obtain ⟨a, ha, hc⟩ := hc
  obtain ⟨i, hi, e⟩ := Array.mem_mapIdx.mp ha
  subst e
  exact upper_ascii x.cps[i] (h.2 _ (by simp)) c (by simpa using hc)
end
end EL
set_option Elab.async false
set_option linter.all false
set_option maxRecDepth 100000
set_option maxHeartbeats 1000000
namespace EL
open PySem PySem.Spec PyProof.Rows L2 GxR LG FW
end EL
set_option Elab.async false
set_option linter.all false
set_option maxRecDepth 100000
set_option maxHeartbeats 1000000
namespace EL
open PySem PySem.Spec PyProof.Rows L2 GxR LG FW
end EL
set_option Elab.async false
set_option linter.all false
set_option maxRecDepth 100000
set_option maxHeartbeats 1000000
namespace EL
open PySem PySem.Spec PyProof.Rows L2 GxR LG FW
section
variable {lb : Nat} {st s : Sto} {d : D} {g n : Nat}
theorem SO.ok {B : Nat} {x : Str} (h : SO B x) : PyData.strOk x = true := by
  simp only [PyData.strOk, Array.all_eq_true, decide_eq_true_eq]
  intro i hi
  have := h.2 x.cps[i] (by simp)
  exact Nat.lt_trans this (by decide)
theorem okBs_of {m : Nat} : ∀ {ds : List D}, (∀ d ∈ ds, okB m d = true) → okBs m ds = true
  | [], _ => by unfold okBs; rfl
  | d :: ds, h => by
    unfold okBs
    rw [h d List.mem_cons_self, okBs_of fun x hx => h x (List.mem_cons_of_mem _ hx)]
    rfl
theorem Dv.ok (h : Dv g n d) : okB n d = true := by
  induction n generalizing d with
  | zero =>
    cases d with
    | str x => simp only [Dv] at h; unfold okB; exact h.ok
    | _ => first | (unfold okB; rfl) | (simp [Dv] at h)
  | succ n ih =>
    cases d with
    | str x => simp only [Dv] at h; unfold okB; exact h.ok
    | tup ds => simp only [Dv] at h; unfold okB; exact okBs_of fun x hx => ih (h.2 x hx)
    | lst ds => simp only [Dv] at h; unfold okB; exact okBs_of fun x hx => ih (h.2 x hx)
    | _ => first | (unfold okB; rfl) | (simp [Dv] at h)
theorem log2_mid {i : Int} (h0 : 0 ≤ i) (h1 : i < 1000000000000000000) : i.natAbs.log2 < 64 := by
  by_cases hz : i.natAbs = 0
  · rw [hz]; decide
  · exact (Nat.log2_lt hz).mpr (by omega)
theorem bag_new {x y : Int} (hx : 0 ≤ x) (hy : 0 ≤ y) (hz : y < 2147483648) : Bg st.length (st ++ [.lst [.int x, .int y]]) := ⟨x, y, at_new, hx, hy, hz⟩
theorem bag_spec {k : Int} {ns : List Int} (k0 : 0 ≤ k) (k1 : k ≤ 63) : Ok (fn__law_bag [.scr ns, .int k] st) fun p => p.1 = .ref st.length ∧ ∃ o, p.2 = st ++ [o] ∧ Bg st.length p.2 := by
  unfold fn__law_bag sb__law_bag
  have tl : ∀ {c : Int}, 0 ≤ c → Ok (sSeq (sIf (fTst (fOp ltD (fV 2) (fOp powD (fC (.int 10)) (fC (.int 18))))) (sRet (fLst (fCons (fC (.int 0)) (fCons (fOp addD (fC (.int 1)) (fOp modD (fOp addD (fOp mulD (fV 2) (fC (.int 7919))) (fOp mulD (fC (.int 104729)) (fV 1))) (fC (.int 2147483646)))) fNil)))) sNext)
    (sRet (fLst (fCons (fV 2) (fCons (fOp addD (fC (.int 1)) (fOp modD (fOp addD (fV 2) (fV 1)) (fC (.int 2147483646)))) fNil)))) [some (.scr ns), some (.int k), some (.int c)] st) fun p => ∃ x, p.1 = .rt x ∧ (x = .ref st.length ∧ ∃ o, p.2.2 = st ++ [o] ∧ Bg st.length p.2.2) := fun {c} hc => by
    have l2 : (2 : Nat) ≤ sizeLine := by rw [sizeLine_eq]; decide
    by_cases hs : c < 1000000000000000000
    · have q := log2_mid hc hs
      have w1 : Nat.log2 7919 < 64 := by decide
      have w2 : Nat.log2 104729 < 64 := by decide
      have w3 := log2_small (i := k) k0 (by omega)
      have m1 : c.natAbs.log2 + Nat.log2 7919 < 1000000 := by omega
      have m2 : Nat.log2 104729 + k.natAbs.log2 < 1000000 := by omega
      have r1 := Int.emod_nonneg (c * 7919 + 104729 * k) (show (2147483646 : Int) ≠ 0 by decide)
      have r2 := Int.emod_lt_of_pos (c * 7919 + 104729 * k) (show (0 : Int) < 2147483646 by decide)
      refine ⟨(.rt (.ref st.length), [some (.scr ns), some (.int k), some (.int c)], st ++ [.lst [.int 0, .int (1 + (c * 7919 + 104729 * k) % 2147483646)]]), ?_, _, rfl, rfl, _, rfl, bag_new (by decide) (by omega) (by omega)⟩
      simp [hs, m1, m2, l2]
    · have r1 := Int.emod_nonneg (c + k) (show (2147483646 : Int) ≠ 0 by decide)
      have r2 := Int.emod_lt_of_pos (c + k) (show (0 : Int) < 2147483646 by decide)
      refine ⟨(.rt (.ref st.length), [some (.scr ns), some (.int k), some (.int c)], st ++ [.lst [.int c, .int (1 + (c + k) % 2147483646)]]), ?_, _, rfl, rfl, _, rfl, bag_new hc (by omega) (by omega)⟩
      simp [hs, l2]
  refine ok_run ?_
  have ls : lenD [.scr ns] st = some (.int ns.length, st) := rfl
  by_cases hk : k < ns.length
  · obtain ⟨z, a1, _, _⟩ := atI_lt (l := ns) k0 hk
    have ix : ixD (.scr ns) (.int k) st = some (.int z, st) := by
      show Option.map _ (atI ns k) = _
      rw [a1]; rfl
    refine Ok.eq (tl (c := if z < 0 then -z else z) (by split <;> omega)) ?_
    have ab : absD [.int z] st = some (.int (if z < 0 then -z else z), st) := rfl
    generalize (if z < 0 then -z else z) = c at ab
    simp only [List.map_cons, List.map_nil, List.length_cons, List.length_nil, List.cons_append, List.nil_append]
    rw [seq_nx (ρ1 := [some (.scr ns), some (.int k), some (.int 0)]) (st1 := st) rfl, seq_nx (ρ1 := [some (.scr ns), some (.int k), some (.int c)]) (st1 := st) (by simp [ls, hk, ix, ab])]
  · refine Ok.eq (tl (c := 0) (by decide)) ?_
    simp only [List.map_cons, List.map_nil, List.length_cons, List.length_nil, List.cons_append, List.nil_append]
    rw [seq_nx (ρ1 := [some (.scr ns), some (.int k), some (.int 0)]) (st1 := st) rfl, seq_nx (ρ1 := [some (.scr ns), some (.int k), some (.int 0)]) (st1 := st) (by simp [ls, hk])]
def nmD (a : Air) : List D := a.ss.map fun o => .str o.nm
theorem nmD_len {a : Air} (h : a.Ok) : (nmD a).length ≤ 8 := by unfold nmD; rw [List.length_map]; exact h.ss.len.2
theorem names_eq {a : Air} (h : a.Ok) : fn__law_names [a.d] st = some (.lst (nmD a), st) := by
  unfold fn__law_names
  refine seal_same ?_ (by show pureL _ = true; exact pureL_map (fun _ => rfl) _)
  refine run_ok (ρ' := [some a.d, none]) (ret_ok ?_)
  simp only [List.map_cons, List.map_nil, List.length_cons, List.length_nil, List.replicate, List.cons_append, List.nil_append]
  refine lcz_ok (items := a.ss.map Stn.d) (src := []) (st1 := st) rfl ?_ (by have := nmD_len h; omega)
  have := lcE (tg := .one 1) (tt := fYes) (fe := fOp ixD (fV 1) (fC (.int 0))) (src := []) (ρ := [some a.d, none]) (st := st) (enc := Stn.d) (b := fun _ => true) (w := fun o : Stn => D.str o.nm) (l := a.ss) Intact.nil fun o ho => ⟨[some a.d, some o.d], rfl, rfl, fun _ => rfl⟩
  have w : wipeD [some a.d, none] [1] = [some a.d, none] := rfl
  have f : ∀ l : List Stn, l.filter (fun _ => true) = l := fun l => List.filter_eq_self.mpr fun _ _ => rfl
  rw [f] at this
  rw [w]
  exact this
end
end EL
set_option Elab.async false
set_option linter.all false
set_option maxRecDepth 100000
set_option maxHeartbeats 1000000
namespace EL
open PySem PySem.Spec PyProof.Rows L2 GxR LG FW
section
variable {st : Sto}
def fr (t b : Int) : Int × Int := (t / (Int.gcd t b : Int), b / (Int.gcd t b : Int))
end
end EL
set_option Elab.async false
set_option linter.all false
set_option maxRecDepth 100000
set_option maxHeartbeats 1000000
namespace EL
open PySem PySem.Spec PyProof.Rows L2 GxR LG FW
section
variable {st : Sto}
theorem op_ok {h : D → D → Sto → Option (D × Sto)} {fa fb : FE} {ρ : Rho} {d e : D} {st1 st2 : Sto} {z : D × Sto} (h1 : fa ρ st = some (d, st1)) (h2 : fb ρ st1 = some (e, st2)) (h3 : h d e st2 = some z) : fOp h fa fb ρ st = some z := by
  rw [e_op, h1]
  simp only [Option.bind_some, h2, h3]
theorem for_at {fi : FI} {tg : Tg} {b : FS} {ρ : Rho} {items : List D} {src : Src} {st1 : Sto} {z : Fl × Rho × Sto} (h1 : fi ρ st = some (items, src, st1)) (h2 : forD tg b src items ρ st1 = some z) : sFor fi tg b ρ st = some z := by
  unfold sFor
  rw [h1]
  exact h2
def arr (s r : Stn) (k : Int) : Int × Int := fr s.pw (spr s r * k)
end
end EL
set_option Elab.async false
set_option linter.all false
set_option maxRecDepth 100000
set_option maxHeartbeats 300000
namespace EL
open PySem PySem.Spec PyProof.Rows L2 GxR LG FW
section
variable {st : Sto}
def divI (a : Air) (g : Int) : Int := if g = 0 then 1 else a.lk
def disB (t : List Int) (i : Nat) (r : Stn) (x : Stn × Nat) : Bool := !decide (gapI (t.getD i 0) (t.getD x.2 0) = 2) && !decide (x.1.nm = r.nm)
def disAt (a : Air) (t : List Int) (i : Nat) (r : Stn) (x : Stn × Nat) : List (Str × Int × Int) := if disB t i r x = true then [(x.1.nm, arr x.1 r (divI a (gapI (t.getD i 0) (t.getD x.2 0))))] else []
def disL (a : Air) (t : List Int) (i : Nat) (r : Stn) : List (Str × Int × Int) := a.ss.zipIdx.flatMap (disAt a t i r)
end
end EL
set_option Elab.async false
set_option linter.all false
set_option maxRecDepth 100000
set_option maxHeartbeats 400000
namespace EL
open PySem PySem.Spec PyProof.Rows L2 GxR LG FW
end EL
set_option Elab.async false
set_option linter.all false
set_option maxRecDepth 100000
set_option maxHeartbeats 400000
namespace EL
open PySem PySem.Spec PyProof.Rows L2 GxR LG FW
section
variable {st : Sto} {a : Air} {t t' : List Int} {i : Nat} {r : Stn}
theorem sum_le {α : Type} {f g : α → Int} : ∀ {l : List α}, (∀ x ∈ l, f x ≤ g x) → (l.map f).sum ≤ (l.map g).sum
  | [], _ => by simp
  | x :: l, h => by
    have h1 := h x List.mem_cons_self
    have h2 := sum_le fun y hy => h y (List.mem_cons_of_mem x hy)
    simp only [List.map_cons, List.sum_cons]
    omega
theorem share_nn (h : a.Ok) (hr : r.Ok) {s : Stn} (hs : s.Ok) : 0 ≤ shareI a.ss r s := by
  have P1 : 1 ≤ prodI (sprs a.ss r) := prodI_pos fun x hx => ((sprs_ok h.ss hr).1 x hx).1
  have sp := spr_pos hs hr
  have pw := hs.pw
  exact Int.mul_nonneg (by omega) (Int.ediv_nonneg (by omega) (by omega))
def thr (a : Air) (i : Nat) (r : Stn) (x : Stn × Nat) : Int × Int × Int := if x.2 = i then (0, 0, 0) else (r.nd * a.lk * shareI a.ss r x.1, r.nd * shareI a.ss r x.1, 0)
theorem dis_sum (ht : t.length = a.ss.length) (b : Int) : disI (othL a i r) b t = (a.ss.zipIdx.map fun x => pick3 (thr a i r x) (gapI b (t.getD x.2 0))).sum := by
  unfold disI
  rw [oth_idx, zip_idx _ _ ht]
  rfl
end
end EL
set_option Elab.async false
set_option linter.all false
set_option maxRecDepth 100000
set_option maxHeartbeats 400000
namespace EL
open PySem PySem.Spec PyProof.Rows L2 GxR LG FW
end EL
set_option Elab.async false
set_option linter.all false
set_option maxRecDepth 100000
set_option maxHeartbeats 400000
namespace EL
open PySem PySem.Spec PyProof.Rows L2 GxR LG FW
end EL
set_option Elab.async false
set_option linter.all false
set_option maxRecDepth 100000
set_option maxHeartbeats 400000
namespace EL
open PySem PySem.Spec PyProof.Rows L2 GxR LG FW
end EL
set_option Elab.async false
set_option linter.all false
set_option maxRecDepth 100000
set_option maxHeartbeats 400000
namespace EL
open PySem PySem.Spec PyProof.Rows L2 GxR LG FW
end EL
set_option Elab.async false
set_option linter.all false
set_option maxRecDepth 100000
set_option maxHeartbeats 400000
namespace EL
open PySem PySem.Spec PyProof.Rows L2 GxR LG FW
end EL
set_option Elab.async false
set_option linter.all false
set_option maxRecDepth 100000
set_option maxHeartbeats 400000
namespace EL
open PySem PySem.Spec PyProof.Rows L2 GxR LG FW
section
variable {st s : Sto} {a : Air} {t : List Int} {i : Nat} {r : Stn}
theorem range2_gen {fr : FA} {ρ : Rho} {i j : Int} {st1 : Sto} (e : fr ρ st = some ([.int i, .int j], st1)) : iRange2 fr ρ st = if (-(2 ^ 62) ≤ i ∧ i < 2 ^ 62) ∧ -(2 ^ 62) ≤ j ∧ j < 2 ^ 62 then some (rangeD i (j - i).toNat, [], st1) else none := by
  unfold iRange2
  rw [e]
  rfl
theorem range2_ok {fr : FA} {ρ : Rho} {n : Nat} {st1 : Sto} (e : fr ρ st = some ([.int 1, .int ((n : Int) + 1)], st1)) (hn : n ≤ 900) : iRange2 fr ρ st = some (rangeD 1 n, [], st1) := by
  have c1 : (-(2 ^ 62 : Int) ≤ 1 ∧ (1 : Int) < 2 ^ 62) := ⟨by decide, by decide⟩
  have c2 : -(2 ^ 62 : Int) ≤ (n : Int) + 1 ∧ (n : Int) + 1 < 2 ^ 62 := ⟨Int.le_trans (by decide) (by omega : (0 : Int) ≤ (n : Int) + 1), Int.lt_of_le_of_lt (by omega : (n : Int) + 1 ≤ 1000) (by decide)⟩
  have c3 : ((n : Int) + 1 - 1).toNat = n := by omega
  rw [range2_gen e, if_pos ⟨c1, c2⟩, c3]
def earsL (a : Air) : List D := a.ss.zipIdx.map fun x => earD a x.2 x.1
theorem ears_len : (earsL a).length = a.ss.length := by simp [earsL]
theorem ears_at (e : a.ss[i]? = some r) : ixD (.lst (earsL a)) (.int (i : Nat)) s = some (earD a i r, s) := by
  unfold earsL
  rw [e_ixZ, atI_nat, List.getElem?_map, List.getElem?_zipIdx, e]
  simp
theorem pure_ear : pureB (earD a i r) = true := by
  unfold earD
  simp only [pureB, pureL, Bool.true_and, Bool.and_true]
  exact pureL_map (fun _ => rfl) _
theorem ears_eq (h : a.Ok) : fn_ears_of [a.d] st = some (.lst (earsL a), st) := by
  unfold fn_ears_of
  refine seal_same ?_ (by show pureL _ = true; unfold earsL; exact pureL_map (fun _ => pure_ear) _)
  refine run_ok (ρ' := [some a.d, none]) (ret_ok ?_)
  simp only [List.map_cons, List.map_nil, List.length_cons, List.length_nil, List.replicate, List.cons_append, List.nil_append]
  have l8 := h.ss.len.2
  have i0 : ixD a.d (.int 0) st = some (ssD a.ss, st) := rfl
  have lz : lenD [ssD a.ss] st = some (.int (a.ss.length : Nat), st) := by unfold ssD; rw [e_lenT, List.length_map]
  have rg : iRange1 (fCons (fCall lenD (fCons (fOp ixD (fV 0) (fC (.int 0))) fNil)) fNil) [some a.d, none] st = some (rangeD 0 a.ss.length, [], st) := by
    refine range_ok ?_ (by omega)
    simp only [e_cons, e_call, e_op, e_V, e_C, e_nil, List.getElem?_cons_zero, List.getElem?_cons_succ, Option.bind_some, i0, lz]
  refine lcz_ok rg ?_ (by rw [ears_len]; omega)
  have w : wipeD [some a.d, none] [1] = [some a.d, none] := rfl
  rw [w]
  unfold rangeD
  have m : earsL a = ((List.range a.ss.length).filter fun _ => true).map fun j => ((a.ss[j]?).map (earD a j)).getD .non := by
    rw [List.filter_eq_self.mpr fun _ _ => rfl]
    unfold earsL
    apply List.ext_getElem?
    intro j
    rw [List.getElem?_map, List.getElem?_map, List.getElem?_zipIdx]
    by_cases hl : j < a.ss.length
    · simp [hl]
    · have h1 : a.ss[j]? = none := List.getElem?_eq_none_iff.mpr (by omega)
      have h2 : (List.range a.ss.length)[j]? = none := List.getElem?_eq_none_iff.mpr (by rw [List.length_range]; omega)
      rw [h1, h2]; rfl
  rw [m]
  refine lcE Intact.nil fun j hj => ⟨[some a.d, some (.int (0 + (j : Nat)))], rfl, rfl, fun _ => ?_⟩
  have hj' : j < a.ss.length := List.mem_range.mp hj
  obtain ⟨o, eo⟩ : ∃ o, a.ss[j]? = some o := ⟨_, List.getElem?_eq_getElem hj'⟩
  rw [Int.zero_add, eo]
  exact fn_ok (ds := [a.d, .int (j : Nat)]) (st1 := st) rfl rfl (ear_eq h eo)
/-- whether a station that sends is heard -/
def okAt (a : Air) (t : List Int) (x : Stn × Nat) : Bool := decide (t.getD x.2 0 = 0) || heardB a t x.2 x.1
def allH (a : Air) (t : List Int) : Bool := a.ss.zipIdx.all (okAt a t)
def fuO (a : Air) (t : List Int) : Option Nat := (a.ss.zipIdx.find? fun x => !okAt a t x).map (·.2)
def natO : Option Nat → D
  | none => .non
  | some j => .int (j : Nat)
noncomputable def bodyF : FS := (sIf (fTAnd (fTst (fOp neD (fV 3) (fC (.int 0)))) (fTNot (fTst (fFn 3 fn_hears (fCons (fOp ixD (fV 0) (fV 2)) (fCons (fV 3) (fCons (fV 1) fNil))))))) (sRet (fV 2)) sNext)
theorem tun_enum (ht : t.length = a.ss.length) : enumD (t.map D.int) = a.ss.zipIdx.map fun x => D.tup [.int (x.2 : Nat), .int (t.getD x.2 0)] := by
  unfold enumD
  apply List.ext_getElem?
  intro j
  rw [List.getElem?_mapIdx, List.getElem?_map, List.getElem?_map, List.getElem?_zipIdx]
  by_cases hl : j < a.ss.length
  · have : j < t.length := by omega
    simp [hl, this]
  · have h1 : a.ss[j]? = none := List.getElem?_eq_none_iff.mpr (by omega)
    have h2 : t[j]? = none := List.getElem?_eq_none_iff.mpr (by omega)
    simp [h1, h2]
theorem bodyF_ok (h : a.Ok) (ht : t.length = a.ss.length) {x : Stn × Nat} (hx : x ∈ a.ss.zipIdx) : bodyF [some (.lst (earsL a)), some (tun t), some (.int (x.2 : Nat)), some (.int (t.getD x.2 0))] st = some (if okAt a t x = true then .nx else .rt (.int (x.2 : Nat)), [some (.lst (earsL a)), some (tun t), some (.int (x.2 : Nat)), some (.int (t.getD x.2 0))], st) := by
  have hx2 := zipIdx_mem hx
  have l8 := h.ss.len.2
  have k0 : fCons (fOp ixD (fV 0) (fV 2)) (fCons (fV 3) (fCons (fV 1) fNil)) [some (.lst (earsL a)), some (tun t), some (.int (x.2 : Nat)), some (.int (t.getD x.2 0))] st = some ([earD a x.2 x.1, .int (t.getD x.2 0), tun t], st) := by
    simp only [e_cons, e_op, e_V, e_nil, List.getElem?_cons_zero, List.getElem?_cons_succ, Option.bind_some, ears_at hx2]
  have hq := hears_eq (st := st) (own := ownI a x.1) (band := t.getD x.2 0) (oth := othL a x.2 x.1) (t := t) (by unfold othL; rw [List.length_set, List.length_map]; omega)
  have q := fn_ok (n := 3) k0 rfl hq
  unfold bodyF
  rw [e_if]
  simp only [e_tand, e_tnot, e_tst, q]
  simp only [e_op, e_V, e_C, List.getElem?_cons_zero, List.getElem?_cons_succ, Option.bind_some, e_neI, e_asB]
  unfold okAt heardB
  by_cases z : t.getD x.2 0 = 0
  · simp only [z, decide_true, Bool.not_true, Bool.false_eq_true, if_false, Option.bind_some, e_next, Bool.true_or, if_true]
  · have z2 : decide (t.getD x.2 0 ≠ 0) = true := decide_eq_true z
    rw [decide_eq_false z, z2]
    simp only [Bool.not_false, if_true, q, Option.bind_some, e_asB, Bool.false_or, Bool.true_and]
    cases decide (disI (othL a x.2 x.1) (t.getD x.2 0) t ≤ ownI a x.1) with
    | true => simp only [Bool.not_true, Bool.false_eq_true, if_false, e_next, if_true]
    | false => simp only [Bool.not_false, if_true, Bool.false_eq_true, if_false, e_ret, e_V, List.getElem?_cons_zero, List.getElem?_cons_succ, Option.bind_some]
theorem fu_loop (h : a.Ok) (ht : t.length = a.ss.length) : ∀ {l : List (Stn × Nat)} {x2 x3 : Option D}, (∀ x ∈ l, x ∈ a.ss.zipIdx) →
    ∃ ρ', forD (.many [2, 3]) bodyF [] (l.map fun x => D.tup [.int (x.2 : Nat), .int (t.getD x.2 0)]) [some (.lst (earsL a)), some (tun t), x2, x3] st = some (match l.find? fun x => !okAt a t x with | none => .nx | some x => .rt (.int (x.2 : Nat)), ρ', st)
  | [], x2, x3, _ => ⟨_, by unfold forD; simp only [List.map_nil]; rw [if_pos Intact.nil]; rfl⟩
  | x :: l, x2, x3, hl => by
    have b := bodyF_ok (st := st) h ht (hl x List.mem_cons_self)
    obtain ⟨ρ', e⟩ := fu_loop h ht (l := l) (x2 := some (.int (x.2 : Nat))) (x3 := some (.int (t.getD x.2 0))) fun y hy => hl y (List.mem_cons_of_mem _ hy)
    simp only [List.map_cons]
    cases q : okAt a t x with
    | true =>
      refine ⟨ρ', ?_⟩
      rw [q] at b
      unfold forD
      rw [if_pos Intact.nil]
      simp only [tgD, setM, List.length_cons, List.length_nil, if_true, Option.bind_some, List.set_cons_succ, List.set_cons_zero, b]
      rw [e, List.find?_cons_of_neg (by rw [q]; simp)]
    | false =>
      rw [q] at b
      refine ⟨[some (.lst (earsL a)), some (tun t), some (.int (x.2 : Nat)), some (.int (t.getD x.2 0))], ?_⟩
      unfold forD
      rw [if_pos Intact.nil]
      simp only [tgD, setM, List.length_cons, List.length_nil, if_true, Option.bind_some, List.set_cons_succ, List.set_cons_zero, b, Bool.false_eq_true, if_false]
      rw [List.find?_cons_of_pos (by rw [q]; rfl)]
theorem first_unheard_eq (h : a.Ok) (ht : t.length = a.ss.length) : fn_first_unheard [.lst (earsL a), tun t] st = some (natO (fuO a t), st) := by
  unfold fn_first_unheard
  refine seal_same ?_ (by cases fuO a t <;> rfl)
  obtain ⟨ρ', e⟩ := fu_loop (st := st) h ht (l := a.ss.zipIdx) (x2 := none) (x3 := none) fun x hx => hx
  refine run_ok (ρ' := ρ') ?_
  simp only [List.map_cons, List.map_nil, List.length_cons, List.length_nil, List.replicate, List.cons_append, List.nil_append]
  show sSeq (sFor (EL.iEnum (fCons (fV 1) fNil)) (.many [2, 3]) bodyF) (sRet (fC .non)) _ st = _
  have it : EL.iEnum (fCons (fV 1) fNil) [some (.lst (earsL a)), some (tun t), none, none] st = some (a.ss.zipIdx.map (fun x : Stn × Nat => D.tup [.int (x.2 : Nat), .int (t.getD x.2 0)]), [], st) := by
    rw [← tun_enum ht]
    rfl
  have f := for_at it e
  unfold fuO
  cases q : a.ss.zipIdx.find? fun x => !okAt a t x with
  | none =>
    rw [q] at f
    rw [seq_nx f]
    rfl
  | some x =>
    rw [q] at f
    rw [e_seq, f]
    rfl
theorem fu_none : fuO a t = none ↔ allH a t = true := by
  unfold fuO allH
  rw [Option.map_eq_none_iff, List.find?_eq_none, List.all_eq_true]
  constructor
  · intro h x hx
    have := h x hx
    simpa using this
  · intro h x hx
    rw [h x hx]
    simp
theorem all_heard_eq (h : a.Ok) (ht : t.length = a.ss.length) : fn_all_heard [.lst (earsL a), tun t] st = some (.bl (allH a t), st) := by
  unfold fn_all_heard
  refine seal_same ?_ rfl
  refine run_ok (ρ' := [some (.lst (earsL a)), some (tun t)]) (ret_ok ?_)
  simp only [List.map_cons, List.map_nil, List.length_cons, List.length_nil, List.replicate, List.cons_append, List.nil_append, Nat.zero_add, Nat.sub_self, List.append_nil]
  have q : fFn 2 fn_first_unheard (fCons (fV 0) (fCons (fV 1) fNil)) [some (.lst (earsL a)), some (tun t)] st = some (natO (fuO a t), st) := fn_ok (ds := [.lst (earsL a), tun t]) (st1 := st) rfl rfl (first_unheard_eq h ht)
  have f := fu_none (a := a) (t := t)
  refine op_ok q (e := .non) (st2 := st) rfl ?_
  cases w : fuO a t with
  | none => rw [f.mp w]; rfl
  | some j =>
    have : allH a t = false := by
      cases z : allH a t with
      | false => rfl
      | true => rw [f.mpr z] at w; cases w
    rw [this]; rfl
end
end EL
set_option Elab.async false
set_option linter.all false
set_option maxRecDepth 100000
set_option maxHeartbeats 400000
namespace EL
open PySem PySem.Spec PyProof.Rows L2 GxR LG FW
section
variable {st s : Sto} {a : Air} {t bs : List Int} {i n many : Nat} {r : Stn}
def bgT (n : Nat) (bs : List Int) : List Int := bs ++ List.replicate (n - bs.length) 0
end
end EL
set_option Elab.async false
set_option linter.all false
set_option maxRecDepth 100000
set_option maxHeartbeats 400000
namespace EL
open PySem PySem.Spec PyProof.Rows L2 GxR LG FW
section
variable {st s : Sto} {a : Air} {t bs : List Int} {i n many : Nat} {r : Stn} {c : Int} {f : Stn → Stn}
/-- a moving that keeps what arrives, but for the powers' factor -/
structure Mv (c : Int) (f : Stn → Stn) : Prop where
  c1 : 1 ≤ c
  nm : ∀ s, (f s).nm = s.nm
  pw : ∀ s, (f s).pw = s.pw * c
  nd : ∀ s, (f s).nd = s.nd
  spr : ∀ s r, spr (f s) (f r) = spr s r
end
end EL
namespace EL
open PySem PySem.Spec PyProof.Rows L2 GxR LG FW
end EL
set_option Elab.async false
set_option linter.all false
set_option maxRecDepth 100000
set_option maxHeartbeats 400000
namespace EL
open PySem PySem.Spec PyProof.Rows L2 GxR LG FW
section
variable {st s : Sto} {a : Air} {t bs : List Int} {i n many : Nat} {r : Stn} {lb : Nat}
theorem app_ok {f : FE} {ρ : Rho} {j l : Nat} {acc : List D} {d : D} (hj : ρ[j]? = some (some (.ref l))) (hf : f ρ s = some (d, s)) (hl : s[l]? = some (.lst acc)) (hz : acc.length < 2000) : sExpr (fApp (fV j) f) ρ s = some (.nx, ρ, s.set l (.lst (acc ++ [d]))) := by
  simp only [e_expr, e_app, e_V, hj, Option.bind_some, hf, hl]
  rw [if_pos (by rw [sizeLine_eq]; omega)]
  rfl
theorem set_mid {s0 more : Sto} {o o' : O} : (s0 ++ o :: more).set s0.length o' = s0 ++ o' :: more := by
  rw [List.set_append_right _ _ (Nat.le_refl _), Nat.sub_self]
  rfl
end
end EL
set_option Elab.async false
set_option linter.all false
set_option maxRecDepth 100000
set_option maxHeartbeats 400000
namespace EL
open PySem PySem.Spec PyProof.Rows L2 GxR LG FW
section
variable {st s0 : Sto} {a : Air} {t bs : List Int} {i n many : Nat} {r : Stn} {lb : Nat}
theorem tup2 {f g : FE} {ρ : Rho} {st : Sto} {x y : D} (h1 : f ρ st = some (x, st)) (h2 : g ρ st = some (y, st)) : fTup (fCons f (fCons g fNil)) ρ st = some (.tup [x, y], st) := by
  simp only [e_tup, e_cons, e_nil, h1, h2, Option.bind_some]
  rw [if_pos (by rw [sizeLine_eq]; simp)]
end
end EL
set_option Elab.async false
set_option linter.all false
set_option maxRecDepth 100000
set_option maxHeartbeats 400000
namespace EL
open PySem PySem.Spec PyProof.Rows L2 GxR LG FW
end EL
set_option Elab.async false
set_option linter.all false
set_option maxRecDepth 100000
set_option maxHeartbeats 400000
namespace EL
open PySem PySem.Spec PyProof.Rows L2 GxR LG FW
section
variable {st s0 : Sto} {a : Air} {t bs : List Int} {i n many : Nat} {r : Stn} {lb : Nat} {c k sx sy : Int}
def unhL (a : Air) (t : List Int) : List D := (a.ss.zipIdx.filter fun x => !okAt a t x).map fun x => .str x.1.nm
theorem unheard_eq (h : a.Ok) (ht : t.length = a.ss.length) : fn_unheard [a.d, tun t] st = some (.lst (unhL a t), st) := by
  unfold fn_unheard
  refine seal_same ?_ (by unfold pureB unhL; exact pureL_map (fun _ => rfl) _)
  have w : wipeD [some a.d, some (tun t), some (ssD a.ss), none, none] [3, 4] = [some a.d, some (tun t), some (ssD a.ss), none, none] := rfl
  have L : lcZ (.many [3, 4]) (fTAnd (fTst (fOp neD (fV 4) (fC (.int 0)))) (fTNot (fTst (fFn 3 fn_is_heard (fCons (fV 0) (fCons (fV 1) (fCons (fOp ixD (fV 3) (fC (.int 0))) fNil))))))) (fOp ixD (fV 3) (fC (.int 0))) [] (wipeD [some a.d, some (tun t), some (ssD a.ss), none, none] [3, 4]) (List.zipWith (fun x y => D.tup [x, y]) (a.ss.map Stn.d) (t.map D.int)) st = some (unhL a t, st) := by
    rw [zip_ss ht, w]
    unfold unhL
    refine lcE Intact.nil fun x hx => ⟨[some a.d, some (tun t), some (ssD a.ss), some x.1.d, some (.int (t.getD x.2 0))], rfl, ?_, fun _ => rfl⟩
    have hx2 := zipIdx_mem hx
    have k0 : fCons (fV 0) (fCons (fV 1) (fCons (fOp ixD (fV 3) (fC (.int 0))) fNil)) [some a.d, some (tun t), some (ssD a.ss), some x.1.d, some (.int (t.getD x.2 0))] st = some ([a.d, tun t, .str x.1.nm], st) := rfl
    have q := fn_ok (n := 3) k0 rfl (heard_eq (st := st) h ht hx2)
    simp only [e_tand, e_tnot, e_tst, q]
    simp only [e_op, e_V, e_C, List.getElem?_cons_zero, List.getElem?_cons_succ, Option.bind_some, e_neI, e_asB]
    unfold okAt
    by_cases z : t.getD x.2 0 = 0
    · simp only [z, decide_true, Bool.not_true, Bool.false_eq_true, if_false, Bool.true_or]
    · simp only [z, decide_false, Bool.not_false, if_true, q, Option.bind_some, e_asB, Bool.false_or]
  refine run_ok (ρ' := [some a.d, some (tun t), some (ssD a.ss), none, none]) ?_
  simp only [List.map_cons, List.map_nil, List.length_cons, List.length_nil, List.replicate, List.cons_append, List.nil_append]
  unfold sb_unheard
  rw [seq_nx (ρ1 := [some a.d, some (tun t), some (ssD a.ss), none, none]) (st1 := st) rfl]
  refine ret_ok (lcz_ok (items := List.zipWith (fun x y => D.tup [x, y]) (a.ss.map Stn.d) (t.map D.int)) (src := []) (st1 := st) rfl L ?_)
  unfold unhL
  rw [List.length_map]
  have := ss_len h fun x => !okAt a t x
  omega
end
end EL
set_option Elab.async false
set_option linter.all false
set_option maxRecDepth 100000
set_option maxHeartbeats 400000
namespace EL
open PySem PySem.Spec PyProof.Rows L2 GxR LG FW
section
variable {st : Sto} {a : Air} {t bs : List Int} {i n many : Nat} {r s : Stn}
theorem allG_true {fi : FI} {fe : FE} {cap : List (Option Nat)} {ρ : Rho} {items : List D} (hi : fi ρ st = some (items, [], st)) (hc : capD cap ρ = [none]) (h : ∀ d ∈ items, fe [some d] st = some (.bl true, st)) : fAllG fi (.one 0) fe cap ρ st = some (.bl true, st) := by
  unfold fAllG
  rw [hi]
  simp only [Option.bind_some, hc]
  have A : allD (.one 0) fe [] items [none] st = some (items.all fun _ => true, st) := allD_eq (b := fun _ => true) Intact.nil (I := fun ρ => ∃ p, ρ = [p]) ⟨_, rfl⟩ fun d hd ρ ⟨p, eρ⟩ => by
    subst eρ
    exact ⟨[some d], rfl, ⟨_, rfl⟩, h d hd⟩
  rw [A]
  simp
theorem tuple_of_eq {ds : List D} {k : Int} (h : (ds.length : Int) = k) : fn_is_tuple_of [.tup ds, .int k] st = some (.bl true, st) := by
  unfold fn_is_tuple_of
  refine seal_same ?_ rfl
  refine run_ok (ρ' := [some (.tup ds), some (.int k)]) (ret_ok ?_)
  simp only [List.map_cons, List.map_nil, List.length_cons, List.length_nil, List.replicate, List.cons_append, List.nil_append, Nat.zero_add, Nat.sub_self, List.append_nil]
  have isi : isiD [.tup ds, .ty "tuple"] st = some (.bl true, st) := rfl
  have lz : lenD [.tup ds] st = some (.int (ds.length : Nat), st) := rfl
  simp only [e_and, e_call, e_cons, e_op, e_V, e_C, e_nil, List.getElem?_cons_zero, List.getElem?_cons_succ, Option.bind_some, isi, e_asB, if_true, lz, e_eqI, decide_eq_true h]
theorem number_eq {k : Int} : fn_is_number [.int k] st = some (.bl true, st) := by
  unfold fn_is_number
  refine seal_same ?_ rfl
  refine run_ok (ρ' := [some (.int k)]) (ret_ok ?_)
  rfl
theorem whole_eq {k lo hi : Int} (h1 : lo ≤ k) (h2 : k ≤ hi) : fn_is_whole [.int k, .int lo, .int hi] st = some (.bl true, st) := by
  unfold fn_is_whole
  refine seal_same ?_ rfl
  refine run_ok (ρ' := [some (.int k), some (.int lo), some (.int hi)]) (ret_ok ?_)
  simp only [List.map_cons, List.map_nil, List.length_cons, List.length_nil, List.replicate, List.cons_append, List.nil_append, Nat.zero_add, Nat.sub_self, List.append_nil]
  have q : fFn 1 fn_is_number (fCons (fV 0) fNil) [some (.int k), some (.int lo), some (.int hi)] st = some (.bl true, st) := fn_ok (ds := [.int k]) (st1 := st) rfl rfl number_eq
  have l1 : leD (.int lo) (.int k) st = some (.bl true, st) := by show some (D.bl (decide (lo ≤ k)), st) = _; rw [decide_eq_true h1]
  have l2 : leD (.int k) (.int hi) st = some (.bl true, st) := by show some (D.bl (decide (k ≤ hi)), st) = _; rw [decide_eq_true h2]
  simp only [e_and, q, Option.bind_some, e_asB, if_true, e_chain, e_V, List.getElem?_cons_zero, List.getElem?_cons_succ, l1, l2]
theorem names_of_eq (h : a.Ok) : fn_names_of [ssD a.ss] st = some (.lst (nmD a), st) := by
  unfold fn_names_of
  refine seal_same ?_ (by show pureL _ = true; exact pureL_map (fun _ => rfl) _)
  refine run_ok (ρ' := [some (ssD a.ss), none]) (ret_ok ?_)
  simp only [List.map_cons, List.map_nil, List.length_cons, List.length_nil, List.replicate, List.cons_append, List.nil_append]
  refine lcz_ok (items := a.ss.map Stn.d) (src := []) (st1 := st) rfl ?_ (by have := nmD_len h; omega)
  have := lcE (tg := .one 1) (tt := fYes) (fe := fOp ixD (fV 1) (fC (.int 0))) (src := []) (ρ := [some (ssD a.ss), none]) (st := st) (enc := Stn.d) (b := fun _ => true) (w := fun o : Stn => D.str o.nm) (l := a.ss) Intact.nil fun o ho => ⟨[some (ssD a.ss), some o.d], rfl, rfl, fun _ => rfl⟩
  have w : wipeD [some (ssD a.ss), none] [1] = [some (ssD a.ss), none] := rfl
  have f : ∀ l : List Stn, l.filter (fun _ => true) = l := fun l => List.filter_eq_self.mpr fun _ _ => rfl
  rw [f] at this
  rw [w]
  exact this
end
end EL
set_option Elab.async false
set_option linter.all false
set_option maxRecDepth 100000
set_option maxHeartbeats 400000
namespace EL
open PySem PySem.Spec PyProof.Rows L2 GxR LG FW
section
variable {st : Sto} {a : Air} {t bs : List Int} {i n many : Nat} {r s : Stn} {d : D}
theorem eqB_self : ∀ n, (∀ {d : D}, okB n d = true → eqB d d = true) ∧ (∀ {ds : List D}, okBs n ds = true → eqBs ds ds = true) := by
  intro n
  induction n with
  | zero =>
    have one : ∀ {d : D}, okB 0 d = true → eqB d d = true := fun {d} h => by
      cases d with
      | non => rfl
      | bl b => cases b <;> rfl
      | int i => simp
      | str x => simp
      | _ => unfold okB at h; cases h
    refine ⟨one, fun {ds} h => ?_⟩
    induction ds with
    | nil => unfold eqBs; rfl
    | cons x l ih =>
      unfold okBs at h
      obtain ⟨h1, h2⟩ := Bool.and_eq_true_iff.mp h
      unfold eqBs
      rw [one h1, ih h2]
      rfl
  | succ n ih =>
    have one : ∀ {d : D}, okB (n + 1) d = true → eqB d d = true := fun {d} h => by
      cases d with
      | non => rfl
      | bl b => cases b <;> rfl
      | int i => simp
      | str x => simp
      | tup ds => unfold okB at h; unfold eqB; exact ih.2 h
      | lst ds => unfold okB at h; unfold eqB; exact ih.2 h
      | _ => unfold okB at h; cases h
    refine ⟨one, fun {ds} h => ?_⟩
    induction ds with
    | nil => unfold eqBs; rfl
    | cons x l ih2 =>
      unfold okBs at h
      obtain ⟨h1, h2⟩ := Bool.and_eq_true_iff.mp h
      unfold eqBs
      rw [one h1, ih2 h2]
      rfl
theorem byVal_ok {n : Nat} (h : okB n d = true) : byVal d st = d := by
  cases d with
  | ref l => cases n <;> (unfold okB at h; cases h)
  | _ => rfl
theorem eq_self (h : okB 60 d = true) : eqD d d st = some (.bl true, st) ∧ neD d d st = some (.bl false, st) := by
  unfold eqD neD eqW
  rw [byVal_ok h, h, (eqB_self 60).1 h]
  exact ⟨rfl, rfl⟩
end
end EL
set_option Elab.async false
set_option linter.all false
set_option maxRecDepth 100000
set_option maxHeartbeats 400000
namespace EL
open PySem PySem.Spec PyProof.Rows L2 GxR LG FW
section
variable {a : Air} {t bs : List Int} {i n many : Nat} {r : Stn} {P : List Int → Bool}
def Within (many : Nat) (us : List Int) : Prop := ∀ u ∈ us, 1 ≤ u ∧ u ≤ (many : Int)
/-- a plan -/
structure Pl (a : Air) (many : Nat) (t : List Int) : Prop where
  len : t.length = a.ss.length
  inn : Within many t
  all : allH a t = true
theorem Pl.up {m : Nat} (p : Pl a many t) (h : many ≤ m) : Pl a m t := ⟨p.len, fun u hu => ⟨(p.inn u hu).1, by have := (p.inn u hu).2; omega⟩, p.all⟩
end
end EL
set_option Elab.async false
set_option linter.all false
set_option maxRecDepth 100000
set_option maxHeartbeats 400000
namespace EL
open PySem PySem.Spec PyProof.Rows L2 GxR LG FW
section
variable {a a' : Air} {t bs : List Int} {i n many : Nat} {r r' : Stn}
/-- the bands that a station hears, and its own place marked -/
def seen (a : Air) (t : List Int) (i : Nat) : List (Stn × Int × Bool) := a.ss.zipIdx.map fun x => (x.1, t.getD x.2 0, decide (x.2 = i))
def part (a : Air) (r : Stn) (b : Int) (k : Int) (y : Stn × Int × Bool) : Int := if y.2.2 = true then 0 else if gapI b y.2.1 = k then shareI a.ss r y.1 else 0
theorem dis_split (ht : t.length = a.ss.length) (b : Int) : disI (othL a i r) b t = r.nd * (a.lk * ((seen a t i).map (part a r b 0)).sum + ((seen a t i).map (part a r b 1)).sum) := by
  rw [dis_sum ht]
  unfold seen
  rw [List.map_map, List.map_map]
  generalize a.ss.zipIdx = l
  induction l with
  | nil => simp
  | cons x l ih =>
    simp only [List.map_cons, List.sum_cons]
    rw [ih]
    have e : pick3 (thr a i r x) (gapI b (t.getD x.2 0)) = r.nd * (a.lk * part a r b 0 (x.1, t.getD x.2 0, decide (x.2 = i)) + part a r b 1 (x.1, t.getD x.2 0, decide (x.2 = i))) := by
      unfold thr part pick3
      by_cases w : x.2 = i
      · simp [w]
      · simp only [w, decide_false, Bool.false_eq_true, if_false]
        generalize gapI b (t.getD x.2 0) = g
        by_cases g0 : g = 0
        · simp only [g0, if_true]
          simp
          grind
        · by_cases g1 : g = 1
          · simp only [g1, if_true]
            simp
          · simp [g0, g1]
    simp only [Function.comp]
    rw [e]
    grind
theorem part_nn (h : a.Ok) (hr : r.Ok) (b k : Int) : 0 ≤ ((seen a t i).map (part a r b k)).sum := by
  have z : ((seen a t i).map fun _ => (0 : Int)).sum = 0 := by
    generalize seen a t i = l
    induction l with
    | nil => rfl
    | cons x l ih => simp only [List.map_cons, List.sum_cons, ih]; rfl
  rw [← z]
  refine sum_le fun y hy => ?_
  obtain ⟨x, hx, rfl⟩ := List.mem_map.mp hy
  have hs := h.ss.all x.1 (List.mem_of_getElem? (zipIdx_mem hx))
  unfold part
  split
  · exact Int.le_refl _
  · split
    · exact share_nn h hr hs
    · exact Int.le_refl _
theorem easy_num {lk lk' nd nd' O S D : Int} (l0 : 0 < lk) (l1 : lk ≤ lk') (n0 : 0 ≤ nd') (n1 : nd' ≤ nd) (hS : 0 ≤ S) (hD : 0 ≤ D) (h : nd * (lk * S + D) ≤ lk * O) : nd' * (lk' * S + D) ≤ lk' * O := by
  have a1 : nd' * (lk' * S + D) ≤ nd * (lk' * S + D) := Int.mul_le_mul_of_nonneg_right n1 (Int.add_nonneg (Int.mul_nonneg (by omega) hS) hD)
  have a2 : nd * D ≤ lk * (O - nd * S) := by
    have : nd * (lk * S + D) = lk * (nd * S) + nd * D := by grind
    have : lk * (O - nd * S) = lk * O - lk * (nd * S) := by grind
    omega
  have a3 : 0 ≤ nd * D := Int.mul_nonneg (by omega) hD
  have a4 : 0 ≤ O - nd * S := by
    by_cases z : 0 ≤ O - nd * S
    · exact z
    · have : lk * (O - nd * S) < 0 := Int.mul_neg_of_pos_of_neg l0 (by omega)
      omega
  have a5 : lk * (O - nd * S) ≤ lk' * (O - nd * S) := Int.mul_le_mul_of_nonneg_right l1 a4
  have a6 : nd * (lk' * S + D) = lk' * (nd * S) + nd * D := by grind
  have a7 : lk' * (O - nd * S) = lk' * O - lk' * (nd * S) := by grind
  omega
/-- needs no greater, a leak no less, all else the same -/
structure Easy (a a' : Air) : Prop where
  len : a'.ss.length = a.ss.length
  lk : a.lk ≤ a'.lk
  st : ∀ (i : Nat) (r r' : Stn), a.ss[i]? = some r → a'.ss[i]? = some r' → r'.px = r.px ∧ r'.py = r.py ∧ r'.pw = r.pw ∧ r'.hx = r.hx ∧ r'.hy = r.hy ∧ r'.nd ≤ r.nd
theorem Easy.get (E : Easy a a') (e : a'.ss[i]? = some r') : ∃ r, a.ss[i]? = some r := ⟨_, List.getElem?_eq_getElem (by have := (List.getElem?_eq_some_iff.mp e).1; rw [E.len] at this; exact this)⟩
theorem Easy.sprs (E : Easy a a') (e : a.ss[i]? = some r) (e' : a'.ss[i]? = some r') : EL.sprs a'.ss r' = EL.sprs a.ss r := by
  obtain ⟨_, _, _, hx, hy, _⟩ := E.st i r r' e e'
  unfold EL.sprs
  apply List.ext_getElem?
  intro j
  rw [List.getElem?_map, List.getElem?_map]
  cases q : a'.ss[j]? with
  | none =>
    have : a.ss[j]? = none := List.getElem?_eq_none_iff.mpr (by rw [← E.len]; exact List.getElem?_eq_none_iff.mp q)
    rw [this]; rfl
  | some s' =>
    obtain ⟨s, es⟩ := E.get q
    obtain ⟨px, py, _, _, _, _⟩ := E.st j s s' es q
    rw [es, Option.map_some, Option.map_some]
    unfold spr
    rw [hx, hy, px, py]
theorem Easy.share (E : Easy a a') (e : a.ss[i]? = some r) (e' : a'.ss[i]? = some r') {j : Nat} {s s' : Stn} (es : a.ss[j]? = some s) (es' : a'.ss[j]? = some s') : shareI a'.ss r' s' = shareI a.ss r s := by
  obtain ⟨_, _, _, hx, hy, _⟩ := E.st i r r' e e'
  obtain ⟨px, py, pw, _, _, _⟩ := E.st j s s' es es'
  unfold shareI
  rw [E.sprs e e', pw]
  unfold spr
  rw [hx, hy, px, py]
theorem Easy.part (E : Easy a a') (e : a.ss[i]? = some r) (e' : a'.ss[i]? = some r') (b k : Int) (m : Nat) : (seen a' t m).map (EL.part a' r' b k) = (seen a t m).map (EL.part a r b k) := by
  unfold seen
  rw [List.map_map, List.map_map]
  apply List.ext_getElem?
  intro j
  rw [List.getElem?_map, List.getElem?_map, List.getElem?_zipIdx, List.getElem?_zipIdx]
  cases q : a'.ss[j]? with
  | none =>
    have : a.ss[j]? = none := List.getElem?_eq_none_iff.mpr (by rw [← E.len]; exact List.getElem?_eq_none_iff.mp q)
    rw [this]; rfl
  | some s' =>
    obtain ⟨s, es⟩ := E.get q
    rw [es]
    simp only [Option.map_some, Function.comp, EL.part]
    rw [E.share e e' es q]
theorem Easy.heard (E : Easy a a') (h : a.Ok) (h' : a'.Ok) (ht : t.length = a.ss.length) (e : a.ss[i]? = some r) (e' : a'.ss[i]? = some r') (hh : heardB a t i r = true) : heardB a' t i r' = true := by
  have hr := h.ss.all r (List.mem_of_getElem? e)
  have hr' := h'.ss.all r' (List.mem_of_getElem? e')
  unfold heardB at hh ⊢
  simp only [Bool.and_eq_true, decide_eq_true_eq] at hh ⊢
  refine ⟨hh.1, ?_⟩
  have q := hh.2
  rw [dis_split ht] at q
  rw [dis_split (by rw [E.len]; exact ht), E.part e e', E.part e e']
  unfold ownI at q ⊢
  rw [E.share e e' e e']
  exact easy_num (by have := h.lk; omega) E.lk (by have := hr'.nd; omega) (E.st i r r' e e').2.2.2.2.2 (part_nn h hr _ _) (part_nn h hr _ _) q
end
end EL
set_option Elab.async false
set_option linter.all false
set_option maxRecDepth 100000
set_option maxHeartbeats 400000
namespace EL
open PySem PySem.Spec PyProof.Rows L2 GxR LG FW
section
variable {a : Air} {t bs : List Int} {i j k n many : Nat} {r o : Stn}
def Air.cut (a : Air) (k : Nat) : Air := ⟨a.ss.eraseIdx k, a.lk⟩
end
end EL
set_option Elab.async false
set_option linter.all false
set_option maxRecDepth 100000
set_option maxHeartbeats 400000
namespace EL
open PySem PySem.Spec PyProof.Rows L2 GxR LG FW
section
variable {st : Sto} {a : Air} {t bs : List Int} {i j k n many : Nat} {r s o : Stn}
def TrOk (a : Air) (many : Nat) : Nat → List Int → D → Prop
  | 0, _, _ => False
  | f + 1, bs, d => (∃ (j : Nat) (s : Stn), d = .tup [.str "shut", .str s.nm] ∧ a.ss[j]? = some s ∧ j < bs.length ∧ okAt a (bgT a.ss.length bs) (s, j) = false) ∨
      (bs.length < a.ss.length ∧ ∃ ds, d = .tup [.str "bands", .tup ds] ∧ ds.length = many ∧ ∀ (i : Nat) (d' : D), ds[i]? = some d' → TrOk a many f (bs ++ [1 + (i : Int)]) d')
theorem TrOk.ne {f : Nat} {d : D} (h : TrOk a many f bs d) : ∃ ds, d = .tup ds := by
  cases f with
  | zero => exact h.elim
  | succ f =>
    rcases h with ⟨j, s, rfl, _⟩ | ⟨_, ds, rfl, _⟩
    · exact ⟨_, rfl⟩
    · exact ⟨_, rfl⟩
end
end EL
set_option Elab.async false
set_option linter.all false
set_option maxRecDepth 100000
set_option maxHeartbeats 400000
namespace EL
open PySem PySem.Spec PyProof.Rows L2 GxR LG FW
section
variable {st : Sto} {a : Air} {t bs : List Int} {i j k n many : Nat} {r s o : Stn}
abbrev hR (a : Air) (bs : List Int) (x : Str) (x4 x5 x6 : Option D) : Rho := [some (.lst (earsL a)), some (.lst (nmD a)), some (tun bs), some (.str x), x4, x5, x6]
end
end EL
set_option Elab.async false
set_option linter.all false
set_option maxRecDepth 100000
set_option maxHeartbeats 400000
namespace EL
open PySem PySem.Spec PyProof.Rows L2 GxR LG FW
section
variable {st : Sto} {a : Air} {t bs : List Int} {i j k n many : Nat} {r s o : Stn} {lb : Nat}
theorem check_le {c : Int} (h : (a.ss.length : Int) ≤ c) : fn_check_size [a.d, .int c] st = some (.non, st) := by
  unfold fn_check_size
  refine seal_same ?_ rfl
  have i0 : ixD a.d (.int 0) st = some (ssD a.ss, st) := rfl
  have lz : lenD [ssD a.ss] st = some (.int (a.ss.length : Nat), st) := by unfold ssD; rw [e_lenT, List.length_map]
  have c : fTst (fOp gtD (fCall lenD (fCons (fOp ixD (fV 0) (fC (.int 0))) fNil)) (fV 1)) [some a.d, some (.int c)] st = some (false, st) := by
    simp only [e_tst, e_op, e_call, e_cons, e_V, e_C, e_nil, List.getElem?_cons_zero, List.getElem?_cons_succ, Option.bind_some, i0, lz, e_gtI, e_asB]
    congr 2
    exact decide_eq_false (by omega)
  rw [e_run]
  simp only [List.map_cons, List.map_nil, List.length_cons, List.length_nil, List.replicate, List.cons_append, List.nil_append, Nat.zero_add, Nat.sub_self, List.append_nil]
  unfold sb_check_size
  rw [e_if, c]
  rfl
end
end EL
set_option Elab.async false
set_option linter.all false
set_option maxRecDepth 100000
set_option maxHeartbeats 400000
namespace EL
open PySem PySem.Spec PyProof.Rows L2 GxR LG FW
section
variable {st : Sto} {a : Air} {t bs : List Int} {i j k n many : Nat} {r s o : Stn} {lb : Nat}
theorem addT {xs ys : List D} (h : xs.length + ys.length ≤ 100) : addD (.tup xs) (.tup ys) st = some (.tup (xs ++ ys), st) := by
  show (if _ then _ else _) = _
  rw [if_pos (by rw [sizeLine_eq]; omega)]
end
end EL
set_option Elab.async false
set_option linter.all false
set_option maxRecDepth 100000
set_option maxHeartbeats 400000
namespace EL
open PySem PySem.Spec PyProof.Rows L2 GxR LG FW
section
variable {ns : List Int} {lb i : Nat} {st s : Sto} {a : Air} {t : List Int} {r : Stn}
theorem run_at {N : Nat} {sb : FS} {ds : List D} {ρ ρ' : Rho} {d : D} {st1 : Sto} (hρ : ds.map some ++ List.replicate (N - ds.length) none = ρ) (h : sb ρ st = some (.rt d, ρ', st1)) : runD N sb ds st = some (d, st1) := run_ok (ρ' := ρ') (by rw [hρ]; exact h)
theorem rows_rw (h : a.Ok) (hr : r.Ok) : ∀ p ∈ rowsL a t i r, RwOk p := fun p hp => (row_mem h hr hp).1
theorem lheard_eq (h : a.Ok) (ht : t.length = a.ss.length) (hb : ∀ b ∈ t, 0 ≤ b ∧ b ≤ 9) (e : a.ss[i]? = some r) : fn__law_heard [a.d, tun t, .int (i : Nat)] st = some (.bl (heardB a t i r), st) := by
  have hi : i < a.ss.length := (List.getElem?_eq_some_iff.mp e).1
  have b0 := (t_bound hb i).1
  have hr := h.ss.all r (List.mem_of_getElem? e)
  unfold fn__law_heard
  refine seal_same ?_ rfl
  refine run_at (ρ := [some a.d, some (tun t), some (.int (i : Nat))]) (ρ' := [some a.d, some (tun t), some (.int (i : Nat))]) rfl ?_
  have f1 : fFn 3 fn__law_rows (fCons (fV 0) (fCons (fV 1) (fCons (fV 2) fNil))) [some a.d, some (tun t), some (.int (i : Nat))] st = some (.lst ((rowsL a t i r).map rowD), st) := fn_ok (ds := [a.d, tun t, .int (i : Nat)]) (st1 := st) rfl rfl (rows_eq h ht hb e)
  have k2 : fCons (fV 0) (fCons (fV 2) (fCons (fFn 3 fn__law_rows (fCons (fV 0) (fCons (fV 1) (fCons (fV 2) fNil)))) fNil)) [some a.d, some (tun t), some (.int (i : Nat))] st = some ([a.d, .int (i : Nat), .lst ((rowsL a t i r).map rowD)], st) := by
    rw [e_cons, e_V]
    simp only [List.getElem?_cons_zero, Option.bind_some]
    rw [e_cons, e_V]
    simp only [List.getElem?_cons_zero, List.getElem?_cons_succ, Option.bind_some]
    rw [e_cons, f1]
    rfl
  have f2 := fn_ok (n := 3) k2 rfl (stands_eq (st := st) h e (rows_rw h hr) (rows_len h))
  have c1 : fOp gtD (fOp ixD (fV 1) (fV 2)) (fC (.int 0)) [some a.d, some (tun t), some (.int (i : Nat))] st = some (.bl (decide (0 < t.getD i 0)), st) := by
    simp only [e_op, e_V, e_C, List.getElem?_cons_zero, List.getElem?_cons_succ, Option.bind_some, tun_at ht hi, e_gtI]
  unfold sb__law_heard
  refine ret_ok ?_
  rw [e_and, c1]
  simp only [Option.bind_some, e_asB]
  by_cases up : 0 < t.getD i 0
  · rw [decide_eq_true up, if_pos rfl, f2, heard_rows h ht hb e up]
  · rw [decide_eq_false up, if_neg Bool.false_ne_true]
    have z : t.getD i 0 = 0 := by omega
    unfold heardB
    rw [z]
    rfl
/-- the places of those that send and are not heard -/
def unhN (a : Air) (t : List Int) : List Nat := (a.ss.zipIdx.filter fun x => !okAt a t x).map (·.2)
theorem lunheard_eq (h : a.Ok) (ht : t.length = a.ss.length) (hb : ∀ b ∈ t, 0 ≤ b ∧ b ≤ 9) : fn__law_unheard [a.d, tun t] st = some (.lst ((unhN a t).map fun j => D.int (j : Nat)), st) := by
  have l8 := h.ss.len.2
  unfold fn__law_unheard
  refine seal_same ?_ (by unfold pureB; exact pureL_map (fun _ => rfl) _)
  refine run_at (ρ := [some a.d, some (tun t), none]) (ρ' := [some a.d, some (tun t), none]) rfl ?_
  unfold sb__law_unheard
  refine ret_ok ?_
  have rg := range_len (st := st) (ρ := [some a.d, some (tun t), none]) (j := 1) (t := t) rfl (by omega)
  have e0 : rangeD 0 t.length = a.ss.zipIdx.map fun x => D.int (x.2 : Nat) := by
    unfold rangeD
    apply List.ext_getElem
    · simp [ht]
    · intro n h1 h2
      simp
  have lc := lcE (tg := .one 2) (tt := (fTAnd (fTst (fOp gtD (fOp ixD (fV 1) (fV 2)) (fC (.int 0)))) (fTNot (fTst (fFn 3 fn__law_heard (fCons (fV 0) (fCons (fV 1) (fCons (fV 2) fNil)))))))) (fe := fV 2) (src := []) (ρ := [some a.d, some (tun t), none]) (st := st) (enc := fun x : Stn × Nat => D.int (x.2 : Nat)) (b := fun x => !okAt a t x) (w := fun x : Stn × Nat => D.int (x.2 : Nat)) (l := a.ss.zipIdx) Intact.nil fun x hx => by
    have ex := zipIdx_mem hx
    have hj : x.2 < a.ss.length := (List.getElem?_eq_some_iff.mp ex).1
    have b0 := (t_bound hb x.2).1
    refine ⟨[some a.d, some (tun t), some (.int (x.2 : Nat))], rfl, ?_, fun _ => rfl⟩
    have f1 : fFn 3 fn__law_heard (fCons (fV 0) (fCons (fV 1) (fCons (fV 2) fNil))) [some a.d, some (tun t), some (.int (x.2 : Nat))] st = some (.bl (heardB a t x.2 x.1), st) := fn_ok (ds := [a.d, tun t, .int (x.2 : Nat)]) (st1 := st) rfl rfl (lheard_eq h ht hb ex)
    have c1 : fTst (fOp gtD (fOp ixD (fV 1) (fV 2)) (fC (.int 0))) [some a.d, some (tun t), some (.int (x.2 : Nat))] st = some (decide (0 < t.getD x.2 0), st) := by
      simp only [e_tst, e_op, e_V, e_C, List.getElem?_cons_zero, List.getElem?_cons_succ, Option.bind_some, tun_at ht hj, e_gtI, e_asB]
    rw [e_tand, c1]
    simp only [Option.bind_some]
    unfold okAt
    by_cases up : 0 < t.getD x.2 0
    · rw [decide_eq_true up, if_pos rfl, e_tnot, e_tst, f1]
      have : ¬ t.getD x.2 0 = 0 := by omega
      simp only [Option.bind_some, e_asB, decide_eq_false this, Bool.false_or]
    · have : t.getD x.2 0 = 0 := by omega
      rw [decide_eq_false up, if_neg Bool.false_ne_true]
      simp only [decide_eq_true this, Bool.true_or, Bool.not_true]
  have zl : ((a.ss.zipIdx.filter fun x => !okAt a t x).map fun x : Stn × Nat => D.int (x.2 : Nat)).length ≤ 1000 := by
    rw [List.length_map]
    have := ss_len h (fun x => !okAt a t x)
    omega
  rw [← e0] at lc
  have := lcz_ok (st := st) (tg := .one 2) (vs := [2]) rg lc zl
  rw [this]
  unfold unhN
  rw [List.map_map]
  rfl
theorem unhN_nil : unhN a t = [] ↔ allH a t = true := by
  unfold unhN allH
  rw [List.map_eq_nil_iff, List.filter_eq_nil_iff, List.all_eq_true]
  simp
end
end EL
set_option Elab.async false
set_option linter.all false
set_option maxRecDepth 100000
set_option maxHeartbeats 400000
namespace EL
open PySem PySem.Spec PyProof.Rows L2 GxR LG FW
section
variable {lb i : Nat} {st s : Sto} {a : Air} {t : List Int} {r : Stn}
theorem if_no {ta : FT} {s1 : FS} {ρ : Rho} {st1 : Sto} (h : ta ρ st = some (false, st1)) : sIf ta s1 sNext ρ st = some (.nx, ρ, st1) := by
  rw [e_if, h]; rfl
theorem tnot_ok {f : FE} {ρ : Rho} {st1 : Sto} (h : f ρ st = some (.bl true, st1)) : fTNot (fTst f) ρ st = some (false, st1) := by
  rw [e_tnot, e_tst, h]; rfl
end
end EL
set_option Elab.async false
set_option linter.all false
set_option maxRecDepth 100000
set_option maxHeartbeats 400000
namespace EL
open PySem PySem.Spec PyProof.Rows L2 GxR LG FW
section
variable {lb i : Nat} {st s : Sto} {a : Air} {t : List Int} {r : Stn}
theorem seqT {s1 s2 : FS} {ρ ρ1 : Rho} {st1 : Sto} {z : Option (Fl × Rho × Sto)} (h : s1 ρ st = some (.nx, ρ1, st1)) (k : s2 ρ1 st1 = z) : sSeq s1 s2 ρ st = z := by rw [seq_nx h]; exact k
theorem seqR {s1 s2 : FS} {ρ ρ1 : Rho} {d : D} {st1 : Sto} (h : s1 ρ st = some (.rt d, ρ1, st1)) : sSeq s1 s2 ρ st = some (.rt d, ρ1, st1) := by rw [e_seq, h]; rfl
theorem if_then {ta : FT} {s1 s2 : FS} {ρ : Rho} {st1 : Sto} {z : Option (Fl × Rho × Sto)} (h : ta ρ st = some (true, st1)) (k : s1 ρ st1 = z) : sIf ta s1 s2 ρ st = z := by rw [e_if, h]; exact k
theorem if_else {ta : FT} {s1 s2 : FS} {ρ : Rho} {st1 : Sto} {z : Option (Fl × Rho × Sto)} (h : ta ρ st = some (false, st1)) (k : s2 ρ st1 = z) : sIf ta s1 s2 ρ st = z := by rw [e_if, h]; exact k
theorem eq_nilL {ds : List D} (h : okBs 59 ds = true) : eqD (.lst ds) (.lst []) st = some (.bl ds.isEmpty, st) := by
  have o1 : okB 60 (.lst ds) = true := by unfold okB; exact h
  have o2 : okB 60 (.lst []) = true := rfl
  unfold eqD eqW
  simp only [e_valZ, o1, o2, and_self, if_true]
  cases ds with
  | nil => simp [eqB, eqBs]
  | cons x l => simp [eqB, eqBs]
theorem ne_same {f g : FE} {ρ : Rho} {d : D} (h : okB 60 d = true) (h1 : f ρ st = some (d, st)) (h2 : g ρ st = some (d, st)) : fTst (fOp neD f g) ρ st = some (false, st) := by
  rw [e_tst, op_ok h1 h2 (eq_self h).2]
  rfl
theorem of_spec {xs : List D} (h0 : 0 < xs.length) (hz : xs.length ≤ 1000) (hp : ∀ d ∈ xs, pureB d = true) (b : Bg lb s) : Ok (fn__law_of [.ref lb, .lst xs] s) fun p => p.1 ∈ xs ∧ Go lb s p.2 := by
  unfold fn__law_of
  refine seal_ok (P := (· ∈ xs)) ?_
  obtain ⟨⟨d1, s1⟩, q1, ⟨k, e1, k0, k1⟩, g1⟩ := take_spec (m := (xs.length : Nat)) (by omega) (by omega) b
  simp only at e1 g1
  subst e1
  obtain ⟨x, hx, hm, _⟩ := atI_lt (l := xs) (i := k) k0 (by omega)
  have f1 : fFn 2 fn__law_take (fCons (fV 0) (fCons (fCall lenD (fCons (fV 1) fNil)) fNil)) [some (.ref lb), some (.lst xs)] s = some (.int k, s1) := fn_ok (ds := [.ref lb, .int (xs.length : Nat)]) (st1 := s) rfl rfl q1
  have ix : ixD (.lst xs) (.int k) s1 = some (x, s1) := by rw [e_ixZ, hx]; rfl
  refine ⟨(x, s1), run_at (ρ := [some (.ref lb), some (.lst xs)]) (ρ' := [some (.ref lb), some (.lst xs)]) rfl ?_, hm, hp x hm, s1, [], by simp, g1⟩
  unfold sb__law_of
  exact ret_ok (op_ok (st1 := s) (d := .lst xs) rfl f1 ix)
end
end EL
set_option Elab.async false
set_option linter.all false
set_option maxRecDepth 100000
set_option maxHeartbeats 400000
namespace EL
open PySem PySem.Spec PyProof.Rows L2 GxR LG FW
end EL
set_option Elab.async false
set_option linter.all false
set_option maxRecDepth 100000
set_option maxHeartbeats 400000
namespace EL
open PySem PySem.Spec PyProof.Rows L2 GxR LG FW
section
variable {lb i : Nat} {st s : Sto} {a : Air} {t : List Int} {r : Stn}
def nmAt (a : Air) (j : Nat) : Str := ((a.ss[j]?).map Stn.nm).getD ""
end
end EL
set_option Elab.async false
set_option linter.all false
set_option maxRecDepth 100000
set_option maxHeartbeats 400000
namespace EL
open PySem PySem.Spec PyProof.Rows L2 GxR LG FW
section
variable {lb i many j : Nat} {st : Sto} {a : Air} {t bs : List Int} {r s : Stn} {d : D}
theorem or_ff {ta tb : FT} {ρ : Rho} {st1 : Sto} {z : Option (Bool × Sto)} (h : ta ρ st = some (false, st1)) (k : tb ρ st1 = z) : fTOr ta tb ρ st = z := by rw [e_tor, h]; exact k
theorem and_tt {ta tb : FT} {ρ : Rho} {st1 : Sto} {z : Option (Bool × Sto)} (h : ta ρ st = some (true, st1)) (k : tb ρ st1 = z) : fTAnd ta tb ρ st = z := by rw [e_tand, h]; exact k
theorem and_ff {ta tb : FT} {ρ : Rho} {st1 : Sto} (h : ta ρ st = some (false, st1)) : fTAnd ta tb ρ st = some (false, st1) := by rw [e_tand, h]; rfl
def Dx (d : D) : Prop := ∃ g n, g ≤ 40 ∧ n ≤ 50 ∧ Dv g n d
theorem Dx.ok (h : Dx d) : okB 60 d = true := by
  obtain ⟨g, n, _, h2, h3⟩ := h
  exact okB_up h3.ok (by omega)
theorem Dx.tup {ds : List D} (h : Dx (.tup ds)) : ds.length ≤ 60 ∧ ∀ e ∈ ds, Dx e := by
  obtain ⟨g, n, h1, h2, h3⟩ := h
  cases n with
  | zero => exact (show False from h3).elim
  | succ n => exact ⟨by have := h3.1; omega, fun e he => ⟨g, n, h1, by omega, h3.2 e he⟩⟩
theorem Dx.str {x : Str} (h : Dx (.str x)) : PyData.strOk x = true := by
  have := h.ok
  unfold okB at this
  exact this
abbrev hQ (a : Air) (bs : List Int) (p : D) (x4 x5 x6 : Option D) : Rho := [some (.lst (earsL a)), some (.lst (nmD a)), some (tun bs), some p, x4, x5, x6]
end
end EL
set_option Elab.async false
set_option linter.all false
set_option maxRecDepth 100000
set_option maxHeartbeats 400000
namespace EL
open PySem PySem.Spec PyProof.Rows L2 GxR LG FW
end EL
set_option Elab.async false
set_option linter.all false
set_option maxRecDepth 100000
set_option maxHeartbeats 400000
namespace EL
open PySem PySem.Spec PyProof.Rows L2 GxR LG FW
end EL
set_option Elab.async false
set_option linter.all false
set_option maxRecDepth 100000
set_option maxHeartbeats 400000
namespace EL
open PySem PySem.Spec PyProof.Rows L2 GxR LG FW BF
section
variable {lj lv i many j : Nat} {st s : Sto} {a : Air} {t u : List Int} {V : List (List Key × D)}
theorem for_fold {tg : Tg} {b : FS} {src : Src} {items : List D} {I : Nat → Rho → Sto → Prop} (hi : ∀ i ρ s, I i ρ s → Intact src s)
    (step : ∀ i d, items[i]? = some d → ∀ ρ s, I i ρ s → ∃ ρ1, tgD tg d ρ = some ρ1 ∧ ∃ f ρ2 s2, b ρ1 s = some (f, ρ2, s2) ∧ (f = .nx ∨ f = .ct) ∧ I (i + 1) ρ2 s2) {ρ : Rho} {s : Sto} (h0 : I 0 ρ s) :
    ∃ ρ2 s2, forD tg b src items ρ s = some (.nx, ρ2, s2) ∧ I items.length ρ2 s2 := by
  have main : ∀ (j i : Nat) (ρ : Rho) (s : Sto), j = items.length - i → i ≤ items.length → I i ρ s → ∃ ρ2 s2, forD tg b src (items.drop i) ρ s = some (.nx, ρ2, s2) ∧ I items.length ρ2 s2 := by
    intro j
    induction j with
    | zero =>
      intro i ρ s hj hl h
      have : i = items.length := by omega
      subst this
      rw [List.drop_length]
      unfold forD
      rw [if_pos (hi _ _ _ h)]
      exact ⟨_, _, rfl, h⟩
    | succ j ih =>
      intro i ρ s hj hl h
      have hlt : i < items.length := by omega
      rw [List.drop_eq_getElem_cons hlt]
      obtain ⟨ρ1, e1, f, ρ2, s2, e2, hf, h2⟩ := step i items[i] (List.getElem?_eq_getElem hlt) ρ s h
      obtain ⟨ρ3, s3, e3, h3⟩ := ih (i + 1) ρ2 s2 (by omega) (by omega) h2
      refine ⟨ρ3, s3, ?_, h3⟩
      unfold forD
      rw [if_pos (hi _ _ _ h), e1]
      simp only [Option.bind_some]
      rw [e2]
      simp only [Option.bind_some]
      rcases hf with rfl | rfl <;> exact e3
  obtain ⟨ρ2, s2, e, h⟩ := main items.length 0 ρ s (by omega) (Nat.zero_le _) h0
  exact ⟨ρ2, s2, by rw [List.drop_zero] at e; exact e, h⟩
theorem set_self {α : Type} {s : List α} {l : Nat} {x : α} (h : s[l]? = some x) : s.set l x = s := by
  obtain ⟨hl, rfl⟩ := List.getElem?_eq_some_iff.mp h
  exact List.set_getElem_self hl
def kT (t : List Int) : List Key := t.map Sum.inl
theorem kT_inj {t u : List Int} (h : kT t = kT u) : t = u := by
  unfold kT at h
  exact List.map_inj_right (fun x y e => by cases e; rfl) |>.mp h
theorem key_tun (t : List Int) : keyOf (tun t) = some (kT t) := by
  unfold tun keyOf kT
  simp only
  induction t with
  | nil => rfl
  | cons x t ih => simp only [List.map_cons, keysD, key1, Option.bind_some, ih]
/-- what was reckoned so far -/
structure GoodV (a : Air) (V : List (List Key × D)) : Prop where
  nd : (V.map (·.1)).Nodup
  al : ∀ p ∈ V, ∃ t : List Int, p = (kT t, .bl (allH a t)) ∧ t.length = a.ss.length ∧ ∀ b ∈ t, 0 ≤ b ∧ b ≤ 9
theorem GoodV.nil : GoodV a [] := ⟨by simp, by simp⟩
theorem GoodV.len (g : GoodV a V) (h4 : a.ss.length ≤ 4) : V.length ≤ 10000 := by
  have : (V.map (·.1)).length ≤ ((unv 10 a.ss.length).map kT).length := nodup_le g.nd fun x hx => by
    obtain ⟨p, hp, rfl⟩ := List.mem_map.mp hx
    obtain ⟨t, rfl, h1, h2⟩ := g.al p hp
    exact List.mem_map_of_mem (unv_mem h1 fun y hy => by have := h2 y hy; omega)
  rw [List.length_map, List.length_map, unv_len] at this
  have : 10 ^ a.ss.length ≤ 10 ^ 4 := Nat.pow_le_pow_right (by decide) h4
  omega
theorem val_good (g : GoodV a V) : (∃ d, valD V (kT t) = some d ∧ d = .bl (allH a t)) ∨ (valD V (kT t) = none ∧ (V.any fun kv => decide (kv.1 = kT t)) = false) := by
  unfold valD
  cases z : V.find? fun kv => decide (kv.1 = kT t) with
  | none =>
    right
    refine ⟨rfl, ?_⟩
    rw [List.any_eq_false]
    exact fun p hp => List.find?_eq_none.mp z p hp
  | some p =>
    left
    have e : p.1 = kT t := by simpa using List.find?_some z
    obtain ⟨u, hu, _⟩ := g.al p (List.mem_of_find?_eq_some z)
    subst hu
    have := kT_inj e
    subst this
    exact ⟨_, rfl, rfl⟩
theorem GoodV.put (g : GoodV a V) (hn : (V.any fun kv => decide (kv.1 = kT t)) = false) (ht : t.length = a.ss.length) (hb : ∀ b ∈ t, 0 ≤ b ∧ b ≤ 9) : GoodV a (V ++ [(kT t, .bl (allH a t))]) where
  nd := by
    rw [List.map_append, List.nodup_append]
    refine ⟨g.nd, by simp, fun x hx y hy e => ?_⟩
    simp only [List.map_cons, List.map_nil, List.mem_singleton] at hy
    subst hy; subst e
    obtain ⟨p, hp, e⟩ := List.mem_map.mp hx
    rw [List.any_eq_false] at hn
    exact hn p hp (by simp [e])
  al := by
    intro p hp
    rcases List.mem_append.mp hp with hp | hp
    · exact g.al p hp
    · exact ⟨t, List.mem_singleton.mp hp, ht, hb⟩
def judO (a : Air) (lv : Nat) : O := .ins "Judge" [("ears", .lst (earsL a)), ("verdicts", .ref lv)]
theorem ins_ok {l : Nat} {c : Str} {fs : List (Str × D)} (h : s[l]? = some (.ins c fs)) : insOf c (.ref l) s = some (l, fs) := by
  unfold insOf
  simp only [h, if_true]
theorem fld_ok {ρ : Rho} {p l : Nat} {c f : Str} {fs : List (Str × D)} {d : D} (hp : ρ[p]? = some (some (.ref l))) (h : s[l]? = some (.ins c fs)) (hd : fs.lookup f = some d) : fFld c f (fV p) ρ s = some (d, s) := by
  unfold fFld
  rw [e_V, hp]
  simp only [Option.bind_some]
  rw [ins_ok h]
  simp only [Option.bind_some]
  rw [hd]
  rfl
theorem dict_ok {l : Nat} (h : s[l]? = some (.dT V)) : dictOf (.ref l) s = some (l, V) := by
  unfold dictOf
  simp only [h]
theorem calm_set (hv : s[lv]? = some (.dT V)) {V' : List (List Key × D)} (hp : pureO (.dT V') = true) : Calm s (s.set lv (.dT V')) := by
  intro l o hl e
  by_cases z : l = lv
  · subst z
    rw [List.getElem?_set_self hl] at e
    cases e
    exact .inr hp
  · rw [List.getElem?_set_ne (fun e => z e.symm)] at e
    exact .inl e
theorem good_pure (g : GoodV a V) : pureO (.dT V) = true := by
  have : ∀ (W : List (List Key × D)), (∀ p ∈ W, pureB p.2 = true) → pureL (W.map (·.2)) = true := by
    intro W
    induction W with
    | nil => intro _; rfl
    | cons p W ih =>
      intro h
      show (pureB p.2 && pureL (W.map (·.2))) = true
      rw [h p List.mem_cons_self, ih fun q hq => h q (List.mem_cons_of_mem _ hq)]
      rfl
  exact this V fun p hp => by
    obtain ⟨t, rfl, _⟩ := g.al p hp
    rfl
theorem allows_eq (h : a.Ok) (h4 : a.ss.length ≤ 4) (hj : s[lj]? = some (judO a lv)) (hv : s[lv]? = some (.dT V)) (g : GoodV a V) (ht : t.length = a.ss.length) (hb : ∀ b ∈ t, 0 ≤ b ∧ b ≤ 9) :
    ∃ V', GoodV a V' ∧ fn_Judge__allows [.ref lj, tun t] s = some (.bl (allH a t), s.set lv (.dT V')) := by
  have hvl := (List.getElem?_eq_some_iff.mp hv).1
  have ne : lj ≠ lv := fun e => by subst e; rw [hj] at hv; cases hv
  have f1 : fFld "Judge" "verdicts" (fV 0) [some (.ref lj), some (tun t)] s = some (.ref lv, s) := fld_ok rfl hj rfl
  have key : ∀ {s' : Sto} {W : List (List Key × D)}, s'[lj]? = some (judO a lv) → s'[lv]? = some (.dT W) → valD W (kT t) = some (.bl (allH a t)) → sRet (fOp getT (fFld "Judge" "verdicts" (fV 0)) (fV 1)) [some (.ref lj), some (tun t)] s' = some (.rt (.bl (allH a t)), [some (.ref lj), some (tun t)], s') := fun {s' W} h1 h2 h3 => by
    refine ret_ok (op_ok (st1 := s') (fld_ok (p := 0) rfl h1 rfl) (st2 := s') (e := tun t) rfl ?_)
    unfold getT
    rw [dict_ok h2]
    simp only [Option.bind_some]
    rw [key_tun]
    simp only [Option.bind_some]
    rw [h3]
    rfl
  have tin : ∀ {z : Bool}, (valD V (kT t)).isSome = z → fTst (fOp (inT true) (fV 1) (fFld "Judge" "verdicts" (fV 0))) [some (.ref lj), some (tun t)] s = some (!z, s) := fun {z} hz => by
    rw [e_tst, op_ok (st1 := s) (d := tun t) rfl f1 (z := (.bl (!z), s)) (by
      unfold inT
      rw [key_tun]
      simp only [Option.bind_some]
      rw [dict_ok hv]
      simp only [Option.bind_some]
      rw [hz]
      rfl)]
    rfl
  unfold fn_Judge__allows
  rcases val_good (t := t) g with ⟨d, e1, rfl⟩ | ⟨e1, e2⟩
  · refine ⟨V, g, ?_⟩
    rw [set_self hv]
    refine seal_same ?_ rfl
    refine run_at (ρ := [some (.ref lj), some (tun t)]) (ρ' := [some (.ref lj), some (tun t)]) rfl ?_
    exact seqT (if_no (tin (z := true) (by rw [e1]; rfl))) (key hj hv e1)
  · have g' := g.put e2 ht hb
    refine ⟨_, g', ?_⟩
    have f2 : fFn 2 fn_all_heard (fCons (fFld "Judge" "ears" (fV 0)) (fCons (fV 1) fNil)) [some (.ref lj), some (tun t)] s = some (.bl (allH a t), s) := by
      refine fn_ok (ds := [.lst (earsL a), tun t]) (st1 := s) ?_ rfl (all_heard_eq h ht)
      rw [e_cons, fld_ok (p := 0) (s := s) rfl hj (f := "ears") (d := .lst (earsL a)) rfl]
      rfl
    have ep : putD V (kT t) (.bl (allH a t)) = V ++ [(kT t, .bl (allH a t))] := by
      unfold putD
      rw [if_neg (by rw [e2]; simp)]
    have pt : sDPutT (fFn 2 fn_all_heard (fCons (fFld "Judge" "ears" (fV 0)) (fCons (fV 1) fNil))) (fFld "Judge" "verdicts" (fV 0)) (fV 1) [some (.ref lj), some (tun t)] s = some (.nx, [some (.ref lj), some (tun t)], s.set lv (.dT (V ++ [(kT t, .bl (allH a t))]))) := by
      unfold sDPutT
      rw [f2]
      simp only [Option.bind_some]
      rw [f1]
      simp only [Option.bind_some, e_V, List.getElem?_cons_zero, List.getElem?_cons_succ]
      rw [dict_ok hv, key_tun]
      simp only [Option.bind_some]
      rw [if_pos (by have := g.len h4; rw [sizeLine_eq]; omega), ep]
    refine seal_to (d := .bl (allH a t)) (st' := s.set lv (.dT (V ++ [(kT t, .bl (allH a t))]))) ?_ (calm_set hv (good_pure g')) (seal_pure rfl) (by rw [List.take_of_length_le (by simp)])
    refine run_at (ρ := [some (.ref lj), some (tun t)]) (ρ' := [some (.ref lj), some (tun t)]) rfl ?_
    refine seqT (if_then (tin (z := false) (by rw [e1]; rfl)) pt) (key (W := V ++ [(kT t, .bl (allH a t))]) (by rw [List.getElem?_set_ne (fun e => ne e.symm)]; exact hj) (List.getElem?_set_self hvl) ?_)
    unfold valD
    rw [List.find?_append]
    have : (V.find? fun kv => decide (kv.1 = kT t)) = none := by
      unfold valD at e1
      exact Option.map_eq_none_iff.mp e1
    rw [this]
    simp
end
end EL
set_option Elab.async false
set_option linter.all false
set_option maxRecDepth 100000
set_option maxHeartbeats 400000
namespace EL
open PySem PySem.Spec PyProof.Rows L2 GxR LG FW BF
section
variable {lj lv lf i many j : Nat} {st s : Sto} {a : Air} {t u : List Int} {V : List (List Key × D)} {acc : List D}
theorem set_cut {α : Type} (t : List α) {i : Nat} (hi : i < t.length) (b : α) : t.take i ++ [b] ++ t.drop (i + 1) = t.set i b := by
  rw [List.set_eq_take_append_cons_drop, if_pos hi]
  simp
theorem retuned_eq {b : Int} (hi : i < t.length) (hl : t.length ≤ 20) : fn_retuned [tun t, .int (i : Nat), .int b] st = some (tun (t.set i b), st) := by
  unfold fn_retuned
  refine seal_same ?_ (by show pureL _ = true; exact pureL_map (fun _ => rfl) _)
  refine run_at (ρ := [some (tun t), some (.int (i : Nat)), some (.int b)]) (ρ' := [some (tun t), some (.int (i : Nat)), some (.int b)]) rfl (ret_ok ?_)
  have c1 : cutD (t.map D.int) none (some (i : Int)) = (t.take i).map D.int := by
    rw [cut_hi (by omega), List.map_take]
    rfl
  have c2 : cutD (t.map D.int) (some ((i : Int) + 1)) none = (t.drop (i + 1)).map D.int := by
    have := cut_from (ds := t.map D.int) (n := i + 1)
    rw [List.map_drop]
    exact this
  have f1 : fSl (fV 0) oNone (oSome (fV 1)) [some (tun t), some (.int (i : Nat)), some (.int b)] st = some (.tup ((t.take i).map D.int), st) := by
    unfold tun
    simp only [e_sl, e_V, e_oN, e_oS, List.getElem?_cons_zero, List.getElem?_cons_succ, Option.bind_some, e_slT, c1]
  have f2 : fSl (fV 0) (oSome (fOp addD (fV 1) (fC (.int 1)))) oNone [some (tun t), some (.int (i : Nat)), some (.int b)] st = some (.tup ((t.drop (i + 1)).map D.int), st) := by
    unfold tun
    simp only [e_sl, e_op, e_V, e_C, e_oN, e_oS, List.getElem?_cons_zero, List.getElem?_cons_succ, Option.bind_some, e_addI, e_slT, c2]
  have f3 : fTup (fCons (fV 2) fNil) [some (tun t), some (.int (i : Nat)), some (.int b)] st = some (.tup [.int b], st) := by
    simp [sizeLine_eq]
  have hz : ((t.take i).map D.int ++ [.int b] ++ (t.drop (i + 1)).map D.int) = (t.set i b).map D.int := by
    rw [← set_cut t hi b]
    simp
  refine op_ok (st1 := st) (op_ok (st1 := st) f1 f3 (addT (by simp; omega))) f2 ?_
  rw [addT (by simp; omega), hz]
  rfl
theorem meth_ok {ρ : Rho} {p l n : Nat} {c m : Str} {fs : List (Str × D)} {fr : FA} {fn : HA} {ds : List D} {z : D × Sto} (hp : ρ[p]? = some (some (.ref l))) (h : s[l]? = some (.ins c fs)) (hm : fs.lookup m = none) (hr : fr ρ s = some (ds, s)) (hn : (D.ref l :: ds).length = n) (hf : fn (.ref l :: ds) s = some z) : fMeth c m n fn (fV p) fr ρ s = some z := by
  unfold fMeth
  rw [e_V, hp]
  simp only [Option.bind_some]
  rw [ins_ok h]
  simp only [Option.bind_some]
  rw [if_pos hm, hr]
  simp only [Option.bind_some]
  rw [if_pos hn]
  exact hf
def mvOne (a : Air) (t : List Int) (i : Nat) (b : Int) : Option BF.Mv := if b ≠ t.getD i 0 ∧ allH a (t.set i b) = true then some (i, b, t.set i b) else none
def mvAt (a : Air) (many : Nat) (t : List Int) (i : Nat) : List BF.Mv := if t.getD i 0 = 0 then [] else (List.range many).filterMap fun j => mvOne a t i (1 + (j : Nat))
def mvL (a : Air) (many : Nat) (t : List Int) : List BF.Mv := (List.range t.length).flatMap (mvAt a many t)
def mvD (m : BF.Mv) : D := .tup [.int (m.1 : Nat), .int m.2.1, tun m.2.2]
abbrev mR (lj many lf : Nat) (t : List Int) (x4 x5 x6 x7 : Option D) : Rho := [some (.ref lj), some (.int (many : Nat)), some (tun t), some (.ref lf), x4, x5, x6, x7]
noncomputable def bodyM1 : FS := (sSeq (sSet 7 (fFn 3 fn_retuned (fCons (fV 2) (fCons (fV 4) (fCons (fV 6) fNil)))))
    (sIf (fTAnd (fTst (fOp neD (fV 6) (fV 5))) (fTst (fMeth "Judge" "allows" 2 fn_Judge__allows (fV 0) (fCons (fV 7) fNil)))) (sExpr (fApp (fV 3) (fTup (fCons (fV 4) (fCons (fV 6) (fCons (fV 7) fNil)))))) sNext))
noncomputable def bodyM2 : FS := (sSeq (sIf (fTst (fOp eqD (fV 5) (fC (.int 0)))) sCont sNext)
    (sFor (iRange2 (fCons (fC (.int 1)) (fCons (fOp addD (fV 1) (fC (.int 1))) fNil))) (.one 6) bodyM1))
theorem moves_from_form : sb_moves_from = sSeq (sSet 3 (fLst fNil)) (sSeq (sFor (iEnum (fCons (fV 2) fNil)) (.many [4, 5]) bodyM2) (sRet (fV 3))) := rfl
theorem tup3 {f g k : FE} {ρ : Rho} {st : Sto} {x y z : D} (h1 : f ρ st = some (x, st)) (h2 : g ρ st = some (y, st)) (h3 : k ρ st = some (z, st)) : fTup (fCons f (fCons g (fCons k fNil))) ρ st = some (.tup [x, y, z], st) := by
  simp [h1, h2, h3, sizeLine_eq]
theorem set_bound {b : Int} {c : Int} (hb : ∀ x ∈ t, 0 ≤ x ∧ x ≤ c) (h0 : 0 ≤ b) (h9 : b ≤ c) : ∀ x ∈ t.set i b, 0 ≤ x ∧ x ≤ c := fun x hx => by
  rcases List.mem_or_eq_of_mem_set hx with h | h
  · exact hb x h
  · subst h; exact ⟨h0, h9⟩
theorem app_mid {s : Sto} {o o' : O} : (s ++ [o]).set s.length o' = s ++ [o'] := by
  rw [List.set_append_right _ _ (Nat.le_refl _), Nat.sub_self]
  rfl
theorem bodyM1_ok (h : a.Ok) (h4 : a.ss.length ≤ 4) (hj : s[lj]? = some (judO a lv)) (hv : s[lv]? = some (.dT V)) (g : GoodV a V) (ht : t.length = a.ss.length) (hb : ∀ b ∈ t, 0 ≤ b ∧ b ≤ 9) (hi : i < t.length) {b : Int} (h0 : 0 ≤ b) (h9 : b ≤ 9) (hz : acc.length < 2000) {x7 : Option D} :
    ∃ V', GoodV a V' ∧ bodyM1 (mR lj many s.length t (some (.int (i : Nat))) (some (.int (t.getD i 0))) (some (.int b)) x7) (s ++ [.lst acc]) = some (.nx, mR lj many s.length t (some (.int (i : Nat))) (some (.int (t.getD i 0))) (some (.int b)) (some (tun (t.set i b))), s.set lv (.dT V') ++ [.lst (acc ++ (mvOne a t i b).toList.map mvD)]) := by
  have hlj := (List.getElem?_eq_some_iff.mp hj).1
  have hlv := (List.getElem?_eq_some_iff.mp hv).1
  have f1 : fFn 3 fn_retuned (fCons (fV 2) (fCons (fV 4) (fCons (fV 6) fNil))) (mR lj many s.length t (some (.int (i : Nat))) (some (.int (t.getD i 0))) (some (.int b)) x7) (s ++ [.lst acc]) = some (tun (t.set i b), s ++ [.lst acc]) :=
    fn_ok (ds := [tun t, .int (i : Nat), .int b]) (st1 := s ++ [.lst acc]) rfl rfl (retuned_eq hi (by omega))
  have c1 : fTst (fOp neD (fV 6) (fV 5)) (mR lj many s.length t (some (.int (i : Nat))) (some (.int (t.getD i 0))) (some (.int b)) (some (tun (t.set i b)))) (s ++ [.lst acc]) = some (!decide (b = t.getD i 0), s ++ [.lst acc]) := by
    rw [e_tst, op_ok (st1 := s ++ [.lst acc]) (d := .int b) (e := .int (t.getD i 0)) (st2 := s ++ [.lst acc]) rfl rfl e_neI]
    rfl
  by_cases w : b = t.getD i 0
  · rw [decide_eq_true w] at c1
    refine ⟨V, g, ?_⟩
    have m0 : mvOne a t i b = none := by unfold mvOne; rw [if_neg (fun z => z.1 w)]
    rw [m0, set_self hv, Option.toList_none, List.map_nil, List.append_nil]
    exact seqT (set_ok f1) (if_no (and_ff c1))
  · rw [decide_eq_false w] at c1
    obtain ⟨V', g', e'⟩ := allows_eq (s := s ++ [.lst acc]) (lj := lj) (lv := lv) h h4 (by rw [List.getElem?_append_left hlj]; exact hj) (by rw [List.getElem?_append_left hlv]; exact hv) g (t := t.set i b) (by simp [ht]) (set_bound hb h0 h9)
    rw [List.set_append_left _ _ hlv] at e'
    have c2 : fTst (fMeth "Judge" "allows" 2 fn_Judge__allows (fV 0) (fCons (fV 7) fNil)) (mR lj many s.length t (some (.int (i : Nat))) (some (.int (t.getD i 0))) (some (.int b)) (some (tun (t.set i b)))) (s ++ [.lst acc]) = some (allH a (t.set i b), s.set lv (.dT V') ++ [.lst acc]) := by
      have c3 : fMeth "Judge" "allows" 2 fn_Judge__allows (fV 0) (fCons (fV 7) fNil) (mR lj many s.length t (some (.int (i : Nat))) (some (.int (t.getD i 0))) (some (.int b)) (some (tun (t.set i b)))) (s ++ [.lst acc]) = _ := meth_ok (l := lj) rfl (by rw [List.getElem?_append_left hlj]; exact hj) rfl (ds := [tun (t.set i b)]) rfl rfl e'
      rw [e_tst, c3]
      rfl
    refine ⟨V', g', seqT (set_ok f1) ?_⟩
    cases q : allH a (t.set i b) with
    | false =>
      rw [q] at c2
      have m0 : mvOne a t i b = none := by unfold mvOne; rw [if_neg (fun z => by rw [q] at z; exact absurd z.2 (by simp))]
      rw [m0, Option.toList_none, List.map_nil, List.append_nil]
      exact if_no (and_tt c1 c2)
    | true =>
      rw [q] at c2
      have m1 : mvOne a t i b = some (i, b, t.set i b) := by unfold mvOne; rw [if_pos ⟨w, q⟩]
      rw [m1]
      refine if_then (and_tt c1 c2) ?_
      have hl : (s.set lv (.dT V') ++ [.lst acc])[s.length]? = some (.lst acc) := by
        rw [List.getElem?_append_right (by simp)]
        simp
      rw [app_ok (j := 3) (l := s.length) (acc := acc) (d := mvD (i, b, t.set i b)) rfl (tup3 rfl rfl rfl) hl hz]
      have := app_mid (s := s.set lv (.dT V')) (o := .lst acc) (o' := .lst (acc ++ [mvD (i, b, t.set i b)]))
      rw [List.length_set] at this
      rw [this]
      rfl
theorem filterMap_range_succ {α : Type} {f : Nat → Option α} {n : Nat} : (List.range (n + 1)).filterMap f = (List.range n).filterMap f ++ (f n).toList := by
  rw [List.range_succ, List.filterMap_append]
  have : [n].filterMap f = (f n).toList := by
    simp only [List.filterMap_cons, List.filterMap_nil]
    cases f n <;> rfl
  rw [this]
theorem filterMap_le {α β : Type} {f : α → Option β} (l : List α) : (l.filterMap f).length ≤ l.length := List.length_filterMap_le _ _
theorem bodyM2_ok (h : a.Ok) (h4 : a.ss.length ≤ 4) (hj : s[lj]? = some (judO a lv)) (hv : s[lv]? = some (.dT V)) (g : GoodV a V) (ht : t.length = a.ss.length) (hb : ∀ b ∈ t, 0 ≤ b ∧ b ≤ 9) (hm : many ≤ 9) (hi : i < t.length) (hz : acc.length < 1000) {x6 x7 : Option D} :
    ∃ f V' y6 y7, GoodV a V' ∧ (f = .nx ∨ f = .ct) ∧ bodyM2 (mR lj many s.length t (some (.int (i : Nat))) (some (.int (t.getD i 0))) x6 x7) (s ++ [.lst acc]) = some (f, mR lj many s.length t (some (.int (i : Nat))) (some (.int (t.getD i 0))) y6 y7, s.set lv (.dT V') ++ [.lst (acc ++ (mvAt a many t i).map mvD)]) := by
  have hlj := (List.getElem?_eq_some_iff.mp hj).1
  have hlv := (List.getElem?_eq_some_iff.mp hv).1
  have ne : lj ≠ lv := fun e => by subst e; rw [hj] at hv; cases hv
  have c1 : fTst (fOp eqD (fV 5) (fC (.int 0))) (mR lj many s.length t (some (.int (i : Nat))) (some (.int (t.getD i 0))) x6 x7) (s ++ [.lst acc]) = some (decide (t.getD i 0 = 0), s ++ [.lst acc]) := by
    rw [e_tst, op_ok (st1 := s ++ [.lst acc]) (d := .int (t.getD i 0)) (e := .int 0) (st2 := s ++ [.lst acc]) rfl rfl e_eqI]
    rfl
  by_cases w : t.getD i 0 = 0
  · rw [decide_eq_true w] at c1
    refine ⟨.ct, V, x6, x7, g, .inr rfl, ?_⟩
    have m0 : mvAt a many t i = [] := by unfold mvAt; rw [if_pos w]
    rw [m0, set_self hv, List.map_nil, List.append_nil]
    unfold bodyM2
    rw [e_seq, if_then c1 (z := some (.ct, _, _)) rfl]
    rfl
  · rw [decide_eq_false w] at c1
    have rg : iRange2 (fCons (fC (.int 1)) (fCons (fOp addD (fV 1) (fC (.int 1))) fNil)) (mR lj many s.length t (some (.int (i : Nat))) (some (.int (t.getD i 0))) x6 x7) (s ++ [.lst acc]) = some (rangeD 1 many, [], s ++ [.lst acc]) := range2_ok (n := many) rfl (by omega)
    obtain ⟨ρ2, s2, ef, ⟨y6, y7, e1⟩, V', g', e2⟩ := for_fold (tg := .one 6) (b := bodyM1) (src := []) (items := rangeD 1 many)
      (I := fun k ρ s' => (∃ y6 y7, ρ = mR lj many s.length t (some (.int (i : Nat))) (some (.int (t.getD i 0))) y6 y7) ∧ ∃ V', GoodV a V' ∧ s' = s.set lv (.dT V') ++ [.lst (acc ++ ((List.range k).filterMap fun j => mvOne a t i (1 + (j : Nat))).map mvD)])
      (fun _ _ _ _ => Intact.nil) (fun k d hk ρ s' ⟨⟨y6, y7, hρ⟩, V1, g1, hs⟩ => by
        subst hρ; subst hs
        obtain ⟨hk1, ek⟩ := List.getElem?_eq_some_iff.mp hk
        have hk1 : k < many := by simpa [rangeD] using hk1
        have ed : d = .int (1 + (k : Nat)) := by rw [← ek]; simp [rangeD]
        subst ed
        have l1 : (s.set lv (.dT V1)).length = s.length := by simp
        obtain ⟨V2, g2, e2⟩ := bodyM1_ok (s := s.set lv (.dT V1)) (lj := lj) (lv := lv) (V := V1) (many := many) (i := i) (b := 1 + (k : Nat)) (acc := acc ++ ((List.range k).filterMap fun j => mvOne a t i (1 + (j : Nat))).map mvD) (x7 := y7) h h4
          (by rw [List.getElem?_set_ne (fun e => ne e.symm)]; exact hj) (List.getElem?_set_self hlv) g1 ht hb hi (by omega) (by omega)
          (by rw [List.length_append, List.length_map]; have := filterMap_le (f := fun (j : Nat) => mvOne a t i (1 + (j : Nat))) (List.range k); rw [List.length_range] at this; omega)
        rw [l1] at e2
        rw [List.set_set] at e2
        refine ⟨_, rfl, .nx, _, _, e2, .inl rfl, ⟨_, _, rfl⟩, V2, g2, ?_⟩
        rw [filterMap_range_succ, List.map_append, List.append_assoc]) (ρ := mR lj many s.length t (some (.int (i : Nat))) (some (.int (t.getD i 0))) x6 x7) (s := s ++ [.lst acc]) ⟨⟨_, _, rfl⟩, V, g, by rw [set_self hv]; simp⟩
    subst e1; subst e2
    have rl : (rangeD 1 many).length = many := by simp [rangeD]
    rw [rl] at ef
    refine ⟨.nx, V', y6, y7, g', .inl rfl, ?_⟩
    have m1 : mvAt a many t i = (List.range many).filterMap fun j => mvOne a t i (1 + (j : Nat)) := by unfold mvAt; rw [if_neg w]
    rw [m1]
    exact seqT (if_no c1) (for_at rg ef)
theorem mvAt_len (a : Air) (many : Nat) (t : List Int) (i : Nat) : (mvAt a many t i).length ≤ many := by
  unfold mvAt
  by_cases w : t.getD i 0 = 0
  · rw [if_pos w]; simp
  · rw [if_neg w]
    have := filterMap_le (f := fun (j : Nat) => mvOne a t i (1 + (j : Nat))) (List.range many)
    rw [List.length_range] at this
    exact this
theorem mv_fold_len {a : Air} {many : Nat} {t : List Int} : ∀ k : Nat, ((List.range k).flatMap (mvAt a many t)).length ≤ k * many
  | 0 => by simp
  | k + 1 => by
    rw [List.range_succ, List.flatMap_append, List.length_append]
    have := mv_fold_len (a := a) (many := many) (t := t) k
    have h2 := mvAt_len a many t k
    have : ([k].flatMap (mvAt a many t)).length ≤ many := by simpa using h2
    rw [Nat.add_mul]
    omega
theorem mvD_pure (m : BF.Mv) : pureB (mvD m) = true := by
  have : pureL (m.2.2.map D.int) = true := pureL_map (fun _ => rfl) _
  unfold mvD tun
  simp only [pureB, pureL, this, Bool.and_true, Bool.true_and]
theorem moves_from_eq (h : a.Ok) (h4 : a.ss.length ≤ 4) (hj : s[lj]? = some (judO a lv)) (hv : s[lv]? = some (.dT V)) (g : GoodV a V) (ht : t.length = a.ss.length) (hb : ∀ b ∈ t, 0 ≤ b ∧ b ≤ 9) (hm : many ≤ 9) :
    ∃ V', GoodV a V' ∧ fn_moves_from [.ref lj, .int (many : Nat), tun t] s = some (.lst ((mvL a many t).map mvD), s.set lv (.dT V')) := by
  have hlj := (List.getElem?_eq_some_iff.mp hj).1
  have hlv := (List.getElem?_eq_some_iff.mp hv).1
  have ne : lj ≠ lv := fun e => by subst e; rw [hj] at hv; cases hv
  have en : iEnum (fCons (fV 2) fNil) (mR lj many s.length t none none none none) (s ++ [.lst []]) = some (enumD (t.map D.int), [], s ++ [.lst []]) := rfl
  have il : (enumD (t.map D.int)).length = t.length := by simp [enumD]
  obtain ⟨ρ2, s2, ef, ⟨y4, y5, y6, y7, e1⟩, V', g', e2⟩ := for_fold (tg := .many [4, 5]) (b := bodyM2) (src := []) (items := enumD (t.map D.int))
    (I := fun k ρ s' => (∃ y4 y5 y6 y7, ρ = mR lj many s.length t y4 y5 y6 y7) ∧ ∃ V', GoodV a V' ∧ s' = s.set lv (.dT V') ++ [.lst (((List.range k).flatMap (mvAt a many t)).map mvD)])
    (fun _ _ _ _ => Intact.nil) (fun k d hk ρ s' ⟨⟨y4, y5, y6, y7, hρ⟩, V1, g1, hs⟩ => by
      subst hρ; subst hs
      obtain ⟨hk1, ek⟩ := List.getElem?_eq_some_iff.mp hk
      have hk1 : k < t.length := by omega
      have ed : d = .tup [.int (k : Nat), .int (t.getD k 0)] := by
        rw [← ek]
        simp [enumD, List.getElem?_eq_getElem hk1]
      subst ed
      have l1 : (s.set lv (.dT V1)).length = s.length := by simp
      obtain ⟨f, V2, z6, z7, g2, hf, e2⟩ := bodyM2_ok (s := s.set lv (.dT V1)) (lj := lj) (lv := lv) (V := V1) (many := many) (i := k) (acc := ((List.range k).flatMap (mvAt a many t)).map mvD) (x6 := y6) (x7 := y7) h h4
        (by rw [List.getElem?_set_ne (fun e => ne e.symm)]; exact hj) (List.getElem?_set_self hlv) g1 ht hb hm hk1
        (by rw [List.length_map]; have := mv_fold_len (a := a) (many := many) (t := t) k; have : k * many ≤ 4 * 9 := Nat.mul_le_mul (by omega) hm; omega)
      rw [l1, List.set_set] at e2
      refine ⟨_, rfl, f, _, _, e2, hf, ⟨_, _, _, _, rfl⟩, V2, g2, ?_⟩
      rw [List.range_succ, List.flatMap_append, List.map_append]
      simp) (ρ := mR lj many s.length t none none none none) (s := s ++ [.lst []]) ⟨⟨_, _, _, _, rfl⟩, V, g, by rw [set_self hv]; simp⟩
  subst e1; subst e2
  rw [il] at ef
  refine ⟨V', g', ?_⟩
  unfold fn_moves_from
  refine seal_to (d := .ref s.length) (st' := s.set lv (.dT V') ++ [.lst ((mvL a many t).map mvD)]) ?_ ?_ ?_ ?_
  · refine run_at (ρ := [some (.ref lj), some (.int (many : Nat)), some (tun t), none, none, none, none, none]) (ρ' := mR lj many s.length t y4 y5 y6 y7) rfl ?_
    rw [moves_from_form]
    have f0 : fLst fNil [some (.ref lj), some (.int (many : Nat)), some (tun t), none, none, none, none, none] s = some (.ref s.length, s ++ [.lst []]) := by simp [sizeLine_eq]
    refine seqT (ρ1 := mR lj many s.length t none none none none) (st1 := s ++ [.lst []]) (set_ok f0) (seqT (for_at en ef) (ret_ok rfl))
  · exact calm_app (calm_set hv (good_pure g')) (by simp)
  · show seal1 s.length _ (.ref s.length) = _
    unfold seal1
    simp only
    rw [if_neg (Nat.lt_irrefl _)]
    have : (s.set lv (.dT V') ++ [.lst ((mvL a many t).map mvD)])[s.length]? = some (.lst ((mvL a many t).map mvD)) := by
      rw [List.getElem?_append_right (by simp)]
      simp
    rw [this]
    simp only
    rw [if_pos (pureL_map mvD_pure _)]
  · rw [List.take_append_of_le_length (by simp), List.take_of_length_le (by simp)]
end
end EL
set_option Elab.async false
set_option linter.all false
set_option maxRecDepth 100000
set_option maxHeartbeats 400000
namespace EL
open PySem PySem.Spec PyProof.Rows L2 GxR LG FW BF
section
variable {lj lv lf lb i many j : Nat} {st st0 s : Sto} {a : Air} {t u o : List Int} {R : Rows} {nb edge : List (List Int)}
def stepD (a : Air) (p : Stp) : D := .tup [.str (nmAt a p.1), .int p.2]
def rowE (a : Air) (p : List Int × List Stp) : List Key × D := (kT p.1, .lst (p.2.map (stepD a)))
structure WS (a : Air) (st0 : Sto) (R : Rows) (s : Sto) : Prop where
  pre : s.take st0.length = st0
  jd : s[st0.length]? = some (judO a (st0.length + 1))
  vd : ∃ V, s[st0.length + 1]? = some (.dT V) ∧ GoodV a V
  rd : s[st0.length + 2]? = some (.dT (R.map (rowE a)))
theorem take_set_ge {α : Type} {s : List α} {n l : Nat} {x : α} (h : n ≤ l) : (s.set l x).take n = s.take n := by
  rw [List.take_set]
  rw [List.set_eq_of_length_le (by rw [List.length_take]; omega)]
theorem WS.set (w : WS a st0 R s) {l : Nat} {x : O} (h : st0.length + 3 ≤ l) : WS a st0 R (s.set l x) where
  pre := by rw [take_set_ge (by omega)]; exact w.pre
  jd := by rw [List.getElem?_set_ne (by omega)]; exact w.jd
  vd := by rw [List.getElem?_set_ne (by omega)]; exact w.vd
  rd := by rw [List.getElem?_set_ne (by omega)]; exact w.rd
theorem WS.vset (w : WS a st0 R s) {V : List (List Key × D)} (g : GoodV a V) : WS a st0 R (s.set (st0.length + 1) (.dT V)) where
  pre := by rw [take_set_ge (by omega)]; exact w.pre
  jd := by rw [List.getElem?_set_ne (by omega)]; exact w.jd
  vd := by
    obtain ⟨V0, h, _⟩ := w.vd
    exact ⟨V, List.getElem?_set_self (List.getElem?_eq_some_iff.mp h).1, g⟩
  rd := by rw [List.getElem?_set_ne (by omega)]; exact w.rd
theorem WS.rset (w : WS a st0 R s) {R' : Rows} : WS a st0 R' (s.set (st0.length + 2) (.dT (R'.map (rowE a)))) where
  pre := by rw [take_set_ge (by omega)]; exact w.pre
  jd := by rw [List.getElem?_set_ne (by omega)]; exact w.jd
  vd := by rw [List.getElem?_set_ne (by omega)]; exact w.vd
  rd := List.getElem?_set_self (List.getElem?_eq_some_iff.mp w.rd).1
theorem WS.app (w : WS a st0 R s) {x : O} : WS a st0 R (s ++ [x]) where
  pre := by
    have := (List.getElem?_eq_some_iff.mp w.rd).1
    rw [List.take_append_of_le_length (by omega)]; exact w.pre
  jd := by rw [List.getElem?_append_left (List.getElem?_eq_some_iff.mp w.jd).1]; exact w.jd
  vd := by
    obtain ⟨V0, h, g⟩ := w.vd
    exact ⟨V0, by rw [List.getElem?_append_left (List.getElem?_eq_some_iff.mp h).1]; exact h, g⟩
  rd := by rw [List.getElem?_append_left (List.getElem?_eq_some_iff.mp w.rd).1]; exact w.rd
theorem find_map {α β : Type} (f : α → β) (p : β → Bool) : ∀ l : List α, (l.map f).find? p = (l.find? fun x => p (f x)).map f
  | [] => rfl
  | x :: l => by
    rw [List.map_cons, List.find?_cons, List.find?_cons]
    cases p (f x) with
    | true => rfl
    | false => exact find_map f p l
theorem row_val : valD (R.map (rowE a)) (kT t) = (rowO R t).map fun row => D.lst (row.map (stepD a)) := by
  unfold valD rowO
  rw [find_map]
  have : (fun x : List Int × List Stp => decide ((rowE a x).1 = kT t)) = fun p => decide (p.1 = t) := by
    funext x
    exact decide_eq_decide.mpr ⟨fun e => kT_inj e, fun e => by show kT x.1 = kT t; rw [e]⟩
  rw [this]
  cases R.find? fun p => decide (p.1 = t) <;> rfl
theorem row_any : ((R.map (rowE a)).any fun kv => decide (kv.1 = kT t)) = hasK R t := by
  unfold hasK
  rw [List.any_map]
  congr 1
  funext x
  exact decide_eq_decide.mpr ⟨fun e => kT_inj e, fun e => by show kT x.1 = kT t; rw [e]⟩
theorem rowO_isSome : (rowO R t).isSome = hasK R t := by
  cases z : hasK R t with
  | false => rw [rowO_none z]; rfl
  | true =>
    obtain ⟨row, h⟩ := hasK_iff.mp z
    unfold rowO
    rw [Option.isSome_map]
    exact List.find?_isSome.mpr ⟨_, h, by simp⟩
theorem rowO_has (h : hasK R t = true) : rowO R t = some (BF.rowOf R t) := by
  have := rowO_isSome (R := R) (t := t)
  rw [h] at this
  unfold BF.rowOf
  cases z : rowO R t with
  | none => rw [z] at this; cases this
  | some x => rfl
/-- all is small -/
structure Sz (a : Air) (b : Bf) : Prop where
  nd : (b.R.map (·.1)).Nodup
  kb : ∀ p ∈ b.R, p.1.length = a.ss.length ∧ ∀ x ∈ p.1, 0 ≤ x ∧ x ≤ 9
  ln : ∀ p ∈ b.R, p.2.length < b.R.length
  nn : b.nb.length ≤ b.R.length
theorem Sz.len {b : Bf} (h : Sz a b) (h4 : a.ss.length ≤ 4) : b.R.length ≤ 10000 := by
  have : (b.R.map (·.1)).length ≤ (unv 10 a.ss.length).length := nodup_le h.nd fun x hx => by
    obtain ⟨p, hp, rfl⟩ := List.mem_map.mp hx
    exact unv_mem (h.kb p hp).1 fun y hy => by have := (h.kb p hp).2 y hy; omega
  rw [List.length_map, unv_len] at this
  have : 10 ^ a.ss.length ≤ 10 ^ 4 := Nat.pow_le_pow_right (by decide) h4
  omega
theorem rowOf_lt {b : Bf} (h : Sz a b) (hk : hasK b.R t = true) : (BF.rowOf b.R t).length < b.R.length := by
  obtain ⟨row, hr⟩ := hasK_iff.mp hk
  rw [rowOf_eq h.nd hr]
  exact h.ln _ hr
theorem Sz.add {b : Bf} (h : Sz a b) (hk : hasK b.R t = true) {m : BF.Mv} (m1 : m.2.2.length = a.ss.length) (m2 : ∀ x ∈ m.2.2, 0 ≤ x ∧ x ≤ 9) : Sz a (addMv t b m) := by
  unfold addMv
  by_cases z : hasK b.R m.2.2 = true
  · rw [if_pos z]; exact h
  · rw [if_neg z]
    have hl := rowOf_lt h hk
    refine ⟨?_, ?_, ?_, ?_⟩
    · show ((b.R ++ [(m.2.2, BF.rowOf b.R t ++ [(m.1, m.2.1)])]).map (·.1)).Nodup
      rw [List.map_append, List.nodup_append]
      refine ⟨h.nd, by simp, fun x hx y hy e => z ?_⟩
      simp only [List.map_cons, List.map_nil, List.mem_singleton] at hy
      subst hy; subst e
      obtain ⟨p, hp, e⟩ := List.mem_map.mp hx
      exact hasK_iff.mpr ⟨p.2, by rw [← e]; exact hp⟩
    · intro p hp
      rcases List.mem_append.mp hp with hp | hp
      · exact h.kb p hp
      · rw [List.mem_singleton.mp hp]; exact ⟨m1, m2⟩
    · intro p hp
      show p.2.length < (b.R ++ [_]).length
      rw [List.length_append, List.length_singleton]
      rcases List.mem_append.mp hp with hp | hp
      · have := h.ln p hp; omega
      · rw [List.mem_singleton.mp hp]
        show (BF.rowOf b.R t ++ [(m.1, m.2.1)]).length < _
        rw [List.length_append, List.length_singleton]
        omega
    · have := h.nn
      show (b.nb ++ [_]).length ≤ (b.R ++ [_]).length
      simp only [List.length_append, List.length_singleton]
      omega
theorem add_has {b : Bf} {m : BF.Mv} (h : hasK b.R u = true) : hasK (addMv t b m).R u = true := by
  obtain ⟨row, hr⟩ := hasK_iff.mp h
  refine hasK_iff.mpr ⟨row, ?_⟩
  unfold addMv
  by_cases z : hasK b.R m.2.2 = true
  · rw [if_pos z]; exact hr
  · rw [if_neg z]; exact List.mem_append_left _ hr
theorem fold_has {ms : List BF.Mv} : ∀ {b : Bf}, hasK b.R u = true → hasK (ms.foldl (addMv t) b).R u = true := by
  induction ms with
  | nil => exact fun h => h
  | cons m ms ih => exact fun h => ih (add_has h)
theorem app_big {f : FE} {ρ : Rho} {j l : Nat} {acc : List D} {d : D} (hj : ρ[j]? = some (some (.ref l))) (hf : f ρ s = some (d, s)) (hl : s[l]? = some (.lst acc)) (hz : acc.length < 20000) : sExpr (fApp (fV j) f) ρ s = some (.nx, ρ, s.set l (.lst (acc ++ [d]))) := by
  simp only [e_expr, e_app, e_V, hj, Option.bind_some, hf, hl]
  rw [if_pos (by rw [sizeLine_eq]; omega)]
  rfl
abbrev wR (a : Air) (many : Nat) (o : List Int) (n0 : Nat) (x6 x7 x8 x9 x10 x11 : Option D) : Rho := [some a.d, some (.int (many : Nat)), some (tun o), some (.ref n0), some (.lst (nmD a)), some (.ref (n0 + 2)), x6, x7, x8, x9, x10, x11]
noncomputable def bodyV1 : FS := (sIf (fTst (fOp (inT true) (fV 11) (fV 5))) (sSeq (sDPutT (fLz (fStar (fOp getT (fV 5) (fV 8)) (fCons (fTup (fCons (fOp ixD (fV 4) (fV 9)) (fCons (fV 10) fNil))) fNil))) (fV 5) (fV 11))
    (sExpr (fApp (fV 7) (fV 11)))) sNext)
noncomputable def bodyV2 : FS := (sFor (iSeq (fFn 3 fn_moves_from (fCons (fV 3) (fCons (fV 1) (fCons (fV 8) fNil))))) (.many [9, 10, 11]) bodyV1)
noncomputable def bodyV3 : FS := (sSeq (sSet 7 (fLst fNil))
    (sSeq (sFor (iSeq (fV 6)) (.one 8) bodyV2)
    (sSet 6 (fV 7))))
theorem ways_form : sb_ways = (sSeq (sSet 3 (fMake "Judge" 2 fn_Judge____init__ (fCons (fV 0) fNil)))
    (sSeq (sSet 4 (fFn 1 fn_names_of (fCons (fOp ixD (fV 0) (fC (.int 0))) fNil)))
    (sSeq (sSet 5 (fDisp1 (fV 2) (fLz fNil)))
    (sSeq (sSet 6 (fLz (fCons (fV 2) fNil)))
    (sSeq (sWhile 4000 (fTru (fV 6)) bodyV3)
    (sRet (fV 5))))))) := rfl
/-- the frame: what stands beyond stays -/
def FrS (n0 lb : Nat) (s s' : Sto) : Prop := s'.length = s.length ∧ ∀ l, n0 + 3 ≤ l → l ≠ lb → s'[l]? = s[l]?
theorem FrS.refl {n0 : Nat} : FrS n0 lb s s := ⟨rfl, fun _ _ _ => rfl⟩
theorem FrS.trans {n0 : Nat} {s1 s2 s3 : Sto} (h1 : FrS n0 lb s1 s2) (h2 : FrS n0 lb s2 s3) : FrS n0 lb s1 s3 := ⟨h2.1.trans h1.1, fun l a b => (h2.2 l a b).trans (h1.2 l a b)⟩
theorem FrS.set {n0 l : Nat} {x : O} (h : l < n0 + 3 ∨ l = lb) : FrS n0 lb s (s.set l x) := ⟨by simp, fun k a b => List.getElem?_set_ne (by omega)⟩
theorem nmD_at {r : Stn} (e : a.ss[i]? = some r) : ixD (.lst (nmD a)) (.int (i : Nat)) s = some (.str (nmAt a i), s) := by
  unfold nmD
  rw [e_ixZ, atI_nat, List.getElem?_map, e]
  simp [nmAt, e]
theorem bodyV1_ok {b : Bf} {m : BF.Mv} {x6 : Option D} (h4 : a.ss.length ≤ 4) (w : WS a st0 b.R s) (hb : s[lb]? = some (.lst (b.nb.map tun))) (hlb : st0.length + 3 ≤ lb) (z : Sz a b) (ht : hasK b.R t = true) (hm : m.1 < a.ss.length) :
    ∃ s', bodyV1 (wR a many o st0.length x6 (some (.ref lb)) (some (tun t)) (some (.int (m.1 : Nat))) (some (.int m.2.1)) (some (tun m.2.2))) s = some (.nx, wR a many o st0.length x6 (some (.ref lb)) (some (tun t)) (some (.int (m.1 : Nat))) (some (.int m.2.1)) (some (tun m.2.2)), s') ∧
      WS a st0 (addMv t b m).R s' ∧ s'[lb]? = some (.lst ((addMv t b m).nb.map tun)) ∧ FrS st0.length lb s s' := by
  have hz := z.len h4
  have c : fTst (fOp (inT true) (fV 11) (fV 5)) (wR a many o st0.length x6 (some (.ref lb)) (some (tun t)) (some (.int (m.1 : Nat))) (some (.int m.2.1)) (some (tun m.2.2))) s = some (!hasK b.R m.2.2, s) := by
    rw [e_tst, op_ok (st1 := s) (d := tun m.2.2) (e := .ref (st0.length + 2)) (st2 := s) (z := (.bl (!hasK b.R m.2.2), s)) rfl rfl (by
      unfold inT
      rw [key_tun]
      simp only [Option.bind_some]
      rw [dict_ok w.rd]
      simp only [Option.bind_some]
      rw [row_val, Option.isSome_map, rowO_isSome]
      rfl)]
    rfl
  cases q : hasK b.R m.2.2 with
  | true =>
    rw [q] at c
    have e0 : addMv t b m = b := by unfold addMv; rw [if_pos q]
    rw [e0]
    exact ⟨s, if_no c, w, hb, .refl⟩
  | false =>
    rw [q] at c
    have e0 : addMv t b m = ⟨b.R ++ [(m.2.2, BF.rowOf b.R t ++ [(m.1, m.2.1)])], b.nb ++ [m.2.2]⟩ := by unfold addMv; rw [if_neg (by rw [q]; simp)]
    rw [e0]
    have hl := rowOf_lt z ht
    obtain ⟨r, er⟩ : ∃ r, a.ss[m.1]? = some r := ⟨_, List.getElem?_eq_getElem hm⟩
    have f1 : fOp getT (fV 5) (fV 8) (wR a many o st0.length x6 (some (.ref lb)) (some (tun t)) (some (.int (m.1 : Nat))) (some (.int m.2.1)) (some (tun m.2.2))) s = some (.lst ((BF.rowOf b.R t).map (stepD a)), s) := by
      refine op_ok (st1 := s) (d := .ref (st0.length + 2)) (e := tun t) (st2 := s) rfl rfl ?_
      unfold getT
      rw [dict_ok w.rd]
      simp only [Option.bind_some]
      rw [key_tun]
      simp only [Option.bind_some]
      rw [row_val, rowO_has ht]
      rfl
    have f2 : fTup (fCons (fOp ixD (fV 4) (fV 9)) (fCons (fV 10) fNil)) (wR a many o st0.length x6 (some (.ref lb)) (some (tun t)) (some (.int (m.1 : Nat))) (some (.int m.2.1)) (some (tun m.2.2))) s = some (stepD a (m.1, m.2.1), s) :=
      tup2 (op_ok (st1 := s) (d := .lst (nmD a)) (e := .int (m.1 : Nat)) (st2 := s) rfl rfl (nmD_at er)) rfl
    have f3 : fLz (fStar (fOp getT (fV 5) (fV 8)) (fCons (fTup (fCons (fOp ixD (fV 4) (fV 9)) (fCons (fV 10) fNil))) fNil)) (wR a many o st0.length x6 (some (.ref lb)) (some (tun t)) (some (.int (m.1 : Nat))) (some (.int m.2.1)) (some (tun m.2.2))) s = some (.lst ((BF.rowOf b.R t ++ [(m.1, m.2.1)]).map (stepD a)), s) := by
      unfold fLz fStar
      rw [f1]
      simp only [Option.bind_some]
      rw [e_cons, f2]
      simp only [Option.bind_some, e_nil]
      show (if ((BF.rowOf b.R t).map (stepD a) ++ [stepD a (m.1, m.2.1)]).length ≤ sizeLine then _ else none) = _
      rw [if_pos (by rw [List.length_append, List.length_map, List.length_singleton, sizeLine_eq]; omega), List.map_append]
      rfl
    have e1 : putD (b.R.map (rowE a)) (kT m.2.2) (.lst ((BF.rowOf b.R t ++ [(m.1, m.2.1)]).map (stepD a))) = (b.R ++ [(m.2.2, BF.rowOf b.R t ++ [(m.1, m.2.1)])]).map (rowE a) := by
      unfold putD
      rw [row_any, if_neg (by rw [q]; simp), List.map_append (f := rowE a)]
      rfl
    have pt : sDPutT (fLz (fStar (fOp getT (fV 5) (fV 8)) (fCons (fTup (fCons (fOp ixD (fV 4) (fV 9)) (fCons (fV 10) fNil))) fNil))) (fV 5) (fV 11) (wR a many o st0.length x6 (some (.ref lb)) (some (tun t)) (some (.int (m.1 : Nat))) (some (.int m.2.1)) (some (tun m.2.2))) s = some (.nx, wR a many o st0.length x6 (some (.ref lb)) (some (tun t)) (some (.int (m.1 : Nat))) (some (.int m.2.1)) (some (tun m.2.2)), s.set (st0.length + 2) (.dT ((b.R ++ [(m.2.2, BF.rowOf b.R t ++ [(m.1, m.2.1)])]).map (rowE a)))) := by
      unfold sDPutT
      rw [f3]
      simp only [Option.bind_some, e_V, List.getElem?_cons_zero, List.getElem?_cons_succ]
      rw [dict_ok w.rd, key_tun]
      simp only [Option.bind_some]
      rw [if_pos (by rw [List.length_map, sizeLine_eq]; omega), e1]
    have hb2 : (s.set (st0.length + 2) (.dT ((b.R ++ [(m.2.2, BF.rowOf b.R t ++ [(m.1, m.2.1)])]).map (rowE a))))[lb]? = some (.lst (b.nb.map tun)) := by rw [List.getElem?_set_ne (by omega)]; exact hb
    have ap := app_big (s := s.set (st0.length + 2) (.dT ((b.R ++ [(m.2.2, BF.rowOf b.R t ++ [(m.1, m.2.1)])]).map (rowE a)))) (f := fV 11) (ρ := wR a many o st0.length x6 (some (.ref lb)) (some (tun t)) (some (.int (m.1 : Nat))) (some (.int m.2.1)) (some (tun m.2.2))) (j := 7) (l := lb) (d := tun m.2.2) rfl rfl hb2 (by rw [List.length_map]; have := z.nn; omega)
    refine ⟨_, if_then c (seqT pt ap), (w.rset).set hlb, ?_, ?_⟩
    · rw [List.getElem?_set_self (List.getElem?_eq_some_iff.mp hb2).1, List.map_append]
      rfl
    · exact (FrS.set (.inl (by omega))).trans (FrS.set (.inr rfl))
end
end EL
set_option Elab.async false
set_option linter.all false
set_option maxRecDepth 100000
set_option maxHeartbeats 400000
namespace EL
open PySem PySem.Spec PyProof.Rows L2 GxR LG FW BF
section
variable {lj lv lf lb i many j : Nat} {st st0 s : Sto} {a : Air} {t u o : List Int} {R : Rows} {nb edge : List (List Int)}
theorem mv_mem {m : BF.Mv} (h : m ∈ mvL a many t) : m.1 < t.length ∧ 1 ≤ m.2.1 ∧ m.2.1 ≤ many ∧ m.2.2 = t.set m.1 m.2.1 ∧ t.getD m.1 0 ≠ 0 ∧ m.2.1 ≠ t.getD m.1 0 ∧ allH a m.2.2 = true := by
  obtain ⟨i, hi, h⟩ := List.mem_flatMap.mp h
  have hi := List.mem_range.mp hi
  unfold mvAt at h
  by_cases w : t.getD i 0 = 0
  · rw [if_pos w] at h; simp at h
  · rw [if_neg w] at h
    obtain ⟨k, hk, h⟩ := List.mem_filterMap.mp h
    have hk := List.mem_range.mp hk
    unfold mvOne at h
    split at h
    · rename_i z
      cases h
      exact ⟨hi, by show (1 : Int) ≤ 1 + (k : Nat); omega, by show (1 : Int) + (k : Nat) ≤ many; omega, rfl, w, z.1, z.2⟩
    · cases h
theorem mem_mv {b : Int} (hi : i < t.length) (b1 : 1 ≤ b) (b2 : b ≤ many) (h0 : t.getD i 0 ≠ 0) (hn : b ≠ t.getD i 0) (ha : allH a (t.set i b) = true) : (i, b, t.set i b) ∈ mvL a many t := by
  refine List.mem_flatMap.mpr ⟨i, List.mem_range.mpr hi, ?_⟩
  unfold mvAt
  rw [if_neg h0]
  refine List.mem_filterMap.mpr ⟨(b - 1).toNat, List.mem_range.mpr (by omega), ?_⟩
  have : (1 : Int) + ((b - 1).toNat : Nat) = b := by omega
  rw [this]
  unfold mvOne
  rw [if_pos ⟨hn, ha⟩]
theorem foldl_take_succ {α β : Type} {f : β → α → β} {b : β} {l : List α} {k : Nat} {x : α} (h : l[k]? = some x) : (l.take (k + 1)).foldl f b = f ((l.take k).foldl f b) x := by
  rw [List.take_succ, h, List.foldl_append]
  rfl
theorem bodyV2_ok {b : Bf} {x6 x9 x10 x11 : Option D} (h : a.Ok) (h4 : a.ss.length ≤ 4) (hm : many ≤ 9) (w : WS a st0 b.R s) (hb : s[lb]? = some (.lst (b.nb.map tun))) (hlb : st0.length + 3 ≤ lb) (z : Sz a b) (ht : hasK b.R t = true) :
    ∃ s' y9 y10 y11, bodyV2 (wR a many o st0.length x6 (some (.ref lb)) (some (tun t)) x9 x10 x11) s = some (.nx, wR a many o st0.length x6 (some (.ref lb)) (some (tun t)) y9 y10 y11, s') ∧
      WS a st0 (doT (mvL a many) b t).R s' ∧ s'[lb]? = some (.lst ((doT (mvL a many) b t).nb.map tun)) ∧ FrS st0.length lb s s' ∧ Sz a (doT (mvL a many) b t) := by
  obtain ⟨row, hr⟩ := hasK_iff.mp ht
  obtain ⟨tl, tb⟩ := z.kb _ hr
  simp only at tl tb
  obtain ⟨V, vd, g⟩ := w.vd
  obtain ⟨V', g', e'⟩ := moves_from_eq h h4 w.jd vd g tl tb hm
  have w' := w.vset g'
  have f1 : iSeq (fFn 3 fn_moves_from (fCons (fV 3) (fCons (fV 1) (fCons (fV 8) fNil)))) (wR a many o st0.length x6 (some (.ref lb)) (some (tun t)) x9 x10 x11) s = some ((mvL a many t).map mvD, [], s.set (st0.length + 1) (.dT V')) := by
    have f2 : fFn 3 fn_moves_from (fCons (fV 3) (fCons (fV 1) (fCons (fV 8) fNil))) (wR a many o st0.length x6 (some (.ref lb)) (some (tun t)) x9 x10 x11) s = some (.lst ((mvL a many t).map mvD), s.set (st0.length + 1) (.dT V')) := fn_ok (ds := [.ref st0.length, .int (many : Nat), tun t]) (st1 := s) rfl rfl e'
    unfold iSeq
    rw [f2]
    rfl
  obtain ⟨ρ2, s2, ef, ⟨y9, y10, y11, e1⟩, i1, i2, i3, i4, i5⟩ := for_fold (tg := .many [9, 10, 11]) (b := bodyV1) (src := []) (items := (mvL a many t).map mvD)
    (I := fun k ρ s' => (∃ y9 y10 y11, ρ = wR a many o st0.length x6 (some (.ref lb)) (some (tun t)) y9 y10 y11) ∧ WS a st0 (((mvL a many t).take k).foldl (addMv t) b).R s' ∧ s'[lb]? = some (.lst ((((mvL a many t).take k).foldl (addMv t) b).nb.map tun)) ∧ FrS st0.length lb s s' ∧ Sz a (((mvL a many t).take k).foldl (addMv t) b) ∧ hasK (((mvL a many t).take k).foldl (addMv t) b).R t = true)
    (fun _ _ _ _ => Intact.nil) (fun k d hk ρ s' ⟨⟨y9, y10, y11, hρ⟩, i1, i2, i3, i4, i5⟩ => by
      subst hρ
      rw [List.getElem?_map, Option.map_eq_some_iff] at hk
      obtain ⟨m, hk, rfl⟩ := hk
      obtain ⟨m1, m2, m3, m4, _⟩ := mv_mem (List.mem_of_getElem? hk)
      obtain ⟨s2, e2, j1, j2, j3⟩ := bodyV1_ok (o := o) (many := many) (m := m) (x6 := x6) h4 i1 i2 hlb i4 i5 (by omega)
      refine ⟨_, rfl, .nx, _, s2, e2, .inl rfl, ⟨_, _, _, rfl⟩, ?_⟩
      rw [foldl_take_succ hk]
      exact ⟨j1, j2, i3.trans j3, i4.add i5 (by rw [m4]; simp [tl]) (by rw [m4]; exact set_bound tb (by omega) (by omega)), add_has i5⟩) (ρ := wR a many o st0.length x6 (some (.ref lb)) (some (tun t)) x9 x10 x11) (s := s.set (st0.length + 1) (.dT V'))
    ⟨⟨_, _, _, rfl⟩, w', by rw [List.getElem?_set_ne (by omega)]; exact hb, FrS.set (.inl (by omega)), z, ht⟩
  subst e1
  rw [List.length_map, List.take_length] at i1 i2 i4
  exact ⟨s2, y9, y10, y11, for_at f1 ef, i1, i2, i3, i4⟩
/-- where the edge stands -/
def EdgeAt (n0 : Nat) (x6 : D) (edge : List (List Int)) (s : Sto) : Prop := x6 = .lst (edge.map tun) ∨ ∃ le, x6 = .ref le ∧ n0 + 3 ≤ le ∧ s[le]? = some (.lst (edge.map tun))
theorem doT_has {adj : T → List BF.Mv} {b : Bf} (h : hasK b.R u = true) : hasK (doT adj b t).R u = true := fold_has h
theorem bodyV3_ok {R : Rows} {x6 : D} {x7 x8 x9 x10 x11 : Option D} (h : a.Ok) (h4 : a.ss.length ≤ 4) (hm : many ≤ 9) (w : WS a st0 R s) (z : Sz a ⟨R, []⟩) (he : ∀ t ∈ edge, hasK R t = true) (hx : EdgeAt st0.length x6 edge s) :
    ∃ s' x6' y7 y8 y9 y10 y11, bodyV3 (wR a many o st0.length (some x6) x7 x8 x9 x10 x11) s = some (.nx, wR a many o st0.length (some x6') y7 y8 y9 y10 y11, s') ∧
      WS a st0 (rnd (mvL a many) R edge).R s' ∧ EdgeAt st0.length x6' (rnd (mvL a many) R edge).nb s' ∧ Sz a ⟨(rnd (mvL a many) R edge).R, []⟩ ∧ ∀ t ∈ (rnd (mvL a many) R edge).nb, hasK (rnd (mvL a many) R edge).R t = true := by
  have hl := (List.getElem?_eq_some_iff.mp w.rd).1
  have f0 : fLst fNil (wR a many o st0.length (some x6) x7 x8 x9 x10 x11) s = some (.ref s.length, s ++ [.lst []]) := by simp [sizeLine_eq]
  obtain ⟨src, f1, hsrc⟩ : ∃ src : Src, iSeq (fV 6) (wR a many o st0.length (some x6) (some (.ref s.length)) x8 x9 x10 x11) (s ++ [.lst []]) = some (edge.map tun, src, s ++ [.lst []]) ∧ ∀ p ∈ src, st0.length + 3 ≤ p.1 ∧ p.1 ≠ s.length ∧ (s ++ [.lst []])[p.1]? = some (.lst p.2) := by
    rcases hx with rfl | ⟨le, rfl, l1, l2⟩
    · exact ⟨[], rfl, by simp⟩
    · have ll := (List.getElem?_eq_some_iff.mp l2).1
      have l3 : (s ++ [O.lst []])[le]? = some (.lst (edge.map tun)) := by rw [List.getElem?_append_left ll]; exact l2
      refine ⟨[(le, edge.map tun)], ?_, fun p hp => by rw [List.mem_singleton.mp hp]; exact ⟨l1, by show le ≠ _; omega, l3⟩⟩
      unfold iSeq
      rw [e_V]
      simp only [List.getElem?_cons_zero, List.getElem?_cons_succ, Option.bind_some]
      rw [l3]
  obtain ⟨ρ2, s2, ef, ⟨y8, y9, y10, y11, e1⟩, i1, i2, i3, i4, i5⟩ := for_fold (tg := .one 8) (b := bodyV2) (src := src) (items := edge.map tun)
    (I := fun k ρ s' => (∃ y8 y9 y10 y11, ρ = wR a many o st0.length (some x6) (some (.ref s.length)) y8 y9 y10 y11) ∧ WS a st0 ((edge.take k).foldl (doT (mvL a many)) ⟨R, []⟩).R s' ∧ s'[s.length]? = some (.lst (((edge.take k).foldl (doT (mvL a many)) ⟨R, []⟩).nb.map tun)) ∧ FrS st0.length s.length (s ++ [.lst []]) s' ∧ Sz a ((edge.take k).foldl (doT (mvL a many)) ⟨R, []⟩) ∧ ∀ t, hasK R t = true → hasK ((edge.take k).foldl (doT (mvL a many)) ⟨R, []⟩).R t = true)
    (fun k ρ s' ⟨_, _, _, i3, _⟩ p hp => by
      obtain ⟨p1, p2, p3⟩ := hsrc p hp
      rw [i3.2 p.1 p1 p2]
      exact p3) (fun k d hk ρ s' ⟨⟨y8, y9, y10, y11, hρ⟩, i1, i2, i3, i4, i5⟩ => by
      subst hρ
      rw [List.getElem?_map, Option.map_eq_some_iff] at hk
      obtain ⟨t, hk, rfl⟩ := hk
      have ht := he t (List.mem_of_getElem? hk)
      obtain ⟨s2, z9, z10, z11, e2, j1, j2, j3, j4⟩ := bodyV2_ok (o := o) (many := many) (x6 := some x6) (x9 := y9) (x10 := y10) (x11 := y11) h h4 hm i1 i2 (by omega) i4 (i5 t ht)
      refine ⟨_, rfl, .nx, _, s2, e2, .inl rfl, ⟨_, _, _, _, rfl⟩, ?_⟩
      rw [foldl_take_succ hk]
      exact ⟨j1, j2, i3.trans j3, j4, fun u hu => doT_has (i5 u hu)⟩) (ρ := wR a many o st0.length (some x6) (some (.ref s.length)) x8 x9 x10 x11) (s := s ++ [.lst []])
    ⟨⟨_, _, _, _, rfl⟩, w.app, by simp, FrS.refl, z, fun _ h => h⟩
  subst e1
  rw [List.length_map, List.take_length] at i1 i2 i4
  refine ⟨s2, .ref s.length, some (.ref s.length), y8, y9, y10, y11, ?_, i1, .inr ⟨_, rfl, by omega, i2⟩, ⟨i4.nd, i4.kb, i4.ln, Nat.zero_le _⟩, fun t ht => ?_⟩
  · exact seqT (ρ1 := wR a many o st0.length (some x6) (some (.ref s.length)) x8 x9 x10 x11) (st1 := s ++ [.lst []]) (set_ok f0) (seqT (for_at f1 ef) (set_ok rfl))
  · have key : ∀ {edge : List (List Int)} {b : Bf}, (∀ t ∈ b.nb, hasK b.R t = true) → ∀ t ∈ (edge.foldl (doT (mvL a many)) b).nb, hasK (edge.foldl (doT (mvL a many)) b).R t = true := by
      intro edge
      induction edge with
      | nil => exact fun h => h
      | cons v edge ih =>
        intro b hb
        refine ih ?_
        have key2 : ∀ {ms : List BF.Mv} {b : Bf}, (∀ t ∈ b.nb, hasK b.R t = true) → ∀ t ∈ (ms.foldl (addMv v) b).nb, hasK (ms.foldl (addMv v) b).R t = true := by
          intro ms
          induction ms with
          | nil => exact fun h => h
          | cons m ms ih2 =>
            intro b hb
            refine ih2 fun t ht => ?_
            unfold addMv at ht ⊢
            by_cases q : hasK b.R m.2.2 = true
            · rw [if_pos q] at ht ⊢; exact hb t ht
            · rw [if_neg q] at ht ⊢
              rcases List.mem_append.mp ht with ht | ht
              · obtain ⟨row, hr⟩ := hasK_iff.mp (hb t ht)
                exact hasK_iff.mpr ⟨row, List.mem_append_left _ hr⟩
              · rw [List.mem_singleton.mp ht]
                exact hasK_iff.mpr ⟨_, List.mem_append_right _ (List.mem_singleton.mpr rfl)⟩
        exact key2 hb
    exact key (b := ⟨R, []⟩) (by simp) t ht
theorem while_ok (h : a.Ok) (h4 : a.ss.length ≤ 4) (hm : many ≤ 9) {R' : Rows} : ∀ (n : Nat) {R : Rows} {edge : List (List Int)} {s : Sto} {x6 : D} {x7 x8 x9 x10 x11 : Option D}, WS a st0 R s → Sz a ⟨R, []⟩ → (∀ t ∈ edge, hasK R t = true) → EdgeAt st0.length x6 edge s → bfsO (mvL a many) n R edge = some R' →
    ∃ s' y6 y7 y8 y9 y10 y11, whileD (fTru (fV 6)) bodyV3 n (wR a many o st0.length (some x6) x7 x8 x9 x10 x11) s = some (.nx, wR a many o st0.length y6 y7 y8 y9 y10 y11, s') ∧ WS a st0 R' s' ∧ Sz a ⟨R', []⟩
  | 0, R, edge, s, x6, x7, x8, x9, x10, x11, w, z, he, hx, e => by cases e
  | n + 1, R, edge, s, x6, x7, x8, x9, x10, x11, w, z, he, hx, e => by
    have c : fTru (fV 6) (wR a many o st0.length (some x6) x7 x8 x9 x10 x11) s = some (!edge.isEmpty, s) := by
      unfold fTru
      rw [e_V]
      simp only [List.getElem?_cons_zero, List.getElem?_cons_succ, Option.bind_some]
      rcases hx with rfl | ⟨le, rfl, l1, l2⟩
      · cases edge <;> rfl
      · unfold truD
        simp only [listOf, l2]
        cases edge <;> rfl
    unfold bfsO at e
    by_cases q : edge = []
    · rw [if_pos q] at e
      cases e
      subst q
      refine ⟨s, some x6, x7, x8, x9, x10, x11, ?_, w, z⟩
      unfold whileD
      rw [c]
      rfl
    · rw [if_neg q] at e
      obtain ⟨s1, x6', y7, y8, y9, y10, y11, e1, w1, k1, z1, he1⟩ := bodyV3_ok (o := o) (x7 := x7) (x8 := x8) (x9 := x9) (x10 := x10) (x11 := x11) h h4 hm w z he hx
      obtain ⟨s2, y6, z7, z8, z9, z10, z11, e2, w2, z2⟩ := while_ok h h4 hm n (x7 := y7) (x8 := y8) (x9 := y9) (x10 := y10) (x11 := y11) w1 z1 he1 k1 e
      refine ⟨s2, y6, z7, z8, z9, z10, z11, ?_, w2, z2⟩
      have ce : (!edge.isEmpty) = true := by cases edge with
        | nil => exact absurd rfl q
        | cons x l => rfl
      rw [ce] at c
      unfold whileD
      rw [c]
      simp only [Option.bind_some, if_true]
      rw [e1]
      exact e2
end
end EL
set_option Elab.async false
set_option linter.all false
set_option maxRecDepth 100000
set_option maxHeartbeats 400000
namespace EL
open PySem PySem.Spec PyProof.Rows L2 GxR LG FW BF
section
variable {lj lv lf lb i many j : Nat} {st st0 s : Sto} {a : Air} {t u o : List Int} {R : Rows} {nb edge : List (List Int)}
theorem adj_in {c : Nat} (hm : many ≤ c) (ht : t.length = a.ss.length) (hb : ∀ x ∈ t, 0 ≤ x ∧ x ≤ (c : Nat)) {m : BF.Mv} (h : m ∈ mvL a many t) : m.2.2.length = a.ss.length ∧ ∀ x ∈ m.2.2, 0 ≤ x ∧ x ≤ (c : Nat) := by
  obtain ⟨m1, m2, m3, m4, _⟩ := mv_mem h
  rw [m4]
  exact ⟨by simp [ht], set_bound hb (by omega) (by omega)⟩
theorem unv_iff {b n : Nat} : t ∈ unv b n ↔ t.length = n ∧ ∀ x ∈ t, 0 ≤ x ∧ x < (b : Int) := by
  constructor
  · induction n generalizing t with
    | zero => intro h; simp [unv] at h; subst h; simp
    | succ n ih =>
      intro h
      unfold unv at h
      obtain ⟨j, hj, h⟩ := List.mem_flatMap.mp h
      have hj := List.mem_range.mp hj
      obtain ⟨t', hh, rfl⟩ := List.mem_map.mp h
      obtain ⟨h1, h2⟩ := ih hh
      refine ⟨by simp [h1], fun x hx => ?_⟩
      rcases List.mem_cons.mp hx with rfl | hx
      · omega
      · exact h2 x hx
  · exact fun h => unv_mem h.1 h.2
/-- the rounds come to an end -/
theorem rounds (h4 : a.ss.length ≤ 4) (m5 : many ≤ 5) (ho : o.length = a.ss.length) (hb : ∀ x ∈ o, 0 ≤ x ∧ x ≤ (many : Nat)) : ∃ R k, bfsO (mvL a many) 4000 [(o, [])] [o] = some R ∧ BI (mvL a many) o k R [] ∧ ∀ p ∈ R, p.1.length = a.ss.length ∧ ∀ x ∈ p.1, 0 ≤ x ∧ x ≤ (many : Nat) := by
  have ou : o ∈ unv (many + 1) a.ss.length := unv_iff.mpr ⟨ho, fun x hx => by have := hb x hx; omega⟩
  have lu : (unv (many + 1) a.ss.length).length ≤ 1296 := by
    rw [unv_len]
    have h1 : (many + 1) ^ a.ss.length ≤ 6 ^ a.ss.length := Nat.pow_le_pow_left (by omega) _
    have h2 : 6 ^ a.ss.length ≤ 6 ^ 4 := Nat.pow_le_pow_right (by decide) h4
    omega
  obtain ⟨R, k, e, hB, hu⟩ := bfs_some (adj := mvL a many) (o := o) (U := unv (many + 1) a.ss.length) (fun t ht m hm => by
      obtain ⟨t1, t2⟩ := unv_iff.mp ht
      obtain ⟨m1, m2⟩ := adj_in (c := many) (Nat.le_refl _) t1 (fun x hx => by have := t2 x hx; omega) hm
      exact unv_iff.mpr ⟨m1, fun x hx => by have := m2 x hx; omega⟩) ou 4000 0 [(o, [])] [o] bi_start (fun p hp => by rw [List.mem_singleton.mp hp]; exact ou) (.inl (by simp only [List.length_singleton]; omega))
  exact ⟨R, k, e, hB, fun p hp => by
    obtain ⟨h1, h2⟩ := unv_iff.mp (hu p hp)
    exact ⟨h1, fun x hx => by have := h2 x hx; omega⟩⟩
theorem runN_at {N : Nat} {sb : FS} {ds : List D} {ρ ρ' : Rho} {st1 : Sto} (hρ : ds.map some ++ List.replicate (N - ds.length) none = ρ) (h : sb ρ st = some (.nx, ρ', st1)) : runD N sb ds st = some (.non, st1) := by
  unfold runD
  rw [hρ, h]
  rfl
theorem put1 {v : D} : putFD "ears" v [] = [(("ears" : Str), v)] := rfl
theorem nm_ne : ¬ ("ears" : Str) = "verdicts" := by decide
theorem put2 {v w : D} : putFD "verdicts" w [(("ears" : Str), v)] = [(("ears" : Str), v), (("verdicts" : Str), w)] := by
  unfold putFD
  rw [if_neg nm_ne]
  rfl
theorem fldT_ok {c f : Str} {fv fo : FE} {ρ : Rho} {v : D} {l : Nat} {st1 : Sto} {fs : List (Str × D)} (h1 : fv ρ st = some (v, st1)) (h2 : fo ρ st1 = some (.ref l, st1)) (h3 : st1[l]? = some (.ins c fs)) (h4 : fs.length < 1000) : sFldT c f fv fo ρ st = some (.nx, ρ, st1.set l (.ins c (putFD f v fs))) := by
  unfold sFldT
  rw [h1]
  simp only [Option.bind_some]
  rw [h2]
  simp only [Option.bind_some]
  rw [ins_ok h3]
  simp only [Option.bind_some]
  rw [if_pos h4]
theorem init_judge (h : a.Ok) : fn_Judge____init__ [.ref st.length, a.d] (st ++ [.ins "Judge" []]) = some (.non, st ++ [judO a (st.length + 1), .dT []]) := by
  have f1 : fFn 1 fn_ears_of (fCons (fV 1) fNil) [some (.ref st.length), some a.d] (st ++ [.ins "Judge" []]) = some (.lst (earsL a), st ++ [.ins "Judge" []]) := fn_ok (ds := [a.d]) (st1 := st ++ [.ins "Judge" []]) rfl rfl (ears_eq h)
  have f2 : fV 0 [some (.ref st.length), some a.d] (st ++ [.ins "Judge" []]) = some (.ref st.length, st ++ [.ins "Judge" []]) := rfl
  have s1 := fldT_ok (c := "Judge") (f := "ears") (fs := []) f1 f2 (by simp) (by simp)
  rw [app_mid, put1] at s1
  have f3 : fDNew [some (.ref st.length), some a.d] (st ++ [.ins "Judge" [("ears", .lst (earsL a))]]) = some (.ref (st.length + 1), st ++ .ins "Judge" [("ears", .lst (earsL a))] :: [.dT []]) := by
    unfold fDNew
    rw [List.length_append, List.append_assoc]
    rfl
  have f4 : fV 0 [some (.ref st.length), some a.d] (st ++ .ins "Judge" [("ears", .lst (earsL a))] :: [.dT []]) = some (.ref st.length, st ++ .ins "Judge" [("ears", .lst (earsL a))] :: [.dT []]) := rfl
  have s2 := fldT_ok (c := "Judge") (f := "verdicts") (fs := [("ears", .lst (earsL a))]) f3 f4 (by simp) (by simp)
  rw [set_mid, put2] at s2
  unfold fn_Judge____init__
  exact runN_at (ρ := [some (.ref st.length), some a.d]) (ρ' := [some (.ref st.length), some a.d]) rfl (seqT s1 s2)
theorem make_ok {c : Str} {n : Nat} {fn : HA} {fr : FA} {ρ : Rho} {ds : List D} {s2 : Sto} (h1 : fr ρ st = some (ds, st)) (hn : ds.length + 1 = n) (h2 : fn (.ref st.length :: ds) (st ++ [.ins c []]) = some (.non, s2)) : fMake c n fn fr ρ st = some (.ref st.length, s2) := by
  unfold fMake
  rw [h1]
  simp only [Option.bind_some]
  rw [if_pos hn, h2]
  rfl
theorem make_judge {ρ : Rho} (h : a.Ok) (hρ : ρ[0]? = some (some a.d)) : fMake "Judge" 2 fn_Judge____init__ (fCons (fV 0) fNil) ρ st = some (.ref st.length, st ++ [judO a (st.length + 1), .dT []]) :=
  make_ok (ds := [a.d]) (by rw [e_cons, e_V, hρ]; rfl) rfl (init_judge h)
theorem ways_chain {n : Nat} {f1 f2 f3 f4 : FE} {ta : FT} {b : FS} {x0 x1 x2 d3 d4 d5 d6 : D} {s1 s2 s3 s4 s5 : Sto} {y6 y7 y8 y9 y10 y11 : Option D}
    (h1 : f1 [some x0, some x1, some x2, none, none, none, none, none, none, none, none, none] st = some (d3, s1))
    (h2 : f2 [some x0, some x1, some x2, some d3, none, none, none, none, none, none, none, none] s1 = some (d4, s2))
    (h3 : f3 [some x0, some x1, some x2, some d3, some d4, none, none, none, none, none, none, none] s2 = some (d5, s3))
    (h4 : f4 [some x0, some x1, some x2, some d3, some d4, some d5, none, none, none, none, none, none] s3 = some (d6, s4))
    (h5 : whileD ta b n [some x0, some x1, some x2, some d3, some d4, some d5, some d6, none, none, none, none, none] s4 = some (.nx, [some x0, some x1, some x2, some d3, some d4, some d5, y6, y7, y8, y9, y10, y11], s5)) :
    sSeq (sSet 3 f1) (sSeq (sSet 4 f2) (sSeq (sSet 5 f3) (sSeq (sSet 6 f4) (sSeq (sWhile n ta b) (sRet (fV 5)))))) [some x0, some x1, some x2, none, none, none, none, none, none, none, none, none] st = some (.rt d5, [some x0, some x1, some x2, some d3, some d4, some d5, y6, y7, y8, y9, y10, y11], s5) :=
  seqT (set_ok h1) (seqT (set_ok h2) (seqT (set_ok h3) (seqT (set_ok h4) (seqT h5 (ret_ok rfl)))))
theorem ways_eq (h : a.Ok) (h4 : a.ss.length ≤ 4) (m9 : many ≤ 9) (ho : o.length = a.ss.length) (hb : ∀ x ∈ o, 0 ≤ x ∧ x ≤ 9) (e : bfsO (mvL a many) 4000 [(o, [])] [o] = some R) : ∃ s', fn_ways [a.d, .int (many : Nat), tun o] st = some (.ref (st.length + 2), s') ∧ WS a st R s' ∧ Sz a ⟨R, []⟩ := by
  have w0 : WS a st [(o, [])] (st ++ [judO a (st.length + 1), .dT [], .dT [(kT o, .lst [])]]) := by
    refine ⟨by simp, by simp, ⟨[], by simp, .nil⟩, ?_⟩
    simp [rowE]
  have z0 : Sz a ⟨[(o, [])], []⟩ := ⟨by simp, fun p hp => by rw [List.mem_singleton.mp hp]; exact ⟨ho, hb⟩, fun p hp => by rw [List.mem_singleton.mp hp]; simp, by simp⟩
  obtain ⟨s', y6, y7, y8, y9, y10, y11, ew, w1, z1⟩ := while_ok (o := o) (x7 := none) (x8 := none) (x9 := none) (x10 := none) (x11 := none) h h4 m9 4000 w0 z0 (fun t ht => by rw [List.mem_singleton.mp ht]; exact hasK_iff.mpr ⟨[], by simp⟩) (x6 := .lst [tun o]) (.inl rfl) e
  refine ⟨s', ?_, w1, z1⟩
  unfold fn_ways
  refine run_at (ρ := [some a.d, some (.int (many : Nat)), some (tun o), none, none, none, none, none, none, none, none, none]) (ρ' := wR a many o st.length y6 y7 y8 y9 y10 y11) rfl ?_
  have f2 : fFn 1 fn_names_of (fCons (fOp ixD (fV 0) (fC (.int 0))) fNil) [some a.d, some (.int (many : Nat)), some (tun o), some (.ref st.length), none, none, none, none, none, none, none, none] (st ++ [judO a (st.length + 1), .dT []]) = some (.lst (nmD a), st ++ [judO a (st.length + 1), .dT []]) := fn_ok (ds := [ssD a.ss]) (st1 := st ++ [judO a (st.length + 1), .dT []]) rfl rfl (names_of_eq h)
  have f3 : fDisp1 (fV 2) (fLz fNil) [some a.d, some (.int (many : Nat)), some (tun o), some (.ref st.length), some (.lst (nmD a)), none, none, none, none, none, none, none] (st ++ [judO a (st.length + 1), .dT []]) = some (.ref (st.length + 2), st ++ [judO a (st.length + 1), .dT [], .dT [(kT o, .lst [])]]) := by
    unfold fDisp1
    have l1 : (st ++ [judO a (st.length + 1), O.dT []]).length = st.length + 2 := by simp
    have g1 : fLz fNil [some a.d, some (.int (many : Nat)), some (tun o), some (.ref st.length), some (.lst (nmD a)), none, none, none, none, none, none, none] (st ++ [judO a (st.length + 1), .dT []] ++ [.dT []]) = some (.lst [], st ++ [judO a (st.length + 1), .dT []] ++ [.dT []]) := by
      unfold fLz
      rw [e_nil]
      simp only [Option.bind_some]
      rw [if_pos (by rw [sizeLine_eq]; decide)]
    simp only [e_V, List.getElem?_cons_zero, List.getElem?_cons_succ, Option.bind_some]
    rw [g1]
    simp only [Option.bind_some]
    rw [key_tun]
    simp only [Option.bind_some]
    have l2 : (st ++ [judO a (st.length + 1), O.dT []] ++ [O.dT []])[(st ++ [judO a (st.length + 1), O.dT []]).length]? = some (.dT []) := by simp
    rw [l2]
    simp only
    rw [app_mid, l1]
    simp
  have f4 : fLz (fCons (fV 2) fNil) [some a.d, some (.int (many : Nat)), some (tun o), some (.ref st.length), some (.lst (nmD a)), some (.ref (st.length + 2)), none, none, none, none, none, none] (st ++ [judO a (st.length + 1), .dT [], .dT [(kT o, .lst [])]]) = some (.lst [tun o], st ++ [judO a (st.length + 1), .dT [], .dT [(kT o, .lst [])]]) := by
    unfold fLz
    rw [e_cons]
    simp only [e_V, e_nil, List.getElem?_cons_zero, List.getElem?_cons_succ, Option.bind_some]
    rw [if_pos (by rw [sizeLine_eq]; simp)]
  rw [ways_form]
  exact ways_chain (make_judge h rfl) f2 f3 f4 ew
theorem is_tuning_ok (h8 : a.ss.length ≤ 8) (ht : t.length = a.ss.length) (hb : ∀ x ∈ t, 0 ≤ x ∧ x ≤ 9) : fn_is_tuning [a.d, tun t] st = some (.bl true, st) := by
  unfold fn_is_tuning
  refine seal_same ?_ rfl
  refine run_at (ρ := [some a.d, some (tun t), none]) (ρ' := [some a.d, some (tun t), some (ssD a.ss)]) rfl ?_
  have i0 : fOp ixD (fV 0) (fC (.int 0)) [some a.d, some (tun t), none] st = some (ssD a.ss, st) := rfl
  have lz : lenD [ssD a.ss] st = some (.int (a.ss.length : Nat), st) := by unfold ssD; rw [e_lenT, List.length_map]
  have q : fFn 2 fn_is_tuple_of (fCons (fV 1) (fCons (fCall lenD (fCons (fV 2) fNil)) fNil)) [some a.d, some (tun t), some (ssD a.ss)] st = some (.bl true, st) := by
    refine fn_ok (ds := [tun t, .int (a.ss.length : Nat)]) (st1 := st) ?_ rfl (tuple_of_eq (by rw [List.length_map, ht]))
    simp only [e_cons, e_V, e_call, e_nil, List.getElem?_cons_zero, List.getElem?_cons_succ, Option.bind_some, lz]
  have A := allG_true (st := st) (fi := iSeq (fV 1)) (fe := fFn 3 fn_is_whole (fCons (fV 0) (fCons (fC (.int 0)) (fCons (fC (.int 9)) fNil)))) (cap := [none]) (ρ := [some a.d, some (tun t), some (ssD a.ss)]) (items := t.map D.int) rfl rfl fun d hd => by
    obtain ⟨x, hx, rfl⟩ := List.mem_map.mp hd
    exact fn_ok (ds := [.int x, .int 0, .int 9]) (st1 := st) rfl rfl (whole_eq (hb x hx).1 (hb x hx).2)
  refine seqT (set_ok i0) (ret_ok ?_)
  show fAnd _ _ [some a.d, some (tun t), some (ssD a.ss)] st = _
  rw [e_and, q]
  simp only [Option.bind_some, e_asB, if_true]
  exact A
theorem expr_ok {f : FE} {ρ : Rho} {d : D} {st1 : Sto} (h : f ρ st = some (d, st1)) : sExpr f ρ st = some (.nx, ρ, st1) := by rw [e_expr, h]; rfl
theorem check_bands_ok (h4 : a.ss.length ≤ 4) (m1 : 1 ≤ many) (m5 : many ≤ 5) : fn_check_bands [a.d, .int (many : Nat)] st = some (.non, st) := by
  unfold fn_check_bands
  refine seal_same ?_ rfl
  refine runN_at (ρ := [some a.d, some (.int (many : Nat))]) (ρ' := [some a.d, some (.int (many : Nat))]) rfl ?_
  have f1 : fFn 2 fn_check_size (fCons (fV 0) (fCons (fC (.int 4)) fNil)) [some a.d, some (.int (many : Nat))] st = some (.non, st) := fn_ok (ds := [a.d, .int 4]) (st1 := st) rfl rfl (check_le (by omega))
  have f2 : fFn 3 fn_is_whole (fCons (fV 1) (fCons (fC (.int 1)) (fCons (fC (.int 5)) fNil))) [some a.d, some (.int (many : Nat))] st = some (.bl true, st) := fn_ok (ds := [.int (many : Nat), .int 1, .int 5]) (st1 := st) rfl rfl (whole_eq (by omega) (by omega))
  exact seqT (expr_ok f1) (if_no (tnot_ok f2))
theorem anyG_false {fi : FI} {fe : FE} {cap : List (Option Nat)} {ρ : Rho} {items : List D} {y : Option D} (hi : fi ρ st = some (items, [], st)) (hc : capD cap ρ = [none, y]) (h : ∀ d ∈ items, fe [some d, y] st = some (.bl false, st)) : fAnyG fi (.one 0) fe cap ρ st = some (.bl false, st) := by
  unfold fAnyG
  rw [hi]
  simp only [Option.bind_some, hc]
  have key : ∀ (items : List D) (x : Option D), (∀ d ∈ items, fe [some d, y] st = some (.bl false, st)) → anyD (.one 0) fe [] items [x, y] st = some (false, st) := by
    intro items
    induction items with
    | nil => intro x _; unfold anyD; rw [if_pos Intact.nil]
    | cons d items ih =>
      intro x hd
      unfold anyD
      rw [if_pos Intact.nil]
      show Option.bind (fe [some d, y] st) _ = _
      rw [hd d List.mem_cons_self]
      simp only [Option.bind_some, e_asB, Bool.false_eq_true, if_false]
      exact ih _ fun e he => hd e (List.mem_cons_of_mem _ he)
  rw [key items none h]
  rfl
theorem check_tuning_ok (h : a.Ok) (ht : t.length = a.ss.length) (m9 : many ≤ 9) (hb : ∀ x ∈ t, 0 ≤ x ∧ x ≤ (many : Nat)) (ha : allH a t = true) : fn_check_tuning [a.d, .int (many : Nat), tun t] st = some (.non, st) := by
  unfold fn_check_tuning
  refine seal_same ?_ rfl
  refine runN_at (ρ := [some a.d, some (.int (many : Nat)), some (tun t)]) (ρ' := [some a.d, some (.int (many : Nat)), some (tun t)]) rfl ?_
  have f1 : fFn 2 fn_is_tuning (fCons (fV 0) (fCons (fV 2) fNil)) [some a.d, some (.int (many : Nat)), some (tun t)] st = some (.bl true, st) := fn_ok (ds := [a.d, tun t]) (st1 := st) rfl rfl (is_tuning_ok h.ss.len.2 ht fun x hx => by have := hb x hx; omega)
  have f2 : fAnyG (iSeq (fV 2)) (.one 0) (fOp gtD (fV 0) (fV 1)) [none, some 1] [some a.d, some (.int (many : Nat)), some (tun t)] st = some (.bl false, st) := by
    refine anyG_false (items := t.map D.int) (y := some (.int (many : Nat))) rfl rfl fun d hd => ?_
    obtain ⟨x, hx, rfl⟩ := List.mem_map.mp hd
    rw [op_ok (st1 := st) (d := .int x) (e := .int (many : Nat)) (st2 := st) rfl rfl e_gtI, decide_eq_false (by have := hb x hx; omega)]
  have f3 : fFn 2 fn_all_heard (fCons (fFn 1 fn_ears_of (fCons (fV 0) fNil)) (fCons (fV 2) fNil)) [some a.d, some (.int (many : Nat)), some (tun t)] st = some (.bl true, st) := by
    refine fn_ok (ds := [.lst (earsL a), tun t]) (st1 := st) ?_ rfl (by rw [all_heard_eq h ht, ha])
    rw [e_cons, fn_ok (n := 1) (ds := [a.d]) (st1 := st) rfl rfl (ears_eq h)]
    rfl
  refine seqT (if_no (tnot_ok f1)) (seqT (if_no ?_) (if_no (tnot_ok f3)))
  rw [e_tst, f2]
  rfl
def silL (t : List Int) : List Nat := (List.range t.length).filter fun i => decide (t.getD i 0 = 0)
theorem silent_eq (ht : t.length ≤ 8) : fn_silent_seats [tun t] st = some (.lst ((silL t).map fun i => D.int (i : Nat)), st) := by
  unfold fn_silent_seats
  refine seal_same ?_ (pureL_map (fun _ => rfl) _)
  refine run_at (ρ := [some (tun t), none, none]) (ρ' := [some (tun t), none, none]) rfl (ret_ok ?_)
  have en : enumD (t.map D.int) = (List.range t.length).map fun i => D.tup [.int (i : Nat), .int (t.getD i 0)] := by
    unfold enumD
    apply List.ext_getElem?
    intro j
    rw [List.getElem?_mapIdx, List.getElem?_map, List.getElem?_map]
    by_cases hl : j < t.length
    · simp [hl]
    · have h2 : t[j]? = none := List.getElem?_eq_none_iff.mpr (by omega)
      simp [h2, List.getElem?_eq_none_iff.mpr (show (List.range t.length).length ≤ j by simp; omega)]
  refine lcz_ok (items := enumD (t.map D.int)) (src := []) (st1 := st) rfl ?_ (by rw [List.length_map]; unfold silL; have := List.length_filter_le (fun i => decide (t.getD i 0 = 0)) (List.range t.length); rw [List.length_range] at this; omega)
  rw [en]
  exact lcE (b := fun i => decide (t.getD i 0 = 0)) (w := fun i => D.int (i : Nat)) (enc := fun i => D.tup [.int (i : Nat), .int (t.getD i 0)]) Intact.nil fun i hi => ⟨[some (tun t), some (.int (i : Nat)), some (.int (t.getD i 0))], rfl, rfl, fun _ => rfl⟩
theorem sil_okB (t : List Int) : okB 60 (.lst ((silL t).map fun i => D.int (i : Nat))) = true := okBs_of (m := 59) fun d hd => by
  obtain ⟨i, _, rfl⟩ := List.mem_map.mp hd
  rfl
def rowR (a : Air) : Option (List Stp) → D
  | none => .non
  | some row => .lst (row.map (stepD a))
theorem rowR_pure (r : Option (List Stp)) : pureB (rowR a r) = true := by
  cases r with
  | none => rfl
  | some row => exact pureL_map (fun _ => rfl) _
theorem moves_eq (h : a.Ok) (h4 : a.ss.length ≤ 4) (m1 : 1 ≤ many) (m5 : many ≤ 5) (ht : t.length = a.ss.length) (hb : ∀ x ∈ t, 0 ≤ x ∧ x ≤ (many : Nat)) (ha : allH a t = true) (hu : u.length = a.ss.length) (hub : ∀ x ∈ u, 0 ≤ x ∧ x ≤ (many : Nat)) (hua : allH a u = true) (hs : silL t = silL u) (e : bfsO (mvL a many) 4000 [(t, [])] [t] = some R) :
    fn_moves [a.d, .int (many : Nat), tun t, tun u] st = some (rowR a (rowO R u), st) := by
  have l8 := h.ss.len.2
  obtain ⟨s', ew, w, z⟩ := ways_eq (st := st) h h4 (by omega) ht (fun x hx => by have := hb x hx; omega) e
  have pre : s' = st ++ s'.drop st.length := by
    have := List.take_append_drop st.length s'
    rw [w.pre] at this
    exact this.symm
  unfold fn_moves
  refine seal_more (more := s'.drop st.length) ?_ (rowR_pure _)
  rw [← pre]
  refine run_at (ρ := [some a.d, some (.int (many : Nat)), some (tun t), some (tun u)]) (ρ' := [some a.d, some (.int (many : Nat)), some (tun t), some (tun u)]) rfl ?_
  have f1 : fFn 2 fn_check_bands (fCons (fV 0) (fCons (fV 1) fNil)) [some a.d, some (.int (many : Nat)), some (tun t), some (tun u)] st = some (.non, st) := fn_ok (ds := [a.d, .int (many : Nat)]) (st1 := st) rfl rfl (check_bands_ok h4 m1 m5)
  have f2 : fFn 3 fn_check_tuning (fCons (fV 0) (fCons (fV 1) (fCons (fV 2) fNil))) [some a.d, some (.int (many : Nat)), some (tun t), some (tun u)] st = some (.non, st) := fn_ok (ds := [a.d, .int (many : Nat), tun t]) (st1 := st) rfl rfl (check_tuning_ok h ht (by omega) hb ha)
  have f3 : fFn 3 fn_check_tuning (fCons (fV 0) (fCons (fV 1) (fCons (fV 3) fNil))) [some a.d, some (.int (many : Nat)), some (tun t), some (tun u)] st = some (.non, st) := fn_ok (ds := [a.d, .int (many : Nat), tun u]) (st1 := st) rfl rfl (check_tuning_ok h hu (by omega) hub hua)
  have f4 : fFn 1 fn_silent_seats (fCons (fV 2) fNil) [some a.d, some (.int (many : Nat)), some (tun t), some (tun u)] st = some (.lst ((silL t).map fun i => D.int (i : Nat)), st) := fn_ok (ds := [tun t]) (st1 := st) rfl rfl (silent_eq (by omega))
  have f5 : fFn 1 fn_silent_seats (fCons (fV 3) fNil) [some a.d, some (.int (many : Nat)), some (tun t), some (tun u)] st = some (.lst ((silL t).map fun i => D.int (i : Nat)), st) := by
    rw [hs]
    exact fn_ok (ds := [tun u]) (st1 := st) rfl rfl (silent_eq (by omega))
  have f6 : fFn 3 fn_ways (fCons (fV 0) (fCons (fV 1) (fCons (fV 2) fNil))) [some a.d, some (.int (many : Nat)), some (tun t), some (tun u)] st = some (.ref (st.length + 2), s') := fn_ok (ds := [a.d, .int (many : Nat), tun t]) (st1 := st) rfl rfl ew
  have f7 : fDGet1 (fFn 3 fn_ways (fCons (fV 0) (fCons (fV 1) (fCons (fV 2) fNil)))) (fV 3) [some a.d, some (.int (many : Nat)), some (tun t), some (tun u)] st = some (rowR a (rowO R u), s') := by
    unfold fDGet1
    rw [f6]
    simp only [Option.bind_some]
    rw [dict_ok w.rd]
    simp only [Option.bind_some, e_V, List.getElem?_cons_zero, List.getElem?_cons_succ]
    unfold getN
    rw [dict_ok w.rd]
    simp only [Option.bind_some]
    rw [key_tun]
    simp only [Option.bind_some]
    rw [row_val]
    cases rowO R u <;> rfl
  exact seqT (expr_ok f1) (seqT (expr_ok f2) (seqT (expr_ok f3) (seqT (if_no (ne_same (sil_okB t) f4 f5)) (ret_ok f7))))
end
end EL
set_option Elab.async false
set_option linter.all false
set_option maxRecDepth 100000
set_option maxHeartbeats 400000
namespace EL
open PySem PySem.Spec PyProof.Rows L2 GxR LG FW BF
section
variable {i many j : Nat} {st s : Sto} {a : Air} {t t' u o : List Int} {R R' : Rows} {r : Stn}
/-- all gaps are the same -/
def Sim (t t' : List Int) : Prop := t.length = t'.length ∧ ∀ i j, gapI (t.getD i 0) (t.getD j 0) = gapI (t'.getD i 0) (t'.getD j 0)
theorem gap_self (b : Int) : gapI b b = if b = 0 then 2 else 0 := by
  unfold gapI
  by_cases h : b = 0
  · simp [h]
  · rw [if_neg (by simp [h]), if_neg h, Int.sub_self]
    rfl
theorem Sim.zero (S : Sim t t') (i : Nat) : t.getD i 0 = 0 ↔ t'.getD i 0 = 0 := by
  have := S.2 i i
  rw [gap_self, gap_self] at this
  generalize t.getD i 0 = x at this ⊢
  generalize t'.getD i 0 = y at this ⊢
  by_cases h1 : x = 0 <;> by_cases h2 : y = 0 <;> simp [h1, h2] at this ⊢
theorem zip_congr {α : Type} {f g : α → Int → Int} (hl : t.length = t'.length) : ∀ {oth : List α}, (∀ p, ∀ j, f p (t.getD j 0) = g p (t'.getD j 0)) → List.zipWith f oth t = List.zipWith g oth t' := by
  intro oth h
  apply List.ext_getElem?
  intro j
  rw [List.getElem?_zipWith, List.getElem?_zipWith]
  by_cases hj : j < t.length
  · have e1 : t[j]? = some (t.getD j 0) := by simp [hj]
    have e2 : t'[j]? = some (t'.getD j 0) := by have : j < t'.length := by omega
                                                simp [this]
    rw [e1, e2]
    cases oth[j]? with
    | none => rfl
    | some p => exact congrArg some (h p j)
  · have e1 : t[j]? = none := List.getElem?_eq_none_iff.mpr (by omega)
    have e2 : t'[j]? = none := List.getElem?_eq_none_iff.mpr (by omega)
    rw [e1, e2]
    cases oth[j]? <;> rfl
theorem Sim.heard (S : Sim t t') : heardB a t i r = heardB a t' i r := by
  unfold heardB disI
  rw [zip_congr (f := fun p o => pick3 p (gapI (t.getD i 0) o)) (g := fun p o => pick3 p (gapI (t'.getD i 0) o)) S.1 fun p j => by rw [S.2 i j]]
  have : decide (t.getD i 0 ≠ 0) = decide (t'.getD i 0 ≠ 0) := decide_eq_decide.mpr (by rw [ne_eq, ne_eq, S.zero i])
  rw [this]
theorem Sim.ok (S : Sim t t') (x : Stn × Nat) : okAt a t x = okAt a t' x := by
  unfold okAt
  rw [S.heard, decide_eq_decide.mpr (S.zero x.2)]
theorem Sim.all (S : Sim t t') : allH a t = allH a t' := by
  unfold allH
  congr 1
  funext x
  exact S.ok x
theorem Sim.dis (S : Sim t t') : disL a t i r = disL a t' i r := by
  unfold disL
  congr 1
  funext x
  unfold disAt disB
  rw [S.2 i x.2]
theorem Sim.send (S : Sim t t') : sendL a t r = sendL a t' r := by
  unfold sendL
  congr 2
  funext x
  unfold sendB
  rw [decide_eq_decide.mpr (show t.getD x.2 0 ≠ 0 ↔ t'.getD x.2 0 ≠ 0 by rw [ne_eq, ne_eq, S.zero])]
theorem getD_bd {c : Int} (h0 : 0 ≤ c) (hb : ∀ x ∈ t, 0 ≤ x ∧ x ≤ c) (i : Nat) : 0 ≤ t.getD i 0 ∧ t.getD i 0 ≤ c := by
  rw [List.getD_eq_getElem?_getD]
  cases e : t[i]? with
  | none => exact ⟨Int.le_refl _, h0⟩
  | some x => exact hb x (List.mem_of_getElem? e)
end
end EL
set_option Elab.async false
set_option linter.all false
set_option maxRecDepth 100000
set_option maxHeartbeats 400000
namespace EL
open PySem PySem.Spec PyProof.Rows L2 GxR LG FW BF
section
variable {i many j lb : Nat} {st s : Sto} {a : Air} {t t' u o : List Int} {R R' : Rows} {r : Stn}
theorem draw_tun {ρ : Rho} {p q : Nat} {fx : FE} {K bands : Int} (h : a.Ok) (hp : ρ[p]? = some (some (.ref lb))) (hq : ρ[q]? = some (some a.d)) (hx : ∀ s, fx ρ s = some (.int bands, s)) (b1 : 1 ≤ bands) (b2 : bands ≤ 9) (hK : 1 ≤ K) (hK2 : K ≤ 1000) (b : Bg lb s) :
    ∃ t s', fFn 4 fn__law_tuning (fCons (fV p) (fCons (fV q) (fCons fx (fCons (fOp eqD (fFn 2 fn__law_take (fCons (fV p) (fCons (fC (.int K)) fNil))) (fC (.int 0))) fNil)))) ρ s = some (tun t, s') ∧ t.length = a.ss.length ∧ (∀ z ∈ t, 0 ≤ z ∧ z ≤ bands) ∧ Go lb s s' := by
  obtain ⟨⟨y3, s3⟩, q3, ⟨z, e3, _⟩, g3⟩ := take_spec (lb := lb) (m := K) hK (by omega) b
  simp only at e3 g3
  subst e3
  have b3 := g3.bg b.lt
  obtain ⟨⟨y4, s4⟩, q4, ⟨t, e4, ht, h9, _⟩, g4⟩ := tuning_spec (a := a) (bands := bands) (sil := decide (z = 0)) b3 b1 b2 h.ss.len.2
  simp only at e4 g4
  subst e4
  refine ⟨t, s4, ?_, ht, h9, g3.trans g4⟩
  refine fn_ok (ds := [.ref lb, a.d, .int bands, .bl (decide (z = 0))]) (st1 := s3) ?_ rfl q4
  have f1 : fOp eqD (fFn 2 fn__law_take (fCons (fV p) (fCons (fC (.int K)) fNil))) (fC (.int 0)) ρ s = some (.bl (decide (z = 0)), s3) := by
    refine op_ok (st1 := s3) (d := .int z) (fn_ok (ds := [.ref lb, .int K]) (st1 := s) ?_ rfl q3) (e := .int 0) (st2 := s3) rfl e_eqI
    rw [e_cons, e_V, hp]
    rfl
  rw [e_cons, e_V, hp]
  simp only [Option.bind_some]
  rw [e_cons, e_V, hq]
  simp only [Option.bind_some]
  rw [e_cons, hx]
  simp only [Option.bind_some]
  rw [e_cons, f1]
  rfl
theorem unh_nil {ρ : Rho} {p q : Nat} (h : a.Ok) (ht : t.length = a.ss.length) (hb : ∀ b ∈ t, 0 ≤ b ∧ b ≤ 9) (hp : ρ[p]? = some (some a.d)) (hq : ρ[q]? = some (some (tun t))) : fTst (fOp eqD (fFn 2 fn__law_unheard (fCons (fV p) (fCons (fV q) fNil))) (fLz fNil)) ρ s = some (allH a t, s) := by
  have f1 : fFn 2 fn__law_unheard (fCons (fV p) (fCons (fV q) fNil)) ρ s = some (.lst ((unhN a t).map fun j => D.int (j : Nat)), s) := by
    refine fn_ok (ds := [a.d, tun t]) (st1 := s) ?_ rfl (lunheard_eq h ht hb)
    rw [e_cons, e_V, hp]
    simp only [Option.bind_some]
    rw [e_cons, e_V, hq]
    rfl
  have f2 : fLz fNil ρ s = some (.lst [], s) := by
    unfold fLz
    rw [e_nil]
    simp only [Option.bind_some]
    rw [if_pos (by rw [sizeLine_eq]; decide)]
  rw [e_tst, op_ok (st1 := s) f1 f2 (eq_nilL (okBs_of fun d hd => by obtain ⟨i, _, rfl⟩ := List.mem_map.mp hd; rfl))]
  have : ((unhN a t).map fun j => D.int (j : Nat)).isEmpty = allH a t := by
    have := unhN_nil (a := a) (t := t)
    cases z : allH a t with
    | true => rw [this.mpr z]; rfl
    | false =>
      cases w : unhN a t with
      | nil => rw [this.mp w] at z; cases z
      | cons x l => rfl
  rw [this]
  rfl
abbrev gR (lb lf : Nat) (a : Air) (many : Nat) (x4 x5 : Option D) : Rho := [some (.ref lb), some a.d, some (.int (many : Nat)), some (.ref lf), x4, x5]
noncomputable def bodyGT : FS := (sSeq (sSet 5 (fFn 4 fn__law_tuning (fCons (fV 0) (fCons (fV 1) (fCons (fV 2) (fCons (fOp eqD (fFn 2 fn__law_take (fCons (fV 0) (fCons (fC (.int 3)) fNil))) (fC (.int 0))) fNil))))))
    (sIf (fTst (fOp eqD (fFn 2 fn__law_unheard (fCons (fV 1) (fCons (fV 5) fNil))) (fLz fNil))) (sExpr (fApp (fV 3) (fV 5))) sNext))
theorem good_form : sb__law_good_tunings = (sSeq (sSet 3 (fLst fNil))
    (sSeq (sFor (iRange1 (fCons (fC (.int (12 : Nat))) fNil)) (.one 4) bodyGT)
    (sRet (fSl (fV 3) oNone (oSome (fC (.int 4))))))) := rfl
/-- all who send are heard by it -/
def Gd (a : Air) (many : Nat) (t : List Int) : Prop := t.length = a.ss.length ∧ (∀ x ∈ t, 0 ≤ x ∧ x ≤ (many : Nat)) ∧ allH a t = true
theorem good_spec (h : a.Ok) (m1 : 1 ≤ many) (m9 : many ≤ 9) (b : Bg lb st) : Ok (fn__law_good_tunings [.ref lb, a.d, .int (many : Nat)] st) fun p => (∃ ts : List (List Int), p.1 = .lst (ts.map tun) ∧ ts.length ≤ 4 ∧ ∀ t ∈ ts, Gd a many t) ∧ Go lb st p.2 := by
  unfold fn__law_good_tunings
  refine seal_ok (P := fun d => ∃ ts : List (List Int), d = .lst (ts.map tun) ∧ ts.length ≤ 4 ∧ ∀ t ∈ ts, Gd a many t) ?_
  obtain ⟨ρ2, s2, ef, ⟨y4, y5, e1⟩, ts, s0, g0, e2, l0, h0⟩ := for_fold (tg := .one 4) (b := bodyGT) (src := []) (items := rangeD 0 12)
    (I := fun k ρ s' => (∃ y4 y5, ρ = gR lb st.length a many y4 y5) ∧ ∃ (ts : List (List Int)) (s0 : Sto), Go lb st s0 ∧ s' = s0 ++ [.lst (ts.map tun)] ∧ ts.length ≤ k ∧ ∀ t ∈ ts, Gd a many t)
    (fun _ _ _ _ => Intact.nil) (fun k d hk ρ s' ⟨⟨y4, y5, hρ⟩, ts, s0, g0, hs, hl, ht⟩ => by
      subst hρ; subst hs
      have hk1 : k < 12 := by have := (List.getElem?_eq_some_iff.mp hk).1; simpa [rangeD] using this
      have b0 := (g0.bg b.lt).app [.lst (ts.map tun)]
      obtain ⟨t, s3, q3, t1, t2, g3⟩ := draw_tun (ρ := gR lb st.length a many (some d) y5) (p := 0) (q := 1) (fx := fV 2) (K := 3) (bands := (many : Nat)) h rfl rfl (fun _ => rfl) (by omega) (by omega) (by decide) (by decide) b0
      obtain ⟨s4, rfl, g4⟩ := Go.app (by rw [g0.len]; exact b.lt) g3
      have l4 : s4.length = st.length := by rw [g4.len, g0.len]
      have c := unh_nil (s := s4 ++ [.lst (ts.map tun)]) (ρ := gR lb st.length a many (some d) (some (tun t))) (p := 1) (q := 5) h t1 (fun x hx => by have := t2 x hx; omega) rfl rfl
      refine ⟨_, rfl, .nx, gR lb st.length a many (some d) (some (tun t)), ?_⟩
      cases z : allH a t with
      | false =>
        rw [z] at c
        exact ⟨_, seqT (set_ok q3) (if_no c), .inl rfl, ⟨_, _, rfl⟩, ts, s4, g0.trans g4, rfl, by omega, ht⟩
      | true =>
        rw [z] at c
        have ap := app_ok (s := s4 ++ [.lst (ts.map tun)]) (f := fV 5) (ρ := gR lb st.length a many (some d) (some (tun t))) (j := 3) (l := st.length) (acc := ts.map tun) (d := tun t) rfl rfl (by rw [← l4]; exact at_new) (by rw [List.length_map]; omega)
        have em : (s4 ++ [O.lst (ts.map tun)]).set st.length (.lst (ts.map tun ++ [tun t])) = s4 ++ [.lst ((ts ++ [t]).map tun)] := by
          rw [← l4, app_mid, List.map_append]
          rfl
        rw [em] at ap
        refine ⟨_, seqT (set_ok q3) (if_then c ap), .inl rfl, ⟨_, _, rfl⟩, ts ++ [t], s4, g0.trans g4, rfl, by simp; omega, fun u hu => ?_⟩
        rcases List.mem_append.mp hu with hu | hu
        · exact ht u hu
        · rw [List.mem_singleton.mp hu]; exact ⟨t1, t2, z⟩) (ρ := gR lb st.length a many none none) (s := st ++ [.lst []]) ⟨⟨_, _, rfl⟩, [], st, .refl b, rfl, Nat.le_refl _, by simp⟩
  subst e1; subst e2
  have l4 : s0.length = st.length := g0.len
  have f0 : fLst fNil [some (.ref lb), some a.d, some (.int (many : Nat)), none, none, none] st = some (.ref st.length, st ++ [.lst []]) := by simp [sizeLine_eq]
  have rg : iRange1 (fCons (fC (.int (12 : Nat))) fNil) (gR lb st.length a many none none) (st ++ [.lst []]) = some (rangeD 0 12, [], st ++ [.lst []]) := range_ok (n := 12) rfl (by decide)
  have f5 : fSl (fV 3) oNone (oSome (fC (.int 4))) (gR lb st.length a many y4 y5) (s0 ++ [.lst (ts.map tun)]) = some (.lst ((ts.take 4).map tun), s0 ++ [.lst (ts.map tun)]) := by
    have hl : listOf (.ref st.length) (s0 ++ [.lst (ts.map tun)]) = some (ts.map tun) := by
      unfold listOf
      simp only
      rw [← l4, at_new]
    simp only [e_sl, e_V, e_C, e_oN, e_oS, List.getElem?_cons_zero, List.getElem?_cons_succ, Option.bind_some]
    show Option.map _ (listOf (.ref st.length) (s0 ++ [.lst (ts.map tun)])) = _
    rw [hl, Option.map_some, cut_hi (by decide), List.map_take]
    rfl
  refine ⟨(.lst ((ts.take 4).map tun), s0 ++ [.lst (ts.map tun)]), ?_, ⟨ts.take 4, rfl, by rw [List.length_take]; omega, fun t ht => h0 t (List.mem_of_mem_take ht)⟩, show pureL _ = true from pureL_map pure_tun _, s0, _, rfl, g0⟩
  refine run_at (ρ := [some (.ref lb), some a.d, some (.int (many : Nat)), none, none, none]) (ρ' := gR lb st.length a many y4 y5) rfl ?_
  rw [good_form]
  exact seqT (ρ1 := gR lb st.length a many none none) (set_ok f0) (seqT (for_at rg ef) (ret_ok f5))
end
end EL
set_option Elab.async false
set_option linter.all false
set_option maxRecDepth 100000
set_option maxHeartbeats 400000
namespace EL
open PySem PySem.Spec PyProof.Rows L2 GxR LG FW BF
section
variable {i many j lb : Nat} {st s : Sto} {a : Air} {t t' u o : List Int} {R R' : Rows} {r : Stn}
theorem lc_map {α : Type} {fi : FI} {tg : Tg} {fe : FE} {vs : List Nat} {ρ : Rho} {l : List α} {enc w : α → D} (hi : fi ρ st = some (l.map enc, [], st)) (h : ∀ x ∈ l, ∃ ρ1, tgD tg (enc x) (wipeD ρ vs) = some ρ1 ∧ fe ρ1 st = some (w x, st)) (hz : l.length ≤ 1000) : fLcZ fi tg fYes fe vs ρ st = some (.lst (l.map w), st) := by
  have := lcE (tg := tg) (tt := fYes) (fe := fe) (src := []) (ρ := wipeD ρ vs) (st := st) (enc := enc) (b := fun _ => true) (w := w) (l := l) Intact.nil fun x hx => by
    obtain ⟨ρ1, h1, h2⟩ := h x hx
    exact ⟨ρ1, h1, rfl, fun _ => h2⟩
  rw [List.filter_eq_self.mpr (fun _ _ => rfl)] at this
  exact lcz_ok hi this (by rw [List.length_map]; exact hz)
theorem gt_ok {f g : FE} {ρ : Rho} {x y : Int} (h1 : f ρ st = some (.int x, st)) (h2 : g ρ st = some (.int y, st)) : fOp gtD f g ρ st = some (.bl (decide (y < x)), st) := op_ok h1 h2 e_gtI
theorem tst_ok {f : FE} {ρ : Rho} {b : Bool} {st1 : Sto} (h : f ρ st = some (.bl b, st1)) : fTst f ρ st = some (b, st1) := by
  rw [e_tst, h]
  rfl
def Air.fst (a : Air) (n : Nat) : Air := ⟨a.ss.take n, a.lk⟩
def zB (x : Int) : D := .bl (decide (x = 0))
theorem zB_eq : ∀ {t u : List Int}, eqBs (t.map zB) (u.map zB) = true → ∀ i, t.getD i 0 = 0 ↔ u.getD i 0 = 0
  | [], [], _, i => Iff.rfl
  | [], _ :: _, h, _ => by simp [eqBs] at h
  | _ :: _, [], h, _ => by simp [eqBs] at h
  | x :: t, y :: u, h, i => by
    simp only [List.map_cons, eqBs, Bool.and_eq_true] at h
    cases i with
    | zero =>
      have := h.1
      unfold zB eqB at this
      have := beq_iff_eq.mp this
      simpa using this
    | succ i =>
      have := zB_eq h.2 i
      simpa using this
theorem sil_iff (hl : t.length = u.length) (h : ∀ i, t.getD i 0 = 0 ↔ u.getD i 0 = 0) : silL t = silL u := by
  unfold silL
  rw [hl]
  congr 1
  funext i
  exact decide_eq_decide.mpr (h i)
theorem zB_tst {f g : FE} {ρ : Rho} (h1 : f ρ st = some (.lst (t.map zB), st)) (h2 : g ρ st = some (.lst (u.map zB), st)) : fTst (fOp eqD f g) ρ st = some (eqBs (t.map zB) (u.map zB), st) := by
  have o1 : ∀ t : List Int, okB 60 (.lst (t.map zB)) = true := fun t => okBs_of (m := 59) fun d hd => by
    obtain ⟨x, _, rfl⟩ := List.mem_map.mp hd
    rfl
  refine tst_ok (op_ok h1 h2 ?_)
  unfold eqD eqW
  simp only [e_valZ, o1, and_self, if_true]
  rfl
end
end EL
set_option Elab.async false
set_option linter.all false
set_option maxRecDepth 100000
set_option maxHeartbeats 400000
namespace EL
open PySem PySem.Spec PyProof.Rows L2 GxR LG FW
section
variable {i j : Nat} {st : Sto} {a b : Air} {t u : List Int} {r r' : Stn} {xs : List Str}
abbrev Pr := Stn × Int
def pairsA (a : Air) (t : List Int) : List Pr := a.ss.zipIdx.map fun x => (x.1, t.getD x.2 0)
def rowP (lk : Int) (r : Stn) (ti : Int) (x : Pr) : List (Int × Int) :=
  if x.1.nm ≠ r.nm ∧ ti * x.2 > 0 then (if ti = x.2 then [(x.1.pw, spr x.1 r)] else if ti - x.2 = 1 ∨ ti - x.2 = -1 then [(x.1.pw, spr x.1 r * lk)] else []) else []
def rowsP (lk : Int) (r : Stn) (ti : Int) (l : List Pr) : List (Int × Int) := l.flatMap (rowP lk r ti)
def botP (l : List (Int × Int)) : Int := prodI (l.map (·.2))
def sumP (l : List (Int × Int)) : Int := (l.map fun p => p.1 * (botP l / p.2)).sum
def stP (r : Stn) (l : List (Int × Int)) : Bool := decide (r.nd * sumP l * spr r r ≤ r.pw * botP l)
theorem bot_P (rows : List Rw) : botI rows = botP (rows.map (·.2)) := by
  unfold botI botP
  rw [List.map_map]
  rfl
theorem sum_P (rows : List Rw) : sumI rows = sumP (rows.map (·.2)) := by
  unfold sumI sumP
  rw [List.map_map, bot_P]
  rfl
theorem idx_nm (h : SsOk a.ss) (e : a.ss[i]? = some r) {x : Stn × Nat} (hx : x ∈ a.ss.zipIdx) : x.2 = i ↔ x.1.nm = r.nm := by
  have ex := zipIdx_mem hx
  constructor
  · intro z
    rw [z, e] at ex
    cases ex
    rfl
  · intro z
    have nd : (a.ss.map Stn.nm).Nodup := h.nm.nodup (by decide)
    have h1 : (a.ss.map Stn.nm)[x.2]? = some r.nm := by rw [List.getElem?_map, ex]; simp [z]
    have h2 : (a.ss.map Stn.nm)[i]? = some r.nm := by rw [List.getElem?_map, e]; rfl
    obtain ⟨l1, g1⟩ := List.getElem?_eq_some_iff.mp h1
    obtain ⟨l2, g2⟩ := List.getElem?_eq_some_iff.mp h2
    exact (List.getElem_inj nd).mp (g1.trans g2.symm)
theorem flatMap_congr' {α β : Type} {f g : α → List β} : ∀ {l : List α}, (∀ x ∈ l, f x = g x) → l.flatMap f = l.flatMap g
  | [], _ => rfl
  | x :: l, h => by
    rw [List.flatMap_cons, List.flatMap_cons, h x List.mem_cons_self, flatMap_congr' fun y hy => h y (List.mem_cons_of_mem _ hy)]
theorem rows_P (h : a.Ok) (e : a.ss[i]? = some r) : (rowsL a t i r).map (·.2) = rowsP a.lk r (t.getD i 0) (pairsA a t) := by
  unfold rowsL rowsP pairsA
  rw [List.map_flatMap, List.flatMap_map]
  refine flatMap_congr' fun x hx => ?_
  have z := idx_nm h.ss e hx
  have rp : rowP a.lk r (t.getD i 0) (x.1, t.getD x.2 0) = if x.1.nm ≠ r.nm ∧ t.getD i 0 * t.getD x.2 0 > 0 then (if t.getD i 0 = t.getD x.2 0 then [(x.1.pw, spr x.1 r)] else if t.getD i 0 - t.getD x.2 0 = 1 ∨ t.getD i 0 - t.getD x.2 0 = -1 then [(x.1.pw, spr x.1 r * a.lk)] else []) else [] := rfl
  rw [rp]
  unfold rowAt
  by_cases q : x.2 = i
  · rw [if_neg (fun w => w.1 q), if_neg (fun w => w.1 (z.mp q))]
    rfl
  · by_cases p : t.getD i 0 * t.getD x.2 0 > 0
    · rw [if_pos (c := x.2 ≠ i ∧ _) ⟨q, p⟩, if_pos (c := x.1.nm ≠ r.nm ∧ _) ⟨fun w => q (z.mpr w), p⟩]
      by_cases c1 : t.getD i 0 = t.getD x.2 0
      · rw [if_pos c1, if_pos c1]
        rfl
      · rw [if_neg c1, if_neg c1]
        by_cases c2 : t.getD i 0 - t.getD x.2 0 = 1 ∨ t.getD i 0 - t.getD x.2 0 = -1
        · rw [if_pos c2, if_pos c2]
          rfl
        · rw [if_neg c2, if_neg c2]
          rfl
    · rw [if_neg (fun w => p w.2), if_neg (fun w => p w.2)]
      rfl
theorem heard_P (h : a.Ok) (ht : t.length = a.ss.length) (hb : ∀ b ∈ t, 0 ≤ b ∧ b ≤ 9) (e : a.ss[i]? = some r) (hi : 0 < t.getD i 0) : heardB a t i r = stP r (rowsP a.lk r (t.getD i 0) (pairsA a t)) := by
  rw [heard_rows h ht hb e hi, bot_P, sum_P, rows_P h e]
  rfl
theorem rowP_zero {lk ti : Int} {x : Pr} (h : x.2 = 0) : rowP lk r ti x = [] := by
  unfold rowP
  rw [if_neg (fun w => by rw [h, Int.mul_zero] at w; omega)]
/-- those who are silent count for nothing -/
theorem rowsP_nz {lk ti : Int} {f : Pr → Pr} (hf : ∀ x, x.2 = 0 → (f x).2 = 0) : ∀ l : List Pr, rowsP lk r ti ((l.filter fun x => decide (x.2 ≠ 0)).map f) = rowsP lk r ti (l.map f)
  | [] => rfl
  | x :: l => by
    have ih := rowsP_nz (lk := lk) (ti := ti) hf l
    unfold rowsP at ih ⊢
    by_cases z : x.2 = 0
    · rw [List.filter_cons_of_neg (by simp [z]), ih, List.map_cons, List.flatMap_cons, rowP_zero (hf x z), List.nil_append]
    · rw [List.filter_cons_of_pos (by simp [z]), List.map_cons, List.map_cons, List.flatMap_cons, List.flatMap_cons, ih]
def silP (xs : List Str) (x : Pr) : Pr := (x.1, if x.1.nm ∈ xs then 0 else x.2)
theorem silP_zero (x : Pr) (h : x.2 = 0) : (silP xs x).2 = 0 := by
  unfold silP
  simp only [h]
  split <;> rfl
theorem pairs_sil : pairsA a (silT a t xs) = (pairsA a t).map (silP xs) := by
  unfold pairsA
  rw [List.map_map]
  refine List.map_congr_left fun x hx => ?_
  show (x.1, _) = silP xs (x.1, t.getD x.2 0)
  rw [sil_at (zipIdx_mem hx)]
  rfl
/-- b is the air of those who send by t, u their bands -/
structure Sub (a : Air) (t : List Int) (b : Air) (u : List Int) : Prop where
  lk : b.lk = a.lk
  len : u.length = b.ss.length
  pr : pairsA b u = (pairsA a t).filter fun x => decide (x.2 ≠ 0)
theorem pairs_at (e : a.ss[i]? = some r) : (pairsA a t)[i]? = some (r, t.getD i 0) := by
  unfold pairsA
  rw [List.getElem?_map, List.getElem?_zipIdx, e]
  simp
theorem Sub.get (S : Sub a t b u) (e : a.ss[i]? = some r) (hi : t.getD i 0 ≠ 0) : ∃ j, b.ss[j]? = some r ∧ u.getD j 0 = t.getD i 0 := by
  have hm : (r, t.getD i 0) ∈ pairsA b u := by
    rw [S.pr, List.mem_filter]
    exact ⟨List.mem_of_getElem? (pairs_at e), decide_eq_true hi⟩
  obtain ⟨x, hx, ex⟩ := List.mem_map.mp hm
  refine ⟨x.2, ?_, congrArg Prod.snd ex⟩
  have := zipIdx_mem hx
  rw [this]
  exact congrArg (fun p : Pr => some p.1) ex
theorem Sub.heard (S : Sub a t b u) (ha : a.Ok) (hb : b.Ok) (ht : t.length = a.ss.length) (h9 : ∀ x ∈ t, 0 ≤ x ∧ x ≤ 9) (u9 : ∀ x ∈ u, 0 ≤ x ∧ x ≤ 9) (e : a.ss[i]? = some r) (e' : b.ss[j]? = some r) (ej : u.getD j 0 = t.getD i 0) (hx : r.nm ∉ xs) (hi : t.getD i 0 ≠ 0) :
    heardB b (silT b u xs) j r = heardB a (silT a t xs) i r := by
  have g1 : (silT a t xs).getD i 0 = t.getD i 0 := by rw [sil_at e, if_neg hx]
  have g2 : (silT b u xs).getD j 0 = t.getD i 0 := by rw [sil_at e', if_neg hx, ej]
  have pos : 0 < t.getD i 0 := by have := (getD_bd (c := 9) (by decide) h9 i).1; omega
  rw [heard_P ha sil_len (sil_ok h9) e (by omega), heard_P hb sil_len (sil_ok u9) e' (by omega), g1, g2, pairs_sil, pairs_sil, S.pr, S.lk, rowsP_nz silP_zero]
theorem fm_flat {M : Int} {α : Type} {f : α → List Rw} : ∀ l : List α, FM (l.flatMap f) M = (l.map fun x => FM (f x) M).sum
  | [] => rfl
  | x :: l => by
    rw [List.flatMap_cons, List.map_cons, List.sum_cons, ← fm_flat l]
    unfold FM
    rw [List.map_append, List.sum_append]
theorem sum_leQ {α : Type} {f g : α → Int} : ∀ {l : List α}, (∀ x ∈ l, f x ≤ g x) → (l.map f).sum ≤ (l.map g).sum
  | [], _ => Int.le_refl _
  | x :: l, h => by
    rw [List.map_cons, List.map_cons, List.sum_cons, List.sum_cons]
    have h1 := h x List.mem_cons_self
    have h2 := sum_leQ fun y hy => h y (List.mem_cons_of_mem _ hy)
    omega
theorem sum_nnQ : ∀ {l : List Int}, (∀ x ∈ l, 0 ≤ x) → 0 ≤ l.sum
  | [], _ => Int.le_refl _
  | x :: l, h => by
    rw [List.sum_cons]
    have h1 := h x List.mem_cons_self
    have h2 := sum_nnQ fun y hy => h y (List.mem_cons_of_mem _ hy)
    omega
/-- b is a with other powers, u is t with some silent; who isn't silent is no louder -/
structure Calmer (a : Air) (t : List Int) (b : Air) (u : List Int) (i : Nat) : Prop where
  lk : b.lk = a.lk
  len : b.ss.length = a.ss.length
  sp : ∀ (j : Nat) (s s' : Stn), a.ss[j]? = some s → b.ss[j]? = some s' → s'.px = s.px ∧ s'.py = s.py ∧ s'.hx = s.hx ∧ s'.hy = s.hy ∧ s'.nd = s.nd
  no : ∀ (j : Nat) (s s' : Stn), a.ss[j]? = some s → b.ss[j]? = some s' → j ≠ i → u.getD j 0 = 0 ∨ (u.getD j 0 = t.getD j 0 ∧ s'.pw ≤ s.pw)
  me : u.getD i 0 = t.getD i 0
  up : ∀ (s s' : Stn), a.ss[i]? = some s → b.ss[i]? = some s' → s.pw ≤ s'.pw
theorem spr_like {s s' r r' : Stn} (h1 : s'.px = s.px) (h2 : s'.py = s.py) (h3 : r'.hx = r.hx) (h4 : r'.hy = r.hy) : spr s' r' = spr s r := by
  unfold spr
  rw [h1, h2, h3, h4]
theorem Calmer.heard (C : Calmer a t b u i) (ha : a.Ok) (hb : b.Ok) (ht : t.length = a.ss.length) (hu : u.length = b.ss.length) (h9 : ∀ x ∈ t, 0 ≤ x ∧ x ≤ 9) (u9 : ∀ x ∈ u, 0 ≤ x ∧ x ≤ 9) (e : a.ss[i]? = some r) (e' : b.ss[i]? = some r') (hi : 0 < t.getD i 0) (hh : heardB a t i r = true) : heardB b u i r' = true := by
  have hr := ha.ss.all r (List.mem_of_getElem? e)
  have hr' := hb.ss.all r' (List.mem_of_getElem? e')
  obtain ⟨p1, p2, p3, p4, p5⟩ := C.sp i r r' e e'
  have es : spr r' r' = spr r r := spr_like p1 p2 p3 p4
  have sp := spr_pos hr hr
  rw [heard_rows ha ht h9 e hi] at hh
  rw [heard_rows hb hu u9 e' (by rw [C.me]; exact hi)]
  have hh := of_decide_eq_true hh
  refine decide_eq_true ?_
  rw [sum_fm] at hh ⊢
  have R1 : ∀ p ∈ rowsL a t i r, RwOk p := fun p hp => (row_mem ha hr hp).1
  have R2 : ∀ p ∈ rowsL b u i r', RwOk p := fun p hp => (row_mem hb hr' hp).1
  have B1 : 0 < botI (rowsL a t i r) := prodI_pos fun x hx => by
    obtain ⟨p, hp, rfl⟩ := List.mem_map.mp hx
    exact (R1 p hp).b.1
  have B2 : 0 < botI (rowsL b u i r') := prodI_pos fun x hx => by
    obtain ⟨p, hp, rfl⟩ := List.mem_map.mp hx
    exact (R2 p hp).b.1
  -- one bottom for both
  have key : ∀ x ∈ a.ss.zipIdx, ∃ s', b.ss[x.2]? = some s' ∧ (rowAt b u i r' (s', x.2) = [] ∨ ∃ q, rowAt b u i r' (s', x.2) = [(x.2, s'.pw, q)] ∧ rowAt a t i r x = [(x.2, x.1.pw, q)] ∧ s'.pw ≤ x.1.pw) := fun x hx => by
    have ex := zipIdx_mem hx
    have hl : x.2 < b.ss.length := by rw [C.len]; exact (List.getElem?_eq_some_iff.mp ex).1
    refine ⟨b.ss[x.2], List.getElem?_eq_getElem hl, ?_⟩
    have ey := List.getElem?_eq_getElem hl
    by_cases q : x.2 = i
    · left
      unfold rowAt
      rw [if_neg (fun w => w.1 q)]
    · obtain ⟨s1, s2, _⟩ := C.sp x.2 _ _ ex ey
      rcases C.no x.2 _ _ ex ey q with z | ⟨z, le⟩
      · left
        unfold rowAt
        rw [if_neg (fun w => by have := w.2; simp only at this; rw [z, Int.mul_zero] at this; omega)]
      · have ps : spr b.ss[x.2] r' = spr x.1 r := spr_like s1 s2 p3 p4
        unfold rowAt
        simp only [z, C.me, ps, C.lk]
        by_cases c0 : x.2 ≠ i ∧ t.getD i 0 * t.getD x.2 0 > 0
        · rw [if_pos c0, if_pos c0]
          by_cases c1 : t.getD i 0 = t.getD x.2 0
          · rw [if_pos c1, if_pos c1]
            exact .inr ⟨_, rfl, rfl, le⟩
          · rw [if_neg c1, if_neg c1]
            by_cases c2 : t.getD i 0 - t.getD x.2 0 = 1 ∨ t.getD i 0 - t.getD x.2 0 = -1
            · rw [if_pos c2, if_pos c2]
              exact .inr ⟨_, rfl, rfl, le⟩
            · rw [if_neg c2]
              exact .inl rfl
        · rw [if_neg c0]
          exact .inl rfl
  have zb : ∀ y ∈ b.ss.zipIdx, ∃ x ∈ a.ss.zipIdx, x.2 = y.2 := fun y hy => by
    have ey := zipIdx_mem hy
    have hl : y.2 < a.ss.length := by rw [← C.len]; exact (List.getElem?_eq_some_iff.mp ey).1
    refine ⟨(a.ss[y.2], y.2), ?_, rfl⟩
    rw [List.mem_iff_getElem?]
    exact ⟨y.2, by rw [List.getElem?_zipIdx, List.getElem?_eq_getElem hl]; simp⟩
  have sub : ∀ p ∈ rowsL b u i r', ∃ p' ∈ rowsL a t i r, p'.2.2 = p.2.2 := fun p hp => by
    obtain ⟨y, hy, hp⟩ := List.mem_flatMap.mp hp
    obtain ⟨x, hx, exy⟩ := zb y hy
    obtain ⟨s', es', k⟩ := key x hx
    have ey := zipIdx_mem hy
    rw [exy, ey] at es'
    cases es'
    rw [exy] at k
    rcases k with k | ⟨q, k1, k2, _⟩
    · have k : rowAt b u i r' y = [] := k
      rw [k] at hp; cases hp
    · have k1 : rowAt b u i r' y = _ := k1
      rw [k1, List.mem_singleton] at hp
      subst hp
      exact ⟨(y.2, x.1.pw, q), List.mem_flatMap.mpr ⟨x, hx, by rw [k2]; exact List.mem_singleton.mpr rfl⟩, rfl⟩
  have M0 : 0 < spr r r * botI (rowsL a t i r) := Int.mul_pos (by omega) B1
  have dvd1 : ∀ p ∈ rowsL a t i r, p.2.2 ∣ spr r r * botI (rowsL a t i r) := fun p hp => Int.dvd_trans (bot_dvd hp) (Int.dvd_mul_left _ _)
  have dvd2 : ∀ p ∈ rowsL b u i r', p.2.2 ∣ spr r r * botI (rowsL a t i r) := fun p hp => by
    obtain ⟨p', hp', e⟩ := sub p hp
    rw [← e]
    exact dvd1 p' hp'
  have c1 := (cross (rows := rowsL a t i r) (nd := r.nd) (pw := r.pw) (S := spr r r) (M := spr r r * botI (rowsL a t i r)) (B := botI (rowsL a t i r)) (by omega) M0 B1 (Int.dvd_mul_right _ _) dvd1 fun p hp => bot_dvd hp).mpr hh
  rw [es]
  refine (cross (rows := rowsL b u i r') (nd := r'.nd) (pw := r'.pw) (S := spr r r) (M := spr r r * botI (rowsL a t i r)) (B := botI (rowsL b u i r')) (by omega) M0 B2 (Int.dvd_mul_right _ _) dvd2 fun p hp => bot_dvd hp).mp ?_
  have fm : FM (rowsL b u i r') (spr r r * botI (rowsL a t i r)) ≤ FM (rowsL a t i r) (spr r r * botI (rowsL a t i r)) := by
    generalize spr r r * botI (rowsL a t i r) = M at M0 ⊢
    unfold rowsL
    rw [fm_flat, fm_flat]
    have eb : (b.ss.zipIdx.map fun y => FM (rowAt b u i r' y) M) = a.ss.zipIdx.map fun x => FM (rowAt b u i r' ((b.ss[x.2]?).getD r', x.2)) M := by
      apply List.ext_getElem?
      intro j
      rw [List.getElem?_map, List.getElem?_map, List.getElem?_zipIdx, List.getElem?_zipIdx]
      by_cases hj : j < a.ss.length
      · have hj2 : j < b.ss.length := by rw [C.len]; exact hj
        simp [hj, hj2]
      · have h1 : a.ss[j]? = none := List.getElem?_eq_none_iff.mpr (by omega)
        have h2 : b.ss[j]? = none := List.getElem?_eq_none_iff.mpr (by rw [C.len]; omega)
        rw [h1, h2]
        rfl
    rw [eb]
    refine sum_leQ fun x hx => ?_
    obtain ⟨s', es', k⟩ := key x hx
    rw [es', Option.getD_some]
    rcases k with k | ⟨q, k1, k2, le⟩
    · rw [k]
      unfold FM
      refine sum_nnQ fun v hv => ?_
      obtain ⟨p, hp, rfl⟩ := List.mem_map.mp hv
      have := R1 p (List.mem_flatMap.mpr ⟨x, hx, hp⟩)
      exact Int.mul_nonneg (by have := this.t.1; omega) (Int.ediv_nonneg (Int.le_of_lt M0) (by have := this.b.1; omega))
    · rw [k1, k2]
      unfold FM
      simp only [List.map_cons, List.map_nil, List.sum_cons, List.sum_nil, Int.add_zero]
      have := R1 (x.2, x.1.pw, q) (List.mem_flatMap.mpr ⟨x, hx, by rw [k2]; exact List.mem_singleton.mpr rfl⟩)
      exact Int.mul_le_mul_of_nonneg_right le (Int.ediv_nonneg (Int.le_of_lt M0) (by have := this.b.1; simp only at this; omega))
  have nd0 : 0 ≤ r.nd := by have := hr.nd.1; omega
  rw [p5]
  have s1 := Int.mul_le_mul_of_nonneg_left fm nd0
  have s2 : r.pw * (spr r r * botI (rowsL a t i r) / spr r r) ≤ r'.pw * (spr r r * botI (rowsL a t i r) / spr r r) := Int.mul_le_mul_of_nonneg_right (C.up r r' e e') (Int.ediv_nonneg (Int.le_of_lt M0) (by omega))
  omega
end
end EL
set_option Elab.async false
set_option linter.all false
set_option maxRecDepth 100000
set_option maxHeartbeats 400000
namespace EL
open PySem PySem.Spec PyProof.Rows L2 GxR LG FW
structure Lic where
  nm : Str
  bd : Int
  pr : Int
  fs : Int
  ls : Int
def Lic.o (l : Lic) : O := .ins "Licence" [("name", .str l.nm), ("band", .int l.bd), ("price", .int l.pr), ("first", .int l.fs), ("last", .int l.ls)]
structure Hs where
  prices : List Int
  lk : Int
  hour : Int
  ss : List Stn
  pw : List (Str × Int)
  db : List (Str × Int)
  gv : List Lic
  rows : Nat → List (Str × Nat)
def Hs.air (h : Hs) : Air := ⟨h.ss, h.lk⟩
def kvI (l : List (Str × Int)) : List (Key × D) := l.map fun p => (Sum.inr p.1, D.int p.2)
def kvN (l : List (Str × Nat)) : List (Key × D) := l.map fun p => (Sum.inr p.1, D.int (p.2 : Nat))
def houseO (lh : Nat) (h : Hs) (b : Bool) : O := .ins "House" [("busy", .bl b), ("prices", tun h.prices), ("leak", .int h.lk), ("hour", .int h.hour), ("members", ssD h.ss), ("powers", .ref (lh + 1)), ("debts", .ref (lh + 2)), ("board", .ref (lh + 3))]
def rowsD (lh : Nat) : List D := (List.range 1000).map fun i => .ref (lh + 5 + i)
def boardO (lh : Nat) : O := .ins "Board" [("given", .ref (lh + 4)), ("rows", .lst (rowsD lh))]
structure HAt (lh : Nat) (ll : List Nat) (h : Hs) (b : Bool) (st : Sto) : Prop where
  hs : st[lh]? = some (houseO lh h b)
  pw : st[lh + 1]? = some (.dK (kvI h.pw))
  db : st[lh + 2]? = some (.dK (kvI h.db))
  bd : st[lh + 3]? = some (boardO lh)
  gv : st[lh + 4]? = some (.lst (ll.map D.ref))
  gl : ll.length = h.gv.length
  hi : ∀ x ∈ ll, lh + 1005 ≤ x
  lc : ∀ (i l : Nat) (lic : Lic), ll[i]? = some l → h.gv[i]? = some lic → st[l]? = some lic.o
  rw : ∀ i, i < 1000 → st[lh + 5 + i]? = some (.dK (kvN (h.rows i)))
section
variable {lh i j n : Nat} {ll : List Nat} {h h' : Hs} {b b' : Bool} {st st1 s : Sto} {ρ ρ' : Rho} {x : Str} {t : List Int} {a : Air} {r : Stn}
theorem app_l {α : Type} {s more : List α} {l : Nat} {o : α} (e : s[l]? = some o) : (s ++ more)[l]? = some o := by rw [List.getElem?_append_left (List.getElem?_eq_some_iff.mp e).1]; exact e
theorem HAt.app (A : HAt lh ll h b st) (more : Sto) : HAt lh ll h b (st ++ more) :=
  ⟨app_l A.hs, app_l A.pw, app_l A.db, app_l A.bd, app_l A.gv, A.gl, A.hi, fun i l lic e1 e2 => app_l (A.lc i l lic e1 e2), fun i hi => app_l (A.rw i hi)⟩
theorem HAt.lt (A : HAt lh ll h b st) : lh + 1004 < st.length := (List.getElem?_eq_some_iff.mp (A.rw 999 (by decide))).1
def look {α : Type} (l : List (Str × α)) (x : Str) : Option α := (l.find? fun p => decide (p.1 = x)).map (·.2)
def Hs.band (h : Hs) (x : Str) (i : Nat) : Int := match look (h.rows i) x with
  | none => 0
  | some n => ((h.gv[n]?).map Lic.bd).getD 0
/-- each number of a row is one of a licence -/
def Hs.RowsOk (h : Hs) : Prop := ∀ i, i < 1000 → ∀ p ∈ h.rows i, p.2 < h.gv.length
theorem look_mem {α : Type} {l : List (Str × α)} {v : α} (e : look l x = some v) : (x, v) ∈ l := by
  unfold look at e
  obtain ⟨p, h1, h2⟩ := Option.map_eq_some_iff.mp e
  have := List.find?_some h1
  have hp := of_decide_eq_true this
  have hm := List.mem_of_find?_eq_some h1
  subst h2; subst hp
  exact hm
def Hs.tun (h : Hs) (ss : List Stn) (i : Nat) : List Int := ss.map fun s => h.band s.nm i
end
end EL
set_option Elab.async false
set_option linter.all false
set_option maxRecDepth 100000
set_option maxHeartbeats 400000
namespace EL
open PySem PySem.Spec PyProof.Rows L2 GxR LG FW
section
variable {lh i j n : Nat} {ll : List Nat} {h h' : Hs} {b b' : Bool} {st st1 s : Sto} {ρ ρ' : Rho} {x : Str} {t : List Int} {a : Air} {r : Stn}
def Hs.tuns (h : Hs) (f l : Nat) : Ts := (List.range (l + 1 - f)).map fun k => h.tun h.ss (f + k)
def Hs.fits (h : Hs) (i f l : Nat) (b : Int) : Bool := (sortT (h.tuns f l)).all fun t => allH h.air (t.set i b)
theorem allG_all {fi : FI} {fe : FE} {cap : List (Option Nat)} {items : List D} {ys : Rho} {p : D → Bool} (hi : fi ρ st = some (items, [], st)) (hc : capD cap ρ = none :: ys) (hp : ∀ d ∈ items, fe (some d :: ys) st = some (.bl (p d), st)) : fAllG fi (.one 0) fe cap ρ st = some (.bl (items.all p), st) := by
  unfold fAllG
  rw [hi]
  simp only [Option.bind_some, hc]
  have key : ∀ (items : List D) (z : Option D), (∀ d ∈ items, fe (some d :: ys) st = some (.bl (p d), st)) → allD (.one 0) fe [] items (z :: ys) st = some (items.all p, st) := by
    intro items
    induction items with
    | nil => intro z _; unfold allD; rw [if_pos Intact.nil]; rfl
    | cons d items ih =>
      intro z hd
      unfold allD
      rw [if_pos Intact.nil]
      show Option.bind (fe (some d :: ys) st) _ = _
      rw [hd d List.mem_cons_self]
      simp only [Option.bind_some, e_asB]
      cases q : p d with
      | false => simp [q]
      | true =>
        rw [if_pos rfl]
        show allD (.one 0) fe [] items (some d :: ys) st = _
        rw [ih _ fun e he => hd e (List.mem_cons_of_mem _ he)]
        simp [q]
  rw [key items none hp]
  rfl
/-- all bands are bands -/
def Hs.BandOk (h : Hs) : Prop := ∀ (x : Str) (i : Nat), i < 1000 → 0 ≤ h.band x i ∧ h.band x i ≤ 9
end
end EL
set_option Elab.async false
set_option linter.all false
set_option maxRecDepth 100000
set_option maxHeartbeats 400000
namespace EL
open PySem PySem.Spec PyProof.Rows L2 GxR LG FW BF
open PySem.W (EachIs AllAlike Sortable dataLe sorted_data)
section
variable {i many j lb : Nat} {st s : Sto} {a : Air} {t u o : List Int} {R : Rows}
abbrev Tbl := List (List Int × Int)
def pe (p : List Int × Int) : D := .tup [tun p.1, .int p.2]
def tk : List Int → List (Int ⊕ List Nat)
  | [] => [.inl 0]
  | x :: r => .inl 1 :: .inl x :: tk r
theorem toks_tun : ∀ t : List Int, PySem.W.keyToksAll (pds (t.map D.int)) = tk t
  | [] => rfl
  | x :: r => by
    show PySem.W.keyToksAll (PyData.int x :: pds (r.map D.int)) = _
    rw [PySem.W.toks_all_cons, toks_tun r]
    rfl
theorem toks_pe (p : List Int × Int) : PySem.W.keyToks (pd (pe p)) = .inl 1 :: (tk p.1 ++ [.inl 1, .inl p.2, .inl 0]) := by
  show PySem.W.keyToksAll (PyData.tuple (pds (p.1.map D.int)) :: [PyData.int p.2]) = _
  rw [PySem.W.toks_all_cons]
  show Sum.inl 1 :: (PySem.W.keyToksAll (pds (p.1.map D.int)) ++ _) = _
  rw [toks_tun]
  rfl
theorem lex_tk : ∀ {x y : List Int} {A B : List (Int ⊕ List Nat)}, x.length = y.length → x ≠ y → PyProof.Rows.lexLt PyProof.Rows.itemOrd (tk x ++ A) (tk y ++ B) = HT.lexLt x y
  | [], [], _, _, _, n => absurd rfl n
  | p :: x, q :: y, A, B, h, n => by
    show PyProof.Rows.lexLt PyProof.Rows.itemOrd (Sum.inl 1 :: Sum.inl p :: (tk x ++ A)) (Sum.inl 1 :: Sum.inl q :: (tk y ++ B)) = _
    rw [PyProof.Rows.lex_self (O := PyProof.Rows.itemOrd), HT.lexLt_cons]
    by_cases e : p = q
    · subst e
      rw [PyProof.Rows.lex_self (O := PyProof.Rows.itemOrd), if_pos rfl]
      exact lex_tk (by simpa using h) fun z => n (by rw [z])
    · rw [PyProof.Rows.lex_diff (O := PyProof.Rows.itemOrd) (fun z => e (Sum.inl.inj z)), if_neg e]
      rfl
theorem ht_anti : ∀ {x y : List Int}, x ≠ y → HT.lexLt y x = false → HT.lexLt x y = true
  | [], [], n, _ => absurd rfl n
  | [], _ :: _, _, _ => rfl
  | _ :: _, [], _, h => by cases h
  | p :: x, q :: y, n, h => by
    rw [HT.lexLt_cons] at h ⊢
    by_cases e : p = q
    · subst e
      rw [if_pos rfl] at h ⊢
      exact ht_anti (fun z => n (by rw [z])) h
    · rw [if_neg (fun z => e z.symm)] at h
      rw [if_neg e]
      have := of_decide_eq_false h
      exact decide_eq_true (by omega)
def peLe (x y : List Int × Int) : Bool := dataLe false pd (pe x) (pe y)
theorem peLe_total : PySem.W.TotalLe peLe := by
  have := PySem.W.sortLe_total (PyProof.Rows.listOrd PyProof.Rows.itemOrd) false fun b : List Int × Int => PySem.W.keyToks (pd (pe b))
  exact this
theorem peLe_lt {x y : List Int × Int} (hl : x.1.length = y.1.length) (n : x.1 ≠ y.1) (h : peLe x y = true) : HT.lexLt x.1 y.1 = true := by
  have h : (!PyProof.Rows.lexLt PyProof.Rows.itemOrd (PySem.W.keyToks (pd (pe y))) (PySem.W.keyToks (pd (pe x)))) = true := h
  rw [toks_pe, toks_pe, PyProof.Rows.lex_self (O := PyProof.Rows.itemOrd), lex_tk hl.symm (fun z => n z.symm)] at h
  exact ht_anti n (by simpa using h)
/-- strictly rising -/
def Ris (L : Tbl) : Prop := L.Pairwise fun p q => HT.lexLt p.1 q.1 = true
def tbOf (R : Rows) : Tbl := (R.map fun p => (p.1, (p.2.length : Int))).mergeSort peLe
theorem tbOf_perm (R : Rows) : (tbOf R).Perm (R.map fun p => (p.1, (p.2.length : Int))) := List.mergeSort_perm _ _
theorem tbOf_mem {R : Rows} {p : List Int × Int} : p ∈ tbOf R ↔ ∃ row, (p.1, row) ∈ R ∧ p.2 = (row.length : Int) := by
  rw [(tbOf_perm R).mem_iff, List.mem_map]
  constructor
  · rintro ⟨q, hq, rfl⟩
    exact ⟨q.2, hq, rfl⟩
  · rintro ⟨row, h, e⟩
    exact ⟨_, h, by rw [← e]⟩
theorem tbOf_ris {R : Rows} {n : Nat} (nd : (R.map (·.1)).Nodup) (hl : ∀ p ∈ R, p.1.length = n) : Ris (tbOf R) := by
  have h1 : (tbOf R).Pairwise fun x y => peLe x y = true := List.pairwise_mergeSort (fun a b c h1 h2 => peLe_total.trans a b c h1 h2) (fun a b => by rcases peLe_total.total a b with h | h <;> simp [h]) _
  have h2 : ((tbOf R).map (·.1)).Nodup := by
    have := ((tbOf_perm R).map (·.1)).nodup_iff
    rw [this, List.map_map]
    exact nd
  unfold List.Nodup at h2
  rw [List.pairwise_map] at h2
  have h3 := h1.and h2
  refine List.Pairwise.imp_of_mem (fun {x y} hx hy h => ?_) h3
  obtain ⟨r1, q1, _⟩ := tbOf_mem.mp hx
  obtain ⟨r2, q2, _⟩ := tbOf_mem.mp hy
  exact peLe_lt (by rw [hl _ q1, hl _ q2]) h.2 h.1
theorem alike_tun : ∀ x y : List Int, PySem.W.alikeAll (pds (x.map D.int)) (pds (y.map D.int)) = true
  | [], _ => by simp [pds, PySem.W.alikeAll]
  | _ :: _, [] => by simp [pds, PySem.W.alikeAll]
  | p :: x, q :: y => by
    show PySem.W.alikeAll (PyData.int p :: pds (x.map D.int)) (PyData.int q :: pds (y.map D.int)) = true
    rw [PySem.W.alikeAll, alike_tun x y]
    rfl
theorem pe_ok (p : List Int × Int) : okB 59 (pe p) = true := by
  have : okBs 57 (p.1.map D.int) = true := okBs_of fun d hd => by obtain ⟨x, _, rfl⟩ := List.mem_map.mp hd; rfl
  simp [pe, tun, okB, okBs, this]
theorem pe_alike (x y : List Int × Int) : PySem.W.alike (pd (pe x)) (pd (pe y)) = true := by
  show PySem.W.alike (.tuple [PyData.tuple (pds (x.1.map D.int)), .int x.2]) (.tuple [PyData.tuple (pds (y.1.map D.int)), .int y.2]) = true
  rw [PySem.W.alike, PySem.W.alikeAll, PySem.W.alike, alike_tun]
  rfl
theorem sorted_pe {L : Tbl} (hz : L.length ≤ 20000) : sortedZ [.lst (L.map pe)] st = some (.lst ((L.mergeSort peLe).map pe), st) := by
  unfold sortedZ
  show Option.bind (listOf (.lst (L.map pe)) st) _ = _
  rw [e_listOfZ]
  simp only [Option.bind_some]
  have ok : SortOk (L.map pe) := by
    refine ⟨okBs_of fun d hd => ?_, ?_, .inl ?_, by rw [List.length_map, sizeLine_eq]; omega⟩
    · obtain ⟨s, h1, rfl⟩ := List.mem_map.mp hd
      exact pe_ok s
    · intro d hd d' hd'
      rw [List.map_map] at hd hd'
      obtain ⟨u, _, rfl⟩ := List.mem_map.mp hd
      obtain ⟨v, _, rfl⟩ := List.mem_map.mp hd'
      exact pe_alike u v
    · intro d hd
      rw [List.map_map] at hd
      obtain ⟨u, _, rfl⟩ := List.mem_map.mp hd
      exact ⟨_, _, rfl⟩
  rw [if_pos ok, ← List.map_mergeSort (r := peLe) (s := dataLe false pd) (f := pe) (fun _ _ _ _ => rfl)]
theorem keyD_kT (t : List Int) : keyD (kT t) = tun t := by
  unfold keyD kT tun
  rw [List.map_map]
  rfl
theorem klD_rows {R : Rows} (nd : (R.map (·.1)).Nodup) : ∀ {L : Rows}, (∀ p ∈ L, p ∈ R) → klD (R.map (rowE a)) (L.map (rowE a)) = some (L.map fun p => pe (p.1, (p.2.length : Int)))
  | [], _ => rfl
  | p :: L, h => by
    have hp := h p List.mem_cons_self
    show klD (R.map (rowE a)) (rowE a p :: L.map (rowE a)) = _
    unfold klD
    have e : valD (R.map (rowE a)) (rowE a p).1 = some (.lst (p.2.map (stepD a))) := by
      show valD (R.map (rowE a)) (kT p.1) = _
      rw [row_val, (rowO_some nd).mpr hp]
      rfl
    rw [e]
    show Option.bind (some (p.2.map (stepD a)).length) _ = _
    simp only [Option.bind_some]
    rw [klD_rows nd fun q hq => h q (List.mem_cons_of_mem _ hq)]
    simp only [Option.bind_some, List.map_cons, List.length_map]
    have : keyD (rowE a p).1 = tun p.1 := keyD_kT p.1
    rw [this]
    rfl
theorem pe_pure (p : List Int × Int) : pureB (pe p) = true := by
  have := pure_tun p.1
  simp [pe, pureB, pureL, this]
theorem moves_table_eq (h : a.Ok) (h4 : a.ss.length ≤ 4) (m1 : 1 ≤ many) (m5 : many ≤ 5) (ht : t.length = a.ss.length) (hb : ∀ x ∈ t, 0 ≤ x ∧ x ≤ (many : Nat)) (ha : allH a t = true) (nd : (R.map (·.1)).Nodup) (e : bfsO (mvL a many) 4000 [(t, [])] [t] = some R) :
    fn_moves_table [a.d, .int (many : Nat), tun t] st = some (.pt ((tbOf R).map pe), st) := by
  have l8 := h.ss.len.2
  obtain ⟨s', ew, w, z⟩ := ways_eq (st := st) h h4 (by omega) ht (fun x hx => by have := hb x hx; omega) e
  have pre : s' = st ++ s'.drop st.length := by
    have := List.take_append_drop st.length s'
    rw [w.pre] at this
    exact this.symm
  unfold fn_moves_table
  refine seal_more (more := s'.drop st.length) ?_ (show pureL _ = true from pureL_map pe_pure _)
  rw [← pre]
  refine run_at (ρ := [some a.d, some (.int (many : Nat)), some (tun t), none, none]) (ρ' := [some a.d, some (.int (many : Nat)), some (tun t), some (.ref (st.length + 2)), none]) rfl ?_
  have f1 : fFn 2 fn_check_bands (fCons (fV 0) (fCons (fV 1) fNil)) [some a.d, some (.int (many : Nat)), some (tun t), none, none] st = some (.non, st) := fn_ok (ds := [a.d, .int (many : Nat)]) (st1 := st) rfl rfl (check_bands_ok h4 m1 m5)
  have f2 : fFn 3 fn_check_tuning (fCons (fV 0) (fCons (fV 1) (fCons (fV 2) fNil))) [some a.d, some (.int (many : Nat)), some (tun t), none, none] st = some (.non, st) := fn_ok (ds := [a.d, .int (many : Nat), tun t]) (st1 := st) rfl rfl (check_tuning_ok h ht (by omega) hb ha)
  have f6 : fFn 3 fn_ways (fCons (fV 0) (fCons (fV 1) (fCons (fV 2) fNil))) [some a.d, some (.int (many : Nat)), some (tun t), none, none] st = some (.ref (st.length + 2), s') := fn_ok (ds := [a.d, .int (many : Nat), tun t]) (st1 := st) rfl rfl ew
  have zl := z.len h4
  have f7 : fKL 3 4 [some a.d, some (.int (many : Nat)), some (tun t), some (.ref (st.length + 2)), none] s' = some (.lst ((R.map fun p => (p.1, (p.2.length : Int))).map pe), s') := by
    unfold fKL
    simp only [e_V, List.getElem?_cons_zero, List.getElem?_cons_succ, Option.bind_some]
    rw [dict_ok w.rd]
    simp only [Option.bind_some]
    rw [if_pos ⟨by rw [List.length_map, sizeLine_eq]; have : R.length ≤ 10000 := zl; omega, by simp⟩, klD_rows nd fun _ h => h, List.map_map]
    rfl
  have f8 : fCall ptD (fCons (fCall sortedZ (fCons (fKL 3 4) fNil)) fNil) [some a.d, some (.int (many : Nat)), some (tun t), some (.ref (st.length + 2)), none] s' = some (.pt ((tbOf R).map pe), s') := by
    rw [e_call, e_cons, e_call, e_cons, f7]
    simp only [Option.bind_some, e_nil]
    rw [sorted_pe (by rw [List.length_map]; have : R.length ≤ 10000 := zl; omega)]
    simp only [Option.bind_some]
    rfl
  exact seqT (expr_ok f1) (seqT (expr_ok f2) (seqT (set_ok f6) (ret_ok f8)))
end
end EL
set_option Elab.async false
set_option linter.all false
set_option maxRecDepth 100000
set_option maxHeartbeats 400000
namespace EL
open PySem PySem.Spec PyProof.Rows L2 GxR LG FW
section
variable {lh i j n : Nat} {ll ll' : List Nat} {h h' : Hs} {b b' : Bool} {st st1 s s1 s2 s3 : Sto} {ρ ρ' : Rho} {x y : Str} {t : List Int} {a : Air} {r : Stn}
def putA {α : Type} (l : List (Str × α)) (x : Str) (v : α) : List (Str × α) := if (l.any fun p => decide (p.1 = x)) = true then l.map (fun p => if p.1 = x then (p.1, v) else p) else l ++ [(x, v)]
def Fz (lh : Nat) (s s' : Sto) : Prop := s.length ≤ s'.length ∧ ∀ k, (k < lh ∨ (lh + 1005 ≤ k ∧ k < s.length)) → s'[k]? = s[k]?
theorem Fz.refl : Fz lh s s := ⟨Nat.le_refl _, fun _ _ => rfl⟩
theorem Fz.trans (f : Fz lh s s1) (g : Fz lh s1 s2) : Fz lh s s2 := ⟨Nat.le_trans f.1 g.1, fun k hk => (g.2 k (hk.imp id fun z => ⟨z.1, Nat.lt_of_lt_of_le z.2 f.1⟩)).trans (f.2 k hk)⟩
theorem Fz.set {k : Nat} {o : O} (h1 : lh ≤ k) (h2 : k < lh + 1005) : Fz lh s (s.set k o) := ⟨by simp, fun m hm => List.getElem?_set_ne (by omega)⟩
theorem Fz.app (hl : lh ≤ s.length) (more : Sto) : Fz lh s (s ++ more) := ⟨by simp, fun k hk => List.getElem?_append_left (by omega)⟩
theorem Fz.bg {lb : Nat} (f : Fz lh s s1) (hlb : lb < lh) (bg : Bg lb s) : Bg lb s1 := by
  obtain ⟨u, v, e, o⟩ := bg
  exact ⟨u, v, (f.2 lb (.inl hlb)).trans e, o⟩
end
end EL
set_option Elab.async false
set_option linter.all false
set_option maxRecDepth 100000
set_option maxHeartbeats 400000
namespace EL
open PySem PySem.Spec PyProof.Rows L2 GxR LG FW
open PySem.W (AllAlike Sortable dataLe)
section
variable {lh i j n : Nat} {ll ll' : List Nat} {h h' : Hs} {b b' : Bool} {st st1 s s1 s2 s3 : Sto} {ρ ρ' : Rho} {x y : Str} {t : List Int} {a : Air} {r q : Stn}
structure Hs.Ok (h : Hs) : Prop where
  pr : h.prices.length ≤ 9 ∧ ∀ p ∈ h.prices, 0 ≤ p ∧ p ≤ 1000
  lk : 1 ≤ h.lk ∧ h.lk ≤ 1000
  st : ∀ s ∈ h.ss, s.Ok
  nm : (h.ss.map Stn.nm).Sublist nms
  db : ∀ s ∈ h.ss, ∃ d, look h.db s.nm = some d
  dn : ∀ x, (look h.db x).isSome = true → x ∈ h.ss.map Stn.nm
  pw : ∀ s ∈ h.ss, ∃ p, look h.pw s.nm = some p ∧ 1 ≤ p ∧ p ≤ 1000000
  dl : h.db.length ≤ h.ss.length ∧ h.pw.length ≤ h.ss.length
  rk : ∀ k, k < 1000 → ((h.rows k).map (·.1)).Nodup ∧ ∀ p ∈ h.rows k, p.1 ∈ h.ss.map Stn.nm ∧ p.2 < h.gv.length
  lb : ∀ lic ∈ h.gv, 1 ≤ lic.bd ∧ lic.bd ≤ 9
theorem Hs.Ok.l8 (o : h.Ok) : h.ss.length ≤ 8 := by
  have := o.nm.length_le
  rw [List.length_map] at this
  exact this
theorem Hs.Ok.air (o : h.Ok) (hn : h.ss ≠ []) : h.air.Ok := ⟨⟨⟨List.length_pos_iff.mpr hn, o.l8⟩, o.nm, o.st⟩, o.lk⟩
theorem Hs.Ok.rows (o : h.Ok) : h.RowsOk := fun k hk p hp => ((o.rk k hk).2 p hp).2
theorem Hs.Ok.band (o : h.Ok) : h.BandOk := fun x k hk => by
  unfold Hs.band
  cases e : look (h.rows k) x with
  | none => exact ⟨Int.le_refl _, (show (0 : Int) ≤ 9 by decide)⟩
  | some m =>
    have := ((o.rk k hk).2 _ (look_mem e)).2
    show 0 ≤ ((h.gv[m]?).map Lic.bd).getD 0 ∧ ((h.gv[m]?).map Lic.bd).getD 0 ≤ 9
    rw [List.getElem?_eq_getElem this]
    have := o.lb h.gv[m] (List.getElem_mem this)
    exact ⟨by show 0 ≤ h.gv[m].bd; omega, this.2⟩
def Hs.add (h : Hs) (q : Stn) : Hs := { h with ss := h.ss ++ [q], pw := putA h.pw q.nm q.pw, db := putA h.db q.nm 0 }
end
end EL
set_option Elab.async false
set_option linter.all false
set_option maxRecDepth 100000
set_option maxHeartbeats 400000
namespace EL
open PySem PySem.Spec PyProof.Rows L2 GxR LG FW
section
variable {lh i j n : Nat} {ll ll' : List Nat} {h h' : Hs} {b b' : Bool} {st st1 s s1 s2 s3 : Sto} {ρ ρ' : Rho} {x y : Str} {t : List Int} {a : Air} {r q : Stn}
def Hs.new (prices : List Int) (lk : Int) : Hs := ⟨prices, lk, 0, [], [], [], [], fun _ => []⟩
end
end EL
set_option Elab.async false
set_option linter.all false
set_option maxRecDepth 100000
set_option maxHeartbeats 400000
namespace EL
open PySem PySem.Spec PyProof.Rows L2 GxR LG FW
section
variable {lh i j n f l m : Nat} {ll ll' : List Nat} {h h' : Hs} {b b' : Bool} {st st1 s s1 s2 s3 : Sto} {ρ ρ' : Rho} {x y : Str} {t : List Int} {a : Air} {r q : Stn}
def Hs.price (h : Hs) (m : Nat) : Int := h.prices.getD (m - 1) 0
def Hs.lic (h : Hs) (x : Str) (m f l : Nat) : Lic := ⟨x, (m : Nat), h.price m, (f : Nat), (l : Nat)⟩
end
end EL
set_option Elab.async false
set_option linter.all false
set_option maxRecDepth 100000
set_option maxHeartbeats 400000
namespace EL
open PySem PySem.Spec PyProof.Rows L2 GxR LG FW
section
variable {lh i j n k : Nat} {ll ll' : List Nat} {h h' : Hs} {b b' : Bool} {st st1 s s1 s2 s3 : Sto} {ρ ρ' : Rho} {x y : Str} {t u : List Int} {a c : Air} {r q : Stn} {xs ys : List Str}
theorem HAt.keep (A : HAt lh ll h b st) (kp : ∀ n, lh ≤ n → n < st.length → st1[n]? = st[n]?) : HAt lh ll h b st1 where
  hs := by rw [kp _ (by omega) (by have := A.lt; omega)]; exact A.hs
  pw := by rw [kp _ (by omega) (by have := A.lt; omega)]; exact A.pw
  db := by rw [kp _ (by omega) (by have := A.lt; omega)]; exact A.db
  bd := by rw [kp _ (by omega) (by have := A.lt; omega)]; exact A.bd
  gv := by rw [kp _ (by omega) (by have := A.lt; omega)]; exact A.gv
  gl := A.gl
  hi := A.hi
  lc := fun i l lic q1 q2 => by
    have := A.lc i l lic q1 q2
    rw [kp l (by have := A.hi l (List.mem_of_getElem? q1); omega) (List.getElem?_eq_some_iff.mp this).1]
    exact this
  rw := fun i hi => by rw [kp _ (by omega) (by have := A.lt; omega)]; exact A.rw i hi
theorem HAt.go {lb : Nat} (A : HAt lh ll h b st) (hl : lb < lh) (g : Go lb st st1) : HAt lh ll h b st1 := A.keep fun n hn _ => g.at (by omega)
def Hs.fndP (h : Hs) (x : Str) : Int := (look h.pw x).getD 0
def Hs.fnd (h : Hs) (s : Stn) : Stn := { s with pw := h.fndP s.nm }
def Hs.snd (h : Hs) (k : Nat) : List Stn := h.ss.filter fun s => decide (h.band s.nm k ≠ 0)
def Hs.sub (h : Hs) (k : Nat) : Air := ⟨(h.snd k).map h.fnd, h.lk⟩
theorem send_P : sendL a t r = ((pairsA a t).filter fun x => decide (x.2 ≠ 0) && decide (x.1.nm ≠ r.nm)).map fun x => x.1.nm := by
  unfold sendL pairsA
  rw [List.filter_map, List.map_map]
  rfl
theorem Sub.send (S : Sub a t c u) : sendL c u r = sendL a t r := by
  rw [send_P, send_P, S.pr, List.filter_filter]
  congr 1
  refine List.filter_congr fun x _ => ?_
  by_cases z : x.2 = 0
  · simp [z]
  · simp [z]
end
end EL
set_option Elab.async false
set_option linter.all false
set_option maxRecDepth 100000
set_option maxHeartbeats 400000
namespace EL
open PySem PySem.Spec PyProof.Rows L2 GxR LG FW
end EL
set_option Elab.async false
set_option linter.all false
set_option maxRecDepth 100000
set_option maxHeartbeats 400000
namespace EL
open PySem PySem.Spec PyProof.Rows L2 GxR LG FW
end EL
set_option Elab.async false
set_option linter.all false
set_option maxRecDepth 100000
set_option maxHeartbeats 400000
namespace EL
open PySem PySem.Spec PyProof.Rows L2 GxR LG FW
section
variable {lh lb i j n k f l m : Nat} {ll ll' : List Nat} {h h' : Hs} {b b' : Bool} {st st1 s s1 s2 s3 S0 : Sto} {ρ ρ' : Rho} {x y : Str} {t u : List Int} {a c : Air} {r q : Stn} {xs ys : List Str} {α : Type} {g : α → D}
theorem for_findS {tg : Tg} {bd : FS} {enc : α → D} {F : α → Option D} {I : Rho → Sto → Prop} : ∀ {L : List α} {ρ : Rho} {s : Sto}, I ρ s →
    (∀ x ∈ L, ∀ ρ s, I ρ s → ∃ ρ1 ρ2 s2, tgD tg (enc x) ρ = some ρ1 ∧ I ρ2 s2 ∧ bd ρ1 s = some ((F x).elim .nx .rt, ρ2, s2)) →
    ∃ ρ' s', forD tg bd [] (L.map enc) ρ s = some ((L.findSome? F).elim .nx .rt, ρ', s') ∧ I ρ' s'
  | [], ρ, s, i, _ => ⟨ρ, s, by unfold forD; simp only [List.map_nil]; rw [if_pos Intact.nil]; rfl, i⟩
  | x :: L, ρ, s, i, hh => by
    obtain ⟨ρ1, ρ2, s2, e1, i2, e2⟩ := hh x List.mem_cons_self ρ s i
    simp only [List.map_cons]
    unfold forD
    rw [if_pos Intact.nil, e1]
    simp only [Option.bind_some]
    rw [e2]
    cases q : F x with
    | some v =>
      refine ⟨ρ2, s2, ?_, i2⟩
      rw [List.findSome?_cons, q]
      rfl
    | none =>
      obtain ⟨ρ', s', e3, i3⟩ := for_findS (L := L) i2 fun y hy => hh y (List.mem_cons_of_mem _ hy)
      refine ⟨ρ', s', ?_, i3⟩
      rw [List.findSome?_cons, q]
      exact e3
end
end EL
set_option Elab.async false
set_option linter.all false
set_option maxRecDepth 100000
set_option maxHeartbeats 400000
namespace EL
open PySem PySem.Spec PyProof.Rows L2 GxR LG FW BF
section
variable {i many j lb : Nat} {st s : Sto} {a : Air} {t u o : List Int} {R : Rows} {L M : Tbl}
def ke (p : List Int × Int) : List Key × D := (kT p.1, .int p.2)
def lkI (L : Tbl) (t : List Int) : Option Int := (L.find? fun p => decide (p.1 = t)).map (·.2)
theorem ht_irr : ∀ x : List Int, HT.lexLt x x = false
  | [] => rfl
  | p :: x => by rw [HT.lexLt_cons, if_pos rfl]; exact ht_irr x
theorem Ris.nd (h : Ris L) : (L.map (·.1)).Nodup := by
  unfold List.Nodup
  rw [List.pairwise_map]
  refine List.Pairwise.imp (fun {x y} h e => ?_) h
  rw [e, ht_irr] at h
  cases h
theorem lk_val : valD (L.map ke) (kT t) = (lkI L t).map D.int := by
  unfold valD lkI
  rw [find_map, Option.map_map, Option.map_map]
  have : (fun x : List Int × Int => decide ((ke x).1 = kT t)) = fun x => decide (x.1 = t) := by
    funext x
    by_cases e : x.1 = t
    · rw [decide_eq_true e, decide_eq_true (by show kT x.1 = kT t; rw [e])]
    · rw [decide_eq_false e]; exact decide_eq_false (fun z : kT x.1 = kT t => e (kT_inj z))
  rw [this]
  rfl
theorem lk_mem (nd : (L.map (·.1)).Nodup) {n : Int} : lkI L t = some n ↔ (t, n) ∈ L := by
  induction L with
  | nil => simp [lkI]
  | cons p L ih =>
    rw [List.map_cons, List.nodup_cons] at nd
    unfold lkI
    rw [List.find?_cons]
    by_cases e : p.1 = t
    · rw [decide_eq_true e]
      constructor
      · intro z
        have : p.2 = n := by simpa using z
        rw [← e, ← this]
        exact List.mem_cons_self
      · intro z
        rcases List.mem_cons.mp z with z | z
        · rw [← z]; rfl
        · exact absurd (List.mem_map.mpr ⟨_, z, e.symm⟩) nd.1
    · rw [decide_eq_false e]
      show lkI L t = some n ↔ _
      rw [ih nd.2]
      constructor
      · exact fun z => List.mem_cons_of_mem _ z
      · intro z
        rcases List.mem_cons.mp z with z | z
        · exact absurd (by rw [← z]) e
        · exact z
theorem put_new {v : D} (h : ∀ p ∈ L, p.1 ≠ t) : putD (L.map ke) (kT t) v = L.map ke ++ [(kT t, v)] := by
  unfold putD
  rw [if_neg]
  rw [List.any_eq_true]
  rintro ⟨x, hx, e⟩
  obtain ⟨p, hp, rfl⟩ := List.mem_map.mp hx
  exact h p hp (kT_inj (of_decide_eq_true e))
theorem fresh_of {p : List Int × Int} (nd : ((M ++ p :: L).map (·.1)).Nodup) : ∀ q ∈ M, q.1 ≠ p.1 := fun q hq e => by
  rw [List.map_append, List.nodup_append] at nd
  exact nd.2.2 q.1 (List.mem_map_of_mem hq) p.1 (by simp) e
theorem shift_nd {p : List Int × Int} (nd : ((M ++ p :: L).map (·.1)).Nodup) : (((M ++ [p]) ++ L).map (·.1)).Nodup := by
  rw [List.append_assoc]; exact nd
theorem dc_loop {ρ : Rho} {s0 : Sto} (hl : ρ.length = 11) : ∀ {L M : Tbl}, ((M ++ L).map (·.1)).Nodup → (M ++ L).length ≤ 10000 → dcD (.many [6, 7]) (fV 6) (fV 7) s0.length [] ρ (L.map pe) (s0 ++ [.dT (M.map ke)]) = some (s0 ++ [.dT ((M ++ L).map ke)])
  | [], M, _, _ => by
    unfold dcD
    simp only [List.map_nil]
    rw [if_pos Intact.nil, List.append_nil]
  | p :: L, M, nd, hz => by
    simp only [List.map_cons]
    unfold dcD
    rw [if_pos Intact.nil]
    have e1 : tgD (.many [6, 7]) (pe p) ρ = some ((ρ.set 6 (some (tun p.1))).set 7 (some (.int p.2))) := rfl
    rw [e1]
    simp only [Option.bind_some]
    have v6 : fV 6 ((ρ.set 6 (some (tun p.1))).set 7 (some (.int p.2))) (s0 ++ [.dT (M.map ke)]) = some (tun p.1, s0 ++ [.dT (M.map ke)]) := by
      rw [e_V, List.getElem?_set_ne (by decide), List.getElem?_set_self (by omega)]
    have v7 : fV 7 ((ρ.set 6 (some (tun p.1))).set 7 (some (.int p.2))) (s0 ++ [.dT (M.map ke)]) = some (.int p.2, s0 ++ [.dT (M.map ke)]) := by
      rw [e_V, List.getElem?_set_self (by rw [List.length_set]; omega)]
    rw [v6]
    simp only [Option.bind_some]
    rw [v7]
    simp only [Option.bind_some]
    rw [dict_ok (V := M.map ke) (by simp)]
    simp only [Option.bind_some]
    rw [key_tun]
    simp only [Option.bind_some]
    have hm : M.length ≤ 10000 := by rw [List.length_append] at hz; omega
    rw [if_pos (by rw [List.length_map, sizeLine_eq]; omega), put_new (fresh_of nd), app_mid]
    have := dc_loop (s0 := s0) hl (L := L) (M := M ++ [p]) (shift_nd nd) (by rw [List.append_assoc]; exact hz)
    rw [List.append_assoc, List.map_append] at this
    exact this
theorem mergeT_new : ∀ {L M : Tbl}, ((M ++ L).map (·.1)).Nodup → mergeDT (M.map ke) (L.map ke) = (M ++ L).map ke
  | [], M, _ => by rw [List.append_nil]; rfl
  | p :: L, M, nd => by
    show mergeDT (putD (M.map ke) (kT p.1) (.int p.2)) (L.map ke) = _
    rw [put_new (fresh_of nd)]
    have := mergeT_new (L := L) (M := M ++ [p]) (shift_nd nd)
    rw [List.append_assoc, List.map_append] at this
    exact this
theorem pairs_pe : ∀ L : Tbl, pairsT (L.map pe) = some (L.map ke)
  | [] => rfl
  | p :: L => by
    show pairsT (.tup [tun p.1, .int p.2] :: L.map pe) = _
    unfold pairsT
    rw [key_tun]
    simp only [Option.bind_some]
    rw [pairs_pe L]
    rfl
theorem dictPt_eq (nd : (L.map (·.1)).Nodup) : dictPt [.pt (L.map pe)] st = some (.ref st.length, st ++ [.dT (L.map ke)]) := by
  show Option.bind (pairsT (L.map pe)) _ = _
  rw [pairs_pe]
  simp only [Option.bind_some]
  have := mergeT_new (L := L) (M := []) (by simpa using nd)
  rw [show mergeDT [] (L.map ke) = L.map ke from by simpa using this]
theorem zip_lt : ∀ {ts : List (List Int)}, ts.Pairwise (fun x y => HT.lexLt x y = true) → ∀ d ∈ List.zipWith (fun x y => D.tup [x, y]) (ts.map tun) ((ts.map tun).drop 1), ∃ x y, d = .tup [tun x, tun y] ∧ HT.lexLt x y = true
  | [], _, d, h => by simp at h
  | [_], _, d, h => by simp at h
  | x :: y :: r, hp, d, h => by
    have h : d ∈ D.tup [tun x, tun y] :: List.zipWith (fun x y => D.tup [x, y]) ((y :: r).map tun) (((y :: r).map tun).drop 1) := h
    rcases List.mem_cons.mp h with h | h
    · rw [List.pairwise_cons] at hp
      exact ⟨x, y, h, hp.1 y List.mem_cons_self⟩
    · rw [List.pairwise_cons] at hp
      exact zip_lt hp.2 d h
theorem ints_tun : ∀ t : List Int, intsD (t.map D.int) = some t
  | [] => rfl
  | x :: t => by
    show intsD (.int x :: t.map D.int) = _
    unfold intsD
    rw [ints_tun t]
    rfl
theorem ltX_tun {x y : List Int} : ltX (tun x) (tun y) st = some (.bl (HT.lexLt x y), st) := by
  unfold ltX
  rw [show intsOf1 (tun x) = some x from ints_tun x, show intsOf1 (tun y) = some y from ints_tun y]
  rfl
theorem risingT_eq {ts : List (List Int)} (h : ts.Pairwise fun x y => HT.lexLt x y = true) : fn_is_risingT [.lst (ts.map tun)] st = some (.bl true, st) := by
  unfold fn_is_risingT
  refine seal_same ?_ rfl
  refine run_at (ρ := [some (.lst (ts.map tun))]) (ρ' := [some (.lst (ts.map tun))]) rfl (ret_ok ?_)
  have Z : iZip2 (fCons (fV 0) (fCons (fSl (fV 0) (oSome (fC (.int 1))) oNone) fNil)) [some (.lst (ts.map tun))] st = some (List.zipWith (fun x y => D.tup [x, y]) (ts.map tun) ((ts.map tun).drop 1), [], st) := by
    unfold iZip2
    simp only [e_cons, e_V, e_nil, e_sl, e_oS, e_oN, e_C, List.getElem?_cons_zero, Option.bind_some, e_slZ, cut_one, e_sqZ]
    rfl
  have A : allD (.many [0, 1]) (fOp ltX (fV 0) (fV 1)) [] (List.zipWith (fun x y => D.tup [x, y]) (ts.map tun) ((ts.map tun).drop 1)) [none, none] st = some ((List.zipWith (fun x y => D.tup [x, y]) (ts.map tun) ((ts.map tun).drop 1)).all (fun _ => true), st) := by
    refine allD_eq Intact.nil (I := fun ρ => ∃ p q, ρ = [p, q]) ⟨_, _, rfl⟩ fun d hd ρ ⟨p, q, eρ⟩ => ?_
    subst eρ
    obtain ⟨x, y, rfl, e⟩ := zip_lt h d hd
    refine ⟨[some (tun x), some (tun y)], rfl, ⟨_, _, rfl⟩, ?_⟩
    rw [op_ok (st1 := st) (d := tun x) rfl (e := tun y) (st2 := st) rfl ltX_tun, e]
  unfold fAllG
  rw [Z]
  simp only [Option.bind_some]
  rw [show capD [none, none] [some (.lst (ts.map tun))] = [none, none] from rfl, A]
  simp
/-- a table's entries are tunings -/
def TbOk (a : Air) (L : Tbl) : Prop := ∀ p ∈ L, p.1.length = a.ss.length ∧ ∀ x ∈ p.1, 0 ≤ x ∧ x ≤ 9
theorem numbered_eq (h8 : a.ss.length ≤ 8) {p : List Int × Int} (hp : p.1.length = a.ss.length ∧ ∀ x ∈ p.1, 0 ≤ x ∧ x ≤ 9) : fn_is_numbered [a.d, pe p] st = some (.bl true, st) := by
  unfold fn_is_numbered
  refine seal_same ?_ rfl
  refine run_at (ρ := [some a.d, some (pe p)]) (ρ' := [some a.d, some (pe p)]) rfl (ret_ok ?_)
  have q1 : fFn 2 fn_is_tuple_of (fCons (fV 1) (fCons (fC (.int 2)) fNil)) [some a.d, some (pe p)] st = some (.bl true, st) := fn_ok (ds := [pe p, .int 2]) (st1 := st) rfl rfl (tuple_of_eq rfl)
  have i0 : fOp ixD (fV 1) (fC (.int 0)) [some a.d, some (pe p)] st = some (tun p.1, st) := rfl
  have i1 : fOp ixD (fV 1) (fC (.int 1)) [some a.d, some (pe p)] st = some (.int p.2, st) := rfl
  have q2 : fFn 2 fn_is_tuning (fCons (fV 0) (fCons (fOp ixD (fV 1) (fC (.int 0))) fNil)) [some a.d, some (pe p)] st = some (.bl true, st) := by
    refine fn_ok (ds := [a.d, tun p.1]) (st1 := st) ?_ rfl (is_tuning_ok h8 hp.1 hp.2)
    simp only [e_cons, e_V, e_nil, List.getElem?_cons_zero, List.getElem?_cons_succ, Option.bind_some, i0]
  have q3 : fFn 1 fn_is_number (fCons (fOp ixD (fV 1) (fC (.int 1))) fNil) [some a.d, some (pe p)] st = some (.bl true, st) := by
    refine fn_ok (ds := [.int p.2]) (st1 := st) ?_ rfl number_eq
    simp only [e_cons, e_nil, Option.bind_some, i1]
  rw [e_and, q1]
  simp only [Option.bind_some, e_asB, if_true]
  rw [e_and, q2]
  simp only [Option.bind_some, e_asB, if_true]
  exact q3
theorem are_numbered_eq (h8 : a.ss.length ≤ 8) (hL : TbOk a L) (r : Ris L) (hz : L.length ≤ 1000) : fn_are_numbered [a.d, .pt (L.map pe)] st = some (.bl true, st) := by
  unfold fn_are_numbered
  refine seal_same ?_ rfl
  refine run_at (ρ := [some a.d, some (.pt (L.map pe)), none, none]) (ρ' := [some a.d, some (.pt (L.map pe)), none, none]) rfl ?_
  have isi : fCall isiD (fCons (fV 1) (fCons (fC (.ty "tuple")) fNil)) [some a.d, some (.pt (L.map pe)), none, none] st = some (.bl true, st) := rfl
  have A : fAllG (iSeq (fV 1)) (.one 0) (fFn 2 fn_is_numbered (fCons (fV 1) (fCons (fV 0) fNil))) [none, some 0] [some a.d, some (.pt (L.map pe)), none, none] st = some (.bl ((L.map pe).all fun _ => true), st) :=
    allG_all (ys := [some a.d]) (items := L.map pe) (p := fun _ => true) rfl rfl fun d hd => by
      obtain ⟨p, hp, rfl⟩ := List.mem_map.mp hd
      exact fn_ok (ds := [a.d, pe p]) (st1 := st) rfl rfl (numbered_eq h8 (hL p hp))
  have A' : fAllG (iSeq (fV 1)) (.one 0) (fFn 2 fn_is_numbered (fCons (fV 1) (fCons (fV 0) fNil))) [none, some 0] [some a.d, some (.pt (L.map pe)), none, none] st = some (.bl true, st) := by rw [A]; simp
  have lc : fLcZ (iSeq (fV 1)) (.many [2, 3]) fYes (fV 2) [2, 3] [some a.d, some (.pt (L.map pe)), none, none] st = some (.lst ((L.map (·.1)).map tun), st) := by
    rw [List.map_map]
    exact lc_map (l := L) (enc := pe) (w := fun p => tun p.1) rfl (fun p _ => ⟨[some a.d, some (.pt (L.map pe)), some (tun p.1), some (.int p.2)], rfl, rfl⟩) hz
  refine seqT (if_no (or_ff (tnot_ok isi) (tnot_ok A'))) (ret_ok ?_)
  refine fn_ok (ds := [.lst ((L.map (·.1)).map tun)]) (st1 := st) ?_ rfl (risingT_eq ?_)
  · rw [e_cons, lc]
    rfl
  · rw [List.pairwise_map]
    exact r
def stp1 (L : Tbl) (n : Int) (m : BF.Mv) : Bool := decide ((lkI L m.2.2).getD (n + 2) ≤ n + 1)
def tabB (a : Air) (many : Nat) (o : List Int) (L : Tbl) : Bool := decide ((lkI L o).getD 1 ≤ 0) && L.all fun p => (mvL a many p.1).all (stp1 L p.2)
abbrev tbR (a : Air) (many : Nat) (o : List Int) (L : Tbl) (x4 x5 x6 x7 x8 x9 x10 : Option D) : Rho := [some a.d, some (.int (many : Nat)), some (tun o), some (.pt (L.map pe)), x4, x5, x6, x7, x8, x9, x10]
noncomputable def bodyI1 : FS := (sIf (fTst (fOp gtD (fDGet2 (fV 4) (fV 10) (fOp addD (fV 7) (fC (.int 2)))) (fOp addD (fV 7) (fC (.int 1))))) (sRet (fC (.bl false))) sNext)
noncomputable def bodyI2 : FS := (sFor (iSeq (fFn 3 fn_moves_from (fCons (fV 5) (fCons (fV 1) (fCons (fV 6) fNil))))) (.many [8, 9, 10]) bodyI1)
theorem is_table_form : sb_is_moves_table = (sSeq (sExpr (fFn 2 fn_check_bands (fCons (fV 0) (fCons (fV 1) fNil))))
    (sSeq (sExpr (fFn 3 fn_check_tuning (fCons (fV 0) (fCons (fV 1) (fCons (fV 2) fNil)))))
    (sSeq (sIf (fTNot (fTst (fFn 2 fn_are_numbered (fCons (fV 0) (fCons (fV 3) fNil))))) (sRet (fC (.bl false))) sNext)
    (sSeq (sSet 4 (fDcT (iSeq (fV 3)) (.many [6, 7]) (fV 6) (fV 7) [6, 7]))
    (sSeq (sIf (fTst (fOp gtD (fDGet2 (fV 4) (fV 2) (fC (.int 1))) (fC (.int 0)))) (sRet (fC (.bl false))) sNext)
    (sSeq (sSet 5 (fMake "Judge" 2 fn_Judge____init__ (fCons (fV 0) fNil)))
    (sSeq (sFor (iSeq (fV 3)) (.many [6, 7]) bodyI2)
    (sRet (fC (.bl true)))))))))) := rfl
theorem get2_ok {ρ : Rho} {fo fe fx : FE} {l : Nat} {w : Int} (h1 : fo ρ s = some (.ref l, s)) (h2 : s[l]? = some (.dT (L.map ke))) (h3 : fe ρ s = some (tun t, s)) (h4 : fx ρ s = some (.int w, s)) : fDGet2 fo fe fx ρ s = some (.int ((lkI L t).getD w), s) := by
  unfold fDGet2
  rw [h1]
  simp only [Option.bind_some]
  rw [dict_ok h2]
  simp only [Option.bind_some]
  rw [h3]
  simp only [Option.bind_some]
  rw [h4]
  simp only [Option.bind_some]
  rw [dict_ok h2]
  simp only [Option.bind_some]
  rw [key_tun]
  simp only [Option.bind_some]
  rw [lk_val]
  cases lkI L t <;> rfl
theorem bodyI1_ok {n : Int} {m : BF.Mv} {l : Nat} {x5 x6 x8 x9 : Option D} (hl : s[l]? = some (.dT (L.map ke))) :
    bodyI1 (tbR a many o M (some (.ref l)) x5 x6 (some (.int n)) x8 x9 (some (tun m.2.2))) s = some ((if stp1 L n m = true then none else some (D.bl false)).elim .nx .rt, tbR a many o M (some (.ref l)) x5 x6 (some (.int n)) x8 x9 (some (tun m.2.2)), s) := by
  have g := get2_ok (L := L) (t := m.2.2) (w := n + 2) (fo := fV 4) (fe := fV 10) (fx := fOp addD (fV 7) (fC (.int 2))) (ρ := tbR a many o M (some (.ref l)) x5 x6 (some (.int n)) x8 x9 (some (tun m.2.2))) (s := s) rfl hl rfl rfl
  have c : fTst (fOp gtD (fDGet2 (fV 4) (fV 10) (fOp addD (fV 7) (fC (.int 2)))) (fOp addD (fV 7) (fC (.int 1)))) (tbR a many o M (some (.ref l)) x5 x6 (some (.int n)) x8 x9 (some (tun m.2.2))) s = some (!stp1 L n m, s) := by
    rw [tst_ok (gt_ok (y := n + 1) g rfl)]
    congr 1
    unfold stp1
    by_cases z : (lkI L m.2.2).getD (n + 2) ≤ n + 1
    · rw [decide_eq_true z, decide_eq_false (by omega)]; rfl
    · rw [decide_eq_false z, decide_eq_true (by omega)]; rfl
  cases z : stp1 L n m with
  | true =>
    rw [z] at c
    exact if_no c
  | false =>
    rw [z] at c
    exact if_then c rfl
/-- the store while the table is judged -/
def TS (a : Air) (st : Sto) (L : Tbl) (s : Sto) : Prop := ∃ V, GoodV a V ∧ s = st ++ [.dT (L.map ke), judO a (st.length + 2), .dT V]
theorem TS.d (w : TS a st L s) : s[st.length]? = some (.dT (L.map ke)) := by obtain ⟨V, _, rfl⟩ := w; simp
def F1 (L : Tbl) (n : Int) (m : BF.Mv) : Option D := if stp1 L n m = true then none else some (D.bl false)
def F2 (a : Air) (many : Nat) (L : Tbl) (p : List Int × Int) : Option D := (mvL a many p.1).findSome? (F1 L p.2)
theorem F1_all {l : List BF.Mv} {n : Int} : l.findSome? (F1 L n) = if l.all (stp1 L n) = true then none else some (D.bl false) := by
  induction l with
  | nil => rfl
  | cons m l ih =>
    rw [List.findSome?_cons, List.all_cons]
    unfold F1
    cases z : stp1 L n m with
    | true => simp only [if_true, Bool.true_and]; exact ih
    | false => simp
theorem F2_all {l : Tbl} : l.findSome? (F2 a many L) = if (l.all fun p => (mvL a many p.1).all (stp1 L p.2)) = true then none else some (D.bl false) := by
  induction l with
  | nil => rfl
  | cons p l ih =>
    rw [List.findSome?_cons, List.all_cons]
    have e : F2 a many L p = if ((mvL a many p.1).all (stp1 L p.2)) = true then none else some (D.bl false) := F1_all
    rw [e]
    cases z : (mvL a many p.1).all (stp1 L p.2) with
    | true => simp only [if_true, Bool.true_and]; exact ih
    | false => simp
theorem bodyI2_ok {p : List Int × Int} {x8 x9 x10 : Option D} (h : a.Ok) (h4 : a.ss.length ≤ 4) (m9 : many ≤ 9) (hp : p.1.length = a.ss.length ∧ ∀ x ∈ p.1, 0 ≤ x ∧ x ≤ 9) (w : TS a st L s) :
    ∃ y8 y9 y10 s', bodyI2 (tbR a many o M (some (.ref st.length)) (some (.ref (st.length + 1))) (some (tun p.1)) (some (.int p.2)) x8 x9 x10) s = some ((F2 a many L p).elim .nx .rt, tbR a many o M (some (.ref st.length)) (some (.ref (st.length + 1))) (some (tun p.1)) (some (.int p.2)) y8 y9 y10, s') ∧ TS a st L s' := by
  obtain ⟨V, g, rfl⟩ := w
  obtain ⟨V', g', e⟩ := moves_from_eq (s := st ++ [.dT (L.map ke), judO a (st.length + 2), .dT V]) (lj := st.length + 1) (lv := st.length + 2) (V := V) (many := many) (t := p.1) h h4 (by simp) (by simp) g hp.1 hp.2 m9
  have es : (st ++ [O.dT (L.map ke), judO a (st.length + 2), .dT V]).set (st.length + 2) (.dT V') = st ++ [.dT (L.map ke), judO a (st.length + 2), .dT V'] := by
    rw [List.set_append_right _ _ (by omega)]
    simp
  rw [es] at e
  have it : iSeq (fFn 3 fn_moves_from (fCons (fV 5) (fCons (fV 1) (fCons (fV 6) fNil)))) (tbR a many o M (some (.ref st.length)) (some (.ref (st.length + 1))) (some (tun p.1)) (some (.int p.2)) x8 x9 x10) (st ++ [.dT (L.map ke), judO a (st.length + 2), .dT V]) = some ((mvL a many p.1).map mvD, [], st ++ [.dT (L.map ke), judO a (st.length + 2), .dT V']) := by
    unfold iSeq
    rw [fn_ok (n := 3) (ds := [.ref (st.length + 1), .int (many : Nat), tun p.1]) (st1 := st ++ [.dT (L.map ke), judO a (st.length + 2), .dT V]) rfl rfl e]
    rfl
  obtain ⟨ρ', s', ef, ⟨y8, y9, y10, e1⟩, w'⟩ := for_findS (tg := .many [8, 9, 10]) (bd := bodyI1) (enc := mvD) (F := F1 L p.2) (L := mvL a many p.1)
    (I := fun ρ s' => (∃ y8 y9 y10, ρ = tbR a many o M (some (.ref st.length)) (some (.ref (st.length + 1))) (some (tun p.1)) (some (.int p.2)) y8 y9 y10) ∧ TS a st L s')
    (ρ := tbR a many o M (some (.ref st.length)) (some (.ref (st.length + 1))) (some (tun p.1)) (some (.int p.2)) x8 x9 x10) (s := st ++ [.dT (L.map ke), judO a (st.length + 2), .dT V']) ⟨⟨_, _, _, rfl⟩, V', g', rfl⟩
    fun m hm ρ s1 ⟨⟨y8, y9, y10, hρ⟩, w1⟩ => by
      subst hρ
      refine ⟨tbR a many o M (some (.ref st.length)) (some (.ref (st.length + 1))) (some (tun p.1)) (some (.int p.2)) (some (.int (m.1 : Nat))) (some (.int m.2.1)) (some (tun m.2.2)), _, s1, rfl, ⟨⟨_, _, _, rfl⟩, w1⟩, bodyI1_ok w1.d⟩
  subst e1
  exact ⟨y8, y9, y10, s', for_at it ef, w'⟩
theorem is_table_eq (h : a.Ok) (h4 : a.ss.length ≤ 4) (m1 : 1 ≤ many) (m5 : many ≤ 5) (ht : o.length = a.ss.length) (hb : ∀ x ∈ o, 0 ≤ x ∧ x ≤ (many : Nat)) (ha : allH a o = true) (hL : TbOk a L) (r : Ris L) (hz : L.length ≤ 1000) :
    fn_is_moves_table [a.d, .int (many : Nat), tun o, .pt (L.map pe)] st = some (.bl (tabB a many o L), st) := by
  have l8 := h.ss.len.2
  have key : ∃ ρ' more, sb_is_moves_table (tbR a many o L none none none none none none none) st = some (.rt (.bl (tabB a many o L)), ρ', st ++ more) := by
    have f1 : fFn 2 fn_check_bands (fCons (fV 0) (fCons (fV 1) fNil)) (tbR a many o L none none none none none none none) st = some (.non, st) := fn_ok (ds := [a.d, .int (many : Nat)]) (st1 := st) rfl rfl (check_bands_ok h4 m1 m5)
    have f2 : fFn 3 fn_check_tuning (fCons (fV 0) (fCons (fV 1) (fCons (fV 2) fNil))) (tbR a many o L none none none none none none none) st = some (.non, st) := fn_ok (ds := [a.d, .int (many : Nat), tun o]) (st1 := st) rfl rfl (check_tuning_ok h ht (by omega) hb ha)
    have f3 : fFn 2 fn_are_numbered (fCons (fV 0) (fCons (fV 3) fNil)) (tbR a many o L none none none none none none none) st = some (.bl true, st) := fn_ok (ds := [a.d, .pt (L.map pe)]) (st1 := st) rfl rfl (are_numbered_eq l8 hL r hz)
    have f4 : fDcT (iSeq (fV 3)) (.many [6, 7]) (fV 6) (fV 7) [6, 7] (tbR a many o L none none none none none none none) st = some (.ref st.length, st ++ [.dT (L.map ke)]) := by
      unfold fDcT
      rw [show iSeq (fV 3) (tbR a many o L none none none none none none none) st = some (L.map pe, [], st) from rfl]
      simp only [Option.bind_some]
      have := dc_loop (ρ := wipeD (tbR a many o L none none none none none none none) [6, 7]) (s0 := st) rfl (L := L) (M := []) (by simpa using r.nd) (by simp; omega)
      rw [List.nil_append, List.map_nil] at this
      rw [this]
      rfl
    have g5 := get2_ok (L := L) (t := o) (w := 1) (fo := fV 4) (fe := fV 2) (fx := fC (.int 1)) (ρ := tbR a many o L (some (.ref st.length)) none none none none none none) (l := st.length) (s := st ++ [.dT (L.map ke)]) rfl (by simp) rfl rfl
    have c5 : fTst (fOp gtD (fDGet2 (fV 4) (fV 2) (fC (.int 1))) (fC (.int 0))) (tbR a many o L (some (.ref st.length)) none none none none none none) (st ++ [.dT (L.map ke)]) = some (decide (0 < (lkI L o).getD 1), st ++ [.dT (L.map ke)]) := tst_ok (gt_ok g5 rfl)
    rw [is_table_form]
    unfold tabB
    by_cases z : (lkI L o).getD 1 ≤ 0
    · rw [decide_eq_false (by omega)] at c5
      rw [decide_eq_true z, Bool.true_and]
      have f6 := make_judge (st := st ++ [.dT (L.map ke)]) (ρ := tbR a many o L (some (.ref st.length)) none none none none none none) h rfl
      rw [List.length_append, List.length_singleton, List.append_assoc] at f6
      obtain ⟨ρ', s', ef, ⟨y6, y7, y8, y9, y10, e1⟩, V', g', e2⟩ := for_findS (tg := .many [6, 7]) (bd := bodyI2) (enc := pe) (F := F2 a many L) (L := L)
        (I := fun ρ s' => (∃ y6 y7 y8 y9 y10, ρ = tbR a many o L (some (.ref st.length)) (some (.ref (st.length + 1))) y6 y7 y8 y9 y10) ∧ TS a st L s')
        (ρ := tbR a many o L (some (.ref st.length)) (some (.ref (st.length + 1))) none none none none none) (s := st ++ [.dT (L.map ke), judO a (st.length + 2), .dT []]) ⟨⟨_, _, _, _, _, rfl⟩, [], .nil, rfl⟩
        fun p hp ρ s1 ⟨⟨y6, y7, y8, y9, y10, hρ⟩, w1⟩ => by
          subst hρ
          obtain ⟨z8, z9, z10, s2, e2, w2⟩ := bodyI2_ok (many := many) (o := o) (M := L) (x8 := y8) (x9 := y9) (x10 := y10) h h4 (by omega) (hL p hp) w1
          exact ⟨tbR a many o L (some (.ref st.length)) (some (.ref (st.length + 1))) (some (tun p.1)) (some (.int p.2)) y8 y9 y10, _, s2, rfl, ⟨⟨_, _, _, _, _, rfl⟩, w2⟩, e2⟩
      subst e1; subst e2
      rw [F2_all] at ef
      have it : iSeq (fV 3) (tbR a many o L (some (.ref st.length)) (some (.ref (st.length + 1))) none none none none none) (st ++ [.dT (L.map ke), judO a (st.length + 2), .dT []]) = some (L.map pe, [], st ++ [.dT (L.map ke), judO a (st.length + 2), .dT []]) := rfl
      cases q : L.all fun p => (mvL a many p.1).all (stp1 L p.2) with
      | true =>
        rw [q, if_pos rfl] at ef
        exact ⟨_, _, seqT (expr_ok f1) (seqT (expr_ok f2) (seqT (if_no (tnot_ok f3)) (seqT (ρ1 := tbR a many o L (some (.ref st.length)) none none none none none none) (set_ok f4) (seqT (if_no c5) (seqT (ρ1 := tbR a many o L (some (.ref st.length)) (some (.ref (st.length + 1))) none none none none none) (set_ok f6) (seqT (for_at it ef) (ret_ok rfl)))))))⟩
      | false =>
        rw [q, if_neg Bool.false_ne_true] at ef
        exact ⟨_, _, seqT (expr_ok f1) (seqT (expr_ok f2) (seqT (if_no (tnot_ok f3)) (seqT (ρ1 := tbR a many o L (some (.ref st.length)) none none none none none none) (set_ok f4) (seqT (if_no c5) (seqT (ρ1 := tbR a many o L (some (.ref st.length)) (some (.ref (st.length + 1))) none none none none none) (set_ok f6) (seqR (for_at it ef)))))))⟩
    · rw [decide_eq_true (by omega)] at c5
      rw [decide_eq_false z, Bool.false_and]
      exact ⟨_, _, seqT (expr_ok f1) (seqT (expr_ok f2) (seqT (if_no (tnot_ok f3)) (seqT (ρ1 := tbR a many o L (some (.ref st.length)) none none none none none none) (set_ok f4) (seqR (if_then c5 rfl)))))⟩
  obtain ⟨ρ', more, e⟩ := key
  unfold fn_is_moves_table
  exact seal_more (run_at (ρ := tbR a many o L none none none none none none none) (ρ' := ρ') rfl e) rfl
end
end EL
set_option Elab.async false
set_option linter.all false
set_option maxRecDepth 100000
set_option maxHeartbeats 400000
namespace EL
open PySem PySem.Spec PyProof.Rows L2 GxR LG FW BF
section
variable {i many j lb : Nat} {st s : Sto} {a : Air} {t u o : List Int} {R : Rows} {L M : Tbl}
noncomputable def fCat (ft fi fb : FE) : FE := fOp addD (fOp addD (fSl ft oNone (oSome fi)) (fTup (fCons fb fNil))) (fSl ft (oSome (fOp addD fi (fC (.int 1)))) oNone)
theorem cat_set {ρ : Rho} {ft fi fb : FE} {b : Int} (h1 : ft ρ s = some (tun t, s)) (h2 : fi ρ s = some (.int (i : Nat), s)) (h3 : fb ρ s = some (.int b, s)) (hi : i < t.length) (hl : t.length ≤ 20) : fCat ft fi fb ρ s = some (tun (t.set i b), s) := by
  have c1 : cutD (t.map D.int) none (some (i : Int)) = (t.take i).map D.int := by
    rw [cut_hi (by omega), List.map_take]
    rfl
  have c2 : cutD (t.map D.int) (some ((i : Int) + 1)) none = (t.drop (i + 1)).map D.int := by
    have := cut_from (ds := t.map D.int) (n := i + 1)
    rw [List.map_drop]
    exact this
  have f1 : fSl ft oNone (oSome fi) ρ s = some (.tup ((t.take i).map D.int), s) := by
    rw [e_sl, h1]
    simp only [e_oN, e_oS, Option.bind_some, h2]
    show sliceD (.tup (t.map D.int)) none (some (i : Int)) s = _
    rw [e_slT, c1]
  have f2 : fSl ft (oSome (fOp addD fi (fC (.int 1)))) oNone ρ s = some (.tup ((t.drop (i + 1)).map D.int), s) := by
    rw [e_sl, h1]
    simp only [e_oN, e_oS, e_op, e_C, Option.bind_some, h2, e_addI]
    show sliceD (.tup (t.map D.int)) (some ((i : Int) + 1)) none s = _
    rw [e_slT, c2]
  have f3 : fTup (fCons fb fNil) ρ s = some (.tup [.int b], s) := by
    simp [h3, sizeLine_eq]
  have hz : ((t.take i).map D.int ++ [.int b] ++ (t.drop (i + 1)).map D.int) = (t.set i b).map D.int := by
    rw [← set_cut t hi b]
    simp
  refine op_ok (st1 := s) (op_ok (st1 := s) f1 f3 (addT (by simp; omega))) f2 ?_
  rw [addT (by simp; omega), hz]
  rfl
theorem getD_at (hi : i < t.length) : t.getD i 0 = t[i] := by simp [List.getD, hi]
def stD (a : Air) (m : BF.Mv) : D := .tup [.str (nmAt a m.1), .int m.2.1, tun m.2.2]
abbrev soR (a : Air) (many : Nat) (t : List Int) (lf : Nat) (x4 x5 x6 x7 : Option D) : Rho := [some a.d, some (.int (many : Nat)), some (tun t), some (.ref lf), x4, x5, x6, x7]
noncomputable def bodyS1 : FS := (sSeq (sSet 7 (fCat (fV 2) (fV 4) (fV 6)))
    (sIf (fTAnd (fTst (fOp gtD (fOp ixD (fV 2) (fV 4)) (fC (.int 0)))) (fTAnd (fTst (fOp neD (fV 6) (fOp ixD (fV 2) (fV 4)))) (fTst (fOp eqD (fFn 2 fn__law_unheard (fCons (fV 0) (fCons (fV 7) fNil))) (fLz fNil))))) (sExpr (fApp (fV 3) (fTup (fCons (fV 5) (fCons (fV 6) (fCons (fV 7) fNil)))))) sNext))
noncomputable def bodyS2 : FS := (sFor (iRange2 (fCons (fC (.int 1)) (fCons (fOp addD (fV 1) (fC (.int 1))) fNil))) (.one 6) bodyS1)
theorem steps_form : sb__law_steps = (sSeq (sSet 3 (fLst fNil))
    (sSeq (sFor (iEnum (fCons (fFn 1 fn__law_names (fCons (fV 0) fNil)) fNil)) (.many [4, 5]) bodyS2)
    (sRet (fV 3)))) := rfl
theorem bodyS1_ok {b : Int} {acc : List D} {x7 : Option D} (h : a.Ok) (ht : t.length = a.ss.length) (hb : ∀ b ∈ t, 0 ≤ b ∧ b ≤ 9) (hi : i < t.length) (h0 : 0 ≤ b) (h9 : b ≤ 9) (hz : acc.length < 2000) :
    bodyS1 (soR a many t s.length (some (.int (i : Nat))) (some (.str (nmAt a i))) (some (.int b)) x7) (s ++ [.lst acc]) = some (.nx, soR a many t s.length (some (.int (i : Nat))) (some (.str (nmAt a i))) (some (.int b)) (some (tun (t.set i b))), s ++ [.lst (acc ++ (if t.getD i 0 = 0 then [] else (mvOne a t i b).toList.map (stD a)))]) := by
  have l8 := h.ss.len.2
  have f1 := cat_set (s := s ++ [.lst acc]) (t := t) (i := i) (b := b) (ft := fV 2) (fi := fV 4) (fb := fV 6) (ρ := soR a many t s.length (some (.int (i : Nat))) (some (.str (nmAt a i))) (some (.int b)) x7) rfl rfl rfl hi (by omega)
  have ix : fOp ixD (fV 2) (fV 4) (soR a many t s.length (some (.int (i : Nat))) (some (.str (nmAt a i))) (some (.int b)) (some (tun (t.set i b)))) (s ++ [.lst acc]) = some (.int (t.getD i 0), s ++ [.lst acc]) := op_ok (st1 := s ++ [.lst acc]) (d := tun t) (e := .int (i : Nat)) (st2 := s ++ [.lst acc]) rfl rfl (tun_at rfl hi)
  have bd := hb (t.getD i 0) (by rw [getD_at hi]; exact List.getElem_mem hi)
  have c0 := tst_ok (gt_ok (y := 0) (g := fC (.int 0)) ix rfl)
  have c1 : fTst (fOp neD (fV 6) (fOp ixD (fV 2) (fV 4))) (soR a many t s.length (some (.int (i : Nat))) (some (.str (nmAt a i))) (some (.int b)) (some (tun (t.set i b)))) (s ++ [.lst acc]) = some (!decide (b = t.getD i 0), s ++ [.lst acc]) := by
    rw [e_tst, op_ok (st1 := s ++ [.lst acc]) (d := .int b) (e := .int (t.getD i 0)) (st2 := s ++ [.lst acc]) rfl ix e_neI]
    rfl
  have c2 := EL.unh_nil (s := s ++ [.lst acc]) (t := t.set i b) (ρ := soR a many t s.length (some (.int (i : Nat))) (some (.str (nmAt a i))) (some (.int b)) (some (tun (t.set i b)))) (p := 0) (q := 7) h (by simp [ht]) (set_bound hb h0 h9) rfl rfl
  by_cases z0 : t.getD i 0 = 0
  · rw [if_pos z0, List.append_nil]
    rw [decide_eq_false (by omega)] at c0
    exact seqT (set_ok f1) (if_no (and_ff c0))
  · rw [if_neg z0]
    rw [decide_eq_true (by omega)] at c0
    by_cases w : b = t.getD i 0
    · rw [decide_eq_true w] at c1
      have m0 : mvOne a t i b = none := by unfold mvOne; rw [if_neg (fun z => z.1 w)]
      rw [m0, Option.toList_none, List.map_nil, List.append_nil]
      exact seqT (set_ok f1) (if_no (and_tt c0 (and_ff c1)))
    · rw [decide_eq_false w] at c1
      cases q : allH a (t.set i b) with
      | false =>
        rw [q] at c2
        have m0 : mvOne a t i b = none := by unfold mvOne; rw [if_neg (fun z => by rw [q] at z; exact absurd z.2 (by simp))]
        rw [m0, Option.toList_none, List.map_nil, List.append_nil]
        exact seqT (set_ok f1) (if_no (and_tt c0 (and_tt c1 c2)))
      | true =>
        rw [q] at c2
        have m1 : mvOne a t i b = some (i, b, t.set i b) := by unfold mvOne; rw [if_pos ⟨w, q⟩]
        rw [m1]
        refine seqT (set_ok f1) (if_then (and_tt c0 (and_tt c1 c2)) ?_)
        have e := app_ok (s := s ++ [.lst acc]) (f := fTup (fCons (fV 5) (fCons (fV 6) (fCons (fV 7) fNil)))) (ρ := soR a many t s.length (some (.int (i : Nat))) (some (.str (nmAt a i))) (some (.int b)) (some (tun (t.set i b)))) (j := 3) (l := s.length) (acc := acc) (d := stD a (i, b, t.set i b)) rfl (tup3 rfl rfl rfl) (by simp) hz
        rw [app_mid] at e
        exact e
theorem bodyS2_ok {acc : List D} {x6 x7 : Option D} (h : a.Ok) (ht : t.length = a.ss.length) (hb : ∀ b ∈ t, 0 ≤ b ∧ b ≤ 9) (hm : many ≤ 9) (hi : i < t.length) (hz : acc.length < 1000) :
    ∃ y6 y7, bodyS2 (soR a many t s.length (some (.int (i : Nat))) (some (.str (nmAt a i))) x6 x7) (s ++ [.lst acc]) = some (.nx, soR a many t s.length (some (.int (i : Nat))) (some (.str (nmAt a i))) y6 y7, s ++ [.lst (acc ++ (mvAt a many t i).map (stD a))]) := by
  have rg : iRange2 (fCons (fC (.int 1)) (fCons (fOp addD (fV 1) (fC (.int 1))) fNil)) (soR a many t s.length (some (.int (i : Nat))) (some (.str (nmAt a i))) x6 x7) (s ++ [.lst acc]) = some (rangeD 1 many, [], s ++ [.lst acc]) := range2_ok (n := many) rfl (by omega)
  obtain ⟨ρ2, s2, ef, ⟨y6, y7, e1⟩, e2⟩ := for_fold (tg := .one 6) (b := bodyS1) (src := []) (items := rangeD 1 many)
    (I := fun k ρ s' => (∃ y6 y7, ρ = soR a many t s.length (some (.int (i : Nat))) (some (.str (nmAt a i))) y6 y7) ∧ s' = s ++ [.lst (acc ++ (if t.getD i 0 = 0 then [] else ((List.range k).filterMap fun j => mvOne a t i (1 + (j : Nat))).map (stD a)))])
    (fun _ _ _ _ => Intact.nil) (fun k d hk ρ s' ⟨⟨y6, y7, hρ⟩, hs⟩ => by
      subst hρ; subst hs
      obtain ⟨hk1, ek⟩ := List.getElem?_eq_some_iff.mp hk
      have hk1 : k < many := by simpa [rangeD] using hk1
      have ed : d = .int (1 + (k : Nat)) := by rw [← ek]; simp [rangeD]
      subst ed
      have e2 := bodyS1_ok (s := s) (many := many) (i := i) (b := 1 + (k : Nat)) (acc := acc ++ (if t.getD i 0 = 0 then [] else ((List.range k).filterMap fun j => mvOne a t i (1 + (j : Nat))).map (stD a))) (x7 := y7) h ht hb hi (by omega) (by omega) (by
        rw [List.length_append]
        by_cases w : t.getD i 0 = 0
        · rw [if_pos w]; simp; omega
        · rw [if_neg w, List.length_map]; have := filterMap_le (f := fun (j : Nat) => mvOne a t i (1 + (j : Nat))) (List.range k); rw [List.length_range] at this; omega)
      refine ⟨_, rfl, .nx, _, _, e2, .inl rfl, ⟨_, _, rfl⟩, ?_⟩
      by_cases w : t.getD i 0 = 0
      · rw [if_pos w, if_pos w, if_pos w, List.append_nil]
      · rw [if_neg w, if_neg w, if_neg w, filterMap_range_succ, List.map_append, List.append_assoc]) (ρ := soR a many t s.length (some (.int (i : Nat))) (some (.str (nmAt a i))) x6 x7) (s := s ++ [.lst acc]) ⟨⟨_, _, rfl⟩, by by_cases w : t.getD i 0 = 0 <;> simp [w]⟩
  subst e1; subst e2
  have rl : (rangeD 1 many).length = many := by simp [rangeD]
  rw [rl] at ef
  refine ⟨y6, y7, ?_⟩
  have m1 : (if t.getD i 0 = 0 then [] else ((List.range many).filterMap fun j => mvOne a t i (1 + (j : Nat))).map (stD a)) = (mvAt a many t i).map (stD a) := by
    unfold mvAt
    by_cases w : t.getD i 0 = 0
    · rw [if_pos w, if_pos w]; rfl
    · rw [if_neg w, if_neg w]
  rw [m1] at ef
  exact for_at rg ef
theorem stD_pure (m : BF.Mv) : pureB (stD a m) = true := by
  have := pure_tun m.2.2
  simp [stD, pureB, pureL, this]
theorem steps_eq (h : a.Ok) (h4 : a.ss.length ≤ 4) (ht : t.length = a.ss.length) (hb : ∀ b ∈ t, 0 ≤ b ∧ b ≤ 9) (hm : many ≤ 9) : fn__law_steps [a.d, .int (many : Nat), tun t] s = some (.lst ((mvL a many t).map (stD a)), s) := by
  have en : iEnum (fCons (fFn 1 fn__law_names (fCons (fV 0) fNil)) fNil) (soR a many t s.length none none none none) (s ++ [.lst []]) = some (enumD (nmD a), [], s ++ [.lst []]) := by
    have r1 : fCons (fV 0) fNil (soR a many t s.length none none none none) (s ++ [.lst []]) = some ([a.d], s ++ [.lst []]) := rfl
    unfold iEnum
    rw [e_cons, fn_ok (n := 1) r1 rfl (names_eq h)]
    rfl
  have il : (enumD (nmD a)).length = t.length := by simp [enumD, nmD, ht]
  obtain ⟨ρ2, s2, ef, ⟨y4, y5, y6, y7, e1⟩, e2⟩ := for_fold (tg := .many [4, 5]) (b := bodyS2) (src := []) (items := enumD (nmD a))
    (I := fun k ρ s' => (∃ y4 y5 y6 y7, ρ = soR a many t s.length y4 y5 y6 y7) ∧ s' = s ++ [.lst (((List.range k).flatMap (mvAt a many t)).map (stD a))])
    (fun _ _ _ _ => Intact.nil) (fun k d hk ρ s' ⟨⟨y4, y5, y6, y7, hρ⟩, hs⟩ => by
      subst hρ; subst hs
      obtain ⟨hk1, ek⟩ := List.getElem?_eq_some_iff.mp hk
      have hk1 : k < t.length := by omega
      have hk2 : k < a.ss.length := by omega
      have ed : d = .tup [.int (k : Nat), .str (nmAt a k)] := by
        rw [← ek]
        simp [enumD, nmD, nmAt, List.getElem?_eq_getElem hk2]
      subst ed
      obtain ⟨z6, z7, e2⟩ := bodyS2_ok (s := s) (many := many) (i := k) (acc := ((List.range k).flatMap (mvAt a many t)).map (stD a)) (x6 := y6) (x7 := y7) h ht hb hm hk1
        (by rw [List.length_map]; have := mv_fold_len (a := a) (many := many) (t := t) k; have : k * many ≤ 4 * 9 := Nat.mul_le_mul (by omega) hm; omega)
      refine ⟨_, rfl, .nx, _, _, e2, .inl rfl, ⟨_, _, _, _, rfl⟩, ?_⟩
      rw [List.range_succ, List.flatMap_append, List.map_append]
      simp) (ρ := soR a many t s.length none none none none) (s := s ++ [.lst []]) ⟨⟨_, _, _, _, rfl⟩, by simp⟩
  subst e1; subst e2
  rw [il] at ef
  have em : (List.range t.length).flatMap (mvAt a many t) = mvL a many t := rfl
  rw [em] at ef
  unfold fn__law_steps
  refine seal_list (more := []) (es := (mvL a many t).map (stD a)) ?_ (pureL_map stD_pure _)
  refine run_at (ρ := [some a.d, some (.int (many : Nat)), some (tun t), none, none, none, none, none]) (ρ' := soR a many t s.length y4 y5 y6 y7) rfl ?_
  rw [steps_form]
  have f0 : fLst fNil [some a.d, some (.int (many : Nat)), some (tun t), none, none, none, none, none] s = some (.ref s.length, s ++ [.lst []]) := by simp [sizeLine_eq]
  have fo : sFor (iEnum (fCons (fFn 1 fn__law_names (fCons (fV 0) fNil)) fNil)) (.many [4, 5]) bodyS2 (soR a many t s.length none none none none) (s ++ [.lst []]) = some (.nx, soR a many t s.length y4 y5 y6 y7, s ++ [.lst ((mvL a many t).map (stD a))]) := for_at en ef
  have fr : sRet (fV 3) (soR a many t s.length y4 y5 y6 y7) (s ++ [.lst ((mvL a many t).map (stD a))]) = some (.rt (.ref s.length), soR a many t s.length y4 y5 y6 y7, s ++ [.lst ((mvL a many t).map (stD a))]) := ret_ok rfl
  have fs : sSet 3 (fLst fNil) [some a.d, some (.int (many : Nat)), some (tun t), none, none, none, none, none] s = some (.nx, soR a many t s.length none none none none, s ++ [.lst []]) := set_ok f0
  rw [seq_nx fs, seq_nx fo]
  exact fr
def rowEnd (o : List Int) (row : List Stp) : List Int := row.foldl (fun t p => t.set p.1 p.2) o
theorem wk_run {row : List Stp} (w : Wk (mvL a many) o row t) : t = rowEnd o row ∧ ∀ k p, row[k]? = some p → Wk (mvL a many) o (row.take k) (rowEnd o (row.take k)) ∧ (p.1, p.2, (rowEnd o (row.take k)).set p.1 p.2) ∈ mvL a many (rowEnd o (row.take k)) := by
  induction w with
  | nil => exact ⟨rfl, fun k p e => by simp at e⟩
  | @snoc row t m w hm ih =>
    obtain ⟨e0, ih⟩ := ih
    obtain ⟨m1, m2, m3, m4, _⟩ := mv_mem hm
    refine ⟨?_, fun k p hp => ?_⟩
    · unfold rowEnd
      rw [List.foldl_append]
      show m.2.2 = (rowEnd o row).set m.1 m.2.1
      rw [← e0, m4]
    · by_cases hk : k < row.length
      · rw [List.getElem?_append_left hk] at hp
        rw [List.take_append_of_le_length (by omega)]
        exact ih k p hp
      · have hk2 : k < (row ++ [(m.1, m.2.1)]).length := (List.getElem?_eq_some_iff.mp hp).1
        have hk3 : k = row.length := by rw [List.length_append, List.length_singleton] at hk2; omega
        subst hk3
        rw [List.getElem?_append_right (Nat.le_refl _), Nat.sub_self] at hp
        have hp : (m.1, m.2.1) = p := Option.some.inj hp
        subst hp
        rw [List.take_append_of_le_length (Nat.le_refl _), List.take_length, ← e0]
        refine ⟨w, ?_⟩
        show (m.1, m.2.1, t.set m.1 m.2.1) ∈ _
        rw [← m4]
        exact hm
theorem wk_in {c : Nat} {row : List Stp} (hm : many ≤ c) (ho : o.length = a.ss.length) (hb : ∀ x ∈ o, 0 ≤ x ∧ x ≤ (c : Nat)) (w : Wk (mvL a many) o row t) : t.length = a.ss.length ∧ ∀ x ∈ t, 0 ≤ x ∧ x ≤ (c : Nat) := by
  induction w with
  | nil => exact ⟨ho, hb⟩
  | snoc w hm' ih => exact adj_in hm ih.1 ih.2 hm'
theorem wk_heard {row : List Stp} (ha : allH a o = true) (w : Wk (mvL a many) o row t) : allH a t = true := by
  cases w with
  | nil => exact ha
  | snoc w hm => exact (mv_mem hm).2.2.2.2.2.2
theorem wk_one {row : List Stp} (m : BF.Mv) (hm : m ∈ mvL a many o) (w : Wk (mvL a many) m.2.2 row t) : Wk (mvL a many) o ((m.1, m.2.1) :: row) t := by
  induction w with
  | nil => exact .snoc (row := []) .nil hm
  | snoc w h ih => exact .snoc ih h
/-- a row of moves turned round -/
theorem wk_back {row : List Stp} (ho : o.length = a.ss.length) (hb : ∀ x ∈ o, 0 ≤ x ∧ x ≤ (many : Nat)) (ha : allH a o = true) (w : Wk (mvL a many) o row t) : ∃ row', row'.length = row.length ∧ Wk (mvL a many) t row' o := by
  induction w with
  | nil => exact ⟨[], rfl, .nil⟩
  | @snoc row t m w hm ih =>
    obtain ⟨row', h1, h2⟩ := ih
    obtain ⟨l1, b1⟩ := wk_in (c := many) (Nat.le_refl _) ho hb w
    have ht := wk_heard ha w
    obtain ⟨m1, m2, m3, m4, m5, m6, m7⟩ := mv_mem hm
    have bd := b1 (t.getD m.1 0) (by rw [getD_at m1]; exact List.getElem_mem m1)
    have back : m.2.2.set m.1 (t.getD m.1 0) = t := by
      rw [m4, List.set_set, getD_at m1]
      exact List.set_getElem_self m1
    have gm : m.2.2.getD m.1 0 = m.2.1 := by
      rw [m4]
      simp [List.getD, m1]
    have hm2 : (m.1, t.getD m.1 0, m.2.2.set m.1 (t.getD m.1 0)) ∈ mvL a many m.2.2 := mem_mv (by rw [m4, List.length_set]; exact m1) (by omega) (by omega) (by rw [gm]; omega) (by rw [gm]; exact fun z => m6 z.symm) (by rw [back]; exact ht)
    rw [back] at hm2
    exact ⟨(m.1, t.getD m.1 0) :: row', by simp [h1], wk_one (m.1, t.getD m.1 0, t) hm2 h2⟩
end
end EL
set_option Elab.async false
set_option linter.all false
set_option maxRecDepth 100000
set_option maxHeartbeats 400000
namespace EL
open PySem PySem.Spec PyProof.Rows L2 GxR LG FW BF
section
variable {i many j lb : Nat} {st s : Sto} {a : Air} {t u o : List Int} {R : Rows} {L M : Tbl}
theorem idx_nmR (h : a.Ok) (hi : i < a.ss.length) : (nmD a).findIdx? (fun y => eqB y (.str (nmAt a i))) = some i := by
  have nd : (a.ss.map Stn.nm).Nodup := nms_nd.sublist h.ss.nm
  have at_ : ∀ k (hk : k < a.ss.length), nmAt a k = (a.ss[k]).nm := fun k hk => by unfold nmAt; simp [hk]
  rw [List.findIdx?_eq_some_iff_getElem]
  refine ⟨by simp [nmD, hi], ?_, fun k hk => ?_⟩
  · simp only [nmD, List.getElem_map]
    rw [at_ i hi]
    unfold eqB
    exact beq_self_eq_true _
  · simp only [nmD, List.getElem_map]
    rw [at_ i hi]
    unfold eqB
    intro z
    have z : (a.ss[k]'(by omega)).nm = (a.ss[i]).nm := eq_of_beq z
    have hk' : k < a.ss.length := by omega
    have p := List.pairwise_iff_getElem.mp nd k i (by simpa using hk') (by simpa using hi) hk
    simp only [List.getElem_map] at p
    exact p z
theorem idx_ok {ρ : Rho} {fo fe : FE} (h : a.Ok) (hi : i < a.ss.length) (h1 : fo ρ s = some (.lst (nmD a), s)) (h2 : fe ρ s = some (.str (nmAt a i), s)) : fIdx fo fe ρ s = some (.int (i : Nat), s) := by
  unfold fIdx
  rw [h1]
  simp only [Option.bind_some]
  rw [h2]
  simp only [Option.bind_some]
  have fl : (nmD a).all flatD = true := by
    rw [List.all_eq_true]
    intro d hd
    obtain ⟨x, _, rfl⟩ := List.mem_map.mp hd
    rfl
  rw [if_pos ⟨rfl, fl⟩, idx_nmR h hi]
  rfl
theorem unhL_none (h : allH a t = true) : unhL a t = [] := by
  unfold unhL
  rw [List.map_eq_nil_iff, List.filter_eq_nil_iff]
  intro x hx
  have := List.all_eq_true.mp h x hx
  simp [this]
theorem in_two {x b : Int} : inW false (.int x) (.lst [.int 0, .int b]) st = some (.bl (decide (0 = x) || decide (b = x)), st) := by
  show (if okB 60 (D.int x) = true ∧ okBs 59 [D.int 0, .int b] = true then some (D.bl (nB false ([D.int 0, .int b].any fun y => eqB y (.int x))), st) else none) = _
  rw [if_pos ⟨rfl, rfl⟩]
  have e : ∀ y : Int, eqB (.int y) (.int x) = decide (y = x) := fun y => by
    unfold eqB
    first | rfl | (by_cases z : y = x <;> simp [z])
  simp only [List.any_cons, List.any_nil, e, Bool.or_false]
  rfl
abbrev rwR (a : Air) (many : Nat) (o u : List Int) (row : List Stp) (x5 x6 x7 x8 x9 : Option D) : Rho := [some a.d, some (.int (many : Nat)), some (tun o), some (tun u), some (.lst (row.map (stepD a))), x5, x6, x7, x8, x9]
noncomputable def bodyR1 : FS := (sSeq (sSet 9 (fIdx (fV 5) (fV 7)))
    (sSeq (sIf (fTOr (fTNot (fTst (fChain leD leD (fC (.int 1)) (fV 8) (fV 1)))) (fTst (fOp (inW false) (fOp ixD (fV 6) (fV 9)) (fLz (fCons (fC (.int 0)) (fCons (fV 8) fNil)))))) (sRet (fC (.bl false))) sNext)
    (sSeq (sSet 6 (fCat (fV 6) (fV 9) (fV 8)))
    (sIf (fTst (fOp neD (fFn 2 fn_unheard (fCons (fV 0) (fCons (fV 6) fNil))) (fLz fNil))) (sRet (fC (.bl false))) sNext))))
theorem row_so_form : sb__law_row_so = (sSeq (sSet 5 (fFn 1 fn__law_names (fCons (fV 0) fNil)))
    (sSeq (sSet 6 (fV 2))
    (sSeq (sFor (iSeq (fV 4)) (.many [7, 8]) bodyR1)
    (sRet (fOp eqD (fV 6) (fV 3)))))) := rfl
theorem bodyR1_ok {row : List Stp} {p : Stp} {x9 : Option D} (h : a.Ok) (m9 : many ≤ 9) (ht : t.length = a.ss.length) (hb : ∀ b ∈ t, 0 ≤ b ∧ b ≤ 9) (hm : (p.1, p.2, t.set p.1 p.2) ∈ mvL a many t) :
    bodyR1 (rwR a many o u row (some (.lst (nmD a))) (some (tun t)) (some (.str (nmAt a p.1))) (some (.int p.2)) x9) s = some (.nx, rwR a many o u row (some (.lst (nmD a))) (some (tun (t.set p.1 p.2))) (some (.str (nmAt a p.1))) (some (.int p.2)) (some (.int (p.1 : Nat))), s) := by
  have l8 := h.ss.len.2
  obtain ⟨m1, m2, m3, _, m5, m6, m7⟩ := mv_mem hm
  simp only at m1 m2 m3 m5 m6 m7
  have f1 := idx_ok (s := s) (i := p.1) (fo := fV 5) (fe := fV 7) (ρ := rwR a many o u row (some (.lst (nmD a))) (some (tun t)) (some (.str (nmAt a p.1))) (some (.int p.2)) x9) h (by omega) rfl rfl
  have c1 : fChain leD leD (fC (.int 1)) (fV 8) (fV 1) (rwR a many o u row (some (.lst (nmD a))) (some (tun t)) (some (.str (nmAt a p.1))) (some (.int p.2)) (some (.int (p.1 : Nat)))) s = some (.bl true, s) := by
    have l1 : leD (.int 1) (.int p.2) s = some (.bl true, s) := by show some (D.bl (decide (1 ≤ p.2)), s) = _; rw [decide_eq_true m2]
    have l2 : leD (.int p.2) (.int (many : Nat)) s = some (.bl true, s) := by show some (D.bl (decide (p.2 ≤ (many : Nat))), s) = _; rw [decide_eq_true m3]
    simp only [e_chain, e_C, e_V, List.getElem?_cons_zero, List.getElem?_cons_succ, Option.bind_some, l1, l2]
  have lz : fLz (fCons (fC (.int 0)) (fCons (fV 8) fNil)) (rwR a many o u row (some (.lst (nmD a))) (some (tun t)) (some (.str (nmAt a p.1))) (some (.int p.2)) (some (.int (p.1 : Nat)))) s = some (.lst [.int 0, .int p.2], s) := by
    simp [sizeLine_eq]
  have ix : fOp ixD (fV 6) (fV 9) (rwR a many o u row (some (.lst (nmD a))) (some (tun t)) (some (.str (nmAt a p.1))) (some (.int p.2)) (some (.int (p.1 : Nat)))) s = some (.int (t.getD p.1 0), s) := op_ok (st1 := s) (d := tun t) (e := .int (p.1 : Nat)) (st2 := s) rfl rfl (tun_at rfl m1)
  have c2 : fTst (fOp (inW false) (fOp ixD (fV 6) (fV 9)) (fLz (fCons (fC (.int 0)) (fCons (fV 8) fNil)))) (rwR a many o u row (some (.lst (nmD a))) (some (tun t)) (some (.str (nmAt a p.1))) (some (.int p.2)) (some (.int (p.1 : Nat)))) s = some (false, s) := by
    have e := tst_ok (op_ok ix lz in_two)
    rw [decide_eq_false (fun z => m5 z.symm), decide_eq_false m6] at e
    exact e
  have f3 := cat_set (s := s) (t := t) (i := p.1) (b := p.2) (ft := fV 6) (fi := fV 9) (fb := fV 8) (ρ := rwR a many o u row (some (.lst (nmD a))) (some (tun t)) (some (.str (nmAt a p.1))) (some (.int p.2)) (some (.int (p.1 : Nat)))) rfl rfl rfl m1 (by omega)
  have u1 : fFn 2 fn_unheard (fCons (fV 0) (fCons (fV 6) fNil)) (rwR a many o u row (some (.lst (nmD a))) (some (tun (t.set p.1 p.2))) (some (.str (nmAt a p.1))) (some (.int p.2)) (some (.int (p.1 : Nat)))) s = some (.lst [], s) := by
    have e := unheard_eq (st := s) (t := t.set p.1 p.2) h (by simp [ht])
    have z : unhL a (t.set p.1 p.2) = [] := unhL_none m7
    rw [z] at e
    exact fn_ok (ds := [a.d, tun (t.set p.1 p.2)]) (st1 := s) rfl rfl e
  have z0 : fLz fNil (rwR a many o u row (some (.lst (nmD a))) (some (tun (t.set p.1 p.2))) (some (.str (nmAt a p.1))) (some (.int p.2)) (some (.int (p.1 : Nat)))) s = some (.lst [], s) := by simp [sizeLine_eq]
  exact seqT (set_ok f1) (seqT (if_no (or_ff (tnot_ok c1) c2)) (seqT (set_ok f3) (if_no (ne_same rfl u1 z0))))
theorem row_so_eq {row : List Stp} (h : a.Ok) (m9 : many ≤ 9) (ho : o.length = a.ss.length) (hb : ∀ x ∈ o, 0 ≤ x ∧ x ≤ 9) (w : Wk (mvL a many) o row u) : fn__law_row_so [a.d, .int (many : Nat), tun o, tun u, .lst (row.map (stepD a))] s = some (.bl true, s) := by
  obtain ⟨eu, hr⟩ := wk_run w
  have n1 : fFn 1 fn__law_names (fCons (fV 0) fNil) (rwR a many o u row none none none none none) s = some (.lst (nmD a), s) := fn_ok (ds := [a.d]) (st1 := s) rfl rfl (names_eq h)
  obtain ⟨ρ2, s2, ef, ⟨y7, y8, y9, e1⟩, e2⟩ := for_fold (tg := .many [7, 8]) (b := bodyR1) (src := []) (items := row.map (stepD a))
    (I := fun k ρ s' => (∃ y7 y8 y9, ρ = rwR a many o u row (some (.lst (nmD a))) (some (tun (rowEnd o (row.take k)))) y7 y8 y9) ∧ s' = s)
    (fun _ _ _ _ => Intact.nil) (fun k d hk ρ s' ⟨⟨y7, y8, y9, hρ⟩, hs⟩ => by
      subst hρ; subst hs
      rw [List.getElem?_map] at hk
      obtain ⟨p, hp, rfl⟩ := Option.map_eq_some_iff.mp hk
      obtain ⟨wk, hm⟩ := hr k p hp
      obtain ⟨l1, b1⟩ := wk_in (c := 9) m9 ho hb wk
      have e := bodyR1_ok (s := s') (o := o) (u := u) (row := row) (p := p) (x9 := y9) h m9 l1 b1 hm
      refine ⟨rwR a many o u row (some (.lst (nmD a))) (some (tun (rowEnd o (row.take k)))) (some (.str (nmAt a p.1))) (some (.int p.2)) y9, rfl, .nx, _, _, e, .inl rfl, ⟨some (.str (nmAt a p.1)), some (.int p.2), some (.int (p.1 : Nat)), ?_⟩, rfl⟩
      have : rowEnd o (row.take (k + 1)) = (rowEnd o (row.take k)).set p.1 p.2 := by
        unfold rowEnd
        exact foldl_take_succ hp
      rw [this]) (ρ := rwR a many o u row (some (.lst (nmD a))) (some (tun o)) none none none) (s := s) ⟨⟨_, _, _, rfl⟩, rfl⟩
  subst e1; subst e2
  rw [List.length_map, List.take_length, ← eu] at ef
  unfold fn__law_row_so
  refine seal_same ?_ rfl
  refine run_at (ρ := rwR a many o u row none none none none none) (ρ' := rwR a many o u row (some (.lst (nmD a))) (some (tun u)) y7 y8 y9) rfl ?_
  rw [row_so_form]
  have ok : okB 60 (tun u) = true := by
    have : okBs 59 (u.map D.int) = true := okBs_of fun d hd => by obtain ⟨x, _, rfl⟩ := List.mem_map.mp hd; rfl
    simpa [tun, okB] using this
  have eq : fOp eqD (fV 6) (fV 3) (rwR a many o u row (some (.lst (nmD a))) (some (tun u)) y7 y8 y9) s2 = some (.bl true, s2) := op_ok (st1 := s2) (d := tun u) (e := tun u) (st2 := s2) rfl rfl (eq_self ok).1
  exact seqT (ρ1 := rwR a many o u row (some (.lst (nmD a))) none none none none) (set_ok n1) (seqT (ρ1 := rwR a many o u row (some (.lst (nmD a))) (some (tun o)) none none none) (set_ok rfl) (seqT (for_at rfl ef) (ret_ok eq)))
theorem for_until {tg : Tg} {b : FS} {src : Src} {items : List D} {I : Nat → Rho → Sto → Prop} {J : Sto → Prop} {v : D} (hi : ∀ i ρ s, I i ρ s → Intact src s)
    (step : ∀ i d, items[i]? = some d → ∀ ρ s, I i ρ s → ∃ ρ1, tgD tg d ρ = some ρ1 ∧ ∃ f ρ2 s2, b ρ1 s = some (f, ρ2, s2) ∧ ((f = .nx ∧ I (i + 1) ρ2 s2) ∨ (f = .rt v ∧ J s2))) {ρ : Rho} {s : Sto} (h0 : I 0 ρ s) :
    ∃ f ρ2 s2, forD tg b src items ρ s = some (f, ρ2, s2) ∧ ((f = .nx ∧ I items.length ρ2 s2) ∨ (f = .rt v ∧ J s2)) := by
  have main : ∀ (j i : Nat) (ρ : Rho) (s : Sto), j = items.length - i → i ≤ items.length → I i ρ s → ∃ f ρ2 s2, forD tg b src (items.drop i) ρ s = some (f, ρ2, s2) ∧ ((f = .nx ∧ I items.length ρ2 s2) ∨ (f = .rt v ∧ J s2)) := by
    intro j
    induction j with
    | zero =>
      intro i ρ s hj hl h
      have : i = items.length := by omega
      subst this
      rw [List.drop_length]
      unfold forD
      rw [if_pos (hi _ _ _ h)]
      exact ⟨_, _, _, rfl, .inl ⟨rfl, h⟩⟩
    | succ j ih =>
      intro i ρ s hj hl h
      have hlt : i < items.length := by omega
      rw [List.drop_eq_getElem_cons hlt]
      obtain ⟨ρ1, e1, f, ρ2, s2, e2, hf⟩ := step i items[i] (List.getElem?_eq_getElem hlt) ρ s h
      unfold forD
      rw [if_pos (hi _ _ _ h), e1]
      simp only [Option.bind_some]
      rw [e2]
      simp only [Option.bind_some]
      rcases hf with ⟨rfl, h2⟩ | ⟨rfl, h2⟩
      · exact ih (i + 1) ρ2 s2 (by omega) (by omega) h2
      · exact ⟨_, _, _, rfl, .inr ⟨rfl, h2⟩⟩
  obtain ⟨f, ρ2, s2, e, h⟩ := main items.length 0 ρ s (by omega) (Nat.zero_le _) h0
  exact ⟨f, ρ2, s2, by rw [List.drop_zero] at e; exact e, h⟩
/-- tables that lie in the store -/
structure Tbs (a : Air) (many : Nat) (o : List Int) (lt lb : Nat) (ts : List (Nat × Tbl)) (s : Sto) : Prop where
  at_ : s[lt]? = some (.lst (ts.map fun q => .ref q.1))
  ne : lt ≠ lb
  tb : ∀ q ∈ ts, s[q.1]? = some (.dT (q.2.map ke)) ∧ q.1 ≠ lb ∧ (q.2.map (·.1)).Nodup ∧ tabB a many o q.2 = true
theorem Tbs.go {lt : Nat} {ts : List (Nat × Tbl)} {s' : Sto} (w : Tbs a many o lt lb ts s) (g : Go lb s s') : Tbs a many o lt lb ts s' :=
  ⟨by rw [g.at w.ne]; exact w.at_, w.ne, fun q hq => let ⟨h1, h2, h3, h4⟩ := w.tb q hq; ⟨by rw [g.at h2]; exact h1, h2, h3, h4⟩⟩
def Low (ts : List (Nat × Tbl)) (t : List Int) (n : Nat) : Prop := ∀ q ∈ ts, ∃ k : Int, lkI q.2 t = some k ∧ k ≤ (n : Nat)
theorem low_start {lt : Nat} {ts : List (Nat × Tbl)} (w : Tbs a many o lt lb ts s) : Low ts o 0 := fun q hq => by
  obtain ⟨_, _, _, h⟩ := w.tb q hq
  unfold tabB at h
  obtain ⟨h, _⟩ := Bool.and_eq_true_iff.mp h
  have h := of_decide_eq_true h
  cases e : lkI q.2 o with
  | none => rw [e] at h; simp at h
  | some k => rw [e] at h; exact ⟨k, rfl, by simpa using h⟩
theorem low_step {lt n : Nat} {ts : List (Nat × Tbl)} {m : BF.Mv} (w : Tbs a many o lt lb ts s) (l : Low ts t n) (hm : m ∈ mvL a many t) : Low ts m.2.2 (n + 1) := fun q hq => by
  obtain ⟨_, _, nd, h⟩ := w.tb q hq
  obtain ⟨k, e, hk⟩ := l q hq
  unfold tabB at h
  obtain ⟨_, h⟩ := Bool.and_eq_true_iff.mp h
  have h := List.all_eq_true.mp h (t, k) ((lk_mem nd).mp e)
  have h := of_decide_eq_true (List.all_eq_true.mp h m hm)
  simp only at h
  cases e2 : lkI q.2 m.2.2 with
  | none => rw [e2] at h; simp at h
  | some k2 => rw [e2] at h; exact ⟨k2, rfl, by simp at h; omega⟩
abbrev wlR (lb : Nat) (a : Air) (many : Nat) (o : List Int) (lt : Nat) (x5 x6 x7 x8 : Option D) : Rho := [some (.ref lb), some a.d, some (.int (many : Nat)), some (tun o), some (.ref lt), x5, x6, x7, x8]
noncomputable def bodyWk1 : FS := (sIf (fTOr (fTst (fOp (inT true) (fV 5) (fV 7))) (fTst (fOp gtD (fOp getT (fV 7) (fV 5)) (fV 6)))) (sRet (fC (.bl false))) sNext)
noncomputable def bodyWk2 : FS := (sSeq (sFor (iSeq (fV 4)) (.one 7) bodyWk1)
    (sSeq (sSet 8 (fFn 3 fn__law_steps (fCons (fV 1) (fCons (fV 2) (fCons (fV 5) fNil)))))
    (sSeq (sIf (fTst (fOp eqD (fV 8) (fLz fNil))) (sRet (fC (.bl true))) sNext)
    (sSet 5 (fOp ixD (fFn 2 fn__law_of (fCons (fV 0) (fCons (fV 8) fNil))) (fC (.int 2)))))))
theorem walk_form : sb__law_walk_so = (sSeq (sSet 5 (fV 3))
    (sSeq (sFor (iRange1 (fCons (fC (.int (21 : Nat))) fNil)) (.one 6) bodyWk2)
    (sRet (fC (.bl true))))) := rfl
theorem bodyWk1_ok {lt n l : Nat} {k : Int} {x8 : Option D} (hl : s[l]? = some (.dT (L.map ke))) (e : lkI L t = some k) (hk : k ≤ (n : Nat)) : bodyWk1 (wlR lb a many o lt (some (tun t)) (some (.int (n : Nat))) (some (.ref l)) x8) s = some (.nx, wlR lb a many o lt (some (tun t)) (some (.int (n : Nat))) (some (.ref l)) x8, s) := by
  have v : valD (L.map ke) (kT t) = some (.int k) := by rw [lk_val, e]; rfl
  have c1 : fTst (fOp (inT true) (fV 5) (fV 7)) (wlR lb a many o lt (some (tun t)) (some (.int (n : Nat))) (some (.ref l)) x8) s = some (false, s) := by
    refine tst_ok (op_ok (st1 := s) (d := tun t) (e := .ref l) (st2 := s) rfl rfl ?_)
    unfold inT
    rw [key_tun]
    simp only [Option.bind_some]
    rw [dict_ok hl]
    simp only [Option.bind_some]
    rw [v]
    rfl
  have g1 : fOp getT (fV 7) (fV 5) (wlR lb a many o lt (some (tun t)) (some (.int (n : Nat))) (some (.ref l)) x8) s = some (.int k, s) := by
    refine op_ok (st1 := s) (d := .ref l) (e := tun t) (st2 := s) rfl rfl ?_
    unfold getT
    rw [dict_ok hl]
    simp only [Option.bind_some]
    rw [key_tun]
    simp only [Option.bind_some]
    rw [v]
    rfl
  have c2 := tst_ok (gt_ok (y := (n : Nat)) (g := fV 6) g1 rfl)
  rw [decide_eq_false (by omega)] at c2
  exact if_no (or_ff c1 c2)
theorem bodyWk2_ok {lt n : Nat} {ts : List (Nat × Tbl)} {x7 x8 : Option D} (h : a.Ok) (h4 : a.ss.length ≤ 4) (m9 : many ≤ 9) (ht : t.length = a.ss.length) (hb : ∀ b ∈ t, 0 ≤ b ∧ b ≤ 9) (b : Bg lb s) (w : Tbs a many o lt lb ts s) (lo : Low ts t n) :
    ∃ f ρ2 s2, bodyWk2 (wlR lb a many o lt (some (tun t)) (some (.int (n : Nat))) x7 x8) s = some (f, ρ2, s2) ∧ Go lb s s2 ∧ ((f = .nx ∧ ∃ m ∈ mvL a many t, ∃ y7 y8, ρ2 = wlR lb a many o lt (some (tun m.2.2)) (some (.int (n : Nat))) y7 y8) ∨ f = .rt (.bl true)) := by
  obtain ⟨ρ1, s1, ef, ⟨y7, e1⟩, e2⟩ := for_fold (tg := .one 7) (b := bodyWk1) (src := [(lt, ts.map fun q => D.ref q.1)]) (items := ts.map fun q => D.ref q.1)
    (I := fun k ρ s' => (∃ y7, ρ = wlR lb a many o lt (some (tun t)) (some (.int (n : Nat))) y7 x8) ∧ s' = s)
    (fun _ _ s' ⟨_, e⟩ p hp => by rw [e, List.mem_singleton.mp hp]; exact w.at_) (fun k d hk ρ s' ⟨⟨y7, hρ⟩, hs⟩ => by
      subst hρ; subst hs
      rw [List.getElem?_map] at hk
      obtain ⟨q, hq, rfl⟩ := Option.map_eq_some_iff.mp hk
      have hq := List.mem_of_getElem? hq
      obtain ⟨k, e, hk⟩ := lo q hq
      exact ⟨wlR lb a many o lt (some (tun t)) (some (.int (n : Nat))) (some (.ref q.1)) x8, rfl, .nx, _, _, bodyWk1_ok (w.tb q hq).1 e hk, .inl rfl, ⟨_, rfl⟩, rfl⟩) (ρ := wlR lb a many o lt (some (tun t)) (some (.int (n : Nat))) x7 x8) (s := s) ⟨⟨_, rfl⟩, rfl⟩
  subst e1; subst e2
  have it : iSeq (fV 4) (wlR lb a many o lt (some (tun t)) (some (.int (n : Nat))) x7 x8) s1 = some (ts.map fun q => D.ref q.1, [(lt, ts.map fun q => D.ref q.1)], s1) := by
    unfold iSeq
    simp only [e_V, List.getElem?_cons_zero, List.getElem?_cons_succ, Option.bind_some, w.at_]
  have f2 : fFn 3 fn__law_steps (fCons (fV 1) (fCons (fV 2) (fCons (fV 5) fNil))) (wlR lb a many o lt (some (tun t)) (some (.int (n : Nat))) y7 x8) s1 = some (.lst ((mvL a many t).map (stD a)), s1) := fn_ok (ds := [a.d, .int (many : Nat), tun t]) (st1 := s1) rfl rfl (steps_eq h h4 ht hb m9)
  have lm : (mvL a many t).length ≤ 36 := by
    have := mv_fold_len (a := a) (many := many) (t := t) t.length
    have : t.length * many ≤ 4 * 9 := Nat.mul_le_mul (by omega) m9
    have e : (mvL a many t).length = ((List.range t.length).flatMap (mvAt a many t)).length := rfl
    omega
  have oks : okBs 59 ((mvL a many t).map (stD a)) = true := okBs_of fun d hd => by
    obtain ⟨m, hm, rfl⟩ := List.mem_map.mp hd
    obtain ⟨m1, _⟩ := mv_mem hm
    have hs : PyData.strOk (nmAt a m.1) = true := by
      have hi : m.1 < a.ss.length := by omega
      have : nmAt a m.1 = (a.ss[m.1]).nm := by unfold nmAt; simp [hi]
      rw [this]
      exact nm_ok (h.ss.all _ (List.getElem_mem hi))
    have : okBs 57 (m.2.2.map D.int) = true := okBs_of fun d hd => by obtain ⟨x, _, rfl⟩ := List.mem_map.mp hd; rfl
    simp [stD, tun, okB, okBs, this, hs]
  have z0 : fLz fNil (wlR lb a many o lt (some (tun t)) (some (.int (n : Nat))) y7 (some (.lst ((mvL a many t).map (stD a))))) s1 = some (.lst [], s1) := by simp [sizeLine_eq]
  have c := tst_ok (op_ok (st1 := s1) (fa := fV 8) (ρ := wlR lb a many o lt (some (tun t)) (some (.int (n : Nat))) y7 (some (.lst ((mvL a many t).map (stD a))))) (d := .lst ((mvL a many t).map (stD a))) rfl z0 (eq_nilL oks))
  cases q : mvL a many t with
  | nil =>
    rw [q] at c f2
    exact ⟨_, _, _, seqT (for_at it ef) (seqT (set_ok f2) (seqR (if_then c rfl))), .refl b, .inr rfl⟩
  | cons m0 ms =>
    have c : fTst (fOp eqD (fV 8) (fLz fNil)) (wlR lb a many o lt (some (tun t)) (some (.int (n : Nat))) y7 (some (.lst ((mvL a many t).map (stD a))))) s1 = some (false, s1) := by rw [c, q]; rfl
    obtain ⟨⟨d, s3⟩, e3, hd, g3⟩ := of_spec (lb := lb) (xs := (mvL a many t).map (stD a)) (s := s1) (by rw [q]; simp) (by rw [List.length_map]; omega) (fun d hd => by obtain ⟨m, _, rfl⟩ := List.mem_map.mp hd; exact stD_pure m) b
    simp only at hd g3
    obtain ⟨m, hm, rfl⟩ := List.mem_map.mp hd
    have fo : fFn 2 fn__law_of (fCons (fV 0) (fCons (fV 8) fNil)) (wlR lb a many o lt (some (tun t)) (some (.int (n : Nat))) y7 (some (.lst ((mvL a many t).map (stD a))))) s1 = some (stD a m, s3) := fn_ok (ds := [.ref lb, .lst ((mvL a many t).map (stD a))]) (st1 := s1) rfl rfl e3
    have fx : fOp ixD (fFn 2 fn__law_of (fCons (fV 0) (fCons (fV 8) fNil))) (fC (.int 2)) (wlR lb a many o lt (some (tun t)) (some (.int (n : Nat))) y7 (some (.lst ((mvL a many t).map (stD a))))) s1 = some (tun m.2.2, s3) := op_ok fo rfl rfl
    exact ⟨_, _, _, seqT (for_at it ef) (seqT (set_ok f2) (seqT (if_no c) (set_ok fx))), g3, .inl ⟨rfl, m, q ▸ hm, _, _, rfl⟩⟩
theorem walk_spec {lt : Nat} {ts : List (Nat × Tbl)} (h : a.Ok) (h4 : a.ss.length ≤ 4) (m9 : many ≤ 9) (ho : o.length = a.ss.length) (hb : ∀ b ∈ o, 0 ≤ b ∧ b ≤ 9) (b : Bg lb s) (w : Tbs a many o lt lb ts s) : Ok (fn__law_walk_so [.ref lb, a.d, .int (many : Nat), tun o, .ref lt] s) fun p => p.1 = .bl true ∧ Go lb s p.2 := by
  unfold fn__law_walk_so
  refine seal_ok (P := fun d => d = .bl true) ?_
  obtain ⟨f, ρ2, s2, ef, hf⟩ := for_until (tg := .one 6) (b := bodyWk2) (src := []) (items := rangeD 0 21) (v := .bl true) (J := fun s' => Go lb s s')
    (I := fun k ρ s' => (∃ t y6 y7 y8, ρ = wlR lb a many o lt (some (tun t)) y6 y7 y8 ∧ t.length = a.ss.length ∧ (∀ b ∈ t, 0 ≤ b ∧ b ≤ 9) ∧ Low ts t k) ∧ Go lb s s')
    (fun _ _ _ _ => Intact.nil) (fun k d hk ρ s' ⟨⟨t, y6, y7, y8, hρ, t1, t2, lo⟩, g⟩ => by
      subst hρ
      obtain ⟨hk1, ek⟩ := List.getElem?_eq_some_iff.mp hk
      have ed : d = .int (k : Nat) := by rw [← ek]; simp [rangeD]
      subst ed
      obtain ⟨f, ρ2, s2, e, g2, hh⟩ := bodyWk2_ok (o := o) (lt := lt) (ts := ts) (n := k) (x7 := y7) (x8 := y8) h h4 m9 t1 t2 (g.bg b.lt) (w.go g) lo
      refine ⟨wlR lb a many o lt (some (tun t)) (some (.int (k : Nat))) y7 y8, rfl, f, ρ2, s2, e, ?_⟩
      rcases hh with ⟨rfl, m, hm, z7, z8, rfl⟩ | rfl
      · obtain ⟨n1, n2⟩ := adj_in (c := 9) m9 t1 t2 hm
        exact .inl ⟨rfl, ⟨m.2.2, _, _, _, rfl, n1, n2, low_step w lo hm⟩, g.trans g2⟩
      · exact .inr ⟨rfl, g.trans g2⟩) (ρ := wlR lb a many o lt (some (tun o)) none none none) (s := s) ⟨⟨o, _, _, _, rfl, ho, hb, low_start w⟩, .refl b⟩
  have rg : iRange1 (fCons (fC (.int (21 : Nat))) fNil) (wlR lb a many o lt (some (tun o)) none none none) s = some (rangeD 0 21, [], s) := range_ok (n := 21) rfl (by decide)
  have key : ∃ ρ', sb__law_walk_so (wlR lb a many o lt none none none none) s = some (.rt (.bl true), ρ', s2) ∧ Go lb s s2 := by
    rw [walk_form]
    rcases hf with ⟨rfl, ⟨t, y6, y7, y8, rfl, _⟩, g⟩ | ⟨rfl, g⟩
    · exact ⟨_, seqT (ρ1 := wlR lb a many o lt (some (tun o)) none none none) (set_ok rfl) (seqT (for_at rg ef) (ret_ok rfl)), g⟩
    · exact ⟨_, seqT (ρ1 := wlR lb a many o lt (some (tun o)) none none none) (set_ok rfl) (seqR (for_at rg ef)), g⟩
  obtain ⟨ρ', e, g⟩ := key
  exact ⟨(.bl true, s2), run_at (ρ := wlR lb a many o lt none none none none) (ρ' := ρ') rfl e, rfl, rfl, s2, [], by simp, g⟩
end
end EL
set_option Elab.async false
set_option linter.all false
set_option maxRecDepth 100000
set_option maxHeartbeats 400000
namespace EL
open PySem PySem.Spec PyProof.Rows L2 GxR LG FW BF
section
variable {many : Nat} {st s : Sto} {a : Air} {t u o : List Int} {R R' : Rows} {L M : Tbl} {k k' : Nat}
theorem tb_nd (B : BI (mvL a many) o k R []) : ((tbOf R).map (·.1)).Nodup := by
  have := ((tbOf_perm R).map (·.1)).nodup_iff
  rw [this, List.map_map]
  exact B.nd
theorem tb_lk (B : BI (mvL a many) o k R []) : lkI (tbOf R) u = (rowO R u).map fun row => (row.length : Int) := by
  cases e : rowO R u with
  | some row =>
    exact (lk_mem (tb_nd B)).mpr (tbOf_mem.mpr ⟨row, (rowO_some B.nd).mp e, rfl⟩)
  | none =>
    cases e2 : lkI (tbOf R) u with
    | none => rfl
    | some n =>
      obtain ⟨row, h, _⟩ := tbOf_mem.mp ((lk_mem (tb_nd B)).mp e2)
      rw [(rowO_some B.nd).mpr h] at e
      cases e
theorem tb_judged (B : BI (mvL a many) o k R []) : tabB a many o (tbOf R) = true := by
  unfold tabB
  rw [tb_lk B, (rowO_some B.nd).mpr B.st, Bool.and_eq_true]
  refine ⟨rfl, List.all_eq_true.mpr fun p hp => List.all_eq_true.mpr fun m hm => ?_⟩
  obtain ⟨row, h, e⟩ := tbOf_mem.mp hp
  obtain ⟨row2, h2, l2⟩ := bi_least B (.snoc (B.wk _ h) hm)
  refine decide_eq_true ?_
  rw [tb_lk B, (rowO_some B.nd).mpr h2, e]
  have l3 : row2.length ≤ row.length + 1 := by simpa using l2
  show ((row2.length : Nat) : Int) ≤ (row.length : Nat) + 1
  omega
theorem tb_ok (hR : ∀ p ∈ R, p.1.length = a.ss.length ∧ ∀ x ∈ p.1, 0 ≤ x ∧ x ≤ (many : Nat)) (m9 : many ≤ 9) : TbOk a (tbOf R) := fun p hp => by
  obtain ⟨row, h, _⟩ := tbOf_mem.mp hp
  obtain ⟨h1, h2⟩ := hR _ h
  exact ⟨h1, fun x hx => by have := h2 x hx; omega⟩
theorem tb_small (h4 : a.ss.length ≤ 4) (m3 : many ≤ 3) (B : BI (mvL a many) o k R []) (hR : ∀ p ∈ R, p.1.length = a.ss.length ∧ ∀ x ∈ p.1, 0 ≤ x ∧ x ≤ (many : Nat)) : (tbOf R).length ≤ 256 := by
  have e : (tbOf R).length = (R.map (·.1)).length := by rw [(tbOf_perm R).length_eq, List.length_map, List.length_map]
  have l : (R.map (·.1)).length ≤ (unv (many + 1) a.ss.length).length := nodup_le B.nd fun x hx => by
    obtain ⟨p, hp, rfl⟩ := List.mem_map.mp hx
    obtain ⟨h1, h2⟩ := hR p hp
    exact unv_iff.mpr ⟨h1, fun x hx => by have := h2 x hx; omega⟩
  rw [unv_len] at l
  have p1 : (many + 1) ^ a.ss.length ≤ 4 ^ a.ss.length := Nat.pow_le_pow_left (by omega) _
  have p2 : 4 ^ a.ss.length ≤ 4 ^ 4 := Nat.pow_le_pow_right (by omega) h4
  have p3 : (4 : Nat) ^ 4 = 256 := by decide
  omega
theorem same_ris (e : M.map (·.1) = L.map (·.1)) (r : Ris L) : Ris M := by
  have h : (L.map (·.1)).Pairwise fun x y => HT.lexLt x y = true := by rw [List.pairwise_map]; exact r
  rw [← e, List.pairwise_map] at h
  exact h
theorem same_ok (e : M.map (·.1) = L.map (·.1)) (r : TbOk a L) : TbOk a M := fun p hp => by
  have : p.1 ∈ M.map (·.1) := List.mem_map_of_mem hp
  rw [e] at this
  obtain ⟨q, hq, e2⟩ := List.mem_map.mp this
  rw [← e2]
  exact r q hq
theorem same_len (e : M.map (·.1) = L.map (·.1)) : M.length = L.length := by
  have := congrArg List.length e
  rwa [List.length_map, List.length_map] at this
theorem rows_back (hB : BI (mvL a many) t k R []) (hB' : BI (mvL a many) u k' R' []) (gt : Gd a many t) (gu : Gd a many u) : (rowO R u).map List.length = (rowO R' t).map List.length := by
  have one : ∀ {t u : List Int} {R R' : Rows} {k k' : Nat}, BI (mvL a many) t k R [] → BI (mvL a many) u k' R' [] → Gd a many t → ∀ {row : List Stp}, rowO R u = some row → ∃ row', rowO R' t = some row' ∧ row'.length ≤ row.length := fun {t u R R' k k'} B B' g {row} e => by
    have h := (rowO_some B.nd).mp e
    obtain ⟨row', l1, w⟩ := wk_back g.1 g.2.1 g.2.2 (B.wk _ h)
    obtain ⟨row2, h2, l2⟩ := bi_least B' w
    have l3 : row'.length = row.length := l1
    exact ⟨row2, (rowO_some B'.nd).mpr h2, by omega⟩
  cases e : rowO R u with
  | none =>
    cases e' : rowO R' t with
    | none => rfl
    | some row' =>
      obtain ⟨row, q, _⟩ := one hB' hB gu e'
      rw [e] at q
      cases q
  | some row =>
    obtain ⟨row', q, l1⟩ := one hB hB' gt e
    obtain ⟨row2, q2, l2⟩ := one hB' hB gu q
    rw [e] at q2
    cases q2
    rw [q]
    show some row.length = some row'.length
    rw [Nat.le_antisymm l2 l1]
end
end EL
namespace K10
open PySem PySem.Spec PyProof.Rows L2 GxR LG EL FW BF
section
variable {ns : List Int} {lb i many : Nat} {st s : Sto} {a : Air} {t u : List Int} {R : Rows} {L M : Tbl} {x1 x2 x3 x4 x5 x6 x7 x8 x9 x10 x11 x12 x13 x14 : Option D}
abbrev mkR (ns : List Int) (x1 x2 x3 x4 x5 x6 x7 x8 x9 x10 x11 x12 x13 x14 : Option D) : Rho := [some (.scr ns), x1, x2, x3, x4, x5, x6, x7, x8, x9, x10, x11, x12, x13, x14]
noncomputable def fSil (k : Nat) : FE := (fLcZ (iSeq (fV k)) (.one 14) fYes (fOp eqD (fV 14) (fC (.int 0))) [14])
noncomputable def bodyI : FS := (sIf (fTst (fOp eqD (fSil 6) (fSil 10))) (sSeq (sSet 11 (fFn 4 fn_moves (fCons (fV 3) (fCons (fV 4) (fCons (fV 6) (fCons (fV 10) fNil))))))
    (sIf (fTst (fOp (isB false) (fV 11) (fC .non))) (sIf (fTOr (fTst (fOp (inT false) (fV 10) (fCall dictPt (fCons (fV 7) fNil)))) (fTst (fOp (isB true) (fFn 4 fn_moves (fCons (fV 3) (fCons (fV 4) (fCons (fV 10) (fCons (fV 6) fNil))))) (fC .non)))) (sRet (fC (.bl false))) sNext) (sIf (fTOr (fTNot (fTst (fFn 5 fn__law_row_so (fCons (fV 3) (fCons (fV 4) (fCons (fV 6) (fCons (fV 10) (fCons (fV 11) fNil)))))))) (fTst (fOp neD (fCall lenD (fCons (fV 11) fNil)) (fDGet2 (fCall dictPt (fCons (fV 7) fNil)) (fV 10) (fNeg (fC (.int 1))))))) (sRet (fC (.bl false))) (sIf (fTst (fOp neD (fCall lenD (fCons (fFn 4 fn_moves (fCons (fV 3) (fCons (fV 4) (fCons (fV 10) (fCons (fV 6) fNil))))) fNil)) (fCall lenD (fCons (fV 11) fNil)))) (sRet (fC (.bl false))) sNext)))) sNext)
noncomputable def fEl : FE := (fTup (fCons (fV 12) (fCons (fOp subD (fV 13) (fFn 2 fn__law_take (fCons (fV 2) (fCons (fC (.int 2)) fNil)))) fNil)))
noncomputable def fLow : FE := (fCall ptD (fCons (fLcZ (iSeq (fV 7)) (.many [12, 13]) fYes fEl [12, 13]) fNil))
noncomputable def bodyO : FS := (sSeq (sSet 7 (fFn 3 fn_moves_table (fCons (fV 3) (fCons (fV 4) (fCons (fV 6) fNil)))))
    (sSeq (sSet 8 fLow)
    (sSeq (sSet 9 (fLst (fCons (fCall dictPt (fCons (fV 7) fNil)) fNil)))
    (sSeq (sIf (fTst (fFn 4 fn_is_moves_table (fCons (fV 3) (fCons (fV 4) (fCons (fV 6) (fCons (fV 8) fNil)))))) (sExpr (fApp (fV 9) (fCall dictPt (fCons (fV 8) fNil)))) sNext)
    (sSeq (sIf (fTOr (fTst (fOp (isB true) (fFn 4 fn_is_moves_table (fCons (fV 3) (fCons (fV 4) (fCons (fV 6) (fCons (fV 7) fNil))))) (fC (.bl true)))) (fTNot (fTst (fFn 5 fn__law_walk_so (fCons (fV 2) (fCons (fV 3) (fCons (fV 4) (fCons (fV 6) (fCons (fV 9) fNil))))))))) (sRet (fC (.bl false))) sNext)
    (sFor (iSeq (fV 5)) (.one 10) bodyI))))))
noncomputable def bodyL : FS := (sSeq (sSet 2 (fFn 2 fn__law_bag (fCons (fV 0) (fCons (fV 1) fNil))))
    (sSeq (sSet 3 (fFn 2 fn__law_air (fCons (fV 2) (fCons (fC (.int 4)) fNil))))
    (sSeq (sSet 4 (fOp addD (fC (.int 2)) (fFn 2 fn__law_take (fCons (fV 2) (fCons (fC (.int 2)) fNil)))))
    (sSeq (sSet 5 (fSl (fFn 3 fn__law_good_tunings (fCons (fV 2) (fCons (fV 3) (fCons (fV 4) fNil)))) oNone (oSome (fC (.int 3)))))
    (sFor (iSeq (fV 5)) (.one 6) bodyO)))))
theorem law_form : sb_law = sSeq (sFor (iRange1 (fCons (fOp addD (fC (.int 1)) (fCall minD (fCons (fCall lenD (fCons (fV 0) fNil)) (fCons (fC (.int 3)) fNil)))) fNil)) (.one 1) bodyL) (sRet (fC (.bl true))) := rfl
theorem sil_eq {ρ : Rho} {k : Nat} (hk : k ≠ 14) (hl : ρ.length = 15) (h : ρ[k]? = some (some (tun t))) (h8 : t.length ≤ 8) : fSil k ρ s = some (.lst (t.map zB), s) := by
  refine lc_map (l := t) (enc := D.int) (w := zB) (by unfold iSeq; rw [e_V, h]; rfl) (fun x hx => ⟨(wipeD ρ [14]).set 14 (some (.int x)), rfl, ?_⟩) (by omega)
  have e14 : ((wipeD ρ [14]).set 14 (some (.int x)))[14]? = some (some (.int x)) := by
    rw [List.getElem?_set_self]
    show 14 < (ρ.set 14 none).length
    rw [List.length_set, hl]; decide
  have v14 : fV 14 ((wipeD ρ [14]).set 14 (some (.int x))) s = some (.int x, s) := by rw [e_V, e14]
  exact op_ok v14 rfl e_eqI
theorem dict_at {ρ : Rho} {j : Nat} (nd : (L.map (·.1)).Nodup) (h : ρ[j]? = some (some (.pt (L.map pe)))) : fCall dictPt (fCons (fV j) fNil) ρ s = some (.ref s.length, s ++ [.dT (L.map ke)]) := by
  rw [e_call, e_cons, e_V, h]
  exact dictPt_eq nd
theorem get2_at {ρ : Rho} {fo fe fx : FE} {l : Nat} {w : Int} {s1 : Sto} (h1 : fo ρ s = some (.ref l, s1)) (h2 : s1[l]? = some (.dT (L.map ke))) (h3 : fe ρ s1 = some (tun t, s1)) (h4 : fx ρ s1 = some (.int w, s1)) : fDGet2 fo fe fx ρ s = some (.int ((lkI L t).getD w), s1) := by
  unfold fDGet2
  rw [h1]
  simp only [Option.bind_some]
  rw [dict_ok h2]
  simp only [Option.bind_some]
  rw [h3]
  simp only [Option.bind_some]
  rw [h4]
  simp only [Option.bind_some]
  rw [dict_ok h2]
  simp only [Option.bind_some]
  rw [key_tun]
  simp only [Option.bind_some]
  rw [lk_val]
  cases lkI L t <;> rfl
theorem bodyI_ok (h : a.Ok) (h4 : a.ss.length ≤ 4) (m1 : 1 ≤ many) (m5 : many ≤ 5) (gt : Gd a many t) (gu : Gd a many u) {k : Nat} (eR : bfsO (mvL a many) 4000 [(t, [])] [t] = some R) (B : BI (mvL a many) t k R []) :
    ∃ y11 more, bodyI (mkR ns x1 x2 (some a.d) (some (.int (many : Nat))) x5 (some (tun t)) (some (.pt ((tbOf R).map pe))) x8 x9 (some (tun u)) x11 x12 x13 x14) s = some (.nx, mkR ns x1 x2 (some a.d) (some (.int (many : Nat))) x5 (some (tun t)) (some (.pt ((tbOf R).map pe))) x8 x9 (some (tun u)) y11 x12 x13 x14, s ++ more) := by
  obtain ⟨t1, t2, t3⟩ := id gt
  obtain ⟨u1, u2, u3⟩ := id gu
  have c := zB_tst (t := t) (u := u) (st := s) (f := fSil 6) (g := fSil 10) (ρ := mkR ns x1 x2 (some a.d) (some (.int (many : Nat))) x5 (some (tun t)) (some (.pt ((tbOf R).map pe))) x8 x9 (some (tun u)) x11 x12 x13 x14) (sil_eq (by decide) rfl rfl (by omega)) (sil_eq (by decide) rfl rfl (by omega))
  cases z : eqBs (t.map zB) (u.map zB) with
  | false =>
    rw [z] at c
    exact ⟨x11, [], by rw [List.append_nil]; exact if_no c⟩
  | true =>
    rw [z] at c
    have zz := zB_eq z
    have hs : silL t = silL u := sil_iff (by omega) zz
    obtain ⟨R', k', eR', B', _⟩ := rounds (a := a) (many := many) (o := u) h4 m5 u1 u2
    have len := rows_back B B' gt gu
    have mv1 := moves_eq (st := s) (u := u) h h4 m1 m5 t1 t2 t3 u1 u2 u3 hs eR
    have f1 : fFn 4 fn_moves (fCons (fV 3) (fCons (fV 4) (fCons (fV 6) (fCons (fV 10) fNil)))) (mkR ns x1 x2 (some a.d) (some (.int (many : Nat))) x5 (some (tun t)) (some (.pt ((tbOf R).map pe))) x8 x9 (some (tun u)) x11 x12 x13 x14) s = some (rowR a (rowO R u), s) := fn_ok (ds := [a.d, .int (many : Nat), tun t, tun u]) (st1 := s) rfl rfl mv1
    have dk := dict_at (s := s) (L := tbOf R) (j := 7) (ρ := mkR ns x1 x2 (some a.d) (some (.int (many : Nat))) x5 (some (tun t)) (some (.pt ((tbOf R).map pe))) x8 x9 (some (tun u)) (some (rowR a (rowO R u))) x12 x13 x14) (tb_nd B) rfl
    have mv2 := moves_eq (st := s ++ [.dT ((tbOf R).map ke)]) (u := t) h h4 m1 m5 u1 u2 u3 t1 t2 t3 hs.symm eR'
    have r2 : ∀ q : Sto, fCons (fV 3) (fCons (fV 4) (fCons (fV 10) (fCons (fV 6) fNil))) (mkR ns x1 x2 (some a.d) (some (.int (many : Nat))) x5 (some (tun t)) (some (.pt ((tbOf R).map pe))) x8 x9 (some (tun u)) (some (rowR a (rowO R u))) x12 x13 x14) q = some ([a.d, .int (many : Nat), tun u, tun t], q) := fun q => rfl
    have f2 : fFn 4 fn_moves (fCons (fV 3) (fCons (fV 4) (fCons (fV 10) (fCons (fV 6) fNil)))) (mkR ns x1 x2 (some a.d) (some (.int (many : Nat))) x5 (some (tun t)) (some (.pt ((tbOf R).map pe))) x8 x9 (some (tun u)) (some (rowR a (rowO R u))) x12 x13 x14) (s ++ [.dT ((tbOf R).map ke)]) = some (rowR a (rowO R' t), s ++ [.dT ((tbOf R).map ke)]) := fn_ok (n := 4) (r2 _) rfl mv2
    refine ⟨some (rowR a (rowO R u)), [.dT ((tbOf R).map ke)], if_then c (seqT (set_ok f1) ?_)⟩
    cases e1 : rowO R u with
    | none =>
      cases e2 : rowO R' t with
      | some row' => rw [e1, e2] at len; cases len
      | none =>
        rw [e1] at dk f2
        rw [e2] at f2
        have n1 : fOp (isB false) (fV 11) (fC .non) (mkR ns x1 x2 (some a.d) (some (.int (many : Nat))) x5 (some (tun t)) (some (.pt ((tbOf R).map pe))) x8 x9 (some (tun u)) (some (rowR a none)) x12 x13 x14) s = some (.bl true, s) := op_ok (st1 := s) (d := .non) (e := .non) (st2 := s) rfl rfl rfl
        have v : valD ((tbOf R).map ke) (kT u) = none := by rw [lk_val, tb_lk B, e1]; rfl
        have c1 : fTst (fOp (inT false) (fV 10) (fCall dictPt (fCons (fV 7) fNil))) (mkR ns x1 x2 (some a.d) (some (.int (many : Nat))) x5 (some (tun t)) (some (.pt ((tbOf R).map pe))) x8 x9 (some (tun u)) (some (rowR a none)) x12 x13 x14) s = some (false, s ++ [.dT ((tbOf R).map ke)]) := by
          refine tst_ok (op_ok (st1 := s) (d := tun u) rfl dk ?_)
          unfold inT
          rw [key_tun]
          simp only [Option.bind_some]
          rw [dict_ok (V := (tbOf R).map ke) (by simp)]
          simp only [Option.bind_some]
          rw [v]
          rfl
        have c2 := tst_ok (op_ok (h := isB true) (fb := fC .non) f2 rfl rfl)
        exact if_then (tst_ok n1) (if_no (or_ff c1 c2))
    | some row =>
      cases e2 : rowO R' t with
      | none => rw [e1, e2] at len; cases len
      | some row' =>
        rw [e1, e2] at len
        have ll : row.length = row'.length := by simpa using len
        rw [e1] at dk f2
        rw [e2] at f2
        have n1 : fOp (isB false) (fV 11) (fC .non) (mkR ns x1 x2 (some a.d) (some (.int (many : Nat))) x5 (some (tun t)) (some (.pt ((tbOf R).map pe))) x8 x9 (some (tun u)) (some (rowR a (some row))) x12 x13 x14) s = some (.bl false, s) := op_ok (st1 := s) (d := .lst (row.map (stepD a))) (e := .non) (st2 := s) rfl rfl rfl
        have w := B.wk _ ((rowO_some B.nd).mp e1)
        have r1 : fFn 5 fn__law_row_so (fCons (fV 3) (fCons (fV 4) (fCons (fV 6) (fCons (fV 10) (fCons (fV 11) fNil))))) (mkR ns x1 x2 (some a.d) (some (.int (many : Nat))) x5 (some (tun t)) (some (.pt ((tbOf R).map pe))) x8 x9 (some (tun u)) (some (rowR a (some row))) x12 x13 x14) s = some (.bl true, s) :=
          fn_ok (ds := [a.d, .int (many : Nat), tun t, tun u, .lst (row.map (stepD a))]) (st1 := s) rfl rfl (row_so_eq h (by omega) t1 (fun x hx => by have := t2 x hx; omega) w)
        have l1 : ∀ s : Sto, fCall lenD (fCons (fV 11) fNil) (mkR ns x1 x2 (some a.d) (some (.int (many : Nat))) x5 (some (tun t)) (some (.pt ((tbOf R).map pe))) x8 x9 (some (tun u)) (some (rowR a (some row))) x12 x13 x14) s = some (.int (row.length : Nat), s) := fun s => by
          show lenD [.lst (row.map (stepD a))] s = _
          rw [e_lenZ, List.length_map]
        have g := get2_at (s := s) (L := tbOf R) (t := u) (fe := fV 10) (fx := fNeg (fC (.int 1))) (w := -1) dk (by simp) rfl rfl
        rw [tb_lk B, e1] at g
        have c2 := tst_ok (op_ok (h := neD) (l1 s) g (eq_self (d := .int (row.length : Nat)) rfl).2)
        have l2 : fCall lenD (fCons (fFn 4 fn_moves (fCons (fV 3) (fCons (fV 4) (fCons (fV 10) (fCons (fV 6) fNil))))) fNil) (mkR ns x1 x2 (some a.d) (some (.int (many : Nat))) x5 (some (tun t)) (some (.pt ((tbOf R).map pe))) x8 x9 (some (tun u)) (some (rowR a (some row))) x12 x13 x14) (s ++ [.dT ((tbOf R).map ke)]) = some (.int (row.length : Nat), s ++ [.dT ((tbOf R).map ke)]) := by
          rw [e_call, e_cons, f2]
          show lenD [.lst (row'.map (stepD a))] _ = _
          rw [e_lenZ, List.length_map, ll]
        have c3 := tst_ok (op_ok (h := neD) l2 (l1 _) (eq_self (d := .int (row.length : Nat)) rfl).2)
        exact if_else (tst_ok n1) (if_else (or_ff (tnot_ok r1) c2) (if_no c3))
theorem low_lc {ρ : Rho} (hl : ρ.length = 15) (h2 : ρ[2]? = some (some (.ref lb))) : ∀ {L : Tbl} {s : Sto}, Bg lb s → ∃ (L' : Tbl) (s' : Sto), lcZ (.many [12, 13]) fYes fEl [] ρ (L.map pe) s = some (L'.map pe, s') ∧ L'.map (·.1) = L.map (·.1) ∧ Go lb s s'
  | [], s, b => ⟨[], s, by unfold lcZ; simp only [List.map_nil]; rw [if_pos Intact.nil], rfl, .refl b⟩
  | p :: L, s, b => by
    obtain ⟨⟨d, s1⟩, e1, ⟨k, rfl, k0, k1⟩, g1⟩ := take_spec (lb := lb) (m := 2) (by decide) (by decide) b
    simp only at g1
    obtain ⟨L', s2, e2, q, g2⟩ := low_lc hl h2 (L := L) (g1.bg b.lt)
    refine ⟨(p.1, p.2 - k) :: L', s2, ?_, by rw [List.map_cons, List.map_cons, q], g1.trans g2⟩
    simp only [List.map_cons]
    unfold lcZ
    rw [if_pos Intact.nil]
    have e0 : tgD (.many [12, 13]) (pe p) ρ = some ((ρ.set 12 (some (tun p.1))).set 13 (some (.int p.2))) := rfl
    rw [e0]
    simp only [Option.bind_some, fYes, if_true]
    have v12 : fV 12 ((ρ.set 12 (some (tun p.1))).set 13 (some (.int p.2))) s = some (tun p.1, s) := by
      rw [e_V, List.getElem?_set_ne (by decide), List.getElem?_set_self (by omega)]
    have v13 : fV 13 ((ρ.set 12 (some (tun p.1))).set 13 (some (.int p.2))) s = some (.int p.2, s) := by
      rw [e_V, List.getElem?_set_self (by rw [List.length_set]; omega)]
    have v2 : fV 2 ((ρ.set 12 (some (tun p.1))).set 13 (some (.int p.2))) s = some (.ref lb, s) := by
      rw [e_V, List.getElem?_set_ne (by decide), List.getElem?_set_ne (by decide), h2]
    have ft : fFn 2 fn__law_take (fCons (fV 2) (fCons (fC (.int 2)) fNil)) ((ρ.set 12 (some (tun p.1))).set 13 (some (.int p.2))) s = some (.int k, s1) := by
      refine fn_ok (ds := [.ref lb, .int 2]) (st1 := s) ?_ rfl e1
      rw [e_cons, v2]
      rfl
    have fe : fEl ((ρ.set 12 (some (tun p.1))).set 13 (some (.int p.2))) s = some (pe (p.1, p.2 - k), s1) := by
      unfold fEl
      rw [e_tup, e_cons, v12]
      simp only [Option.bind_some]
      rw [e_cons, op_ok v13 ft e_subI]
      simp only [Option.bind_some, e_nil]
      rw [if_pos (by rw [sizeLine_eq]; simp)]
      rfl
    rw [fe]
    simp only [Option.bind_some]
    rw [e2]
    rfl
theorem low_eq {ρ : Rho} (hl : ρ.length = 15) (h2 : ρ[2]? = some (some (.ref lb))) (h7 : ρ[7]? = some (some (.pt (L.map pe)))) (hz : L.length ≤ 1000) (b : Bg lb s) : ∃ (L' : Tbl) (s' : Sto), fLow ρ s = some (.pt (L'.map pe), s') ∧ L'.map (·.1) = L.map (·.1) ∧ Go lb s s' := by
  obtain ⟨L', s', e, q, g⟩ := low_lc (ρ := wipeD ρ [12, 13]) (L := L) (by simp [wipeD, hl]) (by simp [wipeD, h2]) b
  refine ⟨L', s', ?_, q, g⟩
  unfold fLow
  have it : iSeq (fV 7) ρ s = some (L.map pe, [], s) := by unfold iSeq; rw [e_V, h7]; rfl
  have f := lcz_ok (st1 := s) it e (by rw [List.length_map, same_len q]; exact hz)
  rw [e_call, e_cons, f]
  rfl
theorem bodyO_ok {ts : List (List Int)} (h : a.Ok) (h4 : a.ss.length ≤ 4) (m1 : 1 ≤ many) (m3 : many ≤ 3) (b : Bg lb s) (hts : ∀ t ∈ ts, Gd a many t) (gt : Gd a many t) :
    ∃ y7 y8 y9 y10 y11 s', bodyO (mkR ns x1 (some (.ref lb)) (some a.d) (some (.int (many : Nat))) (some (.lst (ts.map tun))) (some (tun t)) x7 x8 x9 x10 x11 x12 x13 x14) s = some (.nx, mkR ns x1 (some (.ref lb)) (some a.d) (some (.int (many : Nat))) (some (.lst (ts.map tun))) (some (tun t)) y7 y8 y9 y10 y11 x12 x13 x14, s') ∧ Bg lb s' := by
  obtain ⟨t1, t2, t3⟩ := id gt
  have t9 : ∀ x ∈ t, 0 ≤ x ∧ x ≤ 9 := fun x hx => by have := t2 x hx; omega
  obtain ⟨R, k, eR, B, hR⟩ := rounds (a := a) (many := many) (o := t) h4 (by omega) t1 t2
  have tz := tb_small h4 m3 B hR
  have tr : Ris (tbOf R) := tbOf_ris B.nd fun p hp => (hR p hp).1
  have to := tb_ok hR (by omega)
  have f7 : fFn 3 fn_moves_table (fCons (fV 3) (fCons (fV 4) (fCons (fV 6) fNil))) (mkR ns x1 (some (.ref lb)) (some a.d) (some (.int (many : Nat))) (some (.lst (ts.map tun))) (some (tun t)) x7 x8 x9 x10 x11 x12 x13 x14) s = some (.pt ((tbOf R).map pe), s) :=
    fn_ok (ds := [a.d, .int (many : Nat), tun t]) (st1 := s) rfl rfl (moves_table_eq h h4 m1 (by omega) t1 t2 t3 B.nd eR)
  obtain ⟨L', s1, f8, q, g⟩ := low_eq (s := s) (lb := lb) (L := tbOf R) (ρ := mkR ns x1 (some (.ref lb)) (some a.d) (some (.int (many : Nat))) (some (.lst (ts.map tun))) (some (tun t)) (some (.pt ((tbOf R).map pe))) x8 x9 x10 x11 x12 x13 x14) rfl rfl rfl (by omega) b
  have b1 := g.bg b.lt
  have lt1 := b1.lt
  have nd1 := tb_nd B
  have nd2 : (L'.map (·.1)).Nodup := by rw [q]; exact nd1
  have lz := same_len q
  have f9 : fLst (fCons (fCall dictPt (fCons (fV 7) fNil)) fNil) (mkR ns x1 (some (.ref lb)) (some a.d) (some (.int (many : Nat))) (some (.lst (ts.map tun))) (some (tun t)) (some (.pt ((tbOf R).map pe))) (some (.pt (L'.map pe))) x9 x10 x11 x12 x13 x14) s1 = some (.ref (s1.length + 1), s1 ++ [.dT ((tbOf R).map ke), .lst [.ref s1.length]]) := by
    rw [e_lst, e_cons, dict_at nd1 rfl]
    simp only [Option.bind_some, e_nil]
    rw [if_pos (by rw [sizeLine_eq]; simp)]
    simp
  have judge : ∀ (M : Tbl) (s : Sto), TbOk a M → Ris M → M.length ≤ 1000 → ∀ {ρ : Rho} {j : Nat}, fV 3 ρ s = some (a.d, s) → fV 4 ρ s = some (.int (many : Nat), s) → fV 6 ρ s = some (tun t, s) → fV j ρ s = some (.pt (M.map pe), s) → fFn 4 fn_is_moves_table (fCons (fV 3) (fCons (fV 4) (fCons (fV 6) (fCons (fV j) fNil)))) ρ s = some (.bl (tabB a many t M), s) := fun M s o r z ρ j v3 v4 v6 vj => by
    refine fn_ok (ds := [a.d, .int (many : Nat), tun t, .pt (M.map pe)]) (st1 := s) ?_ rfl (is_table_eq h h4 m1 (by omega) t1 t2 t3 o r z)
    rw [e_cons, v3]
    simp only [Option.bind_some]
    rw [e_cons, v4]
    simp only [Option.bind_some]
    rw [e_cons, v6]
    simp only [Option.bind_some]
    rw [e_cons, vj]
    rfl
  -- the tables as they lie
  have tabs : ∃ (tq : List (Nat × Tbl)) (s2 : Sto), sIf (fTst (fFn 4 fn_is_moves_table (fCons (fV 3) (fCons (fV 4) (fCons (fV 6) (fCons (fV 8) fNil)))))) (sExpr (fApp (fV 9) (fCall dictPt (fCons (fV 8) fNil)))) sNext (mkR ns x1 (some (.ref lb)) (some a.d) (some (.int (many : Nat))) (some (.lst (ts.map tun))) (some (tun t)) (some (.pt ((tbOf R).map pe))) (some (.pt (L'.map pe))) (some (.ref (s1.length + 1))) x10 x11 x12 x13 x14) (s1 ++ [.dT ((tbOf R).map ke), .lst [.ref s1.length]]) = some (.nx, mkR ns x1 (some (.ref lb)) (some a.d) (some (.int (many : Nat))) (some (.lst (ts.map tun))) (some (tun t)) (some (.pt ((tbOf R).map pe))) (some (.pt (L'.map pe))) (some (.ref (s1.length + 1))) x10 x11 x12 x13 x14, s2) ∧ Bg lb s2 ∧ Tbs a many t (s1.length + 1) lb tq s2 := by
    have j8 := judge L' (s1 ++ [.dT ((tbOf R).map ke), .lst [.ref s1.length]]) (same_ok q to) (same_ris q tr) (by omega) (j := 8) (ρ := mkR ns x1 (some (.ref lb)) (some a.d) (some (.int (many : Nat))) (some (.lst (ts.map tun))) (some (tun t)) (some (.pt ((tbOf R).map pe))) (some (.pt (L'.map pe))) (some (.ref (s1.length + 1))) x10 x11 x12 x13 x14) rfl rfl rfl rfl
    cases z : tabB a many t L' with
    | false =>
      rw [z] at j8
      refine ⟨[(s1.length, tbOf R)], _, if_no (tst_ok j8), b1.app _, ⟨by simp, by omega, fun q hq => ?_⟩⟩
      rw [List.mem_singleton] at hq
      subst hq
      exact ⟨by simp, by show s1.length ≠ lb; omega, nd1, tb_judged B⟩
    | true =>
      rw [z] at j8
      have dk := dict_at (s := s1 ++ [.dT ((tbOf R).map ke), .lst [.ref s1.length]]) (L := L') (j := 8) (ρ := mkR ns x1 (some (.ref lb)) (some a.d) (some (.int (many : Nat))) (some (.lst (ts.map tun))) (some (tun t)) (some (.pt ((tbOf R).map pe))) (some (.pt (L'.map pe))) (some (.ref (s1.length + 1))) x10 x11 x12 x13 x14) nd2 rfl
      have ap : sExpr (fApp (fV 9) (fCall dictPt (fCons (fV 8) fNil))) (mkR ns x1 (some (.ref lb)) (some a.d) (some (.int (many : Nat))) (some (.lst (ts.map tun))) (some (tun t)) (some (.pt ((tbOf R).map pe))) (some (.pt (L'.map pe))) (some (.ref (s1.length + 1))) x10 x11 x12 x13 x14) (s1 ++ [.dT ((tbOf R).map ke), .lst [.ref s1.length]]) = some (.nx, mkR ns x1 (some (.ref lb)) (some a.d) (some (.int (many : Nat))) (some (.lst (ts.map tun))) (some (tun t)) (some (.pt ((tbOf R).map pe))) (some (.pt (L'.map pe))) (some (.ref (s1.length + 1))) x10 x11 x12 x13 x14, s1 ++ [.dT ((tbOf R).map ke), .lst [.ref s1.length, .ref (s1.length + 2)], .dT (L'.map ke)]) := by
        have hj : fV 9 (mkR ns x1 (some (.ref lb)) (some a.d) (some (.int (many : Nat))) (some (.lst (ts.map tun))) (some (tun t)) (some (.pt ((tbOf R).map pe))) (some (.pt (L'.map pe))) (some (.ref (s1.length + 1))) x10 x11 x12 x13 x14) (s1 ++ [.dT ((tbOf R).map ke), .lst [.ref s1.length]]) = some (.ref (s1.length + 1), s1 ++ [.dT ((tbOf R).map ke), .lst [.ref s1.length]]) := rfl
        rw [e_expr, e_app, hj]
        simp only [Option.bind_some]
        rw [dk]
        simp [sizeLine_eq]
      refine ⟨[(s1.length, tbOf R), (s1.length + 2, L')], _, if_then (tst_ok j8) ap, b1.app _, ⟨by simp, by omega, fun q hq => ?_⟩⟩
      simp only [List.mem_cons, List.not_mem_nil, or_false] at hq
      rcases hq with rfl | rfl
      · exact ⟨by simp, by show s1.length ≠ lb; omega, nd1, tb_judged B⟩
      · exact ⟨by simp, by show s1.length + 2 ≠ lb; omega, nd2, z⟩
  obtain ⟨tq, s2, f10, b2, w⟩ := tabs
  have j7 := judge (tbOf R) s2 to tr (by omega) (j := 7) (ρ := mkR ns x1 (some (.ref lb)) (some a.d) (some (.int (many : Nat))) (some (.lst (ts.map tun))) (some (tun t)) (some (.pt ((tbOf R).map pe))) (some (.pt (L'.map pe))) (some (.ref (s1.length + 1))) x10 x11 x12 x13 x14) rfl rfl rfl rfl
  rw [tb_judged B] at j7
  have c1 := tst_ok (op_ok (h := isB true) (fb := fC (.bl true)) j7 rfl rfl)
  obtain ⟨⟨d, s3⟩, e11, hd, g3⟩ := walk_spec (many := many) (o := t) h h4 (by omega) t1 t9 b2 w
  simp only at hd g3
  subst hd
  have f11 : fFn 5 fn__law_walk_so (fCons (fV 2) (fCons (fV 3) (fCons (fV 4) (fCons (fV 6) (fCons (fV 9) fNil))))) (mkR ns x1 (some (.ref lb)) (some a.d) (some (.int (many : Nat))) (some (.lst (ts.map tun))) (some (tun t)) (some (.pt ((tbOf R).map pe))) (some (.pt (L'.map pe))) (some (.ref (s1.length + 1))) x10 x11 x12 x13 x14) s2 = some (.bl true, s3) :=
    fn_ok (ds := [.ref lb, a.d, .int (many : Nat), tun t, .ref (s1.length + 1)]) (st1 := s2) rfl rfl e11
  have b3 := g3.bg b2.lt
  obtain ⟨ρ2, s4, ef, ⟨y10, y11, e12⟩, b4⟩ := for_fold (tg := .one 10) (b := bodyI) (src := []) (items := ts.map tun)
    (I := fun _ ρ s' => (∃ y10 y11, ρ = mkR ns x1 (some (.ref lb)) (some a.d) (some (.int (many : Nat))) (some (.lst (ts.map tun))) (some (tun t)) (some (.pt ((tbOf R).map pe))) (some (.pt (L'.map pe))) (some (.ref (s1.length + 1))) y10 y11 x12 x13 x14) ∧ Bg lb s')
    (fun _ _ _ _ => Intact.nil) (fun j z hz ρ s' ⟨⟨y10, y11, hρ⟩, bb⟩ => by
      subst hρ
      obtain ⟨u, hu, rfl⟩ := List.mem_map.mp (List.mem_of_getElem? hz)
      obtain ⟨z11, more, e⟩ := bodyI_ok (ns := ns) (s := s') (x1 := x1) (x2 := some (.ref lb)) (x5 := some (.lst (ts.map tun))) (x8 := some (.pt (L'.map pe))) (x9 := some (.ref (s1.length + 1))) (x11 := y11) (x12 := x12) (x13 := x13) (x14 := x14) h h4 m1 (by omega) gt (hts u hu) eR B
      exact ⟨_, rfl, .nx, _, _, e, .inl rfl, ⟨_, _, rfl⟩, bb.app _⟩) (ρ := mkR ns x1 (some (.ref lb)) (some a.d) (some (.int (many : Nat))) (some (.lst (ts.map tun))) (some (tun t)) (some (.pt ((tbOf R).map pe))) (some (.pt (L'.map pe))) (some (.ref (s1.length + 1))) x10 x11 x12 x13 x14) (s := s3) ⟨⟨_, _, rfl⟩, b3⟩
  subst e12
  exact ⟨_, _, _, _, _, s4, seqT (set_ok f7) (seqT (ρ1 := mkR ns x1 (some (.ref lb)) (some a.d) (some (.int (many : Nat))) (some (.lst (ts.map tun))) (some (tun t)) (some (.pt ((tbOf R).map pe))) (some (.pt (L'.map pe))) x9 x10 x11 x12 x13 x14) (set_ok f8) (seqT (ρ1 := mkR ns x1 (some (.ref lb)) (some a.d) (some (.int (many : Nat))) (some (.lst (ts.map tun))) (some (tun t)) (some (.pt ((tbOf R).map pe))) (some (.pt (L'.map pe))) (some (.ref (s1.length + 1))) x10 x11 x12 x13 x14) (set_ok f9) (seqT f10 (seqT (if_no (or_ff c1 (tnot_ok f11))) (for_at rfl ef))))), b4⟩
theorem bodyL_ok {k : Int} (k0 : 0 ≤ k) (k1 : k ≤ 15) :
    ∃ y1 y2 y3 y4 y5 y6 y7 y8 y9 y10 y11 y12 y13 y14 s', bodyL (mkR ns (some (.int k)) x2 x3 x4 x5 x6 x7 x8 x9 x10 x11 x12 x13 x14) s = some (.nx, mkR ns y1 y2 y3 y4 y5 y6 y7 y8 y9 y10 y11 y12 y13 y14, s') := by
  obtain ⟨⟨y1, s1⟩, q1, e1, o, e2, b1⟩ := bag_spec (ns := ns) (st := s) k0 (by omega)
  simp only at e1 e2 b1
  subst e1
  obtain ⟨⟨y2, s2⟩, q2, ⟨a, e3, h, l4⟩, g2⟩ := air_spec (most := 4) b1 (by decide) (by decide)
  simp only at e3 g2
  subst e3
  have b2 := g2.bg b1.lt
  obtain ⟨⟨y3, s3⟩, q3, ⟨m, e4, m0, m1⟩, g3⟩ := take_spec (lb := s.length) (m := 2) (by decide) (by decide) b2
  simp only at e4 g3
  subst e4
  obtain ⟨n, rfl⟩ : ∃ n : Nat, m = (n : Nat) := ⟨m.toNat, by omega⟩
  have b3 := g3.bg b2.lt
  have f4 : fOp addD (fC (.int 2)) (fFn 2 fn__law_take (fCons (fV 2) (fCons (fC (.int 2)) fNil))) (mkR ns (some (.int k)) (some (.ref s.length)) (some a.d) x4 x5 x6 x7 x8 x9 x10 x11 x12 x13 x14) s2 = some (.int ((2 + n : Nat) : Int), s3) := by
    have e := op_ok (h := addD) (fa := fC (.int 2)) (ρ := mkR ns (some (.int k)) (some (.ref s.length)) (some a.d) x4 x5 x6 x7 x8 x9 x10 x11 x12 x13 x14) rfl (fn_ok (n := 2) (fr := fCons (fV 2) (fCons (fC (.int 2)) fNil)) (ds := [.ref s.length, .int 2]) (st1 := s2) rfl rfl q3) e_addI
    rw [e]
    congr 3
  obtain ⟨⟨y5, s5⟩, q5, ⟨ts, e5, _, ht5⟩, g5⟩ := good_spec (a := a) (many := 2 + n) h (by omega) (by omega) b3
  simp only at e5 g5
  subst e5
  have b5 := g5.bg b3.lt
  have f6 : fSl (fFn 3 fn__law_good_tunings (fCons (fV 2) (fCons (fV 3) (fCons (fV 4) fNil)))) oNone (oSome (fC (.int 3))) (mkR ns (some (.int k)) (some (.ref s.length)) (some a.d) (some (.int ((2 + n : Nat) : Int))) x5 x6 x7 x8 x9 x10 x11 x12 x13 x14) s3 = some (.lst ((ts.take 3).map tun), s5) := by
    rw [e_sl, fn_ok (n := 3) (ds := [.ref s.length, a.d, .int ((2 + n : Nat) : Int)]) (st1 := s3) rfl rfl q5]
    simp only [e_C, e_oN, e_oS, Option.bind_some]
    rw [e_slZ, cut_hi (by decide), List.map_take]
    rfl
  obtain ⟨ρ4, s6, ef6, ⟨w6, w7, w8, w9, w10, w11, e6⟩, e7⟩ := for_fold (tg := .one 6) (b := bodyO) (src := []) (items := (ts.take 3).map tun)
    (I := fun _ ρ s' => (∃ w6 w7 w8 w9 w10 w11, ρ = mkR ns (some (.int k)) (some (.ref s.length)) (some a.d) (some (.int ((2 + n : Nat) : Int))) (some (.lst ((ts.take 3).map tun))) w6 w7 w8 w9 w10 w11 x12 x13 x14) ∧ Bg s.length s')
    (fun _ _ _ _ => Intact.nil) (fun j z hz ρ s' ⟨⟨w6, w7, w8, w9, w10, w11, hρ⟩, bb⟩ => by
      subst hρ
      obtain ⟨t, ht, rfl⟩ := List.mem_map.mp (List.mem_of_getElem? hz)
      obtain ⟨y7, y8, y9, y10, y11, s'', e, b'⟩ := bodyO_ok (ns := ns) (x1 := some (.int k)) (x7 := w7) (x8 := w8) (x9 := w9) (x10 := w10) (x11 := w11) (x12 := x12) (x13 := x13) (x14 := x14) h (by omega) (by omega) (by omega) bb (fun t ht => ht5 t (List.mem_of_mem_take ht)) (ht5 t (List.mem_of_mem_take ht))
      exact ⟨_, rfl, .nx, _, _, e, .inl rfl, ⟨_, _, _, _, _, _, rfl⟩, b'⟩) (ρ := mkR ns (some (.int k)) (some (.ref s.length)) (some a.d) (some (.int ((2 + n : Nat) : Int))) (some (.lst ((ts.take 3).map tun))) x6 x7 x8 x9 x10 x11 x12 x13 x14) (s := s5) ⟨⟨_, _, _, _, _, _, rfl⟩, b5⟩
  subst e6
  refine ⟨_, _, _, _, _, _, _, _, _, _, _, _, _, _, s6, seqT (set_ok (fn_ok (ds := [.scr ns, .int k]) (st1 := s) rfl rfl q1)) (seqT (ρ1 := mkR ns (some (.int k)) (some (.ref s.length)) (some a.d) x4 x5 x6 x7 x8 x9 x10 x11 x12 x13 x14) (set_ok (fn_ok (ds := [.ref s.length, .int 4]) (st1 := s1) rfl rfl q2)) (seqT (ρ1 := mkR ns (some (.int k)) (some (.ref s.length)) (some a.d) (some (.int ((2 + n : Nat) : Int))) x5 x6 x7 x8 x9 x10 x11 x12 x13 x14) (set_ok f4) (seqT (ρ1 := mkR ns (some (.int k)) (some (.ref s.length)) (some a.d) (some (.int ((2 + n : Nat) : Int))) (some (.lst ((ts.take 3).map tun))) x6 x7 x8 x9 x10 x11 x12 x13 x14) (set_ok f6) (for_at rfl ef6))))⟩
theorem math (hz : ns.length ≤ 63) : ∃ st', fn_law [.scr ns] [] = some (.bl true, st') := by
  have key : ∃ ρ2 s2, sb_law (mkR ns none none none none none none none none none none none none none none) [] = some (.rt (.bl true), ρ2, s2) := by
    rw [law_form]
    have ls : ∀ st, lenD [.scr ns] st = some (.int ns.length, st) := fun _ => rfl
    obtain ⟨c, hc, c1⟩ : ∃ c : Nat, minD [.int ns.length, .int 3] ([] : Sto) = some (.int (c : Nat), []) ∧ c ≤ 3 := by
      by_cases z : (3 : Int) < ns.length
      · exact ⟨3, by show some (D.int (if (3 : Int) < ns.length then 3 else ns.length), _) = _; rw [if_pos z]; rfl, by omega⟩
      · exact ⟨ns.length, by show some (D.int (if (3 : Int) < ns.length then 3 else ns.length), _) = _; rw [if_neg z], by omega⟩
    have it : iRange1 (fCons (fOp addD (fC (.int 1)) (fCall minD (fCons (fCall lenD (fCons (fV 0) fNil)) (fCons (fC (.int 3)) fNil)))) fNil) (mkR ns none none none none none none none none none none none none none none) [] = some (rangeD 0 (1 + c), [], []) := by
      refine range_ok ?_ (by omega)
      simp only [e_cons, e_op, e_C, e_call, e_V, e_nil, List.getElem?_cons_zero, Option.bind_some, ls, hc, e_addI]
      rw [Int.natCast_add]
      rfl
    obtain ⟨ρ2, s2, e, _⟩ := for_fold (tg := .one 1) (b := bodyL) (src := []) (items := rangeD 0 (1 + c))
      (I := fun _ ρ _ => ∃ x1 x2 x3 x4 x5 x6 x7 x8 x9 x10 x11 x12 x13 x14, ρ = mkR ns x1 x2 x3 x4 x5 x6 x7 x8 x9 x10 x11 x12 x13 x14)
      (fun _ _ _ _ => Intact.nil)
      (fun j d hd ρ s' ⟨x1, x2, x3, x4, x5, x6, x7, x8, x9, x10, x11, x12, x13, x14, hρ⟩ => by
        subst hρ
        obtain ⟨hj, ej⟩ := List.getElem?_eq_some_iff.mp hd
        have hj : j < 1 + c := by simpa [rangeD] using hj
        have ed : d = .int (0 + (j : Nat)) := by rw [← ej]; simp [rangeD]
        subst ed
        obtain ⟨y1, y2, y3, y4, y5, y6, y7, y8, y9, y10, y11, y12, y13, y14, s2, e⟩ := bodyL_ok (ns := ns) (s := s') (k := 0 + (j : Nat)) (x2 := x2) (x3 := x3) (x4 := x4) (x5 := x5) (x6 := x6) (x7 := x7) (x8 := x8) (x9 := x9) (x10 := x10) (x11 := x11) (x12 := x12) (x13 := x13) (x14 := x14) (by omega) (by omega)
        exact ⟨_, rfl, .nx, _, _, e, .inl rfl, _, _, _, _, _, _, _, _, _, _, _, _, _, _, rfl⟩)
      (ρ := mkR ns none none none none none none none none none none none none none none) (s := []) ⟨_, _, _, _, _, _, _, _, _, _, _, _, _, _, rfl⟩
    exact ⟨ρ2, s2, seqT (for_at it e) (ret_ok rfl)⟩
  obtain ⟨ρ2, s2, e⟩ := key
  exact ⟨s2, run_ok (ρ' := ρ2) e⟩
end
end K10
set_option Elab.async false
set_option linter.all false
set_option maxRecDepth 100000
set_option maxHeartbeats 0
namespace K10
open PySem PySem.Spec PyProof.Rows L2 GxR LG EL FW
section
variable {G : G0}
theorem facts {h : Heap} {w : World} (X : G.K.In h) (Gs : h.Ns mainGlobals G.mg) (cy : SaysY faL fnL tfL inL exL w h G.K) (hPr : G.P = PySem.Challenge.pw_wavehall_k10_whole_no_row_of_moves_is_sh) (hPs : G.Ps = (tgL.map (He.cT G.K)).map (·.2)) (tb : ∀ p ∈ tfL.map (He.cT G.K), LamX.TabB G.base G.mg p.1 p.2) : T0 G ∧ (
    Def G 3 "_law_air" 2 (fn__law_air) ∧ Def G 1 "_law_bag" 2 (fn__law_bag) ∧ Def G 5 "_law_good_tunings" 3 (fn__law_good_tunings) ∧ Def G 5 "_law_row_so" 5 (fn__law_row_so) ∧ Def G 1 "_law_take" 2 (fn__law_take) ∧ Def G 6 "_law_walk_so" 5 (fn__law_walk_so) ∧ Def G 8 "is_moves_table" 4 (fn_is_moves_table) ∧ Def G 8 "moves" 4 (fn_moves) ∧ Def G 8 "moves_table" 3 (fn_moves_table)) := by
  have c := cy.x
  have T : T0 G := ⟨He.free_ok X Gs (c.t.d.fact 48 (f := .free "abs") rfl), He.free_ok X Gs (c.t.d.fact 49 (f := .free "all") rfl), He.free_ok X Gs (c.t.d.fact 50 (f := .free "any") rfl), He.free_ok X Gs (c.t.d.fact 51 (f := .free "bool") rfl), He.free_ok X Gs (c.t.d.fact 52 (f := .free "dict") rfl), He.free_ok X Gs (c.t.d.fact 53 (f := .free "enumerate") rfl), He.free_ok X Gs (c.t.d.fact 54 (f := .free "int") rfl), He.free_ok X Gs (c.t.d.fact 55 (f := .free "isinstance") rfl), He.free_ok X Gs (c.t.d.fact 56 (f := .free "len") rfl), He.free_ok X Gs (c.t.d.fact 57 (f := .free "max") rfl), He.free_ok X Gs (c.t.d.fact 58 (f := .free "min") rfl), He.free_ok X Gs (c.t.d.fact 59 (f := .free "range") rfl), He.free_ok X Gs (c.t.d.fact 60 (f := .free "sorted") rfl), He.free_ok X Gs (c.t.d.fact 61 (f := .free "sum") rfl), He.free_ok X Gs (c.t.d.fact 62 (f := .free "tuple") rfl), He.free_ok X Gs (c.t.d.fact 63 (f := .free "zip") rfl), He.int_ok X Gs (c.t.d.fact 64 (f := .int "APART" 2) rfl), He.int_ok X Gs (c.t.d.fact 65 (f := .int "LAST_BAND" 9) rfl), He.int_ok X Gs (c.t.d.fact 66 (f := .int "MOST_BANDS" 5) rfl), He.int_ok X Gs (c.t.d.fact 67 (f := .int "MOST_MOVED" 4) rfl), He.int_ok X Gs (c.t.d.fact 68 (f := .int "SILENCE" 0) rfl), clsF_of X Gs (c.t.d.fact 69 (f := .glo "Judge") rfl) (c.t.d.fact 70 (f := .cls "Judge") rfl) (fun f hf => by simp only [List.mem_cons, List.not_mem_nil, or_false] at hf; rcases hf with rfl | rfl <;> first | exact c.t.d.fact 71 (f := .noat "Judge" "ears") rfl | exact c.t.d.fact 72 (f := .noat "Judge" "verdicts") rfl)⟩
  obtain ⟨fd_0, D_0⟩ := c.t.d.def_ 0 (d := dd_is_number) rfl
  obtain ⟨_, F_is_number, _⟩ := fnAt_of (st := st_is_number) X Gs D_0 (c.t.d.fact 0 (f := .glo "is_number") rfl)
  have d_is_number := K10.d_is_number T F_is_number 
  obtain ⟨fd_1, D_1⟩ := c.t.d.def_ 1 (d := dd_is_whole) rfl
  obtain ⟨_, F_is_whole, _⟩ := fnAt_of (st := st_is_whole) X Gs D_1 (c.t.d.fact 1 (f := .glo "is_whole") rfl)
  have d_is_whole := K10.d_is_whole T F_is_whole d_is_number
  obtain ⟨fd_2, D_2⟩ := c.t.d.def_ 2 (d := dd_check_size) rfl
  obtain ⟨_, F_check_size, _⟩ := fnAt_of (st := st_check_size) X Gs D_2 (c.t.d.fact 2 (f := .glo "check_size") rfl)
  have d_check_size := K10.d_check_size T F_check_size 
  obtain ⟨fd_3, D_3⟩ := c.t.d.def_ 3 (d := dd_check_bands) rfl
  obtain ⟨_, F_check_bands, _⟩ := fnAt_of (st := st_check_bands) X Gs D_3 (c.t.d.fact 3 (f := .glo "check_bands") rfl)
  have d_check_bands := K10.d_check_bands T F_check_bands d_check_size d_is_whole
  obtain ⟨fd_4, D_4⟩ := c.t.d.def_ 4 (d := dd_is_tuple_of) rfl
  obtain ⟨_, F_is_tuple_of, _⟩ := fnAt_of (st := st_is_tuple_of) X Gs D_4 (c.t.d.fact 4 (f := .glo "is_tuple_of") rfl)
  have d_is_tuple_of := K10.d_is_tuple_of T F_is_tuple_of 
  obtain ⟨fd_5, D_5⟩ := c.t.d.def_ 5 (d := dd_is_tuning) rfl
  have F_is_tuning : FnAt G "is_tuning" st_is_tuning (.ref (He.cT G.K ("is_tuning", none)).1) := fnAt_tab (st := st_is_tuning) X Gs D_5 (c.t.d.fact 5 (f := .glo "is_tuning") rfl)
  have m_is_tuning : He.cT G.K ("is_tuning", none) ∈ tgL.map (He.cT G.K) := List.mem_map.mpr ⟨("is_tuning", none), by simp [tgL], rfl⟩
  have mt_is_tuning : He.cT G.K ("is_tuning", none) ∈ tfL.map (He.cT G.K) := List.mem_map.mpr ⟨("is_tuning", none), by simp [tfL], rfl⟩
  have p_is_tuning : (He.cT G.K ("is_tuning", none)).2 ∈ G.Ps := by rw [hPs]; exact List.mem_map.mpr ⟨_, m_is_tuning, rfl⟩
  have d_is_tuning := K10.d_is_tuning p_is_tuning (tabB_of (tb _ mt_is_tuning)) T F_is_tuning d_is_tuple_of d_is_whole
  obtain ⟨fd_6, D_6⟩ := c.t.d.def_ 6 (d := dd_spread) rfl
  obtain ⟨_, F_spread, _⟩ := fnAt_of (st := st_spread) X Gs D_6 (c.t.d.fact 6 (f := .glo "spread") rfl)
  have d_spread := K10.d_spread T F_spread 
  obtain ⟨fd_7, D_7⟩ := c.t.d.def_ 7 (d := dd_ear) rfl
  obtain ⟨_, F_ear, _⟩ := fnAt_of (st := st_ear) X Gs D_7 (c.t.d.fact 7 (f := .glo "ear") rfl)
  have d_ear := K10.d_ear T F_ear d_spread
  obtain ⟨fd_8, D_8⟩ := c.t.d.def_ 8 (d := dd_ears_of) rfl
  obtain ⟨_, F_ears_of, _⟩ := fnAt_of (st := st_ears_of) X Gs D_8 (c.t.d.fact 8 (f := .glo "ears_of") rfl)
  have d_ears_of := K10.d_ears_of T F_ears_of d_ear
  obtain ⟨fd_9, D_9⟩ := c.t.d.def_ 9 (d := dd_gap) rfl
  obtain ⟨_, F_gap, _⟩ := fnAt_of (st := st_gap) X Gs D_9 (c.t.d.fact 9 (f := .glo "gap") rfl)
  have d_gap := K10.d_gap T F_gap 
  obtain ⟨fd_10, D_10⟩ := c.t.d.def_ 10 (d := dd_hears) rfl
  obtain ⟨_, F_hears, _⟩ := fnAt_of (st := st_hears) X Gs D_10 (c.t.d.fact 10 (f := .glo "hears") rfl)
  have d_hears := K10.d_hears T F_hears d_gap
  obtain ⟨fd_11, D_11⟩ := c.t.d.def_ 11 (d := dd_first_unheard) rfl
  obtain ⟨_, F_first_unheard, _⟩ := fnAt_of (st := st_first_unheard) X Gs D_11 (c.t.d.fact 11 (f := .glo "first_unheard") rfl)
  have d_first_unheard := K10.d_first_unheard T F_first_unheard d_hears
  obtain ⟨fd_12, D_12⟩ := c.t.d.def_ 12 (d := dd_all_heard) rfl
  obtain ⟨_, F_all_heard, _⟩ := fnAt_of (st := st_all_heard) X Gs D_12 (c.t.d.fact 12 (f := .glo "all_heard") rfl)
  have d_all_heard := K10.d_all_heard T F_all_heard d_first_unheard
  obtain ⟨fd_13, D_13⟩ := c.t.d.def_ 13 (d := dd_check_tuning) rfl
  have F_check_tuning : FnAt G "check_tuning" st_check_tuning (.ref (He.cT G.K ("check_tuning", none)).1) := fnAt_tab (st := st_check_tuning) X Gs D_13 (c.t.d.fact 13 (f := .glo "check_tuning") rfl)
  have m_check_tuning : He.cT G.K ("check_tuning", none) ∈ tgL.map (He.cT G.K) := List.mem_map.mpr ⟨("check_tuning", none), by simp [tgL], rfl⟩
  have mt_check_tuning : He.cT G.K ("check_tuning", none) ∈ tfL.map (He.cT G.K) := List.mem_map.mpr ⟨("check_tuning", none), by simp [tfL], rfl⟩
  have p_check_tuning : (He.cT G.K ("check_tuning", none)).2 ∈ G.Ps := by rw [hPs]; exact List.mem_map.mpr ⟨_, m_check_tuning, rfl⟩
  have d_check_tuning := K10.d_check_tuning p_check_tuning (tabB_of (tb _ mt_check_tuning)) T F_check_tuning d_all_heard d_ears_of d_is_tuning
  obtain ⟨fd_14, D_14⟩ := c.t.d.def_ 14 (d := dd_silent_seats) rfl
  obtain ⟨_, F_silent_seats, _⟩ := fnAt_of (st := st_silent_seats) X Gs D_14 (c.t.d.fact 14 (f := .glo "silent_seats") rfl)
  have d_silent_seats := K10.d_silent_seats T F_silent_seats 
  obtain ⟨fd_15, D_15⟩ := c.t.d.def_ 15 (d := dd_names_of) rfl
  obtain ⟨_, F_names_of, _⟩ := fnAt_of (st := st_names_of) X Gs D_15 (c.t.d.fact 15 (f := .glo "names_of") rfl)
  have d_names_of := K10.d_names_of T F_names_of 
  obtain ⟨fd_16, D_16⟩ := c.t.d.def_ 16 (d := dd_Judge____init__) rfl
  obtain ⟨_, F_Judge____init__, _⟩ := inAt_of (st := st_Judge____init__) X Gs D_16 (c.t.d.fact 69 (f := .glo "Judge") rfl) (c.t.d.fact 16 (f := .mkr "Judge") rfl)
  have d_Judge____init__ := K10.d_Judge____init__ T F_Judge____init__ d_ears_of
  obtain ⟨fd_17, D_17⟩ := c.t.d.def_ 17 (d := dd_retuned) rfl
  obtain ⟨_, F_retuned, _⟩ := fnAt_of (st := st_retuned) X Gs D_17 (c.t.d.fact 17 (f := .glo "retuned") rfl)
  have d_retuned := K10.d_retuned T F_retuned 
  obtain ⟨fd_18, D_18⟩ := c.t.d.def_ 18 (d := dd_Judge__allows) rfl
  obtain ⟨_, F_Judge__allows, _⟩ := meAt_of (st := st_Judge__allows) X Gs D_18 (c.t.d.fact 69 (f := .glo "Judge") rfl) (c.t.d.fact 70 (f := .cls "Judge") rfl) (c.t.d.fact 18 (f := .meth "Judge" "allows") rfl)
  have d_Judge__allows := K10.d_Judge__allows T F_Judge__allows d_all_heard
  obtain ⟨fd_19, D_19⟩ := c.t.d.def_ 19 (d := dd_moves_from) rfl
  obtain ⟨_, F_moves_from, _⟩ := fnAt_of (st := st_moves_from) X Gs D_19 (c.t.d.fact 19 (f := .glo "moves_from") rfl)
  have d_moves_from := K10.d_moves_from T F_moves_from d_Judge__allows d_retuned
  obtain ⟨fd_20, D_20⟩ := c.t.d.def_ 20 (d := dd_ways) rfl
  obtain ⟨_, F_ways, _⟩ := fnAt_of (st := st_ways) X Gs D_20 (c.t.d.fact 20 (f := .glo "ways") rfl)
  have d_ways := K10.d_ways T F_ways d_Judge____init__ d_moves_from d_names_of
  obtain ⟨fd_21, D_21⟩ := c.t.d.def_ 21 (d := dd_moves) rfl
  obtain ⟨_, F_moves, _⟩ := fnAt_of (st := st_moves) X Gs D_21 (c.t.d.fact 21 (f := .glo "moves") rfl)
  have d_moves := K10.d_moves T F_moves d_check_bands d_check_tuning d_silent_seats d_ways
  obtain ⟨fd_22, D_22⟩ := c.t.d.def_ 22 (d := dd_moves_table) rfl
  obtain ⟨_, F_moves_table, _⟩ := fnAt_of (st := st_moves_table) X Gs D_22 (c.t.d.fact 22 (f := .glo "moves_table") rfl)
  have d_moves_table := K10.d_moves_table T F_moves_table d_check_bands d_check_tuning d_ways
  obtain ⟨fd_23, D_23⟩ := c.t.d.def_ 23 (d := dd_is_rising) rfl
  have F_is_rising : FnAt G "is_rising" st_is_rising (.ref (He.cT G.K ("is_rising", none)).1) := fnAt_tab (st := st_is_rising) X Gs D_23 (c.t.d.fact 23 (f := .glo "is_rising") rfl)
  have m_is_rising : He.cT G.K ("is_rising", none) ∈ tgL.map (He.cT G.K) := List.mem_map.mpr ⟨("is_rising", none), by simp [tgL], rfl⟩
  have mt_is_rising : He.cT G.K ("is_rising", none) ∈ tfL.map (He.cT G.K) := List.mem_map.mpr ⟨("is_rising", none), by simp [tfL], rfl⟩
  have p_is_rising : (He.cT G.K ("is_rising", none)).2 ∈ G.Ps := by rw [hPs]; exact List.mem_map.mpr ⟨_, m_is_rising, rfl⟩
  have d_is_rising := K10.d_is_rising p_is_rising (tabB_of (tb _ mt_is_rising)) T F_is_rising 
  obtain ⟨fd_24, D_24⟩ := c.t.d.def_ 24 (d := dd_is_numbered) rfl
  obtain ⟨_, F_is_numbered, _⟩ := fnAt_of (st := st_is_numbered) X Gs D_24 (c.t.d.fact 24 (f := .glo "is_numbered") rfl)
  have d_is_numbered := K10.d_is_numbered T F_is_numbered d_is_number d_is_tuning d_is_tuple_of
  obtain ⟨fd_25, D_25⟩ := c.t.d.def_ 25 (d := dd_are_numbered) rfl
  have F_are_numbered : FnAt G "are_numbered" st_are_numbered (.ref (He.cT G.K ("are_numbered", none)).1) := fnAt_tab (st := st_are_numbered) X Gs D_25 (c.t.d.fact 25 (f := .glo "are_numbered") rfl)
  have m_are_numbered : He.cT G.K ("are_numbered", none) ∈ tgL.map (He.cT G.K) := List.mem_map.mpr ⟨("are_numbered", none), by simp [tgL], rfl⟩
  have mt_are_numbered : He.cT G.K ("are_numbered", none) ∈ tfL.map (He.cT G.K) := List.mem_map.mpr ⟨("are_numbered", none), by simp [tfL], rfl⟩
  have p_are_numbered : (He.cT G.K ("are_numbered", none)).2 ∈ G.Ps := by rw [hPs]; exact List.mem_map.mpr ⟨_, m_are_numbered, rfl⟩
  have d_are_numbered := K10.d_are_numbered p_are_numbered (tabB_of (tb _ mt_are_numbered)) T F_are_numbered d_is_numbered d_is_rising
  obtain ⟨fd_26, D_26⟩ := c.t.d.def_ 26 (d := dd_is_moves_table) rfl
  obtain ⟨_, F_is_moves_table, _⟩ := fnAt_of (st := st_is_moves_table) X Gs D_26 (c.t.d.fact 26 (f := .glo "is_moves_table") rfl)
  have d_is_moves_table := K10.d_is_moves_table T F_is_moves_table d_Judge____init__ d_are_numbered d_check_bands d_check_tuning d_moves_from
  obtain ⟨fd_27, D_27⟩ := c.t.d.def_ 27 (d := dd__law_bag) rfl
  obtain ⟨_, F__law_bag, _⟩ := fnAt_of (st := st__law_bag) X Gs D_27 (c.t.d.fact 27 (f := .glo "_law_bag") rfl)
  have d__law_bag := K10.d__law_bag T F__law_bag 
  obtain ⟨fd_28, D_28⟩ := c.t.d.def_ 28 (d := dd__law_take) rfl
  obtain ⟨_, F__law_take, _⟩ := fnAt_of (st := st__law_take) X Gs D_28 (c.t.d.fact 28 (f := .glo "_law_take") rfl)
  have d__law_take := K10.d__law_take T F__law_take 
  obtain ⟨fd_29, D_29⟩ := c.t.d.def_ 29 (d := dd__law_stations) rfl
  obtain ⟨_, F__law_stations, _⟩ := fnAt_of (st := st__law_stations) X Gs D_29 (c.t.d.fact 29 (f := .glo "_law_stations") rfl)
  have d__law_stations := K10.d__law_stations T F__law_stations d__law_take
  obtain ⟨fd_30, D_30⟩ := c.t.d.def_ 30 (d := dd__law_air) rfl
  obtain ⟨_, F__law_air, _⟩ := fnAt_of (st := st__law_air) X Gs D_30 (c.t.d.fact 30 (f := .glo "_law_air") rfl)
  have d__law_air := K10.d__law_air T F__law_air d__law_stations d__law_take
  obtain ⟨fd_31, D_31⟩ := c.t.d.def_ 31 (d := dd__law_tuning) rfl
  obtain ⟨_, F__law_tuning, _⟩ := fnAt_of (st := st__law_tuning) X Gs D_31 (c.t.d.fact 31 (f := .glo "_law_tuning") rfl)
  have d__law_tuning := K10.d__law_tuning T F__law_tuning d__law_take
  obtain ⟨fd_32, D_32⟩ := c.t.d.def_ 32 (d := dd__law_part) rfl
  obtain ⟨_, F__law_part, _⟩ := fnAt_of (st := st__law_part) X Gs D_32 (c.t.d.fact 32 (f := .glo "_law_part") rfl)
  have d__law_part := K10.d__law_part T F__law_part 
  obtain ⟨fd_33, D_33⟩ := c.t.d.def_ 33 (d := dd__law_rows) rfl
  obtain ⟨_, F__law_rows, _⟩ := fnAt_of (st := st__law_rows) X Gs D_33 (c.t.d.fact 33 (f := .glo "_law_rows") rfl)
  have d__law_rows := K10.d__law_rows T F__law_rows d__law_part
  obtain ⟨fd_34, D_34⟩ := c.t.d.def_ 34 (d := dd__law_sum) rfl
  obtain ⟨_, F__law_sum, _⟩ := fnAt_of (st := st__law_sum) X Gs D_34 (c.t.d.fact 34 (f := .glo "_law_sum") rfl)
  have d__law_sum := K10.d__law_sum T F__law_sum 
  obtain ⟨fd_35, D_35⟩ := c.t.d.def_ 35 (d := dd__law_stands) rfl
  obtain ⟨_, F__law_stands, _⟩ := fnAt_of (st := st__law_stands) X Gs D_35 (c.t.d.fact 35 (f := .glo "_law_stands") rfl)
  have d__law_stands := K10.d__law_stands T F__law_stands d__law_part d__law_sum
  obtain ⟨fd_36, D_36⟩ := c.t.d.def_ 36 (d := dd__law_heard) rfl
  obtain ⟨_, F__law_heard, _⟩ := fnAt_of (st := st__law_heard) X Gs D_36 (c.t.d.fact 36 (f := .glo "_law_heard") rfl)
  have d__law_heard := K10.d__law_heard T F__law_heard d__law_rows d__law_stands
  obtain ⟨fd_37, D_37⟩ := c.t.d.def_ 37 (d := dd__law_unheard) rfl
  obtain ⟨_, F__law_unheard, _⟩ := fnAt_of (st := st__law_unheard) X Gs D_37 (c.t.d.fact 37 (f := .glo "_law_unheard") rfl)
  have d__law_unheard := K10.d__law_unheard T F__law_unheard d__law_heard
  obtain ⟨fd_38, D_38⟩ := c.t.d.def_ 38 (d := dd__law_good_tunings) rfl
  obtain ⟨_, F__law_good_tunings, _⟩ := fnAt_of (st := st__law_good_tunings) X Gs D_38 (c.t.d.fact 38 (f := .glo "_law_good_tunings") rfl)
  have d__law_good_tunings := K10.d__law_good_tunings T F__law_good_tunings d__law_take d__law_tuning d__law_unheard
  obtain ⟨fd_39, D_39⟩ := c.t.d.def_ 39 (d := dd_seat) rfl
  obtain ⟨_, F_seat, _⟩ := fnAt_of (st := st_seat) X Gs D_39 (c.t.d.fact 39 (f := .glo "seat") rfl)
  have d_seat := K10.d_seat T F_seat 
  obtain ⟨fd_40, D_40⟩ := c.t.d.def_ 40 (d := dd_is_heard) rfl
  obtain ⟨_, F_is_heard, _⟩ := fnAt_of (st := st_is_heard) X Gs D_40 (c.t.d.fact 40 (f := .glo "is_heard") rfl)
  have d_is_heard := K10.d_is_heard T F_is_heard d_ear d_hears d_seat
  obtain ⟨fd_41, D_41⟩ := c.t.d.def_ 41 (d := dd_unheard) rfl
  obtain ⟨_, F_unheard, _⟩ := fnAt_of (st := st_unheard) X Gs D_41 (c.t.d.fact 41 (f := .glo "unheard") rfl)
  have d_unheard := K10.d_unheard T F_unheard d_is_heard
  obtain ⟨fd_42, D_42⟩ := c.t.d.def_ 42 (d := dd__law_names) rfl
  obtain ⟨_, F__law_names, _⟩ := fnAt_of (st := st__law_names) X Gs D_42 (c.t.d.fact 42 (f := .glo "_law_names") rfl)
  have d__law_names := K10.d__law_names T F__law_names 
  obtain ⟨fd_43, D_43⟩ := c.t.d.def_ 43 (d := dd__law_row_so) rfl
  obtain ⟨_, F__law_row_so, _⟩ := fnAt_of (st := st__law_row_so) X Gs D_43 (c.t.d.fact 43 (f := .glo "_law_row_so") rfl)
  have d__law_row_so := K10.d__law_row_so T F__law_row_so d__law_names d_unheard
  obtain ⟨fd_44, D_44⟩ := c.t.d.def_ 44 (d := dd__law_of) rfl
  obtain ⟨_, F__law_of, _⟩ := fnAt_of (st := st__law_of) X Gs D_44 (c.t.d.fact 44 (f := .glo "_law_of") rfl)
  have d__law_of := K10.d__law_of T F__law_of d__law_take
  obtain ⟨fd_45, D_45⟩ := c.t.d.def_ 45 (d := dd__law_steps) rfl
  obtain ⟨_, F__law_steps, _⟩ := fnAt_of (st := st__law_steps) X Gs D_45 (c.t.d.fact 45 (f := .glo "_law_steps") rfl)
  have d__law_steps := K10.d__law_steps T F__law_steps d__law_names d__law_unheard
  obtain ⟨fd_46, D_46⟩ := c.t.d.def_ 46 (d := dd__law_walk_so) rfl
  obtain ⟨_, F__law_walk_so, _⟩ := fnAt_of (st := st__law_walk_so) X Gs D_46 (c.t.d.fact 46 (f := .glo "_law_walk_so") rfl)
  have d__law_walk_so := K10.d__law_walk_so T F__law_walk_so d__law_of d__law_steps
  obtain ⟨fd_47, D_47⟩ := c.t.d.def_ 47 (d := dd_law) rfl
  exact ⟨T, d__law_air, d__law_bag, d__law_good_tunings, d__law_row_so, d__law_take, d__law_walk_so, d_is_moves_table, d_moves, d_moves_table⟩
end
end K10
set_option Elab.async false
set_option linter.all false
set_option maxRecDepth 100000
set_option maxHeartbeats 0
namespace K10
open PySem PySem.Spec PyProof.Rows L2 GxR LG EL FW
theorem lawFn {G : G0} {fd : FuncData} (D : FunD G.K "law" "law" (defArgs st_law) (defBody st_law) (defScope st_law) [] [] (He.ga G.K "law") fd) (T : T0 G) (d__law_air : Def G 3 "_law_air" 2 (fn__law_air)) (d__law_bag : Def G 1 "_law_bag" 2 (fn__law_bag)) (d__law_good_tunings : Def G 5 "_law_good_tunings" 3 (fn__law_good_tunings)) (d__law_row_so : Def G 5 "_law_row_so" 5 (fn__law_row_so)) (d__law_take : Def G 1 "_law_take" 2 (fn__law_take)) (d__law_walk_so : Def G 6 "_law_walk_so" 5 (fn__law_walk_so)) (d_is_moves_table : Def G 8 "is_moves_table" 4 (fn_is_moves_table)) (d_moves : Def G 8 "moves" 4 (fn_moves)) (d_moves_table : Def G 8 "moves_table" 3 (fn_moves_table)) : FnOk G.P G.w G.K G.mg G.base CX0 9 (He.ga G.K "law") fd ["script"] (spD G 1 fn_law) := by
  have hh := fn_atD (G := G) (W := W0) (k := 8) (name := "law") (st := st_law) (sb := sb_law) D sc_law (fun cdv => b_law (cdv := cdv) T d__law_air d__law_bag d__law_good_tunings d__law_row_so d__law_take d__law_walk_so d_is_moves_table d_moves d_moves_table)
  exact hh
end K10
set_option Elab.async false
set_option linter.all false
set_option maxRecDepth 100000
set_option maxHeartbeats 0
namespace K10
open PySem PySem.Spec PyProof.Rows L2 GxR LG EL FW
theorem lawAt {w : World} {K : PySem.W.Frag} {mg : Str → Option Value} {fa : Addr} {h : Heap} (math : ∀ ns : List Int, ns.length ≤ 63 → (∀ z ∈ ns, Builtin.Int.intBits z ≤ 1048576) → ∃ st', fn_law [.scr ns] [] = some (.bl true, st')) (X : K.In h) (Gs : h.Ns mainGlobals mg) (hmg : mg ("law" : Str) = some (.ref fa))
    (cy : SaysY faL fnL tfL inL exL w h K) : LamX.LawAtS PySem.Challenge.rw_wavehall_k10_whole_no_row_of_moves_is_sh w K CX0 9 63 "script" mg fa h := by
  have c := cy.x
  have hfact := c.t.d.fact 47 (f := .glo "law") rfl
  obtain ⟨fd, D⟩ := c.t.d.def_ 47 (d := dd_law) rfl
  have e := hmg.symm.trans (He.glo_ok X Gs hfact)
  cases e
  have hb := FunD.bindsA (ps := ["script"]) D fun _ _ _ _ _ _ us hl => match us, hl with | [_], _ => rfl
  refine ⟨fd, tfL.map (He.cT K), spLaw K (tfL.map (He.cT K)), fun p hp => ?_, fun p hp => ?_, fun p hp => ?_, fun s v => hb s [v] rfl, fun H a ns h1 h2 h3 h4 => ⟨a, ns, rfl, h4, h1, h2, h3, fun _ => rfl⟩, fun base kb nb tb => ?_⟩
  · obtain ⟨x, hx, rfl⟩ := List.mem_map.mp hp
    exact c.empty x hx
  · obtain ⟨x, hx, rfl⟩ := List.mem_map.mp hp
    exact c.out x hx
  · obtain ⟨x, hx, rfl⟩ := List.mem_map.mp hp
    exact PySem.W.codeHd_of_K X (c.hd x hx)
  · refine law_fn (tg := (tgL.map (He.cT K)).map (fun p : Addr × Addr => p.2)) (tl := []) (fun P hP => by
      obtain ⟨p, hp, rfl⟩ := List.mem_map.mp hP
      obtain ⟨x, hx, rfl⟩ := List.mem_map.mp hp
      exact List.mem_map.mpr ⟨_, List.mem_map.mpr ⟨x, (by revert hx; simp [tgL, tfL]; try (intro hx; simp_all)), rfl⟩, rfl⟩)
      (fun p hp => by simp at hp)
      (fun p hp => by simp at hp) fun a ns h1 h2 => ?_
    obtain ⟨T, d__law_air, d__law_bag, d__law_good_tunings, d__law_row_so, d__law_take, d__law_walk_so, d_is_moves_table, d_moves, d_moves_table⟩ := facts (G := (⟨PySem.Challenge.rw_wavehall_k10_whole_no_row_of_moves_is_sh.prog, w, mg, base, K, (tgL.map (He.cT K)).map (fun p : Addr × Addr => p.2), []⟩ : G0)) (h := h) (w := w) X Gs cy rfl rfl tb
    obtain ⟨st', em⟩ := math ns h1 h2
    exact ⟨_, st', lawFn (G := (⟨PySem.Challenge.rw_wavehall_k10_whole_no_row_of_moves_is_sh.prog, w, mg, base, K, (tgL.map (He.cT K)).map (fun p : Addr × Addr => p.2), []⟩ : G0)) D T d__law_air d__law_bag d__law_good_tunings d__law_row_so d__law_take d__law_walk_so d_is_moves_table d_moves d_moves_table, em⟩
end K10
set_option Elab.async false
set_option linter.all false
set_option maxRecDepth 100000
set_option maxHeartbeats 0
namespace K10
open PySem PySem.Spec PyProof.Rows L2 GxR LG EL FW
theorem walkL (math : ∀ ns : List Int, ns.length ≤ 63 → (∀ z ∈ ns, Builtin.Int.intBits z ≤ 1048576) → ∃ st', fn_law [.scr ns] [] = some (.bl true, st')) : PySem.W.WalkO (PySem.W.view RR.prog [64]) looseL (PySem.W.XL (PySem.W.view RR.prog [64]) []) hkL.says RR.toRowW (HandSHeadRun.topDef RR.prog 64) [] (fun f vs => PySem.call f vs) := by
  refine LamX.walk_ofTsE (l := PySem.Challenge.rw_wavehall_k10_whole_no_row_of_moves_is_sh) (n := 63) (k := 9) (x := "script") (CX := fun _ => CX0) rfl (by decide) (by kernel_rfl) ⟨rfl, by decide, by decide⟩ ?F (fun _ _ _ _ _ z => z)
  intro w mg fa h Y G hmg0
  obtain ⟨K, KX, c⟩ := Y
  have hmg : mg ("law" : PySem.Str) = some (.ref fa) := by
    have e : (HandSHeadRun.topDef RR.prog 64).name = ("law" : PySem.Str) := by kernel_rfl
    rw [← e]
    exact hmg0
  exact ⟨K, KX, lawAt math KX G hmg c⟩
theorem holds (math : ∀ ns : List Int, ns.length ≤ 63 → (∀ z ∈ ns, Builtin.Int.intBits z ≤ 1048576) → ∃ st', fn_law [.scr ns] [] = some (.bl true, st')) : PySem.Challenge.rw_wavehall_k10_whole_no_row_of_moves_is_sh.Holds := by
  w_on; o_law
  refine HandSHeadRun.head_any (r := RR) (q := PySem.W.view RR.prog [64]) (H := hkL) (ob := obL) (M := 20000) (loose := looseL) (d := HandSHeadRun.topDef RR.prog 64) (kwd := []) ob_eq
    (by kernel_rfl) (fun s => by kernel_rfl) runL (by kernel_rfl) (by kernel_rfl) (by kernel_rfl) (by rfl) (by first | assumption | decide +kernel) (by decide +kernel) ⟨rfl, rfl, rfl, rfl, rfl, by decide +kernel⟩ ?hw (walkL math)
  case hw => w_witness2
end K10
theorem PySem.Challenge.cw_wavehall_k10_whole_no_row_of_moves_is_sh_holds : PySem.Challenge.rw_wavehall_k10_whole_no_row_of_moves_is_sh.Holds := by
  exact K10.holds fun ns hz _ => K10.math hz
