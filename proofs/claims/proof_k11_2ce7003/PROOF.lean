import PyProof.Rows.All
import Wide.All
import OpenK.AllK
import Wide.FinOn
import PySem.Challenge.RW_wavehall_k11_whole_silence_harms_nobody
import HandS.ForMost
import HandS.AnyAll
import HandS.GenList
import HandS.Nested
import PyProof.TupleOfGen
import PyProof.CollectWalk
import HandS.Exc
import HandS.TupAny
import HandS.Wide
import HandS.IsInst
import HandS.Zip
import HandS.Style
import HandS.Flow
import PyProof.Rows.IntBool
import HandS.Deep
import KE.KRevSl
import HandS.TupSets
import KE.SortData
import PyProof.ZipIter
import HandS.Zip0
import HandS.TupMul
import HandS.Star
import HandS.Head0
import HandS.Head1
import HandS.Head2
import HandS.HeadEnd
import HandS.HeadHook1
import HandS.HeadHook2
import HandS.HeadHook3
import HandS.HeadHook4
import HandS.HeadWalk
import HandS.EndTab
set_option Elab.async false
set_option linter.all false
set_option maxRecDepth 100000
set_option maxHeartbeats 2000000
/-! a generator expression whose element may do anything, drawn by all(..) -/
namespace LG
open PySem PySem.Spec PyProof.Rows L2 GenW GxR

/-- a truth is handed out -/
def YT (a : Addr) (g : Nat) (Post : Bool → Shared → Prop) : Protocol := fun n s₀ v s1 kap =>
  ∃ b, v = .bool b ∧ AllBare s1.gens ∧ s1.heap.NoLimit ∧ s1.heap.IsGen a g ∧
    (b = true → ∀ s' : Shared, s'.heap = s1.heap → s'.os = s1.os → AllBare s'.gens → kap (.send .none) s') ∧
    (b = false → ∀ s' : Shared, s'.heap = s1.heap → s'.os = s1.os → AllBare s'.gens → Post false s')
def RT (Post : Bool → Shared → Prop) (s1 : Shared) : Prop :=
  AllBare s1.gens ∧ ∀ s' : Shared, (∀ b o, s1.heap.get? b = some o → s'.heap.get? b = some o) → s'.os = s1.os → AllBare s'.gens → Post true s'

theorem all_loud {P : Program} {w : World} {A : Around} {R : Result → Shared → Prop} {a : Addr} {g : Nat} {Post : Bool → Shared → Prop} (hh : A.handled = none) (hd : A.depth < recursionLimit)
    (hend : ∀ b s', Post b s' → R (.ok (.ret (.bool b))) s') :
    ∀ (m : Nat) (s : Shared), s.heap.IsGen a g → s.heap.NoLimit →
      (∃ gs, s.gens[g]? = some gs ∧ gs.Goes (model P w) A.in1.in1 (fun n s₀ r s₁ => r = .ok .next ∧ RT Post s₁) (YT a g Post) m (.send .none) (s.setGen g .running)) →
      codeAny (model P w) A (.builtin "all.loop" ⟨[.ref a], []⟩) R s := by
  intro m
  induction m with
  | zero =>
    intro s hg hl ⟨gs, hgs, hgo⟩
    refine codeAny_builtin F.entry_all_loop ?_
    rw [Around.under_plainId F.plain_all_loop _]
    show wpAny _ A.in1 (pyNext (.ref a) >>= _) _ _ s
    refine wpAny_bind (wpAny_pyNext_genexpQ (A := A.in1) (P := fun _ _ s₁ => RT Post s₁) hh hl hd hg hgs hgo (fun v s₁ gs' hb hv => ?_) (fun s₁ hp h' hk => ?_))
    · obtain ⟨b, rfl, hb1, hl1, hg1, ht, hf⟩ := hv
      refine wpAny_bind (wpAny_holding (wpAny_truthy_bool ?_))
      refine wpAny_bind (wpAny_letGo ?_)
      cases b with
      | true => exact (ht rfl s₁ rfl rfl hb1).elim
      | false =>
        simp only [Bool.false_eq_true, if_false]
        refine wpAny_bind (wpAny_rule (wpAny_pure ?_))
        exact hend _ _ (hf rfl _ rfl rfl (allBare_setGen hb1 hb))
    · refine wpAny_bind (wpAny_rule (wpAny_pure ?_))
      exact hend _ _ (hp.2 _ hk rfl (allBare_setGen (s := s₁) hp.1 rfl))
  | succ m ih =>
    intro s hg hl ⟨gs, hgs, hgo⟩
    have hgl : g < s.gens.size := (Array.getElem?_eq_some_iff.mp hgs).1
    refine codeAny_builtin F.entry_all_loop ?_
    rw [Around.under_plainId F.plain_all_loop _]
    show wpAny _ A.in1 (pyNext (.ref a) >>= _) _ _ s
    refine wpAny_bind (wpAny_gsz (n := g + 1) hgl (wpAny_pyNext_genexpQ (A := A.in1) (P := fun _ _ s₁ => RT Post s₁) hh hl hd hg hgs hgo (fun v s₁ gs' hb hv => ?_) (fun s₁ hp h' hk => ?_)))
    · intro hsz
      obtain ⟨b, rfl, hb1, hl1, hg1, ht, hf⟩ := hv
      have hsz1 : g < s₁.gens.size := by
        have q : (s₁.setGen g gs').gens.size = s₁.gens.size := setGen_size _ _ _
        have hsz' : g + 1 ≤ (s₁.setGen g gs').gens.size := hsz
        omega
      refine wpAny_bind (wpAny_holding (wpAny_truthy_bool ?_))
      refine wpAny_bind (wpAny_letGo ?_)
      cases b with
      | true =>
        simp only [if_true]
        refine wpAny_pure ⟨plainId_quiet F.plain_all_loop _, ih _ hg1 hl1 ⟨gs', setGen_at hsz1, ?_⟩⟩
        exact ht rfl _ rfl rfl (allBare_setGen (s := s₁.setGen g gs') (allBare_setGen hb1 hb) rfl)
      | false =>
        simp only [Bool.false_eq_true, if_false]
        refine wpAny_bind (wpAny_rule (wpAny_pure ?_))
        exact hend _ _ (hf rfl _ rfl rfl (allBare_setGen hb1 hb))
    · intro _
      refine wpAny_bind (wpAny_rule (wpAny_pure ?_))
      exact hend _ _ (hp.2 _ hk rfl (allBare_setGen (s := s₁) hp.1 rfl))

/-- the around of a generator expression's own frame -/
theorem over_gen {A : Around} {elt : Expr} {gs : List Comprehension} {sc : Scope} {pos : Pos} {it acc : Value} {env : Env} : A.over (.compLoop (.GeneratorExp elt gs sc pos) 0 it acc env) [] = A.deeper env := by
  obtain ⟨hd, d, fr, gu, u⟩ := A
  simp [Around.over, Around.deeper, marksOver, frameCount, unitsOf, envsOf, guardsOf, pushEnvs, pushGuards, Code.envs, Code.env?, Code.isFrame, Code.guards, Code.isGuard, Code.weight, Code.frames, Code.isCreation, Code.isCaller, Code.cUnits]
theorem over_gen0 {A : Around} {elt : Expr} {gs : List Comprehension} {sc : Scope} {pos : Pos} {it acc : Value} {env : Env} : A.over (.compStart (.GeneratorExp elt gs sc pos) 0 it acc env) [] = A.deeper env := by
  obtain ⟨hd, d, fr, gu, u⟩ := A
  simp [Around.over, Around.deeper, marksOver, frameCount, unitsOf, envsOf, guardsOf, pushEnvs, pushGuards, Code.envs, Code.env?, Code.isFrame, Code.guards, Code.isGuard, Code.weight, Code.frames, Code.isCreation, Code.isCaller, Code.cUnits]
end LG

set_option Elab.async false
set_option linter.all false
set_option maxRecDepth 100000
set_option maxHeartbeats 2000000
namespace LG
open PySem PySem.Spec PyProof.Rows L2 GenW GxR

/-- the turns of a generator expression drawn by all(..) -/
def Turns (J : It) (g : TG) (te : TE) (Fin : Bool → Hp → Prop) (W : Nat → Nat → L2.St → Hp → Prop) : Prop :=
  ∀ i m σ H, W i m σ H → (J.stop i H ∧ Fin true H) ∨
    (J.go i H ∧ ∀ x H', J.yld i H x H' → g x σ H' fun σ2 H2 => te σ2 H2 fun y H3 => ∃ b, y = .bl b ∧ if b = true then ∃ m', m' < m ∧ W (i + 1) m' σ2 H3 else Fin false H3)

section
variable {X : Cx} {Aw : Around} {elt iter tg : Expr} {scope : Scope} {gpos : Pos} {J : It} {fp : List Addr} {it a : Addr} {gn : Nat} {go : Obj} {tn : Nat → Heap → Prop} {g : TG} {te : TE} {Fin : Bool → Hp → Prop} {W : Nat → Nat → L2.St → Hp → Prop} {Post : Bool → Shared → Prop}
theorem seg_loop (hA : X.A = Aw.deeper X.env) (hxe : X.xe = fun _ _ => False) (hc : X.calm = true) (hco : X.env.scope.isCoroutine = false) (hpn : (a, go) ∈ X.pn) (hgo : ∀ h : Heap, h.get? a = some go → h.IsGen a gn)
    (T : Turn X.prog X.w X.K tg J fp it tn) (hg : PG X tg g) (he : PE X elt te) (hW : Turns J g te Fin W)
    (hPost : ∀ b σ H s s', Inv X [] σ H s → Fin b H → (∀ c o, s.heap.get? c = some o → s'.heap.get? c = some o) → s'.os = s.os → AllBare s'.gens → Post b s') :
    ∀ (n i m : Nat) (s₀ s : Shared) (σ : L2.St) (H : Hp), m < n → Inv X [] σ H s → tn i s.heap → (∀ b ∈ fp, FpOk X [] H b) → W i m σ H →
      Seg (model X.prog X.w) Aw (fun n s₀ r s₁ => r = .ok .next ∧ RT Post s₁) (YT a gn Post) n s₀ (.compLoop (.GeneratorExp elt [⟨tg, iter, [], 0⟩] scope gpos) 0 (.ref it) .none X.env)
        ((model X.prog X.w).den (.compLoop (.GeneratorExp elt [⟨tg, iter, [], 0⟩] scope gpos) 0 (.ref it) .none X.env)) [] s := by
  intro n
  induction n with
  | zero => intro i m s₀ s σ H hm; omega
  | succ n ih =>
    intro i m s₀ s σ H hm I ht hf w
    have hov : Aw.over (.compLoop (.GeneratorExp elt [⟨tg, iter, [], 0⟩] scope gpos) 0 (.ref it) .none X.env) [] = X.A := over_gen.trans hA.symm
    show Seg _ Aw _ _ _ s₀ _ ((compTurn (.GeneratorExp elt [⟨tg, iter, [], 0⟩] scope gpos) 0 (.ref it) .none X.env).onRaise (leaving X.env)) [] s
    rw [compTurn_gen, Sem.onRaise_eq_wrap]
    refine seg_bind_wrap (wpAny_standAt ?_)
    rcases hW i m σ H w with ⟨stop, fin⟩ | ⟨goes, step⟩
    · refine seg_bind_wrap ?_
      rw [hov]
      refine thn (T.done X rfl rfl rfl hc i [] s σ H _ I hf ht stop) fun r s1 ⟨hr, I1⟩ => ?_
      subst hr
      exact seg_end (.ok .next) ⟨rfl, I1.bare, fun s' hk ho hb => hPost true σ H s1 s' I1 fin hk ho hb⟩
    · refine seg_bind_wrap ?_
      rw [hov]
      refine thn (T.item X rfl rfl rfl hc i [] s σ H _ I hf ht goes) fun r s1 ⟨u, hr, h1⟩ => ?_
      subst hr
      refine seg_bind_wrap ?_
      rw [hov]
      refine thn h1 fun _ s2 ⟨x, H2, I2, rx, y2, ht2, fr2⟩ => ?_
      have hf2 : ∀ b ∈ fp, FpOk X [] H2 b := fun b hb => ⟨fr2 b hb, (hf b hb).2⟩
      have I2' := I2.pinned hf2 (T.obj _ _ ht2)
      refine seg_bind_wrap ?_
      rw [hov]
      refine wpAny_mono (hg.run _ s2 σ H2 x u _ I2' rx (step x H2 y2)) (fun _ s3 ⟨σ3, H3, I3, q3⟩ => ?_) fun e s' hx => by rw [hxe] at hx; exact hx.elim
      refine seg_bind_wrap ?_
      simp only [List.forIn_nil]
      refine wpAny_pure ?_
      have hy : ∀ v, yieldOut X.env v = yieldValue v := fun v => by simp only [yieldOut, hco, Bool.false_eq_true, if_false]
      simp only [if_true, hy]
      rw [Sem.bind_eq_wrap', Sem.bind_eq_wrap', Sem.wrap_wrap, Sem.wrap_wrap]
      refine seg_wrap ?_
      rw [hov]
      refine wpAny_mono (he.run _ s3 σ3 H3 _ I3 q3) (fun y s4 ⟨yv, H4, I4, r4, b, eb, q4⟩ => ?_) fun e s' hx => by rw [hxe] at hx; exact hx.elim
      subst eb
      obtain rfl : y = Value.bool b := r4
      have pin : ∀ c ∈ fp, ∀ o, s2.heap.get? c = some o → s4.heap.get? c = some o ∧ H4 c = none := fun c hcc o e =>
        let z := I4.pin (c, o) (List.mem_append_right _ (List.mem_append_right _ (mem_pinsAt hcc e)))
        ⟨z.1, z.2.1⟩
      have I5 : Inv X [] σ3 H4 s4 := I4.unpinned
      refine seg_at (seg_yield rfl rfl rfl ⟨b, rfl, I5.bare, I5.nolimit, hgo _ (I5.pin (a, go) (List.mem_append_left _ hpn)).1, fun hb s' h1 h2 h3 => ?_, fun hb s' h1 h2 h3 => ?_⟩)
      · subst hb
        rw [if_pos rfl] at q4
        obtain ⟨m', hm', w'⟩ := q4
        have I6 : Inv X [] σ3 H4 s' := I5.call' (ch := []) h2 (by rw [h1]; exact Un.refl) (by rw [h1]; exact I5.hok) h3 fun b z => by simp at z
        refine seg_again rfl (ih (i + 1) m' s' s' σ3 H4 (by omega) I6 (by rw [h1]; exact T.keep _ _ _ ht2 fun c hcc o e => (pin c hcc o e).1) (fun c hcc => ?_) w')
        obtain ⟨o, e, _⟩ := T.obj _ _ ht2 c hcc
        exact ⟨(pin c hcc o e).2, (hf c hcc).2⟩
      · subst hb
        rw [if_neg Bool.false_ne_true] at q4
        exact hPost false σ3 H4 s4 s' I5 q4 (fun c o e => by rw [h1]; exact e) h2 h3

theorem seg_start (hA : X.A = Aw.deeper X.env) (hxe : X.xe = fun _ _ => False) (hc : X.calm = true) (hco : X.env.scope.isCoroutine = false) (hpn : (a, go) ∈ X.pn) (hgo : ∀ h : Heap, h.get? a = some go → h.IsGen a gn)
    (T : Turn X.prog X.w X.K tg J fp it tn) (hg : PG X tg g) (he : PE X elt te) (hW : Turns J g te Fin W)
    (hPost : ∀ b σ H s s', Inv X [] σ H s → Fin b H → (∀ c o, s.heap.get? c = some o → s'.heap.get? c = some o) → s'.os = s.os → AllBare s'.gens → Post b s')
    (m : Nat) (s₀ s : Shared) (σ : L2.St) (H : Hp) (I : Inv X [] σ H s) (ht : tn 0 s.heap) (hf : ∀ b ∈ fp, FpOk X [] H b) (w : W 0 m σ H) :
    Seg (model X.prog X.w) Aw (fun n s₀ r s₁ => r = .ok .next ∧ RT Post s₁) (YT a gn Post) (m + 1) s₀ (.compStart (.GeneratorExp elt [⟨tg, iter, [], 0⟩] scope gpos) 0 (.ref it) .none X.env)
        ((model X.prog X.w).den (.compStart (.GeneratorExp elt [⟨tg, iter, [], 0⟩] scope gpos) 0 (.ref it) .none X.env)) [] s := by
  have hov : Aw.over (.compStart (.GeneratorExp elt [⟨tg, iter, [], 0⟩] scope gpos) 0 (.ref it) .none X.env) [] = X.A := over_gen0.trans hA.symm
  have loop := seg_loop (iter := iter) (scope := scope) (gpos := gpos) (gn := gn) hA hxe hc hco hpn hgo T hg he hW hPost (m + 1) 0 m s₀ s σ H (Nat.lt_succ_self m) I ht hf w
  show Seg _ Aw _ _ _ s₀ _ ((compStart (.GeneratorExp elt [⟨tg, iter, [], 0⟩] scope gpos) 0 (.ref it) .none X.env).onRaise (leaving X.env)) [] s
  unfold compStart
  rw [Sem.onRaise_eq_wrap]
  show Seg _ Aw _ _ _ s₀ _ ((ask >>= _).wrap _ _ _ _) [] s
  refine seg_bind_wrap (wpAny_askSetting ?_)
  split
  · exact seg_again rfl loop
  · first
      | exact seg_bind_wrap (wpAny_rule (seg_bind_wrap (wpAny_standAt (seg_bind_wrap (T.self _ 0 s _ _ ht (seg_again rfl loop))))))
      | (refine seg_bind_wrap (wpAny_rule ?_); show Seg _ Aw _ _ _ s₀ _ ((standAt iter.pos >>= _).wrap _ _ _ _) [] s; exact seg_bind_wrap (wpAny_standAt (seg_bind_wrap (T.self _ 0 s _ _ ht (seg_again rfl loop)))))
end
end LG

set_option Elab.async false
set_option linter.all false
set_option maxRecDepth 100000
set_option maxHeartbeats 2000000
namespace LG
open PySem PySem.Spec PyProof.Rows L2 GenW GxR NdefX

/-- the generator expression's scope: captured names that the def has -/
structure GSc (env : Env) (scope : Scope) : Prop where
  kind : scope.kind = .function
  co : scope.isCoroutine = false
  cell : ∀ y ∈ scope.names, y.2 ≠ .cell
  dot : scope.names.lookup (".0" : Str) = some NameKind.local
  free : ∀ y ∈ scope.names, y.2 = .free → ∃ c, env.cells.lookup y.1 = some c

/-- the context of the generator expression's frame -/
def gx (X : Cx) (s4 : Shared) (H3 : Hp) (N : List Str) (cenv : Env) (Aw : Around) (fp : List Addr) (pn : List (Addr × Obj)) : Cx where
  prog := X.prog
  w := X.w
  K := X.K
  mg := X.mg
  base := X.base
  A := Aw.deeper cenv
  N := N
  s_0 := s4
  H_0 := H3
  env := cenv
  outer := X.stack
  stack := cenv :: X.stack
  ex := fp
  fn := fun _ => false
  calm := true
  pn := pn
  xe := fun _ _ => False

/-- what an element's rule may lean on -/
structure Inner (X : Cx) (scope : Scope) (N : List Str) (k : Nat) (X' : Cx) : Prop where
  prog : X'.prog = X.prog
  w : X'.w = X.w
  K : X'.K = X.K
  mg : X'.mg = X.mg
  base : X'.base = X.base
  N : X'.N = N
  scope : X'.env.scope = scope
  calm : X'.calm = true
  xe : X'.xe = fun _ _ => False
  room : Room k X'.A

/-- how the captured names' slots lie -/
def Caps (X : Cx) (scope : Scope) (N : List Str) (σ σ' : L2.St) : Prop :=
  σ'.length = N.length ∧ ∀ (i : Nat) (x : Str) (v : V), N[i]? = some x → σ'[i]? = some (some v) → scope.names.lookup x = some .free ∧ ∃ j : Nat, X.N[j]? = some x ∧ σ[j]? = some (some v) ∧ (X.env.kindOf x = some .cell ∨ X.env.kindOf x = some .free)

def tAllG (X : Cx) (P : Addr) (scope : Scope) (N : List Str) (wi : TI) (g : TG) (te : TE) : TE := fun σ H Q => wi σ H fun J H1 => TabG H1 P ∧ ∃ σ', Caps X scope N σ σ' ∧
  ∀ H2, Tabbed P H1 H2 → ∃ W : Nat → Nat → L2.St → Hp → Prop, (∃ m, W 0 m σ' H2) ∧ Turns J g te (fun b H' => Q (.bl b) H') W

section
variable {X : Cx}
theorem pe_allG {c P : Addr} {elt iter tg : Expr} {p pos gpos : Pos} {scope : Scope} {wi : TI} {g : TG} {te : TE} {k : Nat} {N : List Str}
    (hr : Room (k + 1) X.A) (hg0 : Gl X "all") (hm : X.mg "all" = none) (hcalm : X.calm = true) (TB : TabB X.base X.mg c P) (hcode : X.env.code = .ref c) (S : GSc X.env scope) (hi : PI X tg iter wi)
    (hgt : ∀ X', Inner X scope N k X' → PG X' tg g) (hel : ∀ X', Inner X scope N k X' → PE X' elt te)
    (hs : ∀ v, genFold iter X.env v = pure v)
    (he : starEach [.GeneratorExp elt [⟨tg, iter, [], 0⟩] scope gpos] X.env = (false, eval (.GeneratorExp elt [⟨tg, iter, [], 0⟩] scope gpos) X.env) :: starEach [] X.env := by rfl) :
    PE X (.Call (.Name "all" p) [.GeneratorExp elt [⟨tg, iter, [], 0⟩] scope gpos] [] pos) (tAllG X P scope N wi g te) := by
  refine ⟨fun pins s σ H Q I h => ?_⟩
  refine wpAny_Call_Name_kw (ld_blt I hg0 hm (show bootBuiltins "all" = some (.builtin "all") by decide +kernel) ?_)
  refine PyProof.Rows.callWith_builtin1 ?_ he (by rfl)
  rw [he]
  show wpAny _ _ (spliced ((false, eval (.GeneratorExp elt [⟨tg, iter, [], 0⟩] scope gpos) X.env) :: backTo pos (starEach [] X.env))) _ _ s
  refine Calls.spliced_cons ?_
  refine wpAny_GeneratorExp_make S.co (closure_ok S.free) S.cell S.dot S.kind (by have := hr.dp; omega) ?_ hs
  refine thn (hi.run pins s σ H _ I h) fun xv s1 h1 => thn h1 fun itv s2 h2 => ?_
  obtain ⟨it, fp, tn, J, H2, rfl, I2, T, ht2, hf2, hR⟩ := h2
  obtain ⟨⟨ps, hP, htr⟩, σ', hcap, hR⟩ := hR
  have lim2 : s2.heap.NoLimit := I2.nolimit
  have hPs : s2.heap.get? P = some { cls := .none, data := .fields ps } := I2.hok P _ hP
  have cd : PySem.W.CodeHd s2.heap c P := TB.code.keeps fun b u e => I2.bk b u e
  refine ⟨lim2, ?_⟩
  have cont : ∀ (code : Value) (h3 : Heap) (tk : Nat) (ps' : Array Value), Heap.ExtBut P s2.heap h3 → s2.heap.objs.size ≤ h3.objs.size → h3.get? P = some { cls := .none, data := .fields ps' } → (∃ more, ps' = ps ++ more) → TriplesOk ps'.toList →
      wpAny (model X.prog X.w) X.A (builtinsFor X.env.globals X.env.builtins) (fun bi s₄ =>
        ∀ h', h'.Ns s₄.heap.objs.size (fun y => if y = ".0" then some (Value.ref it) else none) → Heap.SameBut s₄.heap.objs.size (s₄.heap.push { cls := .type "frame", data := .dict #[] }) h' →
          (fun a s' => wpAny (model X.prog X.w) X.A (spliced (backTo pos (starEach [] X.env))) (fun x s'' => wpAny (model X.prog X.w) X.A (call (.builtin "all") (a :: x)) (EP X pins σ Q) X.xe s'') X.xe s') (Value.ref h'.objs.size) { s₄ with
            gens := s₄.gens.push (.fresh (.compStart (.GeneratorExp elt [⟨tg, iter, [], 0⟩] scope gpos) 0 (.ref it) .none (genEnv scope (cloFrom X.env.cells scope.names []) s₄.heap.objs.size code bi X.env))),
            toks := s₄.toks + 1 + 1 + 1,
            heap := h'.push { cls := .type "generator", data := .fields #[.int s₄.gens.size 0, .str "<genexpr>" (s₄.toks + 1), .str (X.env.qual ++ "<genexpr>") (s₄.toks + 1 + 1)] } }) X.xe { s2 with heap := h3, toks := tk } := by
    intro code h3 tk ps' hx hsz hP3 hmore ht3
    obtain ⟨bm, ob, e1, e2, e3, e4, e5, e6, e7, e8⟩ := TB.bm
    have keep3 : ∀ b u, b ≠ P → s2.heap.get? b = some u → h3.get? b = some u := fun b u hb e => hx b u hb e
    refine wpAny_builtinsFor (m := X.mg) (by rw [I2.ok.glob]; exact (I2.mod.glob.keeps I2.bk).extBut hx TB.gP) e1 e2 (keep3 _ _ e4 (I2.bk _ _ e5)) e6 e7 e8 ?_
    obtain ⟨more, em⟩ := hmore
    have I4 : Inv X pins σ (upd H2 P (.tbl (ps ++ more))) { s2 with heap := h3, toks := tk } :=
      inv_tab (more := more) (h' := h3) (g' := s2.gens) (d' := s2.drawn) (t' := tk) I2 hP keep3 (by rw [← em]; exact hP3) I2.bare
    have hTab : Tabbed P H2 (upd H2 P (.tbl (ps ++ more))) := ⟨⟨ps ++ more, upd_same, by rw [← em]; exact ht3⟩, fun b hb => upd_ne hb⟩
    obtain ⟨W, ⟨m, w0⟩, hW⟩ := hR _ hTab
    generalize hH3 : upd H2 P (.tbl (ps ++ more)) = H3 at I4 hTab w0
    generalize hs4 : ({ s2 with heap := h3, toks := tk } : Shared) = s4 at I4
    have nP : ∀ b ∈ fp, b ≠ P := fun b hb z => by
      have q := (hf2 b hb).1
      rw [z, hP] at q
      cases q
    have hf4 : ∀ b ∈ fp, FpOk X pins H3 b := fun b hb => ⟨by rw [hTab.2 b (nP b hb)]; exact (hf2 b hb).1, (hf2 b hb).2⟩
    have ht4 : tn 0 s4.heap := T.keep _ _ _ ht2 fun b hb o e => by rw [← hs4]; exact keep3 b o (nP b hb) e
    have lim4 : s4.heap.NoLimit := I4.nolimit
    intro h' hn' hs'
    have hszN : h'.objs.size = s4.heap.objs.size + 1 := by rw [hs'.1, Heap.size_push]
    have keep' : ∀ b o, s4.heap.get? b = some o → h'.get? b = some o := fun b o e => hs'.extBut b o (Nat.ne_of_lt (Heap.lt_size e)) (Heap.get?_push_of_some _ e)
    generalize hgo : ({ cls := .type "generator", data := .fields #[.int s4.gens.size 0, .str "<genexpr>" (s4.toks + 1), .str (X.env.qual ++ "<genexpr>") (s4.toks + 1 + 1)] } : Obj) = go
    have hgen : ∀ h : Heap, h.get? h'.objs.size = some go → h.IsGen h'.objs.size s4.gens.size := fun h e => ⟨go, _, _, e, by rw [← hgo], by rw [← hgo], by rw [← hgo]⟩
    have hfreed : go.data ≠ .freed := by rw [← hgo]; intro z; cases z
    have hpush : (h'.push go).get? h'.objs.size = some go := Heap.get?_push_size _ (by rw [← hgo]; rfl)
    have keep5 : ∀ b o, s4.heap.get? b = some o → (h'.push go).get? b = some o := fun b o e => Heap.get?_push_of_some _ (keep' b o e)
    generalize hcenv : genEnv scope (cloFrom X.env.cells scope.names []) s4.heap.objs.size code builtinsNs X.env = cenv
    have eLoc : cenv.locals = s4.heap.objs.size := by rw [← hcenv]; rfl
    have eScope : cenv.scope = scope := by rw [← hcenv]; rfl
    have eCells : cenv.cells = cloFrom X.env.cells scope.names [] := by rw [← hcenv]; rfl
    have eFrame : cenv.frame = some cenv.locals := by rw [← hcenv]; rfl
    have eGlob : cenv.globals = X.env.globals := by rw [← hcenv]; rfl
    have eBlt : cenv.builtins = builtinsNs := by rw [← hcenv]; rfl
    have cm : ∀ {y : Str} {c : Addr}, cenv.cells.lookup y = some c → X.env.cells.lookup y = some c := fun {y c} e => clo_cm S.free (by rw [← eCells]; exact e)
    -- the generator's own context, whatever wakes it
    have wake : ∀ (Aw : Around), Room k (Aw.deeper cenv) → Aw.frames = some X.stack → ∀ (s6 : Shared), (∀ b o, (h'.push go).get? b = some o → s6.heap.get? b = some o) → s6.os = s4.os → AllBare s6.gens →
        Inv (gx X s4 H3 N cenv Aw fp [(h'.objs.size, go)]) [] σ' H3 s6 := by
      intro Aw hrw hfr s6 hk6 ho6 hb6
      have keep6 : ∀ b o, s4.heap.get? b = some o → s6.heap.get? b = some o := fun b o e => hk6 b o (keep5 b o e)
      have fpl : ∀ b ∈ fp, b < s4.heap.objs.size := fun b hb => by
        obtain ⟨o, e, _⟩ := T.obj _ _ ht4 b hb
        exact Heap.lt_size e
      refine ⟨⟨I4.ok.mod, by show cenv.scope.kind = _; rw [eScope]; exact S.kind, by show cenv.globals = _; rw [eGlob]; exact I4.ok.glob, eBlt, by show s4.heap.objs.size ≤ cenv.locals; rw [eLoc]; exact Nat.le_refl _,
        fun y z c h1 h2 => I4.ok.inj y z c (cm h1) (cm h2), fun y hy => ?_, fun y c hf _ => absurd (show false = true from hf) (by decide), fun _ => hrw.hd, ?_, .inr ⟨rfl, eFrame⟩, fun b hb => ⟨?_, fun y c e => (hf4 b hb).2.2.2.2.1 y c (cm e)⟩, I4.bs, Nat.le_trans I4.ok.bsz I4.sz,
        fun b o e hb => ?_, fun b hb hm => ?_, I4.stack, I4.stkFree⟩, ho6, hb6, Un.kept keep6, ?_, fun y c e => ?_, ?_, fun y c e => I4.freeC y c (cm e), fun q hq => ?_, I4.hok.kept keep6, hcap.1⟩
      · have hy' : scope.names.lookup y = some .cell ∨ scope.names.lookup y = some .free := by
          have z : cenv.scope.names.lookup y = some .cell ∨ cenv.scope.names.lookup y = some .free := hy
          rw [eScope] at z
          exact z
        rcases hy' with z | z
        · exact absurd rfl (S.cell _ (PySem.mem_of_lookup z))
        · obtain ⟨c0, e0⟩ := S.free _ (PySem.mem_of_lookup z) rfl
          exact ⟨c0, by show cenv.cells.lookup y = _; rw [eCells]; exact clo_has S.free (PySem.mem_of_lookup z) e0⟩
      · show (Aw.deeper cenv).frames = some (cenv :: X.stack)
        exact Around.frames_deeper hfr
      · show b ≠ cenv.locals
        rw [eLoc]; exact Nat.ne_of_lt (fpl b hb)
      · rcases (hf4 b hb).2.2.2.1 with z | z
        · exact I4.ok.noex b o e z
        · exact absurd (Nat.lt_of_lt_of_le (Heap.lt_size e) (Nat.le_trans I4.ok.bsz z)) (Nat.lt_irrefl _)
      · rcases List.mem_cons.mp (I4.stkSub b hm) with z | z
        · exact (hf4 b hb).2.1 z
        · exact (hf4 b hb).2.2.1 z
      · refine ⟨_, by show s6.heap.Ns cenv.locals _; rw [eLoc]; exact (hn'.push go).keeps hk6, fun i x v e1 e2 e3 => ?_⟩
        obtain ⟨f1, j, f2, f3, f4⟩ := hcap.2 i x v e1 e2
        obtain ⟨mo, hno, hlo⟩ := I4.loc
        have hvis : Vis X.env.scope x := by
          rcases f4 with z | z
          · exact .inr (.inl z)
          · exact .inr (.inr z)
        obtain ⟨u, ru, l⟩ := hlo j x v f2 f3 hvis
        refine ⟨u, ru, .inr ⟨.inr (by show cenv.scope.names.lookup x = _; rw [eScope]; exact f1), ?_⟩⟩
        rcases l with ⟨l1, _⟩ | ⟨_, c0, l2, l3⟩
        · rcases f4 with z | z
          · rw [z] at l1; cases l1
          · rw [z] at l1; cases l1
        · obtain ⟨oc, hoc, hd⟩ := l3
          exact ⟨c0, by show cenv.cells.lookup x = _; rw [eCells]; exact clo_has S.free (PySem.mem_of_lookup f1) l2, oc, keep6 _ _ hoc, hd⟩
      · obtain ⟨v, o, ho, hd⟩ := I4.cell y c (cm e)
        exact ⟨v, o, keep6 _ _ ho, hd⟩
      · show H3 cenv.locals = none
        rw [eLoc]; exact I4.hok.fresh (Nat.le_refl _)
      · have hq' : q = (h'.objs.size, go) := by
          have z : q ∈ [(h'.objs.size, go)] ++ [] := hq
          simpa using z
        subst hq'
        have ga : s4.heap.objs.size ≤ h'.objs.size := by omega
        refine ⟨hk6 _ _ hpush, I4.hok.fresh ga, by show h'.objs.size ≠ cenv.locals; rw [eLoc]; omega, fun hm => ?_, fun v z => ?_⟩
        · rcases List.mem_cons.mp (I4.stkSub _ hm) with z | z
          · exact absurd (Nat.lt_of_lt_of_le I4.lt ga) (by rw [← z]; exact Nat.lt_irrefl _)
          · exact I4.nofs ga z
        · rw [← hgo] at z; cases z
    refine Calls.spliced_nil ?_
    -- all(..) draws
    refine call_function_tree F.kind_all F.plain_all F.entry_all (F.args_all1 _) ?_
    unfold Builtin.«all»
    refine wpAny_bind (m := oneArg "all" _) (wpAny_pure ?_)
    refine wpAny_bind (wpAny_pyIter_gen (s := { s4 with heap := h'.push go, gens := _, toks := _ }) (hgen _ hpush) ?_)
    refine wpAny_pure ⟨plainId_quiet F.plain_all_loop _, ?_⟩
    have hrw : Room k ((X.A.in1.in1).deeper cenv) := ⟨hr.hd, by have := hr.dp; show X.A.depth + 1 + 3 * k + 5 < _; omega, by have := hr.un; show X.A.units + 1 + 1 + 3 + 16 * k + 200 < _; omega⟩
    have hInner : Inner X scope N k (gx X s4 H3 N cenv (X.A.in1.in1) fp [(h'.objs.size, go)]) := ⟨rfl, rfl, rfl, rfl, rfl, rfl, eScope, rfl, rfl, hrw⟩
    refine all_loud (P := X.prog) (w := X.w) (A := X.A) (a := h'.objs.size) (g := s4.gens.size) (Post := fun b s' => EP X pins σ Q (.bool b) s') hr.hd (by have := hr.dp; show X.A.depth < _; omega) (fun b s' z => z) (m + 1) { s4 with heap := h'.push go, gens := s4.gens.push (.fresh (.compStart (.GeneratorExp elt [⟨tg, iter, [], 0⟩] scope gpos) 0 (.ref it) .none cenv)), toks := s4.toks + 1 + 1 + 1 } (hgen _ hpush) (lim4.keeps keep5) ⟨.fresh (.compStart (.GeneratorExp elt [⟨tg, iter, [], 0⟩] scope gpos) 0 (.ref it) .none cenv), Array.getElem?_push_size .., rfl, ?_⟩
    have fpF : ∀ b ∈ fp, FpOk (gx X s4 H3 N cenv (X.A.in1.in1) fp [(h'.objs.size, go)]) [] H3 b := fun b hb => by
      obtain ⟨o, e, _⟩ := T.obj _ _ ht4 b hb
      have bl := Heap.lt_size e
      refine ⟨(hf4 b hb).1, by show b ≠ cenv.locals; rw [eLoc]; exact Nat.ne_of_lt bl, fun hm => ?_, .inl hb, fun y c z => (hf4 b hb).2.2.2.2.1 y c (cm z), fun q hq => ?_⟩
      · rcases List.mem_cons.mp (I4.stkSub b hm) with z | z
        · exact (hf4 b hb).2.1 z
        · exact (hf4 b hb).2.2.1 z
      · have hq' : q = (h'.objs.size, go) := by
          have z : q ∈ [(h'.objs.size, go)] ++ [] := hq
          simpa using z
        subst hq'
        show h'.objs.size ≠ b
        exact Nat.ne_of_gt (by rw [hszN]; exact Nat.lt_succ_of_lt bl)
    have I6 := wake (X.A.in1.in1) hrw I4.ok.frames ({ s4 with heap := h'.push go, gens := s4.gens.push (.fresh (.compStart (.GeneratorExp elt [⟨tg, iter, [], 0⟩] scope gpos) 0 (.ref it) .none cenv)), toks := s4.toks + 1 + 1 + 1 }.setGen s4.gens.size .running) (fun b o e => e) rfl (allBare_setGen (s := { s4 with heap := h'.push go, gens := s4.gens.push (.fresh (.compStart (.GeneratorExp elt [⟨tg, iter, [], 0⟩] scope gpos) 0 (.ref it) .none cenv)), toks := s4.toks + 1 + 1 + 1 }) (AllBare.push I4.bare rfl) rfl)
    refine seg_start (X := gx X s4 H3 N cenv (X.A.in1.in1) fp [(h'.objs.size, go)]) (Aw := X.A.in1.in1) (go := go) rfl rfl rfl (by show cenv.scope.isCoroutine = false; rw [eScope]; exact S.co) (List.mem_singleton.mpr rfl) hgen T (hgt _ hInner) (hel _ hInner) hW (fun b σ1 H1 sa sb J fin hk ho hb => ?_) m _ _ σ' H3 I6 (T.keep _ _ _ ht4 fun b hb o e => keep5 b o e) fpF w0
    refine ⟨.bl b, H1, I4.call' (ch := fp) (ho.trans J.os) ((show Un (frs X.stack) fp H3 H1 s4.heap sa.heap from J.base).trans (Un.kept hk)) (J.hok.kept hk) hb (fun b hb => ⟨(hf4 b hb).2.2.2.1, (hf4 b hb).2.1, (hf4 b hb).2.2.2.2.1, (hf4 b hb).2.2.2.2.2⟩), rfl, fin⟩
  cases hfc : codeAmong gpos ps.toList with
  | none =>
    refine wpAny_genexprCodeX hcode (cd.code hPs htr) (cd.tab hPs) hfc fun c' h' tk hx hge hlt hco' _ htab' _ => ?_
    obtain ⟨o1, vs, f1, tf, fl, tg', inF, tx, tt, op, _, _, _, _, _, _, _, _, _, htr', _⟩ := hco'
    exact cont _ h' tk _ hx (Nat.le_trans hge (Nat.le_of_lt hlt)) htab'.2 ⟨_, rfl⟩ htr'
  | some cv =>
    refine wpAny_genexprCode_hit hcode (cd.code hPs htr) hfc ?_
    exact cont cv s2.heap s2.toks ps (Heap.ExtBut.refl _ _) (Nat.le_refl _) hPs ⟨#[], by simp⟩ htr
end
end LG

set_option Elab.async false
set_option linter.all false
set_option maxRecDepth 100000
set_option maxHeartbeats 4000000
/-! a generator expression as a generator that hands out any values; tuple(..) of it -/
namespace LG
open PySem PySem.Spec PyProof.Rows L2 GenW GxR NdefX
/-- the turns of a generator expression: what was handed out so far -/
def TurnsV (J : It) (g : TG) (te : TE) (Fin : List V → Hp → Prop) (W : Nat → Nat → L2.St → Hp → List V → Prop) : Prop :=
  ∀ i m σ H acc, W i m σ H acc → (J.stop i H ∧ Fin acc H) ∨
    (J.go i H ∧ ∀ x H', J.yld i H x H' → g x σ H' fun σ2 H2 => te σ2 H2 fun y H3 => acc.length + 1 < sizeLine ∧ ∃ m', m' < m ∧ W (i + 1) m' σ2 H3 (acc ++ [y]))
section
variable {X : Cx} {Aw : Around} {elt iter tg : Expr} {scope : Scope} {gpos : Pos} {J : It} {fp : List Addr} {it a S : Addr} {gn : Nat} {go : Obj} {tn : Nat → Heap → Prop} {g : TG} {te : TE} {Fin : List V → Hp → Prop} {W : Nat → Nat → L2.St → Hp → List V → Prop}
theorem segV_loop (hA : X.A = Aw.deeper X.env) (hxe : X.xe = fun _ _ => False) (hc : X.calm = true) (hco : X.env.scope.isCoroutine = false) (hpn : (a, go) ∈ X.pn) (hgo : ∀ h : Heap, h.get? a = some go → h.IsGen a gn) (hex : X.ex = fp)
    (T : Turn X.prog X.w X.K tg J fp it tn) (hg : PG X tg g) (he : PE X elt te) (hW : TurnsV J g te Fin W) (nS : S ∉ fp) (fS : ∀ H : Hp, H S = none → FpOk X [] H S) :
    ∀ (n i m : Nat) (s₀ s : Shared) (σ : L2.St) (H : Hp) (out : List V) (acc : Array Value) (c : Nat), m < n → n + acc.size = sizeLine → Inv X [] σ H s → tn i s.heap → (∀ b ∈ fp, FpOk X [] H b) → H S = none → s.heap.get? S = some (lstObj acc c) → Vals out acc.toList → W i m σ H out →
      Seg (model X.prog X.w) Aw (REnd X.prog X.w X.outer X.H_0 X.s_0 fp S a gn Fin E0) (YItem X.s_0 S a gn) n s₀ (.compLoop (.GeneratorExp elt [⟨tg, iter, [], 0⟩] scope gpos) 0 (.ref it) .none X.env)
        ((model X.prog X.w).den (.compLoop (.GeneratorExp elt [⟨tg, iter, [], 0⟩] scope gpos) 0 (.ref it) .none X.env)) [] s := by
  intro n
  induction n with
  | zero => intro i m s₀ s σ H out acc c hm; omega
  | succ n ih =>
    intro i m s₀ s σ H out acc c hm hn I ht hf hSn hS hv w
    have hov : Aw.over (.compLoop (.GeneratorExp elt [⟨tg, iter, [], 0⟩] scope gpos) 0 (.ref it) .none X.env) [] = X.A := over_gen.trans hA.symm
    show Seg _ Aw _ _ _ s₀ _ ((compTurn (.GeneratorExp elt [⟨tg, iter, [], 0⟩] scope gpos) 0 (.ref it) .none X.env).onRaise (leaving X.env)) [] s
    rw [compTurn_gen, Sem.onRaise_eq_wrap]
    refine seg_bind_wrap (wpAny_standAt ?_)
    have J0 := I.pinned (fp := [S]) (fun b hb => by simp at hb; subst hb; exact fS H hSn) (fun b hb => by simp at hb; subst hb; exact ⟨_, hS, fun v q => nomatch q⟩)
    rcases hW i m σ H out w with ⟨stop, fin⟩ | ⟨goes, step⟩
    · refine seg_bind_wrap ?_
      rw [hov]
      refine thn (T.done X rfl rfl rfl hc i _ s σ H _ J0 (fun b hb => ?_) ht stop) fun r s1 ⟨hr, I1⟩ => ?_
      · obtain ⟨f0, f1, f2, f3, f4, f5⟩ := hf b hb
        refine ⟨f0, f1, f2, f3, f4, fun p hp => ?_⟩
        rcases List.mem_append.mp hp with z | z
        · exact f5 p (List.mem_append_left _ z)
        · obtain ⟨z1, _⟩ := of_pinsAt (by simpa using z)
          simp at z1
          rw [z1]
          intro q
          exact nS (by rw [q]; exact hb)
      subst hr
      have pin := I1.pin (S, lstObj acc c) (List.mem_append_right _ (List.mem_append_right _ (mem_pinsAt (by simp) hS)))
      have I2 : Inv X [] σ H s1 := I1.unpinned
      have lv : out.length ≤ sizeLine := by
        have := hv.length
        simp at this
        omega
      exact seg_end (.ok .next) (.inl ⟨.inr rfl, H, out, acc, c, I2.os, I2.bare, by rw [← hex]; exact I2.base, I2.hok, pin.2.1, pin.1, hv, lv, fin⟩)
    · refine seg_bind_wrap ?_
      rw [hov]
      refine thn (T.item X rfl rfl rfl hc i _ s σ H _ J0 (fun b hb => ?_) ht goes) fun r s1 ⟨u, hr, h1⟩ => ?_
      · obtain ⟨f0, f1, f2, f3, f4, f5⟩ := hf b hb
        refine ⟨f0, f1, f2, f3, f4, fun p hp => ?_⟩
        rcases List.mem_append.mp hp with z | z
        · exact f5 p (List.mem_append_left _ z)
        · obtain ⟨z1, _⟩ := of_pinsAt (by simpa using z)
          simp at z1
          rw [z1]
          intro q
          exact nS (by rw [q]; exact hb)
      subst hr
      refine seg_bind_wrap ?_
      rw [hov]
      refine thn h1 fun _ s2 ⟨x, H2, I2, rx, y2, ht2, fr2⟩ => ?_
      have pin2 := I2.pin (S, lstObj acc c) (List.mem_append_right _ (List.mem_append_right _ (mem_pinsAt (by simp) hS)))
      have I2u : Inv X [] σ H2 s2 := I2.unpinned
      have hf2 : ∀ b ∈ S :: fp, FpOk X [] H2 b := fun b hb => by
        rcases List.mem_cons.mp hb with z | z
        · subst z; exact fS H2 pin2.2.1
        · exact ⟨fr2 b z, (hf b z).2⟩
      have I2' := I2u.pinned hf2 (fun b hb => by
        rcases List.mem_cons.mp hb with z | z
        · subst z; exact ⟨_, pin2.1, fun v q => nomatch q⟩
        · exact T.obj _ _ ht2 b z)
      refine seg_bind_wrap ?_
      rw [hov]
      refine wpAny_mono (hg.run _ s2 σ H2 x u _ I2' rx (step x H2 y2)) (fun _ s3 ⟨σ3, H3, I3, q3⟩ => ?_) fun e s' hx => by rw [hxe] at hx; exact hx.elim
      refine seg_bind_wrap ?_
      simp only [List.forIn_nil]
      refine wpAny_pure ?_
      have hy : ∀ v, yieldOut X.env v = yieldValue v := fun v => by simp only [yieldOut, hco, Bool.false_eq_true, if_false]
      simp only [if_true, hy]
      rw [Sem.bind_eq_wrap', Sem.bind_eq_wrap', Sem.wrap_wrap, Sem.wrap_wrap]
      refine seg_wrap ?_
      rw [hov]
      refine wpAny_mono (he.run _ s3 σ3 H3 _ I3 q3) (fun y s4 ⟨yv, H4, I4, r4, lt4, m', hm', w'⟩ => ?_) fun e s' hx => by rw [hxe] at hx; exact hx.elim
      have pin : ∀ c ∈ S :: fp, ∀ o, s2.heap.get? c = some o → s4.heap.get? c = some o ∧ H4 c = none := fun c hcc o e =>
        let z := I4.pin (c, o) (List.mem_append_right _ (List.mem_append_right _ (mem_pinsAt hcc e)))
        ⟨z.1, z.2.1⟩
      have I5 : Inv X [] σ3 H4 s4 := I4.unpinned
      have S4 := pin S List.mem_cons_self _ pin2.1
      refine seg_at (seg_yield rfl rfl rfl ⟨I5.os, I5.bare, I5.nolimit, hgo _ (I5.pin (a, go) (List.mem_append_left _ hpn)).1, ⟨acc, c, S4.1, by omega⟩, fun s' sl => ?_⟩)
      have fs4 := fS H4 S4.2
      have I6 : Inv X [] σ3 H4 s' := by
        refine I5.call' (ch := [S]) sl.os ⟨fun b o e1 e2 e3 e4 => sl.keep b o (fun z => e4 (by simp [z])) e1, fun b o e1 e2 e3 e4 => ⟨o.slots, sl.keep b o (fun z => e4 (by simp [z])) e1⟩, fun b o _ e _ => e, fun b o e1 e2 => ⟨o, sl.keep b o (fun z => e2 (by simp [z])) e1⟩, fun _ _ q => q, fun _ _ _ q => q, fun _ ps q => ⟨#[], by rw [q]; simp⟩⟩ (fun b u e => ?_) sl.bare fun b hb => ?_
        · have nb : b ≠ S := fun z => by rw [z, S4.2] at e; cases e
          exact (I5.hok b u e).stay (fun d o e3 e4 => sl.keep d o (fun z => by
            rcases e3 with q | q
            · exact nb (q.symm.trans z)
            · rw [z, S4.2] at q; cases q) e4) (fun _ z => z) (fun _ _ z => z)
        · simp at hb
          subst hb
          exact ⟨fs4.2.2.2.1, fs4.2.1, fs4.2.2.2.2.1, fs4.2.2.2.2.2⟩
      obtain ⟨c', own⟩ := sl.own acc c S4.1
      refine seg_again rfl (ih (i + 1) m' s' s' σ3 H4 (out ++ [yv]) (acc.push y) c' (by omega) (by simp; omega) I6 (T.keep _ _ _ ht2 fun d hd o e => sl.keep d o (fun z => nS (by rw [← z]; exact hd)) (pin d (List.mem_cons_of_mem _ hd) o e).1) (fun d hd => ?_) S4.2 own (by simpa using hv.append (.cons r4 .nil)) w')
      obtain ⟨o, e, _⟩ := T.obj _ _ ht2 d hd
      exact ⟨(pin d (List.mem_cons_of_mem _ hd) o e).2, (hf d hd).2⟩
theorem segV_start (hA : X.A = Aw.deeper X.env) (hxe : X.xe = fun _ _ => False) (hc : X.calm = true) (hco : X.env.scope.isCoroutine = false) (hpn : (a, go) ∈ X.pn) (hgo : ∀ h : Heap, h.get? a = some go → h.IsGen a gn) (hex : X.ex = fp)
    (T : Turn X.prog X.w X.K tg J fp it tn) (hg : PG X tg g) (he : PE X elt te) (hW : TurnsV J g te Fin W) (nS : S ∉ fp) (fS : ∀ H : Hp, H S = none → FpOk X [] H S)
    (m : Nat) (hm : m < sizeLine) (s₀ s : Shared) (σ : L2.St) (H : Hp) (c : Nat) (I : Inv X [] σ H s) (ht : tn 0 s.heap) (hf : ∀ b ∈ fp, FpOk X [] H b) (hSn : H S = none) (hS : s.heap.get? S = some (lstObj #[] c)) (w : W 0 m σ H []) :
    Seg (model X.prog X.w) Aw (REnd X.prog X.w X.outer X.H_0 X.s_0 fp S a gn Fin E0) (YItem X.s_0 S a gn) sizeLine s₀ (.compStart (.GeneratorExp elt [⟨tg, iter, [], 0⟩] scope gpos) 0 (.ref it) .none X.env)
        ((model X.prog X.w).den (.compStart (.GeneratorExp elt [⟨tg, iter, [], 0⟩] scope gpos) 0 (.ref it) .none X.env)) [] s := by
  have hov : Aw.over (.compStart (.GeneratorExp elt [⟨tg, iter, [], 0⟩] scope gpos) 0 (.ref it) .none X.env) [] = X.A := over_gen0.trans hA.symm
  have loop := segV_loop (iter := iter) (scope := scope) (gpos := gpos) (gn := gn) hA hxe hc hco hpn hgo hex T hg he hW nS fS sizeLine 0 m s₀ s σ H [] #[] c hm (by simp) I ht hf hSn hS .nil w
  show Seg _ Aw _ _ _ s₀ _ ((compStart (.GeneratorExp elt [⟨tg, iter, [], 0⟩] scope gpos) 0 (.ref it) .none X.env).onRaise (leaving X.env)) [] s
  unfold compStart
  rw [Sem.onRaise_eq_wrap]
  show Seg _ Aw _ _ _ s₀ _ ((ask >>= _).wrap _ _ _ _) [] s
  refine seg_bind_wrap (wpAny_askSetting ?_)
  split
  · exact seg_again rfl loop
  · first
      | exact seg_bind_wrap (wpAny_rule (seg_bind_wrap (wpAny_standAt (seg_bind_wrap (T.self _ 0 s _ _ ht (seg_again rfl loop))))))
      | (refine seg_bind_wrap (wpAny_rule ?_); show Seg _ Aw _ _ _ s₀ _ ((standAt iter.pos >>= _).wrap _ _ _ _) [] s; exact seg_bind_wrap (wpAny_standAt (seg_bind_wrap (T.self _ 0 s _ _ ht (seg_again rfl loop)))))
end
def tGenV (X : Cx) (P : Addr) (scope : Scope) (N : List Str) (wi : TI) (g : TG) (te : TE) : TGen := fun σ H cont => wi σ H fun J H1 => TabG H1 P ∧ ∃ σ', Caps X scope N σ σ' ∧
  ∀ H2, Tabbed P H1 H2 → ∃ W : Nat → Nat → L2.St → Hp → List V → Prop, (∃ m, m < sizeLine ∧ W 0 m σ' H2 []) ∧ TurnsV J g te cont W
section
variable {X : Cx}
theorem pgen_expr {c P : Addr} {elt iter tg : Expr} {gpos : Pos} {scope : Scope} {wi : TI} {g : TG} {te : TE} {k : Nat} {N : List Str}
    (hdep : X.A.depth < recursionLimit) (TB : TabB X.base X.mg c P) (hcode : X.env.code = .ref c) (S0 : GSc X.env scope) (hi : PI X tg iter wi)
    (hgt : ∀ X', Inner X scope N k X' → PG X' tg g) (hel : ∀ X', Inner X scope N k X' → PE X' elt te)
    (hs : ∀ v, genFold iter X.env v = pure v) : PGen X (k + 1) (.GeneratorExp elt [⟨tg, iter, [], 0⟩] scope gpos) (tGenV X P scope N wi g te) E0 := by
  refine ⟨fun pins s σ H cont0 I h => ?_⟩
  refine wpAny_GeneratorExp_make S0.co (closure_ok S0.free) S0.cell S0.dot S0.kind hdep ?_ hs
  refine thn (hi.run pins s σ H _ I h) fun xv s1 h1 => thn h1 fun itv s2 h2 => ?_
  obtain ⟨it, fp, tn, J, H2, rfl, I2, T, ht2, hf2, hR⟩ := h2
  obtain ⟨⟨ps, hP, htr⟩, σ', hcap, hR⟩ := hR
  have lim2 : s2.heap.NoLimit := I2.nolimit
  have hPs : s2.heap.get? P = some { cls := .none, data := .fields ps } := I2.hok P _ hP
  have cd : PySem.W.CodeHd s2.heap c P := TB.code.keeps fun b u e => I2.bk b u e
  refine ⟨lim2, ?_⟩
  have cont : ∀ (code : Value) (h3 : Heap) (tk : Nat) (ps' : Array Value), Heap.ExtBut P s2.heap h3 → s2.heap.objs.size ≤ h3.objs.size → h3.get? P = some { cls := .none, data := .fields ps' } → (∃ more, ps' = ps ++ more) → TriplesOk ps'.toList →
      wpAny (model X.prog X.w) X.A (builtinsFor X.env.globals X.env.builtins) (fun bi s₄ =>
        ∀ h', h'.Ns s₄.heap.objs.size (fun y => if y = ".0" then some (Value.ref it) else none) → Heap.SameBut s₄.heap.objs.size (s₄.heap.push { cls := .type "frame", data := .dict #[] }) h' →
          (fun u s' => ∃ H1 sc ex, Inv X pins σ H1 sc ∧ ExOk X pins ex ∧ GMade X.prog X.w (k + 1) X.stack H1 sc ex cont0 E0 u s') (Value.ref h'.objs.size) { s₄ with
            gens := s₄.gens.push (.fresh (.compStart (.GeneratorExp elt [⟨tg, iter, [], 0⟩] scope gpos) 0 (.ref it) .none (genEnv scope (cloFrom X.env.cells scope.names []) s₄.heap.objs.size code bi X.env))),
            toks := s₄.toks + 1 + 1 + 1,
            heap := h'.push { cls := .type "generator", data := .fields #[.int s₄.gens.size 0, .str "<genexpr>" (s₄.toks + 1), .str (X.env.qual ++ "<genexpr>") (s₄.toks + 1 + 1)] } }) X.xe { s2 with heap := h3, toks := tk } := by
    intro code h3 tk ps' hx hsz hP3 hmore ht3
    obtain ⟨bm, ob, e1, e2, e3, e4, e5, e6, e7, e8⟩ := TB.bm
    have keep3 : ∀ b u, b ≠ P → s2.heap.get? b = some u → h3.get? b = some u := fun b u hb e => hx b u hb e
    refine wpAny_builtinsFor (m := X.mg) (by rw [I2.ok.glob]; exact (I2.mod.glob.keeps I2.bk).extBut hx TB.gP) e1 e2 (keep3 _ _ e4 (I2.bk _ _ e5)) e6 e7 e8 ?_
    obtain ⟨more, em⟩ := hmore
    have I4 : Inv X pins σ (upd H2 P (.tbl (ps ++ more))) { s2 with heap := h3, toks := tk } :=
      inv_tab (more := more) (h' := h3) (g' := s2.gens) (d' := s2.drawn) (t' := tk) I2 hP keep3 (by rw [← em]; exact hP3) I2.bare
    have hTab : Tabbed P H2 (upd H2 P (.tbl (ps ++ more))) := ⟨⟨ps ++ more, upd_same, by rw [← em]; exact ht3⟩, fun b hb => upd_ne hb⟩
    obtain ⟨W, ⟨m, hm, w0⟩, hW⟩ := hR _ hTab
    generalize hH3 : upd H2 P (.tbl (ps ++ more)) = H3 at I4 hTab w0
    generalize hs4 : ({ s2 with heap := h3, toks := tk } : Shared) = s4 at I4
    have nP : ∀ b ∈ fp, b ≠ P := fun b hb z => by
      have q := (hf2 b hb).1
      rw [z, hP] at q
      cases q
    have hf4 : ∀ b ∈ fp, FpOk X pins H3 b := fun b hb => ⟨by rw [hTab.2 b (nP b hb)]; exact (hf2 b hb).1, (hf2 b hb).2⟩
    have ht4 : tn 0 s4.heap := T.keep _ _ _ ht2 fun b hb o e => by rw [← hs4]; exact keep3 b o (nP b hb) e
    have lim4 : s4.heap.NoLimit := I4.nolimit
    intro h' hn' hs'
    have hszN : h'.objs.size = s4.heap.objs.size + 1 := by rw [hs'.1, Heap.size_push]
    have keep' : ∀ b o, s4.heap.get? b = some o → h'.get? b = some o := fun b o e => hs'.extBut b o (Nat.ne_of_lt (Heap.lt_size e)) (Heap.get?_push_of_some _ e)
    generalize hgo : ({ cls := .type "generator", data := .fields #[.int s4.gens.size 0, .str "<genexpr>" (s4.toks + 1), .str (X.env.qual ++ "<genexpr>") (s4.toks + 1 + 1)] } : Obj) = go
    have hgen : ∀ h : Heap, h.get? h'.objs.size = some go → h.IsGen h'.objs.size s4.gens.size := fun h e => ⟨go, _, _, e, by rw [← hgo], by rw [← hgo], by rw [← hgo]⟩
    have hfreed : go.data ≠ .freed := by rw [← hgo]; intro z; cases z
    have hpush : (h'.push go).get? h'.objs.size = some go := Heap.get?_push_size _ (by rw [← hgo]; rfl)
    have keep5 : ∀ b o, s4.heap.get? b = some o → (h'.push go).get? b = some o := fun b o e => Heap.get?_push_of_some _ (keep' b o e)
    generalize hcenv : genEnv scope (cloFrom X.env.cells scope.names []) s4.heap.objs.size code builtinsNs X.env = cenv
    have eLoc : cenv.locals = s4.heap.objs.size := by rw [← hcenv]; rfl
    have eScope : cenv.scope = scope := by rw [← hcenv]; rfl
    have eCells : cenv.cells = cloFrom X.env.cells scope.names [] := by rw [← hcenv]; rfl
    have eFrame : cenv.frame = some cenv.locals := by rw [← hcenv]; rfl
    have eGlob : cenv.globals = X.env.globals := by rw [← hcenv]; rfl
    have eBlt : cenv.builtins = builtinsNs := by rw [← hcenv]; rfl
    have cm : ∀ {y : Str} {c : Addr}, cenv.cells.lookup y = some c → X.env.cells.lookup y = some c := fun {y c} e => clo_cm S0.free (by rw [← eCells]; exact e)
    -- the generator's own context, whatever wakes it
    have wake : ∀ (Aw : Around), Room k (Aw.deeper cenv) → Aw.frames = some X.stack → ∀ (s6 : Shared), (∀ b o, (h'.push go).get? b = some o → s6.heap.get? b = some o) → s6.os = s4.os → AllBare s6.gens →
        Inv (gx X s4 H3 N cenv Aw fp [(h'.objs.size, go)]) [] σ' H3 s6 := by
      intro Aw hrw hfr s6 hk6 ho6 hb6
      have keep6 : ∀ b o, s4.heap.get? b = some o → s6.heap.get? b = some o := fun b o e => hk6 b o (keep5 b o e)
      have fpl : ∀ b ∈ fp, b < s4.heap.objs.size := fun b hb => by
        obtain ⟨o, e, _⟩ := T.obj _ _ ht4 b hb
        exact Heap.lt_size e
      refine ⟨⟨I4.ok.mod, by show cenv.scope.kind = _; rw [eScope]; exact S0.kind, by show cenv.globals = _; rw [eGlob]; exact I4.ok.glob, eBlt, by show s4.heap.objs.size ≤ cenv.locals; rw [eLoc]; exact Nat.le_refl _,
        fun y z c h1 h2 => I4.ok.inj y z c (cm h1) (cm h2), fun y hy => ?_, fun y c hf _ => absurd (show false = true from hf) (by decide), fun _ => hrw.hd, ?_, .inr ⟨rfl, eFrame⟩, fun b hb => ⟨?_, fun y c e => (hf4 b hb).2.2.2.2.1 y c (cm e)⟩, I4.bs, Nat.le_trans I4.ok.bsz I4.sz,
        fun b o e hb => ?_, fun b hb hm => ?_, I4.stack, I4.stkFree⟩, ho6, hb6, Un.kept keep6, ?_, fun y c e => ?_, ?_, fun y c e => I4.freeC y c (cm e), fun q hq => ?_, I4.hok.kept keep6, hcap.1⟩
      · have hy' : scope.names.lookup y = some .cell ∨ scope.names.lookup y = some .free := by
          have z : cenv.scope.names.lookup y = some .cell ∨ cenv.scope.names.lookup y = some .free := hy
          rw [eScope] at z
          exact z
        rcases hy' with z | z
        · exact absurd rfl (S0.cell _ (PySem.mem_of_lookup z))
        · obtain ⟨c0, e0⟩ := S0.free _ (PySem.mem_of_lookup z) rfl
          exact ⟨c0, by show cenv.cells.lookup y = _; rw [eCells]; exact clo_has S0.free (PySem.mem_of_lookup z) e0⟩
      · show (Aw.deeper cenv).frames = some (cenv :: X.stack)
        exact Around.frames_deeper hfr
      · show b ≠ cenv.locals
        rw [eLoc]; exact Nat.ne_of_lt (fpl b hb)
      · rcases (hf4 b hb).2.2.2.1 with z | z
        · exact I4.ok.noex b o e z
        · exact absurd (Nat.lt_of_lt_of_le (Heap.lt_size e) (Nat.le_trans I4.ok.bsz z)) (Nat.lt_irrefl _)
      · rcases List.mem_cons.mp (I4.stkSub b hm) with z | z
        · exact (hf4 b hb).2.1 z
        · exact (hf4 b hb).2.2.1 z
      · refine ⟨_, by show s6.heap.Ns cenv.locals _; rw [eLoc]; exact (hn'.push go).keeps hk6, fun i x v e1 e2 e3 => ?_⟩
        obtain ⟨f1, j, f2, f3, f4⟩ := hcap.2 i x v e1 e2
        obtain ⟨mo, hno, hlo⟩ := I4.loc
        have hvis : Vis X.env.scope x := by
          rcases f4 with z | z
          · exact .inr (.inl z)
          · exact .inr (.inr z)
        obtain ⟨u, ru, l⟩ := hlo j x v f2 f3 hvis
        refine ⟨u, ru, .inr ⟨.inr (by show cenv.scope.names.lookup x = _; rw [eScope]; exact f1), ?_⟩⟩
        rcases l with ⟨l1, _⟩ | ⟨_, c0, l2, l3⟩
        · rcases f4 with z | z
          · rw [z] at l1; cases l1
          · rw [z] at l1; cases l1
        · obtain ⟨oc, hoc, hd⟩ := l3
          exact ⟨c0, by show cenv.cells.lookup x = _; rw [eCells]; exact clo_has S0.free (PySem.mem_of_lookup f1) l2, oc, keep6 _ _ hoc, hd⟩
      · obtain ⟨v, o, ho, hd⟩ := I4.cell y c (cm e)
        exact ⟨v, o, keep6 _ _ ho, hd⟩
      · show H3 cenv.locals = none
        rw [eLoc]; exact I4.hok.fresh (Nat.le_refl _)
      · have hq' : q = (h'.objs.size, go) := by
          have z : q ∈ [(h'.objs.size, go)] ++ [] := hq
          simpa using z
        subst hq'
        have ga : s4.heap.objs.size ≤ h'.objs.size := by omega
        refine ⟨hk6 _ _ hpush, I4.hok.fresh ga, by show h'.objs.size ≠ cenv.locals; rw [eLoc]; omega, fun hm => ?_, fun v z => ?_⟩
        · rcases List.mem_cons.mp (I4.stkSub _ hm) with z | z
          · exact absurd (Nat.lt_of_lt_of_le I4.lt ga) (by rw [← z]; exact Nat.lt_irrefl _)
          · exact I4.nofs ga z
        · rw [← hgo] at z; cases z
    refine ⟨H3, s4, fp, I4, fun b hb => ⟨(hf4 b hb).2.2.2.1, (hf4 b hb).2.1, (hf4 b hb).2.2.2.2.1, (hf4 b hb).2.2.2.2.2⟩, h'.objs.size, s4.gens.size, _, rfl, by omega, by show h'.objs.size < (h'.push go).objs.size; rw [Heap.size_push]; omega, hgen _ hpush, Array.getElem?_push_size .., rfl, AllBare.push I4.bare rfl, lim4.keeps keep5, keep5, fun Aw S s6 hrw hfr hS hk6 hS0 ho6 hb6 => ?_⟩
    have szP : (h'.push go).objs.size = h'.objs.size + 1 := Heap.size_push ..
    have hS : (h'.push go).objs.size ≤ S := hS
    rw [szP] at hS
    have hInner : Inner X scope N k (gx X s4 H3 N cenv Aw fp [(h'.objs.size, go)]) := ⟨rfl, rfl, rfl, rfl, rfl, rfl, eScope, rfl, rfl, hrw.deeper cenv⟩
    have I6 := wake Aw (hrw.deeper cenv) hfr s6 hk6 ho6 hb6
    have fpl : ∀ b ∈ fp, b < s4.heap.objs.size := fun b hb => by
      obtain ⟨o, e, _⟩ := T.obj _ _ ht4 b hb
      exact Heap.lt_size e
    have fpF : ∀ b ∈ fp, FpOk (gx X s4 H3 N cenv Aw fp [(h'.objs.size, go)]) [] H3 b := fun b hb => by
      have bl := fpl b hb
      refine ⟨(hf4 b hb).1, by show b ≠ cenv.locals; rw [eLoc]; exact Nat.ne_of_lt bl, fun hm => ?_, .inl hb, fun y c z => (hf4 b hb).2.2.2.2.1 y c (cm z), fun q hq => ?_⟩
      · rcases List.mem_cons.mp (I4.stkSub b hm) with z | z
        · exact (hf4 b hb).2.1 z
        · exact (hf4 b hb).2.2.1 z
      · have hq' : q = (h'.objs.size, go) := by
          have z : q ∈ [(h'.objs.size, go)] ++ [] := hq
          simpa using z
        subst hq'
        show h'.objs.size ≠ b
        exact Nat.ne_of_gt (by rw [hszN]; exact Nat.lt_succ_of_lt bl)
    have S4 : s4.heap.objs.size ≤ S := Nat.le_trans (Nat.le_of_lt (Nat.lt_succ_self _)) (Nat.le_trans (Nat.le_of_eq hszN.symm) (Nat.le_trans (Nat.le_succ _) hS))
    have fS : ∀ H : Hp, H S = none → FpOk (gx X s4 H3 N cenv Aw fp [(h'.objs.size, go)]) [] H S := fun H hn => by
      refine ⟨hn, by show S ≠ cenv.locals; rw [eLoc]; exact Nat.ne_of_gt (Nat.lt_of_lt_of_le (by rw [hszN]; exact Nat.lt_succ_of_lt (Nat.lt_succ_self _)) hS), fun hm => ?_, .inr S4, fun y c z e => ?_, fun q hq => ?_⟩
      · rcases List.mem_cons.mp (I4.stkSub S hm) with z | z
        · have := I4.lt; rw [← z] at this; exact absurd (Nat.lt_of_lt_of_le this S4) (Nat.lt_irrefl _)
        · exact I4.nofs S4 z
      · obtain ⟨v, q⟩ := I4.cell y c (cm z)
        have := q.lt
        rw [e] at this
        exact absurd (Nat.lt_of_lt_of_le this S4) (Nat.lt_irrefl _)
      · have hq' : q = (h'.objs.size, go) := by
          have z : q ∈ [(h'.objs.size, go)] ++ [] := hq
          simpa using z
        subst hq'
        show h'.objs.size ≠ S
        exact Nat.ne_of_lt (Nat.lt_of_lt_of_le (Nat.lt_succ_self _) hS)
    obtain ⟨c0, hS0⟩ := hS0
    exact segV_start (X := gx X s4 H3 N cenv Aw fp [(h'.objs.size, go)]) (Aw := Aw) (go := go) (S := S) rfl rfl rfl (by show cenv.scope.isCoroutine = false; rw [eScope]; exact S0.co) (List.mem_singleton.mpr rfl) hgen rfl T (hgt _ hInner) (hel _ hInner) hW (fun z => absurd (fpl S z) (Nat.not_lt.mpr S4)) fS m hm s6 s6 σ' H3 c0 I6 (T.keep _ _ _ ht4 fun b hb o e => hk6 b o (keep5 b o e)) fpF (I4.hok.fresh S4) hS0 w0
  cases hfc : codeAmong gpos ps.toList with
  | none =>
    refine wpAny_genexprCodeX hcode (cd.code hPs htr) (cd.tab hPs) hfc fun c' h' tk hx hge hlt hco' _ htab' _ => ?_
    obtain ⟨o1, vs, f1, tf, fl, tg', inF, tx, tt, op, _, _, _, _, _, _, _, _, _, htr', _⟩ := hco'
    exact cont _ h' tk _ hx (Nat.le_trans hge (Nat.le_of_lt hlt)) htab'.2 ⟨_, rfl⟩ htr'
  | some cv =>
    refine wpAny_genexprCode_hit hcode (cd.code hPs htr) hfc ?_
    exact cont cv s2.heap s2.toks ps (Heap.ExtBut.refl _ _) (Nat.le_refl _) hPs ⟨#[], by simp⟩ htr

/-- tuple(g), g a generator that has not begun -/
theorem collect_made {P : Program} {w : World} {outer : List Env} {H : Hp} {sc s : Shared} {ex : List Addr} {Q : List V → Hp → Prop} {A : Around} {k : Nat} {u : Value} {Q' : List Value → Shared → Prop} {E : Value → Shared → Prop}
    (hr : Room (k + 2) A) (hfr : A.frames = some outer) (h : GMade P w k outer H sc ex Q E0 u s)
    (hQ : ∀ (s' : Shared) (acc : Array Value) (H' : Hp) (ys : List V), Vals ys acc.toList → ys.length ≤ sizeLine → s'.os = sc.os → AllBare s'.gens → Un (frs outer) ex H H' sc.heap s'.heap → HOk P w H' s'.heap → Q ys H' → Q' acc.toList s') :
    wpAny (model P w) A (collect u) Q' E s := by
  obtain ⟨a, g, c, rfl, ha1, ha2, hg, hgs, hos, hb, hl, hkp, wake⟩ := h
  have hSa : s.heap.objs.size ≠ a := Nat.ne_of_gt ha2
  have hcl : cStatics < s.heap.objs.size := let ⟨_, hn, _⟩ := hl; hn.lt
  have hSc : s.heap.objs.size ≠ cStatics := Nat.ne_of_gt hcl
  unfold collect
  refine wpAny_bind (wpAny_runValue (codeAny_builtin F.entry_proto_collect ?_))
  rw [Around.under_plainId F.plain_proto_collect _]
  show wpAny _ A.in1 (newList [] >>= fun l => again (.builtin "list.__iadd__" ⟨[l, .ref a], []⟩)) _ _ s
  refine wpAny_bind (wpAny_newObj_type ?_)
  refine wpAny_pure ⟨plainId_quiet F.plain_list_iadd _, codeAny_builtin F.entry_list_iadd ?_⟩
  rw [Around.under_plainId F.plain_list_iadd _]
  have k1 : ∀ b o, s.heap.get? b = some o → (s.heap.push { cls := .type "list", data := .seq ([] : List Value).toArray }).get? b = some o := fun b o e => Heap.get?_push_of_some _ e
  have up : ∀ (h : Heap) (f : Obj → Obj), (∀ b o, s.heap.get? b = some o → h.get? b = some o) → ∀ b o, s.heap.get? b = some o → (h.update s.heap.objs.size f).get? b = some o := fun h f q b o e =>
    (Heap.get?_update_other _ _ (Ne.symm (Nat.ne_of_lt (Heap.lt_size e)))).trans (q b o e)
  have gty : ∀ {h : Heap}, (∀ b o, s.heap.get? b = some o → h.get? b = some o) → h.IsGen a g := fun {h} q => hg.keeps q
  show wpAny _ A.in1 (Builtin.List.listExtendWith (.ref s.heap.objs.size) (.ref a) (.ref s.heap.objs.size)) _ _ _
  unfold Builtin.List.listExtendWith
  refine wpAny_bind (wpAny_typeOf (Heap.IsGen.typeIs (s := { s with heap := _ }) (gty k1)) ?_)
  have h1 : Builtin.List.listSameRef (.ref s.heap.objs.size) (.ref a) = false := by simp [Builtin.List.listSameRef, hSa]
  have h2 : (Value.type "generator" == Value.type "list") = false := by decide
  have h3 : (Value.type "generator" == Value.type "tuple") = false := by decide
  simp only [h1, h2, h3, Bool.or_false, Bool.false_eq_true, if_false]
  refine wpAny_bind (wpAny_pyIter_gen (s := { s with heap := _ }) (gty k1) ?_)
  refine wpAny_bind (wpAny_holding ?_)
  unfold Builtin.List.listLengthHint
  refine wpAny_bind (wpAny_specialOf (Heap.IsGen.typeIs (s := { s with heap := _ }) (gty k1)) F.gen_no_len ?_)
  show wpAny _ A.in1 (specialOf (Value.ref a) (Str.ofString "__length_hint__") >>= _) _ _ _
  refine wpAny_bind (wpAny_specialOf (Heap.IsGen.typeIs (s := { s with heap := _ }) (gty k1)) F.gen_no_hint ?_)
  refine wpAny_pure ?_
  show wpAny _ A.in1 (rule "list.extend.makes-room" >>= fun _ => Builtin.List.listTouch (.ref s.heap.objs.size) >>= fun _ =>
    again (.builtin "list.extend.loop" ⟨[.ref s.heap.objs.size, .ref a, .ref s.heap.objs.size], []⟩)) _ _ _
  refine wpAny_bind (wpAny_rule ?_)
  have hS1 : (s.heap.push { cls := .type "list", data := .seq ([] : List Value).toArray }).get? s.heap.objs.size = some { cls := .type "list", data := .seq ([] : List Value).toArray } := Heap.get?_push_size _ rfl
  refine wpAny_bind ?_
  show wpAny _ A.in1 (updateSeq s.heap.objs.size (·.push .none) >>= fun _ => updateSeq s.heap.objs.size (·.pop)) _ _ _
  refine wpAny_bind (wpAny_updateSeq hS1 rfl ?_)
  have hS2 := Heap.get?_update_self (Obj.mapSeq (·.push Value.none)) hS1 rfl
  refine wpAny_updateSeq hS2 rfl ?_
  have hS3 := Heap.get?_update_self (Obj.mapSeq (·.pop)) hS2 rfl
  have k3 := up _ (Obj.mapSeq (·.pop)) (up _ (Obj.mapSeq (·.push Value.none)) k1)
  refine wpAny_pure ⟨plainId_quiet F.plain_extend_loop _, ?_⟩
  refine drain (P := P) (w := w) (outer := outer) (H := H) (sc := sc) (ex := ex) (Q := Q) (EX := E0) (A := A) (g := g) (S := s.heap.objs.size) hr.hd (by have := hr.dp; show A.depth < _; omega) hSa hSc
    (fun s' acc c H' ys q1 q2 q3 q4 q5 q6 q7 q8 q9 => ?_) (fun e s' hc => ?_) sizeLine _ (gty k3) (hl.keeps k3) ⟨_, hgs, rfl, ?_⟩
  · show wpAny _ A (load s.heap.objs.size >>= _) _ _ s'
    refine wpAny_bind (wpAny_load q1 ?_)
    exact wpAny_pure (hQ s' acc H' ys q2 q3 q4 q5 q6 q7 q9)
  · obtain ⟨_, _, _, _, _, _, _, _, _, _, _, _, z⟩ := hc
    exact z.elim
  · refine wake _ _ _ ⟨hr.hd, ?_, ?_⟩ hfr (Nat.le_refl _) k3 ⟨_, hS3⟩ hos (allBare_setGen (s := { s with heap := _ }) hb rfl)
    · have := hr.dp
      show A.depth + 3 * k + 5 < _
      omega
    · have := hr.un
      show A.units + 1 + 1 + 16 * k + 200 < _
      omega
theorem call_tuple_made {P : Program} {w : World} {outer : List Env} {H : Hp} {sc s : Shared} {ex : List Addr} {Q : List V → Hp → Prop} {A : Around} {k : Nat} {u : Value} {Q' : Value → Shared → Prop} {E : Value → Shared → Prop}
    (hr : Room (k + 4) A) (hfr : A.frames = some outer) (h : GMade P w k outer H sc ex Q E0 u s)
    (hQ : ∀ (s' : Shared) (acc : Array Value) (H' : Hp) (ys : List V), Vals ys acc.toList → ys.length ≤ sizeLine → s'.os = sc.os → AllBare s'.gens → Un (frs outer) ex H H' sc.heap s'.heap → HOk P w H' s'.heap → Q ys H' → Q' (.ref s'.heap.objs.size) { s' with heap := s'.heap.push { cls := .type "tuple", data := .seq acc } }) :
    wpAny (model P w) A (call (.type "tuple") [u]) Q' E s := by
  refine callType_codes (Q₁ := fun obj s₁ => s₁.TypeIs obj "tuple" ∧ Q' obj s₁) F.called_tuple (F.typeCall_tuple_1 _) F.entry_object_init ?_ fun obj s₁ h₁ => ?_
  · refine codeAny_of_tree ?_
    show wpAny _ A.in1.in1 (do checkBuiltinCall "tuple.__new__" ⟨[.type "tuple", u], []⟩; again (.builtin "tuple.__new__" ⟨[.type "tuple", u], []⟩)) _ _ s
    refine wpAny_bind (wpAny_of_eq (F.newCall_tuple_1 _) (wpAny_pure ⟨plainId_quiet F.plain_tuple_new _, codeAny_builtin F.entry_tuple_new ?_⟩))
    rw [Around.under_plainId F.plain_tuple_new _]
    have hsub := sub_tuple_self
    have hinit := init_tuple_lookup
    have hmh := madeHere_tuple
    obtain ⟨a, g, c, hu, ha1, ha2, hg, r⟩ := id h
    subst hu
    have hTI : s.TypeIs (.ref a) "generator" := Heap.IsGen.typeIs (s := s) hg
    have hc : ∀ (A' : Around) (Q2 : List Value → Shared → Prop), Room (k + 2) A' → A'.frames = some outer → (∀ (s' : Shared) (acc : Array Value) (H' : Hp) (ys : List V), Vals ys acc.toList → ys.length ≤ sizeLine → s'.os = sc.os → AllBare s'.gens → Un (frs outer) ex H H' sc.heap s'.heap → HOk P w H' s'.heap → Q ys H' → Q2 acc.toList s') → wpAny (model P w) A' (collect (.ref a)) Q2 E s := fun A' Q2 hr' hf' q => collect_made hr' hf' h q
    wp_walk using wpAny_typeOf hTI, hc
    · exact ⟨hr.hd, by have := hr.dp; show A.depth + 3 * (k + 2) + 5 < _; omega, by have := hr.un; show A.units + 1 + 1 + 16 * (k + 2) + 200 < _; omega⟩
    · exact hfr
    · intro s' acc H' ys q1 q2 q3 q4 q5 q6 q7
      show wpAny _ _ (Builtin.Tuple.tupleExact acc.toList.toArray >>= fun v => ret v) _ _ _
      unfold Builtin.Tuple.tupleExact
      have lz : acc.size ≤ sizeLine := by
        have := q1.length
        simp at this
        omega
      refine wpAny_bind (wpAny_newObj_type ?_ (by show acc.toList.toArray.size ≤ sizeLine; simp only [Array.toArray_toList]; exact lz))
      refine wpAny_pure ?_
      have e : acc.toList.toArray = acc := by simp
      rw [e]
      exact ⟨⟨_, Heap.get?_push_size _ rfl, rfl⟩, hQ s' acc H' ys q1 q2 q3 q4 q5 q6 q7⟩
  · exact ⟨h₁.1, F.args_object_init_2 obj _, object_init_meets F.called_tuple.init.lookup F.called_tuple.made (by decide) P w A.in1 _ s₁ ⟨h₁.1, rfl, h₁.2⟩⟩
def tTupG (tg : TGen) : TE := fun σ H Q => tg σ H fun out H2 => ∀ p, H2 p = none → Q (.ref p) (upd H2 p (.tup out))
theorem pe_tupG {k : Nat} {p pos : Pos} {e : Expr} {tg : TGen} (h : PGen X k e tg E0) (hr : Room (k + 4) X.A) (hg : Gl X "tuple") (hmg : X.mg "tuple" = none)
    (he : starEach [e] X.env = (false, eval e X.env) :: starEach [] X.env := by rfl) : PE X (.Call (.Name "tuple" p) [e] [] pos) (tTupG tg) := by
  refine ⟨fun pins s σ H Q I hq => ?_⟩
  refine wpAny_Call_Name_kw (ld_blt I hg hmg (show bootBuiltins "tuple" = some (.type "tuple") by decide +kernel) ?_)
  refine PyProof.Rows.callWith_type1 ?_ he rfl
  rw [he]
  show wpAny _ _ (spliced ((false, eval e X.env) :: backTo pos (starEach [] X.env))) _ _ s
  refine Calls.spliced_cons (thn (h.run pins s σ H _ I hq) fun u s1 ⟨H1, sc, ex, I1, hex, hG⟩ => ?_)
  refine Calls.spliced_nil ?_
  refine call_tuple_made hr I1.ok.frames hG fun s' acc H' ys q1 q2 q3 q4 q5 q6 q7 => ?_
  have I2 : Inv X pins σ H' s' := I1.call' (ch := ex) q3 q5 q6 q4 hex
  have hn : H' s'.heap.objs.size = none := I2.hok.fresh (Nat.le_refl _)
  refine ⟨.ref s'.heap.objs.size, upd H' s'.heap.objs.size (.tup ys), ?_, rfl, q7 _ hn⟩
  have kp : ∀ b o, s'.heap.get? b = some o → (s'.heap.push { cls := .type "tuple", data := .seq acc }).get? b = some o := fun b o e => Heap.get?_push_of_some _ e
  have new : ObjOk X.prog X.w (upd H' s'.heap.objs.size (.tup ys)) (s'.heap.push { cls := .type "tuple", data := .seq acc }) s'.heap.objs.size (.tup ys) :=
    ⟨q2, acc.toList, q1, ⟨_, Heap.get?_push_size _ rfl, rfl, 0, by simp⟩⟩
  exact I2.call' (ch := []) rfl (Un.laid kp (Nat.le_refl _) hn) (I2.hok.laid kp (Nat.le_refl _) new) q4 (fun _ z => nomatch z)
end
end LG

set_option Elab.async false
set_option linter.all false
set_option maxRecDepth 100000
set_option maxHeartbeats 1000000
/-! values as data: tuples by value, lists by places of a store; what a piece of Python does, as a Lean function over them -/
namespace EL
open PySem PySem.Spec PyProof.Rows L2 GxR LG

inductive D where
  | non | bl (b : Bool) | int (i : Int) | str (x : Str) | tup (ds : List D) | lst (ds : List D) | ref (l : Nat) | scr (ns : List Int) | ty (n : String)
/-- an exception: its class, its field -/
structure Xc where
  cls : Str
  fld : Option (Str × D)
/-- a thing of the store: a list, what is let go, dicts, an instance -/
inductive O where
  | lst (ds : List D) | dead | dK (kvs : List (Key × D)) | dT (kvs : List (List Key × D)) | ins (c : Str) (fs : List (Str × D))
abbrev Sto := List O
/-- the addresses of the store's places; lists in the making, which nobody else sees -/
structure Mu where
  pl : List Addr
  hd : List Addr
def Mu.add (μ : Mu) (p : Addr) : Mu := ⟨μ.pl ++ [p], μ.hd⟩
def Mu.hide (μ : Mu) (p : Addr) : Mu := ⟨μ.pl, p :: μ.hd⟩
abbrev Rho := List (Option D)
/-- what is fixed through the law: the written part, the tables, the script -/
structure G0 where
  P : Program
  w : World
  mg : Str → Option Value
  base : Heap
  K : PySem.W.Frag
  Ps : List Addr

/-- a list of the module's own top -/
def KL (K : PySem.W.Frag) (a : Addr) (xs : List V) : Prop :=
  ∃ (o : Obj) (its : Array Value) (n : Nat), K.lookup a = some o ∧ o.cls = .type "list" ∧ o.dict = none ∧ o.data = .seq its n ∧ its.size ≤ sizeLine ∧ Vals xs its.toList
/-- a list that nobody writes any more -/
def Lz (μ : Mu) (H : Hp) (a : Addr) (vs : List V) : Prop := H a = some (.lst vs) ∧ a ∉ μ.pl ∧ a ∉ μ.hd
/-- .. or may have stood ahead of all: the script -/
def Lq (G : G0) (μ : Mu) (H : Hp) (a : Addr) (vs : List V) : Prop := (Rd H a (.lst vs) ∧ a ∉ μ.pl ∧ a ∉ μ.hd) ∨ KL G.K a vs
theorem Lz.sq {K : PySem.W.Frag} {μ : Mu} {H : Hp} {a : Addr} {vs : List V} (h : Lz μ H a vs) : SqL K H a vs := SqL.of h.1
theorem Lq.sq {G : G0} {μ : Mu} {H : Hp} {a : Addr} {vs : List V} (h : Lq G μ H a vs) : SqL G.K H a vs := h.imp (·.1) id
mutual
inductive Rep (G : G0) (μ : Mu) (H : Hp) : D → V → Prop
  | non : Rep G μ H .non .non
  | bl (b : Bool) : Rep G μ H (.bl b) (.bl b)
  | int (i : Int) : Rep G μ H (.int i) (.int i)
  | str (x : Str) : Rep G μ H (.str x) (.str x)
  | tup {a : Addr} {vs : List V} {ds : List D} (s : SqT G.K H a vs) (r : Reps G μ H ds vs) : Rep G μ H (.tup ds) (.ref a)
  | lst {a : Addr} {vs : List V} {ds : List D} (s : Lz μ H a vs) (r : Reps G μ H ds vs) : Rep G μ H (.lst ds) (.ref a)
  | ref {l : Nat} {a : Addr} (h : μ.pl[l]? = some a) : Rep G μ H (.ref l) (.ref a)
  | scr {ns : List Int} {a : Addr} (s : Lq G μ H a (ns.map V.int)) : Rep G μ H (.scr ns) (.ref a)
  | ty (n : String) : Rep G μ H (.ty n) (.ty n)
inductive Reps (G : G0) (μ : Mu) (H : Hp) : List D → List V → Prop
  | nil : Reps G μ H [] []
  | cons {d : D} {v : V} {ds : List D} {vs : List V} (h : Rep G μ H d v) (t : Reps G μ H ds vs) : Reps G μ H (d :: ds) (v :: vs)
end

/-- further on: new places, the tuples that stood stand -/
structure Ext (G : G0) (μ : Mu) (H : Hp) (μ' : Mu) (H' : Hp) : Prop where
  pre : ∃ more, μ'.pl = μ.pl ++ more
  hid : μ'.hd = μ.hd
  kept : ∀ a ∈ μ.hd, H' a = H a
  tup : ∀ a vs, SqT G.K H a vs → SqT G.K H' a vs
  raw : ∀ a u, H a = some u → a ∉ μ.pl → a ∉ μ.hd → (∃ vs, u = .lst vs ∨ ∃ o, u = .frz o (.lst vs)) → H' a = some u ∧ a ∉ μ'.pl
  xd : ∀ a fs, H a = some (.xd fs) → H' a = some (.xd fs)
theorem Ext.refl {G : G0} {μ : Mu} {H : Hp} : Ext G μ H μ H := ⟨⟨[], by simp⟩, rfl, fun _ _ => rfl, fun _ _ h => h, fun _ _ h n _ _ => ⟨h, n⟩, fun _ _ h => h⟩
theorem Ext.trans {G : G0} {μ1 μ2 μ3 : Mu} {H1 H2 H3 : Hp} (a : Ext G μ1 H1 μ2 H2) (b : Ext G μ2 H2 μ3 H3) : Ext G μ1 H1 μ3 H3 := by
  obtain ⟨x, hx⟩ := a.pre
  obtain ⟨y, hy⟩ := b.pre
  exact ⟨⟨x ++ y, by rw [hy, hx, List.append_assoc]⟩, b.hid.trans a.hid, fun c hc => (b.kept c (by rw [a.hid]; exact hc)).trans (a.kept c hc), fun c vs h => b.tup c vs (a.tup c vs h), fun c u h n m q => let ⟨h1, h2⟩ := a.raw c u h n m q; b.raw c u h1 h2 (by rw [a.hid]; exact m) q, fun c fs h => b.xd c fs (a.xd c fs h)⟩
theorem Ext.lst {G : G0} {μ μ' : Mu} {H H' : Hp} (e : Ext G μ H μ' H') (a : Addr) (vs : List V) (h : Lz μ H a vs) : Lz μ' H' a vs := by
  obtain ⟨h, n, m⟩ := h
  obtain ⟨h1, h2⟩ := e.raw a _ h n m ⟨vs, .inl rfl⟩
  exact ⟨h1, h2, by rw [e.hid]; exact m⟩
theorem Ext.lq {G : G0} {μ μ' : Mu} {H H' : Hp} (e : Ext G μ H μ' H') (a : Addr) (vs : List V) (h : Lq G μ H a vs) : Lq G μ' H' a vs := by
  rcases h with ⟨h | ⟨o, h⟩, n, m⟩ | h
  · obtain ⟨h1, h2⟩ := e.raw a _ h n m ⟨vs, .inl rfl⟩
    exact .inl ⟨.inl h1, h2, by rw [e.hid]; exact m⟩
  · obtain ⟨h1, h2⟩ := e.raw a _ h n m ⟨vs, .inr ⟨o, rfl⟩⟩
    exact .inl ⟨.inr ⟨o, h1⟩, h2, by rw [e.hid]; exact m⟩
  · exact .inr h
theorem Ext.at {G : G0} {μ μ' : Mu} {H H' : Hp} (e : Ext G μ H μ' H') {l : Nat} {a : Addr} (h : μ.pl[l]? = some a) : μ'.pl[l]? = some a := by
  obtain ⟨x, hx⟩ := e.pre
  have hl : l < μ.pl.length := (List.getElem?_eq_some_iff.mp h).1
  rw [hx, List.getElem?_append_left hl]
  exact h
/-- the same, but for what is hidden -/
structure Ext0 (G : G0) (μ : Mu) (H : Hp) (μ' : Mu) (H' : Hp) : Prop where
  at_ : ∀ (l : Nat) (a : Addr), μ.pl[l]? = some a → μ'.pl[l]? = some a
  tup : ∀ a vs, SqT G.K H a vs → SqT G.K H' a vs
  lst : ∀ a vs, Lz μ H a vs → Lz μ' H' a vs
  lq : ∀ a vs, Lq G μ H a vs → Lq G μ' H' a vs
theorem Ext.to0 {G : G0} {μ μ' : Mu} {H H' : Hp} (e : Ext G μ H μ' H') : Ext0 G μ H μ' H' := ⟨fun _ _ h => e.at h, e.tup, e.lst, e.lq⟩
mutual
theorem Rep.ext0 {G : G0} {μ μ' : Mu} {H H' : Hp} (e : Ext0 G μ H μ' H') : ∀ {d : D} {v : V}, Rep G μ H d v → Rep G μ' H' d v
  | _, _, .non => .non
  | _, _, .bl b => .bl b
  | _, _, .int i => .int i
  | _, _, .str x => .str x
  | _, _, .tup s r => .tup (e.tup _ _ s) (Reps.ext0 e r)
  | _, _, .ref h => .ref (e.at_ _ _ h)
  | _, _, .scr s => .scr (e.lq _ _ s)
  | _, _, .lst s r => .lst (e.lst _ _ s) (Reps.ext0 e r)
  | _, _, .ty n => .ty n
theorem Reps.ext0 {G : G0} {μ μ' : Mu} {H H' : Hp} (e : Ext0 G μ H μ' H') : ∀ {ds : List D} {vs : List V}, Reps G μ H ds vs → Reps G μ' H' ds vs
  | _, _, .nil => .nil
  | _, _, .cons h t => .cons (Rep.ext0 e h) (Reps.ext0 e t)
end
theorem Rep.ext {G : G0} {μ μ' : Mu} {H H' : Hp} (e : Ext G μ H μ' H') {d : D} {v : V} (r : Rep G μ H d v) : Rep G μ' H' d v := r.ext0 e.to0
theorem Reps.ext {G : G0} {μ μ' : Mu} {H H' : Hp} (e : Ext G μ H μ' H') {ds : List D} {vs : List V} (r : Reps G μ H ds vs) : Reps G μ' H' ds vs := r.ext0 e.to0
section
variable {G : G0} {μ : Mu} {H : Hp}
theorem Reps.length : ∀ {ds : List D} {vs : List V}, Reps G μ H ds vs → ds.length = vs.length
  | _, _, .nil => rfl
  | _, _, .cons _ t => congrArg (· + 1) (Reps.length t)
theorem Reps.get : ∀ {ds : List D} {vs : List V} (i : Nat) {d : D}, Reps G μ H ds vs → ds[i]? = some d → ∃ v, vs[i]? = some v ∧ Rep G μ H d v
  | _, _, _, _, .nil, e => by simp at e
  | _, _, 0, _, .cons h _, e => by simp at e; subst e; exact ⟨_, rfl, h⟩
  | _, _, i + 1, d, .cons _ t, e => by
    obtain ⟨v, h1, h2⟩ := Reps.get (ds := _) i (d := d) t (by simpa using e)
    exact ⟨v, by simpa using h1, h2⟩
theorem Reps.get' : ∀ {ds : List D} {vs : List V} (i : Nat) {v : V}, Reps G μ H ds vs → vs[i]? = some v → ∃ d, ds[i]? = some d ∧ Rep G μ H d v
  | _, _, _, _, .nil, e => by simp at e
  | _, _, 0, _, .cons h _, e => by simp at e; subst e; exact ⟨_, rfl, h⟩
  | _, _, i + 1, v, .cons _ t, e => by
    obtain ⟨d, h1, h2⟩ := Reps.get' (vs := _) i (v := v) t (by simpa using e)
    exact ⟨d, by simpa using h1, h2⟩
theorem Reps.append : ∀ {ds es : List D} {vs ws : List V}, Reps G μ H ds vs → Reps G μ H es ws → Reps G μ H (ds ++ es) (vs ++ ws)
  | _, _, _, _, .nil, s => s
  | _, _, _, _, .cons h t, s => .cons h (Reps.append t s)
theorem Reps.drop : ∀ {ds : List D} {vs : List V} (n : Nat), Reps G μ H ds vs → Reps G μ H (ds.drop n) (vs.drop n)
  | _, _, 0, r => r
  | _, _, _ + 1, .nil => .nil
  | _, _, n + 1, .cons _ t => Reps.drop n t
theorem Reps.take : ∀ {ds : List D} {vs : List V} (n : Nat), Reps G μ H ds vs → Reps G μ H (ds.take n) (vs.take n)
  | _, _, 0, _ => .nil
  | _, _, _ + 1, .nil => .nil
  | _, _, n + 1, .cons h t => .cons h (Reps.take n t)
theorem Reps.set {d : D} {v : V} (r : Rep G μ H d v) : ∀ {ds : List D} {vs : List V} (i : Nat), Reps G μ H ds vs → Reps G μ H (ds.set i d) (vs.set i v)
  | _, _, _, .nil => .nil
  | _, _, 0, .cons _ t => .cons r t
  | _, _, i + 1, .cons h t => .cons h (Reps.set r i t)
theorem Reps.reverse {ds : List D} {vs : List V} (h : Reps G μ H ds vs) : Reps G μ H ds.reverse vs.reverse := by
  induction ds generalizing vs with
  | nil => cases h; exact .nil
  | cons d ds ih =>
    cases h with
    | cons a t => rw [List.reverse_cons, List.reverse_cons]; exact (ih t).append (.cons a .nil)
theorem Reps.ints : ∀ ns : List Int, Reps G μ H (ns.map D.int) (ns.map V.int)
  | [] => .nil
  | i :: r => .cons (.int i) (Reps.ints r)
theorem Reps.strs : ∀ ns : List Str, Reps G μ H (ns.map D.str) (ns.map V.str)
  | [] => .nil
  | i :: r => .cons (.str i) (Reps.strs r)
end

/-- values of dicts, fields -/
def RKs (G : G0) (μ : Mu) (H : Hp) {α : Type} (ds : List (α × D)) (vs : List (α × V)) : Prop := ds.map (·.1) = vs.map (·.1) ∧ Reps G μ H (ds.map (·.2)) (vs.map (·.2))
theorem RKs.ext0 {G : G0} {μ μ' : Mu} {H H' : Hp} {α : Type} {ds : List (α × D)} {vs : List (α × V)} (e : Ext0 G μ H μ' H') (h : RKs G μ H ds vs) : RKs G μ' H' ds vs := ⟨h.1, h.2.ext0 e⟩
theorem RKs.ext {G : G0} {μ μ' : Mu} {H H' : Hp} {α : Type} {ds : List (α × D)} {vs : List (α × V)} (e : Ext G μ H μ' H') (h : RKs G μ H ds vs) : RKs G μ' H' ds vs := ⟨h.1, h.2.ext e⟩
def ORep (G : G0) (μ : Mu) (H : Hp) (o : O) (a : Addr) : Prop := match o with
  | .lst ds => ∃ vs, H a = some (.lst vs) ∧ Reps G μ H ds vs
  | .dead => H a ≠ none
  | .dK kvs => ∃ vs, H a = some (.dK vs) ∧ RKs G μ H kvs vs
  | .dT kvs => ∃ vs, H a = some (.dT vs) ∧ RKs G μ H kvs vs
  | .ins c fs => ∃ C dx vs, G.mg c = some (.ref C) ∧ H a = some (.ins C dx vs) ∧ RKs G μ H fs vs
/-- what a place of ours may hold: nothing that others lean on -/
def Own : HO → Prop
  | .lst _ => True
  | .dK _ => True
  | .dT _ => True
  | .ins _ _ _ => True
  | _ => False
structure StR (G : G0) (μ : Mu) (st : Sto) (H : Hp) : Prop where
  len : μ.pl.length = st.length
  obj : ∀ (l : Nat) (o : O) (a : Addr), st[l]? = some o → μ.pl[l]? = some a → ORep G μ H o a
  own : ∀ a ∈ μ.pl, ∃ u, H a = some u ∧ Own u
  nd : μ.pl.Nodup
  dis : ∀ a ∈ μ.hd, a ∉ μ.pl ∧ ∃ vs, H a = some (.lst vs)
  tab : ∀ P ∈ G.Ps, TabG H P
section
variable {G : G0} {μ μ' : Mu} {st : Sto} {H H' : Hp}
theorem StR.at (S : StR G μ st H) {l : Nat} {o : O} (h : st[l]? = some o) : ∃ a, μ.pl[l]? = some a ∧ ORep G μ H o a := by
  have hl : l < μ.pl.length := by rw [S.len]; exact (List.getElem?_eq_some_iff.mp h).1
  exact ⟨μ.pl[l], by simp [hl], S.obj l o _ h (by simp [hl])⟩
theorem StR.tracked (S : StR G μ st H) {a : Addr} (h : a ∈ μ.pl) : H a ≠ none := by
  obtain ⟨u, e, _⟩ := S.own a h
  rw [e]; intro z; cases z
theorem StR.hid_ne (S : StR G μ st H) {a p : Addr} (h : a ∈ μ.hd) (hp : H p = none) : a ≠ p := fun z => by
  obtain ⟨_, vs, e⟩ := S.dis a h
  rw [z, hp] at e; cases e
theorem ORep.ext0 {o : O} {a : Addr} (e : Ext0 G μ H μ' H') (hs : ∀ x, H a = some x → H' a = some x) (h : ORep G μ H o a) : ORep G μ' H' o a := by
  cases o with
  | lst ds =>
    obtain ⟨vs, h1, h2⟩ := h
    exact ⟨vs, hs _ h1, h2.ext0 e⟩
  | dead =>
    intro z
    have h : H a ≠ none := h
    cases q : H a with
    | none => exact h q
    | some x => rw [hs x q] at z; cases z
  | dK ds =>
    obtain ⟨vs, h1, h2⟩ := h
    exact ⟨vs, hs _ h1, h2.ext0 e⟩
  | dT ds =>
    obtain ⟨vs, h1, h2⟩ := h
    exact ⟨vs, hs _ h1, h2.ext0 e⟩
  | ins c fs =>
    obtain ⟨C, dx, vs, h0, h1, h2⟩ := h
    exact ⟨C, dx, vs, h0, hs _ h1, h2.ext0 e⟩
theorem ORep.ext {o : O} {a : Addr} (e : Ext G μ H μ' H') (hs : ∀ x, H a = some x → H' a = some x) (h : ORep G μ H o a) : ORep G μ' H' o a := h.ext0 e.to0 hs
/-- a fresh address is none of ours -/
theorem sqT_new {K : PySem.W.Frag} {p : Addr} {o : HO} (hp : H p = none) {b : Addr} {vs : List V} (h : SqT K H b vs) : SqT K (upd H p o) b vs := by
  rcases h with (h | ⟨ob, h⟩) | h
  · exact .inl (.inl (by rw [upd_ne (ne_of_none h hp)]; exact h))
  · exact .inl (.inr ⟨ob, by rw [upd_ne (ne_of_none h hp)]; exact h⟩)
  · exact .inr h
theorem rd_new {p a : Addr} {o u : HO} (hp : H p = none) (h : Rd H a u) : Rd (upd H p o) a u := by
  rcases h with h | ⟨ob, h⟩
  · exact .inl (by rw [upd_ne (ne_of_none h hp)]; exact h)
  · exact .inr ⟨ob, by rw [upd_ne (ne_of_none h hp)]; exact h⟩
theorem rd_ne {p a : Addr} {u : HO} (hp : H p = none) (h : Rd H a u) : a ≠ p := by
  rcases h with h | ⟨ob, h⟩
  · exact ne_of_none h hp
  · exact ne_of_none h hp
theorem xd_new {p : Addr} {o : HO} (hp : H p = none) {b : Addr} {fs : List (Str × V)} (h : H b = some (.xd fs)) : upd H p o b = some (.xd fs) := by
  rw [upd_ne (ne_of_none h hp)]; exact h
theorem Ext.new (S : StR G μ st H) {p : Addr} {o : HO} (hp : H p = none) : Ext G μ H μ (upd H p o) := ⟨⟨[], by simp⟩, rfl, fun a ha => upd_ne (S.hid_ne ha hp), fun _ _ h => sqT_new hp h, fun _ _ h n _ _ => ⟨by rw [upd_ne (ne_of_none h hp)]; exact h, n⟩, fun _ _ h => xd_new hp h⟩
theorem Ext.newAt (S : StR G μ st H) {p : Addr} {o : HO} (hp : H p = none) : Ext G μ H (μ.add p) (upd H p o) := ⟨⟨[p], rfl⟩, rfl, fun a ha => upd_ne (S.hid_ne ha hp), fun _ _ h => sqT_new hp h, fun a _ h n _ _ => ⟨by rw [upd_ne (ne_of_none h hp)]; exact h, fun z => by
  rcases List.mem_append.mp z with z | z
  · exact n z
  · simp at z; subst z; rw [hp] at h; cases h⟩, fun _ _ h => xd_new hp h⟩
theorem tabG_new {p P : Addr} {o : HO} (hp : H p = none) (h : TabG H P) : TabG (upd H p o) P := by
  obtain ⟨ps, h1, h2⟩ := h
  exact ⟨ps, by rw [upd_ne (ne_of_none h1 hp)]; exact h1, h2⟩
/-- something new that no place tells of: a tuple, a list that is not written -/
theorem StR.newT (S : StR G μ st H) {p : Addr} {o : HO} (hp : H p = none) : StR G μ st (upd H p o) where
  len := S.len
  obj := fun l ob a h1 h2 => (S.obj l ob a h1 h2).ext (Ext.new S hp) fun x hx => by rw [upd_ne (ne_of_none hx hp)]; exact hx
  own := fun a ha => by
    obtain ⟨u, e, w⟩ := S.own a ha
    exact ⟨u, by rw [upd_ne (ne_of_none e hp)]; exact e, w⟩
  nd := S.nd
  dis := fun a ha => by
    obtain ⟨h1, vs, h2⟩ := S.dis a ha
    exact ⟨h1, vs, by rw [upd_ne (S.hid_ne ha hp)]; exact h2⟩
  tab := fun P hP => tabG_new hp (S.tab P hP)
/-- a new place -/
theorem StR.newO (S : StR G μ st H) {p : Addr} {ho : HO} {o : O} (hp : H p = none) (hw : Own ho) (r : ORep G (μ.add p) (upd H p ho) o p) : StR G (μ.add p) (st ++ [o]) (upd H p ho) where
  len := by simp [Mu.add, S.len]
  obj := fun l ob a h1 h2 => by
    have h2 : (μ.pl ++ [p])[l]? = some a := h2
    by_cases hl : l < st.length
    · rw [List.getElem?_append_left hl] at h1
      rw [List.getElem?_append_left (by rw [S.len]; exact hl)] at h2
      exact (S.obj l ob a h1 h2).ext (Ext.newAt S hp) fun x hx => by rw [upd_ne (ne_of_none hx hp)]; exact hx
    · rw [List.getElem?_append_right (by omega)] at h1
      rw [List.getElem?_append_right (by rw [S.len]; omega)] at h2
      have e1 : l - st.length = 0 := by
        have := (List.getElem?_eq_some_iff.mp h1).1
        simp at this; omega
      have e2 : l - μ.pl.length = 0 := by rw [S.len]; exact e1
      rw [e1] at h1; rw [e2] at h2
      simp at h1 h2
      subst h1; subst h2
      exact r
  own := fun a ha => by
    rcases List.mem_append.mp ha with z | z
    · obtain ⟨u, e, w⟩ := S.own a z
      exact ⟨u, by rw [upd_ne (ne_of_none e hp)]; exact e, w⟩
    · simp at z; subst z; exact ⟨ho, upd_same, hw⟩
  nd := by
    show (μ.pl ++ [p]).Nodup
    rw [List.nodup_append]
    refine ⟨S.nd, by simp, fun a ha b hb => ?_⟩
    simp at hb
    subst hb
    intro e
    subst e
    exact S.tracked ha hp
  dis := fun a ha => by
    obtain ⟨h1, vs, h2⟩ := S.dis a ha
    refine ⟨fun z => ?_, vs, by rw [upd_ne (S.hid_ne ha hp)]; exact h2⟩
    rcases List.mem_append.mp z with z | z
    · exact h1 z
    · simp at z; exact S.hid_ne ha hp z
  tab := fun P hP => tabG_new hp (S.tab P hP)
/-- a new list -/
theorem StR.newL (S : StR G μ st H) {p : Addr} {ds : List D} {vs : List V} (hp : H p = none) (r : Reps G μ H ds vs) : StR G (μ.add p) (st ++ [.lst ds]) (upd H p (.lst vs)) :=
  S.newO hp trivial ⟨vs, upd_same, r.ext (Ext.newAt S hp)⟩
/-- a place is written -/
theorem own_ne {p b : Addr} {u v : HO} (hp : H p = some u) (hu : Own u) (hb : H b = some v) (hv : ¬ Own v) : b ≠ p := fun e => by
  subst e
  rw [hp] at hb
  cases hb
  exact hv hu
theorem sqT_own {K : PySem.W.Frag} {p : Addr} {u y : HO} (hp : H p = some u) (hu : Own u) {b : Addr} {vs : List V} (h : SqT K H b vs) : SqT K (upd H p y) b vs := by
  rcases h with (h | ⟨ob, h⟩) | h
  · exact .inl (.inl (by rw [upd_ne (own_ne hp hu h (fun z => z))]; exact h))
  · exact .inl (.inr ⟨ob, by rw [upd_ne (own_ne hp hu h (fun z => z))]; exact h⟩)
  · exact .inr h
theorem Ext.own (S : StR G μ st H) {p : Addr} {u y : HO} (hm : p ∈ μ.pl) (hp : H p = some u) (hu : Own u) : Ext G μ H μ (upd H p y) :=
  ⟨⟨[], by simp⟩, rfl, fun a ha => upd_ne (fun z : a = p => (S.dis a ha).1 (by rw [z]; exact hm)), fun _ _ h => sqT_own hp hu h, fun a _ h n _ _ => ⟨by rw [upd_ne (fun z : a = p => n (by rw [z]; exact hm))]; exact h, n⟩, fun _ _ h => by rw [upd_ne (own_ne hp hu h (fun z => z))]; exact h⟩
theorem nd_get {μ : List Addr} (hn : μ.Nodup) {i j : Nat} {a : Addr} (h1 : μ[i]? = some a) (h2 : μ[j]? = some a) : i = j := by
  obtain ⟨h1, e1⟩ := List.getElem?_eq_some_iff.mp h1
  obtain ⟨h2, e2⟩ := List.getElem?_eq_some_iff.mp h2
  exact (List.getElem_inj hn).mp (e1.trans e2.symm)
theorem StR.setO (S : StR G μ st H) {l : Nat} {p : Addr} {y : HO} {o : O} (hl : μ.pl[l]? = some p) (hy : Own y) (r : ORep G μ (upd H p y) o p) : StR G μ (st.set l o) (upd H p y) := by
  have hm : p ∈ μ.pl := List.mem_of_getElem? hl
  obtain ⟨u, hp, hu⟩ := S.own p hm
  refine ⟨by simp [S.len], fun k ob a h1 h2 => ?_, fun a ha => ?_, S.nd, fun a ha => ?_, fun P hP => ?_⟩
  · by_cases hk : k = l
    · subst hk
      rw [hl] at h2; cases h2
      have hlt : k < st.length := by rw [← S.len]; exact (List.getElem?_eq_some_iff.mp hl).1
      rw [List.getElem?_set_self hlt] at h1
      cases h1
      exact r
    · rw [List.getElem?_set_ne (Ne.symm hk)] at h1
      have ne : a ≠ p := fun e => by subst e; exact hk (nd_get S.nd h2 hl)
      exact (S.obj k ob a h1 h2).ext (Ext.own S hm hp hu) fun x hx => by rw [upd_ne ne]; exact hx
  · by_cases e : a = p
    · subst e; exact ⟨y, upd_same, hy⟩
    · obtain ⟨v, h1, h2⟩ := S.own a ha
      exact ⟨v, by rw [upd_ne e]; exact h1, h2⟩
  · obtain ⟨h1, vs, h2⟩ := S.dis a ha
    exact ⟨h1, vs, by rw [upd_ne (fun z : a = p => h1 (by rw [z]; exact hm))]; exact h2⟩
  · obtain ⟨ps, h1, h2⟩ := S.tab P hP
    exact ⟨ps, by rw [upd_ne (own_ne hp hu h1 (fun z => z))]; exact h1, h2⟩
theorem Ext.set (S : StR G μ st H) {l : Nat} {p : Addr} {y : HO} (hl : μ.pl[l]? = some p) : Ext G μ H μ (upd H p y) := by
  have hm : p ∈ μ.pl := List.mem_of_getElem? hl
  obtain ⟨u, hp, hu⟩ := S.own p hm
  exact Ext.own S hm hp hu
theorem StR.setL (S : StR G μ st H) {l : Nat} {p : Addr} {ds : List D} {vs : List V} (hl : μ.pl[l]? = some p) (r : Reps G μ H ds vs) : StR G μ (st.set l (.lst ds)) (upd H p (.lst vs)) :=
  S.setO hl trivial ⟨vs, upd_same, r.ext (Ext.set S hl)⟩
/-- a place is let go -/
theorem StR.drop (S : StR G μ st H) {l : Nat} : StR G μ (st.set l .dead) H where
  len := by simp [S.len]
  obj := fun k ob a h1 h2 => by
    by_cases hk : k = l
    · subst hk
      have hlt : k < st.length := by rw [← S.len]; exact (List.getElem?_eq_some_iff.mp h2).1
      rw [List.getElem?_set_self hlt] at h1
      cases h1
      exact S.tracked (List.mem_of_getElem? h2)
    · rw [List.getElem?_set_ne (Ne.symm hk)] at h1
      exact S.obj k ob a h1 h2
  own := S.own
  nd := S.nd
  dis := S.dis
  tab := S.tab
/-- a table has grown -/
theorem sqT_tab {K : PySem.W.Frag} {P : Addr} (hP : TabG H P) (t : Tabbed P H H') {b : Addr} {vs : List V} (h : SqT K H b vs) : SqT K H' b vs := by
  obtain ⟨ps, hp, _⟩ := hP
  rcases h with (h | ⟨ob, h⟩) | h
  · exact .inl (.inl (by rw [t.2 b (ne_of h hp (by intro z; cases z))]; exact h))
  · exact .inl (.inr ⟨ob, by rw [t.2 b (ne_of h hp (by intro z; cases z))]; exact h⟩)
  · exact .inr h
theorem Ext.tabbed (S : StR G μ st H) {P : Addr} (hP : TabG H P) (t : Tabbed P H H') : Ext G μ H μ H' := ⟨⟨[], by simp⟩, rfl, fun a ha => by
  obtain ⟨ps, hp, _⟩ := hP
  obtain ⟨_, vs, e⟩ := S.dis a ha
  exact t.2 a (fun z => by rw [z, hp] at e; cases e), fun _ _ h => sqT_tab hP t h, fun a u h n _ q => ⟨by
  obtain ⟨ps, hp, _⟩ := hP
  have ne : a ≠ P := fun z => by
    subst z; rw [h] at hp; cases hp
    obtain ⟨vs, q | ⟨o, q⟩⟩ := q
    · cases q
    · cases q
  rw [t.2 a ne]; exact h, n⟩, fun a fs h => by
  obtain ⟨ps, hp, _⟩ := hP
  rw [t.2 a (ne_of h hp (by intro z; cases z))]; exact h⟩
theorem StR.tabbed (S : StR G μ st H) {P : Addr} (hP : TabG H P) (t : Tabbed P H H') : StR G μ st H' where
  len := S.len
  obj := fun l ob a h1 h2 => (S.obj l ob a h1 h2).ext (Ext.tabbed S hP t) fun x hx => by
    obtain ⟨ps, hp, _⟩ := hP
    obtain ⟨u, e, w⟩ := S.own a (List.mem_of_getElem? h2)
    have ne : a ≠ P := fun z => by subst z; rw [e] at hp; cases hp; exact w
    rw [t.2 a ne]; exact hx
  own := fun a ha => by
    obtain ⟨ps, hp, _⟩ := hP
    obtain ⟨u, e, w⟩ := S.own a ha
    have ne : a ≠ P := fun z => by subst z; rw [e] at hp; cases hp; exact w
    exact ⟨u, by rw [t.2 a ne]; exact e, w⟩
  nd := S.nd
  dis := fun a ha => by
    obtain ⟨ps, hp, _⟩ := hP
    obtain ⟨h1, vs, e⟩ := S.dis a ha
    exact ⟨h1, vs, by rw [t.2 a (fun z => by rw [z, hp] at e; cases e)]; exact e⟩
  tab := fun Q hQ => by
    by_cases e : Q = P
    · subst e; exact t.1
    · obtain ⟨ps, h1, h2⟩ := S.tab Q hQ
      exact ⟨ps, by rw [t.2 Q e]; exact h1, h2⟩
/-! lists in the making -/
theorem StR.hide (S : StR G μ st H) {p : Addr} (hp : H p = none) : StR G (μ.hide p) st (upd H p (.lst [])) := by
  have x0 : Ext0 G μ H (μ.hide p) (upd H p (.lst [])) := ⟨fun _ _ h => h, fun _ _ h => sqT_new hp h, fun a vs h => ⟨by rw [upd_ne (ne_of_none h.1 hp)]; exact h.1, h.2.1, fun z => by
    rcases List.mem_cons.mp z with z | z
    · exact ne_of_none h.1 hp z
    · exact h.2.2 z⟩, fun a vs h => h.imp (fun h => ⟨rd_new hp h.1, h.2.1, fun z => by
    rcases List.mem_cons.mp z with z | z
    · exact rd_ne hp h.1 z
    · exact h.2.2 z⟩) id⟩
  refine ⟨S.len, fun l o a h1 h2 => (S.obj l o a h1 h2).ext0 x0 fun x hx => by rw [upd_ne (ne_of_none hx hp)]; exact hx, fun a ha => ?_, S.nd, fun a ha => ?_, fun P hP => tabG_new hp (S.tab P hP)⟩
  · obtain ⟨u, e, w⟩ := S.own a ha
    exact ⟨u, by rw [upd_ne (ne_of_none e hp)]; exact e, w⟩
  · rcases List.mem_cons.mp ha with z | z
    · subst z; exact ⟨fun z => S.tracked z hp, [], upd_same⟩
    · obtain ⟨h1, vs, h2⟩ := S.dis a z
      exact ⟨h1, vs, by rw [upd_ne (S.hid_ne z hp)]; exact h2⟩
theorem Ext0.hide {p : Addr} (hp : H p = none) : Ext0 G μ H (μ.hide p) (upd H p (.lst [])) := ⟨fun _ _ h => h, fun _ _ h => sqT_new hp h, fun a vs h => ⟨by rw [upd_ne (ne_of_none h.1 hp)]; exact h.1, h.2.1, fun z => by
    rcases List.mem_cons.mp z with z | z
    · exact ne_of_none h.1 hp z
    · exact h.2.2 z⟩, fun a vs h => h.imp (fun h => ⟨rd_new hp h.1, h.2.1, fun z => by
    rcases List.mem_cons.mp z with z | z
    · exact rd_ne hp h.1 z
    · exact h.2.2 z⟩) id⟩
theorem Ext0.bare {μ : Mu} {hd : List Addr} {p : Addr} (e : μ.hd = p :: hd) : Ext0 G μ H ⟨μ.pl, hd⟩ H := ⟨fun _ _ h => h, fun _ _ h => h, fun a vs h => ⟨h.1, h.2.1, fun z => h.2.2 (by rw [e]; exact List.mem_cons_of_mem _ z)⟩, fun a vs h => h.imp (fun h => ⟨h.1, h.2.1, fun z => h.2.2 (by rw [e]; exact List.mem_cons_of_mem _ z)⟩) id⟩
theorem StR.bare (S : StR G μ st H) {hd : List Addr} {p : Addr} (e : μ.hd = p :: hd) : StR G ⟨μ.pl, hd⟩ st H :=
  ⟨S.len, fun l o a h1 h2 => (S.obj l o a h1 h2).ext0 (Ext0.bare e) fun _ h => h, S.own, S.nd, fun a ha => S.dis a (by rw [e]; exact List.mem_cons_of_mem _ ha), S.tab⟩
theorem Ext.bare {p : Addr} (hn : p ∉ μ.hd) (hp : H p = none) (x : Ext G (μ.hide p) (upd H p (.lst [])) μ' H') (ex : ∀ a ∈ μ.hd, H' a = H a) : Ext G μ H ⟨μ'.pl, μ.hd⟩ H' where
  pre := x.pre
  hid := rfl
  kept := ex
  tup := fun a vs h => x.tup a vs (sqT_new hp h)
  raw := fun a u h n m q => by
    have ne : a ≠ p := ne_of_none h hp
    exact x.raw a u (by rw [upd_ne ne]; exact h) n (fun z => by
      rcases List.mem_cons.mp z with z | z
      · exact ne z
      · exact m z) q
  xd := fun a fs h => x.xd a fs (xd_new hp h)
/-- what is hidden is written -/
theorem Ext0.hset {p : Addr} {y : HO} {xs : List V} (hm : p ∈ μ.hd) (hp : H p = some (.lst xs)) : Ext0 G μ H μ (upd H p y) := ⟨fun _ _ h => h, fun b vs h => by
  rcases h with (h | ⟨ob, h⟩) | h
  · exact .inl (.inl (by rw [upd_ne (ne_of h hp (by intro z; cases z))]; exact h))
  · exact .inl (.inr ⟨ob, by rw [upd_ne (ne_of h hp (by intro z; cases z))]; exact h⟩)
  · exact .inr h, fun a vs h => ⟨by
    have ne : a ≠ p := fun z => h.2.2 (by rw [z]; exact hm)
    rw [upd_ne ne]; exact h.1, h.2⟩, fun a vs h => h.imp (fun h => ⟨by
    have ne : a ≠ p := fun z => h.2.2 (by rw [z]; exact hm)
    rcases h.1 with h | ⟨ob, h⟩
    · exact .inl (by rw [upd_ne ne]; exact h)
    · exact .inr ⟨ob, by rw [upd_ne ne]; exact h⟩, h.2⟩) id⟩
theorem StR.hset (S : StR G μ st H) {p : Addr} {ys : List V} (hm : p ∈ μ.hd) : StR G μ st (upd H p (.lst ys)) := by
  obtain ⟨h1, xs, hp⟩ := S.dis p hm
  refine ⟨S.len, fun l o a q1 q2 => (S.obj l o a q1 q2).ext0 (Ext0.hset hm hp) fun x hx => ?_, fun a ha => ?_, S.nd, fun a ha => ?_, fun P hP => ?_⟩
  · rw [upd_ne (fun z : a = p => h1 (by rw [← z]; exact List.mem_of_getElem? q2))]; exact hx
  · obtain ⟨u, e, w⟩ := S.own a ha
    exact ⟨u, by rw [upd_ne (fun z : a = p => h1 (by rw [← z]; exact ha))]; exact e, w⟩
  · by_cases z : a = p
    · subst z; exact ⟨h1, ys, upd_same⟩
    · obtain ⟨q1, vs, q2⟩ := S.dis a ha
      exact ⟨q1, vs, by rw [upd_ne z]; exact q2⟩
  · obtain ⟨ps, e, w⟩ := S.tab P hP
    exact ⟨ps, by rw [upd_ne (ne_of e hp (by intro z; cases z))]; exact e, w⟩
end

/-- the slots' values -/
structure EnvR (G : G0) (μ : Mu) (H : Hp) (ρ : Rho) (σ : L2.St) : Prop where
  len : σ.length = ρ.length
  get : ∀ (i : Nat) (d : D), ρ[i]? = some (some d) → ∃ v, σ[i]? = some (some v) ∧ Rep G μ H d v
theorem EnvR.ext {G : G0} {μ μ' : Mu} {H H' : Hp} {ρ : Rho} {σ : L2.St} (E : EnvR G μ H ρ σ) (e : Ext G μ H μ' H') : EnvR G μ' H' ρ σ :=
  ⟨E.len, fun i d h => let ⟨v, h1, h2⟩ := E.get i d h; ⟨v, h1, h2.ext e⟩⟩
theorem EnvR.ext0 {G : G0} {μ μ' : Mu} {H H' : Hp} {ρ : Rho} {σ : L2.St} (E : EnvR G μ H ρ σ) (e : Ext0 G μ H μ' H') : EnvR G μ' H' ρ σ :=
  ⟨E.len, fun i d h => let ⟨v, h1, h2⟩ := E.get i d h; ⟨v, h1, h2.ext0 e⟩⟩
theorem EnvR.set {G : G0} {μ : Mu} {H : Hp} {ρ : Rho} {σ : L2.St} (E : EnvR G μ H ρ σ) {i : Nat} {d : D} {v : V} (r : Rep G μ H d v) : EnvR G μ H (ρ.set i (some d)) (σ.set i (some v)) :=
  ⟨by simp [E.len], fun j e h => by
    by_cases hj : j = i
    · subst hj
      have hl : j < ρ.length := by
        have := (List.getElem?_eq_some_iff.mp h).1
        simpa using this
      rw [List.getElem?_set_self hl] at h
      cases h
      exact ⟨v, by rw [List.getElem?_set_self (by rw [E.len]; exact hl)], r⟩
    · rw [List.getElem?_set_ne (Ne.symm hj)] at h
      obtain ⟨w, h1, h2⟩ := E.get j e h
      exact ⟨w, by rw [List.getElem?_set_ne (Ne.symm hj)]; exact h1, h2⟩⟩

/-! ### pieces of Python as functions -/
abbrev FE := Rho → Sto → Option (D × Sto)
abbrev FT := Rho → Sto → Option (Bool × Sto)
abbrev FA := Rho → Sto → Option (List D × Sto)
inductive Fl where
  | nx | rt (d : D) | bk | ct | ex (x : Xc)
/-- an exception as it lies: its class, its dict -/
def XRep (G : G0) (μ : Mu) (H : Hp) (x : Xc) (cls : Value) (d : Option Addr) : Prop := (∃ C, cls = .ref C ∧ G.mg x.cls = some (.ref C)) ∧ match x.fld with
  | none => True
  | some (f, e) => ∃ dd fs v, d = some dd ∧ H dd = some (.xd fs) ∧ fs.lookup f = some v ∧ Rep G μ H e v
theorem XRep.ext {G : G0} {μ μ' : Mu} {H H' : Hp} {x : Xc} {cls : Value} {d : Option Addr} (e : Ext G μ H μ' H') (h : XRep G μ H x cls d) : XRep G μ' H' x cls d := by
  refine ⟨h.1, ?_⟩
  have h := h.2
  cases q : x.fld with
  | none => trivial
  | some p =>
    rw [q] at h
    obtain ⟨dd, fs, v, h1, h2, h3, h4⟩ := h
    exact ⟨dd, fs, v, h1, e.xd _ _ h2, h3, h4.ext e⟩
abbrev FS := Rho → Sto → Option (Fl × Rho × Sto)
abbrev FG := D → Rho → Sto → Option (Rho × Sto)

/-- what is wanted of a value and of what stands behind it -/
def After (G : G0) (μ : Mu) (H : Hp) (d : D) (st' : Sto) (Q : VK) : Prop := ∀ μ' H' v, Ext G μ H μ' H' → StR G μ' st' H' → Rep G μ' H' d v → Q v H'
def lift (G : G0) (f : FE) : TE := fun σ H Q => ∃ ρ μ st d st', EnvR G μ H ρ σ ∧ StR G μ st H ∧ f ρ st = some (d, st') ∧ After G μ H d st' Q
def liftT (G : G0) (f : FT) : TT := fun σ H Q => ∃ ρ μ st b st', EnvR G μ H ρ σ ∧ StR G μ st H ∧ f ρ st = some (b, st') ∧ ∀ μ' H', Ext G μ H μ' H' → StR G μ' st' H' → Q b H'
def liftA (G : G0) (f : FA) : TA := fun σ H Q => ∃ ρ μ st ds st', EnvR G μ H ρ σ ∧ StR G μ st H ∧ f ρ st = some (ds, st') ∧ ∀ μ' H' vs, Ext G μ H μ' H' → StR G μ' st' H' → Reps G μ' H' ds vs → Q vs H'
def endS (G : G0) (W : WX) (μ' : Mu) (H' : Hp) (E : Ends) (fl : Fl) (ρ' : Rho) : Prop := match fl with
  | .ex x => ∀ cls d σ', XRep G μ' H' x cls d → EnvR G μ' H' ρ' σ' → W cls d σ' H'
  | .nx => ∀ σ', EnvR G μ' H' ρ' σ' → E.nx σ' H'
  | .bk => ∀ σ', EnvR G μ' H' ρ' σ' → E.bk σ' H'
  | .ct => ∀ σ', EnvR G μ' H' ρ' σ' → E.ct σ' H'
  | .rt d => ∀ v, Rep G μ' H' d v → E.rt v H'
def liftS (G : G0) (W : WX) (f : FS) : TS := fun E σ H => ∃ ρ μ st fl ρ' st', EnvR G μ H ρ σ ∧ StR G μ st H ∧ f ρ st = some (fl, ρ', st') ∧ ∀ μ' H', Ext G μ H μ' H' → StR G μ' st' H' → endS G W μ' H' E fl ρ'
def liftG (G : G0) (f : FG) : TG := fun v σ H Q => ∃ d ρ μ st ρ' st', Rep G μ H d v ∧ EnvR G μ H ρ σ ∧ StR G μ st H ∧ f d ρ st = some (ρ', st') ∧ ∀ μ' H' σ', Ext G μ H μ' H' → StR G μ' st' H' → EnvR G μ' H' ρ' σ' → Q σ' H'

theorem PE.imp {X : Cx} {e : Expr} {t t' : TE} (h : PE X e t) (i : ∀ σ H Q, t' σ H Q → t σ H Q) : PE X e t' := ⟨fun pins s σ H Q I q => h.run pins s σ H Q I (i σ H Q q)⟩
theorem PT.imp {X : Cx} {e : Expr} {t t' : TT} (h : PT X e t) (i : ∀ σ H Q, t' σ H Q → t σ H Q) : PT X e t' := ⟨fun pins s σ H Q I q => h.run pins s σ H Q I (i σ H Q q)⟩
theorem PW.imp {X : Cx} {e : Expr} {t t' : TT} (h : PW X e t) (i : ∀ σ H Q, t' σ H Q → t σ H Q) : PW X e t' := ⟨fun wh pins s σ H Q I q => h.run wh pins s σ H Q I (i σ H Q q)⟩
theorem PA.imp {X : Cx} {e : List Expr} {t t' : TA} (h : PA X e t) (i : ∀ σ H Q, t' σ H Q → t σ H Q) : PA X e t' := ⟨fun pos pins s σ H Q I q => h.run pos pins s σ H Q I (i σ H Q q)⟩
theorem PS.imp {X : Cx} {e : Stmt} {t t' : TS} (h : PS X e t) (i : ∀ E σ H, t' E σ H → t E σ H) : PS X e t' := ⟨fun pins s σ H E I q => h.run pins s σ H E I (i E σ H q)⟩
theorem PSs.imp {X : Cx} {e : List Stmt} {t t' : TS} (h : PSs X e t) (i : ∀ E σ H, t' E σ H → t E σ H) : PSs X e t' := ⟨fun pins s σ H E I q => h.run pins s σ H E I (i E σ H q)⟩
theorem PG.imp {X : Cx} {e : Expr} {t t' : TG} (h : PG X e t) (i : ∀ v σ H Q, t' v σ H Q → t v σ H Q) : PG X e t' := ⟨fun pins s σ H v u Q I r q => h.run pins s σ H v u Q I r (i v σ H Q q)⟩
theorem OpR.imp {X : Cx} {f : Value → Value → Sem Value} {r r' : R2} (h : OpR X f r) (i : ∀ x y H Q, r' x y H Q → r x y H Q) : OpR X f r' := fun pins s σ H x y v u Q I rx ry q => h pins s σ H x y v u Q I rx ry (i x y H Q q)
theorem PI.imp {X : Cx} {tg e : Expr} {t t' : TI} (h : PI X tg e t) (i : ∀ σ H R, t' σ H R → t σ H R) : PI X tg e t' := ⟨fun pins s σ H R I q => h.run pins s σ H R I (i σ H R q)⟩
end EL

set_option Elab.async false
set_option linter.all false
set_option maxRecDepth 100000
set_option maxHeartbeats 1000000
namespace EL
open PySem PySem.Spec PyProof.Rows L2 GxR LG

/-- the context lies over the same written part -/
structure On (G : G0) (X : Cx) : Prop where
  prog : X.prog = G.P
  w : X.w = G.w
  mg : X.mg = G.mg
  base : X.base = G.base
  K : X.K = G.K
  calm : X.calm = true

section
variable {G : G0} {X : Cx} {pos : Pos} {a b c e : Expr} {fa fb fc : FE}
theorem After.trans {μ μ1 : Mu} {H H1 : Hp} {d : D} {st : Sto} {Q : VK} (x : Ext G μ H μ1 H1) (k : After G μ H d st Q) : After G μ1 H1 d st Q := fun μ' H' v y S R => k μ' H' v (x.trans y) S R

/-! ### values -/
def fC (d : D) : FE := fun _ st => some (d, st)
theorem de_int {i : Int} {j : Nat} : PE X (.Constant (.int i) j pos) (lift G (fC (.int i))) := PE.imp pe_int fun σ H Q ⟨ρ, μ, st, d, st', E, S, e, k⟩ => by cases e; exact k μ H _ .refl S (.int i)
theorem de_bl {i : Bool} {j : Nat} : PE X (.Constant (.bool i) j pos) (lift G (fC (.bl i))) := PE.imp pe_bl fun σ H Q ⟨ρ, μ, st, d, st', E, S, e, k⟩ => by cases e; exact k μ H _ .refl S (.bl i)
theorem de_non {j : Nat} : PE X (.Constant .none j pos) (lift G (fC .non)) := PE.imp pe_non fun σ H Q ⟨ρ, μ, st, d, st', E, S, e, k⟩ => by cases e; exact k μ H _ .refl S .non
theorem de_str {i : Str} {j : Nat} : PE X (.Constant (.str i) j pos) (lift G (fC (.str i))) := PE.imp pe_str fun σ H Q ⟨ρ, μ, st, d, st', E, S, e, k⟩ => by cases e; exact k μ H _ .refl S (.str i)
def fV (i : Nat) : FE := fun ρ st => match ρ[i]? with
  | some (some d) => some (d, st)
  | _ => none
theorem de_var (i : Nat) {x : Str} (hN : X.N[i]? = some x) (hv : Vis X.env.scope x) (hd : (x == ("__debug__" : Str)) = false := by decide) (hcd : (x == ("__classdict__" : Str)) = false := by decide) : PE X (.Name x pos) (lift G (fV i)) :=
  PE.imp (pe_var hN hv hd hcd) fun σ H Q ⟨ρ, μ, st, d, st', E, S, e, k⟩ => by
    unfold fV at e
    split at e
    · rename_i d' h
      cases e
      obtain ⟨v, h1, h2⟩ := E.get i _ h
      exact ⟨v, h1, k μ H v .refl S h2⟩
    · cases e
/-- a module's constant: a number -/
theorem de_gint {x : Str} {i : Int} {t : Tok} (hg : Gl X x) (hm : X.mg x = some (.int i t)) (hd : (x == ("__debug__" : Str)) = false := by decide) : PE X (.Name x pos) (lift G (fC (.int i))) :=
  PE.imp (pe_glob (v := .int i) hg hm ⟨t, rfl⟩ hd) fun σ H Q ⟨ρ, μ, st, d, st', E, S, e, k⟩ => by cases e; exact k μ H _ .refl S (.int i)

/-! ### operators by values -/
def rD (G : G0) (h : D → D → Sto → Option (D × Sto)) : R2 := fun x y H Q => ∃ μ st c d z st', StR G μ st H ∧ Rep G μ H c x ∧ Rep G μ H d y ∧ h c d st = some (z, st') ∧ After G μ H z st' Q
def fOp (h : D → D → Sto → Option (D × Sto)) (fa fb : FE) : FE := fun ρ st => (fa ρ st).bind fun p => (fb ρ p.2).bind fun q => h p.1 q.1 q.2
theorem op_core {h : D → D → Sto → Option (D × Sto)} {σ : L2.St} {H : Hp} {Q : VK} (q : lift G (fOp h fa fb) σ H Q) : tOp (rD G h) (lift G fa) (lift G fb) σ H Q := by
  obtain ⟨ρ, μ, st, d, st', E, S, e, k⟩ := q
  unfold fOp at e
  cases e1 : fa ρ st with
  | none => rw [e1] at e; cases e
  | some p =>
    rw [e1] at e
    simp only [Option.bind_some] at e
    cases e2 : fb ρ p.2 with
    | none => rw [e2] at e; cases e
    | some q =>
      rw [e2] at e
      simp only [Option.bind_some] at e
      exact ⟨ρ, μ, st, p.1, p.2, E, S, e1, fun μ1 H1 v X1 S1 R1 => ⟨ρ, μ1, p.2, q.1, q.2, E.ext X1, S1, e2, fun μ2 H2 w X2 S2 R2 => ⟨μ2, q.2, p.1, q.1, d, st', S2, R1.ext X2, R2, e, (k.trans X1).trans X2⟩⟩⟩
theorem de_op {op : Operator} {h : D → D → Sto → Option (D × Sto)} (ho : OpR X (binaryOp op) (rD G h)) (ha : PE X a (lift G fa)) (hb : PE X b (lift G fb)) : PE X (.BinOp a op b pos) (lift G (fOp h fa fb)) :=
  PE.imp (pe_op ho ha hb) fun _ _ _ => op_core
theorem de_cmp {op : CmpOp} {h : D → D → Sto → Option (D × Sto)} (ho : OpR X (compareOp op) (rD G h)) (ha : PE X a (lift G fa)) (hb : PE X b (lift G fb)) (hm : behindInMarks op b = false) : PE X (.Compare a [op] [b] pos) (lift G (fOp h fa fb)) :=
  PE.imp (pe_cmpR ho ha hb hm) fun _ _ _ => op_core
theorem de_ix {h : D → D → Sto → Option (D × Sto)} (ho : IxR X (rD G h)) (ha : PE X a (lift G fa)) (hb : PE X b (lift G fb)) (hs : PlainIx b) : PE X (.Subscript a b pos) (lift G (fOp h fa fb)) :=
  PE.imp (pe_ix ho ha hb hs) fun _ _ _ => op_core
def fChain (h h' : D → D → Sto → Option (D × Sto)) (fa fb fc : FE) : FE := fun ρ st => (fa ρ st).bind fun p => (fb ρ p.2).bind fun q => (h p.1 q.1 q.2).bind fun r => match r.1 with
  | .bl true => (fc ρ r.2).bind fun z => h' q.1 z.1 z.2
  | .bl false => some (.bl false, r.2)
  | _ => none
theorem de_chain {op op' : CmpOp} {h h' : D → D → Sto → Option (D × Sto)} (ho : OpR X (compareOp op) (rD G h)) (ho' : OpR X (compareOp op') (rD G h')) (ha : PE X a (lift G fa)) (hb : PE X b (lift G fb)) (hc : PE X c (lift G fc))
    (hm : lastMarks [op, op'] [b, c] = false := by with_unfolding_all rfl) : PE X (.Compare a [op, op'] [b, c] pos) (lift G (fChain h h' fa fb fc)) :=
  PE.imp (pe_chain ho ho' ha hb hc hm) fun σ H Q ⟨ρ, μ, st, d, st', E, S, e, k⟩ => by
    unfold fChain at e
    obtain ⟨p, e1, e⟩ := Option.bind_eq_some_iff.mp e
    obtain ⟨q, e2, e⟩ := Option.bind_eq_some_iff.mp e
    obtain ⟨r, e3, e⟩ := Option.bind_eq_some_iff.mp e
    refine ⟨ρ, μ, st, p.1, p.2, E, S, e1, fun μ1 H1 v X1 S1 R1 => ⟨ρ, μ1, p.2, q.1, q.2, E.ext X1, S1, e2, fun μ2 H2 w X2 S2 R2 => ⟨μ2, q.2, p.1, q.1, r.1, r.2, S2, R1.ext X2, R2, e3, fun μ3 H3 u X3 S3 R3 => ?_⟩⟩⟩
    obtain ⟨rd, rs⟩ := r
    cases rd with
    | bl t =>
      cases R3
      refine ⟨t, rfl, ?_⟩
      cases t with
      | true =>
        rw [if_pos rfl]
        obtain ⟨z, e4, e⟩ := Option.bind_eq_some_iff.mp e
        exact ⟨ρ, μ3, rs, z.1, z.2, E.ext (X1.trans (X2.trans X3)), S3, e4, fun μ4 H4 u4 X4 S4 R4 => ⟨μ4, z.2, q.1, z.1, d, st', S4, R2.ext (X3.trans X4), R4, e, (((k.trans X1).trans X2).trans X3).trans X4⟩⟩
      | false =>
        rw [if_neg Bool.false_ne_true]
        cases e
        exact k μ3 H3 _ (X1.trans (X2.trans X3)) S3 (.bl false)
    | non => cases e
    | int _ => cases e
    | str _ => cases e
    | tup _ => cases e
    | ref _ => cases e
    | lst _ => cases e
    | scr _ => cases e
    | ty _ => cases e

/-! ### and, or, not, if else -/
def asB : D → Option Bool
  | .bl b => some b
  | _ => none
theorem asB_rep {μ : Mu} {H : Hp} {d : D} {v : V} {b : Bool} (h : asB d = some b) (r : Rep G μ H d v) : v = .bl b := by
  cases d with
  | bl x => cases h; cases r; rfl
  | _ => cases h
def fAnd (fa fb : FE) : FE := fun ρ st => (fa ρ st).bind fun p => (asB p.1).bind fun k => if k = true then fb ρ p.2 else some (.bl false, p.2)
def fOr (fa fb : FE) : FE := fun ρ st => (fa ρ st).bind fun p => (asB p.1).bind fun k => if k = true then some (.bl true, p.2) else fb ρ p.2
def fNot (fa : FE) : FE := fun ρ st => (fa ρ st).bind fun p => (asB p.1).bind fun k => some (.bl (!k), p.2)
theorem de_one {op : BoolOp} (h : PE X a (lift G fa)) : PE X (.BoolOp op [a] pos) (lift G fa) := pe_one h
theorem de_and {rest : List Expr} (ha : PE X a (lift G fa)) (hb : PE X (.BoolOp .And (b :: rest) pos) (lift G fb)) : PE X (.BoolOp .And (a :: b :: rest) pos) (lift G (fAnd fa fb)) :=
  PE.imp (pe_and ha hb) fun σ H Q ⟨ρ, μ, st, d, st', E, S, e, k⟩ => by
    unfold fAnd at e
    obtain ⟨p, e1, e⟩ := Option.bind_eq_some_iff.mp e
    obtain ⟨t, e2, e⟩ := Option.bind_eq_some_iff.mp e
    refine ⟨ρ, μ, st, p.1, p.2, E, S, e1, fun μ1 H1 v X1 S1 R1 => ⟨t, asB_rep e2 R1, ?_⟩⟩
    cases t with
    | true => rw [if_pos rfl] at e ⊢; exact ⟨ρ, μ1, p.2, d, st', E.ext X1, S1, e, k.trans X1⟩
    | false => rw [if_neg Bool.false_ne_true] at e ⊢; cases e; exact k μ1 H1 _ X1 S1 (.bl false)
theorem de_or {rest : List Expr} (ha : PE X a (lift G fa)) (hb : PE X (.BoolOp .Or (b :: rest) pos) (lift G fb)) : PE X (.BoolOp .Or (a :: b :: rest) pos) (lift G (fOr fa fb)) :=
  PE.imp (pe_or ha hb) fun σ H Q ⟨ρ, μ, st, d, st', E, S, e, k⟩ => by
    unfold fOr at e
    obtain ⟨p, e1, e⟩ := Option.bind_eq_some_iff.mp e
    obtain ⟨t, e2, e⟩ := Option.bind_eq_some_iff.mp e
    refine ⟨ρ, μ, st, p.1, p.2, E, S, e1, fun μ1 H1 v X1 S1 R1 => ⟨t, asB_rep e2 R1, ?_⟩⟩
    cases t with
    | true => rw [if_pos rfl] at e ⊢; cases e; exact k μ1 H1 _ X1 S1 (.bl true)
    | false => rw [if_neg Bool.false_ne_true] at e ⊢; exact ⟨ρ, μ1, p.2, d, st', E.ext X1, S1, e, k.trans X1⟩
theorem de_not (ha : PE X a (lift G fa)) : PE X (.UnaryOp .Not a pos) (lift G (fNot fa)) :=
  PE.imp (pe_not ha) fun σ H Q ⟨ρ, μ, st, d, st', E, S, e, k⟩ => by
    unfold fNot at e
    obtain ⟨p, e1, e⟩ := Option.bind_eq_some_iff.mp e
    obtain ⟨t, e2, e⟩ := Option.bind_eq_some_iff.mp e
    cases e
    exact ⟨ρ, μ, st, p.1, p.2, E, S, e1, fun μ1 H1 v X1 S1 R1 => ⟨t, asB_rep e2 R1, k μ1 H1 _ X1 S1 (.bl _)⟩⟩
/-! tests -/
def fTst (fa : FE) : FT := fun ρ st => (fa ρ st).bind fun p => (asB p.1).bind fun k => some (k, p.2)
theorem dt_val (h : PE X e (lift G fa)) (he : ∀ whole, isTrue e X.env whole = (do let v ← whole; standAt e.pos; holding [v] (truthy v)) := by intro _; rfl) : PT X e (liftT G (fTst fa)) :=
  PT.imp (pt_val h he) fun σ H Q ⟨ρ, μ, st, d, st', E, S, e, k⟩ => by
    unfold fTst at e
    obtain ⟨p, e1, e⟩ := Option.bind_eq_some_iff.mp e
    obtain ⟨t, e2, e⟩ := Option.bind_eq_some_iff.mp e
    cases e
    exact ⟨ρ, μ, st, p.1, p.2, E, S, e1, fun μ1 H1 v X1 S1 R1 => ⟨_, asB_rep e2 R1, k μ1 H1 X1 S1⟩⟩
variable {ta tb : FT}
theorem dt_cmp {op : CmpOp} {h : D → D → Sto → Option (D × Sto)} (ho : OpR X (compareOp op) (rD G h)) (ha : PE X a (lift G fa)) (hb : PE X b (lift G fb)) (hm : behindInMarks op b = false) : PT X (.Compare a [op] [b] pos) (liftT G (fTst (fOp h fa fb))) :=
  PT.imp (pt_cmpR ho ha hb hm) fun σ H Q ⟨ρ, μ, st, d, st', E, S, e, k⟩ => by
    unfold fTst at e
    obtain ⟨p, e1, e⟩ := Option.bind_eq_some_iff.mp e
    obtain ⟨t, e2, e⟩ := Option.bind_eq_some_iff.mp e
    cases e
    exact op_core ⟨ρ, μ, st, p.1, p.2, E, S, e1, fun μ1 H1 v X1 S1 R1 => ⟨_, asB_rep e2 R1, k μ1 H1 X1 S1⟩⟩
theorem chain_core {h h' : D → D → Sto → Option (D × Sto)} {σ : L2.St} {H : Hp} {Q : VK} (q : lift G (fChain h h' fa fb fc) σ H Q) : tChain (rD G h) (rD G h') (lift G fa) (lift G fb) (lift G fc) σ H Q := by
  obtain ⟨ρ, μ, st, d, st', E, S, e, k⟩ := q
  unfold fChain at e
  obtain ⟨p, e1, e⟩ := Option.bind_eq_some_iff.mp e
  obtain ⟨q, e2, e⟩ := Option.bind_eq_some_iff.mp e
  obtain ⟨r, e3, e⟩ := Option.bind_eq_some_iff.mp e
  refine ⟨ρ, μ, st, p.1, p.2, E, S, e1, fun μ1 H1 v X1 S1 R1 => ⟨ρ, μ1, p.2, q.1, q.2, E.ext X1, S1, e2, fun μ2 H2 w X2 S2 R2 => ⟨μ2, q.2, p.1, q.1, r.1, r.2, S2, R1.ext X2, R2, e3, fun μ3 H3 u X3 S3 R3 => ?_⟩⟩⟩
  obtain ⟨rd, rs⟩ := r
  cases rd with
  | bl t =>
    cases R3
    refine ⟨t, rfl, ?_⟩
    cases t with
    | true =>
      rw [if_pos rfl]
      obtain ⟨z, e4, e⟩ := Option.bind_eq_some_iff.mp e
      exact ⟨ρ, μ3, rs, z.1, z.2, E.ext (X1.trans (X2.trans X3)), S3, e4, fun μ4 H4 u4 X4 S4 R4 => ⟨μ4, z.2, q.1, z.1, d, st', S4, R2.ext (X3.trans X4), R4, e, (((k.trans X1).trans X2).trans X3).trans X4⟩⟩
    | false =>
      rw [if_neg Bool.false_ne_true]
      cases e
      exact k μ3 H3 _ (X1.trans (X2.trans X3)) S3 (.bl false)
  | _ => cases e
theorem dt_chain {op op' : CmpOp} {h h' : D → D → Sto → Option (D × Sto)} (ho : OpR X (compareOp op) (rD G h)) (ho' : OpR X (compareOp op') (rD G h')) (ha : PE X a (lift G fa)) (hb : PE X b (lift G fb)) (hc : PE X c (lift G fc))
    (hm : lastMarks [op, op'] [b, c] = false := by with_unfolding_all rfl) : PT X (.Compare a [op, op'] [b, c] pos) (liftT G (fTst (fChain h h' fa fb fc))) :=
  PT.imp (pt_chain ho ho' ha hb hc hm) fun σ H Q ⟨ρ, μ, st, d, st', E, S, e, k⟩ => by
    unfold fTst at e
    obtain ⟨p, e1, e⟩ := Option.bind_eq_some_iff.mp e
    obtain ⟨t, e2, e⟩ := Option.bind_eq_some_iff.mp e
    cases e
    exact chain_core ⟨ρ, μ, st, p.1, p.2, E, S, e1, fun μ1 H1 v X1 S1 R1 => ⟨_, asB_rep e2 R1, k μ1 H1 X1 S1⟩⟩
def fTAnd (ta tb : FT) : FT := fun ρ st => (ta ρ st).bind fun p => if p.1 = true then tb ρ p.2 else some (false, p.2)
def fTOr (ta tb : FT) : FT := fun ρ st => (ta ρ st).bind fun p => if p.1 = true then some (true, p.2) else tb ρ p.2
def fTNot (ta : FT) : FT := fun ρ st => (ta ρ st).bind fun p => some (!p.1, p.2)
theorem dw_and1 (ha : PT X a (liftT G ta)) : PW X (.BoolOp .And [a] pos) (liftT G ta) := pw_and1 ha
theorem dw_or1 (ha : PT X a (liftT G ta)) : PW X (.BoolOp .Or [a] pos) (liftT G ta) := pw_or1 ha
theorem dw_and {rest : List Expr} (ha : PT X a (liftT G ta)) (hb : PW X (.BoolOp .And (b :: rest) pos) (liftT G tb)) : PW X (.BoolOp .And (a :: b :: rest) pos) (liftT G (fTAnd ta tb)) :=
  PW.imp (pw_and ha hb) fun σ H Q ⟨ρ, μ, st, d, st', E, S, e, k⟩ => by
    unfold fTAnd at e
    obtain ⟨p, e1, e⟩ := Option.bind_eq_some_iff.mp e
    refine ⟨ρ, μ, st, p.1, p.2, E, S, e1, fun μ1 H1 X1 S1 => ?_⟩
    cases hp : p.1 with
    | true => rw [hp] at e; rw [if_pos rfl] at e ⊢; exact ⟨ρ, μ1, p.2, d, st', E.ext X1, S1, e, fun μ2 H2 X2 S2 => k μ2 H2 (X1.trans X2) S2⟩
    | false => rw [hp] at e; rw [if_neg Bool.false_ne_true] at e ⊢; cases e; exact k μ1 H1 X1 S1
theorem dw_or {rest : List Expr} (ha : PT X a (liftT G ta)) (hb : PW X (.BoolOp .Or (b :: rest) pos) (liftT G tb)) : PW X (.BoolOp .Or (a :: b :: rest) pos) (liftT G (fTOr ta tb)) :=
  PW.imp (pw_or ha hb) fun σ H Q ⟨ρ, μ, st, d, st', E, S, e, k⟩ => by
    unfold fTOr at e
    obtain ⟨p, e1, e⟩ := Option.bind_eq_some_iff.mp e
    refine ⟨ρ, μ, st, p.1, p.2, E, S, e1, fun μ1 H1 X1 S1 => ?_⟩
    cases hp : p.1 with
    | true => rw [hp] at e; rw [if_pos rfl] at e ⊢; cases e; exact k μ1 H1 X1 S1
    | false => rw [hp] at e; rw [if_neg Bool.false_ne_true] at e ⊢; exact ⟨ρ, μ1, p.2, d, st', E.ext X1, S1, e, fun μ2 H2 X2 S2 => k μ2 H2 (X1.trans X2) S2⟩
theorem dt_not (ha : PT X a (liftT G ta)) : PT X (.UnaryOp .Not a pos) (liftT G (fTNot ta)) :=
  PT.imp (pt_not ha) fun σ H Q ⟨ρ, μ, st, d, st', E, S, e, k⟩ => by
    unfold fTNot at e
    obtain ⟨p, e1, e⟩ := Option.bind_eq_some_iff.mp e
    cases e
    exact ⟨ρ, μ, st, p.1, p.2, E, S, e1, fun μ1 H1 X1 S1 => k μ1 H1 X1 S1⟩
def fIf (ta : FT) (fa fb : FE) : FE := fun ρ st => (ta ρ st).bind fun p => if p.1 = true then fa ρ p.2 else fb ρ p.2
theorem de_if (hc : PT X c (liftT G ta)) (ha : PE X a (lift G fa)) (hb : PE X b (lift G fb)) : PE X (.IfExp c a b pos) (lift G (fIf ta fa fb)) :=
  PE.imp (pe_ifExp hc ha hb) fun σ H Q ⟨ρ, μ, st, d, st', E, S, e, k⟩ => by
    unfold fIf at e
    obtain ⟨p, e1, e⟩ := Option.bind_eq_some_iff.mp e
    refine ⟨ρ, μ, st, p.1, p.2, E, S, e1, fun μ1 H1 X1 S1 => ?_⟩
    cases hp : p.1 with
    | true => rw [hp] at e; rw [if_pos rfl] at e ⊢; exact ⟨ρ, μ1, p.2, d, st', E.ext X1, S1, e, k.trans X1⟩
    | false => rw [hp] at e; rw [if_neg Bool.false_ne_true] at e ⊢; exact ⟨ρ, μ1, p.2, d, st', E.ext X1, S1, e, k.trans X1⟩

/-! ### arguments, displays -/
variable {es : List Expr} {fr : FA}
def fNil : FA := fun _ st => some ([], st)
def fCons (fa : FE) (fr : FA) : FA := fun ρ st => (fa ρ st).bind fun p => (fr ρ p.2).bind fun q => some (p.1 :: q.1, q.2)
theorem da_nil : PA X [] (liftA G fNil) := PA.imp pa_nil fun σ H Q ⟨ρ, μ, st, d, st', E, S, e, k⟩ => by cases e; exact k μ H _ .refl S .nil
theorem da_cons (ha : PE X e (lift G fa)) (hr : PA X es (liftA G fr)) (hs : starEach (e :: es) X.env = (false, eval e X.env) :: starEach es X.env := by rfl) : PA X (e :: es) (liftA G (fCons fa fr)) :=
  PA.imp (pa_cons ha hr hs) fun σ H Q ⟨ρ, μ, st, d, st', E, S, e, k⟩ => by
    unfold fCons at e
    obtain ⟨p, e1, e⟩ := Option.bind_eq_some_iff.mp e
    obtain ⟨q, e2, e⟩ := Option.bind_eq_some_iff.mp e
    cases e
    exact ⟨ρ, μ, st, p.1, p.2, E, S, e1, fun μ1 H1 v X1 S1 R1 => ⟨ρ, μ1, p.2, q.1, q.2, E.ext X1, S1, e2, fun μ2 H2 vs X2 S2 R2 => k μ2 H2 _ (X1.trans X2) S2 (.cons (R1.ext X2) R2)⟩⟩
def fTup (fr : FA) : FE := fun ρ st => (fr ρ st).bind fun p => if p.1.length ≤ sizeLine then some (.tup p.1, p.2) else none
def fLst (fr : FA) : FE := fun ρ st => (fr ρ st).bind fun p => if p.1.length ≤ sizeLine then some (.ref p.2.length, p.2 ++ [.lst p.1]) else none
theorem rep_newL {μ : Mu} {st : Sto} {H : Hp} {p : Addr} {ds : List D} {vs : List V} (S : StR G μ st H) : Rep G (μ.add p) (upd H p (.lst vs)) (.ref st.length) (.ref p) := .ref (by show (μ.pl ++ [p])[st.length]? = some p; rw [← S.len]; simp)
theorem de_tup {j : Nat} (h : PA X es (liftA G fr)) : PE X (.Tuple es j pos) (lift G (fTup fr)) :=
  PE.imp (pe_tup h) fun σ H Q ⟨ρ, μ, st, d, st', E, S, e, k⟩ => by
    unfold fTup at e
    obtain ⟨p, e1, e⟩ := Option.bind_eq_some_iff.mp e
    split at e
    · rename_i hz
      cases e
      refine ⟨ρ, μ, st, p.1, p.2, E, S, e1, fun μ1 H1 vs X1 S1 R1 => ⟨by rw [← R1.length]; exact hz, fun q hq => ?_⟩⟩
      exact k μ1 _ _ (X1.trans (Ext.new S1 hq)) (S1.newT hq) (.tup (SqT.of upd_same) (R1.ext (Ext.new S1 hq)))
    · cases e
theorem de_lst (h : PA X es (liftA G fr)) : PE X (.List es pos) (lift G (fLst fr)) :=
  PE.imp (pe_lst h) fun σ H Q ⟨ρ, μ, st, d, st', E, S, e, k⟩ => by
    unfold fLst at e
    obtain ⟨p, e1, e⟩ := Option.bind_eq_some_iff.mp e
    split at e
    · rename_i hz
      cases e
      refine ⟨ρ, μ, st, p.1, p.2, E, S, e1, fun μ1 H1 vs X1 S1 R1 => ⟨by rw [← R1.length]; exact hz, fun q hq => ?_⟩⟩
      exact k _ _ _ (X1.trans (Ext.newAt S1 hq)) (S1.newL hq R1) (rep_newL (ds := p.1) S1)
    · cases e
/-- a list that is not written later: by value -/
def fLz (fr : FA) : FE := fun ρ st => (fr ρ st).bind fun p => if p.1.length ≤ sizeLine then some (.lst p.1, p.2) else none
theorem rep_newZ {μ : Mu} {st : Sto} {H : Hp} {q : Addr} {ds : List D} {vs : List V} (S : StR G μ st H) (hq : H q = none) (R : Reps G μ H ds vs) : Rep G μ (upd H q (.lst vs)) (.lst ds) (.ref q) :=
  .lst ⟨upd_same, fun z => S.tracked z hq, fun z => S.hid_ne z hq rfl⟩ (R.ext (Ext.new S hq))
theorem de_lz (h : PA X es (liftA G fr)) : PE X (.List es pos) (lift G (fLz fr)) :=
  PE.imp (pe_lst h) fun σ H Q ⟨ρ, μ, st, d, st', E, S, e, k⟩ => by
    unfold fLz at e
    obtain ⟨p, e1, e⟩ := Option.bind_eq_some_iff.mp e
    split at e
    · rename_i hz
      cases e
      refine ⟨ρ, μ, st, p.1, p.2, E, S, e1, fun μ1 H1 vs X1 S1 R1 => ⟨by rw [← R1.length]; exact hz, fun q hq => ?_⟩⟩
      exact k _ _ _ (X1.trans (Ext.new S1 hq)) (S1.newT hq) (rep_newZ S1 hq R1)
    · cases e
/-- a list, wherever it stands -/
def listOf (d : D) (st : Sto) : Option (List D) := match d with
  | .lst ds => some ds
  | .ref l => match st[l]? with
    | some (.lst ds) => some ds
    | _ => none
  | _ => none
theorem list_rep {μ : Mu} {st : Sto} {H : Hp} {d : D} {ds : List D} {v : V} (S : StR G μ st H) (R : Rep G μ H d v) (e : listOf d st = some ds) : ∃ a vs, v = .ref a ∧ SqL G.K H a vs ∧ Reps G μ H ds vs := by
  cases R with
  | lst s r => cases e; exact ⟨_, _, rfl, s.sq, r⟩
  | ref h =>
    unfold listOf at e
    simp only at e
    split at e
    · rename_i hl
      cases e
      obtain ⟨vs, h1, h2⟩ := S.obj _ _ _ hl h
      exact ⟨_, vs, rfl, SqL.of h1, h2⟩
    · cases e
  | _ => cases e
/-- truth of any value -/
def truD (d : D) (st : Sto) : Option Bool := match d with
  | .non => some false
  | .bl b => some b
  | .int i => some (i != 0)
  | .tup ds => some (!ds.isEmpty)
  | .lst ds => some (!ds.isEmpty)
  | .ref l => match st[l]? with
    | some (.lst ds) => some (!ds.isEmpty)
    | some (.dK kvs) => some (!kvs.isEmpty)
    | _ => none
  | _ => none
theorem reps_empty {μ : Mu} {H : Hp} {ds : List D} {vs : List V} (R : Reps G μ H ds vs) : ds.isEmpty = vs.isEmpty := by cases R <;> rfl
theorem tru_rep {μ : Mu} {st : Sto} {H : Hp} {d : D} {b : Bool} {v : V} (S : StR G μ st H) (R : Rep G μ H d v) (e : truD d st = some b) : TruV G.K v H b := by
  cases R with
  | non => cases e; rfl
  | bl b => cases e; rfl
  | int i => cases e; rfl
  | str x => cases e
  | tup s r => cases e; exact .inr (.inl ⟨_, s, by rw [reps_empty r]⟩)
  | lst s r => cases e; exact .inl ⟨_, s.sq, by rw [reps_empty r]⟩
  | ty n => cases e
  | scr s => cases e
  | ref h =>
    unfold truD at e
    simp only at e
    split at e
    · rename_i hl
      cases e
      obtain ⟨vs, h1, h2⟩ := S.obj _ _ _ hl h
      exact .inl ⟨_, SqL.of h1, by rw [reps_empty h2]⟩
    · rename_i hl
      cases e
      obtain ⟨vs, h1, h2⟩ := S.obj _ _ _ hl h
      refine .inr (.inr ⟨_, h1, ?_⟩)
      have := reps_empty h2.2
      simpa using congrArg not this
    · cases e
def fTru (fa : FE) : FT := fun ρ st => (fa ρ st).bind fun p => (truD p.1 p.2).bind fun k => some (k, p.2)
theorem dt_tru (o : On G X) (h : PE X e (lift G fa)) (he : ∀ whole, isTrue e X.env whole = (do let v ← whole; standAt e.pos; holding [v] (truthy v)) := by intro _; rfl) : PT X e (liftT G (fTru fa)) :=
  PT.imp (pt_truth h he) fun σ H Q ⟨ρ, μ, st, d, st', E, S, e, k⟩ => by
    unfold fTru at e
    obtain ⟨p, e1, e⟩ := Option.bind_eq_some_iff.mp e
    obtain ⟨t, e2, e⟩ := Option.bind_eq_some_iff.mp e
    cases e
    exact ⟨ρ, μ, st, p.1, p.2, E, S, e1, fun μ1 H1 v X1 S1 R1 => ⟨_, by rw [o.K]; exact tru_rep S1 R1 e2, k μ1 H1 X1 S1⟩⟩
end
end EL

set_option Elab.async false
set_option linter.all false
set_option maxRecDepth 100000
set_option maxHeartbeats 1000000
namespace EL
open PySem PySem.Spec PyProof.Rows L2 GxR LG

section
variable {G : G0} {W : WX} {X : Cx} {pos : Pos} {a b c e : Expr} {fa fb fc : FE} {ta tb : FT}
/-! ### statements -/
def sSeq (s1 s2 : FS) : FS := fun ρ st => (s1 ρ st).bind fun p => match p.1 with
  | .nx => s2 p.2.1 p.2.2
  | f => some (f, p.2.1, p.2.2)
def sNext : FS := fun ρ st => some (.nx, ρ, st)
def sSet (i : Nat) (fa : FE) : FS := fun ρ st => (fa ρ st).bind fun p => some (.nx, ρ.set i (some p.1), p.2)
def sExpr (fa : FE) : FS := fun ρ st => (fa ρ st).bind fun p => some (.nx, ρ, p.2)
def sRet (fa : FE) : FS := fun ρ st => (fa ρ st).bind fun p => some (.rt p.1, ρ, p.2)
def sRetN : FS := fun ρ st => some (.rt .non, ρ, st)
def sBreak : FS := fun ρ st => some (.bk, ρ, st)
def sCont : FS := fun ρ st => some (.ct, ρ, st)
def sIf (ta : FT) (s1 s2 : FS) : FS := fun ρ st => (ta ρ st).bind fun p => if p.1 = true then s1 ρ p.2 else s2 ρ p.2
variable {st1 : Stmt} {rest body orelse : List Stmt} {s1 s2 : FS}
theorem ds_nil : PSs X [] (liftS G W sNext) := PSs.imp pss_nil fun D σ H ⟨ρ, μ, st, fl, ρ', st', E, S, e, k⟩ => by
  cases e
  exact k μ H .refl S σ E
theorem ds_cons (h1 : PS X st1 (liftS G W s1)) (h2 : PSs X rest (liftS G W s2)) : PSs X (st1 :: rest) (liftS G W (sSeq s1 s2)) :=
  PSs.imp (pss_cons h1 h2) fun D σ H ⟨ρ, μ, st, fl, ρ', st', E, S, e, k⟩ => by
    unfold sSeq at e
    obtain ⟨⟨f1, ρ1, sto1⟩, e1, e⟩ := Option.bind_eq_some_iff.mp e
    refine ⟨ρ, μ, st, f1, ρ1, sto1, E, S, e1, fun μ1 H1 X1 S1 => ?_⟩
    cases f1 with
    | nx => exact fun σ1 E1 => ⟨ρ1, μ1, sto1, fl, ρ', st', E1, S1, e, fun μ2 H2 X2 S2 => k μ2 H2 (X1.trans X2) S2⟩
    | rt d => cases e; exact k μ1 H1 X1 S1
    | bk => cases e; exact k μ1 H1 X1 S1
    | ct => cases e; exact k μ1 H1 X1 S1
    | ex x => cases e; exact k μ1 H1 X1 S1
theorem ds_one (h1 : PS X st1 (liftS G W s1)) : PSs X [st1] (liftS G W s1) := pss_one h1
theorem ds_set {i : Nat} {x : Str} {pos' : Pos} (hN : X.N.Nodup) (hi : X.N[i]? = some x) (hx : Loc X.env.scope x) (he : PE X e (lift G fa)) (hs : swapsWith e (some (.Name x pos')) pos.line X.env = pure false := by rfl)
    (hf : X.fn x = true ∨ X.env.scope.names.lookup x = some .local := by first | exact .inl rfl | exact .inr rfl | assumption) : PS X (.Assign [.Name x pos'] e pos) (liftS G W (sSet i fa)) :=
  PS.imp (ps_set hN hi hx he hs hf) fun D σ H ⟨ρ, μ, st, fl, ρ', st', E, S, e, k⟩ => by
    unfold sSet at e
    obtain ⟨p, e1, e⟩ := Option.bind_eq_some_iff.mp e
    cases e
    exact ⟨ρ, μ, st, p.1, p.2, E, S, e1, fun μ1 H1 v X1 S1 R1 => k μ1 H1 X1 S1 _ ((E.ext X1).set R1)⟩
theorem ds_expr (he : PE X e (lift G fa)) (hs : swapsWith e none pos.line X.env = pure false := by rfl) : PS X (.Expr e pos) (liftS G W (sExpr fa)) :=
  PS.imp (ps_expr he hs) fun D σ H ⟨ρ, μ, st, fl, ρ', st', E, S, e, k⟩ => by
    unfold sExpr at e
    obtain ⟨p, e1, e⟩ := Option.bind_eq_some_iff.mp e
    cases e
    exact ⟨ρ, μ, st, p.1, p.2, E, S, e1, fun μ1 H1 v X1 S1 R1 => k μ1 H1 X1 S1 σ (E.ext X1)⟩
theorem ds_ret (he : PE X e (lift G fa)) : PS X (.Return (some e) pos) (liftS G W (sRet fa)) :=
  PS.imp (ps_ret he) fun D σ H ⟨ρ, μ, st, fl, ρ', st', E, S, e, k⟩ => by
    unfold sRet at e
    obtain ⟨p, e1, e⟩ := Option.bind_eq_some_iff.mp e
    cases e
    exact ⟨ρ, μ, st, p.1, p.2, E, S, e1, fun μ1 H1 v X1 S1 R1 => k μ1 H1 X1 S1 v R1⟩
theorem ds_if (hc : PT X c (liftT G ta)) (ha : PSs X body (liftS G W s1)) (hb : PSs X orelse (liftS G W s2)) : PS X (.If c body orelse pos) (liftS G W (sIf ta s1 s2)) :=
  PS.imp (ps_if hc ha hb) fun D σ H ⟨ρ, μ, st, fl, ρ', st', E, S, e, k⟩ => by
    unfold sIf at e
    obtain ⟨p, e1, e⟩ := Option.bind_eq_some_iff.mp e
    refine ⟨ρ, μ, st, p.1, p.2, E, S, e1, fun μ1 H1 X1 S1 => ?_⟩
    cases hp : p.1 with
    | true => rw [hp] at e; rw [if_pos rfl] at e ⊢; exact ⟨ρ, μ1, p.2, fl, ρ', st', E.ext X1, S1, e, fun μ2 H2 X2 S2 => k μ2 H2 (X1.trans X2) S2⟩
    | false => rw [hp] at e; rw [if_neg Bool.false_ne_true] at e ⊢; exact ⟨ρ, μ1, p.2, fl, ρ', st', E.ext X1, S1, e, fun μ2 H2 X2 S2 => k μ2 H2 (X1.trans X2) S2⟩
theorem ds_break : PS X (.Break pos) (liftS G W sBreak) := PS.imp ps_break fun D σ H ⟨ρ, μ, st, fl, ρ', st', E, S, e, k⟩ => by
  cases e
  exact k μ H .refl S σ E
theorem ds_cont : PS X (.Continue pos) (liftS G W sCont) := PS.imp ps_continue fun D σ H ⟨ρ, μ, st, fl, ρ', st', E, S, e, k⟩ => by
  cases e
  exact k μ H .refl S σ E
theorem ds_pass : PS X (.Pass pos) (liftS G W sNext) := PS.imp ps_pass fun D σ H ⟨ρ, μ, st, fl, ρ', st', E, S, e, k⟩ => by
  cases e
  exact k μ H .refl S σ E
theorem ds_retN : PS X (.Return none pos) (liftS G W sRetN) := PS.imp ps_retN fun D σ H ⟨ρ, μ, st, fl, ρ', st', E, S, e, k⟩ => by
  cases e
  exact k μ H .refl S .non .non

/-! ### targets: a name, or a flat row of names -/
inductive Tg where
  | one (i : Nat) | many (is : List Nat)
def gMany : List Nat → TGs
  | [] => gNil
  | i :: is => gCons (gName i) (gMany is)
def gOf (K : PySem.W.Frag) : Tg → TG
  | .one i => gName i
  | .many is => gTup K is.length (gMany is)
def setM : Rho → List Nat → List D → Rho
  | ρ, i :: is, d :: ds => setM (ρ.set i (some d)) is ds
  | ρ, _, _ => ρ
def tgD : Tg → D → Rho → Option Rho
  | .one i, d, ρ => some (ρ.set i (some d))
  | .many is, .tup ds, ρ => if ds.length = is.length then some (setM ρ is ds) else none
  | .many _, _, _ => none
def Tg.ins : Tg → List Nat
  | .one i => [i]
  | .many is => is
theorem wipe_set_in {vs : List Nat} {i : Nat} (h : i ∈ vs) : ∀ (σ : L2.St) (x : Option V), wipe (σ.set i x) vs = wipe σ vs := by
  induction vs with
  | nil => simp at h
  | cons v vs ih =>
    intro σ x
    unfold wipe
    by_cases hv : i ∈ vs
    · rw [ih hv]
    · have e : i = v := by
        rcases List.mem_cons.mp h with h | h
        · exact h
        · exact absurd h hv
      subst e
      have q : ∀ (us : List Nat) (σ : L2.St), i ∉ us → wipe (σ.set i x) us = (wipe σ us).set i x := by
        intro us
        induction us with
        | nil => intro σ _; rfl
        | cons u us ih2 =>
          intro σ hu
          unfold wipe
          rw [ih2 σ (fun z => hu (List.mem_cons_of_mem _ z))]
          rw [List.set_comm _ _ (fun z => hu (by rw [z]; exact List.mem_cons_self))]
      rw [q vs σ hv, List.set_set]
theorem gMany_ok {μ : Mu} {H : Hp} {vs' : List Nat} : ∀ (is : List Nat) (ds : List D) (vs : List V) (ρ : Rho) (σ : L2.St) (Q : L2.St → Hp → Prop), Reps G μ H ds vs → EnvR G μ H ρ σ → ds.length = is.length →
    (∀ σ', EnvR G μ H (setM ρ is ds) σ' → ((∀ i ∈ is, i ∈ vs') → wipe σ' vs' = wipe σ vs') → Q σ' H) → gMany is vs σ H Q
  | [], [], _, ρ, σ, Q, .nil, E, _, k => ⟨rfl, k σ E fun _ => rfl⟩
  | i :: is, d :: ds, _, ρ, σ, Q, .cons (v := v) h t, E, hl, k => ⟨v, _, rfl, gMany_ok is ds _ (ρ.set i (some d)) (σ.set i (some v)) Q t (E.set h) (by simpa using hl) fun σ' E' w => k σ' E' fun hi => by
      rw [w fun j hj => hi j (List.mem_cons_of_mem _ hj), wipe_set_in (hi i List.mem_cons_self)]⟩
theorem gOf_ok {μ : Mu} {H : Hp} {vs' : List Nat} {tg : Tg} {d : D} {v : V} {ρ ρ' : Rho} {σ : L2.St} {Q : L2.St → Hp → Prop} (R : Rep G μ H d v) (E : EnvR G μ H ρ σ) (e : tgD tg d ρ = some ρ')
    (k : ∀ σ', EnvR G μ H ρ' σ' → ((∀ i ∈ tg.ins, i ∈ vs') → wipe σ' vs' = wipe σ vs') → Q σ' H) : gOf G.K tg v σ H Q := by
  cases tg with
  | one i =>
    cases e
    exact k _ (E.set R) fun hi => wipe_set_in (hi i (by simp [Tg.ins])) _ _
  | many is =>
    cases d with
    | tup ds =>
      have e' : (if ds.length = is.length then some (setM ρ is ds) else none) = some ρ' := e
      split at e'
      · rename_i hl
        cases e'
        cases R with
        | tup s r => exact ⟨_, _, rfl, s, by rw [← r.length]; exact hl, gMany_ok is ds _ ρ σ Q r E hl k⟩
      · cases e'
    | _ => cases e
theorem dg_name {i : Nat} {x : Str} (hN : X.N.Nodup) (hi : X.N[i]? = some x) (hx : Loc X.env.scope x) (hf : X.fn x = true ∨ X.env.scope.names.lookup x = some .local := by first | exact .inl rfl | exact .inr rfl | assumption) :
    PG X (.Name x pos) (gOf G.K (.one i)) := pg_name hN hi hx hf
theorem dgs_nil : PGs X [] (gMany []) := pgs_nil
theorem dgs_cons {es : List Expr} {i : Nat} {is : List Nat} {x : Str} (hN : X.N.Nodup) (hi : X.N[i]? = some x) (hx : Loc X.env.scope x) (h2 : PGs X es (gMany is))
    (hf : X.fn x = true ∨ X.env.scope.names.lookup x = some .local := by first | exact .inl rfl | exact .inr rfl | assumption)
    (ha : (assignEach (.Name x pos :: es) X.env).map (·.2) = assign (.Name x pos) X.env :: (assignEach es X.env).map (·.2) := by rfl) : PGs X (.Name x pos :: es) (gMany (i :: is)) := pgs_cons (pg_name hN hi hx hf) h2
theorem dg_tup {es : List Expr} {k : Nat} {is : List Nat} (o : On G X) (h : PGs X es (gMany is)) (hn : (assignEach es X.env).length = is.length := by rfl) (hst : (assignEach es X.env).findIdx? (·.1) = none := by rfl) : PG X (.Tuple es k pos) (gOf G.K (.many is)) := by
  show PG X _ (gTup G.K is.length (gMany is))
  rw [← o.K]
  exact pg_tup o.calm h hn hst
end
end EL

set_option Elab.async false
set_option linter.all false
set_option maxRecDepth 100000
set_option maxHeartbeats 1000000
namespace EL
open PySem PySem.Spec PyProof.Rows L2 GxR LG

section
variable {G : G0} {W : WX} {X : Cx} {pos : Pos} {a b c e tgt : Expr} {fa fb fc : FE} {ta tb : FT}
/-! ### what is walked -/
abbrev Src := List (Nat × List D)
def Intact (s : Src) (st : Sto) : Prop := ∀ p ∈ s, st[p.1]? = some (.lst p.2)
theorem Intact.nil {st : Sto} : Intact [] st := fun _ h => by simp at h
abbrev FI := Rho → Sto → Option (List D × Src × Sto)
/-- J hands out the items, while the source stands -/
def Feeds (G : G0) (J : It) (μ : Mu) (H : Hp) (items : List D) (src : Src) : Prop := ∀ μ' st' H' (i : Nat), Ext0 G μ H μ' H' → StR G μ' st' H' → Intact src st' →
  (i < items.length → J.go i H' ∧ ∀ x H'', J.yld i H' x H'' → ∃ d, items[i]? = some d ∧ Rep G μ' H'' d x ∧ StR G μ' st' H'' ∧ Ext G μ' H' μ' H'') ∧ (i = items.length → J.stop i H')
def liftI (G : G0) (f : FI) : TI := fun σ H R => ∃ ρ μ st items src st', EnvR G μ H ρ σ ∧ StR G μ st H ∧ f ρ st = some (items, src, st') ∧ ∀ μ' H' J, Ext G μ H μ' H' → StR G μ' st' H' → Feeds G J μ' H' items src → R J H'
theorem PI.or {w1 w2 : TI} (h1 : PI X tgt e w1) (h2 : PI X tgt e w2) : PI X tgt e (fun σ H R => w1 σ H R ∨ w2 σ H R) := ⟨fun pins s σ H R I h => by
  rcases h with h | h
  · exact h1.run pins s σ H R I h
  · exact h2.run pins s σ H R I h⟩
def signs (x : Str) : List D := x.cps.toList.map fun c => .str ⟨#[c]⟩
def iSeq (fa : FE) : FI := fun ρ st => (fa ρ st).bind fun p => match p.1 with
  | .tup ds => some (ds, [], p.2)
  | .ref l => match p.2[l]? with
    | some (.lst ds) => some (ds, [(l, ds)], p.2)
    | _ => none
  | .lst ds => some (ds, [], p.2)
  | .str x => some (signs x, [], p.2)
  | _ => none
theorem feeds_list {μ : Mu} {H : Hp} {l : Nat} {a : Addr} {ds : List D} (ha : μ.pl[l]? = some a) : Feeds G (Itl G.K a) μ H ds [(l, ds)] := by
  intro μ' st' H' i x S hi
  have hi' : st'[l]? = some (.lst ds) := hi (l, ds) (by simp)
  obtain ⟨vs, h1, h2⟩ := S.obj l _ a hi' (x.at_ _ _ ha)
  refine ⟨fun hl => ?_, fun hl => ⟨vs, SqL.of h1, by rw [← h2.length, hl]; exact Nat.le_refl _⟩⟩
  have hv : i < vs.length := by rw [← h2.length]; exact hl
  refine ⟨⟨vs, vs[i], SqL.of h1, by simp [hv]⟩, fun y H'' hy => ?_⟩
  obtain ⟨rfl, hy⟩ := hy
  obtain ⟨d, e1, e2⟩ := h2.get' i (hy vs (SqL.of h1))
  exact ⟨d, e1, e2, S, .refl⟩
theorem feeds_lz {μ : Mu} {H : Hp} {a : Addr} {ds : List D} {vs : List V} (s : Lz μ H a vs) (r : Reps G μ H ds vs) : Feeds G (Itl G.K a) μ H ds [] := by
  intro μ' st' H' i x S _
  have s' : SqL G.K H' a vs := (x.lst _ _ s).sq
  have r' := r.ext0 x
  refine ⟨fun hl => ?_, fun hl => ⟨vs, s', by rw [← r'.length, hl]; exact Nat.le_refl _⟩⟩
  have hv : i < vs.length := by rw [← r'.length]; exact hl
  refine ⟨⟨vs, vs[i], s', by simp [hv]⟩, fun y H'' hy => ?_⟩
  obtain ⟨rfl, hy⟩ := hy
  obtain ⟨d, e1, e2⟩ := r'.get' i (hy vs s')
  exact ⟨d, e1, e2, S, .refl⟩
theorem feeds_tup {μ : Mu} {H : Hp} {a : Addr} {ds : List D} {vs : List V} (s : SqT G.K H a vs) (r : Reps G μ H ds vs) : Feeds G (Itt G.K a) μ H ds [] := by
  intro μ' st' H' i x S _
  have s' := x.tup _ _ s
  have r' := r.ext0 x
  refine ⟨fun hl => ?_, fun hl => ⟨vs, s', by rw [← r'.length, hl]; exact Nat.le_refl _⟩⟩
  have hv : i < vs.length := by rw [← r'.length]; exact hl
  refine ⟨⟨vs, vs[i], s', by simp [hv]⟩, fun y H'' hy => ?_⟩
  obtain ⟨rfl, hy⟩ := hy
  obtain ⟨d, e1, e2⟩ := r'.get' i (hy vs s')
  exact ⟨d, e1, e2, S, .refl⟩
theorem feeds_str {μ : Mu} {H : Hp} {x : Str} : Feeds G (Its x) μ H (signs x) [] := by
  intro μ' st' H' i ex S _
  have len : (signs x).length = x.cps.size := by simp [signs]
  refine ⟨fun hl => ⟨by rw [len] at hl; exact hl, fun y H'' hy => ?_⟩, fun hl => by rw [len] at hl; exact Nat.le_of_eq hl.symm⟩
  obtain ⟨rfl, c, hc, rfl⟩ := hy
  refine ⟨.str ⟨#[c]⟩, ?_, .str _, S, .refl⟩
  unfold signs
  rw [List.getElem?_map, Array.getElem?_toList, hc]
  rfl
theorem di_seq (o : On G X) (h : PE X e (lift G fa)) : PI X tgt e (liftI G (iSeq fa)) := by
  refine PI.imp (PI.or (pi_list h) (PI.or (pi_tup h) (pi_str h))) fun σ H R ⟨ρ, μ, st, items, src, st', E, S, e, k⟩ => ?_
  unfold iSeq at e
  obtain ⟨⟨d, s1⟩, e1, e⟩ := Option.bind_eq_some_iff.mp e
  cases d with
  | tup ds =>
    cases e
    refine .inr (.inl ⟨ρ, μ, st, _, _, E, S, e1, fun μ1 H1 v X1 S1 R1 => ?_⟩)
    cases R1 with
    | tup s r => exact ⟨_, rfl, ⟨_, by rw [o.K]; exact s⟩, k μ1 H1 _ X1 S1 (by rw [o.K]; exact feeds_tup s r)⟩
  | lst ds =>
    cases e
    refine .inl ⟨ρ, μ, st, _, _, E, S, e1, fun μ1 H1 v X1 S1 R1 => ?_⟩
    cases R1 with
    | lst s r => exact ⟨_, rfl, ⟨_, by rw [o.K]; exact s.sq⟩, k μ1 H1 _ X1 S1 (by rw [o.K]; exact feeds_lz s r)⟩
  | str x =>
    cases e
    refine .inr (.inr ⟨ρ, μ, st, _, _, E, S, e1, fun μ1 H1 v X1 S1 R1 => ?_⟩)
    cases R1
    exact ⟨x, rfl, k μ1 H1 _ X1 S1 feeds_str⟩
  | ref l =>
    simp only at e
    split at e
    · rename_i ds hl
      cases e
      refine .inl ⟨ρ, μ, st, _, _, E, S, e1, fun μ1 H1 v X1 S1 R1 => ?_⟩
      cases R1 with
      | ref ha =>
        obtain ⟨vs, h1, _⟩ := S1.obj l _ _ hl ha
        exact ⟨_, rfl, ⟨vs, SqL.of h1⟩, k μ1 H1 _ X1 S1 (by rw [o.K]; exact feeds_list ha)⟩
    · cases e
  | _ => cases e
/-- range(n), range(a, b) -/
def rangeD (lo : Int) (n : Nat) : List D := (List.range n).map fun i => .int (lo + (i : Nat))
theorem feeds_range {μ : Mu} {H : Hp} (lo : Int) (n : Nat) : Feeds G (Itr lo n) μ H (rangeD lo n) [] := by
  intro μ' st' H' i ex S _
  have len : (rangeD lo n).length = n := by simp [rangeD]
  refine ⟨fun hl => ⟨by rw [len] at hl; exact hl, fun y H'' hy => ?_⟩, fun hl => by rw [len] at hl; exact Nat.le_of_eq hl.symm⟩
  obtain ⟨rfl, rfl⟩ := hy
  rw [len] at hl
  refine ⟨.int (lo + (i : Nat)), ?_, .int _, S, .refl⟩
  unfold rangeD
  rw [List.getElem?_map, List.getElem?_range hl]
  rfl
variable {fr : FA}
def iRange1 (fr : FA) : FI := fun ρ st => (fr ρ st).bind fun p => match p.1 with
  | [.int j] => if -(2 ^ 62) ≤ j ∧ j < 2 ^ 62 then some (rangeD 0 j.toNat, [], p.2) else none
  | _ => none
def iRange2 (fr : FA) : FI := fun ρ st => (fr ρ st).bind fun p => match p.1 with
  | [.int i, .int j] => if (-(2 ^ 62) ≤ i ∧ i < 2 ^ 62) ∧ -(2 ^ 62) ≤ j ∧ j < 2 ^ 62 then some (rangeD i (j - i).toNat, [], p.2) else none
  | _ => none
theorem di_range1 {p : Pos} (hg : Gl X "range") (hm : X.mg "range" = none) (ha : PA X [a] (liftA G fr)) (hs : starEach [a] X.env = [(false, eval a X.env)] := by rfl) : PI X tgt (.Call (.Name "range" p) [a] [] pos) (liftI G (iRange1 fr)) :=
  PI.imp (pi_range1 hg hm ha hs) fun σ H R ⟨ρ, μ, st, items, src, st', E, S, e, k⟩ => by
    unfold iRange1 at e
    obtain ⟨⟨ds, s1⟩, e1, e⟩ := Option.bind_eq_some_iff.mp e
    refine ⟨ρ, μ, st, ds, s1, E, S, e1, fun μ1 H1 vs X1 S1 R1 => ?_⟩
    simp only at e
    split at e
    · rename_i j
      split at e
      · rename_i hj
        cases e
        cases R1 with
        | cons h t => cases h; cases t; exact ⟨j, rfl, hj.1, hj.2, k μ1 H1 _ X1 S1 (feeds_range 0 _)⟩
      · cases e
    · cases e
theorem di_range2 {p : Pos} (hg : Gl X "range") (hm : X.mg "range" = none) (ha : PA X [a, b] (liftA G fr)) (hs : starEach [a, b] X.env = [(false, eval a X.env), (false, eval b X.env)] := by rfl) (hs2 : starEach [b] X.env = [(false, eval b X.env)] := by rfl) :
    PI X tgt (.Call (.Name "range" p) [a, b] [] pos) (liftI G (iRange2 fr)) :=
  PI.imp (pi_range2 hg hm ha hs hs2) fun σ H R ⟨ρ, μ, st, items, src, st', E, S, e, k⟩ => by
    unfold iRange2 at e
    obtain ⟨⟨ds, s1⟩, e1, e⟩ := Option.bind_eq_some_iff.mp e
    refine ⟨ρ, μ, st, ds, s1, E, S, e1, fun μ1 H1 vs X1 S1 R1 => ?_⟩
    simp only at e
    split at e
    · rename_i i j
      split at e
      · rename_i hj
        cases e
        cases R1 with
        | cons h t => cases h; cases t with
          | cons h t => cases h; cases t; exact ⟨i, j, rfl, ⟨hj.1.1, hj.1.2, hj.2.1, hj.2.2⟩, k μ1 H1 _ X1 S1 (feeds_range i _)⟩
      · cases e
    · cases e

/-! ### for -/
open Classical in
noncomputable def forD (tg : Tg) (b : FS) (src : Src) : List D → Rho → Sto → Option (Fl × Rho × Sto)
  | [], ρ, st => if Intact src st then some (.nx, ρ, st) else none
  | d :: ds, ρ, st => if Intact src st then (tgD tg d ρ).bind fun ρ1 => (b ρ1 st).bind fun q => match q.1 with
      | .nx => forD tg b src ds q.2.1 q.2.2
      | .ct => forD tg b src ds q.2.1 q.2.2
      | .bk => some (.nx, q.2.1, q.2.2)
      | .rt r => some (.rt r, q.2.1, q.2.2)
      | .ex x => some (.ex x, q.2.1, q.2.2)
    else none
noncomputable def sFor (fi : FI) (tg : Tg) (b : FS) : FS := fun ρ st => (fi ρ st).bind fun p => forD tg b p.2.1 p.1 ρ p.2.2
variable {body : List Stmt} {sb : FS} {fi : FI} {iter : Expr} {tg : Tg}
theorem ds_for (hp : PassesOwn (model X.prog X.w) X.A X.env X.xe) (o : On G X) (hi : PI X tgt iter (liftI G fi)) (hg : PG X tgt (gOf G.K tg)) (hb : PSs X body (liftS G W sb))
    (hs : ∀ x, foldedSetIterable iter X.env x = pure x := by intro _; rfl) : PS X (.For tgt iter body [] pos) (liftS G W (sFor fi tg sb)) :=
  PS.imp (ps_for hp o.calm hi hg hb hs) fun D0 σ H ⟨ρ, μ, st, fl, ρ', st', E, S, e, k⟩ => by
    unfold sFor at e
    obtain ⟨⟨items, src, s1⟩, e1, e⟩ := Option.bind_eq_some_iff.mp e
    refine ⟨ρ, μ, st, items, src, s1, E, S, e1, fun μ1 H1 J X1 S1 F => ?_⟩
    refine ⟨fun i m σ2 H2 => m = items.length - i ∧ i ≤ items.length ∧ ∃ ρ2 μ2 st2, EnvR G μ2 H2 ρ2 σ2 ∧ StR G μ2 st2 H2 ∧ Ext G μ1 H1 μ2 H2 ∧ forD tg sb src (items.drop i) ρ2 st2 = some (fl, ρ', st'),
      ⟨items.length, by simp, Nat.zero_le _, ρ, μ1, s1, E.ext X1, S1, .refl, by simpa using e⟩, ?_⟩
    rintro i m σ2 H2 ⟨rfl, hi2, ρ2, μ2, st2, E2, S2, X2, e2⟩
    by_cases hlt : i < items.length
    · have hd : items.drop i = items[i] :: items.drop (i + 1) := List.drop_eq_getElem_cons hlt
      rw [hd] at e2
      unfold forD at e2
      split at e2
      · rename_i hin
        obtain ⟨ρ3, e3, e2⟩ := Option.bind_eq_some_iff.mp e2
        obtain ⟨⟨f4, ρ4, st4⟩, e4, e2⟩ := Option.bind_eq_some_iff.mp e2
        obtain ⟨go, yl⟩ := (F μ2 st2 H2 i X2.to0 S2 hin).1 hlt
        refine .inr ⟨go, fun σ5 H5 => ∃ ρ5 μ5 st5, EnvR G μ5 H5 ρ5 σ5 ∧ StR G μ5 st5 H5 ∧ Ext G μ1 H1 μ5 H5 ∧ forD tg sb src (items.drop (i + 1)) ρ5 st5 = some (fl, ρ', st'), fun σ5 H5 h5 => ⟨items.length - (i + 1), by omega, rfl, hlt, h5⟩, fun x H3 hy => ?_⟩
        obtain ⟨d, ed, Rd, S3, X3⟩ := yl x H3 hy
        have ed' : d = items[i] := by
          rw [List.getElem?_eq_getElem hlt] at ed
          exact (Option.some.inj ed).symm
        subst ed'
        refine gOf_ok (vs' := []) Rd (E2.ext X3) e3 fun σ6 E6 _ => ?_
        refine ⟨ρ3, μ2, st2, f4, ρ4, st4, E6, S3, e4, fun μ7 H7 X7 S7 => ?_⟩
        have X17 : Ext G μ1 H1 μ7 H7 := X2.trans (X3.trans X7)
        cases f4 with
        | nx => exact fun σ7 E7 => ⟨ρ4, μ7, st4, E7, S7, X17, e2⟩
        | ct => exact fun σ7 E7 => ⟨ρ4, μ7, st4, E7, S7, X17, e2⟩
        | bk => cases e2; exact k μ7 H7 (X1.trans X17) S7
        | rt d => cases e2; exact k μ7 H7 (X1.trans X17) S7
        | ex x => cases e2; exact k μ7 H7 (X1.trans X17) S7
      · cases e2
    · have hi3 : i = items.length := by omega
      rw [hi3, List.drop_length] at e2
      unfold forD at e2
      split at e2
      · rename_i hin
        have stop := (F μ2 _ H2 i X2.to0 S2 hin).2 hi3
        cases e2
        exact .inl ⟨stop, k μ2 H2 (X1.trans X2) S2 σ2 E2⟩
      · cases e2
end
end EL

set_option Elab.async false
set_option linter.all false
set_option maxRecDepth 100000
set_option maxHeartbeats 1000000
namespace EL
open PySem PySem.Spec PyProof.Rows L2 GxR LG RZ

section
variable {G : G0} {W : WX} {X : Cx} {pos : Pos} {a b c e tgt : Expr} {fa fb fc : FE} {ta tb : FT} {fr : FA} {fi : FI} {iter : Expr} {tg : Tg}
/-! ### zip, enumerate -/
def srcOf (d : D) (ds : List D) : Src := match d with
  | .ref l => [(l, ds)]
  | _ => []
/-- a list as it stands later, while its source stands -/
theorem live {μ : Mu} {st : Sto} {H : Hp} {d : D} {a : Addr} {ds : List D} (S : StR G μ st H) (R : Rep G μ H d (.ref a)) (e : listOf d st = some ds) :
    ∀ μ' st' H', Ext0 G μ H μ' H' → StR G μ' st' H' → Intact (srcOf d ds) st' → ∃ vs, SqL G.K H' a vs ∧ Reps G μ' H' ds vs := by
  intro μ' st' H' x S' hi
  cases R with
  | lst s r => cases e; exact ⟨_, (x.lst _ _ s).sq, r.ext0 x⟩
  | ref h =>
    have hi' := hi (_, ds) List.mem_cons_self
    obtain ⟨vs, h1, h2⟩ := S'.obj _ _ a hi' (x.at_ _ _ h)
    exact ⟨vs, SqL.of h1, h2⟩
  | tup s r => cases e
  | scr s => cases e
theorem intact_app {s t : Src} {st : Sto} : Intact (s ++ t) st ↔ Intact s st ∧ Intact t st := by
  constructor
  · intro h
    exact ⟨fun p hp => h p (List.mem_append_left _ hp), fun p hp => h p (List.mem_append_right _ hp)⟩
  · rintro ⟨h1, h2⟩ p hp
    rcases List.mem_append.mp hp with q | q
    · exact h1 p q
    · exact h2 p q

/-! ### comprehensions -/
def wipeD (ρ : Rho) : List Nat → Rho
  | [] => ρ
  | v :: vs => (wipeD ρ vs).set v none
theorem wipe_get (σ : L2.St) : ∀ (vs : List Nat) (i : Nat), (wipe σ vs)[i]? = if i ∈ vs then (σ[i]?).map (fun _ => none) else σ[i]?
  | [], i => by simp [wipe]
  | v :: vs, i => by
    unfold wipe
    rw [List.getElem?_set]
    have ih := wipe_get σ vs i
    by_cases h : v = i
    · subst h
      rw [if_pos rfl]
      have hl := wipe_length σ vs
      by_cases hl2 : v < σ.length
      · simp [hl, hl2]
      · simp [hl, hl2]
    · rw [if_neg h, ih]
      by_cases hm : i ∈ vs
      · simp [hm]
      · simp [hm, Ne.symm h]
theorem wipe_idem (σ : L2.St) (vs : List Nat) : wipe (wipe σ vs) vs = wipe σ vs := by
  apply List.ext_getElem?
  intro i
  rw [wipe_get, wipe_get]
  by_cases h : i ∈ vs
  · simp only [h, if_true]
    cases σ[i]? <;> rfl
  · simp [h]
theorem wipeD_length (ρ : Rho) : ∀ vs : List Nat, (wipeD ρ vs).length = ρ.length
  | [] => rfl
  | v :: vs => by unfold wipeD; rw [List.length_set, wipeD_length ρ vs]
theorem wipeD_some {ρ : Rho} {i : Nat} {x : D} : ∀ {vs : List Nat}, (wipeD ρ vs)[i]? = some (some x) → ρ[i]? = some (some x) ∧ i ∉ vs
  | [], h => ⟨h, by simp⟩
  | v :: vs, h => by
    unfold wipeD at h
    rw [List.getElem?_set] at h
    split at h
    · split at h <;> cases h
    · rename_i hne
      obtain ⟨h1, h2⟩ := wipeD_some h
      exact ⟨h1, by simp [h2, Ne.symm hne]⟩
theorem EnvR.wipe {μ : Mu} {H : Hp} {ρ : Rho} {σ : L2.St} (E : EnvR G μ H ρ σ) (vs : List Nat) : EnvR G μ H (wipeD ρ vs) (L2.wipe σ vs) :=
  ⟨by rw [wipe_length, wipeD_length]; exact E.len, fun i d h => by
    obtain ⟨h1, h2⟩ := wipeD_some h
    obtain ⟨v, q1, q2⟩ := E.get i d h1
    exact ⟨v, by rw [wipe_get, if_neg h2]; exact q1, q2⟩⟩
open Classical in
noncomputable def lcD (tg : Tg) (tt : FT) (fe : FE) (l : Nat) (src : Src) (ρ : Rho) : List D → Sto → Option Sto
  | [], st => if Intact src st then some st else none
  | d :: ds, st => if Intact src st then (tgD tg d ρ).bind fun ρ1 => (tt ρ1 st).bind fun b => if b.1 = true then (fe ρ1 b.2).bind fun y => match y.2[l]? with
        | some (.lst acc) => if acc.length < sizeLine then lcD tg tt fe l src ρ ds (y.2.set l (.lst (acc ++ [y.1]))) else none
        | _ => none
      else lcD tg tt fe l src ρ ds b.2
    else none
noncomputable def fLc (fi : FI) (tg : Tg) (tt : FT) (fe : FE) (vs : List Nat) : FE := fun ρ st => (fi ρ st).bind fun p => (lcD tg tt fe p.2.2.length p.2.1 (wipeD ρ vs) p.1 (p.2.2 ++ [.lst []])).bind fun st' => some (.ref p.2.2.length, st')
def fYes : FT := fun _ st => some (true, st)
theorem lc_data {tt : FT} {fe : FE} {vs : List Nat} (hin : ∀ i ∈ tg.ins, i ∈ vs) {σ : L2.St} {H : Hp} {Q : VK} (q : lift G (fLc fi tg tt fe vs) σ H Q) : tLc (liftI G fi) (gOf G.K tg) (liftT G tt) (lift G fe) vs σ H Q := by
  obtain ⟨ρ, μ, st, d, st', E, S, e, k⟩ := q
  unfold fLc at e
  obtain ⟨⟨items, src, s1⟩, e1, e⟩ := Option.bind_eq_some_iff.mp e
  obtain ⟨sf, e2, e⟩ := Option.bind_eq_some_iff.mp e
  obtain ⟨rfl, rfl⟩ : D.ref s1.length = d ∧ sf = st' := by
    have q := Option.some.inj e
    exact ⟨congrArg Prod.fst q, congrArg Prod.snd q⟩
  refine ⟨ρ, μ, st, items, src, s1, E, S, e1, fun μ1 H1 J X1 S1 F Da hD => ?_⟩
  have XD : Ext G μ1 H1 (μ1.add Da) (upd H1 Da (.lst [])) := Ext.newAt S1 hD
  have atD : (μ1.add Da).pl[s1.length]? = some Da := by show (μ1.pl ++ [Da])[s1.length]? = some Da; rw [← S1.len]; simp
  refine ⟨fun i m H2 => m = items.length - i ∧ i ≤ items.length ∧ ∃ μ2 st2, StR G μ2 st2 H2 ∧ Ext G (μ1.add Da) (upd H1 Da (.lst [])) μ2 H2 ∧ lcD tg tt fe s1.length src (wipeD ρ vs) (items.drop i) st2 = some sf,
    ⟨items.length, by simp, Nat.zero_le _, μ1.add Da, _, S1.newL hD .nil, .refl, by simpa using e2⟩, ?_⟩
  rintro i m H2 ⟨rfl, hi2, μ2, st2, S2, X2, e3⟩
  have X12 : Ext G μ1 H1 μ2 H2 := XD.trans X2
  by_cases hlt : i < items.length
  · have hd : items.drop i = items[i] :: items.drop (i + 1) := List.drop_eq_getElem_cons hlt
    rw [hd] at e3
    unfold lcD at e3
    split at e3
    · rename_i hin2
      obtain ⟨ρ3, e4, e3⟩ := Option.bind_eq_some_iff.mp e3
      obtain ⟨⟨tb, s5⟩, e5, e3⟩ := Option.bind_eq_some_iff.mp e3
      obtain ⟨go, yl⟩ := (F μ2 st2 H2 i X12.to0 S2 hin2).1 hlt
      refine .inr ⟨go, fun H5 => ∃ μ5 st5, StR G μ5 st5 H5 ∧ Ext G (μ1.add Da) (upd H1 Da (.lst [])) μ5 H5 ∧ lcD tg tt fe s1.length src (wipeD ρ vs) (items.drop (i + 1)) st5 = some sf, fun H5 h5 => ⟨items.length - (i + 1), by omega, rfl, hlt, h5⟩, fun x H3 hy => ?_⟩
      obtain ⟨dd, ed, Rd, S3, X3⟩ := yl x H3 hy
      have ed' : dd = items[i] := by
        rw [List.getElem?_eq_getElem hlt] at ed
        exact (Option.some.inj ed).symm
      subst ed'
      have E3 : EnvR G μ2 H3 (wipeD ρ vs) (L2.wipe σ vs) := (E.ext (X1.trans (X12.trans X3))).wipe vs
      refine gOf_ok (vs' := vs) Rd E3 e4 fun σ6 E6 hw => ⟨(hw hin).trans (wipe_idem σ vs), ?_⟩
      refine ⟨ρ3, μ2, st2, tb, s5, E6, S3, e5, fun μ7 H7 X7 S7 => ?_⟩
      cases tb with
      | true =>
        rw [if_pos rfl] at e3 ⊢
        obtain ⟨⟨y, s8⟩, e8, e3⟩ := Option.bind_eq_some_iff.mp e3
        refine ⟨ρ3, μ7, s5, y, s8, E6.ext X7, S7, e8, fun μ9 H9 v X9 S9 R9 => ?_⟩
        simp only at e3
        split at e3
        · rename_i acc hacc
          split at e3
          · rename_i hz
            have XA : Ext G (μ1.add Da) (upd H1 Da (.lst [])) μ9 H9 := X2.trans (X3.trans (X7.trans X9))
            have hDa := XA.at atD
            obtain ⟨accV, h1, h2⟩ := S9.obj _ _ _ hacc hDa
            refine ⟨accV, h1, by rw [← h2.length]; exact hz, μ9, _, S9.setL hDa (h2.append (.cons R9 .nil)), XA.trans (Ext.set S9 hDa), e3⟩
          · cases e3
        · cases e3
      | false =>
        rw [if_neg Bool.false_ne_true] at e3 ⊢
        exact ⟨μ7, s5, S7, X2.trans (X3.trans X7), e3⟩
    · cases e3
  · have hi3 : i = items.length := by omega
    rw [hi3, List.drop_length] at e3
    unfold lcD at e3
    split at e3
    · rename_i hin2
      have stop := (F μ2 _ H2 i X12.to0 S2 hin2).2 hi3
      cases e3
      exact .inl ⟨stop, k μ2 H2 _ (X1.trans X12) S2 (.ref (X2.at atD))⟩
    · cases e3
open Classical in
/-- by value -/
noncomputable def lcZ (tg : Tg) (tt : FT) (fe : FE) (src : Src) (ρ : Rho) : List D → Sto → Option (List D × Sto)
  | [], st => if Intact src st then some ([], st) else none
  | d :: ds, st => if Intact src st then (tgD tg d ρ).bind fun ρ1 => (tt ρ1 st).bind fun b => if b.1 = true then (fe ρ1 b.2).bind fun y => (lcZ tg tt fe src ρ ds y.2).bind fun r => some (y.1 :: r.1, r.2)
      else lcZ tg tt fe src ρ ds b.2
    else none
noncomputable def fLcZ (fi : FI) (tg : Tg) (tt : FT) (fe : FE) (vs : List Nat) : FE := fun ρ st => (fi ρ st).bind fun p => (lcZ tg tt fe p.2.1 (wipeD ρ vs) p.1 p.2.2).bind fun r => if r.1.length ≤ sizeLine then some (.lst r.1, r.2) else none
theorem Ext.step {μ1 μ2 μ3 : Mu} {H1 H2 H3 : Hp} {Da : Addr} {hd : List Addr} (x : Ext G μ1 H1 ⟨μ2.pl, hd⟩ H2) (e : μ2.hd = Da :: hd) (hD : H1 Da = none) (y : Ext G μ2 H2 μ3 H3) : Ext G μ1 H1 ⟨μ3.pl, hd⟩ H3 := by
  obtain ⟨m1, p1⟩ := x.pre
  obtain ⟨m2, p2⟩ := y.pre
  refine ⟨⟨m1 ++ m2, by rw [p2]; show μ2.pl ++ m2 = _; rw [show μ2.pl = μ1.pl ++ m1 from p1, List.append_assoc]⟩, x.hid, fun a ha => ?_, fun a vs h => y.tup a vs (x.tup a vs h), fun a u h n m q => ?_, fun a fs h => y.xd a fs (x.xd a fs h)⟩
  · have := x.hid
    simp only at this
    rw [y.kept a (by rw [e, this]; exact List.mem_cons_of_mem _ ha)]
    exact x.kept a ha
  · obtain ⟨h1, h2⟩ := x.raw a u h n m q
    refine y.raw a u h1 h2 (fun z => ?_) q
    have := x.hid
    simp only at this
    rw [e] at z
    rcases List.mem_cons.mp z with z | z
    · exact ne_of_none h hD z
    · rw [this] at z; exact m z
theorem Ext.stepSet {μ1 : Mu} {pl hd : List Addr} {H1 H2 : Hp} {Da : Addr} {xs ys : List V} (x : Ext G μ1 H1 ⟨pl, hd⟩ H2) (hD : H1 Da = none) (h2 : H2 Da = some (.lst xs)) (nd : Da ∉ μ1.hd) : Ext G μ1 H1 ⟨pl, hd⟩ (upd H2 Da (.lst ys)) := by
  refine ⟨x.pre, x.hid, fun a ha => ?_, fun b vs h => ?_, fun a u h n m q => ?_, fun a fs h => ?_⟩
  · rw [upd_ne (fun z : a = Da => nd (by rw [← z]; exact ha))]; exact x.kept a ha
  · rcases x.tup b vs h with (h | ⟨ob, h⟩) | h
    · exact .inl (.inl (by rw [upd_ne (ne_of h h2 (by intro z; cases z))]; exact h))
    · exact .inl (.inr ⟨ob, by rw [upd_ne (ne_of h h2 (by intro z; cases z))]; exact h⟩)
    · exact .inr h
  · obtain ⟨h1, h3⟩ := x.raw a u h n m q
    exact ⟨by rw [upd_ne (ne_of_none h hD)]; exact h1, h3⟩
  · have := x.xd a fs h
    rw [upd_ne (ne_of this h2 (by intro z; cases z))]; exact this
theorem lcZ_data {tt : FT} {fe : FE} {vs : List Nat} (hin : ∀ i ∈ tg.ins, i ∈ vs) {σ : L2.St} {H : Hp} {Q : VK} (q : lift G (fLcZ fi tg tt fe vs) σ H Q) : tLc (liftI G fi) (gOf G.K tg) (liftT G tt) (lift G fe) vs σ H Q := by
  obtain ⟨ρ, μ, st, d, st', E, S, e, k⟩ := q
  unfold fLcZ at e
  obtain ⟨⟨items, src, s1⟩, e1, e⟩ := Option.bind_eq_some_iff.mp e
  obtain ⟨⟨ds, sf⟩, e2, e⟩ := Option.bind_eq_some_iff.mp e
  simp only at e
  split at e
  · rename_i hz
    obtain ⟨rfl, rfl⟩ : D.lst ds = d ∧ sf = st' := by
      have q := Option.some.inj e
      exact ⟨congrArg Prod.fst q, congrArg Prod.snd q⟩
    refine ⟨ρ, μ, st, items, src, s1, E, S, e1, fun μ1 H1 J X1 S1 F Da hD => ?_⟩
    have nD : Da ∉ μ1.hd := fun z => S1.hid_ne z hD rfl
    refine ⟨fun i m H2 => m = items.length - i ∧ i ≤ items.length ∧ ∃ μ2 st2 acc accV r, StR G μ2 st2 H2 ∧ Ext G μ1 H1 ⟨μ2.pl, μ1.hd⟩ H2 ∧ μ2.hd = Da :: μ1.hd ∧ H2 Da = some (.lst accV) ∧ Reps G μ2 H2 acc accV ∧ lcZ tg tt fe src (wipeD ρ vs) (items.drop i) st2 = some (r, sf) ∧ acc ++ r = ds,
      ⟨items.length, by simp, Nat.zero_le _, μ1.hide Da, s1, [], [], ds, S1.hide hD, Ext.bare nD hD .refl fun a ha => upd_ne (S1.hid_ne ha hD), rfl, upd_same, .nil, by simpa using e2, rfl⟩, ?_⟩
    rintro i m H2 ⟨rfl, hi2, μ2, st2, acc, accV, r, S2, X2, h2, hDa, RA, e3, er⟩
    have X2' : Ext0 G μ1 H1 μ2 H2 := by
      refine ⟨X2.to0.at_, X2.to0.tup, fun a vs h => ?_, fun a vs h => ?_⟩
      · obtain ⟨q1, q2, q3⟩ := X2.to0.lst a vs h
        refine ⟨q1, q2, fun z => ?_⟩
        rw [h2] at z
        rcases List.mem_cons.mp z with z | z
        · exact ne_of_none h.1 hD z
        · exact q3 z
      · have q := X2.to0.lq a vs h
        rcases h with ⟨h, _⟩ | h
        · rcases q with ⟨q1, q2, q3⟩ | q
          · refine .inl ⟨q1, q2, fun z => ?_⟩
            rw [h2] at z
            rcases List.mem_cons.mp z with z | z
            · exact rd_ne hD h z
            · exact q3 z
          · exact .inr q
        · exact .inr h
    by_cases hlt : i < items.length
    · have hd : items.drop i = items[i] :: items.drop (i + 1) := List.drop_eq_getElem_cons hlt
      rw [hd] at e3
      unfold lcZ at e3
      split at e3
      · rename_i hin2
        obtain ⟨ρ3, e4, e3⟩ := Option.bind_eq_some_iff.mp e3
        obtain ⟨⟨tb, s5⟩, e5, e3⟩ := Option.bind_eq_some_iff.mp e3
        obtain ⟨go, yl⟩ := (F μ2 st2 H2 i X2' S2 hin2).1 hlt
        refine .inr ⟨go, fun H5 => ∃ μ5 st5 acc accV r, StR G μ5 st5 H5 ∧ Ext G μ1 H1 ⟨μ5.pl, μ1.hd⟩ H5 ∧ μ5.hd = Da :: μ1.hd ∧ H5 Da = some (.lst accV) ∧ Reps G μ5 H5 acc accV ∧ lcZ tg tt fe src (wipeD ρ vs) (items.drop (i + 1)) st5 = some (r, sf) ∧ acc ++ r = ds, fun H5 h5 => ⟨items.length - (i + 1), by omega, rfl, hlt, h5⟩, fun x H3 hy => ?_⟩
        obtain ⟨dd, ed, Rd, S3, X3⟩ := yl x H3 hy
        have ed' : dd = items[i] := by
          rw [List.getElem?_eq_getElem hlt] at ed
          exact (Option.some.inj ed).symm
        subst ed'
        have E3 : EnvR G μ2 H3 (wipeD ρ vs) (L2.wipe σ vs) := (((E.ext X1).ext0 X2').ext X3).wipe vs
        refine gOf_ok (vs' := vs) Rd E3 e4 fun σ6 E6 hw => ⟨(hw hin).trans (wipe_idem σ vs), ?_⟩
        refine ⟨ρ3, μ2, st2, tb, s5, E6, S3, e5, fun μ7 H7 X7 S7 => ?_⟩
        have mD : Da ∈ μ2.hd := by rw [h2]; exact List.mem_cons_self
        cases tb with
        | true =>
          rw [if_pos rfl] at e3
          show lift G fe σ6 H7 _
          obtain ⟨⟨y, s8⟩, e8, e3⟩ := Option.bind_eq_some_iff.mp e3
          obtain ⟨⟨r', sf'⟩, e9, e3⟩ := Option.bind_eq_some_iff.mp e3
          obtain ⟨rfl, rfl⟩ : y :: r' = r ∧ sf' = sf := by
            have q := Option.some.inj e3
            exact ⟨congrArg Prod.fst q, congrArg Prod.snd q⟩
          refine ⟨ρ3, μ7, s5, y, s8, E6.ext X7, S7, e8, fun μ9 H9 v X9 S9 R9 => ?_⟩
          have X29 : Ext G μ2 H2 μ9 H9 := X3.trans (X7.trans X9)
          have h9 : H9 Da = some (.lst accV) := (X29.kept Da mD).trans hDa
          have m9 : Da ∈ μ9.hd := by rw [X29.hid]; exact mD
          have R' := (RA.ext X29).append (.cons R9 .nil)
          refine ⟨accV, h9, ?_, μ9, s8, acc ++ [y], accV ++ [v], r', S9.hset m9, (X2.step h2 hD X29).stepSet hD h9 nD, by rw [X29.hid]; exact h2, upd_same, R'.ext0 (Ext0.hset m9 h9), e9, by rw [List.append_assoc]; exact er⟩
          rw [← RA.length]
          have : (acc ++ y :: r').length ≤ sizeLine := by rw [er]; exact hz
          simp at this
          omega
        | false =>
          rw [if_neg Bool.false_ne_true] at e3
          have X27 : Ext G μ2 H2 μ7 H7 := X3.trans X7
          exact ⟨μ7, s5, acc, accV, r, S7, X2.step h2 hD X27, by rw [X27.hid]; exact h2, (X27.kept Da mD).trans hDa, RA.ext X27, e3, er⟩
      · cases e3
    · have hi3 : i = items.length := by omega
      rw [hi3, List.drop_length] at e3
      unfold lcZ at e3
      split at e3
      · rename_i hin2
        have stop := (F μ2 _ H2 i X2' S2 hin2).2 hi3
        obtain ⟨rfl, rfl⟩ : ([] : List D) = r ∧ st2 = sf := by
          have q := Option.some.inj e3
          exact ⟨congrArg Prod.fst q, congrArg Prod.snd q⟩
        rw [List.append_nil] at er
        subst er
        have mD : Da ∈ μ2.hd := by rw [h2]; exact List.mem_cons_self
        exact .inl ⟨stop, k ⟨μ2.pl, μ1.hd⟩ H2 _ (X1.trans X2) (S2.bare h2) (.lst ⟨hDa, (S2.dis Da mD).1, nD⟩ (RA.ext0 (Ext0.bare h2)))⟩
      · cases e3
  · cases e
theorem tYes_of {σ : L2.St} {H : Hp} {Q : Bool → Hp → Prop} (q : liftT G fYes σ H Q) : tYes σ H Q := by
  obtain ⟨ρ, μ, st, b, st', E, S, e, k⟩ := q
  cases e
  exact k μ H .refl S
theorem dts_nil : PTs X [] (liftT G fYes) := ⟨fun pins s σ H Q I h => pts_nil.run pins s σ H Q I (tYes_of h)⟩
theorem dts_one (h : PT X c (liftT G ta)) : PTs X [c] (liftT G ta) := pts_one h
theorem de_lc {elt : Expr} {ifs : List Expr} {scope : Scope} {own : List (Str × Nat)} {tt : FT} {fe : FE} (o : On G X) (hN : X.N.Nodup) (hi : PI X tgt iter (liftI G fi)) (ok : BlkOk X.N X.env.scope scope own)
    (hg : ∀ (s : Shared) (H : Hp) (C : Addr) (cl : List (Str × Addr)) (fp : List Addr), PG (X.blk s H scope (compEnvC scope cl C X.env) fp) tgt (gOf G.K tg)) (ht : ∀ (s : Shared) (H : Hp) (C : Addr) (cl : List (Str × Addr)) (fp : List Addr), PTs (X.blk s H scope (compEnvC scope cl C X.env) fp) ifs (liftT G tt))
    (he : ∀ (s : Shared) (H : Hp) (C : Addr) (cl : List (Str × Addr)) (fp : List Addr), PE (X.blk s H scope (compEnvC scope cl C X.env) fp) elt (lift G fe)) (hin : ∀ i ∈ tg.ins, i ∈ own.map (·.2) := by decide) (hs : ∀ x, foldedSetIterable iter X.env x = pure x := by intro _; rfl) :
    PE X (.ListComp elt [⟨tgt, iter, ifs, 0⟩] scope pos) (lift G (fLc fi tg tt fe (own.map (·.2)))) :=
  PE.imp (pe_lc o.calm hN hi ok hg ht he hs) fun _ _ _ => lc_data hin
theorem de_lcZ {elt : Expr} {ifs : List Expr} {scope : Scope} {own : List (Str × Nat)} {tt : FT} {fe : FE} (o : On G X) (hN : X.N.Nodup) (hi : PI X tgt iter (liftI G fi)) (ok : BlkOk X.N X.env.scope scope own)
    (hg : ∀ (s : Shared) (H : Hp) (C : Addr) (cl : List (Str × Addr)) (fp : List Addr), PG (X.blk s H scope (compEnvC scope cl C X.env) fp) tgt (gOf G.K tg)) (ht : ∀ (s : Shared) (H : Hp) (C : Addr) (cl : List (Str × Addr)) (fp : List Addr), PTs (X.blk s H scope (compEnvC scope cl C X.env) fp) ifs (liftT G tt))
    (he : ∀ (s : Shared) (H : Hp) (C : Addr) (cl : List (Str × Addr)) (fp : List Addr), PE (X.blk s H scope (compEnvC scope cl C X.env) fp) elt (lift G fe)) (hin : ∀ i ∈ tg.ins, i ∈ own.map (·.2) := by decide) (hs : ∀ x, foldedSetIterable iter X.env x = pure x := by intro _; rfl) :
    PE X (.ListComp elt [⟨tgt, iter, ifs, 0⟩] scope pos) (lift G (fLcZ fi tg tt fe (own.map (·.2)))) :=
  PE.imp (pe_lc o.calm hN hi ok hg ht he hs) fun _ _ _ => lcZ_data hin
theorem On.blk (o : On G X) {s : Shared} {H : Hp} {scope : Scope} {cenv : Env} {fp : List Addr} : On G (X.blk s H scope cenv fp) := ⟨o.prog, o.w, o.mg, o.base, o.K, o.calm⟩
/-- y = [..] -/
theorem ds_setLc {i : Nat} {y : Str} {py spos : Pos} {elt : Expr} {ifs : List Expr} {scope : Scope} {own : List (Str × Nat)} {tt : FT} {fe : FE} (o : On G X) (hN : X.N.Nodup) (hy : X.N[i]? = some y) (hyl : X.env.scope.names.lookup y = some .local)
    (hsw : swapsWith (.ListComp elt [⟨tgt, iter, ifs, 0⟩] scope pos) (some (.Name y py)) spos.line X.env = pure true) (hi : PI X tgt iter (liftI G fi)) (ok : BlkOk X.N X.env.scope scope own)
    (hg : ∀ (s : Shared) (H : Hp) (C : Addr) (cl : List (Str × Addr)) (fp : List Addr), PG (X.blk s H scope (compEnvC scope cl C X.env) fp) tgt (gOf G.K tg)) (ht : ∀ (s : Shared) (H : Hp) (C : Addr) (cl : List (Str × Addr)) (fp : List Addr), PTs (X.blk s H scope (compEnvC scope cl C X.env) fp) ifs (liftT G tt))
    (he : ∀ (s : Shared) (H : Hp) (C : Addr) (cl : List (Str × Addr)) (fp : List Addr), PE (X.blk s H scope (compEnvC scope cl C X.env) fp) elt (lift G fe)) (hin : ∀ i ∈ tg.ins, i ∈ own.map (·.2) := by decide) (hs : ∀ x, foldedSetIterable iter X.env x = pure x := by intro _; rfl) :
    PS X (.Assign [.Name y py] (.ListComp elt [⟨tgt, iter, ifs, 0⟩] scope pos) spos) (liftS G W (sSet i (fLc fi tg tt fe (own.map (·.2))))) :=
  PS.imp (ps_setLc o.calm hN hy hyl hsw hi ok hg ht he hs) fun D0 σ H ⟨ρ, μ, st, fl, ρ', st', E, S, e, k⟩ => by
    unfold sSet at e
    obtain ⟨p, e1, e⟩ := Option.bind_eq_some_iff.mp e
    cases e
    exact lc_data hin ⟨ρ, μ, st, p.1, p.2, E, S, e1, fun μ1 H1 v X1 S1 R1 => k μ1 H1 X1 S1 _ ((E.ext X1).set R1)⟩

/-- y = [..], by value -/
theorem ds_setLcZ {i : Nat} {y : Str} {py spos : Pos} {elt : Expr} {ifs : List Expr} {scope : Scope} {own : List (Str × Nat)} {tt : FT} {fe : FE} (o : On G X) (hN : X.N.Nodup) (hy : X.N[i]? = some y) (hyl : X.env.scope.names.lookup y = some .local)
    (hsw : swapsWith (.ListComp elt [⟨tgt, iter, ifs, 0⟩] scope pos) (some (.Name y py)) spos.line X.env = pure true) (hi : PI X tgt iter (liftI G fi)) (ok : BlkOk X.N X.env.scope scope own)
    (hg : ∀ (s : Shared) (H : Hp) (C : Addr) (cl : List (Str × Addr)) (fp : List Addr), PG (X.blk s H scope (compEnvC scope cl C X.env) fp) tgt (gOf G.K tg)) (ht : ∀ (s : Shared) (H : Hp) (C : Addr) (cl : List (Str × Addr)) (fp : List Addr), PTs (X.blk s H scope (compEnvC scope cl C X.env) fp) ifs (liftT G tt))
    (he : ∀ (s : Shared) (H : Hp) (C : Addr) (cl : List (Str × Addr)) (fp : List Addr), PE (X.blk s H scope (compEnvC scope cl C X.env) fp) elt (lift G fe)) (hin : ∀ i ∈ tg.ins, i ∈ own.map (·.2) := by decide) (hs : ∀ x, foldedSetIterable iter X.env x = pure x := by intro _; rfl) :
    PS X (.Assign [.Name y py] (.ListComp elt [⟨tgt, iter, ifs, 0⟩] scope pos) spos) (liftS G W (sSet i (fLcZ fi tg tt fe (own.map (·.2))))) :=
  PS.imp (ps_setLc o.calm hN hy hyl hsw hi ok hg ht he hs) fun D0 σ H ⟨ρ, μ, st, fl, ρ', st', E, S, e, k⟩ => by
    unfold sSet at e
    obtain ⟨p, e1, e⟩ := Option.bind_eq_some_iff.mp e
    cases e
    exact lcZ_data hin ⟨ρ, μ, st, p.1, p.2, E, S, e1, fun μ1 H1 v X1 S1 R1 => k μ1 H1 X1 S1 _ ((E.ext X1).set R1)⟩

/-! ### all(.. for .. in ..) -/
open Classical in
noncomputable def allD (tg : Tg) (fe : FE) (src : Src) : List D → Rho → Sto → Option (Bool × Sto)
  | [], _, st => if Intact src st then some (true, st) else none
  | d :: ds, ρ, st => if Intact src st then (tgD tg d ρ).bind fun ρ1 => (fe ρ1 st).bind fun y => (asB y.1).bind fun b => if b = true then allD tg fe src ds ρ1 y.2 else some (false, y.2) else none
def capD (cap : List (Option Nat)) (ρ : Rho) : Rho := cap.map fun o => o.bind fun j => (ρ[j]?).join
def capS (cap : List (Option Nat)) (σ : L2.St) : L2.St := cap.map fun o => o.bind fun j => (σ[j]?).join
noncomputable def fAllG (fi : FI) (tg : Tg) (fe : FE) (cap : List (Option Nat)) : FE := fun ρ st => (fi ρ st).bind fun p => (allD tg fe p.2.1 p.1 (capD cap ρ) p.2.2).bind fun q => some (.bl q.1, q.2)
theorem On.inner (o : On G X) {scope : Scope} {N : List Str} {k : Nat} {X' : Cx} (h : Inner X scope N k X') : On G X' := ⟨h.prog.trans o.prog, h.w.trans o.w, h.mg.trans o.mg, h.base.trans o.base, h.K.trans o.K, h.calm⟩
theorem de_all {cc P : Addr} {elt : Expr} {p gpos : Pos} {scope : Scope} {fe : FE} {k : Nat} {N : List Str} {cap : List (Option Nat)} (o : On G X) (hP : P ∈ G.Ps)
    (hr : Room (k + 1) X.A) (hg0 : Gl X "all") (hm : G.mg "all" = none) (TB : TabB G.base G.mg cc P) (hcode : X.env.code = .ref cc) (S : GSc X.env scope) (hi : PI X tgt iter (liftI G fi))
    (hcl : cap.length = N.length) (hcap : ∀ (i : Nat) (x : Str) (j : Nat), N[i]? = some x → cap[i]? = some (some j) → scope.names.lookup x = some .free ∧ X.N[j]? = some x ∧ (X.env.kindOf x = some .cell ∨ X.env.kindOf x = some .free))
    (hgt : ∀ X', Inner X scope N k X' → PG X' tgt (gOf G.K tg)) (hel : ∀ X', Inner X scope N k X' → PE X' elt (lift G fe))
    (hs : ∀ v, genFold iter X.env v = pure v := by intro _; rfl)
    (he : starEach [.GeneratorExp elt [⟨tgt, iter, [], 0⟩] scope gpos] X.env = (false, eval (.GeneratorExp elt [⟨tgt, iter, [], 0⟩] scope gpos) X.env) :: starEach [] X.env := by rfl) :
    PE X (.Call (.Name "all" p) [.GeneratorExp elt [⟨tgt, iter, [], 0⟩] scope gpos] [] pos) (lift G (fAllG fi tg fe cap)) := by
  refine PE.imp (pe_allG (P := P) hr hg0 (by rw [o.mg]; exact hm) o.calm (by rw [o.base, o.mg]; exact TB) hcode S hi hgt hel hs he) fun σ H Q ⟨ρ, μ, st, d, st', E, Sx, e, kk⟩ => ?_
  unfold fAllG at e
  obtain ⟨⟨items, src, s1⟩, e1, e⟩ := Option.bind_eq_some_iff.mp e
  obtain ⟨⟨res, sf⟩, e2, e⟩ := Option.bind_eq_some_iff.mp e
  obtain ⟨rfl, rfl⟩ : D.bl res = d ∧ sf = st' := by
    have q := Option.some.inj e
    exact ⟨congrArg Prod.fst q, congrArg Prod.snd q⟩
  refine ⟨ρ, μ, st, items, src, s1, E, Sx, e1, fun μ1 H1 J X1 S1 F => ⟨S1.tab P hP, capS cap σ, ⟨by simp [capS, hcl], fun i x v h1 h2 => ?_⟩, fun H2 tb => ?_⟩⟩
  · unfold capS at h2
    rw [List.getElem?_map] at h2
    cases hc : cap[i]? with
    | none => rw [hc] at h2; cases h2
    | some oj =>
      rw [hc] at h2
      cases oj with
      | none => simp at h2
      | some j =>
        obtain ⟨q1, q2, q3⟩ := hcap i x j h1 hc
        refine ⟨q1, j, q2, ?_, q3⟩
        simp only [Option.map_some, Option.bind_some, Option.some.injEq] at h2
        cases hj : σ[j]? with
        | none => rw [hj] at h2; cases h2
        | some w => rw [hj] at h2; simp at h2; rw [h2]
  · have hT := S1.tab P hP
    have S2 := S1.tabbed hT tb
    have X2 : Ext G μ1 H1 μ1 H2 := Ext.tabbed S1 hT tb
    have E0 : EnvR G μ1 H2 (capD cap ρ) (capS cap σ) := ⟨by simp [capS, capD], fun i dd h => by
      unfold capD at h
      rw [List.getElem?_map] at h
      cases hc : cap[i]? with
      | none => rw [hc] at h; cases h
      | some oj =>
        rw [hc] at h
        cases oj with
        | none => simp at h
        | some j =>
          simp only [Option.map_some, Option.bind_some, Option.some.injEq] at h
          cases hj : ρ[j]? with
          | none => rw [hj] at h; cases h
          | some w =>
            rw [hj] at h
            simp at h
            subst h
            obtain ⟨v, v1, v2⟩ := E.get j dd hj
            refine ⟨v, ?_, v2.ext (X1.trans X2)⟩
            unfold capS
            rw [List.getElem?_map, hc]
            simp [v1]⟩
    refine ⟨fun i m σ3 H3 => m = items.length - i ∧ i ≤ items.length ∧ ∃ ρ3 μ3 st3, EnvR G μ3 H3 ρ3 σ3 ∧ StR G μ3 st3 H3 ∧ Ext G μ1 H1 μ3 H3 ∧ allD tg fe src (items.drop i) ρ3 st3 = some (res, sf),
      ⟨items.length, by simp, Nat.zero_le _, capD cap ρ, μ1, s1, E0, S2, X2, by simpa using e2⟩, ?_⟩
    rintro i m σ3 H3 ⟨rfl, hi2, ρ3, μ3, st3, E3, S3, X3, e3⟩
    by_cases hlt : i < items.length
    · have hd : items.drop i = items[i] :: items.drop (i + 1) := List.drop_eq_getElem_cons hlt
      rw [hd] at e3
      unfold allD at e3
      split at e3
      · rename_i hin
        obtain ⟨ρ4, e4, e3⟩ := Option.bind_eq_some_iff.mp e3
        obtain ⟨⟨y, s5⟩, e5, e3⟩ := Option.bind_eq_some_iff.mp e3
        obtain ⟨t, e6, e3⟩ := Option.bind_eq_some_iff.mp e3
        obtain ⟨go, yl⟩ := (F μ3 st3 H3 i X3.to0 S3 hin).1 hlt
        refine .inr ⟨go, fun x H4 hy => ?_⟩
        obtain ⟨dd, ed, Rd, S4, X4⟩ := yl x H4 hy
        have ed' : dd = items[i] := by
          rw [List.getElem?_eq_getElem hlt] at ed
          exact (Option.some.inj ed).symm
        subst ed'
        refine gOf_ok (vs' := []) Rd (E3.ext X4) e4 fun σ6 E6 _ => ?_
        refine ⟨ρ4, μ3, st3, y, s5, E6, S4, e5, fun μ7 H7 v X7 S7 R7 => ⟨t, asB_rep e6 R7, ?_⟩⟩
        cases t with
        | true =>
          rw [if_pos rfl] at e3 ⊢
          exact ⟨items.length - (i + 1), by omega, rfl, hlt, ρ4, μ7, s5, E6.ext X7, S7, X3.trans (X4.trans X7), e3⟩
        | false =>
          rw [if_neg Bool.false_ne_true] at e3 ⊢
          cases e3
          exact kk μ7 H7 _ (X1.trans (X3.trans (X4.trans X7))) S7 (.bl false)
      · cases e3
    · have hi3 : i = items.length := by omega
      rw [hi3, List.drop_length] at e3
      unfold allD at e3
      split at e3
      · rename_i hin
        have stop := (F μ3 _ H3 i X3.to0 S3 hin).2 hi3
        cases e3
        exact .inl ⟨stop, kk μ3 H3 _ (X1.trans X3) S3 (.bl true)⟩
      · cases e3
end
end EL

set_option Elab.async false
set_option linter.all false
set_option maxRecDepth 100000
set_option maxHeartbeats 1000000
namespace EL
open PySem PySem.Spec PyProof.Rows L2 GxR LG

section
variable {G : G0} {W : WX} {X : Cx} {pos : Pos} {a b c e tgt : Expr} {es : List Expr} {fa fb fc : FE} {ta tb : FT} {fr : FA}
/-! ### calls of built-ins, by values -/
abbrev HA := List D → Sto → Option (D × Sto)
def rDA (G : G0) (h : HA) : List V → Hp → VK → Prop := fun vs H Q => ∃ μ st ds z st', StR G μ st H ∧ Reps G μ H ds vs ∧ h ds st = some (z, st') ∧ After G μ H z st' Q
def fCall (h : HA) (fr : FA) : FE := fun ρ st => (fr ρ st).bind fun p => h p.1 p.2
theorem call_core {h : HA} {σ : L2.St} {H : Hp} {Q : VK} (q : lift G (fCall h fr) σ H Q) : tCB (rDA G h) (liftA G fr) σ H Q := by
  obtain ⟨ρ, μ, st, d, st', E, S, e, k⟩ := q
  unfold fCall at e
  obtain ⟨p, e1, e⟩ := Option.bind_eq_some_iff.mp e
  exact ⟨ρ, μ, st, p.1, p.2, E, S, e1, fun μ1 H1 vs X1 S1 R1 => ⟨μ1, p.2, p.1, d, st', S1, R1, e, k.trans X1⟩⟩
theorem de_callB {id : String} {x : Str} {p : Pos} {h : HA} (o : On G X) (hc : CallR X (.builtin id) (rDA G h)) (hg : Gl X x) (hm : G.mg x = none) (hv : bootBuiltins x = some (.builtin id)) (ha : PA X (e :: es) (liftA G fr)) (hn : x ≠ "__name__" := by decide) (hdb : (x == ("__debug__" : Str)) = false := by decide)
    (he : starEach (e :: es) X.env = (false, eval e X.env) :: starEach es X.env := by rfl) (hpl : (backTo pos (starEach es X.env)).any (·.1) = false := by rfl) : PE X (.Call (.Name x p) (e :: es) [] pos) (lift G (fCall h fr)) :=
  PE.imp (pe_callB hc hg (by rw [o.mg]; exact hm) hv ha hn hdb he hpl) fun _ _ _ => call_core
theorem de_callTy {T : String} {x : Str} {p : Pos} {h : HA} (o : On G X) (hc : CallR X (.type T) (rDA G h)) (hg : Gl X x) (hm : G.mg x = none) (hv : bootBuiltins x = some (.type T)) (ha : PA X (e :: es) (liftA G fr)) (hn : x ≠ "__name__" := by decide) (hdb : (x == ("__debug__" : Str)) = false := by decide)
    (he : starEach (e :: es) X.env = (false, eval e X.env) :: starEach es X.env := by rfl) (hpl : (backTo pos (starEach es X.env)).any (·.1) = false := by rfl) : PE X (.Call (.Name x p) (e :: es) [] pos) (lift G (fCall h fr)) :=
  PE.imp (pe_callTy hc hg (by rw [o.mg]; exact hm) hv ha hn hdb he hpl) fun _ _ _ => call_core
/-- a built-in class as a value -/
theorem de_ty {T : String} {x : Str} (o : On G X) (hg : Gl X x) (hm : G.mg x = none) (hv : bootBuiltins x = some (.type T)) (hn : x ≠ "__name__" := by decide) (hd : (x == ("__debug__" : Str)) = false := by decide) : PE X (.Name x pos) (lift G (fC (.ty T))) :=
  PE.imp (pe_bltn (v := .ty T) hg (by rw [o.mg]; exact hm) hv rfl hn hd) fun σ H Q ⟨ρ, μ, st, d, st', E, S, e, k⟩ => by cases e; exact k μ H _ .refl S (.ty T)

/-! ### the program's own defs -/
def spD (G : G0) (n : Nat) (fn : HA) : Sp := fun vs H Q _ => ∃ μ st ds d st', ds.length = n ∧ StR G μ st H ∧ Reps G μ H ds vs ∧ fn ds st = some (d, st') ∧ After G μ H d st' Q
def fFn (n : Nat) (fn : HA) (fr : FA) : FE := fun ρ st => (fr ρ st).bind fun p => if p.1.length = n then fn p.1 p.2 else none
/-- how a def is called: its promise, and where it stands -/
structure Def (G : G0) (k : Nat) (x : Str) (n : Nat) (fn : HA) : Prop where
  ex : ∃ (f : Addr) (fd : FuncData) (ps : List Str), ps.length = n ∧ FnOk G.P G.w G.K G.mg G.base CX0 k f fd ps (spD G n fn) ∧ G.mg x = some (.ref f) ∧ PySem.W.keepIn G.K (.ref f) = true ∧ Binds G.K fd ps []
theorem Def.mono {j k : Nat} {x : Str} {n : Nat} {fn : HA} (F : Def G j x n fn) (h : j ≤ k) : Def G k x n fn := by
  obtain ⟨f, fd, ps, h1, h2, h3⟩ := F.ex
  exact ⟨f, fd, ps, h1, h2.mono h, h3⟩
theorem de_call {k n : Nat} {x : Str} {fn : HA} {p : Pos} (o : On G X) (F : Def G k x n fn) (hr : Room k X.A) (hg : Gl X x) (ha : PA X (e :: es) (liftA G fr)) (hdb : (x == ("__debug__" : Str)) = false := by decide)
    (he : starEach (e :: es) X.env = (false, eval e X.env) :: starEach es X.env := by rfl) (hpl : (backTo pos (starEach es X.env)).any (·.1) = false := by rfl) : PE X (.Call (.Name x p) (e :: es) [] pos) (lift G (fFn n fn fr)) := by
  obtain ⟨f, fd, ps, hl, F, hm, hk, hb⟩ := F.ex
  have F' : FnOk X.prog X.w X.K X.mg X.base CX0 k f fd ps (spD G n fn) := by rw [o.prog, o.w, o.K, o.mg, o.base]; exact F
  refine PE.imp (pe_call F' hr hg (by rw [o.mg]; exact hm) (by rw [o.K]; exact hk) (by rw [o.K]; exact hb) .nil pass0 ha hdb he hpl) fun σ H Q ⟨ρ, μ, st, d, st', E, S, e, kk⟩ => ?_
  unfold fFn at e
  obtain ⟨p, e1, e⟩ := Option.bind_eq_some_iff.mp e
  split at e
  · rename_i hz
    exact ⟨ρ, μ, st, p.1, p.2, E, S, e1, fun μ1 H1 vs X1 S1 R1 => ⟨μ1, p.2, p.1, d, st', hz, S1, by rw [List.append_nil]; exact R1, e, kk.trans X1⟩⟩
  · cases e
/-- a def's body as a function -/
def runD (N : Nat) (sb : FS) : HA := fun ds st => (sb (ds.map some ++ List.replicate (N - ds.length) none) st).bind fun p => match p.1 with
  | .rt d => some (d, p.2.2)
  | .nx => some (.non, p.2.2)
  | _ => none
theorem env_start {μ : Mu} {H : Hp} {N : List Str} {ds : List D} {vs : List V} (r : Reps G μ H ds vs) : EnvR G μ H (ds.map some ++ List.replicate (N.length - ds.length) none) (start N vs) := by
  have len := r.length
  refine ⟨by unfold L2.start; simp [len], fun i d h => ?_⟩
  by_cases hi : i < ds.length
  · rw [List.getElem?_append_left (by simpa using hi), List.getElem?_map] at h
    cases hd : ds[i]? with
    | none => rw [hd] at h; cases h
    | some d' =>
      rw [hd] at h
      cases h
      obtain ⟨v, h1, h2⟩ := r.get i hd
      refine ⟨v, ?_, h2⟩
      unfold L2.start
      rw [List.getElem?_append_left (by simp; omega), List.getElem?_map, h1]
      rfl
  · rw [List.getElem?_append_right (by simpa using hi), List.getElem?_replicate] at h
    split at h <;> cases h
/-- the context of a def's body -/
abbrev bodyCx (G : G0) (N : List Str) (qual : Str) (scope : Scope) (f : Addr) (cdv : Value) (A : Around) (outer : List Env) (s : Shared) (H : Hp) : Cx := (cxOf CX0 G.P G.w G.K G.mg G.base N qual scope f cdv A outer s H E0).nox
theorem On.body {N : List Str} {qual : Str} {scope : Scope} {f : Addr} {cdv : Value} {A : Around} {outer : List Env} {s : Shared} {H : Hp} : On G (bodyCx G N qual scope f cdv A outer s H) := ⟨rfl, rfl, rfl, rfl, rfl, rfl⟩
theorem fn_data {k : Nat} {f : Addr} {name qual : Str} {params : Arguments} {body : List Stmt} {scope : Scope} {kV doc pm cdv ct oc : Value} {an od : Option Addr} {osl : Array (Option Value)} {N ps : List Str} {sb : FS}
    (lk : G.K.lookup f = some ⟨oc, od, .func (PySem.W.fnOf name qual params body scope .none kV doc pm an cdv ct), osl⟩) (hcd : PySem.W.codeIn G.K cdv qual = true) (S : FnScope N ps scope)
    (hbody : ∀ (A : Around) (outer : List Env) (s : Shared) (H : Hp), Room k (A.deeper (envOfC qual scope s.heap.objs.size f cdv)) → PSs (bodyCx G N qual scope f cdv A outer s H) body (liftS G W sb)) :
    FnOk G.P G.w G.K G.mg G.base CX0 (k + 1) f (PySem.W.fnOf name qual params body scope .none kV doc pm an cdv ct) ps (spD G ps.length (runD N.length sb)) := by
  refine fn_of lk hcd S (fun vs H Q E h => ?_) fun A outer s H vs Q E hr hsp => ?_
  · obtain ⟨μ, st, ds, d, st', hl, _, r, _⟩ := h
    rw [← r.length]; exact hl
  · obtain ⟨μ, st, ds, d, st', hl, Sx, r, e, k2⟩ := hsp
    unfold runD at e
    obtain ⟨⟨fl, ρ', s1⟩, e1, e⟩ := Option.bind_eq_some_iff.mp e
    refine ⟨_, (show PSs (bodyCx G N qual scope f cdv A outer s H) body (liftS G W sb) from hbody A outer s H hr).nox, ?_⟩
    refine ⟨_, μ, st, fl, ρ', s1, env_start r, Sx, e1, fun μ1 H1 X1 S1 => ?_⟩
    cases fl with
    | rt dd => cases e; exact fun v Rv => k2 μ1 H1 v X1 S1 Rv
    | nx => cases e; exact fun σ' _ => k2 μ1 H1 .non X1 S1 .non
    | bk => cases e
    | ct => cases e
    | ex x => cases e
theorem def_of {k : Nat} {f : Addr} {name qual : Str} {params : Arguments} {body : List Stmt} {scope : Scope} {kV doc pm cdv ct oc : Value} {an od : Option Addr} {osl : Array (Option Value)} {N ps : List Str} {sb : FS}
    (lk : G.K.lookup f = some ⟨oc, od, .func (PySem.W.fnOf name qual params body scope .none kV doc pm an cdv ct), osl⟩) (hcd : PySem.W.codeIn G.K cdv qual = true) (S : FnScope N ps scope)
    (hm : G.mg name = some (.ref f)) (hk : PySem.W.keepIn G.K (.ref f) = true)
    (hb : ∀ us : List Value, us.length = ps.length → bindArgs (PySem.W.fnOf name qual params body scope .none kV doc pm an cdv ct) ⟨us, []⟩ = pure (ps.zip us))
    (hbody : ∀ (A : Around) (outer : List Env) (s : Shared) (H : Hp), Room k (A.deeper (envOfC qual scope s.heap.objs.size f cdv)) → PSs (bodyCx G N qual scope f cdv A outer s H) body (liftS G W sb)) : Def G (k + 1) name ps.length (runD N.length sb) :=
  ⟨f, _, ps, rfl, fn_data lk hcd S hbody, hm, hk, .all hb⟩
end
end EL

set_option Elab.async false
set_option linter.all false
set_option maxRecDepth 100000
set_option maxHeartbeats 1000000
/-! what a def has made is let go at its end: its value is told by value -/
namespace EL
open PySem PySem.Spec PyProof.Rows L2 GxR LG
mutual
/-- nothing of the store is named in it -/
def pureB : D → Bool
  | .ref _ => false
  | .tup ds => pureL ds
  | .lst ds => pureL ds
  | _ => true
def pureL : List D → Bool
  | [] => true
  | d :: ds => pureB d && pureL ds
end
theorem pureL_iff : ∀ {ds : List D}, pureL ds = true ↔ ∀ d ∈ ds, pureB d = true
  | [] => by simp [pureL]
  | d :: ds => by simp [pureL, pureL_iff (ds := ds)]
def pureO : O → Bool
  | .lst ds => pureL ds
  | .dead => true
  | .dK kvs => pureL (kvs.map (·.2))
  | .dT kvs => pureL (kvs.map (·.2))
  | .ins _ fs => pureL (fs.map (·.2))
section
variable {G : G0} {μ μ' : Mu} {H H0 : Hp}
theorem lz_down (hp : ∀ a, a ∉ μ'.pl → a ∉ μ.pl) (hh : μ'.hd = μ.hd) {a : Addr} {vs : List V} (h : Lz μ' H a vs) : Lz μ H a vs := ⟨h.1, hp _ h.2.1, by rw [← hh]; exact h.2.2⟩
theorem lq_down (hp : ∀ a, a ∉ μ'.pl → a ∉ μ.pl) (hh : μ'.hd = μ.hd) {a : Addr} {vs : List V} (h : Lq G μ' H a vs) : Lq G μ H a vs := h.imp (fun h => ⟨h.1, hp _ h.2.1, by rw [← hh]; exact h.2.2⟩) id
mutual
theorem Rep.pure (hp : ∀ a, a ∉ μ'.pl → a ∉ μ.pl) (hh : μ'.hd = μ.hd) : ∀ {d : D} {v : V}, pureB d = true → Rep G μ' H d v → Rep G μ H d v
  | _, _, _, .non => .non
  | _, _, _, .bl b => .bl b
  | _, _, _, .int i => .int i
  | _, _, _, .str x => .str x
  | _, _, q, .tup s r => .tup s (Reps.pure hp hh (by unfold pureB at q; exact q) r)
  | _, _, q, .lst s r => .lst (lz_down hp hh s) (Reps.pure hp hh (by unfold pureB at q; exact q) r)
  | _, _, q, .ref h => by unfold pureB at q; cases q
  | _, _, _, .scr s => .scr (lq_down hp hh s)
  | _, _, _, .ty n => .ty n
theorem Reps.pure (hp : ∀ a, a ∉ μ'.pl → a ∉ μ.pl) (hh : μ'.hd = μ.hd) : ∀ {ds : List D} {vs : List V}, pureL ds = true → Reps G μ' H ds vs → Reps G μ H ds vs
  | _, _, _, .nil => .nil
  | _, _, q, .cons h t => by
    unfold pureL at q
    obtain ⟨q1, q2⟩ := Bool.and_eq_true_iff.mp q
    exact .cons (Rep.pure hp hh q1 h) (Reps.pure hp hh q2 t)
end
mutual
/-- what named only places that stood ahead -/
theorem Rep.down (hp : ∀ a, a ∉ μ'.pl → a ∉ μ.pl) (hh : μ'.hd = μ.hd) (ha : ∀ (l : Nat) (a : Addr), μ.pl[l]? = some a → μ'.pl[l]? = some a) : ∀ {d : D} {v v0 : V}, Rep G μ H0 d v0 → Rep G μ' H d v → Rep G μ H d v
  | _, _, _, _, .non => .non
  | _, _, _, _, .bl b => .bl b
  | _, _, _, _, .int i => .int i
  | _, _, _, _, .str x => .str x
  | _, _, _, .tup _ r0, .tup s r => .tup s (Reps.down hp hh ha r0 r)
  | _, _, _, .lst _ r0, .lst s r => .lst (lz_down hp hh s) (Reps.down hp hh ha r0 r)
  | _, _, _, .ref h0, .ref h => by
    have e := ha _ _ h0
    rw [h] at e
    cases e
    exact .ref h0
  | _, _, _, _, .scr s => .scr (lq_down hp hh s)
  | _, _, _, _, .ty n => .ty n
theorem Reps.down (hp : ∀ a, a ∉ μ'.pl → a ∉ μ.pl) (hh : μ'.hd = μ.hd) (ha : ∀ (l : Nat) (a : Addr), μ.pl[l]? = some a → μ'.pl[l]? = some a) : ∀ {ds : List D} {vs vs0 : List V}, Reps G μ H0 ds vs0 → Reps G μ' H ds vs → Reps G μ H ds vs
  | _, _, _, _, .nil => .nil
  | _, _, _, .cons h0 t0, .cons h t => .cons (Rep.down hp hh ha h0 h) (Reps.down hp hh ha t0 t)
end
theorem ORep.down (hp : ∀ a, a ∉ μ'.pl → a ∉ μ.pl) (hh : μ'.hd = μ.hd) (ha : ∀ (l : Nat) (a : Addr), μ.pl[l]? = some a → μ'.pl[l]? = some a) {o : O} {a a0 : Addr} (h0 : ORep G μ H0 o a0) (h : ORep G μ' H o a) : ORep G μ H o a := by
  cases o with
  | lst ds => obtain ⟨_, _, r0⟩ := h0; obtain ⟨vs, e, r⟩ := h; exact ⟨vs, e, r0.down hp hh ha r⟩
  | dead => exact h
  | dK ds => obtain ⟨_, _, r0⟩ := h0; obtain ⟨vs, e, r⟩ := h; exact ⟨vs, e, r.1, r0.2.down hp hh ha r.2⟩
  | dT ds => obtain ⟨_, _, r0⟩ := h0; obtain ⟨vs, e, r⟩ := h; exact ⟨vs, e, r.1, r0.2.down hp hh ha r.2⟩
  | ins c fs => obtain ⟨_, _, _, _, _, r0⟩ := h0; obtain ⟨C, dx, vs, m, e, r⟩ := h; exact ⟨C, dx, vs, m, e, r.1, r0.2.down hp hh ha r.2⟩
theorem ORep.pure (hp : ∀ a, a ∉ μ'.pl → a ∉ μ.pl) (hh : μ'.hd = μ.hd) {o : O} {a : Addr} (q : pureO o = true) (h : ORep G μ' H o a) : ORep G μ H o a := by
  cases o with
  | lst ds => obtain ⟨vs, e, r⟩ := h; exact ⟨vs, e, r.pure hp hh q⟩
  | dead => exact h
  | dK ds => obtain ⟨vs, e, r⟩ := h; exact ⟨vs, e, r.1, r.2.pure hp hh q⟩
  | dT ds => obtain ⟨vs, e, r⟩ := h; exact ⟨vs, e, r.1, r.2.pure hp hh q⟩
  | ins c fs => obtain ⟨C, dx, vs, m, e, r⟩ := h; exact ⟨C, dx, vs, m, e, r.1, r.2.pure hp hh q⟩
end
/-- a value told by value: n places stood ahead -/
def seal1 (n : Nat) (st : Sto) (d : D) : Option D := match d with
  | .ref l => if l < n then some (.ref l) else match st[l]? with
    | some (.lst ds) => if pureL ds = true then some (.lst ds) else none
    | _ => none
  | d => if pureB d = true then some d else none
def seals (n : Nat) (st : Sto) : List D → Option (List D)
  | [] => some []
  | d :: ds => (seal1 n st d).bind fun e => (seals n st ds).map (e :: ·)
def sealD (n : Nat) (st : Sto) (d : D) : Option D := match d with
  | .tup ds => (seals n st ds).map .tup
  | d => seal1 n st d
/-- what stood stands, or is plain data -/
def Calm (st st' : Sto) : Prop := ∀ (l : Nat) (o : O), l < st.length → st'[l]? = some o → st[l]? = some o ∨ pureO o = true
open Classical in
noncomputable def letGo (n : Nat) (st : Sto) (p : D × Sto) : Option (D × Sto) := if Calm st p.2 ∧ st.length = n then (sealD n p.2 p.1).map fun d => (d, p.2.take n) else none
noncomputable def sealFn (fn : HA) : HA := fun ds st => (fn ds st).bind fun p => letGo st.length st p
section
variable {G : G0} {μ μ' : Mu} {st st' : Sto} {H H' : Hp}
theorem seal1_rep (x : Ext G μ H μ' H') (S : StR G μ st H) (S' : StR G μ' st' H') {d d2 : D} {v : V} (e : seal1 st.length st' d = some d2) (R : Rep G μ' H' d v) : Rep G μ H' d2 v := by
  obtain ⟨more, hm⟩ := x.pre
  have hp : ∀ a, a ∉ μ'.pl → a ∉ μ.pl := fun a h z => h (by rw [hm]; exact List.mem_append_left _ z)
  unfold seal1 at e
  split at e
  · rename_i l
    cases R with
    | @ref _ a h =>
      split at e
      · rename_i hl
        cases e
        refine .ref ?_
        rw [hm, List.getElem?_append_left (by rw [S.len]; exact hl)] at h
        exact h
      · rename_i hl
        split at e
        · rename_i ds hs
          split at e
          · rename_i hq
            cases e
            obtain ⟨vs, e1, r⟩ := S'.obj _ _ _ hs h
            refine .lst ⟨e1, fun z => ?_, fun z => ?_⟩ (r.pure hp x.hid hq)
            · obtain ⟨i, hi⟩ := List.mem_iff_getElem?.mp z
              have := nd_get S'.nd h (x.at hi)
              subst this
              have := (List.getElem?_eq_some_iff.mp hi).1
              rw [S.len] at this
              exact hl this
            · exact (S'.dis a (by rw [x.hid]; exact z)).1 (List.mem_of_getElem? h)
          · cases e
        · cases e
  · split at e
    · rename_i hq
      cases e
      exact R.pure hp x.hid hq
    · cases e
theorem seals_rep (x : Ext G μ H μ' H') (S : StR G μ st H) (S' : StR G μ' st' H') : ∀ {ds es : List D} {vs : List V}, seals st.length st' ds = some es → Reps G μ' H' ds vs → Reps G μ H' es vs
  | _, _, _, e, .nil => by cases e; exact .nil
  | _, _, _, e, .cons h t => by
    unfold seals at e
    obtain ⟨d, e1, e⟩ := Option.bind_eq_some_iff.mp e
    obtain ⟨r, e2, rfl⟩ := Option.map_eq_some_iff.mp e
    exact .cons (seal1_rep x S S' e1 h) (seals_rep x S S' e2 t)
theorem seal_rep (x : Ext G μ H μ' H') (S : StR G μ st H) (S' : StR G μ' st' H') {d d2 : D} {v : V} (e : sealD st.length st' d = some d2) (R : Rep G μ' H' d v) : Rep G μ H' d2 v := by
  unfold sealD at e
  split at e
  · obtain ⟨es, e1, rfl⟩ := Option.map_eq_some_iff.mp e
    cases R with
    | tup s r => exact .tup s (seals_rep x S S' e1 r)
  · exact seal1_rep x S S' e R
theorem letGo_ext (x : Ext G μ H μ' H') : Ext G μ H μ H' :=
  ⟨⟨[], by simp⟩, rfl, x.kept, x.tup, fun a u h n m q => ⟨(x.raw a u h n m q).1, n⟩, x.xd⟩
theorem letGo_st (x : Ext G μ H μ' H') (S : StR G μ st H) (S' : StR G μ' st' H') (c : Calm st st') : StR G μ (st'.take st.length) H' := by
  obtain ⟨more, hm⟩ := x.pre
  have hp : ∀ a, a ∉ μ'.pl → a ∉ μ.pl := fun a h z => h (by rw [hm]; exact List.mem_append_left _ z)
  have hle : st.length ≤ st'.length := by
    rw [← S.len, ← S'.len, hm]; simp
  refine ⟨by rw [S.len, List.length_take]; omega, fun l o a h1 h2 => ?_, fun a ha => S'.own a (by rw [hm]; exact List.mem_append_left _ ha), S.nd, fun a ha => ?_, S'.tab⟩
  · have hl : l < st.length := by rw [← S.len]; exact (List.getElem?_eq_some_iff.mp h2).1
    rw [List.getElem?_take_of_lt hl] at h1
    have r := S'.obj l o a h1 (x.at h2)
    rcases c l o hl h1 with q | q
    · exact ORep.down hp x.hid (fun _ _ h => x.at h) (S.obj l o a q h2) r
    · exact r.pure hp x.hid q
  · obtain ⟨h1, h2⟩ := S'.dis a (by rw [x.hid]; exact ha)
    exact ⟨hp _ h1, h2⟩
theorem Def.seal {k : Nat} {x : Str} {n : Nat} {fn : HA} (F : Def G k x n fn) : Def G k x n (sealFn fn) := by
  obtain ⟨f, fd, ps, h1, h2, h3⟩ := F.ex
  refine ⟨f, fd, ps, h1, h2.imp fun vs H Q E ⟨μ, st, ds, d2, st2, hn, S, R, e, k⟩ => ?_, h3⟩
  unfold sealFn at e
  obtain ⟨⟨d, st'⟩, e1, e⟩ := Option.bind_eq_some_iff.mp e
  unfold letGo at e
  split at e
  · rename_i hc
    obtain ⟨d3, e2, e3⟩ := Option.map_eq_some_iff.mp e
    cases e3
    refine ⟨μ, st, ds, d, st', hn, S, R, e1, fun μ' H' v X1 S1 R1 => k μ H' v (letGo_ext X1) (letGo_st X1 S S1 hc.1) (seal_rep X1 S S1 e2 R1)⟩
  · cases e
end
end EL

set_option Elab.async false
set_option linter.all false
set_option maxRecDepth 100000
set_option maxHeartbeats 1000000
/-! truths as numbers -/
namespace EL
open PySem PySem.Spec PyProof.Rows L2 GxR LG
def bI (b : Bool) : Int := if b = true then 1 else 0
theorem neg_bool {prog : Program} {w : World} {A : Around} {E : Value → Shared → Prop} {s : Shared} {b : Bool} {Q : Value → Shared → Prop} (h : Q (.int (-(bI b)) s.toks) { s with toks := s.toks + 1 }) : wpAny (model prog w) A (unaryOp .USub (.bool b)) Q E s :=
  unaryOp_gives (op := .USub) (PySem.typeIs_bool s b) rfl F.slot_bool_neg F.entry_int_neg (F.args_int_neg_1 _) (.of_eq rfl : Gives (Builtin.«int.__neg__» ⟨[.bool b], []⟩) (.int (-(bI b)))) h
section
variable {X : Cx}
theorem op_addB : OpR X (binaryOp .Add) (fun x y H Q => ∃ k j, x = .bl k ∧ y = .int j ∧ Q (.int (bI k + j)) H) := by
  intro pins s σ H x y v u Q I rx ry h
  obtain ⟨k, j, rfl, rfl, q⟩ := h
  obtain ⟨t, rfl⟩ := ry
  cases rx
  exact IntBool.add_bool_int ⟨.int (bI k + j), H, I.tok _, ⟨_, rfl⟩, q⟩
theorem op_subB : OpR X (binaryOp .Sub) (fun x y H Q => ∃ k j, x = .bl k ∧ y = .int j ∧ Q (.int (bI k - j)) H) := by
  intro pins s σ H x y v u Q I rx ry h
  obtain ⟨k, j, rfl, rfl, q⟩ := h
  obtain ⟨t, rfl⟩ := ry
  cases rx
  exact IntBool.sub_bool_int ⟨.int (bI k - j), H, I.tok _, ⟨_, rfl⟩, q⟩
theorem un_negB : UnR X (unaryOp .USub) (fun x H Q => (∃ i, x = .int i ∧ Q (.int (-i)) H) ∨ ∃ k, x = .bl k ∧ Q (.int (-(bI k))) H) := by
  intro pins s σ H x v Q I rx h
  rcases h with ⟨i, rfl, q⟩ | ⟨k, rfl, q⟩
  · exact un_neg pins s σ H _ v Q I rx ⟨i, rfl, q⟩
  · cases rx
    exact neg_bool ⟨.int (-(bI k)), H, I.tok _, ⟨_, rfl⟩, q⟩
def strB (b : Bool) : Str := if b then "True" else "False"
theorem call_strB : CallR X (.type "str") (fun xs H Q => (∃ i, xs = [.int i] ∧ i.natAbs.log2 < 1920 ∧ Q (.str (toString i)) H) ∨ ∃ k, xs = [.bl k] ∧ Q (.str (strB k)) H) := by
  intro pins s σ H xs us Q I r h
  rcases h with h | ⟨k, rfl, q⟩
  · exact call_str_int pins s σ H xs us Q I r h
  · cases r with
    | cons r t =>
      cases t
      cases r
      exact PySem.P.str_of_bool ⟨.str (strB k), H, I.tok _, ⟨_, rfl⟩, q⟩
end
end EL

set_option Elab.async false
set_option linter.all false
set_option maxRecDepth 100000
set_option maxHeartbeats 1000000
namespace EL
open PySem PySem.Spec PyProof.Rows L2 GxR LG

section
variable {G : G0} {X : Cx}
/-! ### arithmetic -/
def addD : D → D → Sto → Option (D × Sto)
  | .int i, .int j, st => some (.int (i + j), st)
  | .str x, .str y, st => if x.length + y.length ≤ sizeLine then some (.str (x ++ y), st) else none
  | .tup xs, .tup ys, st => if xs.length + ys.length ≤ sizeLine then some (.tup (xs ++ ys), st) else none
  | .bl b, .int j, st => some (.int (bI b + j), st)
  | c, d, st => match listOf c st, listOf d st with
    | some xs, some ys => if xs.length + ys.length ≤ sizeLine then some (.lst (xs ++ ys), st) else none
    | _, _ => none
theorem list_rep' {μ : Mu} {st : Sto} {H : Hp} {d : D} {ds : List D} {v : V} (S : StR G μ st H) (R : Rep G μ H d v) (e : listOf d st = some ds) : ∃ a vs, v = .ref a ∧ H a = some (.lst vs) ∧ Reps G μ H ds vs := by
  cases R with
  | lst s r => cases e; exact ⟨_, _, rfl, s.1, r⟩
  | ref h =>
    unfold listOf at e
    simp only at e
    split at e
    · rename_i hl
      cases e
      obtain ⟨vs, h1, h2⟩ := S.obj _ _ _ hl h
      exact ⟨_, vs, rfl, h1, h2⟩
    · cases e
  | _ => cases e
theorem do_add (o : On G X) : OpR X (binaryOp .Add) (rD G addD) := by
  refine OpR.imp (op_add.or (op_add_str.or (op_cat.or (op_catA.or op_addB)))) fun x y H Q ⟨μ, st, c, d, z, st', S, Rc, Rd, e, k⟩ => ?_
  unfold addD at e
  split at e
  · cases e; cases Rc; cases Rd
    exact .inl ⟨_, _, rfl, rfl, k μ H _ .refl S (.int _)⟩
  · split at e
    · rename_i hz
      cases e; cases Rc; cases Rd
      exact .inr (.inl ⟨_, _, rfl, rfl, hz, k μ H _ .refl S (.str _)⟩)
    · cases e
  · split at e
    · rename_i hz
      cases e
      cases Rc with
      | tup s r => cases Rd with
        | tup s' r' =>
          refine .inr (.inr (.inr (.inl ⟨_, _, _, _, rfl, rfl, by rw [o.K]; exact s, by rw [o.K]; exact s', by rw [← r.length, ← r'.length]; exact hz, fun h => ?_, fun _ h => ?_, fun _ _ p hp => ?_⟩)))
          · subst h; cases r; exact k μ H _ .refl S (.tup s' r')
          · subst h; cases r'; rw [List.append_nil] at k; exact k μ H _ .refl S (.tup s r)
          · exact k μ _ _ (Ext.new S hp) (S.newT hp) (.tup (SqT.of upd_same) ((r.append r').ext (Ext.new S hp)))
    · cases e
  · cases e; cases Rc; cases Rd
    exact .inr (.inr (.inr (.inr ⟨_, _, rfl, rfl, k μ H _ .refl S (.int _)⟩)))
  · split at e
    · rename_i hx hy
      split at e
      · rename_i hz
        cases e
        obtain ⟨a, us, rfl, u1, u2⟩ := list_rep' S Rc hx
        obtain ⟨b, ws, rfl, w1, w2⟩ := list_rep' S Rd hy
        refine .inr (.inr (.inl ⟨_, _, us, ws, rfl, rfl, u1, w1, by rw [← u2.length, ← w2.length]; exact hz, fun p hp => ?_⟩))
        exact k _ _ _ (Ext.new S hp) (S.newT hp) (rep_newZ S hp (u2.append w2))
      · cases e
    · cases e
def intOp (f : Int → Int → Option D) : D → D → Sto → Option (D × Sto)
  | .int i, .int j, st => (f i j).map fun d => (d, st)
  | _, _, _ => none
theorem intOp_ok {g : Value → Value → Sem Value} {C : Int → Int → Prop} {h : Int → Int → V} {f : Int → Int → Option D} (ho : OpR X g (rI C h)) (hf : ∀ i j d, f i j = some d → C i j ∧ ∀ μ H, Rep G μ H d (h i j)) : OpR X g (rD G (intOp f)) :=
  OpR.imp ho fun x y H Q ⟨μ, st, c, d, z, st', S, Rc, Rd, e, k⟩ => by
    unfold intOp at e
    split at e
    · rename_i i j
      obtain ⟨dd, e1, e2⟩ := Option.map_eq_some_iff.mp e
      cases e2; cases Rc; cases Rd
      obtain ⟨h1, h2⟩ := hf i j _ e1
      exact ⟨i, j, rfl, rfl, h1, k μ H _ .refl S (h2 μ H)⟩
    · cases e
theorem rI_of0 {g : Value → Value → Sem Value} {h : Int → Int → V} (ho : OpR X g (rI0 h)) : OpR X g (rI (fun _ _ => True) h) := OpR.imp ho fun x y H Q ⟨i, j, a, b, _, q⟩ => ⟨i, j, a, b, q⟩
def subD : D → D → Sto → Option (D × Sto)
  | .int i, .int j, st => some (.int (i - j), st)
  | .bl b, .int j, st => some (.int (bI b - j), st)
  | _, _, _ => none
theorem do_sub : OpR X (binaryOp .Sub) (rD G subD) := by
  refine OpR.imp (op_sub.or op_subB) fun x y H Q ⟨μ, st, c, d, z, st', S, Rc, Rd, e, k⟩ => ?_
  unfold subD at e
  split at e
  · cases e; cases Rc; cases Rd
    exact .inl ⟨_, _, rfl, rfl, k μ H _ .refl S (.int _)⟩
  · cases e; cases Rc; cases Rd
    exact .inr ⟨_, _, rfl, rfl, k μ H _ .refl S (.int _)⟩
  · cases e
/-- together less than a million bits -/
def mulD := intOp fun i j => if i.natAbs.log2 + j.natAbs.log2 < 1000000 then some (.int (i * j)) else none
theorem do_mul : OpR X (binaryOp .Mult) (rD G mulD) := intOp_ok op_mulW fun i j d e => by
  split at e
  · rename_i h; cases e; exact ⟨h, fun _ _ => .int _⟩
  · cases e
def fdivD := intOp fun i j => if 0 < j ∧ j.natAbs.log2 < 9000 then some (.int (i / j)) else none
theorem do_fdiv : OpR X (binaryOp .FloorDiv) (rD G fdivD) := intOp_ok op_fdivW fun i j d e => by
  split at e
  · rename_i h; cases e; exact ⟨h, fun _ _ => .int _⟩
  · cases e
def modD := intOp fun i j => if 0 < j then some (.int (i % j)) else none
theorem do_mod : OpR X (binaryOp .Mod) (rD G modD) := intOp_ok op_mod fun i j d e => by
  split at e
  · rename_i h; cases e; exact ⟨h, fun _ _ => .int _⟩
  · cases e
def powD := intOp fun i j => if 0 ≤ j ∧ j ≤ 1000000 ∧ i.natAbs < 2 ^ 64 then some (.int (i ^ j.toNat)) else none
theorem do_pow : OpR X (binaryOp .Pow) (rD G powD) := intOp_ok op_pow fun i j d e => by
  split at e
  · rename_i h; cases e; exact ⟨h, fun _ _ => .int _⟩
  · cases e
/-! ### order -/
def ordD (f : Int → Int → Bool) (g : List Nat → List Nat → Bool) : D → D → Sto → Option (D × Sto)
  | .int i, .int j, st => some (.bl (f i j), st)
  | .str x, .str y, st => some (.bl (g x.cps.toList y.cps.toList), st)
  | _, _, _ => none
def ltD := ordD (fun i j => decide (i < j)) fun x y => decide (x < y)
def leD := ordD (fun i j => decide (i ≤ j)) fun x y => !decide (y < x)
def gtD := ordD (fun i j => decide (j < i)) fun x y => decide (y < x)
def geD := ordD (fun i j => decide (j ≤ i)) fun x y => !decide (x < y)
theorem ord_ok {op : CmpOp} {f : Int → Int → Bool} {g : List Nat → List Nat → Bool} (h1 : OpR X (compareOp op) (rI0 fun i j => .bl (f i j)))
    (h2 : OpR X (compareOp op) (fun x y H Q => ∃ i j, x = .str i ∧ y = .str j ∧ Q (.bl (g i.cps.toList j.cps.toList)) H)) : OpR X (compareOp op) (rD G (ordD f g)) :=
  OpR.imp (h1.or h2) fun x y H Q ⟨μ, st, c, d, z, st', S, Rc, Rd, e, k⟩ => by
    unfold ordD at e
    split at e
    · cases e; cases Rc; cases Rd
      exact .inl ⟨_, _, rfl, rfl, k μ H _ .refl S (.bl _)⟩
    · cases e; cases Rc; cases Rd
      exact .inr ⟨_, _, rfl, rfl, k μ H _ .refl S (.bl _)⟩
    · cases e
theorem do_lt : OpR X (compareOp .Lt) (rD G ltD) := ord_ok op_lt op_lt_str
theorem do_le : OpR X (compareOp .LtE) (rD G leD) := ord_ok op_le op_le_str
theorem do_gt : OpR X (compareOp .Gt) (rD G gtD) := ord_ok op_gt op_gt_str
theorem do_ge : OpR X (compareOp .GtE) (rD G geD) := ord_ok op_ge op_ge_str
/-! ### == of data -/
mutual
def eqB : D → D → Bool
  | .non, .non => true
  | .bl a, .bl b => a == b
  | .bl a, .int j => bI a == j
  | .int i, .bl b => i == bI b
  | .int i, .int j => i == j
  | .str x, .str y => x == y
  | .lst xs, .lst ys => eqBs xs ys
  | .tup xs, .tup ys => eqBs xs ys
  | _, _ => false
def eqBs : List D → List D → Bool
  | [], [] => true
  | x :: xs, y :: ys => eqB x y && eqBs xs ys
  | _, _ => false
end
mutual
/-- data of at most this depth -/
def okB : Nat → D → Bool
  | _, .non => true
  | _, .bl _ => true
  | _, .int _ => true
  | _, .str x => PyData.strOk x
  | n + 1, .tup ds => okBs n ds
  | n + 1, .lst ds => okBs n ds
  | _, _ => false
def okBs : Nat → List D → Bool
  | _, [] => true
  | n, d :: ds => okB n d && okBs n ds
end
mutual
def pd : D → PyData
  | .bl b => .bool b
  | .int i => .int i
  | .str x => .str x
  | .tup ds => .tuple (pds ds)
  | .lst ds => .list (pds ds)
  | _ => .none
def pds : List D → List PyData
  | [] => []
  | d :: ds => pd d :: pds ds
end
mutual
theorem pd_ok {μ : Mu} {H : Hp} : ∀ {n : Nat} {d : D} {v : V}, okB n d = true → Rep G μ H d v → Dp G.K H v (pd d)
  | _, .non, _, _, .non => .non
  | _, .bl b, _, _, .bl _ => .bl b
  | _, .int i, _, _, .int _ => .int i
  | _, .str x, _, _, .str _ => .str x
  | n + 1, .tup ds, _, h, .tup s r => .tup s (pds_ok (n := n) (by unfold okB at h; exact h) r)
  | 0, .tup ds, _, h, .tup s r => by unfold okB at h; cases h
  | n + 1, .lst ds, _, h, .lst s r => .lst s.sq (pds_ok (n := n) (by unfold okB at h; exact h) r)
  | 0, .lst ds, _, h, .lst s r => by unfold okB at h; cases h
  | n, .ref _, _, h, _ => by cases n <;> (unfold okB at h; cases h)
  | n, .scr _, _, h, _ => by cases n <;> (unfold okB at h; cases h)
  | n, .ty _, _, h, _ => by cases n <;> (unfold okB at h; cases h)
theorem pds_ok {μ : Mu} {H : Hp} : ∀ {n : Nat} {ds : List D} {vs : List V}, okBs n ds = true → Reps G μ H ds vs → DpAll G.K H vs (pds ds)
  | _, [], _, _, .nil => .nil
  | n, d :: ds, _, h, .cons r t => by
    unfold okBs at h
    obtain ⟨h1, h2⟩ := Bool.and_eq_true_iff.mp h
    exact .cons (pd_ok h1 r) (pds_ok h2 t)
end
mutual
theorem ok_shape : ∀ {n : Nat} {d : D}, okB n d = true → (pd d).canLay0 = true ∧ (pd d).depth ≤ n
  | _, .non, _ => by simp [pd, PyData.canLay0, PyData.depth]
  | _, .bl b, _ => by simp [pd, PyData.canLay0, PyData.depth]
  | _, .int i, _ => by simp [pd, PyData.canLay0, PyData.depth]
  | _, .str x, h => by
    have h : PyData.strOk x = true := by unfold okB at h; exact h
    simp [pd, PyData.canLay0, PyData.depth, h]
  | n + 1, .tup ds, h => by
    obtain ⟨h1, h2⟩ := oks_shape (n := n) (ds := ds) (by unfold okB at h; exact h)
    simp only [pd, PyData.canLay0, PyData.depth]
    exact ⟨h1, by omega⟩
  | n + 1, .lst ds, h => by
    obtain ⟨h1, h2⟩ := oks_shape (n := n) (ds := ds) (by unfold okB at h; exact h)
    simp only [pd, PyData.canLay0, PyData.depth]
    exact ⟨h1, by omega⟩
  | 0, .tup ds, h => by unfold okB at h; cases h
  | 0, .lst ds, h => by unfold okB at h; cases h
  | n, .ref _, h => by cases n <;> (unfold okB at h; cases h)
  | n, .scr _, h => by cases n <;> (unfold okB at h; cases h)
  | n, .ty _, h => by cases n <;> (unfold okB at h; cases h)
theorem oks_shape : ∀ {n : Nat} {ds : List D}, okBs n ds = true → PyData.canLayAll0 (pds ds) = true ∧ PyData.depthAll (pds ds) ≤ n
  | _, [], _ => by simp [pds, PyData.canLayAll0, PyData.depthAll]
  | n, d :: ds, h => by
    unfold okBs at h
    obtain ⟨h1, h2⟩ := Bool.and_eq_true_iff.mp h
    obtain ⟨a1, a2⟩ := ok_shape h1
    obtain ⟨b1, b2⟩ := oks_shape h2
    simp only [pds, PyData.canLayAll0, PyData.depthAll, a1, b1, Bool.and_self]
    exact ⟨trivial, by omega⟩
end
mutual
theorem eqv_ok : ∀ {n m : Nat} {c d : D}, okB n c = true → okB m d = true → PyData.eqv (pd c) (pd d) = eqB c d
  | n, m, c, d, h1, h2 => by
    cases c with
    | ref _ => cases n <;> (unfold okB at h1; cases h1)
    | scr _ => cases n <;> (unfold okB at h1; cases h1)
    | ty _ => cases n <;> (unfold okB at h1; cases h1)
    | tup xs => cases n with
      | zero => unfold okB at h1; cases h1
      | succ n => cases d with
        | ref _ => cases m <;> (unfold okB at h2; cases h2)
        | scr _ => cases m <;> (unfold okB at h2; cases h2)
        | ty _ => cases m <;> (unfold okB at h2; cases h2)
        | tup ys => cases m with
          | zero => unfold okB at h2; cases h2
          | succ m =>
            have := eqvs_ok (n := n) (m := m) (cs := xs) (ds := ys) (by unfold okB at h1; exact h1) (by unfold okB at h2; exact h2)
            simp only [pd, PyData.eqv, eqB]; exact this
        | _ => simp [pd, PyData.eqv, eqB]
    | lst xs => cases n with
      | zero => unfold okB at h1; cases h1
      | succ n => cases d with
        | ref _ => cases m <;> (unfold okB at h2; cases h2)
        | scr _ => cases m <;> (unfold okB at h2; cases h2)
        | ty _ => cases m <;> (unfold okB at h2; cases h2)
        | lst ys => cases m with
          | zero => unfold okB at h2; cases h2
          | succ m =>
            have := eqvs_ok (n := n) (m := m) (cs := xs) (ds := ys) (by unfold okB at h1; exact h1) (by unfold okB at h2; exact h2)
            simp only [pd, PyData.eqv, eqB]; exact this
        | _ => simp [pd, PyData.eqv, eqB]
    | _ => cases d with
      | ref _ => cases m <;> (unfold okB at h2; cases h2)
      | scr _ => cases m <;> (unfold okB at h2; cases h2)
      | ty _ => cases m <;> (unfold okB at h2; cases h2)
      | _ => simp [pd, PyData.eqv, eqB, bI]
theorem eqvs_ok : ∀ {n m : Nat} {cs ds : List D}, okBs n cs = true → okBs m ds = true → PyData.eqvAll (pds cs) (pds ds) = eqBs cs ds
  | _, _, [], [], _, _ => by simp [pds, PyData.eqvAll, eqBs]
  | _, _, [], _ :: _, _, _ => by simp [pds, PyData.eqvAll, eqBs]
  | _, _, _ :: _, [], _, _ => by simp [pds, PyData.eqvAll, eqBs]
  | n, m, c :: cs, d :: ds, h1, h2 => by
    unfold okBs at h1 h2
    obtain ⟨a1, a2⟩ := Bool.and_eq_true_iff.mp h1
    obtain ⟨b1, b2⟩ := Bool.and_eq_true_iff.mp h2
    simp only [pds, PyData.eqvAll, eqBs, eqv_ok a1 b1, eqvs_ok a2 b2]
end
/-- a list of the store by its value -/
def byVal (d : D) (st : Sto) : D := match listOf d st with
  | some ds => .lst ds
  | none => d
theorem val_ok {μ : Mu} {st : Sto} {H : Hp} {d : D} {v : V} (S : StR G μ st H) (R : Rep G μ H d v) (h : okB 60 (byVal d st) = true) : Dp G.K H v (pd (byVal d st)) := by
  unfold byVal at h ⊢
  cases hl : listOf d st with
  | none => rw [hl] at h; exact pd_ok h R
  | some ds =>
    rw [hl] at h
    obtain ⟨a, vs, rfl, h1, h2⟩ := list_rep S R hl
    exact .lst h1 (pds_ok (n := 59) (by simp only at h; unfold okB at h; exact h) h2)
def eqW (neg : Bool) : D → D → Sto → Option (D × Sto) := fun c d st => if okB 60 (byVal c st) = true ∧ okB 60 (byVal d st) = true then some (.bl (if neg = true then !eqB (byVal c st) (byVal d st) else eqB (byVal c st) (byVal d st)), st) else none
def eqD := eqW false
def neD := eqW true
theorem shaped_ok {d : D} (h : okB 60 d = true) : SeqAt.shaped (pd d) = true := by
  obtain ⟨h1, h2⟩ := ok_shape h
  unfold SeqAt.shaped
  rw [h1]
  simp
  omega
theorem do_eq (o : On G X) {k : Nat} (hr : Room k X.A) : OpR X (compareOp .Eq) (rD G eqD) := OpR.imp (op_eqD hr.units) fun x y H Q ⟨μ, st, c, d, z, st', S, Rc, Rd, e, k⟩ => by
  unfold eqD eqW at e
  split at e
  · rename_i hs
    cases e
    refine ⟨_, _, by rw [o.K]; exact val_ok S Rc hs.1, by rw [o.K]; exact val_ok S Rd hs.2, shaped_ok hs.1, shaped_ok hs.2, ?_⟩
    rw [eqv_ok hs.1 hs.2]
    exact k μ H _ .refl S (.bl _)
  · cases e
theorem do_ne (o : On G X) {k : Nat} (hr : Room k X.A) : OpR X (compareOp .NotEq) (rD G neD) := OpR.imp (op_neD hr.units) fun x y H Q ⟨μ, st, c, d, z, st', S, Rc, Rd, e, k⟩ => by
  unfold neD eqW at e
  split at e
  · rename_i hs
    cases e
    refine ⟨_, _, by rw [o.K]; exact val_ok S Rc hs.1, by rw [o.K]; exact val_ok S Rd hs.2, shaped_ok hs.1, shaped_ok hs.2, ?_⟩
    rw [eqv_ok hs.1 hs.2]
    exact k μ H _ .refl S (.bl _)
  · cases e
/-! ### x[i] -/
def ixD : D → D → Sto → Option (D × Sto)
  | .tup ds, .int i, st => (atI ds i).map fun d => (d, st)
  | .str x, .int i, st => if x.length ≤ sizeLine then (atI x.cps.toList i).map fun c => (.str ⟨#[c]⟩, st) else none
  | .scr ns, .int i, st => (atI ns i).map fun n => (.int n, st)
  | c, .int i, st => (listOf c st).bind fun ds => (atI ds i).map fun d => (d, st)
  | _, _, _ => none
theorem atI_reps {μ : Mu} {H : Hp} {ds : List D} {vs : List V} {i : Int} {d : D} (r : Reps G μ H ds vs) (h : atI ds i = some d) : ∃ v, atI vs i = some v ∧ Rep G μ H d v := by
  unfold atI at h ⊢
  obtain ⟨j, e1, e2⟩ := Option.bind_eq_some_iff.mp h
  obtain ⟨v, h1, h2⟩ := r.get j e2
  exact ⟨v, by rw [← r.length, e1]; exact h1, h2⟩
end
section
variable {G : G0}
theorem IxR.imp {X : Cx} {r r' : R2} (h : IxR X r) (i : ∀ x y H Q, r' x y H Q → r x y H Q) : IxR X r' := fun va sl pins s σ H x y v u Q I rx ry q => h va sl pins s σ H x y v u Q I rx ry (i x y H Q q)
theorem do_ix {X : Cx} (o : On G X) : IxR X (rD G ixD) := by
  refine IxR.imp ix_seq fun x y H Q ⟨μ, st, c, d, z, st', S, Rc, Rd, e, k⟩ => ?_
  unfold ixD at e
  split at e
  · obtain ⟨dd, e1, e2⟩ := Option.map_eq_some_iff.mp e
    cases e2; cases Rd
    cases Rc with
    | tup s r =>
      obtain ⟨v, h1, h2⟩ := atI_reps r e1
      exact .inr (.inl ⟨_, _, _, v, rfl, rfl, by rw [o.K]; exact s, h1, k μ H _ .refl S h2⟩)
  · split at e
    · rename_i hz
      obtain ⟨cc, e1, e2⟩ := Option.map_eq_some_iff.mp e
      cases e2; cases Rc; cases Rd
      exact .inr (.inr ⟨_, _, cc, rfl, rfl, hz, e1, k μ H _ .refl S (.str _)⟩)
    · cases e
  · rename_i ns i
    obtain ⟨n, e1, e2⟩ := Option.map_eq_some_iff.mp e
    cases e2; cases Rd
    cases Rc with
    | scr q =>
      refine .inl ⟨_, _, i, .int n, rfl, rfl, by rw [o.K]; exact q.sq, ?_, k μ H _ .refl S (.int n)⟩
      unfold atI at e1 ⊢
      obtain ⟨j, f1, f2⟩ := Option.bind_eq_some_iff.mp e1
      rw [List.length_map, f1]
      show (ns.map V.int)[j]? = _
      rw [List.getElem?_map, f2]
      rfl
  · obtain ⟨ds, e0, e⟩ := Option.bind_eq_some_iff.mp e
    obtain ⟨dd, e1, e2⟩ := Option.map_eq_some_iff.mp e
    cases e2; cases Rd
    obtain ⟨a, vs, rfl, h1, h2⟩ := list_rep S Rc e0
    obtain ⟨v, g1, g2⟩ := atI_reps h2 e1
    exact .inl ⟨_, _, _, v, rfl, rfl, by rw [o.K]; exact h1, g1, k μ H _ .refl S g2⟩
  · cases e
end
end EL

set_option Elab.async false
set_option linter.all false
set_option maxRecDepth 100000
set_option maxHeartbeats 1000000
namespace EL
open PySem PySem.Spec PyProof.Rows L2 GxR LG

section
variable {G : G0} {X : Cx} {pos : Pos} {a b c e tgt : Expr} {es : List Expr} {fa fb fc : FE} {ta tb : FT} {fr : FA}
theorem CallR.imp {f : Value} {r r' : List V → Hp → VK → Prop} (h : CallR X f r) (i : ∀ xs H Q, r' xs H Q → r xs H Q) : CallR X f r' := fun pins s σ H xs us Q I v q => h pins s σ H xs us Q I v (i xs H Q q)
theorem SlR.imp {r r' : V → Option Int → Option Int → Hp → VK → Prop} (h : SlR X r) (i : ∀ x l u H Q, r' x l u H Q → r x l u H Q) : SlR X r' := fun pins s σ H x v vl vu lo hi sl Q I rx hs pl pu q => h pins s σ H x v vl vu lo hi sl Q I rx hs pl pu (i x lo hi H Q q)
/-! ### -x -/
def fNeg (fa : FE) : FE := fun ρ st => (fa ρ st).bind fun p => match p.1 with
  | .int i => some (.int (-i), p.2)
  | .bl b => some (.int (-(bI b)), p.2)
  | _ => none
theorem de_neg (ha : PE X a (lift G fa)) : PE X (.UnaryOp .USub a pos) (lift G (fNeg fa)) :=
  PE.imp (pe_un un_negB ha) fun σ H Q ⟨ρ, μ, st, d, st', E, S, e, k⟩ => by
    unfold fNeg at e
    obtain ⟨⟨d1, s1⟩, e1, e⟩ := Option.bind_eq_some_iff.mp e
    simp only at e
    split at e
    · cases e
      refine ⟨ρ, μ, st, _, _, E, S, e1, fun μ1 H1 v X1 S1 R1 => ?_⟩
      cases R1
      exact .inl ⟨_, rfl, k μ1 H1 _ X1 S1 (.int _)⟩
    · cases e
      refine ⟨ρ, μ, st, _, _, E, S, e1, fun μ1 H1 v X1 S1 R1 => ?_⟩
      cases R1
      exact .inr ⟨_, rfl, k μ1 H1 _ X1 S1 (.int _)⟩
    · cases e
/-! ### slices -/
def cutD (ds : List D) (lo hi : Option Int) : List D := (ds.drop (HT.sIx ds.length 0 lo)).take (HT.sIx ds.length ds.length hi - HT.sIx ds.length 0 lo)
theorem Reps.cut {μ : Mu} {H : Hp} {ds : List D} {vs : List V} (r : Reps G μ H ds vs) (lo hi : Option Int) : Reps G μ H (cutD ds lo hi) (cutV vs lo hi) := by
  unfold cutD cutV
  rw [← r.length]
  exact (r.drop _).take _
def sliceD : D → Option Int → Option Int → Sto → Option (D × Sto)
  | .tup ds, lo, hi, st => some (.tup (cutD ds lo hi), st)
  | .str z, lo, hi, st => if z.length ≤ sizeLine then some (.str (cutS z lo hi), st) else none
  | c, lo, hi, st => (listOf c st).map fun ds => (.lst (cutD ds lo hi), st)
theorem cutD_all {ds : List D} {lo hi : Option Int} (h : HT.sIx ds.length 0 lo = 0 ∧ HT.sIx ds.length ds.length hi = ds.length) : cutD ds lo hi = ds := by
  unfold cutD
  rw [h.1, h.2]
  simp
abbrev FO := Rho → Sto → Option (Option Int × Sto)
def liftO (G : G0) (f : FO) : TO := fun σ H Q => ∃ ρ μ st d st', EnvR G μ H ρ σ ∧ StR G μ st H ∧ f ρ st = some (d, st') ∧ ∀ μ' H', Ext G μ H μ' H' → StR G μ' st' H' → Q d H'
def oNone : FO := fun _ st => some (none, st)
def oSome (fa : FE) : FO := fun ρ st => (fa ρ st).bind fun p => match p.1 with
  | .int i => some (some i, p.2)
  | _ => none
theorem PO.imp {e : Option Expr} {t t' : TO} (h : PO X e t) (i : ∀ σ H Q, t' σ H Q → t σ H Q) : PO X e t' := ⟨fun pins s σ H Q I q => h.run pins s σ H Q I (i σ H Q q)⟩
theorem dp_none : PO X none (liftO G oNone) := PO.imp po_none fun σ H Q ⟨ρ, μ, st, d, st', E, S, e, k⟩ => by cases e; exact k μ H .refl S
theorem dp_some (h : PE X e (lift G fa)) : PO X (some e) (liftO G (oSome fa)) := PO.imp (po_some h) fun σ H Q ⟨ρ, μ, st, d, st', E, S, e, k⟩ => by
  unfold oSome at e
  obtain ⟨⟨d1, s1⟩, e1, e⟩ := Option.bind_eq_some_iff.mp e
  simp only at e
  split at e
  · cases e
    refine ⟨ρ, μ, st, _, _, E, S, e1, fun μ1 H1 v X1 S1 R1 => ?_⟩
    cases R1
    exact ⟨_, rfl, k μ1 H1 X1 S1⟩
  · cases e
def fSl (fa : FE) (fl fu : FO) : FE := fun ρ st => (fa ρ st).bind fun p => (fl ρ p.2).bind fun l => (fu ρ l.2).bind fun u => sliceD p.1 l.1 u.1 u.2
theorem do_slice (o : On G X) : SlR X (fun x lo hi H Q => ∃ μ st d z st', StR G μ st H ∧ Rep G μ H d x ∧ sliceD d lo hi st = some (z, st') ∧ After G μ H z st' Q) := by
  refine SlR.imp (sl_list.or (sl_tupA.or sl_str)) fun x lo hi H Q ⟨μ, st, d, z, st', S, R, e, k⟩ => ?_
  unfold sliceD at e
  split at e
  · cases e
    cases R with
    | tup s r =>
      refine .inr (.inl ⟨_, _, rfl, by rw [o.K]; exact s, fun h => ?_, fun _ p hp => ?_⟩)
      · rw [← r.length] at h
        rw [cutD_all h] at k
        exact k μ H _ .refl S (.tup s r)
      · exact k μ _ _ (Ext.new S hp) (S.newT hp) (.tup (SqT.of upd_same) ((r.cut lo hi).ext (Ext.new S hp)))
  · split at e
    · rename_i hz
      cases e
      cases R
      exact .inr (.inr ⟨_, rfl, hz, k μ H _ .refl S (.str _)⟩)
    · cases e
  · obtain ⟨ds, e1, e2⟩ := Option.map_eq_some_iff.mp e
    cases e2
    obtain ⟨a, vs, rfl, h1, h2⟩ := list_rep S R e1
    exact .inl ⟨_, vs, rfl, by rw [o.K]; exact h1, fun p hp => k _ _ _ (Ext.new S hp) (S.newT hp) (rep_newZ S hp (h2.cut lo hi))⟩
theorem de_slice {lo hi : Option Expr} {p2 : Pos} {fl fu : FO} (o : On G X) (he : PE X e (lift G fa)) (hl : PO X lo (liftO G fl)) (hu : PO X hi (liftO G fu)) : PE X (.Subscript e (.Slice lo hi none p2) pos) (lift G (fSl fa fl fu)) :=
  PE.imp (pe_slice (do_slice o) he hl hu) fun σ H Q ⟨ρ, μ, st, d, st', E, S, e, k⟩ => by
    unfold fSl at e
    obtain ⟨p, e1, e⟩ := Option.bind_eq_some_iff.mp e
    obtain ⟨l, e2, e⟩ := Option.bind_eq_some_iff.mp e
    obtain ⟨u, e3, e⟩ := Option.bind_eq_some_iff.mp e
    exact ⟨ρ, μ, st, p.1, p.2, E, S, e1, fun μ1 H1 v X1 S1 R1 => ⟨ρ, μ1, p.2, l.1, l.2, E.ext X1, S1, e2, fun μ2 H2 X2 S2 => ⟨ρ, μ2, l.2, u.1, u.2, E.ext (X1.trans X2), S2, e3, fun μ3 H3 X3 S3 =>
      ⟨μ3, u.2, p.1, d, st', S3, R1.ext (X2.trans X3), e, ((k.trans X1).trans X2).trans X3⟩⟩⟩⟩
/-! ### in, not in -/
def flatD : D → Bool
  | .non => true | .bl _ => true | .int _ => true | .str _ => true
  | _ => false
theorem flat_rep {μ : Mu} {H : Hp} {d : D} {v : V} (h : flatD d = true) (r : Rep G μ H d v) : flatV v = true := by
  cases r <;> first | rfl | cases h
theorem eq_flat {μ : Mu} {H : Hp} {c d : D} {x y : V} (h1 : flatD c = true) (h2 : flatD d = true) (r1 : Rep G μ H c x) (r2 : Rep G μ H d y) : eqV x y = eqB c d := by
  cases r1 with
  | tup _ _ => cases h1
  | lst _ _ => cases h1
  | ref _ => cases h1
  | scr _ => cases h1
  | ty _ => cases h1
  | _ => cases r2 with
    | tup _ _ => cases h2
    | lst _ _ => cases h2
    | ref _ => cases h2
    | scr _ => cases h2
    | ty _ => cases h2
    | _ => simp [eqV, eqB, bI]
theorem flats_rep {μ : Mu} {H : Hp} : ∀ {ds : List D} {vs : List V}, ds.all flatD = true → Reps G μ H ds vs → vs.all flatV = true
  | _, _, _, .nil => rfl
  | _, _, h, .cons r t => by
    simp only [List.all_cons, Bool.and_eq_true] at h ⊢
    exact ⟨flat_rep h.1 r, flats_rep h.2 t⟩
theorem any_flat {μ : Mu} {H : Hp} {c : D} {x : V} (h1 : flatD c = true) (r1 : Rep G μ H c x) : ∀ {ds : List D} {vs : List V}, ds.all flatD = true → Reps G μ H ds vs → (vs.any fun y => eqV y x) = ds.any fun y => eqB y c
  | _, _, _, .nil => rfl
  | _, _, h, .cons r t => by
    simp only [List.all_cons, Bool.and_eq_true] at h
    simp only [List.any_cons, eq_flat h.1 h1 r r1, any_flat h1 r1 h.2 t]
theorem any_pd {n m : Nat} {c : D} (hc : okB n c = true) : ∀ {ds : List D}, okBs m ds = true → ((pds ds).any fun z => PyData.eqv z (pd c)) = ds.any fun y => eqB y c
  | [], _ => by simp [pds]
  | d :: ds, h => by
    unfold okBs at h
    obtain ⟨h1, h2⟩ := Bool.and_eq_true_iff.mp h
    simp only [pds, List.any_cons, eqv_ok h1 hc, any_pd hc h2]
def nB (neg b : Bool) : Bool := if neg = true then !b else b
def inW (neg : Bool) : D → D → Sto → Option (D × Sto) := fun c d st => match d with
  | .str z => match c with
    | .str x => match x.cps.toList with
      | [ch] => some (.bl (nB neg (decide (ch ∈ z.cps.toList))), st)
      | _ => none
    | _ => none
  | .tup ds => if flatD c = true ∧ ds.all flatD = true then some (.bl (nB neg (ds.any fun y => eqB y c)), st) else none
  | d => (listOf d st).bind fun ds => if okB 60 (byVal c st) = true ∧ okBs 59 ds = true then some (.bl (nB neg (ds.any fun y => eqB y (byVal c st))), st) else none
theorem str_one {x : Str} {ch : Nat} (h : x.cps.toList = [ch]) : x = ⟨#[ch]⟩ := TL.ext_tl h
theorem do_in (o : On G X) {k : Nat} (hr : Room k X.A) : OpR X (compareOp .In) (rD G (inW false)) := OpR.imp (op_in_sign.or (op_in_seq.or (op_inD (by have := hr.un; omega)))) fun x y H Q ⟨μ, st, c, d, z, st', S, Rc, Rd, e, k⟩ => by
  unfold inW at e
  split at e
  · split at e
    · split at e
      · rename_i hc
        cases e; cases Rc; cases Rd
        exact .inl ⟨_, _, by rw [str_one hc], rfl, k μ H _ .refl S (.bl _)⟩
      · cases e
    · cases e
  · split at e
    · rename_i hf
      cases e
      cases Rd with
      | tup s r =>
        refine .inr (.inl ⟨_, _, rfl, .inr (by rw [o.K]; exact s), flat_rep hf.1 Rc, flats_rep hf.2 r, ?_⟩)
        rw [if_neg Bool.false_ne_true]
        unfold inV
        rw [any_flat hf.1 Rc hf.2 r]
        exact k μ H _ .refl S (.bl _)
    · cases e
  · obtain ⟨ds, e1, e⟩ := Option.bind_eq_some_iff.mp e
    split at e
    · rename_i hf
      cases e
      obtain ⟨a, vs, rfl, h1, h2⟩ := list_rep S Rd e1
      refine .inr (.inr ⟨pd (byVal c _), pds ds, by rw [o.K]; exact val_ok S Rc hf.1, by rw [o.K]; exact .lst h1 (pds_ok hf.2 h2), shaped_ok hf.1, shaped_ok (d := .lst ds) (by unfold okB; exact hf.2), ?_⟩)
      rw [any_pd hf.1 hf.2]
      exact k μ H _ .refl S (.bl _)
    · cases e
theorem do_notin (o : On G X) {k : Nat} (hr : Room k X.A) : OpR X (compareOp .NotIn) (rD G (inW true)) := OpR.imp (op_notIn_sign.or (op_notIn_seq.or (op_notInD (by have := hr.un; omega)))) fun x y H Q ⟨μ, st, c, d, z, st', S, Rc, Rd, e, k⟩ => by
  unfold inW at e
  split at e
  · split at e
    · split at e
      · rename_i hc
        cases e; cases Rc; cases Rd
        exact .inl ⟨_, _, by rw [str_one hc], rfl, k μ H _ .refl S (.bl _)⟩
      · cases e
    · cases e
  · split at e
    · rename_i hf
      cases e
      cases Rd with
      | tup s r =>
        refine .inr (.inl ⟨_, _, rfl, .inr (by rw [o.K]; exact s), flat_rep hf.1 Rc, flats_rep hf.2 r, ?_⟩)
        rw [if_pos rfl]
        unfold inV
        rw [any_flat hf.1 Rc hf.2 r]
        exact k μ H _ .refl S (.bl _)
    · cases e
  · obtain ⟨ds, e1, e⟩ := Option.bind_eq_some_iff.mp e
    split at e
    · rename_i hf
      cases e
      obtain ⟨a, vs, rfl, h1, h2⟩ := list_rep S Rd e1
      refine .inr (.inr ⟨pd (byVal c _), pds ds, by rw [o.K]; exact val_ok S Rc hf.1, by rw [o.K]; exact .lst h1 (pds_ok hf.2 h2), shaped_ok hf.1, shaped_ok (d := .lst ds) (by unfold okB; exact hf.2), ?_⟩)
      rw [any_pd hf.1 hf.2]
      exact k μ H _ .refl S (.bl _)
    · cases e
/-! ### built-ins -/
def lenD : HA
  | [.tup ds], st => some (.int ds.length, st)
  | [.str x], st => if x.length ≤ sizeLine then some (.int x.length, st) else none
  | [.scr ns], st => some (.int ns.length, st)
  | [c], st => (listOf c st).map fun ds => (.int ds.length, st)
  | _, _ => none
theorem dc_len (o : On G X) : CallR X (.builtin "len") (rDA G lenD) := by
  refine CallR.imp (call_len_seq.or call_len_str) fun xs H Q ⟨μ, st, ds, z, st', S, R, e, k⟩ => ?_
  unfold lenD at e
  split at e
  · cases e
    cases R with
    | cons r t => cases t; cases r with
      | tup s r => exact .inl ⟨_, _, rfl, .inr (by rw [o.K]; exact s), by rw [← r.length]; exact k μ H _ .refl S (.int _)⟩
  · split at e
    · rename_i hz
      cases e
      cases R with
      | cons r t => cases t; cases r; exact .inr ⟨_, rfl, hz, k μ H _ .refl S (.int _)⟩
    · cases e
  · cases e
    cases R with
    | cons r t => cases t; cases r with
      | scr s => exact .inl ⟨_, _, rfl, .inl (by rw [o.K]; exact s.sq), by rw [List.length_map]; exact k μ H _ .refl S (.int _)⟩
  · obtain ⟨ds, e1, e2⟩ := Option.map_eq_some_iff.mp e
    cases e2
    cases R with
    | cons r t =>
      cases t
      obtain ⟨a, vs, rfl, h1, h2⟩ := list_rep S r e1
      exact .inl ⟨_, vs, rfl, .inl (by rw [o.K]; exact h1), by rw [← h2.length]; exact k μ H _ .refl S (.int _)⟩
  · cases e
def tyN (d : D) (st : Sto) : Option String := match d with
  | .non => some "NoneType"
  | .bl _ => some "bool"
  | .int _ => some "int"
  | .str _ => some "str"
  | .tup _ => some "tuple"
  | .lst _ => some "list"
  | .ref l => match st[l]? with
    | some (.lst _) => some "list"
    | _ => none
  | _ => none
theorem tyN_ok {μ : Mu} {st : Sto} {H : Hp} {d : D} {v : V} {t : String} (S : StR G μ st H) (R : Rep G μ H d v) (h : tyN d st = some t) : TyX G.K H v (.type t) := by
  cases d with
  | non => cases h; cases R; exact .base .non
  | bl b => cases h; cases R; exact .base (.bl b)
  | int i => cases h; cases R; exact .base (.int i)
  | str x => cases h; cases R; exact .base (.str x)
  | tup ds =>
    cases h
    cases R with
    | tup s r =>
      rcases s with (s | ⟨ob, s⟩) | ⟨ob, its, n, s, c, _⟩
      · exact .base (.tup s)
      · exact .fTuple s
      · exact .kTuple s c
  | ref l =>
    unfold tyN at h
    simp only at h
    split at h
    · rename_i hl
      cases h
      cases R with
      | ref ha =>
        obtain ⟨vs, h1, _⟩ := S.obj _ _ _ hl ha
        exact .base (.lst h1)
    · cases h
  | lst ds =>
    cases h
    cases R with
    | lst s r => exact .base (.lst s.1)
  | scr _ => cases h
  | ty n => cases h
def isiD : HA
  | [x, .ty T], st => (tyN x st).bind fun t => (kitB t T).map fun b => (.bl b, st)
  | _, _ => none
theorem dc_isi (o : On G X) : CallR X (.builtin "isinstance") (rDA G isiD) := by
  refine CallR.imp call_isi fun xs H Q ⟨μ, st, ds, z, st', S, R, e, k⟩ => ?_
  unfold isiD at e
  split at e
  · rename_i x T
    obtain ⟨t, e1, e⟩ := Option.bind_eq_some_iff.mp e
    obtain ⟨b, e2, e3⟩ := Option.map_eq_some_iff.mp e
    cases e3
    cases R with
    | cons r tl => cases tl with
      | cons r2 tl =>
        cases tl; cases r2
        exact ⟨_, _, .type t, .type T, b, rfl, .ty T, by rw [o.K]; exact tyN_ok S r e1, kit_ty e2, k μ H _ .refl S (.bl b)⟩
  · cases e
/-! isinstance(x, (S, T)) -/
def tTys (Ts : List String) : TA := fun _ H Q => Q (Ts.map V.ty) H
theorem dy_nil : PA X [] (tTys []) := pa_nil
theorem dy_cons {T : String} {Ts : List String} {x : Str} (o : On G X) (hg : Gl X x) (hm : G.mg x = none) (hv : bootBuiltins x = some (.type T)) (ht : PA X es (tTys Ts)) (hs : starEach (.Name x pos :: es) X.env = (false, eval (.Name x pos) X.env) :: starEach es X.env := by rfl)
    (hn : x ≠ "__name__" := by decide) (hd : (x == ("__debug__" : Str)) = false := by decide) : PA X (.Name x pos :: es) (tTys (T :: Ts)) := pa_cons (pe_bltn (v := .ty T) hg (by rw [o.mg]; exact hm) hv rfl hn hd) ht hs
def kits (t : String) : List String → Option Bool
  | [] => some false
  | T :: r => (kitB t T).bind fun b => (kits t r).map fun c => b || c
theorem kits_ok {K : PySem.W.Frag} {t : String} : ∀ {Ts : List String} {b : Bool}, kits t Ts = some b → PySem.W.kitAny K (.type t) (Ts.map Value.type) = some b
  | [], b, e => by cases e; exact kitAny_nil
  | T :: r, b, e => by
    unfold kits at e
    obtain ⟨b1, e1, e⟩ := Option.bind_eq_some_iff.mp e
    obtain ⟨b2, e2, e3⟩ := Option.map_eq_some_iff.mp e
    refine kitAny_cons (kit_ty e1) (fun z => ?_) (fun z => by rw [← e3, z]; rfl)
    rw [← e3, z, Bool.false_or]
    exact kits_ok e2
theorem cls_tys : ∀ Ts : List String, Paired ClsV (Ts.map V.ty) (Ts.map Value.type)
  | [] => .nil
  | T :: r => .cons (.ty T) (cls_tys r)
def fIsiT (Ts : List String) (fa : FE) : FE := fun ρ st => (fa ρ st).bind fun p => (tyN p.1 p.2).bind fun t => (kits t Ts).map fun b => (.bl b, p.2)
theorem de_isiT {Ts : List String} {cs : List Expr} {j : Nat} {p q : Pos} (o : On G X) (hg : Gl X "isinstance") (hm : G.mg "isinstance" = none) (ha : PE X a (lift G fa)) (hc : PA X cs (tTys Ts)) (hz : Ts.length ≤ 100 := by decide)
    (he : starEach [a, .Tuple cs j q] X.env = (false, eval a X.env) :: starEach [.Tuple cs j q] X.env := by rfl) (he2 : starEach [.Tuple cs j q] X.env = (false, eval (.Tuple cs j q) X.env) :: starEach [] X.env := by rfl) (hpl : (backTo pos (starEach [.Tuple cs j q] X.env)).any (·.1) = false := by rfl) :
    PE X (.Call (.Name "isinstance" p) [a, .Tuple cs j q] [] pos) (lift G (fIsiT Ts fa)) :=
  PE.imp (pe_callB call_isiT hg (by rw [o.mg]; exact hm) (by decide +kernel) (pa_cons ha (pa_cons (pe_tup hc) pa_nil he2) he) (by decide) (by decide) he hpl) fun σ H Q ⟨ρ, μ, st, d, st', E, S, e, k⟩ => by
    unfold fIsiT at e
    obtain ⟨⟨x, s1⟩, e1, e⟩ := Option.bind_eq_some_iff.mp e
    obtain ⟨t, e2, e⟩ := Option.bind_eq_some_iff.mp e
    obtain ⟨bb, e3, e4⟩ := Option.map_eq_some_iff.mp e
    cases e4
    refine ⟨ρ, μ, st, x, _, E, S, e1, fun μ1 H1 v X1 S1 R1 => ⟨by rw [List.length_map]; exact Nat.le_trans hz (by decide), fun tp htp => ?_⟩⟩
    exact ⟨v, tp, Ts.map V.ty, .type t, Ts.map Value.type, bb, rfl, upd_same, cls_tys Ts, by rw [o.K]; exact tyN_ok (S1.newT htp) (R1.ext (Ext.new S1 htp)) e2, kits_ok e3, k μ1 _ _ (X1.trans (Ext.new S1 htp)) (S1.newT htp) (.bl bb)⟩
/-! numbers -/
def absD : HA
  | [.int i], st => some (.int (if i < 0 then -i else i), st)
  | _, _ => none
theorem dc_abs : CallR X (.builtin "abs") (rDA G absD) := CallR.imp call_abs fun xs H Q ⟨μ, st, ds, z, st', S, R, e, k⟩ => by
  unfold absD at e
  split at e
  · cases e
    cases R with
    | cons r t => cases t; cases r; exact ⟨_, rfl, k μ H _ .refl S (.int _)⟩
  · cases e
def maxD : HA
  | [.int i, .int j], st => some (.int (if j > i then j else i), st)
  | _, _ => none
theorem dc_max (o : On G X) : CallR X (.builtin "max") (rDA G maxD) := CallR.imp (call_max2 o.calm) fun xs H Q ⟨μ, st, ds, z, st', S, R, e, k⟩ => by
  unfold maxD at e
  split at e
  · cases e
    cases R with
    | cons r t => cases r; cases t with
      | cons r t => cases t; cases r; exact ⟨_, _, rfl, k μ H _ .refl S (.int _)⟩
  · cases e
def minD : HA
  | [.int i, .int j], st => some (.int (if j < i then j else i), st)
  | _, _ => none
theorem dc_min (o : On G X) : CallR X (.builtin "min") (rDA G minD) := CallR.imp (call_min2 o.calm) fun xs H Q ⟨μ, st, ds, z, st', S, R, e, k⟩ => by
  unfold minD at e
  split at e
  · cases e
    cases R with
    | cons r t => cases r; cases t with
      | cons r t => cases t; cases r; exact ⟨_, _, rfl, k μ H _ .refl S (.int _)⟩
  · cases e
def strD : HA
  | [.int i], st => if i.natAbs.log2 < 1920 then some (.str (toString i), st) else none
  | [.bl b], st => some (.str (strB b), st)
  | _, _ => none
theorem dc_str : CallR X (.type "str") (rDA G strD) := CallR.imp call_strB fun xs H Q ⟨μ, st, ds, z, st', S, R, e, k⟩ => by
  unfold strD at e
  split at e
  · split at e
    · rename_i hz
      cases e
      cases R with
      | cons r t => cases t; cases r; exact .inl ⟨_, rfl, hz, k μ H _ .refl S (.str _)⟩
    · cases e
  · cases e
    cases R with
    | cons r t => cases t; cases r; exact .inr ⟨_, rfl, k μ H _ .refl S (.str _)⟩
  · cases e
def seqD (c : D) (st : Sto) : Option (List D) := match c with
  | .tup ds => some ds
  | c => listOf c st
theorem seq_rep {μ : Mu} {st : Sto} {H : Hp} {d : D} {ds : List D} {v : V} (S : StR G μ st H) (R : Rep G μ H d v) (e : seqD d st = some ds) : ∃ a vs, v = .ref a ∧ (SqL G.K H a vs ∨ SqT G.K H a vs) ∧ Reps G μ H ds vs := by
  unfold seqD at e
  split at e
  · cases e
    cases R with
    | tup s r => exact ⟨_, _, rfl, .inr s, r⟩
  · obtain ⟨a, vs, h1, h2, h3⟩ := list_rep S R e
    exact ⟨a, vs, h1, .inl h2, h3⟩
/-- list(x): to be written | by value -/
def listD : HA
  | [c], st => (seqD c st).map fun ds => (.ref st.length, st ++ [.lst ds])
  | _, _ => none
def listZ : HA
  | [c], st => (seqD c st).map fun ds => (.lst ds, st)
  | _, _ => none
theorem dc_list (o : On G X) : CallR X (.type "list") (rDA G listD) := CallR.imp call_list_of fun xs H Q ⟨μ, st, ds, z, st', S, R, e, k⟩ => by
  unfold listD at e
  split at e
  · obtain ⟨ds, e1, e2⟩ := Option.map_eq_some_iff.mp e
    cases e2
    cases R with
    | cons r t =>
      cases t
      obtain ⟨a, vs, rfl, h1, h2⟩ := seq_rep S r e1
      exact ⟨_, _, rfl, by rw [o.K]; exact h1, fun p hp => k _ _ _ (Ext.newAt S hp) (S.newL hp h2) (rep_newL (ds := []) S)⟩
  · cases e
theorem dc_listZ (o : On G X) : CallR X (.type "list") (rDA G listZ) := CallR.imp call_list_of fun xs H Q ⟨μ, st, ds, z, st', S, R, e, k⟩ => by
  unfold listZ at e
  split at e
  · obtain ⟨ds, e1, e2⟩ := Option.map_eq_some_iff.mp e
    cases e2
    cases R with
    | cons r t =>
      cases t
      obtain ⟨a, vs, rfl, h1, h2⟩ := seq_rep S r e1
      exact ⟨_, _, rfl, by rw [o.K]; exact h1, fun p hp => k _ _ _ (Ext.new S hp) (S.newT hp) (rep_newZ S hp h2)⟩
  · cases e
def tupleD : HA
  | [.tup ds], st => some (.tup ds, st)
  | [c], st => (listOf c st).map fun ds => (.tup ds, st)
  | _, _ => none
theorem dc_tuple (o : On G X) : CallR X (.type "tuple") (rDA G tupleD) := CallR.imp call_tuple_of fun xs H Q ⟨μ, st, ds, z, st', S, R, e, k⟩ => by
  unfold tupleD at e
  split at e
  · cases e
    cases R with
    | cons r t => cases t; cases r with
      | tup s r => exact ⟨_, _, rfl, .inr ⟨by rw [o.K]; exact s, k μ H _ .refl S (.tup s r)⟩⟩
  · obtain ⟨ds, e1, e2⟩ := Option.map_eq_some_iff.mp e
    cases e2
    cases R with
    | cons r t =>
      cases t
      obtain ⟨a, vs, rfl, h1, h2⟩ := list_rep S r e1
      exact ⟨_, vs, rfl, .inl ⟨by rw [o.K]; exact h1, fun p hp => k μ _ _ (Ext.new S hp) (S.newT hp) (.tup (SqT.of upd_same) (h2.ext (Ext.new S hp)))⟩⟩
  · cases e
/-! ### methods -/
def fApp (fo fa : FE) : FE := fun ρ st => (fo ρ st).bind fun p => (fa ρ p.2).bind fun q => match p.1 with
  | .ref l => match p.2[l]?, q.2[l]? with
    | some (.lst _), some (.lst ds) => if ds.length < sizeLine then some (.non, q.2.set l (.lst (ds ++ [q.1]))) else none
    | _, _ => none
  | _ => none
theorem de_append {fo : FE} {apos : Pos} (o : On G X) (ho : PE X b (lift G fo)) (ha : PE X a (lift G fa)) (hst : starEach [a] X.env = (false, eval a X.env) :: starEach [] X.env := by rfl)
    (hb : attributeBase b "append" X.env (eval b X.env) = eval b X.env := by rfl) (hl : (apos.endLine == pos.line) = true := by rfl) (hpl : (backTo pos (starEach [] X.env)).any (·.1) = false := by rfl)
    (hfew : ((backTo pos (starEach [a] X.env)).all (fun x => !x.1) && (backToKw pos (keywordEach [] X.env)).all (fun x => x.1.isSome) && decide ([a].length + ([] : List Keyword).length + (if ([] : List Keyword).isEmpty then 0 else 1) < 30)) = true := by rfl) : PE X (.Call (.Attribute b "append" apos) [a] [] pos) (lift G (fApp fo fa)) :=
  PE.imp (pe_bm PySem.F.plainAttrs_list PySem.F.slot_list_append PySem.F.type_list_append mt_append ho (pa_cons ha pa_nil hst) hb hfew hl hst hpl) fun σ H Q ⟨ρ, μ, st, d, st', E, S, e, k⟩ => by
    unfold fApp at e
    obtain ⟨⟨x, s1⟩, e1, e⟩ := Option.bind_eq_some_iff.mp e
    obtain ⟨⟨y, s2⟩, e2, e⟩ := Option.bind_eq_some_iff.mp e
    simp only at e
    split at e
    · rename_i l
      split at e
      · rename_i d1 ds h1 h2
        split at e
        · rename_i hz
          cases e
          refine ⟨ρ, μ, st, _, s1, E, S, e1, fun μ1 H1 v X1 S1 R1 => ?_⟩
          cases R1 with
          | ref hp =>
            obtain ⟨us, u1, _⟩ := S1.obj _ _ _ h1 hp
            refine ⟨.inl ⟨rfl, _, SqL.of u1⟩, ⟨ρ, μ1, s1, y, s2, E.ext X1, S1, e2, fun μ2 H2 w X2 S2 R2 => ?_⟩⟩
            obtain ⟨ws, w1, w2⟩ := S2.obj _ _ _ h2 (X2.at hp)
            exact ⟨_, ws, w, rfl, rfl, w1, by rw [← w2.length]; exact hz, k μ2 _ _ (X1.trans (X2.trans (Ext.set S2 (X2.at hp)))) (S2.setL (X2.at hp) (w2.append (.cons R2 .nil))) .non⟩
        · cases e
      · cases e
    · cases e
end
end EL

set_option Elab.async false
set_option linter.all false
set_option maxRecDepth 100000
set_option maxHeartbeats 1000000
namespace EL
open PySem PySem.Spec PyProof.Rows L2 GxR LG

section
variable {G : G0} {W : WX} {X : Cx} {pos : Pos} {a b c e tgt : Expr} {es : List Expr} {fa fb fc : FE} {ta tb : FT} {fr : FA}
/-! ### x.upper() -/
def fUpper (fa : FE) : FE := fun ρ st => (fa ρ st).bind fun p => match p.1 with
  | .str x => if x.length ≤ 5592405 then some (.str (Txt.upper x), p.2) else none
  | _ => none
theorem de_upper {apos : Pos} (ha : PE X a (lift G fa)) (hbase : attributeBase a "upper" X.env (eval a X.env) = eval a X.env := by rfl) (hline : (apos.endLine == pos.line) = true := by rfl) :
    PE X (.Call (.Attribute a "upper" apos) [] [] pos) (lift G (fUpper fa)) :=
  PE.imp (pe_upper ha hbase hline) fun σ H Q ⟨ρ, μ, st, d, st', E, S, e, k⟩ => by
    unfold fUpper at e
    obtain ⟨⟨d1, s1⟩, e1, e⟩ := Option.bind_eq_some_iff.mp e
    simp only at e
    split at e
    · split at e
      · rename_i hz
        cases e
        refine ⟨ρ, μ, st, _, _, E, S, e1, fun μ1 H1 v X1 S1 R1 => ?_⟩
        cases R1
        exact ⟨⟨_, rfl⟩, _, rfl, rfl, hz, k μ1 H1 _ X1 S1 (.str _)⟩
      · cases e
    · cases e
/-! ### a tuple backwards -/
def tRevT (K : PySem.W.Frag) (te : TE) : TE := fun σ H Q => te σ H fun x H1 => ∃ a xs, x = .ref a ∧ SqT K H1 a xs ∧ ∀ p, H1 p = none → Q (.ref p) (upd H1 p (.tup xs.reverse))
/-! ### stores -/
def putIx (d i v : D) (st : Sto) : Option Sto := match d, i with
  | .ref l, .int k => match st[l]? with
    | some (.lst ds) => (ixN ds.length k).map fun j => st.set l (.lst (ds.set j v))
    | _ => none
  | _, _ => none
theorem putIx_ok {μ : Mu} {st st' : Sto} {H : Hp} {d i w : D} {o j v : V} {Q : Hp → Prop} (S : StR G μ st H) (Ro : Rep G μ H d o) (Ri : Rep G μ H i j) (Rv : Rep G μ H w v) (e : putIx d i w st = some st')
    (k : ∀ H', Ext G μ H μ H' → StR G μ st' H' → Q H') : rSetL o j v H Q := by
  unfold putIx at e
  split at e
  · rename_i l kk
    split at e
    · rename_i ds hl
      obtain ⟨jj, e1, e2⟩ := Option.map_eq_some_iff.mp e
      subst e2
      cases Ri
      cases Ro with
      | ref ha =>
        obtain ⟨vs, h1, h2⟩ := S.obj _ _ _ hl ha
        exact ⟨_, vs, kk, jj, rfl, rfl, h1, by rw [← h2.length]; exact e1, k _ (Ext.set S ha) (S.setL ha (h2.set Rv jj))⟩
    · cases e
  · cases e
def sPut (fa fo fi : FE) : FS := fun ρ st => (fa ρ st).bind fun p => (fo ρ p.2).bind fun q => (fi ρ q.2).bind fun r => (putIx q.1 r.1 p.1 r.2).map fun st' => (.nx, ρ, st')
theorem ds_put {fo fi : FE} {p1 : Pos} (he : PE X e (lift G fa)) (ho : PE X a (lift G fo)) (hi : PE X b (lift G fi)) (hg : PG X (.Subscript a b p1) (gSub (lift G fo) (lift G fi) rSetL))
    (hs : swapsWithSole [.Subscript a b p1] e pos.line X.env = pure false := by rfl) (hw : swappedStores [.Subscript a b p1] e X.env = pure none := by rfl) : PS X (.Assign [.Subscript a b p1] e pos) (liftS G W (sPut fa fo fi)) :=
  PS.imp (ps_asg he hg hs hw) fun D0 σ H ⟨ρ, μ, st, fl, ρ', st', E, S, e, k⟩ => by
    unfold sPut at e
    obtain ⟨p, e1, e⟩ := Option.bind_eq_some_iff.mp e
    obtain ⟨q, e2, e⟩ := Option.bind_eq_some_iff.mp e
    obtain ⟨r, e3, e⟩ := Option.bind_eq_some_iff.mp e
    obtain ⟨s', e4, e5⟩ := Option.map_eq_some_iff.mp e
    cases e5
    exact ⟨ρ, μ, st, p.1, p.2, E, S, e1, fun μ1 H1 v X1 S1 R1 => ⟨ρ, μ1, p.2, q.1, q.2, E.ext X1, S1, e2, fun μ2 H2 w X2 S2 R2 => ⟨ρ, μ2, q.2, r.1, r.2, E.ext (X1.trans X2), S2, e3, fun μ3 H3 u X3 S3 R3 =>
      putIx_ok S3 (R2.ext X3) R3 (R1.ext (X2.trans X3)) e4 fun H4 X4 S4 => k μ3 H4 (X1.trans (X2.trans (X3.trans X4))) S4 σ (E.ext (X1.trans (X2.trans (X3.trans X4))))⟩⟩⟩
/-- a[i], b[j] = x, y -/
def sPut2 (fr : FA) (fo fi fo' fi' : FE) : FS := fun ρ st => (fr ρ st).bind fun p => match p.1 with
  | [x, y] => (fo ρ p.2).bind fun q => (fi ρ q.2).bind fun r => (putIx q.1 r.1 x r.2).bind fun s1 => (fo' ρ s1).bind fun q' => (fi' ρ q'.2).bind fun r' => (putIx q'.1 r'.1 y r'.2).map fun st' => (.nx, ρ, st')
  | _ => none
theorem ds_put2 {a' b' : Expr} {fo fi fo' fi' : FE} {p1 p2 p3 p4 : Pos} {j1 j2 : Nat} (o : On G X) (he : PA X es (liftA G fr)) (ho : PE X a (lift G fo)) (hi : PE X b (lift G fi)) (ho' : PE X a' (lift G fo')) (hi' : PE X b' (lift G fi'))
    (hg : PG X (.Tuple [.Subscript a b p1, .Subscript a' b' p2] j1 p3) (gTup X.K 2 (gCons (gSub (lift G fo) (lift G fi) rSetL) (gCons (gSub (lift G fo') (lift G fi') rSetL) gNil))))
    (hs : swapsWithSole [.Tuple [.Subscript a b p1, .Subscript a' b' p2] j1 p3] (.Tuple es j2 p4) pos.line X.env = pure false := by rfl) (hw : swappedStores [.Tuple [.Subscript a b p1, .Subscript a' b' p2] j1 p3] (.Tuple es j2 p4) X.env = pure none := by rfl) :
    PS X (.Assign [.Tuple [.Subscript a b p1, .Subscript a' b' p2] j1 p3] (.Tuple es j2 p4) pos) (liftS G W (sPut2 fr fo fi fo' fi')) :=
  PS.imp (ps_asg (pe_tup he) hg hs hw) fun D0 σ H ⟨ρ, μ, st, fl, ρ', st', E, S, e, k⟩ => by
    unfold sPut2 at e
    obtain ⟨⟨ds, s0⟩, e1, e⟩ := Option.bind_eq_some_iff.mp e
    simp only at e
    split at e
    · rename_i x y
      obtain ⟨q, e2, e⟩ := Option.bind_eq_some_iff.mp e
      obtain ⟨r, e3, e⟩ := Option.bind_eq_some_iff.mp e
      obtain ⟨s1, e4, e⟩ := Option.bind_eq_some_iff.mp e
      obtain ⟨q', e5, e⟩ := Option.bind_eq_some_iff.mp e
      obtain ⟨r', e6, e⟩ := Option.bind_eq_some_iff.mp e
      obtain ⟨s', e7, e8⟩ := Option.map_eq_some_iff.mp e
      cases e8
      refine ⟨ρ, μ, st, _, s0, E, S, e1, fun μ1 H1 vs X1 S1 R1 => ?_⟩
      cases R1 with
      | @cons _ v1 _ _ Rx t => cases t with
        | @cons _ v2 _ _ Ry t =>
          cases t
          refine ⟨Nat.le_of_lt (small1000 (by simp)), fun p hp => ⟨p, _, rfl, by rw [o.K]; exact SqT.of upd_same, rfl, _, _, rfl, ?_⟩⟩
          have XP : Ext G μ1 H1 μ1 (upd H1 p (.tup [v1, v2])) := Ext.new S1 hp
          have SP := S1.newT (o := .tup [v1, v2]) hp
          refine ⟨ρ, μ1, s0, q.1, q.2, E.ext (X1.trans XP), SP, e2, fun μ2 H2 w X2 S2 R2 => ⟨ρ, μ2, q.2, r.1, r.2, E.ext (X1.trans (XP.trans X2)), S2, e3, fun μ3 H3 u X3 S3 R3 => ?_⟩⟩
          refine putIx_ok S3 (R2.ext X3) R3 (Rx.ext (XP.trans (X2.trans X3))) e4 fun H4 X4 S4 => ?_
          have X14 := XP.trans (X2.trans (X3.trans X4))
          refine ⟨_, _, rfl, ⟨ρ, μ3, s1, q'.1, q'.2, E.ext (X1.trans X14), S4, e5, fun μ5 H5 w' X5 S5 R5 => ⟨ρ, μ5, q'.2, r'.1, r'.2, E.ext (X1.trans (X14.trans X5)), S5, e6, fun μ6 H6 u' X6 S6 R6 => ?_⟩⟩⟩
          refine putIx_ok S6 (R5.ext X6) R6 (Ry.ext (X14.trans (X5.trans X6))) e7 fun H7 X7 S7 => ?_
          have X17 := X14.trans (X5.trans (X6.trans X7))
          exact ⟨rfl, k μ6 H7 (X1.trans X17) S7 σ (E.ext (X1.trans X17))⟩
    · cases e
/-- names in a row, by a tuple's items -/
def sUnp (tg : Tg) (fa : FE) : FS := fun ρ st => (fa ρ st).bind fun p => (tgD tg p.1 ρ).map fun ρ' => (.nx, ρ', p.2)
theorem ds_unp {tg : Tg} (he : PE X e (lift G fa)) (hg : PG X tgt (gOf G.K tg)) (hs : swapsWithSole [tgt] e pos.line X.env = pure false := by rfl) (hw : swappedStores [tgt] e X.env = pure none := by rfl) (h1 : (assignEach [tgt] X.env).map (·.2) = [assign tgt X.env] := by rfl) : PS X (.Assign [tgt] e pos) (liftS G W (sUnp tg fa)) :=
  PS.imp (ps_asg he hg hs hw h1) fun D0 σ H ⟨ρ, μ, st, fl, ρ', st', E, S, e, k⟩ => by
    unfold sUnp at e
    obtain ⟨p, e1, e⟩ := Option.bind_eq_some_iff.mp e
    obtain ⟨ρ1, e2, e3⟩ := Option.map_eq_some_iff.mp e
    cases e3
    exact ⟨ρ, μ, st, p.1, p.2, E, S, e1, fun μ1 H1 v X1 S1 R1 => gOf_ok (vs' := []) R1 (E.ext X1) e2 fun σ' E' _ => k μ1 H1 X1 S1 σ' E'⟩
/-- names in a row, each its own value -/
def sPar (is : List Nat) (fr : FA) : FS := fun ρ st => (fr ρ st).bind fun p => if p.1.length = is.length then some (.nx, setM ρ is p.1, p.2) else none
theorem ds_par2 {i j : Nat} {x y : Str} {px py pt : Pos} {kt k2 : Nat} {pt2 : Pos} (o : On G X) (hN : X.N.Nodup) (hi : X.N[i]? = some x) (hj : X.N[j]? = some y) (hij : i ≠ j)
    (hx : X.env.scope.names.lookup x = some .local) (hy : X.env.scope.names.lookup y = some .local) (ha : PA X [a, b] (liftA G fr))
    (hw : swappedStores [.Tuple [.Name x px, .Name y py] kt pt] (.Tuple [a, b] k2 pt2) X.env = pure (some [x, y]) := by rfl)
    (hs : swapsWithSole [.Tuple [.Name x px, .Name y py] kt pt] (.Tuple [a, b] k2 pt2) pos.line X.env = pure false := by rfl) :
    PS X (.Assign [.Tuple [.Name x px, .Name y py] kt pt] (.Tuple [a, b] k2 pt2) pos) (liftS G W (sPar [i, j] fr)) :=
  PS.imp (ps_par o.calm hN hi hj hij hx hy ha hw hs) fun D0 σ H ⟨ρ, μ, st, fl, ρ', st', E, S, e, k⟩ => by
    unfold sPar at e
    obtain ⟨⟨ds, s0⟩, e1, e⟩ := Option.bind_eq_some_iff.mp e
    split at e
    · rename_i hl
      cases e
      refine ⟨ρ, μ, st, ds, _, E, S, e1, fun μ1 H1 vs X1 S1 R1 => ?_⟩
      match ds, hl, R1 with
      | [d1, d2], _, .cons r1 (.cons r2 .nil) => exact ⟨_, _, rfl, k μ1 H1 X1 S1 _ (((E.ext X1).set r1).set r2)⟩
    · cases e
theorem ds_par3 {i j l : Nat} {x y z : Str} {px py pz pt : Pos} {kt k2 : Nat} {pt2 : Pos} (o : On G X) (hN : X.N.Nodup) (hi : X.N[i]? = some x) (hj : X.N[j]? = some y) (hl : X.N[l]? = some z) (hij : i ≠ j) (hil : i ≠ l) (hjl : j ≠ l)
    (hx : X.env.scope.names.lookup x = some .local) (hy : X.env.scope.names.lookup y = some .local) (hz : X.env.scope.names.lookup z = some .local) (ha : PA X [a, b, c] (liftA G fr))
    (hw : swappedStores [.Tuple [.Name x px, .Name y py, .Name z pz] kt pt] (.Tuple [a, b, c] k2 pt2) X.env = pure (some [x, y, z]) := by rfl)
    (hs : swapsWithSole [.Tuple [.Name x px, .Name y py, .Name z pz] kt pt] (.Tuple [a, b, c] k2 pt2) pos.line X.env = pure false := by rfl) :
    PS X (.Assign [.Tuple [.Name x px, .Name y py, .Name z pz] kt pt] (.Tuple [a, b, c] k2 pt2) pos) (liftS G W (sPar [i, j, l] fr)) :=
  PS.imp (ps_par3 o.calm hN hi hj hl hij hil hjl hx hy hz ha hw hs) fun D0 σ H ⟨ρ, μ, st, fl, ρ', st', E, S, e, k⟩ => by
    unfold sPar at e
    obtain ⟨⟨ds, s0⟩, e1, e⟩ := Option.bind_eq_some_iff.mp e
    split at e
    · rename_i hl
      cases e
      refine ⟨ρ, μ, st, ds, _, E, S, e1, fun μ1 H1 vs X1 S1 R1 => ?_⟩
      match ds, hl, R1 with
      | [d1, d2, d3], _, .cons r1 (.cons r2 (.cons r3 .nil)) => exact ⟨_, _, _, rfl, k μ1 H1 X1 S1 _ ((((E.ext X1).set r1).set r2).set r3)⟩
    · cases e
end
end EL

set_option Elab.async false
set_option linter.all false
set_option maxRecDepth 100000
set_option maxHeartbeats 1000000
/-! t[::-1] of a tuple -/
namespace DV
open PySem PySem.Spec PyProof.Rows L2 HT
section
variable {prog : Program} {w : World} {A : Around} {E : Value → Shared → Prop} {s : Shared}
theorem adjust_back (n : Nat) : Builtin.Slice.sliceAdjust none none (-1) (n : Int) = ((n : Int) - 1, -1) := rfl
theorem places_back (n : Nat) : Builtin.Slice.slicePlaces ((n : Int) - 1) (-1) (-1) = n := by
  unfold Builtin.Slice.slicePlaces
  have h1 : ¬ ((-1 : Int) > 0) := by omega
  rw [if_neg h1]
  have e : -(-1 : Int) = 1 := by omega
  rw [e, Int.ediv_one]
  by_cases hn : n = 0
  · subst hn; rfl
  · rw [if_pos (show ((n : Int) - 1) > -1 by omega)]
    omega
theorem applied_back {sl : Addr} {n : Nat} {t : Tok} {Q : Int × Int × Nat → Shared → Prop} (hs : s.heap.IsSliceOf sl .none .none (.int (-1) t)) (h : Q ((n : Int) - 1, -1, n) s) :
    wpAny (model prog w) A (Builtin.Slice.sliceApplied (.ref sl) (pure (n : Int))) Q E s := by
  obtain ⟨os, hos, hcs, hds⟩ := id hs
  unfold Builtin.Slice.sliceApplied Builtin.Slice.sliceFields
  refine wpAny_bind (wpAny_bind (wpAny_field hos hds (x := .none) rfl (wpAny_bind (wpAny_field hos hds (x := .none) rfl (wpAny_bind (wpAny_field hos hds (x := .int (-1) t) rfl (wpAny_pure ?_)))))))
  refine wpAny_bind (slicePart_ (.int (-1) t) ?_)
  show wpAny _ _ (if ((-1 : Int) == 0) = true then _ else _) _ _ s
  rw [if_neg (by decide)]
  refine wpAny_bind (slicePart_ .none (wpAny_bind (slicePart_ .none (wpAny_bind (wpAny_pure ?_)))))
  show wpAny _ _ (match Builtin.Slice.sliceAdjust none none (-1) (n : Int) with | (lo, hi) => pure (lo, (-1 : Int), Builtin.Slice.slicePlaces lo hi (-1))) _ _ s
  rw [adjust_back n]
  show wpAny _ _ (pure ((n : Int) - 1, (-1 : Int), Builtin.Slice.slicePlaces ((n : Int) - 1) (-1) (-1))) _ _ s
  rw [places_back]
  exact wpAny_pure h
theorem range_pick {α : Type} : ∀ (l : List α) (f : Nat → Option α), (∀ m, m < l.length → f m = l[m]?) → (List.range l.length).filterMap f = l
  | [], f, _ => rfl
  | x :: r, f, h => by
    have h0 : f 0 = some x := h 0 (by simp)
    rw [List.length_cons, List.range_succ_eq_map, List.filterMap_cons, h0, List.filterMap_map]
    have ih := range_pick r (f ∘ Nat.succ) fun m hm => by
      have q := h (m + 1) (by simp; omega)
      simpa using q
    simp only [ih]
theorem pick_back (xs : Array Value) : ((List.range xs.size).filterMap fun (m : Nat) => xs[(((xs.size : Nat) : Int) - 1 + (m : Int) * (-1)).toNat]?).toArray = xs.toList.reverse.toArray := by
  congr 1
  have hl : xs.toList.reverse.length = xs.size := by simp
  have q := range_pick xs.toList.reverse (fun (m : Nat) => xs[(((xs.size : Nat) : Int) - 1 + (m : Int) * (-1)).toNat]?) fun m hm => by
    have hm' : m < xs.size := by rw [← hl]; exact hm
    have e1 : (((xs.size : Nat) : Int) - 1 + (m : Int) * (-1)).toNat = xs.size - 1 - m := by omega
    show xs[(((xs.size : Nat) : Int) - 1 + (m : Int) * (-1)).toNat]? = _
    rw [e1, List.getElem?_reverse (by simpa using hm'), Array.length_toList, Array.getElem?_toList]
  rw [hl] at q
  exact q
theorem getItem_back {t sl : Addr} {items : Array Value} {tk : Tok} {Q : Value → Shared → Prop} (ht : IsTup s.heap t items) (hs : s.heap.IsSliceOf sl .none .none (.int (-1) tk))
    (h : Q (.ref s.heap.objs.size) { s with heap := s.heap.push { cls := .type "tuple", data := .seq items.toList.reverse.toArray } }) (hsz : items.size ≤ sizeLine) : wpAny (model prog w) A (getItem (.ref t) (.ref sl)) Q E s := by
  have htake : sizeOk (.seq items.toList.reverse.toArray) := by
    show items.toList.reverse.toArray.size ≤ sizeLine
    simpa using hsz
  obtain ⟨os, hos, hcs, hds⟩ := id hs
  have hTs : s.TypeIs (.ref sl) "slice" := ⟨os, hos, hcs⟩
  unfold getItem
  try with_reducible refine wpAny_holding ?_
  first | refine wpAny_bind (wpAny_pure ?_) | skip
  refine wpAny_bind (wpAny_sequenceKey ht.typeIs (by decide) ?_)
  refine wpAny_bind (wpAny_callSpecial?_slot (name := Str.ofString "__getitem__") ht.typeIs PyProof.Rows.slot_tuple_getitem
    (wpAny_call_entry PyProof.Rows.slot_tuple_getitem ht.typeIs entry_tuple_getitem ?_ (args_tuple_getitem _ _)))
  show wpAny _ _ (Builtin.Tuple.tupleItemsOf (.ref t) >>= _) _ _ s
  refine wpAny_bind (tupleItemsOf_ ht ?_)
  refine wpAny_bind (wpAny_typeOf hTs ?_)
  rw [if_pos (by decide)]
  refine wpAny_bind (applied_back hs ?_)
  have hno : ¬ ((((items.size : Nat) : Int) - 1 == 0 && (-1 : Int) == 1 && items.size == items.size) = true) := by
    intro q
    rw [Bool.and_eq_true, Bool.and_eq_true] at q
    exact absurd q.1.2 (by decide)
  show wpAny _ _ (if (((items.size : Nat) : Int) - 1 == 0 && (-1 : Int) == 1 && items.size == items.size) = true then _ else _) _ _ s
  rw [if_neg hno, pick_back]
  first
    | exact wpAny_bind (m := Builtin.Tuple.tupleExact _) (wpAny_newObj_type (wpAny_pure ⟨_, rfl, wpAny_pure h⟩) htake)
    | exact wpAny_bind (m := Builtin.Tuple.tupleExact _) (wpAny_newObj_type (wpAny_bind (wpAny_pure (wpAny_pure ⟨_, rfl, wpAny_pure h⟩))) htake)
    | exact wpAny_bind (wpAny_bind (m := Builtin.Tuple.tupleExact _) (wpAny_newObj_type (wpAny_pure (wpAny_pure ⟨_, rfl, wpAny_pure h⟩)) htake))
    | exact wpAny_bind (wpAny_bind (m := Builtin.Tuple.tupleExact _) (wpAny_newObj_type (wpAny_pure ⟨_, rfl, wpAny_pure h⟩) htake))
end
section
variable {X : Cx}
theorem pe_revT {e : Expr} {te : TE} {k : Nat} {p1 p2 p3 pos : Pos} (he : PE X e te) : PE X (.Subscript e (.Slice none none (some (.UnaryOp .USub (.Constant (.int 1) k p1) p2)) p3) pos) (EL.tRevT X.K te) := by
  refine ⟨fun pins s σ H Q I h => ?_⟩
  refine Subscript_ (thn (he.run pins s σ H _ I h) fun v s1 ⟨x, H1, I1, r1, q1⟩ => ?_)
  obtain ⟨a, xs, ex, hx, q⟩ := q1
  subst ex
  cases r1
  have hst : PO X (some (.UnaryOp .USub (.Constant (.int 1) k p1) p2)) (tPart (tUn (rU fun i => .int (-i)) (tC (.int 1)))) := po_some (pe_un un_neg pe_int)
  refine wpAny_Slice (thn (po_none.run pins s1 σ H1 (fun o H2 => o = none ∧ H2 = H1) I1 ⟨rfl, rfl⟩) fun vl s2 ⟨l, H2, I2, pl, el, e2⟩ => ?_)
  subst el e2
  refine thn (po_none.run pins s2 σ H2 (fun o H3 => o = none ∧ H3 = H2) I2 ⟨rfl, rfl⟩) fun vu s3 ⟨u, H3, I3, pu, eu, e3⟩ => ?_
  subst eu e3
  refine thn (hst.run pins s3 σ H3 (fun o H4 => o = some (-1) ∧ H4 = H3) I3 ⟨1, rfl, -1, rfl, rfl, rfl⟩) fun vs s4 ⟨o, H4, I4, ps, eo, e4⟩ => ?_
  subst eo e4
  have I5 : Inv X pins σ H4 { s4 with heap := s4.heap.push { cls := .type "slice", data := .fields #[vl, vu, vs] } } := I4.kept (t' := s4.toks) fun b ob q => Heap.get?_push_of_some _ q
  obtain ⟨its, r, ht, hz⟩ := I5.tuple hx
  have hlen := r.length
  show wpAny (model X.prog X.w) X.A (subscriptTail e (.Slice none none (some (.UnaryOp .USub (.Constant (.int 1) k p1) p2)) p3) (.ref a) (.ref s4.heap.objs.size)) (EP X pins σ Q) X.xe { s4 with heap := s4.heap.push { cls := .type "slice", data := .fields #[vl, vu, vs] } }
  cases pl
  cases pu
  cases ps with
  | int i tk =>
    refine tail_any (ops := [.ref a, .ref s4.heap.objs.size]) ht.typeIs (PyProof.Rows.slot_tuple_getitem.lookup) ?_ (by with_unfolding_all rfl)
    refine getItem_back ht (Heap.IsSliceOf.new _ .none .none _) ?_ (by rw [List.size_toArray]; omega)
    refine ⟨.ref _, _, I5.laid (t' := s4.toks) (o := .tup xs.reverse) (fun b ob q => Heap.get?_push_of_some _ q) (Nat.le_refl _) ?_, rfl, q _ (I5.hok.fresh (Nat.le_refl _))⟩
    exact ⟨by rw [List.length_reverse]; exact hz, _, r.reverse, IsTup.new _ _⟩
end
end DV
namespace EL
open PySem PySem.Spec PyProof.Rows L2 GxR LG
def fRev (fa : FE) : FE := fun ρ st => (fa ρ st).bind fun p => match p.1 with
  | .tup ds => some (.tup ds.reverse, p.2)
  | _ => none
theorem de_rev {G : G0} {X : Cx} {pos : Pos} {e : Expr} {fa : FE} {k : Nat} {p1 p2 p3 : Pos} (o : On G X) (he : PE X e (lift G fa)) : PE X (.Subscript e (.Slice none none (some (.UnaryOp .USub (.Constant (.int 1) k p1) p2)) p3) pos) (lift G (fRev fa)) :=
  PE.imp (DV.pe_revT he) fun σ H Q ⟨ρ, μ, st, d, st', E, S, e, k⟩ => by
    unfold fRev at e
    obtain ⟨⟨d1, s1⟩, e1, e⟩ := Option.bind_eq_some_iff.mp e
    simp only at e
    split at e
    · cases e
      refine ⟨ρ, μ, st, _, _, E, S, e1, fun μ1 H1 v X1 S1 R1 => ?_⟩
      cases R1 with
      | tup s r => exact ⟨_, _, rfl, by rw [o.K]; exact s, fun p hp => k μ1 _ _ (X1.trans (Ext.new S1 hp)) (S1.newT hp) (.tup (SqT.of upd_same) (r.reverse.ext (Ext.new S1 hp)))⟩
    · cases e
end EL

set_option Elab.async false
set_option linter.all false
set_option maxRecDepth 100000
set_option maxHeartbeats 1000000
/-! sets of texts made of a list, and sorted -/
namespace SX
open PySem PySem.Spec PyProof.Rows L2
def tkey (e : Int × Value) : Str := match e.2 with
  | .str k _ => k
  | _ => ⟨#[]⟩
def TEl (w : World) (e : Int × Value) : Prop := ∃ k tk, e.2 = Value.str k tk ∧ e.1 = hashStr w k
def set0 (w : World) : Obj := { cls := .type "set", dict := none, data := .set #[] 0 (.fresh 0 0 (!w.params.followText "set-order")) }
/-- a set whose members are the texts of l -/
structure TRows (w : World) (l : List Str) (es : Array (Int × Value)) (t : SetTable) : Prop where
  el : ∀ e ∈ es.toList, TEl w e
  nd : (es.toList.map tkey).Nodup
  mem : ∀ k, k ∈ es.toList.map tkey ↔ k ∈ l
  few : es.size < scanBound
  fits : t.fits es.size = true
  ris : Ris t.place.toList
  led : w.params.followText "set-order" = true ∨ t.led = true
def TSet (w : World) (h : Heap) (a : Addr) (l : List Str) : Prop := ∃ o es ep t, h.get? a = some o ∧ o.ExactSet ∧ o.data = .set es ep t ∧ TRows w l es t
section
variable {P : Program} {w : World} {h h' : Heap} {a : Addr} {l : List Str}
theorem TSet.keep (R : TSet w h a l) (k : ∀ o, h.get? a = some o → h'.get? a = some o) : TSet w h' a l := by
  obtain ⟨o, es, ep, t, ho, r⟩ := R
  exact ⟨o, es, ep, t, k o ho, r⟩
theorem el_all {r : List (Int × Value)} (g : ∀ e ∈ r, TEl w e) : ElemsOf (strKind P w) r := fun e he => by
  obtain ⟨k, tk, q1, q2⟩ := g e he
  exact ⟨⟨k, by rw [q1]; exact strKind_is P w k tk, q2⟩, by rw [q1] <;> rfl⟩
theorem el_is {e : Int × Value} (g : TEl w e) (k : Str) : (strKind P w).is k e.2 = true ↔ tkey e = k := by
  obtain ⟨k0, tk, q1, _⟩ := g
  constructor
  · intro z
    have z0 : (strKind P w).is k0 e.2 = true := by rw [q1]; exact strKind_is P w k0 tk
    have := (strKind P w).inj _ _ _ z0 z
    unfold tkey; rw [q1]; exact this
  · intro z
    unfold tkey at z; rw [q1] at z
    rw [q1, ← z]; exact strKind_is P w _ tk
theorem el_mem {r : List (Int × Value)} (g : ∀ e ∈ r, TEl w e) (k : Str) : k ∈ r.map tkey ↔ ∃ e ∈ r, (strKind P w).is k e.2 = true := by
  rw [List.mem_map]
  constructor
  · rintro ⟨e, he, q⟩
    exact ⟨e, he, (el_is (g e he) k).2 q⟩
  · rintro ⟨e, he, q⟩
    exact ⟨e, he, (el_is (g e he) k).1 q⟩
theorem TRows.perm {es es' : Array (Int × Value)} {t t' : SetTable} (R : TRows w l es t) (pm : es'.toList.Perm es.toList) (hf : t'.fits es'.size = true) (hr : Ris t'.place.toList) (hl : w.params.followText "set-order" = true ∨ t'.led = true) : TRows w l es' t' where
  el e he := R.el e (pm.mem_iff.mp he)
  nd := (pm.map tkey).nodup_iff.mpr R.nd
  mem k := (pm.map tkey).mem_iff.trans (R.mem k)
  few := by rw [← Array.length_toList, pm.length_eq, Array.length_toList]; exact R.few
  fits := hf
  ris := hr
  led := hl
theorem TRows.push {es es' : Array (Int × Value)} {t t' : SetTable} {k : Str} {tk : Tok} (R : TRows w l es t) (hk : k ∉ es.toList.map tkey) (pm : es'.toList.Perm ((hashStr w k, Value.str k tk) :: es.toList)) (hb : es.size + 1 < scanBound) (hf : t'.fits es'.size = true) (hr : Ris t'.place.toList) (hl : w.params.followText "set-order" = true ∨ t'.led = true) :
    TRows w (k :: l) es' t' where
  el e he := by
    rcases List.mem_cons.mp (pm.mem_iff.mp he) with z | z
    · rw [z]; exact ⟨k, tk, rfl, rfl⟩
    · exact R.el e z
  nd := (pm.map tkey).nodup_iff.mpr (List.nodup_cons.mpr ⟨hk, R.nd⟩)
  mem j := by
    rw [(pm.map tkey).mem_iff]
    show j ∈ k :: es.toList.map tkey ↔ _
    rw [List.mem_cons, List.mem_cons, R.mem j]
  few := by rw [← Array.length_toList, pm.length_eq, List.length_cons, Array.length_toList]; exact hb
  fits := hf
  ris := hr
  led := hl
end
section
variable {P : Program} {w : World} {A : Around} {E : Value → Shared → Prop} {s : Shared} {a : Addr} {l : List Str}
theorem tail_add {g : Bool → Sem Unit} (hg : ∀ (b : Bool) (s₁ : Shared) (Q' : Unit → Shared → Prop), Q' () s₁ → wpAny (model P w) A (g b) Q' E s₁) {o : Obj} {es : Array (Int × Value)} {ep : Nat} {t : SetTable} (hob : s.heap.get? a = some o) (hex : o.ExactSet) (hdt : o.data = .set es ep t)
    {esn : Array (Int × Value)} {tn : SetTable} (R : TRows w l esn tn) {wasDummy : Bool} {K : Option Bool → Shared → Prop} (hK : ∀ h', Heap.SameBut a s.heap h' → TSet w h' a l → K (some true) { s with heap := h' }) :
    wpAny (model P w) A (do
        storeSet a esn tn
        if (!wasDummy && tn.tooFull) = true then do
            g (relayAll tn esn (SetTable.grown esn.size)).2.2
            storeSet a (relayAll tn esn (SetTable.grown esn.size)).1 (relayAll tn esn (SetTable.grown esn.size)).2.1
            pure (some true)
          else pure (some true)) K E s := by
  refine wpAny_bind (wpAny_storeSet_of hob hdt ?_ (fits_of_scanBound R.few))
  have hob1 := store_at (es' := esn) (t' := tn) hob hdt
  have same1 := Heap.SameBut.update s.heap a (Obj.putSet esn tn)
  split
  · have pm := relayAll_perm tn esn (SetTable.grown esn.size)
    have q1 := relayAll_fits tn esn (SetTable.grown esn.size)
    have q2 := relayAll_ris tn esn (SetTable.grown esn.size)
    have q3 := relayAll_led tn esn (SetTable.grown esn.size)
    generalize relayAll tn esn (SetTable.grown esn.size) = Z at pm q1 q2 q3 ⊢
    obtain ⟨esm, tm, gave⟩ := Z
    dsimp only at pm q1 q2 q3 ⊢
    have R2 : TRows w l esm tm := R.perm pm q1 q2 (R.led.imp id fun z => by rw [q3]; exact z)
    refine wpAny_bind (hg _ _ _ ?_)
    refine wpAny_bind (wpAny_storeSet_of hob1 rfl ?_ (fits_of_scanBound R2.few))
    have hob2 := store_at (es' := esm) (t' := tm) hob1 rfl
    exact wpAny_pure (hK _ (same1.trans (Heap.SameBut.update _ a _)) ⟨_, esm, _, tm, hob2, hex, rfl, R2⟩)
  · exact wpAny_pure (hK _ same1 ⟨_, esn, _, tn, hob1, hex, rfl, R⟩)
theorem add_hashed {k : Str} {tk : Tok} {Q : Bool → Shared → Prop} (R : TSet w s.heap a l) (room : l.length + 1 < scanBound) (nl : ∀ es : Array (Int × Value), (es.toList.map tkey).Nodup → (∀ k, k ∈ es.toList.map tkey ↔ k ∈ l) → es.size ≤ l.length)
    (hQ : ∀ b h', Heap.SameBut a s.heap h' → TSet w h' a (k :: l) → Q b { s with heap := h' }) :
    wpAny (model P w) A (setAddHashed a (.str k tk) ((strKind P w).hash k)) Q E s := by
  obtain ⟨o, es, ep, t, hob, hex, hdt, R⟩ := R
  have isk : (strKind P w).is k (.str k tk) = true := strKind_is P w k tk
  have scn : (Value.str k tk).scannable = true := rfl
  have els : ElemsOf (strKind P w) es.toList := el_all R.el
  have hsz : es.size + 1 < scanBound := by have := nl es R.nd R.mem; omega
  unfold setAddHashed setAddHashedIn
  refine wpAny_holding (wpAny_bind (wpAny_setState_of hob hdt R.fits ?_))
  dsimp only
  rw [byScan_of scn R.few els]
  simp only [↓reduceIte]
  unfold setAddByScan
  refine wpAny_bind ?_
  refine wpAny_bind (wpAny_rule ?_)
  refine wpAny_bind (wpAny_setScan_of isk hob hdt R.fits els ?_)
  cases hfi : List.findIdx? (fun e => (strKind P w).is k e.2) es.toList with
  | some j =>
    dsimp only
    obtain ⟨hj, pj, _⟩ := List.findIdx?_eq_some_iff_getElem.mp hfi
    have kin : k ∈ l := (R.mem k).1 ((el_mem (P := P) R.el k).2 ⟨es.toList[j], List.getElem_mem hj, pj⟩)
    refine wpAny_pure (wpAny_pure ?_)
    refine hQ _ s.heap (Heap.SameBut.refl a s.heap) ⟨o, es, ep, t, hob, hex, hdt, R.el, R.nd, fun i => ?_, R.few, R.fits, R.ris, R.led⟩
    rw [R.mem i, List.mem_cons]
    exact ⟨.inr, fun z => z.elim (fun e => e ▸ kin) id⟩
  | none =>
    dsimp only
    have nin : k ∉ es.toList.map tkey := fun z => by
      obtain ⟨e, he, q⟩ := (el_mem (P := P) R.el k).1 z
      have c := List.findIdx?_eq_none_iff.mp hfi e he
      rw [q] at c
      cases c
    have gw : ∀ (b : Bool) {s₁ : Shared} {Q' : Unit → Shared → Prop}, Q' () s₁ → wpAny (model P w) A (match b with | true => rule "set.scan.the-table-gave-way" | false => pure ()) Q' E s₁ :=
      fun b s₁ Q' q => by cases b <;> first | exact wpAny_pure q | exact wpAny_rule q
    have pm := layNew_perm t es ((strKind P w).hash k) (.str k tk)
    have z1 := layNew_fits t es ((strKind P w).hash k) (.str k tk)
    have z2 := layNew_ris t es ((strKind P w).hash k) (.str k tk) R.ris
    have z3 := layNew_led t es ((strKind P w).hash k) (.str k tk)
    generalize layNew t es ((strKind P w).hash k) (.str k tk) = Z at pm z1 z2 z3 ⊢
    obtain ⟨esn, tn, wasDummy, gave⟩ := Z
    dsimp only at pm z1 z2 z3 ⊢
    rw [Array.toList_push] at pm
    have pc : esn.toList.Perm ((hashStr w k, Value.str k tk) :: es.toList) := pm.trans (List.perm_append_singleton _ _)
    have led2 : w.params.followText "set-order" = true ∨ tn.led = true := R.led.imp id fun z => by rw [z3]; exact z
    have R2 : TRows w (k :: l) esn tn := R.push nin pc hsz z1 z2 led2
    refine wpAny_bind (gw _ ?_)
    split
    · refine wpAny_bind ?_
      rw [hashByValue_scannable 8 scn]
      refine wpAny_pure ?_
      refine tail_add (l := k :: l) ?_ hob hex hdt ?_ ?_
      · intro b s₁ Q' q; cases b <;> first | exact wpAny_pure q | exact wpAny_rule q
      · first | exact R2 | (split <;> first | exact R2 | exact R2.perm (List.Perm.refl _) (SetTable.fits_plain_off z1) z2 led2)
      · intro h' sb r; dsimp only; exact wpAny_pure (hQ _ h' sb r)
    · refine wpAny_bind (wpAny_pure ?_)
      simp only [↓reduceIte]
      refine tail_add (l := k :: l) ?_ hob hex hdt R2 ?_
      · intro b s₁ Q' q; cases b <;> first | exact wpAny_pure q | exact wpAny_rule q
      · intro h' sb r; dsimp only; exact wpAny_pure (hQ _ h' sb r)
end
end SX

set_option Elab.async false
set_option linter.all false
set_option maxRecDepth 100000
set_option maxHeartbeats 3200000
namespace SX
open PySem PySem.Spec PyProof.Rows L2
theorem nodup_le {α : Type} [DecidableEq α] : ∀ {ks l : List α}, ks.Nodup → (∀ k ∈ ks, k ∈ l) → ks.length ≤ l.length
  | [], _, _, _ => Nat.zero_le _
  | k :: ks, l, nd, sub => by
    obtain ⟨h1, h2⟩ := List.nodup_cons.mp nd
    have hk : k ∈ l := sub k List.mem_cons_self
    have := nodup_le (l := l.erase k) h2 fun j hj => by
      have hne : j ≠ k := fun e => h1 (e ▸ hj)
      exact (List.mem_erase_of_ne hne).mpr (sub j (List.mem_cons_of_mem _ hj))
    rw [List.length_erase_of_mem hk] at this
    have : 0 < l.length := List.length_pos_of_mem hk
    simp only [List.length_cons]
    omega
section
variable {P : Program} {w : World} {A : Around} {E : Value → Shared → Prop} {s : Shared} {a : Addr}
theorem update_strs {I : Addr} {fp wr : List Addr} {G : Array GenState → Array GenState → Prop} {n : Nat} {Pv : Nat → Value → Prop} {St : Nat → Shared → Prop} {R : Result → Shared → Prop}
    (W : WalksS P w A.in1 I fp wr G n Pv St) (S : Addr) (hSf : S ∉ fp) (ks : List Str) (hn : n = ks.length) (hfew : ks.length < 64) (hval : ∀ i v, Pv i v → ∃ p tk, ks[i]? = some p ∧ v = .str p tk) :
    ∀ (k i : Nat) (s : Shared), n - i = k → i ≤ n → St i s → TSet w s.heap S (ks.take i).reverse →
      (∀ s', Moved (S :: wr) G s s' → TSet w s'.heap S ks.reverse → R (.ok (.ret .none)) s') →
      codeAny (model P w) A (.builtin "set.update.loop" ⟨[.ref S, .ref I], []⟩) R s := by
  have offw : S ∉ wr := fun h => hSf (W.sub _ h)
  have more : ∀ b ∈ wr, b ∈ S :: wr := fun b hb => List.mem_cons_of_mem _ hb
  intro k
  induction k with
  | zero =>
    intro i s hk hi hst T hR
    have hin : i = n := by omega
    subst hin
    refine codeAny_builtin F.entry_set_update_loop ?_
    rw [Around.under_plainId F.plain_set_update_loop _]
    show wpAny _ A.in1 (pyNext (.ref I) >>= _) _ _ s
    refine wpAny_bind (W.done s _ _ hst fun s' hm => ?_)
    show wpAny _ A.in1 (ret Value.none) _ _ s'
    rw [hn, List.take_length] at T
    exact wpAny_pure (hR s' (hm.mono more) (T.keep fun o e => hm.heap S o offw e))
  | succ k ih =>
    intro i s hk hi hst T hR
    have hlt : i < n := by omega
    refine codeAny_builtin F.entry_set_update_loop ?_
    rw [Around.under_plainId F.plain_set_update_loop _]
    show wpAny _ A.in1 (pyNext (.ref I) >>= _) _ _ s
    refine wpAny_bind (W.item i s _ _ hlt hst fun v s' hP hst' hm => ?_)
    obtain ⟨p, tk, hp, rfl⟩ := hval i v hP
    have T' : TSet w s'.heap S (ks.take i).reverse := T.keep fun o e => hm.heap S o offw e
    show wpAny _ A.in1 (holding [Value.str p tk] (setAdd S (.str p tk)) >>= _) _ _ s'
    refine wpAny_bind (wpAny_holding ?_)
    unfold setAdd
    refine wpAny_holding ?_
    refine wpAny_bind ((strKind P w).pyHash (k := p) (strKind_is P w p tk) ?_)
    have hlen : (ks.take i).reverse.length ≤ 64 := by rw [List.length_reverse, List.length_take]; omega
    refine add_hashed (s := { s' with toks := s'.toks + 1 }) T' (by unfold scanBound; omega) (fun es nd mm => ?_) fun b h' hsb T2 => ?_
    · rw [← Array.length_toList, ← List.length_map (f := tkey)]
      exact nodup_le nd fun k hk => (mm k).1 hk
    · have T3 : TSet w h' S (ks.take (i + 1)).reverse := by
        have : (ks.take (i + 1)).reverse = p :: (ks.take i).reverse := by rw [List.take_add_one, hp]; simp
        rw [this]; exact T2
      refine wpAny_pure ⟨plainId_quiet F.plain_set_update_loop _, ih (i + 1) _ (by omega) hlt (W.frame _ s' _ _ hst' (Nat.le_succ _) fun b hb o e => ?_) T3 fun s'' hm'' T4 => ?_⟩
      · rw [hsb.2 b (fun h : b = S => hSf (by rw [← h]; exact hb))]; exact e
      · refine hR s'' (Moved.trans W.gtrans ((hm.mono more).then_heap (Nat.le_succ _) fun b o hb e => ?_) hm'') T4
        rw [hsb.2 b (fun h : b = S => hb (by rw [h]; exact List.mem_cons_self))]; exact e
theorem tset0 {h : Heap} {a : Addr} (ho : h.get? a = some (set0 w)) : TSet w h a [] :=
  ⟨_, #[], 0, _, ho, ⟨rfl, rfl, rfl⟩, rfl, ⟨fun e he => by simp at he, by simp, fun k => by simp, by decide, by rfl, List.Pairwise.nil, by
    show _ ∨ (!w.params.followText "set-order") = true
    cases w.params.followText "set-order"
    · exact .inr rfl
    · exact .inl rfl⟩⟩
theorem strs_at : ∀ {vs : List Value} {ks : List Str}, StrsAre vs ks → ∀ (i : Nat) (v : Value), vs[i]? = some v → ∃ p tk, ks[i]? = some p ∧ v = .str p tk
  | _, _, .nil, i, v, h => by simp at h
  | _, _, .cons k t r, 0, v, h => by simp at h; exact ⟨k, t, by simp, h.symm⟩
  | _, _, .cons k t r, i + 1, v, h => by simpa using strs_at r i v (by simpa using h)
/-- set(xs) -/
theorem call_set_strs {l : Addr} {items : Array Value} (ks : List Str) {Q : Value → Shared → Prop} (hh : A.handled = none) (hl : s.heap.IsList l items) (hit : StrsAre items.toList ks) (hfew : ks.length < 64)
    (h : ∀ (h' : Heap) (tk : Nat), TSet w h' s.heap.objs.size ks.reverse → (∀ b o, s.heap.get? b = some o → h'.get? b = some o) → Q (.ref s.heap.objs.size) { s with heap := h', toks := tk }) :
    wpAny (model P w) A (call (.type "set") [.ref l]) Q E s := by
  have isz : items.size = ks.length := by
    have q := StrsAre.length hit
    rw [Array.length_toList] at q
    exact q
  obtain ⟨c, tl, hmro⟩ := F.called_set.mro
  have made0 := F.called_set.made
  have sub0 := F.called_set.sub
  refine wpAny_call (codeAny_of_tree ?_)
  show wpAny _ _ (callAny (.type "set") _) _ _ _
  refine wpAny_pure ⟨Code.quiet_builtin _ (by decide +kernel), codeAny_builtin F.entry_type_call ?_⟩
  rw [Around.under_plain (weight_type_call_type "set" [.ref l] []) rfl]
  have nt0 := F.called_set.notType
  have cc0 := F.called_set.canCreate
  have tc0 := F.typeCall_set_1 (.ref l)
  repeat (any_goals (first | assumption | wp_step))
  refine codeAny_mono (code_set_led1 (.ref l) (E := E) (Q₁ := fun obj s₁ => obj = .ref s.heap.objs.size ∧ s₁ = { s with heap := s.heap.push (set0 w) }) ⟨rfl, rfl⟩) fun r s₁ hr => ?_
  cases r with
  | error e => exact hr
  | ok fl =>
    cases fl with
    | ret obj =>
      obtain ⟨rfl, rfl⟩ := hr
      have atS : (s.heap.push (set0 w)).get? s.heap.objs.size = some (set0 w) := Heap.get?_push_size _ rfl
      have tyS : Shared.TypeIs { s with heap := s.heap.push (set0 w) } (.ref s.heap.objs.size) "set" := ⟨_, atS, rfl⟩
      have ini1 := F.called_set.init.lookup
      have ini2 := F.called_set.init.bind (.ref s.heap.objs.size)
      repeat (any_goals (first | assumption | wp_step))
      refine codeAny_mono (codeAny_call_builtin (R := wants (fun r s₂ => r = .none ∧ ∃ h' tk, s₂ = { s with heap := h', toks := tk } ∧ TSet w h' s.heap.objs.size ks.reverse ∧ (∀ b o, s.heap.get? b = some o → h'.get? b = some o)) E) F.called_set.init.plain F.entry_set_init (check_set_init_1 tyS ?_)) fun r₂ s₂ hr₂ => ?_
      · obtain ⟨ol, hol, hcl, nl, hdl⟩ := hl
        obtain ⟨ocls, odict, odata, oslots⟩ := ol
        simp only at hcl hdl
        subst hcl; subst hdl
        have atL : (s.heap.push (set0 w)).get? l = some { cls := .type "list", dict := odict, data := .seq items nl, slots := oslots } := Heap.get?_push_of_some _ hol
        have nsub1 := F.sub_list_set
        have nsub2 := F.sub_list_frozenset
        have ndict : (Value.type "list" == Value.type "dict") = false := by decide
        have lst1 : (s.heap.push (set0 w)).IsList l items := ⟨_, atL, rfl, nl, rfl⟩
        unfold Builtin.«set.__init__» noKeywords Builtin.Frozenset.updateFrom
        generalize hPI : pyIter = PI
        wp_walk
        subst hPI
        refine wpAny_pyIter_list lst1 ?_
        refine wpAny_bind (wpAny_runValue ?_)
        have lS : l < s.heap.objs.size := Heap.lt_size hol
        have hh3 : A.in1.in1.in1.handled = none := by simp [hh]
        have neI : l ≠ (s.heap.push (set0 w)).objs.size := by
          rw [Heap.size_push]; exact Nat.ne_of_lt (Nat.lt_succ_of_lt lS)
        have outS : s.heap.objs.size ∉ [(s.heap.push (set0 w)).objs.size, l] := by
          rw [Heap.size_push]; simp only [List.mem_cons, List.mem_singleton, List.not_mem_nil, or_false, not_or]
          exact ⟨Nat.ne_of_lt (Nat.lt_succ_self _), Nat.ne_of_gt lS⟩
        refine update_strs ((Walks.list hh3 _ l neI items).toS) s.heap.objs.size outS ks isz hfew (fun i v hv => strs_at hit i v (by rw [Array.getElem?_toList]; exact hv)) (items.size - 0) 0 _ (by omega) (Nat.zero_le _)
          ⟨⟨_, Heap.get?_push_size _ rfl, rfl, rfl⟩, (lst1.push _)⟩ (tset0 (Heap.get?_push_of_some _ atS)) fun s' hm T => ?_
        obtain ⟨h', g2, d', tk', os'⟩ := s'
        have eg : g2 = s.gens := hm.gens
        have ed : d' = s.drawn := hm.drawn
        have eo : os' = s.os := hm.os
        subst eg; subst ed; subst eo
        show wpAny _ _ _ _ _ _
        refine wpAny_pure ?_
        show wpAny _ _ (ret Value.none) _ _ _
        refine wpAny_pure ⟨rfl, h', tk', rfl, T, fun b o e => ?_⟩
        have hb : b < s.heap.objs.size := Heap.lt_size e
        have n1 : b ≠ s.heap.objs.size := Nat.ne_of_lt hb
        have n2 : b ≠ (s.heap.push (set0 w)).objs.size := by
          rw [Heap.size_push]; exact Nat.ne_of_lt (Nat.lt_succ_of_lt hb)
        exact hm.heap b o (by simp only [List.mem_cons, List.mem_singleton, List.not_mem_nil, or_false, not_or]; exact ⟨n1, n2⟩) (Heap.get?_push_of_some _ (Heap.get?_push_of_some _ e))
      · cases r₂ with
        | error e => exact hr₂
        | ok fl₂ =>
          cases fl₂ with
          | ret r =>
            obtain ⟨rfl, h', tk, rfl, T, kk⟩ := hr₂
            repeat (any_goals (first | assumption | wp_step))
            exact h _ _ T kk
          | _ => exact hr₂.elim
    | _ => exact hr.elim
end
end SX

set_option Elab.async false
set_option linter.all false
set_option maxRecDepth 100000
set_option maxHeartbeats 1000000
namespace SX
open PySem PySem.Spec PyProof.Rows L2
def dd (l : List Str) : List Str := l.foldr (fun x r => if x ∈ r then r else x :: r) []
theorem dd_mem : ∀ (l : List Str) (x : Str), x ∈ dd l ↔ x ∈ l
  | [], x => Iff.rfl
  | y :: l, x => by
    show x ∈ (if y ∈ dd l then dd l else y :: dd l) ↔ _
    have ih := dd_mem l
    split
    · rename_i hy
      rw [ih, List.mem_cons]
      exact ⟨.inr, fun h => h.elim (fun e => e ▸ (ih y).1 hy) id⟩
    · rw [List.mem_cons, List.mem_cons, ih]
theorem dd_nodup : ∀ l : List Str, (dd l).Nodup
  | [] => List.nodup_nil
  | y :: l => by
    show (if y ∈ dd l then dd l else y :: dd l).Nodup
    split
    · exact dd_nodup l
    · rename_i hy; exact List.nodup_cons.mpr ⟨hy, dd_nodup l⟩
theorem dd_len (l : List Str) : (dd l).length ≤ l.length := nodup_le (dd_nodup l) fun k h => (dd_mem l k).1 h
abbrev leS (x y : Str) : Bool := decide (x.cps.toList ≤ y.cps.toList)
def sortSet (l : List Str) : List Str := (dd l).mergeSort leS
theorem leS_tr (a b c : Str) (h1 : leS a b = true) (h2 : leS b c = true) : leS a c = true := by
  simp only [leS, decide_eq_true_eq] at *; exact List.le_trans h1 h2
theorem leS_tot (a b : Str) : (leS a b || leS b a) = true := by
  simp only [leS, Bool.or_eq_true, decide_eq_true_eq]; exact List.le_total _ _
theorem leS_anti {a b : Str} (h1 : leS a b = true) (h2 : leS b a = true) : a = b := by
  simp only [leS, decide_eq_true_eq] at *
  have : a.cps.toList = b.cps.toList := List.le_antisymm h1 h2
  cases a; cases b; simp_all
theorem srt_uniq {α : Type} {le : α → α → Prop} (anti : ∀ a b, le a b → le b a → a = b) : ∀ {l m : List α}, l.Pairwise le → m.Pairwise le → l.Perm m → l = m
  | [], m, _, _, p => (List.nil_perm.mp p).symm
  | x :: l, [], _, _, p => by have := p.length_eq; simp at this
  | x :: l, y :: m, h1, h2, p => by
    obtain ⟨a1, b1⟩ := List.pairwise_cons.mp h1
    obtain ⟨a2, b2⟩ := List.pairwise_cons.mp h2
    have e : x = y := by
      rcases List.mem_cons.mp (p.mem_iff.mp List.mem_cons_self) with z | z
      · exact z
      · rcases List.mem_cons.mp (p.mem_iff.mpr (List.mem_cons_self (a := y) (l := m))) with z' | z'
        · exact z'.symm
        · exact anti _ _ (a1 _ z') (a2 _ z)
    subst e
    rw [srt_uniq anti b1 b2 ((List.perm_cons x).mp p)]
theorem sort_perm {l m : List Str} (p : l.Perm m) : l.mergeSort leS = m.mergeSort leS :=
  srt_uniq (le := fun a b => leS a b = true) (fun a b => leS_anti) (List.pairwise_mergeSort leS_tr leS_tot l) (List.pairwise_mergeSort leS_tr leS_tot m) (((List.mergeSort_perm l leS).trans p).trans (List.mergeSort_perm m leS).symm)
theorem sortSet_of {ks l : List Str} (nd : ks.Nodup) (h : ∀ k, k ∈ ks ↔ k ∈ l) : ks.mergeSort leS = sortSet l :=
  sort_perm ((List.perm_ext_iff_of_nodup nd (dd_nodup l)).mpr fun k => (h k).trans (dd_mem l k).symm)
theorem sortSet_congr {l m : List Str} (h : ∀ k, k ∈ l ↔ k ∈ m) : sortSet l = sortSet m := sortSet_of (dd_nodup l) fun k => (dd_mem l k).trans (h k)
theorem sortSet_len (l : List Str) : (sortSet l).length ≤ l.length := by unfold sortSet; rw [List.length_mergeSort]; exact dd_len l

section
variable {P : Program} {w : World} {A : Around} {E : Value → Shared → Prop} {s : Shared} {a : Addr}
open PySem.W in
theorem each_strs : ∀ {vs : List Value} {ks : List Str}, StrsAre vs ks → EachIs (fun v b => ∃ t, v = Value.str b t) vs ks
  | _, _, .nil => .nil
  | _, _, .cons k t r => .cons ⟨t, rfl⟩ (each_strs r)
open PySem.W in
theorem strs_each : ∀ {vs : List Value} {ks : List Str}, EachIs (fun v b => ∃ t, v = Value.str b t) vs ks → StrsAre vs ks
  | _, _, .nil => .nil
  | _, _, .cons ⟨t, e⟩ r => by rw [e]; exact .cons _ t (strs_each r)
theorem strs_of : ∀ (vs : List Value), (∀ v ∈ vs, ∃ k tk, v = Value.str k tk) → StrsAre vs (vs.map fun v => tkey (0, v))
  | [], _ => .nil
  | v :: vs, h => by
    obtain ⟨k, tk, rfl⟩ := h v List.mem_cons_self
    exact .cons k tk (strs_of vs fun u hu => h u (List.mem_cons_of_mem _ hu))
open PySem.W in
theorem sorted_tset {l : List Str} {Q : Value → Shared → Prop} (R : TSet w s.heap a l) (hh : A.handled = none) (hu : A.units + 10 < cLine) (h64 : l.length < 64)
    (hQ : ∀ s' p (out : Array Value) (c : Nat), (∀ b o, s.heap.get? b = some o → s'.heap.get? b = some o) → s'.gens = s.gens → s'.os = s.os → s.heap.objs.size ≤ p →
      s'.heap.get? p = some (seqObj "list" out c) → StrsAre out.toList (sortSet l) → Q (.ref p) s') :
    wpAny (model P w) A (call (.builtin "sorted") [.ref a]) Q E s := by
  obtain ⟨o, es, ep, t, ho, hex, hd, R⟩ := R
  have hlen : es.toList.length ≤ l.length := by
    have := nodup_le R.nd fun k hk => (R.mem k).1 hk
    rwa [List.length_map] at this
  refine Calls.call_function_entry kind_sorted plain_sorted entry_sorted (args_sorted1 _) ?_
  unfold Builtin.«sorted»
  refine wpAny_bind (m := checkCount "sorted" 1 1 _) (wpAny_pure ?_)
  refine wpAny_bind (collect_set (A := A.in1) hh ⟨o, ho, hex.1, hd⟩ R.fits R.few R.ris R.led fun s1 vs k1 hz g1 o1 pm => ?_)
  have hvl : vs.length ≤ l.length := by rw [pm.length_eq, List.length_map]; exact hlen
  have hS : StrsAre vs (vs.map fun v => tkey (0, v)) := strs_of vs fun v hv => by
    obtain ⟨e, he, q⟩ := List.mem_map.mp (pm.mem_iff.mp hv)
    obtain ⟨k, tk, q1, _⟩ := R.el e he
    exact ⟨k, tk, by rw [← q]; exact q1⟩
  have pk : (vs.map fun v => tkey (0, v)).Perm (es.toList.map tkey) := by
    have q := pm.map fun v => tkey (0, v)
    rw [List.map_map] at q
    exact q
  have sline : l.length ≤ sizeLine := by rw [sizeLine_eq]; omega
  refine wpAny_bind (wpAny_newList ?_ (Nat.le_trans hvl sline))
  have hoL : (s1.heap.push (seqObj "list" vs.toArray 0)).get? s1.heap.objs.size = some (seqObj "list" vs.toArray 0) := Heap.get?_push_size _ rfl
  refine wpAny_bind (wpAny_holding (list_sort_data (A := A.in1) (s := { s1 with heap := s1.heap.push (seqObj "list" vs.toArray 0) }) (enc := PyData.str) hoL (each_strs hS) ((each_strs hS).mono fun v b ⟨t, e⟩ => ⟨[], by rw [e]; exact .str b t, List.not_mem_nil⟩)
    (AllAlike.of fun _ _ => rfl) (Sortable.others fun b => ⟨by simp, fun xs => by simp⟩) (by rw [List.length_map]; exact Nat.le_trans hvl sline)
    (fun b _ => by show A.units + 1 + 1 + 0 < cLine; omega) fun out hol hout => ?_))
  rw [dataLe_str (fun b : Str => b)] at hout
  obtain ⟨c, hc⟩ := sortedHeap_at (vs := vs) (out := List.toArray out) hoL
  refine wpAny_pure ⟨_, rfl, hQ _ s1.heap.objs.size (List.toArray out) c (fun b u e => ?_) g1 o1 hz hc ?_⟩
  · have q := k1 b u e
    have hlt := Heap.lt_size q
    show (sortedHeap (s1.heap.push (seqObj "list" vs.toArray 0)) s1.heap.objs.size vs _).get? b = some u
    rw [sortedHeap_old (Nat.ne_of_lt hlt) (by rw [size_push']; exact Nat.lt_succ_of_lt hlt)]
    exact Heap.get?_push_of_some _ q
  · have e : (vs.map fun v => tkey (0, v)).mergeSort leS = sortSet l := sortSet_of (pk.nodup_iff.mpr R.nd) fun k => pk.mem_iff.trans (R.mem k)
    rw [← e]
    exact strs_each hout
end
end SX

set_option Elab.async false
set_option linter.all false
set_option maxRecDepth 100000
set_option maxHeartbeats 1000000
namespace SX
open PySem PySem.Spec PyProof.Rows L2
def TSetO (w : World) (a : Addr) (l : List Str) : HO := .ext fun h => TSet w h a l
theorem tsetO_new {P : Program} {w : World} {H : Hp} {h : Heap} {a : Addr} {l : List Str} (R : TSet w h a l) : ObjOk P w H h a (TSetO w a l) := by
  have ⟨o, es, ep, t, ho, r⟩ := R
  exact ⟨R, ⟨o, ho⟩, fun h1 h2 p k => TSet.keep p k⟩
theorem strs_of_vals : ∀ {ks : List Str} {us : List Value}, Vals (ks.map V.str) us → StrsAre us ks
  | [], _, .nil => .nil
  | n :: k, _, .cons r t => by
    obtain ⟨tk, rfl⟩ := r
    exact .cons n tk (strs_of_vals t)
theorem vals_of_strs : ∀ {ks : List Str} {us : List Value}, StrsAre us ks → Vals (ks.map V.str) us
  | _, _, .nil => .nil
  | _, _, .cons n tk t => .cons ⟨tk, rfl⟩ (vals_of_strs t)
section
variable {X : Cx}
def rSetOfS (K : PySem.W.Frag) (w : World) : List V → Hp → VK → Prop := fun xs H Q => ∃ (l : Addr) (ks : List Str), xs = [V.ref l] ∧ SqL K H l (ks.map V.str) ∧ ks.length < 64 ∧ ∀ a, H a = none → Q (.ref a) (upd H a (TSetO w a ks.reverse))
theorem cr_setOfS (hc : X.calm = true) : CallR X (.type "set") (rSetOfS X.K X.w) := by
  intro pins s σ H xs us Q I r h
  obtain ⟨l, ks, rfl, hl, hf, q⟩ := h
  rw [Vals.ref1 r]
  obtain ⟨its, rv, pl, hz⟩ := I.list hl
  refine call_set_strs (P := X.prog) (w := X.w) ks (I.ok.hd hc) pl.isList (by simpa using strs_of_vals rv) hf fun h' tk R k => ?_
  exact ⟨.ref s.heap.objs.size, _, I.laid (t' := tk) k (Nat.le_refl _) (tsetO_new R), rfl, q _ (I.hok.fresh (Nat.le_refl _))⟩
def rSortedS (w : World) : List V → Hp → VK → Prop := fun vs H Q => ∃ (a : Addr) (l : List Str), vs = [V.ref a] ∧ H a = some (TSetO w a l) ∧ l.length < 64 ∧ ∀ p, H p = none → Q (.ref p) (upd H p (.lst ((sortSet l).map V.str)))
theorem cr_sortedS (hc : X.calm = true) (hu : X.A.units + 10 < cLine) : CallR X (.builtin "sorted") (rSortedS X.w) := by
  intro pins s σ H vs us Q I r h
  obtain ⟨a, l, rfl, ha, h64, q⟩ := h
  have R : TSet X.w s.heap a l := (I.hok a _ ha).1
  rw [Vals.ref1 r]
  refine sorted_tset R (I.ok.hd hc) hu h64 fun s' p out c k g o hp hg hout => ?_
  have hn : H p = none := I.hok.fresh hp
  have hlen : ((sortSet l).map V.str).length ≤ sizeLine := by rw [List.length_map, sizeLine_eq]; have := sortSet_len l; omega
  have J : Inv X pins σ (upd H p (.lst ((sortSet l).map V.str))) { s with heap := s'.heap, gens := s'.gens, drawn := s'.drawn, toks := s'.toks } :=
    I.call (ch := []) (Un.laid k hp hn) (I.hok.laid k hp ⟨hlen, out.toList, c, vals_of_strs hout, hg⟩) (by rw [g]; exact I.bare) (fun _ z => nomatch z)
  have e : s' = { s with heap := s'.heap, gens := s'.gens, drawn := s'.drawn, toks := s'.toks } := by
    cases s'; cases s; cases o; rfl
  rw [e]
  exact ⟨.ref p, _, J, rfl, q p hn⟩
end
end SX
namespace EL
open PySem PySem.Spec PyProof.Rows L2 GxR LG
def strsD : List D → Option (List Str)
  | [] => some []
  | .str x :: r => (strsD r).map (x :: ·)
  | _ :: _ => none
theorem strsD_eq : ∀ {ds : List D} {xs : List Str}, strsD ds = some xs → ds = xs.map D.str
  | [], xs, h => by cases h; rfl
  | d :: ds, xs, h => by
    cases d with
    | str x =>
      simp only [strsD] at h
      obtain ⟨ys, h1, rfl⟩ := Option.map_eq_some_iff.mp h
      rw [strsD_eq h1]; rfl
    | _ => cases h
theorem strsD_map : ∀ xs : List Str, strsD (xs.map D.str) = some xs
  | [] => rfl
  | x :: xs => by show (strsD (xs.map D.str)).map _ = _; rw [strsD_map xs]; rfl
theorem strs_of_reps {G : G0} {μ : Mu} {H : Hp} : ∀ {xs : List Str} {vs : List V}, Reps G μ H (xs.map D.str) vs → vs = xs.map V.str
  | [], _, .nil => rfl
  | x :: xs, _, .cons h t => by cases h; rw [strs_of_reps t]; rfl
def fSortSet (fa : FE) : FE := fun ρ st => (fa ρ st).bind fun p => (listOf p.1 p.2).bind fun ds => (strsD ds).bind fun xs => if xs.length < 64 then some (.lst ((SX.sortSet xs).map D.str), p.2) else none
theorem de_sortset {G : G0} {X : Cx} {pos : Pos} {e : Expr} {fa : FE} {k : Nat} {p1 p2 p3 : Pos} (o : On G X) (hr : Room k X.A) (g1 : Gl X "sorted") (g2 : Gl X "set") (h1 : G.mg "sorted" = none) (h2 : G.mg "set" = none) (he : PE X e (lift G fa))
    (hs1 : starEach [e] X.env = (false, eval e X.env) :: starEach [] X.env := by rfl) (hs2 : starEach [.Call (.Name "set" p2) [e] [] p3] X.env = (false, eval (.Call (.Name "set" p2) [e] [] p3) X.env) :: starEach [] X.env := by rfl) (hp1 : (backTo p3 (starEach [] X.env)).any (·.1) = false := by rfl) (hp2 : (backTo pos (starEach [] X.env)).any (·.1) = false := by rfl) :
    PE X (.Call (.Name "sorted" p1) [.Call (.Name "set" p2) [e] [] p3] [] pos) (lift G (fSortSet fa)) := by
  have q1 := pe_callTy (p := p2) (pos := p3) (SX.cr_setOfS o.calm) g2 (by rw [o.mg]; exact h2) (by kernel_rfl) (pa_cons he pa_nil hs1) (by decide) (by decide) hs1 hp1
  have q2 := pe_callB (p := p1) (pos := pos) (SX.cr_sortedS o.calm (by have := hr.un; omega)) g1 (by rw [o.mg]; exact h1) (by kernel_rfl) (pa_cons q1 pa_nil hs2) (by decide) (by decide) hs2 hp2
  refine PE.imp q2 fun σ H Q ⟨ρ, μ, st, d, st', E, S, e, kk⟩ => ?_
  unfold fSortSet at e
  obtain ⟨⟨d1, s1⟩, e1, e⟩ := Option.bind_eq_some_iff.mp e
  obtain ⟨ds, hl, e⟩ := Option.bind_eq_some_iff.mp e
  obtain ⟨xs, ex, e⟩ := Option.bind_eq_some_iff.mp e
  split at e
  · rename_i hz
    cases e
    refine ⟨ρ, μ, st, _, _, E, S, e1, fun μ1 H1 v X1 S1 R1 => ?_⟩
    obtain ⟨a0, vs, rfl, u1, u2⟩ := list_rep S1 R1 hl
    have u3 := strsD_eq ex
    subst u3
    have u4 := strs_of_reps u2
    subst u4
    refine ⟨_, xs, rfl, by rw [o.K]; exact u1, hz, fun a hna => ⟨a, xs.reverse, rfl, upd_same, by rw [List.length_reverse]; exact hz, fun p hp => ?_⟩⟩
    have es : SX.sortSet xs.reverse = SX.sortSet xs := SX.sortSet_congr fun k => List.mem_reverse
    rw [es]
    have S2 : StR G μ1 s1 (upd H1 a (SX.TSetO X.w a xs.reverse)) := S1.newT hna
    exact kk _ _ _ ((X1.trans (Ext.new S1 hna)).trans (Ext.new S2 hp)) (S2.newT hp) (rep_newZ S2 hp (Reps.strs _))
  · cases e
end EL

set_option Elab.async false
set_option linter.all false
set_option maxRecDepth 100000
set_option maxHeartbeats 1000000
/-! zip of two or three sequences, each a list or a tuple -/
namespace ZN
open PySem
open PySem.Sem (wp)
/-- an iterator over a tuple (true) or a list -/
def It (b : Bool) (h : Heap) (it l : Addr) (k : Nat) : Prop := if b = true then h.IsTupleIter it l k else h.IsListIter it l k
def Sq (b : Bool) (h : Heap) (l : Addr) (u : Array Value) : Prop := if b = true then h.IsTuple l u else h.IsList l u
abbrev Row (h : Heap) (T : Addr) (xs : List Value) : Prop := h.get? T = some { cls := .type "tuple", data := .seq xs.toArray }
theorem It.at {b : Bool} {h h' : Heap} {it l : Addr} {k : Nat} (t : It b h it l k) (e : ∀ o, h.get? it = some o → h'.get? it = some o) : It b h' it l k := by
  cases b with
  | true => exact Heap.IsTupleIter.at t e
  | false => exact Heap.IsListIter.at t e
theorem Sq.at {b : Bool} {h h' : Heap} {l : Addr} {u : Array Value} (t : Sq b h l u) (e : ∀ o, h.get? l = some o → h'.get? l = some o) : Sq b h' l u := by
  cases b with
  | true => obtain ⟨o, h1, r⟩ := t; exact ⟨o, e o h1, r⟩
  | false => obtain ⟨o, h1, r⟩ := t; exact ⟨o, e o h1, r⟩
theorem nd_ne {L : List Addr} (h : L.Nodup) (i j : Nat) {a b : Addr} (h1 : L[i]? = some a) (h2 : L[j]? = some b) (n : i ≠ j) : a ≠ b := fun e => by
  subst e
  obtain ⟨l1, e1⟩ := List.getElem?_eq_some_iff.mp h1
  obtain ⟨l2, e2⟩ := List.getElem?_eq_some_iff.mp h2
  exact n ((List.getElem_inj h).mp (e1.trans e2.symm))
theorem no_ne {L : List Addr} {l : Addr} (h : l ∉ L) (i : Nat) {a : Addr} (h1 : L[i]? = some a) : l ≠ a := fun e => h (by rw [e]; exact List.mem_of_getElem? h1)
section
variable {prog : Program} {w : World} {A : Around} {E : Value → Shared → Prop} {s : Shared}
theorem it_item {b : Bool} {it l : Addr} {k : Nat} {u : Array Value} {x : Value} {Q : Value → Shared → Prop} (t : It b s.heap it l k) (q : Sq b s.heap l u) (e : u[k]? = some x)
    (hQ : ∀ h', It b h' it l (k + 1) → Heap.SameBut it s.heap h' → Q x { s with heap := h' }) : wpAny (model prog w) A (Builtin.SmallTypes.nextOf (.ref it)) Q E s := by
  cases b with
  | true => exact RZ.nextOf_tuple_item t q e hQ
  | false => exact wpAny_nextOf_list_item t q e hQ
theorem it_end {b : Bool} {it l : Addr} {k : Nat} {u : Array Value} {Q : Value → Shared → Prop} (hh : A.handled = none) (t : It b s.heap it l k) (q : Sq b s.heap l u) (e : u[k]? = none)
    (hE : ∀ h' e, Heap.ExtBut it s.heap h' → (∃ o, h'.get? e = some o ∧ o.cls = .type "StopIteration") → E (.ref e) { s with heap := h' }) : wpAny (model prog w) A (Builtin.SmallTypes.nextOf (.ref it)) Q E s := by
  cases b with
  | true => exact RZ.nextOf_tuple_end hh t q e hE
  | false => exact wpAny_nextOf_list_end hh t q e hE
theorem next2_item {z TI TO i1 l1 i2 l2 : Addr} {k : Nat} {b1 b2 : Bool} {u1 u2 : Array Value} {x1 a1 x2 a2 : Value} {Q : Value → Shared → Prop} (hd : List.Nodup [z, TI, TO, i1, i2]) (m1 : l1 ∉ [z, TI, TO, i1, i2]) (m2 : l2 ∉ [z, TI, TO, i1, i2]) (zz : IsZip s.heap z TI TO .none) (ti : Row s.heap TI [.ref i1, .ref i2]) (to : Row s.heap TO [a1, a2])
    (t1 : It b1 s.heap i1 l1 k) (q1 : Sq b1 s.heap l1 u1) (t2 : It b2 s.heap i2 l2 k) (q2 : Sq b2 s.heap l2 u2)
    (e1 : u1[k]? = some x1) (e2 : u2[k]? = some x2)
    (hQ : ∀ h', IsZip h' z TI TO (rawInt s.heap.objs.size) → Row h' TO [x1, x2] → It b1 h' i1 l1 (k + 1) → It b2 h' i2 l2 (k + 1) → Row h' s.heap.objs.size [x1, x2] → h'.objs.size = s.heap.objs.size + 1 →
      (∀ c o, c ≠ z → c ≠ TO → c ≠ i1 → c ≠ i2 → s.heap.get? c = some o → h'.get? c = some o) → Q (.ref s.heap.objs.size) { s with heap := h' }) :
    wpAny (model prog w) A (Builtin.«zip.__next__» ⟨[.ref z], []⟩) (fun fin s' => ∃ v, fin = .done (.ret v) ∧ Q v s') E s := by
  show wpAny _ _ (field (.ref z) 2 >>= _) _ _ _
  refine wpAny_bind (wpAny_field zz rfl (x := .bool false) rfl ?_)
  show wpAny _ _ (field (.ref z) 3 >>= _) _ _ _
  refine wpAny_bind (wpAny_field zz rfl (x := .ref TI) rfl ?_)
  refine wpAny_bind (wpAny_seqItems ti rfl ?_)
  show wpAny _ _ (Builtin.SmallTypes.ownedTupleIsFree (.ref z) >>= _) _ _ _
  refine wpAny_bind ?_
  unfold Builtin.SmallTypes.ownedTupleIsFree
  refine wpAny_bind (wpAny_field zz rfl (x := .none) rfl (wpAny_pure ?_))
  simp only [if_true]
  refine wpAny_bind (wpAny_rule ?_)
  refine wpAny_bind (wpAny_field zz rfl (x := .ref TO) rfl ?_)
  refine wpAny_bind (wpAny_setField_rec zz (by simp) fun g0 z0 s0 => ?_)
  replace z0 : IsZip g0 z TI TO .ellipsis := z0
  have K0 : ∀ c o, c ≠ z → s.heap.get? c = some o → g0.get? c = some o := fun c o c1 e => s0.extBut _ _ c1 e
  have to0 : Row g0 TO [a1, a2] := K0 _ _ (nd_ne hd 2 0 rfl rfl (by decide)) to
  refine wpAny_bind ?_
  simp only [List.zipIdx_cons, List.zipIdx_nil, List.forIn_cons, List.forIn_nil]
  refine wpAny_bind (wpAny_bind (wpAny_onRaise ?_))
  show wpAny _ _ (Builtin.SmallTypes.nextOf (.ref i1) >>= _) _ _ _
  refine wpAny_bind (it_item (t1.at (fun o e => K0 _ o (nd_ne hd 3 0 rfl rfl (by decide)) e)) (q1.at (fun o e => K0 _ o (no_ne m1 0 rfl) e)) e1 fun f1 r1 v1 => wpAny_pure ?_)
  have tp1 : Row f1 TO [a1, a2] := v1.extBut _ _ (nd_ne hd 2 3 rfl rfl (by decide)) to0
  refine wpAny_bind (wpAny_seqItems tp1 rfl ?_)
  refine wpAny_bind (wpAny_updateSeq tp1 rfl ?_)
  obtain ⟨g1, hg1⟩ : ∃ g : Heap, g = f1.update TO (Obj.mapSeq (·.setIfInBounds 0 x1)) := ⟨_, rfl⟩
  have s1 : Heap.SameBut TO f1 g1 := by rw [hg1]; exact Heap.SameBut.update ..
  have to1 : Row g1 TO [x1, a2] := by
    rw [hg1]
    unfold Row
    rw [Heap.get?_update_self _ tp1 rfl]
    simp [Obj.mapSeq]
  rw [← hg1]
  have y1 : It b1 g1 i1 l1 (k + 1) := r1.at fun o e => s1.extBut _ _ (nd_ne hd 3 2 rfl rfl (by decide)) e
  have K1 : ∀ c o, c ≠ z → c ≠ TO → c ≠ i1 → s.heap.get? c = some o → g1.get? c = some o := fun c o c1 c2 c3 e => s1.extBut _ _ c2 (v1.extBut _ _ c3 (K0 c o c1 e))
  have z1 : IsZip g1 z TI TO .ellipsis := s1.extBut _ _ (nd_ne hd 0 2 rfl rfl (by decide)) (v1.extBut _ _ (nd_ne hd 0 3 rfl rfl (by decide)) z0)
  have n1 : g1.objs.size = g0.objs.size := s1.1.trans v1.1
  refine wpAny_bind (wpAny_letGo (wpAny_pure ?_))
  refine wpAny_bind (wpAny_bind (wpAny_onRaise ?_))
  show wpAny _ _ (Builtin.SmallTypes.nextOf (.ref i2) >>= _) _ _ _
  refine wpAny_bind (it_item (t2.at (fun o e => K1 _ o (nd_ne hd 4 0 rfl rfl (by decide)) (nd_ne hd 4 2 rfl rfl (by decide)) (nd_ne hd 4 3 rfl rfl (by decide)) e)) (q2.at (fun o e => K1 _ o (no_ne m2 0 rfl) (no_ne m2 2 rfl) (no_ne m2 3 rfl) e)) e2 fun f2 r2 v2 => wpAny_pure ?_)
  have tp2 : Row f2 TO [x1, a2] := v2.extBut _ _ (nd_ne hd 2 4 rfl rfl (by decide)) to1
  refine wpAny_bind (wpAny_seqItems tp2 rfl ?_)
  refine wpAny_bind (wpAny_updateSeq tp2 rfl ?_)
  obtain ⟨g2, hg2⟩ : ∃ g : Heap, g = f2.update TO (Obj.mapSeq (·.setIfInBounds 1 x2)) := ⟨_, rfl⟩
  have s2 : Heap.SameBut TO f2 g2 := by rw [hg2]; exact Heap.SameBut.update ..
  have to2 : Row g2 TO [x1, x2] := by
    rw [hg2]
    unfold Row
    rw [Heap.get?_update_self _ tp2 rfl]
    simp [Obj.mapSeq]
  rw [← hg2]
  have y2 : It b2 g2 i2 l2 (k + 1) := r2.at fun o e => s2.extBut _ _ (nd_ne hd 4 2 rfl rfl (by decide)) e
  have K2 : ∀ c o, c ≠ z → c ≠ TO → c ≠ i1 → c ≠ i2 → s.heap.get? c = some o → g2.get? c = some o := fun c o c1 c2 c3 c4 e => s2.extBut _ _ c2 (v2.extBut _ _ c4 (K1 c o c1 c2 c3 e))
  have z2 : IsZip g2 z TI TO .ellipsis := s2.extBut _ _ (nd_ne hd 0 2 rfl rfl (by decide)) (v2.extBut _ _ (nd_ne hd 0 4 rfl rfl (by decide)) z1)
  have n2 : g2.objs.size = g1.objs.size := s2.1.trans v2.1
  refine wpAny_bind (wpAny_letGo (wpAny_pure ?_))
  replace y1 : It b1 g2 i1 l1 (k + 1) := y1.at fun o e => s2.extBut _ _ (nd_ne hd 3 2 rfl rfl (by decide)) (v2.extBut _ _ (nd_ne hd 3 4 rfl rfl (by decide)) e)
  refine wpAny_pure ?_
  refine wpAny_bind (wpAny_seqItems to2 rfl ?_)
  refine wpAny_bind (wpAny_newTuple ?_)
  have sz : g2.objs.size = s.heap.objs.size := by rw [n2, n1, s0.1]
  have zl : z < g2.objs.size := Heap.lt_size z2
  show wpAny _ _ (Builtin.SmallTypes.ownedTupleHandOut (.ref z) (.ref g2.objs.size) >>= _) _ _ _
  refine wpAny_bind ?_
  unfold Builtin.SmallTypes.ownedTupleHandOut
  have zp : IsZip (g2.push { cls := .type "tuple", data := .seq #[x1, x2] }) z TI TO .ellipsis := Heap.get?_push_of_some _ z2
  refine wpAny_bind (wpAny_setField_rec zp (by simp) fun p1 zq sq => ?_)
  replace zq : IsZip p1 z TI TO (rawInt g2.objs.size) := zq
  refine wpAny_setField_rec zq (by simp) fun p2 zr sr => ?_
  replace zr : IsZip p2 z TI TO (rawInt g2.objs.size) := zr
  have up : ∀ c o, c ≠ z → g2.get? c = some o → p2.get? c = some o := fun c o c1 e => sr.extBut _ _ c1 (sq.extBut _ _ c1 (Heap.get?_push_of_some _ e))
  have new : Row p2 g2.objs.size [x1, x2] := sr.extBut _ _ (Nat.ne_of_gt zl) (sq.extBut _ _ (Nat.ne_of_gt zl) (Heap.get?_push_size _ rfl))
  have s2 : p2.objs.size = g2.objs.size + 1 := by rw [sr.1, sq.1, Heap.size_push]
  rw [sz] at zr new s2
  refine wpAny_pure ⟨_, rfl, ?_⟩
  show Q (.ref g2.objs.size) _
  rw [sz]
  exact hQ p2 zr (up _ _ (nd_ne hd 2 0 rfl rfl (by decide)) to2) (y1.at fun o e => up _ o (nd_ne hd 3 0 rfl rfl (by decide)) e) (y2.at fun o e => up _ o (nd_ne hd 4 0 rfl rfl (by decide)) e) new s2 fun c o c1 c2 c3 c4 e => up c o c1 (K2 c o c1 c2 c3 c4 e)
theorem next2_end {z TI TO i1 l1 i2 l2 : Addr} {k : Nat} {b1 b2 : Bool} {u1 u2 : Array Value} {a1 a2 : Value} {Q : Fin → Shared → Prop} (hh : A.handled = none) (hd : List.Nodup [z, TI, TO, i1, i2]) (m1 : l1 ∉ [z, TI, TO, i1, i2]) (m2 : l2 ∉ [z, TI, TO, i1, i2]) (zz : IsZip s.heap z TI TO .none) (ti : Row s.heap TI [.ref i1, .ref i2]) (to : Row s.heap TO [a1, a2])
    (t1 : It b1 s.heap i1 l1 k) (q1 : Sq b1 s.heap l1 u1) (t2 : It b2 s.heap i2 l2 k) (q2 : Sq b2 s.heap l2 u2)
    (out : u1[k]? = none ∨ u2[k]? = none)
    (hE : ∀ h' e, (∀ c o, c ≠ z → c ≠ TO → c ≠ i1 → c ≠ i2 → s.heap.get? c = some o → h'.get? c = some o) → (∃ o, h'.get? e = some o ∧ o.cls = .type "StopIteration") → E (.ref e) { s with heap := h' }) :
    wpAny (model prog w) A (Builtin.«zip.__next__» ⟨[.ref z], []⟩) Q E s := by
  show wpAny _ _ (field (.ref z) 2 >>= _) _ _ _
  refine wpAny_bind (wpAny_field zz rfl (x := .bool false) rfl ?_)
  show wpAny _ _ (field (.ref z) 3 >>= _) _ _ _
  refine wpAny_bind (wpAny_field zz rfl (x := .ref TI) rfl ?_)
  refine wpAny_bind (wpAny_seqItems ti rfl ?_)
  show wpAny _ _ (Builtin.SmallTypes.ownedTupleIsFree (.ref z) >>= _) _ _ _
  refine wpAny_bind ?_
  unfold Builtin.SmallTypes.ownedTupleIsFree
  refine wpAny_bind (wpAny_field zz rfl (x := .none) rfl (wpAny_pure ?_))
  simp only [if_true]
  refine wpAny_bind (wpAny_rule ?_)
  refine wpAny_bind (wpAny_field zz rfl (x := .ref TO) rfl ?_)
  refine wpAny_bind (wpAny_setField_rec zz (by simp) fun g0 z0 s0 => ?_)
  replace z0 : IsZip g0 z TI TO .ellipsis := z0
  have K0 : ∀ c o, c ≠ z → s.heap.get? c = some o → g0.get? c = some o := fun c o c1 e => s0.extBut _ _ c1 e
  have to0 : Row g0 TO [a1, a2] := K0 _ _ (nd_ne hd 2 0 rfl rfl (by decide)) to
  refine wpAny_bind ?_
  simp only [List.zipIdx_cons, List.zipIdx_nil, List.forIn_cons, List.forIn_nil]
  by_cases w1 : u1[k]? = none
  · refine wpAny_bind (wpAny_bind (wpAny_onRaise ?_))
    show wpAny _ _ (Builtin.SmallTypes.nextOf (.ref i1) >>= _) _ _ _
    refine wpAny_bind (it_end hh (t1.at (fun o e => K0 _ o (nd_ne hd 3 0 rfl rfl (by decide)) e)) (q1.at (fun o e => K0 _ o (no_ne m1 0 rfl) e)) w1 fun f e hs he => ?_)
    obtain ⟨oe, hoe, hce⟩ := he
    have zf : IsZip f z TI TO .ellipsis := hs _ _ (nd_ne hd 0 3 rfl rfl (by decide)) z0
    have ez : e ≠ z := fun x => by subst x; rw [zf] at hoe; cases hoe; simp at hce
    exact wpAny_setField_rec zf (by simp) fun f' _ hs' => hE f' e (fun c o c1 c2 c3 c4 x => hs'.extBut _ _ c1 (hs _ _ c3 (K0 c o c1 x))) ⟨oe, hs'.extBut _ _ ez hoe, hce⟩
  obtain ⟨x1, e1⟩ := Option.ne_none_iff_exists'.mp w1
  refine wpAny_bind (wpAny_bind (wpAny_onRaise ?_))
  show wpAny _ _ (Builtin.SmallTypes.nextOf (.ref i1) >>= _) _ _ _
  refine wpAny_bind (it_item (t1.at (fun o e => K0 _ o (nd_ne hd 3 0 rfl rfl (by decide)) e)) (q1.at (fun o e => K0 _ o (no_ne m1 0 rfl) e)) e1 fun f1 r1 v1 => wpAny_pure ?_)
  have tp1 : Row f1 TO [a1, a2] := v1.extBut _ _ (nd_ne hd 2 3 rfl rfl (by decide)) to0
  refine wpAny_bind (wpAny_seqItems tp1 rfl ?_)
  refine wpAny_bind (wpAny_updateSeq tp1 rfl ?_)
  obtain ⟨g1, hg1⟩ : ∃ g : Heap, g = f1.update TO (Obj.mapSeq (·.setIfInBounds 0 x1)) := ⟨_, rfl⟩
  have s1 : Heap.SameBut TO f1 g1 := by rw [hg1]; exact Heap.SameBut.update ..
  have to1 : Row g1 TO [x1, a2] := by
    rw [hg1]
    unfold Row
    rw [Heap.get?_update_self _ tp1 rfl]
    simp [Obj.mapSeq]
  rw [← hg1]
  have y1 : It b1 g1 i1 l1 (k + 1) := r1.at fun o e => s1.extBut _ _ (nd_ne hd 3 2 rfl rfl (by decide)) e
  have K1 : ∀ c o, c ≠ z → c ≠ TO → c ≠ i1 → s.heap.get? c = some o → g1.get? c = some o := fun c o c1 c2 c3 e => s1.extBut _ _ c2 (v1.extBut _ _ c3 (K0 c o c1 e))
  have z1 : IsZip g1 z TI TO .ellipsis := s1.extBut _ _ (nd_ne hd 0 2 rfl rfl (by decide)) (v1.extBut _ _ (nd_ne hd 0 3 rfl rfl (by decide)) z0)
  have n1 : g1.objs.size = g0.objs.size := s1.1.trans v1.1
  refine wpAny_bind (wpAny_letGo (wpAny_pure ?_))
  by_cases w2 : u2[k]? = none
  · refine wpAny_bind (wpAny_bind (wpAny_onRaise ?_))
    show wpAny _ _ (Builtin.SmallTypes.nextOf (.ref i2) >>= _) _ _ _
    refine wpAny_bind (it_end hh (t2.at (fun o e => K1 _ o (nd_ne hd 4 0 rfl rfl (by decide)) (nd_ne hd 4 2 rfl rfl (by decide)) (nd_ne hd 4 3 rfl rfl (by decide)) e)) (q2.at (fun o e => K1 _ o (no_ne m2 0 rfl) (no_ne m2 2 rfl) (no_ne m2 3 rfl) e)) w2 fun f e hs he => ?_)
    obtain ⟨oe, hoe, hce⟩ := he
    have zf : IsZip f z TI TO .ellipsis := hs _ _ (nd_ne hd 0 4 rfl rfl (by decide)) z1
    have ez : e ≠ z := fun x => by subst x; rw [zf] at hoe; cases hoe; simp at hce
    exact wpAny_setField_rec zf (by simp) fun f' _ hs' => hE f' e (fun c o c1 c2 c3 c4 x => hs'.extBut _ _ c1 (hs _ _ c4 (K1 c o c1 c2 c3 x))) ⟨oe, hs'.extBut _ _ ez hoe, hce⟩
  exact absurd out (by simp [w1, w2])
theorem next3_item {z TI TO i1 l1 i2 l2 i3 l3 : Addr} {k : Nat} {b1 b2 b3 : Bool} {u1 u2 u3 : Array Value} {x1 a1 x2 a2 x3 a3 : Value} {Q : Value → Shared → Prop} (hd : List.Nodup [z, TI, TO, i1, i2, i3]) (m1 : l1 ∉ [z, TI, TO, i1, i2, i3]) (m2 : l2 ∉ [z, TI, TO, i1, i2, i3]) (m3 : l3 ∉ [z, TI, TO, i1, i2, i3]) (zz : IsZip s.heap z TI TO .none) (ti : Row s.heap TI [.ref i1, .ref i2, .ref i3]) (to : Row s.heap TO [a1, a2, a3])
    (t1 : It b1 s.heap i1 l1 k) (q1 : Sq b1 s.heap l1 u1) (t2 : It b2 s.heap i2 l2 k) (q2 : Sq b2 s.heap l2 u2) (t3 : It b3 s.heap i3 l3 k) (q3 : Sq b3 s.heap l3 u3)
    (e1 : u1[k]? = some x1) (e2 : u2[k]? = some x2) (e3 : u3[k]? = some x3)
    (hQ : ∀ h', IsZip h' z TI TO (rawInt s.heap.objs.size) → Row h' TO [x1, x2, x3] → It b1 h' i1 l1 (k + 1) → It b2 h' i2 l2 (k + 1) → It b3 h' i3 l3 (k + 1) → Row h' s.heap.objs.size [x1, x2, x3] → h'.objs.size = s.heap.objs.size + 1 →
      (∀ c o, c ≠ z → c ≠ TO → c ≠ i1 → c ≠ i2 → c ≠ i3 → s.heap.get? c = some o → h'.get? c = some o) → Q (.ref s.heap.objs.size) { s with heap := h' }) :
    wpAny (model prog w) A (Builtin.«zip.__next__» ⟨[.ref z], []⟩) (fun fin s' => ∃ v, fin = .done (.ret v) ∧ Q v s') E s := by
  show wpAny _ _ (field (.ref z) 2 >>= _) _ _ _
  refine wpAny_bind (wpAny_field zz rfl (x := .bool false) rfl ?_)
  show wpAny _ _ (field (.ref z) 3 >>= _) _ _ _
  refine wpAny_bind (wpAny_field zz rfl (x := .ref TI) rfl ?_)
  refine wpAny_bind (wpAny_seqItems ti rfl ?_)
  show wpAny _ _ (Builtin.SmallTypes.ownedTupleIsFree (.ref z) >>= _) _ _ _
  refine wpAny_bind ?_
  unfold Builtin.SmallTypes.ownedTupleIsFree
  refine wpAny_bind (wpAny_field zz rfl (x := .none) rfl (wpAny_pure ?_))
  simp only [if_true]
  refine wpAny_bind (wpAny_rule ?_)
  refine wpAny_bind (wpAny_field zz rfl (x := .ref TO) rfl ?_)
  refine wpAny_bind (wpAny_setField_rec zz (by simp) fun g0 z0 s0 => ?_)
  replace z0 : IsZip g0 z TI TO .ellipsis := z0
  have K0 : ∀ c o, c ≠ z → s.heap.get? c = some o → g0.get? c = some o := fun c o c1 e => s0.extBut _ _ c1 e
  have to0 : Row g0 TO [a1, a2, a3] := K0 _ _ (nd_ne hd 2 0 rfl rfl (by decide)) to
  refine wpAny_bind ?_
  simp only [List.zipIdx_cons, List.zipIdx_nil, List.forIn_cons, List.forIn_nil]
  refine wpAny_bind (wpAny_bind (wpAny_onRaise ?_))
  show wpAny _ _ (Builtin.SmallTypes.nextOf (.ref i1) >>= _) _ _ _
  refine wpAny_bind (it_item (t1.at (fun o e => K0 _ o (nd_ne hd 3 0 rfl rfl (by decide)) e)) (q1.at (fun o e => K0 _ o (no_ne m1 0 rfl) e)) e1 fun f1 r1 v1 => wpAny_pure ?_)
  have tp1 : Row f1 TO [a1, a2, a3] := v1.extBut _ _ (nd_ne hd 2 3 rfl rfl (by decide)) to0
  refine wpAny_bind (wpAny_seqItems tp1 rfl ?_)
  refine wpAny_bind (wpAny_updateSeq tp1 rfl ?_)
  obtain ⟨g1, hg1⟩ : ∃ g : Heap, g = f1.update TO (Obj.mapSeq (·.setIfInBounds 0 x1)) := ⟨_, rfl⟩
  have s1 : Heap.SameBut TO f1 g1 := by rw [hg1]; exact Heap.SameBut.update ..
  have to1 : Row g1 TO [x1, a2, a3] := by
    rw [hg1]
    unfold Row
    rw [Heap.get?_update_self _ tp1 rfl]
    simp [Obj.mapSeq]
  rw [← hg1]
  have y1 : It b1 g1 i1 l1 (k + 1) := r1.at fun o e => s1.extBut _ _ (nd_ne hd 3 2 rfl rfl (by decide)) e
  have K1 : ∀ c o, c ≠ z → c ≠ TO → c ≠ i1 → s.heap.get? c = some o → g1.get? c = some o := fun c o c1 c2 c3 e => s1.extBut _ _ c2 (v1.extBut _ _ c3 (K0 c o c1 e))
  have z1 : IsZip g1 z TI TO .ellipsis := s1.extBut _ _ (nd_ne hd 0 2 rfl rfl (by decide)) (v1.extBut _ _ (nd_ne hd 0 3 rfl rfl (by decide)) z0)
  have n1 : g1.objs.size = g0.objs.size := s1.1.trans v1.1
  refine wpAny_bind (wpAny_letGo (wpAny_pure ?_))
  refine wpAny_bind (wpAny_bind (wpAny_onRaise ?_))
  show wpAny _ _ (Builtin.SmallTypes.nextOf (.ref i2) >>= _) _ _ _
  refine wpAny_bind (it_item (t2.at (fun o e => K1 _ o (nd_ne hd 4 0 rfl rfl (by decide)) (nd_ne hd 4 2 rfl rfl (by decide)) (nd_ne hd 4 3 rfl rfl (by decide)) e)) (q2.at (fun o e => K1 _ o (no_ne m2 0 rfl) (no_ne m2 2 rfl) (no_ne m2 3 rfl) e)) e2 fun f2 r2 v2 => wpAny_pure ?_)
  have tp2 : Row f2 TO [x1, a2, a3] := v2.extBut _ _ (nd_ne hd 2 4 rfl rfl (by decide)) to1
  refine wpAny_bind (wpAny_seqItems tp2 rfl ?_)
  refine wpAny_bind (wpAny_updateSeq tp2 rfl ?_)
  obtain ⟨g2, hg2⟩ : ∃ g : Heap, g = f2.update TO (Obj.mapSeq (·.setIfInBounds 1 x2)) := ⟨_, rfl⟩
  have s2 : Heap.SameBut TO f2 g2 := by rw [hg2]; exact Heap.SameBut.update ..
  have to2 : Row g2 TO [x1, x2, a3] := by
    rw [hg2]
    unfold Row
    rw [Heap.get?_update_self _ tp2 rfl]
    simp [Obj.mapSeq]
  rw [← hg2]
  have y2 : It b2 g2 i2 l2 (k + 1) := r2.at fun o e => s2.extBut _ _ (nd_ne hd 4 2 rfl rfl (by decide)) e
  have K2 : ∀ c o, c ≠ z → c ≠ TO → c ≠ i1 → c ≠ i2 → s.heap.get? c = some o → g2.get? c = some o := fun c o c1 c2 c3 c4 e => s2.extBut _ _ c2 (v2.extBut _ _ c4 (K1 c o c1 c2 c3 e))
  have z2 : IsZip g2 z TI TO .ellipsis := s2.extBut _ _ (nd_ne hd 0 2 rfl rfl (by decide)) (v2.extBut _ _ (nd_ne hd 0 4 rfl rfl (by decide)) z1)
  have n2 : g2.objs.size = g1.objs.size := s2.1.trans v2.1
  refine wpAny_bind (wpAny_letGo (wpAny_pure ?_))
  replace y1 : It b1 g2 i1 l1 (k + 1) := y1.at fun o e => s2.extBut _ _ (nd_ne hd 3 2 rfl rfl (by decide)) (v2.extBut _ _ (nd_ne hd 3 4 rfl rfl (by decide)) e)
  refine wpAny_bind (wpAny_bind (wpAny_onRaise ?_))
  show wpAny _ _ (Builtin.SmallTypes.nextOf (.ref i3) >>= _) _ _ _
  refine wpAny_bind (it_item (t3.at (fun o e => K2 _ o (nd_ne hd 5 0 rfl rfl (by decide)) (nd_ne hd 5 2 rfl rfl (by decide)) (nd_ne hd 5 3 rfl rfl (by decide)) (nd_ne hd 5 4 rfl rfl (by decide)) e)) (q3.at (fun o e => K2 _ o (no_ne m3 0 rfl) (no_ne m3 2 rfl) (no_ne m3 3 rfl) (no_ne m3 4 rfl) e)) e3 fun f3 r3 v3 => wpAny_pure ?_)
  have tp3 : Row f3 TO [x1, x2, a3] := v3.extBut _ _ (nd_ne hd 2 5 rfl rfl (by decide)) to2
  refine wpAny_bind (wpAny_seqItems tp3 rfl ?_)
  refine wpAny_bind (wpAny_updateSeq tp3 rfl ?_)
  obtain ⟨g3, hg3⟩ : ∃ g : Heap, g = f3.update TO (Obj.mapSeq (·.setIfInBounds 2 x3)) := ⟨_, rfl⟩
  have s3 : Heap.SameBut TO f3 g3 := by rw [hg3]; exact Heap.SameBut.update ..
  have to3 : Row g3 TO [x1, x2, x3] := by
    rw [hg3]
    unfold Row
    rw [Heap.get?_update_self _ tp3 rfl]
    simp [Obj.mapSeq]
  rw [← hg3]
  have y3 : It b3 g3 i3 l3 (k + 1) := r3.at fun o e => s3.extBut _ _ (nd_ne hd 5 2 rfl rfl (by decide)) e
  have K3 : ∀ c o, c ≠ z → c ≠ TO → c ≠ i1 → c ≠ i2 → c ≠ i3 → s.heap.get? c = some o → g3.get? c = some o := fun c o c1 c2 c3 c4 c5 e => s3.extBut _ _ c2 (v3.extBut _ _ c5 (K2 c o c1 c2 c3 c4 e))
  have z3 : IsZip g3 z TI TO .ellipsis := s3.extBut _ _ (nd_ne hd 0 2 rfl rfl (by decide)) (v3.extBut _ _ (nd_ne hd 0 5 rfl rfl (by decide)) z2)
  have n3 : g3.objs.size = g2.objs.size := s3.1.trans v3.1
  refine wpAny_bind (wpAny_letGo (wpAny_pure ?_))
  replace y1 : It b1 g3 i1 l1 (k + 1) := y1.at fun o e => s3.extBut _ _ (nd_ne hd 3 2 rfl rfl (by decide)) (v3.extBut _ _ (nd_ne hd 3 5 rfl rfl (by decide)) e)
  replace y2 : It b2 g3 i2 l2 (k + 1) := y2.at fun o e => s3.extBut _ _ (nd_ne hd 4 2 rfl rfl (by decide)) (v3.extBut _ _ (nd_ne hd 4 5 rfl rfl (by decide)) e)
  refine wpAny_pure ?_
  refine wpAny_bind (wpAny_seqItems to3 rfl ?_)
  refine wpAny_bind (wpAny_newTuple ?_)
  have sz : g3.objs.size = s.heap.objs.size := by rw [n3, n2, n1, s0.1]
  have zl : z < g3.objs.size := Heap.lt_size z3
  show wpAny _ _ (Builtin.SmallTypes.ownedTupleHandOut (.ref z) (.ref g3.objs.size) >>= _) _ _ _
  refine wpAny_bind ?_
  unfold Builtin.SmallTypes.ownedTupleHandOut
  have zp : IsZip (g3.push { cls := .type "tuple", data := .seq #[x1, x2, x3] }) z TI TO .ellipsis := Heap.get?_push_of_some _ z3
  refine wpAny_bind (wpAny_setField_rec zp (by simp) fun p1 zq sq => ?_)
  replace zq : IsZip p1 z TI TO (rawInt g3.objs.size) := zq
  refine wpAny_setField_rec zq (by simp) fun p2 zr sr => ?_
  replace zr : IsZip p2 z TI TO (rawInt g3.objs.size) := zr
  have up : ∀ c o, c ≠ z → g3.get? c = some o → p2.get? c = some o := fun c o c1 e => sr.extBut _ _ c1 (sq.extBut _ _ c1 (Heap.get?_push_of_some _ e))
  have new : Row p2 g3.objs.size [x1, x2, x3] := sr.extBut _ _ (Nat.ne_of_gt zl) (sq.extBut _ _ (Nat.ne_of_gt zl) (Heap.get?_push_size _ rfl))
  have s2 : p2.objs.size = g3.objs.size + 1 := by rw [sr.1, sq.1, Heap.size_push]
  rw [sz] at zr new s2
  refine wpAny_pure ⟨_, rfl, ?_⟩
  show Q (.ref g3.objs.size) _
  rw [sz]
  exact hQ p2 zr (up _ _ (nd_ne hd 2 0 rfl rfl (by decide)) to3) (y1.at fun o e => up _ o (nd_ne hd 3 0 rfl rfl (by decide)) e) (y2.at fun o e => up _ o (nd_ne hd 4 0 rfl rfl (by decide)) e) (y3.at fun o e => up _ o (nd_ne hd 5 0 rfl rfl (by decide)) e) new s2 fun c o c1 c2 c3 c4 c5 e => up c o c1 (K3 c o c1 c2 c3 c4 c5 e)
theorem next3_end {z TI TO i1 l1 i2 l2 i3 l3 : Addr} {k : Nat} {b1 b2 b3 : Bool} {u1 u2 u3 : Array Value} {a1 a2 a3 : Value} {Q : Fin → Shared → Prop} (hh : A.handled = none) (hd : List.Nodup [z, TI, TO, i1, i2, i3]) (m1 : l1 ∉ [z, TI, TO, i1, i2, i3]) (m2 : l2 ∉ [z, TI, TO, i1, i2, i3]) (m3 : l3 ∉ [z, TI, TO, i1, i2, i3]) (zz : IsZip s.heap z TI TO .none) (ti : Row s.heap TI [.ref i1, .ref i2, .ref i3]) (to : Row s.heap TO [a1, a2, a3])
    (t1 : It b1 s.heap i1 l1 k) (q1 : Sq b1 s.heap l1 u1) (t2 : It b2 s.heap i2 l2 k) (q2 : Sq b2 s.heap l2 u2) (t3 : It b3 s.heap i3 l3 k) (q3 : Sq b3 s.heap l3 u3)
    (out : u1[k]? = none ∨ u2[k]? = none ∨ u3[k]? = none)
    (hE : ∀ h' e, (∀ c o, c ≠ z → c ≠ TO → c ≠ i1 → c ≠ i2 → c ≠ i3 → s.heap.get? c = some o → h'.get? c = some o) → (∃ o, h'.get? e = some o ∧ o.cls = .type "StopIteration") → E (.ref e) { s with heap := h' }) :
    wpAny (model prog w) A (Builtin.«zip.__next__» ⟨[.ref z], []⟩) Q E s := by
  show wpAny _ _ (field (.ref z) 2 >>= _) _ _ _
  refine wpAny_bind (wpAny_field zz rfl (x := .bool false) rfl ?_)
  show wpAny _ _ (field (.ref z) 3 >>= _) _ _ _
  refine wpAny_bind (wpAny_field zz rfl (x := .ref TI) rfl ?_)
  refine wpAny_bind (wpAny_seqItems ti rfl ?_)
  show wpAny _ _ (Builtin.SmallTypes.ownedTupleIsFree (.ref z) >>= _) _ _ _
  refine wpAny_bind ?_
  unfold Builtin.SmallTypes.ownedTupleIsFree
  refine wpAny_bind (wpAny_field zz rfl (x := .none) rfl (wpAny_pure ?_))
  simp only [if_true]
  refine wpAny_bind (wpAny_rule ?_)
  refine wpAny_bind (wpAny_field zz rfl (x := .ref TO) rfl ?_)
  refine wpAny_bind (wpAny_setField_rec zz (by simp) fun g0 z0 s0 => ?_)
  replace z0 : IsZip g0 z TI TO .ellipsis := z0
  have K0 : ∀ c o, c ≠ z → s.heap.get? c = some o → g0.get? c = some o := fun c o c1 e => s0.extBut _ _ c1 e
  have to0 : Row g0 TO [a1, a2, a3] := K0 _ _ (nd_ne hd 2 0 rfl rfl (by decide)) to
  refine wpAny_bind ?_
  simp only [List.zipIdx_cons, List.zipIdx_nil, List.forIn_cons, List.forIn_nil]
  by_cases w1 : u1[k]? = none
  · refine wpAny_bind (wpAny_bind (wpAny_onRaise ?_))
    show wpAny _ _ (Builtin.SmallTypes.nextOf (.ref i1) >>= _) _ _ _
    refine wpAny_bind (it_end hh (t1.at (fun o e => K0 _ o (nd_ne hd 3 0 rfl rfl (by decide)) e)) (q1.at (fun o e => K0 _ o (no_ne m1 0 rfl) e)) w1 fun f e hs he => ?_)
    obtain ⟨oe, hoe, hce⟩ := he
    have zf : IsZip f z TI TO .ellipsis := hs _ _ (nd_ne hd 0 3 rfl rfl (by decide)) z0
    have ez : e ≠ z := fun x => by subst x; rw [zf] at hoe; cases hoe; simp at hce
    exact wpAny_setField_rec zf (by simp) fun f' _ hs' => hE f' e (fun c o c1 c2 c3 c4 c5 x => hs'.extBut _ _ c1 (hs _ _ c3 (K0 c o c1 x))) ⟨oe, hs'.extBut _ _ ez hoe, hce⟩
  obtain ⟨x1, e1⟩ := Option.ne_none_iff_exists'.mp w1
  refine wpAny_bind (wpAny_bind (wpAny_onRaise ?_))
  show wpAny _ _ (Builtin.SmallTypes.nextOf (.ref i1) >>= _) _ _ _
  refine wpAny_bind (it_item (t1.at (fun o e => K0 _ o (nd_ne hd 3 0 rfl rfl (by decide)) e)) (q1.at (fun o e => K0 _ o (no_ne m1 0 rfl) e)) e1 fun f1 r1 v1 => wpAny_pure ?_)
  have tp1 : Row f1 TO [a1, a2, a3] := v1.extBut _ _ (nd_ne hd 2 3 rfl rfl (by decide)) to0
  refine wpAny_bind (wpAny_seqItems tp1 rfl ?_)
  refine wpAny_bind (wpAny_updateSeq tp1 rfl ?_)
  obtain ⟨g1, hg1⟩ : ∃ g : Heap, g = f1.update TO (Obj.mapSeq (·.setIfInBounds 0 x1)) := ⟨_, rfl⟩
  have s1 : Heap.SameBut TO f1 g1 := by rw [hg1]; exact Heap.SameBut.update ..
  have to1 : Row g1 TO [x1, a2, a3] := by
    rw [hg1]
    unfold Row
    rw [Heap.get?_update_self _ tp1 rfl]
    simp [Obj.mapSeq]
  rw [← hg1]
  have y1 : It b1 g1 i1 l1 (k + 1) := r1.at fun o e => s1.extBut _ _ (nd_ne hd 3 2 rfl rfl (by decide)) e
  have K1 : ∀ c o, c ≠ z → c ≠ TO → c ≠ i1 → s.heap.get? c = some o → g1.get? c = some o := fun c o c1 c2 c3 e => s1.extBut _ _ c2 (v1.extBut _ _ c3 (K0 c o c1 e))
  have z1 : IsZip g1 z TI TO .ellipsis := s1.extBut _ _ (nd_ne hd 0 2 rfl rfl (by decide)) (v1.extBut _ _ (nd_ne hd 0 3 rfl rfl (by decide)) z0)
  have n1 : g1.objs.size = g0.objs.size := s1.1.trans v1.1
  refine wpAny_bind (wpAny_letGo (wpAny_pure ?_))
  by_cases w2 : u2[k]? = none
  · refine wpAny_bind (wpAny_bind (wpAny_onRaise ?_))
    show wpAny _ _ (Builtin.SmallTypes.nextOf (.ref i2) >>= _) _ _ _
    refine wpAny_bind (it_end hh (t2.at (fun o e => K1 _ o (nd_ne hd 4 0 rfl rfl (by decide)) (nd_ne hd 4 2 rfl rfl (by decide)) (nd_ne hd 4 3 rfl rfl (by decide)) e)) (q2.at (fun o e => K1 _ o (no_ne m2 0 rfl) (no_ne m2 2 rfl) (no_ne m2 3 rfl) e)) w2 fun f e hs he => ?_)
    obtain ⟨oe, hoe, hce⟩ := he
    have zf : IsZip f z TI TO .ellipsis := hs _ _ (nd_ne hd 0 4 rfl rfl (by decide)) z1
    have ez : e ≠ z := fun x => by subst x; rw [zf] at hoe; cases hoe; simp at hce
    exact wpAny_setField_rec zf (by simp) fun f' _ hs' => hE f' e (fun c o c1 c2 c3 c4 c5 x => hs'.extBut _ _ c1 (hs _ _ c4 (K1 c o c1 c2 c3 x))) ⟨oe, hs'.extBut _ _ ez hoe, hce⟩
  obtain ⟨x2, e2⟩ := Option.ne_none_iff_exists'.mp w2
  refine wpAny_bind (wpAny_bind (wpAny_onRaise ?_))
  show wpAny _ _ (Builtin.SmallTypes.nextOf (.ref i2) >>= _) _ _ _
  refine wpAny_bind (it_item (t2.at (fun o e => K1 _ o (nd_ne hd 4 0 rfl rfl (by decide)) (nd_ne hd 4 2 rfl rfl (by decide)) (nd_ne hd 4 3 rfl rfl (by decide)) e)) (q2.at (fun o e => K1 _ o (no_ne m2 0 rfl) (no_ne m2 2 rfl) (no_ne m2 3 rfl) e)) e2 fun f2 r2 v2 => wpAny_pure ?_)
  have tp2 : Row f2 TO [x1, a2, a3] := v2.extBut _ _ (nd_ne hd 2 4 rfl rfl (by decide)) to1
  refine wpAny_bind (wpAny_seqItems tp2 rfl ?_)
  refine wpAny_bind (wpAny_updateSeq tp2 rfl ?_)
  obtain ⟨g2, hg2⟩ : ∃ g : Heap, g = f2.update TO (Obj.mapSeq (·.setIfInBounds 1 x2)) := ⟨_, rfl⟩
  have s2 : Heap.SameBut TO f2 g2 := by rw [hg2]; exact Heap.SameBut.update ..
  have to2 : Row g2 TO [x1, x2, a3] := by
    rw [hg2]
    unfold Row
    rw [Heap.get?_update_self _ tp2 rfl]
    simp [Obj.mapSeq]
  rw [← hg2]
  have y2 : It b2 g2 i2 l2 (k + 1) := r2.at fun o e => s2.extBut _ _ (nd_ne hd 4 2 rfl rfl (by decide)) e
  have K2 : ∀ c o, c ≠ z → c ≠ TO → c ≠ i1 → c ≠ i2 → s.heap.get? c = some o → g2.get? c = some o := fun c o c1 c2 c3 c4 e => s2.extBut _ _ c2 (v2.extBut _ _ c4 (K1 c o c1 c2 c3 e))
  have z2 : IsZip g2 z TI TO .ellipsis := s2.extBut _ _ (nd_ne hd 0 2 rfl rfl (by decide)) (v2.extBut _ _ (nd_ne hd 0 4 rfl rfl (by decide)) z1)
  have n2 : g2.objs.size = g1.objs.size := s2.1.trans v2.1
  refine wpAny_bind (wpAny_letGo (wpAny_pure ?_))
  replace y1 : It b1 g2 i1 l1 (k + 1) := y1.at fun o e => s2.extBut _ _ (nd_ne hd 3 2 rfl rfl (by decide)) (v2.extBut _ _ (nd_ne hd 3 4 rfl rfl (by decide)) e)
  by_cases w3 : u3[k]? = none
  · refine wpAny_bind (wpAny_bind (wpAny_onRaise ?_))
    show wpAny _ _ (Builtin.SmallTypes.nextOf (.ref i3) >>= _) _ _ _
    refine wpAny_bind (it_end hh (t3.at (fun o e => K2 _ o (nd_ne hd 5 0 rfl rfl (by decide)) (nd_ne hd 5 2 rfl rfl (by decide)) (nd_ne hd 5 3 rfl rfl (by decide)) (nd_ne hd 5 4 rfl rfl (by decide)) e)) (q3.at (fun o e => K2 _ o (no_ne m3 0 rfl) (no_ne m3 2 rfl) (no_ne m3 3 rfl) (no_ne m3 4 rfl) e)) w3 fun f e hs he => ?_)
    obtain ⟨oe, hoe, hce⟩ := he
    have zf : IsZip f z TI TO .ellipsis := hs _ _ (nd_ne hd 0 5 rfl rfl (by decide)) z2
    have ez : e ≠ z := fun x => by subst x; rw [zf] at hoe; cases hoe; simp at hce
    exact wpAny_setField_rec zf (by simp) fun f' _ hs' => hE f' e (fun c o c1 c2 c3 c4 c5 x => hs'.extBut _ _ c1 (hs _ _ c5 (K2 c o c1 c2 c3 c4 x))) ⟨oe, hs'.extBut _ _ ez hoe, hce⟩
  exact absurd out (by simp [w1, w2, w3])
end
end ZN

set_option Elab.async false
set_option linter.all false
set_option maxRecDepth 100000
set_option maxHeartbeats 1000000
namespace ZN
open PySem
open PySem.Sem (wp)
/-- the iterator that is made -/
abbrev itO (b : Bool) (l : Addr) : Obj := { cls := .type (if b = true then "tuple_iterator" else "list_iterator"), data := .fields #[.ref l, .int 0 0] }
theorem tyCall2 (a b : Value) : checkTypeCall "zip" ⟨[a, b], []⟩ = pure () := F.typeCall_zip_2 a b
theorem nwCall2 (a b : Value) : checkBuiltinCall "zip.__new__" ⟨[.type "zip", a, b], []⟩ = pure () := F.newCall_zip_2 a b
theorem oArgs2 (a b c : Value) : argsOk "object.__init__" ⟨[a, b, c], []⟩ := F.args_object_init_3 a b c
theorem tyCall3 (a b c : Value) : checkTypeCall "zip" ⟨[a, b, c], []⟩ = pure () := by kernel_rfl
theorem nwCall3 (a b c : Value) : checkBuiltinCall "zip.__new__" ⟨[.type "zip", a, b, c], []⟩ = pure () := by kernel_rfl
theorem oArgs3 (a b c d : Value) : argsOk "object.__init__" ⟨[a, b, c, d], []⟩ := by
  unfold argsOk
  rw [signature?_of (id := "object.__init__") (n := ['_', '_', 't', 'i', 'n', 'i', '_', '_']) (o := ['t', 'c', 'e', 'j', 'b', 'o']) (by kernel_rfl) F.owner_object]
  kernel_rfl
def madeTL (h : Heap) (l1 l2 : Addr) : Heap := (((((h).push (itO true l1)).push (itO false l2)).push { cls := .type "tuple", data := .seq #[.ref h.objs.size, .ref (h.objs.size + 1)] }).push { cls := .type "tuple", data := .seq #[.none, .none] }).push { cls := .type "zip", data := .fields #[.none, .bool false, .bool false, .ref (h.objs.size + 2), .ref (h.objs.size + 3)] }
theorem newTL (l1 l2 : Addr) (u1 u2 : Array Value) :
    Meets (Builtin.«zip.__new__» ⟨[.type "zip", .ref l1, .ref l2], []⟩) (fun _ R s => s.heap.IsTuple l1 u1 ∧ s.heap.IsList l2 u2 ∧
      R (.ok (.ret (.ref (s.heap.objs.size + 4)))) { s with heap := madeTL s.heap l1 l2 }) :=
  .of_wp fun prog w A R s h => by
    obtain ⟨hp, g, d, tk, os⟩ := s
    obtain ⟨q1, q2, h⟩ := h
    have hsub := sub_zip
    have Q1 : Heap.IsTuple (Shared.heap ⟨hp, g, d, tk, os⟩) l1 u1 := q1
    have Q2 : Heap.IsList (Shared.heap ⟨(hp).push { cls := .type "tuple_iterator", data := .fields #[.ref l1, .int 0 0] }, g, d, tk, os⟩) l2 u2 := (Heap.IsList.push q2 _)
    wp_walk using wpAny_pyIter_tuple Q1, wpAny_pyIter_list Q2
    refine ⟨_, rfl, ?_⟩
    unfold madeTL at h
    simp only [Heap.size_push]
    exact h
section
variable {prog : Program} {w : World} {A : Around} {E : Value → Shared → Prop} {s : Shared}
theorem callTL {l1 l2 : Addr} {u1 u2 : Array Value} {Q : Value → Shared → Prop} (q1 : Sq true s.heap l1 u1) (q2 : Sq false s.heap l2 u2)
    (h : ∀ h', IsZip h' (s.heap.objs.size + 4) (s.heap.objs.size + 2) (s.heap.objs.size + 3) .none → Row h' (s.heap.objs.size + 2) [.ref s.heap.objs.size, .ref (s.heap.objs.size + 1)] →
      Row h' (s.heap.objs.size + 3) [.none, .none] → It true h' s.heap.objs.size l1 0 → It false h' (s.heap.objs.size + 1) l2 0 → h'.objs.size = s.heap.objs.size + 5 →
      (∀ c o, s.heap.get? c = some o → h'.get? c = some o) → Q (.ref (s.heap.objs.size + 4)) { s with heap := h' }) :
    wpAny (model prog w) A (call (.type "zip") [.ref l1, .ref l2]) Q E s := by
  refine callType_new F.called_zip (by decide) (tyCall2 _ _) (nwCall2 _ _) (fun obj => oArgs2 obj _ _) F.entry_zip_new
    (newTL l1 l2 u1 u2) ⟨q1, q2, ?_⟩
  have sz : ∀ (h : Heap) (o : Obj), (h.push o).objs.size = h.objs.size + 1 := fun h o => Heap.size_push ..
  have up : ∀ (h : Heap) (o : Obj) (c : Addr) (x : Obj), h.get? c = some x → (h.push o).get? c = some x := fun h o c x e => Heap.get?_push_of_some _ e
  have at_ : ∀ (h : Heap) (o : Obj) (c : Addr), o.isFreed = false → h.objs.size = c → (h.push o).get? c = some o := fun h o c f e => by subst e; exact Heap.get?_push_size _ f
  refine ⟨?_, h _ ?_ ?_ ?_ ?_ ?_ ?_ ?_⟩
  · exact ⟨_, at_ _ _ _ rfl (by simp only [sz]), rfl⟩
  · exact at_ _ _ _ rfl (by simp only [sz])
  · exact up _ _ _ _ (up _ _ _ _ (at_ _ _ _ rfl (by simp only [sz])))
  · exact up _ _ _ _ (at_ _ _ _ rfl (by simp only [sz]))
  · exact ⟨_, (up _ _ _ _ (up _ _ _ _ (up _ _ _ _ (up _ _ _ _ (at_ _ _ _ rfl (by simp only [sz])))))), rfl, rfl⟩
  · exact ⟨_, (up _ _ _ _ (up _ _ _ _ (up _ _ _ _ (at_ _ _ _ rfl (by simp only [sz]))))), rfl, rfl⟩
  · unfold madeTL; simp only [sz]
  · intro c o x; exact (up _ _ _ _ (up _ _ _ _ (up _ _ _ _ (up _ _ _ _ (up _ _ _ _ x)))))
end
def madeLT (h : Heap) (l1 l2 : Addr) : Heap := (((((h).push (itO false l1)).push (itO true l2)).push { cls := .type "tuple", data := .seq #[.ref h.objs.size, .ref (h.objs.size + 1)] }).push { cls := .type "tuple", data := .seq #[.none, .none] }).push { cls := .type "zip", data := .fields #[.none, .bool false, .bool false, .ref (h.objs.size + 2), .ref (h.objs.size + 3)] }
theorem newLT (l1 l2 : Addr) (u1 u2 : Array Value) :
    Meets (Builtin.«zip.__new__» ⟨[.type "zip", .ref l1, .ref l2], []⟩) (fun _ R s => s.heap.IsList l1 u1 ∧ s.heap.IsTuple l2 u2 ∧
      R (.ok (.ret (.ref (s.heap.objs.size + 4)))) { s with heap := madeLT s.heap l1 l2 }) :=
  .of_wp fun prog w A R s h => by
    obtain ⟨hp, g, d, tk, os⟩ := s
    obtain ⟨q1, q2, h⟩ := h
    have hsub := sub_zip
    have Q1 : Heap.IsList (Shared.heap ⟨hp, g, d, tk, os⟩) l1 u1 := q1
    have Q2 : Heap.IsTuple (Shared.heap ⟨(hp).push { cls := .type "list_iterator", data := .fields #[.ref l1, .int 0 0] }, g, d, tk, os⟩) l2 u2 := (Heap.IsTuple.push q2 _)
    wp_walk using wpAny_pyIter_list Q1, wpAny_pyIter_tuple Q2
    refine ⟨_, rfl, ?_⟩
    unfold madeLT at h
    simp only [Heap.size_push]
    exact h
section
variable {prog : Program} {w : World} {A : Around} {E : Value → Shared → Prop} {s : Shared}
theorem callLT {l1 l2 : Addr} {u1 u2 : Array Value} {Q : Value → Shared → Prop} (q1 : Sq false s.heap l1 u1) (q2 : Sq true s.heap l2 u2)
    (h : ∀ h', IsZip h' (s.heap.objs.size + 4) (s.heap.objs.size + 2) (s.heap.objs.size + 3) .none → Row h' (s.heap.objs.size + 2) [.ref s.heap.objs.size, .ref (s.heap.objs.size + 1)] →
      Row h' (s.heap.objs.size + 3) [.none, .none] → It false h' s.heap.objs.size l1 0 → It true h' (s.heap.objs.size + 1) l2 0 → h'.objs.size = s.heap.objs.size + 5 →
      (∀ c o, s.heap.get? c = some o → h'.get? c = some o) → Q (.ref (s.heap.objs.size + 4)) { s with heap := h' }) :
    wpAny (model prog w) A (call (.type "zip") [.ref l1, .ref l2]) Q E s := by
  refine callType_new F.called_zip (by decide) (tyCall2 _ _) (nwCall2 _ _) (fun obj => oArgs2 obj _ _) F.entry_zip_new
    (newLT l1 l2 u1 u2) ⟨q1, q2, ?_⟩
  have sz : ∀ (h : Heap) (o : Obj), (h.push o).objs.size = h.objs.size + 1 := fun h o => Heap.size_push ..
  have up : ∀ (h : Heap) (o : Obj) (c : Addr) (x : Obj), h.get? c = some x → (h.push o).get? c = some x := fun h o c x e => Heap.get?_push_of_some _ e
  have at_ : ∀ (h : Heap) (o : Obj) (c : Addr), o.isFreed = false → h.objs.size = c → (h.push o).get? c = some o := fun h o c f e => by subst e; exact Heap.get?_push_size _ f
  refine ⟨?_, h _ ?_ ?_ ?_ ?_ ?_ ?_ ?_⟩
  · exact ⟨_, at_ _ _ _ rfl (by simp only [sz]), rfl⟩
  · exact at_ _ _ _ rfl (by simp only [sz])
  · exact up _ _ _ _ (up _ _ _ _ (at_ _ _ _ rfl (by simp only [sz])))
  · exact up _ _ _ _ (at_ _ _ _ rfl (by simp only [sz]))
  · exact ⟨_, (up _ _ _ _ (up _ _ _ _ (up _ _ _ _ (up _ _ _ _ (at_ _ _ _ rfl (by simp only [sz])))))), rfl, rfl⟩
  · exact ⟨_, (up _ _ _ _ (up _ _ _ _ (up _ _ _ _ (at_ _ _ _ rfl (by simp only [sz]))))), rfl, rfl⟩
  · unfold madeLT; simp only [sz]
  · intro c o x; exact (up _ _ _ _ (up _ _ _ _ (up _ _ _ _ (up _ _ _ _ (up _ _ _ _ x)))))
end
def madeLTL (h : Heap) (l1 l2 l3 : Addr) : Heap := ((((((h).push (itO false l1)).push (itO true l2)).push (itO false l3)).push { cls := .type "tuple", data := .seq #[.ref h.objs.size, .ref (h.objs.size + 1), .ref (h.objs.size + 2)] }).push { cls := .type "tuple", data := .seq #[.none, .none, .none] }).push { cls := .type "zip", data := .fields #[.none, .bool false, .bool false, .ref (h.objs.size + 3), .ref (h.objs.size + 4)] }
theorem newLTL (l1 l2 l3 : Addr) (u1 u2 u3 : Array Value) :
    Meets (Builtin.«zip.__new__» ⟨[.type "zip", .ref l1, .ref l2, .ref l3], []⟩) (fun _ R s => s.heap.IsList l1 u1 ∧ s.heap.IsTuple l2 u2 ∧ s.heap.IsList l3 u3 ∧
      R (.ok (.ret (.ref (s.heap.objs.size + 5)))) { s with heap := madeLTL s.heap l1 l2 l3 }) :=
  .of_wp fun prog w A R s h => by
    obtain ⟨hp, g, d, tk, os⟩ := s
    obtain ⟨q1, q2, q3, h⟩ := h
    have hsub := sub_zip
    have Q1 : Heap.IsList (Shared.heap ⟨hp, g, d, tk, os⟩) l1 u1 := q1
    have Q2 : Heap.IsTuple (Shared.heap ⟨(hp).push { cls := .type "list_iterator", data := .fields #[.ref l1, .int 0 0] }, g, d, tk, os⟩) l2 u2 := (Heap.IsTuple.push q2 _)
    have Q3 : Heap.IsList (Shared.heap ⟨((hp).push { cls := .type "list_iterator", data := .fields #[.ref l1, .int 0 0] }).push { cls := .type "tuple_iterator", data := .fields #[.ref l2, .int 0 0] }, g, d, tk, os⟩) l3 u3 := (Heap.IsList.push (Heap.IsList.push q3 _) _)
    wp_walk using wpAny_pyIter_list Q1, wpAny_pyIter_tuple Q2, wpAny_pyIter_list Q3
    refine ⟨_, rfl, ?_⟩
    unfold madeLTL at h
    simp only [Heap.size_push]
    exact h
section
variable {prog : Program} {w : World} {A : Around} {E : Value → Shared → Prop} {s : Shared}
theorem callLTL {l1 l2 l3 : Addr} {u1 u2 u3 : Array Value} {Q : Value → Shared → Prop} (q1 : Sq false s.heap l1 u1) (q2 : Sq true s.heap l2 u2) (q3 : Sq false s.heap l3 u3)
    (h : ∀ h', IsZip h' (s.heap.objs.size + 5) (s.heap.objs.size + 3) (s.heap.objs.size + 4) .none → Row h' (s.heap.objs.size + 3) [.ref s.heap.objs.size, .ref (s.heap.objs.size + 1), .ref (s.heap.objs.size + 2)] →
      Row h' (s.heap.objs.size + 4) [.none, .none, .none] → It false h' s.heap.objs.size l1 0 → It true h' (s.heap.objs.size + 1) l2 0 → It false h' (s.heap.objs.size + 2) l3 0 → h'.objs.size = s.heap.objs.size + 6 →
      (∀ c o, s.heap.get? c = some o → h'.get? c = some o) → Q (.ref (s.heap.objs.size + 5)) { s with heap := h' }) :
    wpAny (model prog w) A (call (.type "zip") [.ref l1, .ref l2, .ref l3]) Q E s := by
  refine callType_new F.called_zip (by decide) (tyCall3 _ _ _) (nwCall3 _ _ _) (fun obj => oArgs3 obj _ _ _) F.entry_zip_new
    (newLTL l1 l2 l3 u1 u2 u3) ⟨q1, q2, q3, ?_⟩
  have sz : ∀ (h : Heap) (o : Obj), (h.push o).objs.size = h.objs.size + 1 := fun h o => Heap.size_push ..
  have up : ∀ (h : Heap) (o : Obj) (c : Addr) (x : Obj), h.get? c = some x → (h.push o).get? c = some x := fun h o c x e => Heap.get?_push_of_some _ e
  have at_ : ∀ (h : Heap) (o : Obj) (c : Addr), o.isFreed = false → h.objs.size = c → (h.push o).get? c = some o := fun h o c f e => by subst e; exact Heap.get?_push_size _ f
  refine ⟨?_, h _ ?_ ?_ ?_ ?_ ?_ ?_ ?_ ?_⟩
  · exact ⟨_, at_ _ _ _ rfl (by simp only [sz]), rfl⟩
  · exact at_ _ _ _ rfl (by simp only [sz])
  · exact up _ _ _ _ (up _ _ _ _ (at_ _ _ _ rfl (by simp only [sz])))
  · exact up _ _ _ _ (at_ _ _ _ rfl (by simp only [sz]))
  · exact ⟨_, (up _ _ _ _ (up _ _ _ _ (up _ _ _ _ (up _ _ _ _ (up _ _ _ _ (at_ _ _ _ rfl (by simp only [sz]))))))), rfl, rfl⟩
  · exact ⟨_, (up _ _ _ _ (up _ _ _ _ (up _ _ _ _ (up _ _ _ _ (at_ _ _ _ rfl (by simp only [sz])))))), rfl, rfl⟩
  · exact ⟨_, (up _ _ _ _ (up _ _ _ _ (up _ _ _ _ (at_ _ _ _ rfl (by simp only [sz]))))), rfl, rfl⟩
  · unfold madeLTL; simp only [sz]
  · intro c o x; exact (up _ _ _ _ (up _ _ _ _ (up _ _ _ _ (up _ _ _ _ (up _ _ _ _ (up _ _ _ _ x))))))
end
section
variable {prog : Program} {w : World} {A : Around} {E : Value → Shared → Prop} {s : Shared}
/-- zip(x, y), each of either kind -/
theorem call2 {b1 b2 : Bool} {l1 l2 : Addr} {u1 u2 : Array Value} {Q : Value → Shared → Prop} (q1 : Sq b1 s.heap l1 u1) (q2 : Sq b2 s.heap l2 u2)
    (h : ∀ h', IsZip h' (s.heap.objs.size + 4) (s.heap.objs.size + 2) (s.heap.objs.size + 3) .none → Row h' (s.heap.objs.size + 2) [.ref s.heap.objs.size, .ref (s.heap.objs.size + 1)] →
      Row h' (s.heap.objs.size + 3) [.none, .none] → It b1 h' s.heap.objs.size l1 0 → It b2 h' (s.heap.objs.size + 1) l2 0 → h'.objs.size = s.heap.objs.size + 5 →
      (∀ c o, s.heap.get? c = some o → h'.get? c = some o) → Q (.ref (s.heap.objs.size + 4)) { s with heap := h' }) :
    wpAny (model prog w) A (call (.type "zip") [.ref l1, .ref l2]) Q E s := by
  cases b1 with
  | true => cases b2 with
    | true => exact RZ.call_zipT q1 q2 h
    | false => exact callTL q1 q2 h
  | false => cases b2 with
    | true => exact callLT q1 q2 h
    | false => exact call_zip_2 q1 q2 h
end
end ZN

set_option Elab.async false
set_option linter.all false
set_option maxRecDepth 100000
set_option maxHeartbeats 1000000
/-! zip over the layer, and over data -/
namespace ZN
open PySem PySem.Spec PyProof.Rows L2
def SqK (b : Bool) (K : PySem.W.Frag) (H : Hp) (a : Addr) (xs : List V) : Prop := if b = true then SqT K H a xs else SqL K H a xs
section
variable {X : Cx} {pins : List (Addr × Obj)} {σ : L2.St} {H : Hp} {s : Shared} {b : Bool} {a : Addr} {xs ys : List V}
theorem sqk_ok (I : Inv X pins σ H s) (h : SqK b X.K H a xs) : ∃ its : List Value, Vals xs its ∧ Sq b s.heap a its.toArray := by
  cases b with
  | true => obtain ⟨its, r, p, _⟩ := I.tuple h; exact ⟨its, r, p⟩
  | false => obtain ⟨its, r, p, _⟩ := I.list h; exact ⟨its, r, p.isList⟩
theorem sqk_inj (I : Inv X pins σ H s) (h : SqK b X.K H a xs) (h' : SqK b X.K H a ys) : xs = ys := by
  cases b with
  | true => exact I.tuple_inj h h'
  | false => exact I.list_inj h h'
theorem Sq.lt {h : Heap} {l : Addr} {u : Array Value} (q : Sq b h l u) : l < h.objs.size := by
  cases b with
  | true => obtain ⟨o, e, _⟩ := q; exact Heap.lt_size e
  | false => obtain ⟨o, e, _⟩ := q; exact Heap.lt_size e
theorem It.obj {h : Heap} {it l : Addr} {k : Nat} (t : ZN.It b h it l k) : ∃ o, h.get? it = some o ∧ ∀ v, o.data ≠ .cell v := by
  cases b with
  | true => obtain ⟨o, e, _, d⟩ := t; exact ⟨o, e, fun v q => by rw [d] at q; cases q⟩
  | false => obtain ⟨o, e, _, d⟩ := t; exact ⟨o, e, fun v q => by rw [d] at q; cases q⟩
end
/-- the sequences as they stand at each turn, the items in new tuples -/
def Itz2 (K : PySem.W.Frag) (b1 b2 : Bool) (a1 a2 : Addr) : L2.It :=
  ⟨fun i H => ∃ (p1 p2 : List V) (x1 x2 : V), SqK b1 K H a1 p1 ∧ SqK b2 K H a2 p2 ∧ p1[i]? = some x1 ∧ p2[i]? = some x2,
    fun i H v H' => ∃ (T : Addr) (x1 x2 : V), v = .ref T ∧ H T = none ∧ H' = upd H T (.tup [x1, x2]) ∧ (∀ p, SqK b1 K H a1 p → p[i]? = some x1) ∧ (∀ p, SqK b2 K H a2 p → p[i]? = some x2),
    fun i H => ∃ (p1 p2 : List V), SqK b1 K H a1 p1 ∧ SqK b2 K H a2 p2 ∧ (p1.length ≤ i ∨ p2.length ≤ i)⟩
theorem turn2 {P : Program} {w : World} {K : PySem.W.Frag} {elts : List Expr} {kk : Nat} {tpos : Pos} {b1 b2 : Bool} {a1 a2 z TI TO i1 i2 : Addr} (hd : List.Nodup [z, TI, TO, i1, i2]) (m1 : a1 ∉ [z, TI, TO, i1, i2]) (m2 : a2 ∉ [z, TI, TO, i1, i2]) :
    Turn P w K (.Tuple elts kk tpos) (Itz2 K b1 b2 a1 a2) [z, TI, TO, i1, i2] z (fun i h => IsZip h z TI TO .none ∧ Row h TI [.ref i1, .ref i2] ∧ (∃ x1 x2, Row h TO [x1, x2]) ∧ ZN.It b1 h i1 a1 i ∧ ZN.It b2 h i2 a2 i) where
  mem := by simp
  obj := fun i h st c hc => by
    obtain ⟨zz, ti, ⟨y1, y2, to⟩, t1, t2⟩ := st
    have e' : c = z ∨ c = TI ∨ c = TO ∨ c = i1 ∨ c = i2 := by simpa using hc
    rcases e' with q | q | q | q | q
    · rw [q]; exact ⟨_, zz, fun v q => nomatch q⟩
    · rw [q]; exact ⟨_, ti, fun v q => nomatch q⟩
    · rw [q]; exact ⟨_, to, fun v q => nomatch q⟩
    · rw [q]; exact t1.obj
    · rw [q]; exact t2.obj
  keep := fun i h h' st k => by
    obtain ⟨zz, ti, ⟨y1, y2, to⟩, t1, t2⟩ := st
    exact ⟨k z (by simp) _ zz, k TI (by simp) _ ti, ⟨y1, y2, k TO (by simp) _ to⟩, t1.at fun o q => k i1 (by simp) o q, t2.at fun o q => k i2 (by simp) o q⟩
  item := by
    intro X hP hw hK hc i pins s σ H E I hf st hg
    subst hP hw hK
    obtain ⟨zz, ti, ⟨y1, y2, to⟩, t1, t2⟩ := st
    obtain ⟨p1, p2, x1, x2, s1, s2, g1, g2⟩ := hg
    obtain ⟨w1, rv1, q1⟩ := sqk_ok I s1
    obtain ⟨u1, hu1, ru1⟩ := rv1.get g1
    obtain ⟨w2, rv2, q2⟩ := sqk_ok I s2
    obtain ⟨u2, hu2, ru2⟩ := rv2.get g2
    have zl : z < s.heap.objs.size := Heap.lt_size zz
    have hT : s.TypeIs (.ref z) "zip" := ⟨_, zz, rfl⟩
    unfold pyNext
    refine wpAny_bind (wpAny_attempt (wpAny_callSpecial?_slot (name := Str.ofString "__next__") hT F.slot_zip_next (wpAny_call_entry F.slot_zip_next hT F.entry_zip_next
      (next2_item hd m1 m2 zz ti to t1 q1 t2 q2 (x1 := u1) (x2 := u2) (by simpa using hu1) (by simpa using hu2) fun h' z' TO' v1 v2 new hsz hk => wpAny_pure ?_) (F.args_zip_next_1 _))))
    refine ⟨_, rfl, wpAny_letOwnedTupleGo_zip (s := { s with heap := h' }) z' fun h'' z'' sb => ?_⟩
    have new2 : h''.get? s.heap.objs.size = some { cls := .type "tuple", data := .seq #[u1, u2] } := (sb.2 _ (Nat.ne_of_gt zl)).trans new
    have newO : ObjOk X.prog X.w (upd H s.heap.objs.size (.tup [x1, x2])) h'' s.heap.objs.size (.tup [x1, x2]) :=
      ⟨by show 2 ≤ sizeLine; decide, [u1, u2], .cons ru1 (.cons ru2 .nil), ⟨_, new2, rfl, _, rfl⟩⟩
    have I1 : Inv X pins σ (upd H s.heap.objs.size (.tup [x1, x2])) { s with heap := h'' } :=
      I.turnedNew (t' := s.toks) (ch := [z, TI, TO, i1, i2]) (fun c o hb q => (sb.2 c (fun q' => hb (by simp [q']))).trans (hk c o (fun q' => hb (by simp [q'])) (fun q' => hb (by simp [q'])) (fun q' => hb (by simp [q'])) (fun q' => hb (by simp [q'])) q)) hf (Nat.le_refl _) newO
    refine ⟨.ref s.heap.objs.size, _, I1, rfl, ⟨_, x1, x2, rfl, I.hok.fresh (Nat.le_refl _), rfl, fun l hl => by rw [sqk_inj I hl s1]; exact g1, fun l hl => by rw [sqk_inj I hl s2]; exact g2⟩, ⟨z'', ?_, ⟨u1, u2, ?_⟩, ?_, ?_⟩, fun c hcm => ?_⟩
    · exact (sb.2 _ (nd_ne hd 1 0 rfl rfl (by decide))).trans (hk _ _ (nd_ne hd 1 0 rfl rfl (by decide)) (nd_ne hd 1 2 rfl rfl (by decide)) (nd_ne hd 1 3 rfl rfl (by decide)) (nd_ne hd 1 4 rfl rfl (by decide)) ti)
    · exact (sb.2 _ (nd_ne hd 2 0 rfl rfl (by decide))).trans TO'
    · exact v1.at fun o q => (sb.2 _ (nd_ne hd 3 0 rfl rfl (by decide))).trans q
    · exact v2.at fun o q => (sb.2 _ (nd_ne hd 4 0 rfl rfl (by decide))).trans q
    · have hlt : c < s.heap.objs.size := by
        have e' : c = z ∨ c = TI ∨ c = TO ∨ c = i1 ∨ c = i2 := by simpa using hcm
        rcases e' with q | q | q | q | q
        · rw [q]; exact zl
        · rw [q]; exact Heap.lt_size ti
        · rw [q]; exact Heap.lt_size to
        · rw [q]; obtain ⟨_, e1, _⟩ := t1.obj; exact Heap.lt_size e1
        · rw [q]; obtain ⟨_, e1, _⟩ := t2.obj; exact Heap.lt_size e1
      rw [upd_ne (Nat.ne_of_lt hlt)]
      exact (hf c hcm).1
  done := by
    intro X hP hw hK hc i pins s σ H E I hf st hg
    subst hP hw hK
    obtain ⟨zz, ti, ⟨y1, y2, to⟩, t1, t2⟩ := st
    obtain ⟨p1, p2, s1, s2, hend⟩ := hg
    obtain ⟨w1, rv1, q1⟩ := sqk_ok I s1
    have n1 := rv1.length
    obtain ⟨w2, rv2, q2⟩ := sqk_ok I s2
    have n2 := rv2.length
    have out : w1.toArray[i]? = none ∨ w2.toArray[i]? = none := by
      rcases hend with q | q
      · exact .inl (by simp; omega)
      · exact .inr ((by simp; omega))
    have hT : s.TypeIs (.ref z) "zip" := ⟨_, zz, rfl⟩
    unfold pyNext
    refine wpAny_bind (wpAny_attempt (wpAny_callSpecial?_slot (name := Str.ofString "__next__") hT F.slot_zip_next (wpAny_call_entry F.slot_zip_next hT F.entry_zip_next
      (next2_end (I.ok.hd hc) hd m1 m2 zz ti to t1 q1 t2 q2 out fun h' e hk he => ?_) (F.args_zip_next_1 _))))
    obtain ⟨o, ho, hcl⟩ := he
    refine wpAny_bind (wpAny_isInstance (T := "StopIteration") (b := true) ⟨o, ho, hcl⟩ isSubtype_stop ?_)
    exact wpAny_pure ⟨rfl, I.turnedL (t' := s.toks) (ch := [z, TI, TO, i1, i2]) (fun c o hb q => hk c o (fun q' => hb (by simp [q'])) (fun q' => hb (by simp [q'])) (fun q' => hb (by simp [q'])) (fun q' => hb (by simp [q'])) q) hf⟩
  self := fun A i s Q E st h => wpAny_pyIter_zip st.1 h
theorem apart2 (I : Nat) : List.Nodup [I + 4, I + 2, I + 3, I, I + 1] := by
  simp
theorem away2 (I l : Nat) (h : l < I) : l ∉ [I + 4, I + 2, I + 3, I, I + 1] := by
  simp
  omega
def iZ2 (K : PySem.W.Frag) (ta : TA) : TI := fun σ H R => ta σ H fun vs H1 => ∃ (b1 b2 : Bool) (a1 a2 : Addr) (p1 p2 : List V), vs = [.ref a1, .ref a2] ∧ SqK b1 K H1 a1 p1 ∧ SqK b2 K H1 a2 p2 ∧ R (Itz2 K b1 b2 a1 a2) H1
theorem pi_z2 {X : Cx} {e1 e2 : Expr} {ta : TA} {p pos tpos : Pos} {elts : List Expr} {kk : Nat} (hg : Gl X "zip") (hm : X.mg "zip" = none) (ha : PA X [e1, e2] ta)
    (hs : starEach [e1, e2] X.env = (false, eval e1 X.env) :: starEach [e2] X.env := by rfl) (hpl : (backTo pos (starEach [e2] X.env)).any (·.1) = false := by rfl) :
    PI X (.Tuple elts kk tpos) (.Call (.Name "zip" p) [e1, e2] [] pos) (iZ2 X.K ta) := by
  refine ⟨fun pins s σ H R I h => ?_⟩
  refine Call_ (ld_blt I hg hm PyProof.Rows.boot_zip (PyProof.Rows.callWith_type1 (thn (ha.run pos pins s σ H _ I h) fun us s1 ⟨vs, H1, I1, r1, q1⟩ => ?_) hs hpl))
  obtain ⟨b1, b2, a1, a2, p1, p2, ex, k1, k2, q⟩ := q1
  subst ex
  cases r1 with
  | cons r rr => cases rr with
    | cons r' rr =>
      cases rr
      cases r; cases r'
      obtain ⟨w1, rv1, c1⟩ := sqk_ok I1 k1
      obtain ⟨w2, rv2, c2⟩ := sqk_ok I1 k2
      have fresh : ∀ c, c ∈ [s1.heap.objs.size + 4, s1.heap.objs.size + 2, s1.heap.objs.size + 3, s1.heap.objs.size, s1.heap.objs.size + 1] → FpOk X pins H1 c := fun c hcm => by
        have hle : s1.heap.objs.size ≤ c := by
          simp at hcm
          omega
        exact I1.fpOk hle (I1.hok.fresh hle)
      refine call2 c1 c2 fun h' hz hTI hTO h1 h2 hsz hk => wpAny_pyIter_zip hz ?_
      have I2 : Inv X pins σ H1 { s1 with heap := h' } := I1.kept (t' := s1.toks) hk
      exact ⟨s1.heap.objs.size + 4, [s1.heap.objs.size + 4, s1.heap.objs.size + 2, s1.heap.objs.size + 3, s1.heap.objs.size, s1.heap.objs.size + 1], _, _, H1, rfl, I2, turn2 (apart2 _) (away2 _ _ c1.lt) (away2 _ _ c2.lt), ⟨hz, hTI, ⟨_, _, hTO⟩, h1, h2⟩, fresh, q⟩
/-- the sequences as they stand at each turn, the items in new tuples -/
def Itz3 (K : PySem.W.Frag) (b1 b2 b3 : Bool) (a1 a2 a3 : Addr) : L2.It :=
  ⟨fun i H => ∃ (p1 p2 p3 : List V) (x1 x2 x3 : V), SqK b1 K H a1 p1 ∧ SqK b2 K H a2 p2 ∧ SqK b3 K H a3 p3 ∧ p1[i]? = some x1 ∧ p2[i]? = some x2 ∧ p3[i]? = some x3,
    fun i H v H' => ∃ (T : Addr) (x1 x2 x3 : V), v = .ref T ∧ H T = none ∧ H' = upd H T (.tup [x1, x2, x3]) ∧ (∀ p, SqK b1 K H a1 p → p[i]? = some x1) ∧ (∀ p, SqK b2 K H a2 p → p[i]? = some x2) ∧ (∀ p, SqK b3 K H a3 p → p[i]? = some x3),
    fun i H => ∃ (p1 p2 p3 : List V), SqK b1 K H a1 p1 ∧ SqK b2 K H a2 p2 ∧ SqK b3 K H a3 p3 ∧ (p1.length ≤ i ∨ p2.length ≤ i ∨ p3.length ≤ i)⟩
theorem turn3 {P : Program} {w : World} {K : PySem.W.Frag} {elts : List Expr} {kk : Nat} {tpos : Pos} {b1 b2 b3 : Bool} {a1 a2 a3 z TI TO i1 i2 i3 : Addr} (hd : List.Nodup [z, TI, TO, i1, i2, i3]) (m1 : a1 ∉ [z, TI, TO, i1, i2, i3]) (m2 : a2 ∉ [z, TI, TO, i1, i2, i3]) (m3 : a3 ∉ [z, TI, TO, i1, i2, i3]) :
    Turn P w K (.Tuple elts kk tpos) (Itz3 K b1 b2 b3 a1 a2 a3) [z, TI, TO, i1, i2, i3] z (fun i h => IsZip h z TI TO .none ∧ Row h TI [.ref i1, .ref i2, .ref i3] ∧ (∃ x1 x2 x3, Row h TO [x1, x2, x3]) ∧ ZN.It b1 h i1 a1 i ∧ ZN.It b2 h i2 a2 i ∧ ZN.It b3 h i3 a3 i) where
  mem := by simp
  obj := fun i h st c hc => by
    obtain ⟨zz, ti, ⟨y1, y2, y3, to⟩, t1, t2, t3⟩ := st
    have e' : c = z ∨ c = TI ∨ c = TO ∨ c = i1 ∨ c = i2 ∨ c = i3 := by simpa using hc
    rcases e' with q | q | q | q | q | q
    · rw [q]; exact ⟨_, zz, fun v q => nomatch q⟩
    · rw [q]; exact ⟨_, ti, fun v q => nomatch q⟩
    · rw [q]; exact ⟨_, to, fun v q => nomatch q⟩
    · rw [q]; exact t1.obj
    · rw [q]; exact t2.obj
    · rw [q]; exact t3.obj
  keep := fun i h h' st k => by
    obtain ⟨zz, ti, ⟨y1, y2, y3, to⟩, t1, t2, t3⟩ := st
    exact ⟨k z (by simp) _ zz, k TI (by simp) _ ti, ⟨y1, y2, y3, k TO (by simp) _ to⟩, t1.at fun o q => k i1 (by simp) o q, t2.at fun o q => k i2 (by simp) o q, t3.at fun o q => k i3 (by simp) o q⟩
  item := by
    intro X hP hw hK hc i pins s σ H E I hf st hg
    subst hP hw hK
    obtain ⟨zz, ti, ⟨y1, y2, y3, to⟩, t1, t2, t3⟩ := st
    obtain ⟨p1, p2, p3, x1, x2, x3, s1, s2, s3, g1, g2, g3⟩ := hg
    obtain ⟨w1, rv1, q1⟩ := sqk_ok I s1
    obtain ⟨u1, hu1, ru1⟩ := rv1.get g1
    obtain ⟨w2, rv2, q2⟩ := sqk_ok I s2
    obtain ⟨u2, hu2, ru2⟩ := rv2.get g2
    obtain ⟨w3, rv3, q3⟩ := sqk_ok I s3
    obtain ⟨u3, hu3, ru3⟩ := rv3.get g3
    have zl : z < s.heap.objs.size := Heap.lt_size zz
    have hT : s.TypeIs (.ref z) "zip" := ⟨_, zz, rfl⟩
    unfold pyNext
    refine wpAny_bind (wpAny_attempt (wpAny_callSpecial?_slot (name := Str.ofString "__next__") hT F.slot_zip_next (wpAny_call_entry F.slot_zip_next hT F.entry_zip_next
      (next3_item hd m1 m2 m3 zz ti to t1 q1 t2 q2 t3 q3 (x1 := u1) (x2 := u2) (x3 := u3) (by simpa using hu1) (by simpa using hu2) (by simpa using hu3) fun h' z' TO' v1 v2 v3 new hsz hk => wpAny_pure ?_) (F.args_zip_next_1 _))))
    refine ⟨_, rfl, wpAny_letOwnedTupleGo_zip (s := { s with heap := h' }) z' fun h'' z'' sb => ?_⟩
    have new2 : h''.get? s.heap.objs.size = some { cls := .type "tuple", data := .seq #[u1, u2, u3] } := (sb.2 _ (Nat.ne_of_gt zl)).trans new
    have newO : ObjOk X.prog X.w (upd H s.heap.objs.size (.tup [x1, x2, x3])) h'' s.heap.objs.size (.tup [x1, x2, x3]) :=
      ⟨by show 3 ≤ sizeLine; decide, [u1, u2, u3], .cons ru1 (.cons ru2 (.cons ru3 .nil)), ⟨_, new2, rfl, _, rfl⟩⟩
    have I1 : Inv X pins σ (upd H s.heap.objs.size (.tup [x1, x2, x3])) { s with heap := h'' } :=
      I.turnedNew (t' := s.toks) (ch := [z, TI, TO, i1, i2, i3]) (fun c o hb q => (sb.2 c (fun q' => hb (by simp [q']))).trans (hk c o (fun q' => hb (by simp [q'])) (fun q' => hb (by simp [q'])) (fun q' => hb (by simp [q'])) (fun q' => hb (by simp [q'])) (fun q' => hb (by simp [q'])) q)) hf (Nat.le_refl _) newO
    refine ⟨.ref s.heap.objs.size, _, I1, rfl, ⟨_, x1, x2, x3, rfl, I.hok.fresh (Nat.le_refl _), rfl, fun l hl => by rw [sqk_inj I hl s1]; exact g1, fun l hl => by rw [sqk_inj I hl s2]; exact g2, fun l hl => by rw [sqk_inj I hl s3]; exact g3⟩, ⟨z'', ?_, ⟨u1, u2, u3, ?_⟩, ?_, ?_, ?_⟩, fun c hcm => ?_⟩
    · exact (sb.2 _ (nd_ne hd 1 0 rfl rfl (by decide))).trans (hk _ _ (nd_ne hd 1 0 rfl rfl (by decide)) (nd_ne hd 1 2 rfl rfl (by decide)) (nd_ne hd 1 3 rfl rfl (by decide)) (nd_ne hd 1 4 rfl rfl (by decide)) (nd_ne hd 1 5 rfl rfl (by decide)) ti)
    · exact (sb.2 _ (nd_ne hd 2 0 rfl rfl (by decide))).trans TO'
    · exact v1.at fun o q => (sb.2 _ (nd_ne hd 3 0 rfl rfl (by decide))).trans q
    · exact v2.at fun o q => (sb.2 _ (nd_ne hd 4 0 rfl rfl (by decide))).trans q
    · exact v3.at fun o q => (sb.2 _ (nd_ne hd 5 0 rfl rfl (by decide))).trans q
    · have hlt : c < s.heap.objs.size := by
        have e' : c = z ∨ c = TI ∨ c = TO ∨ c = i1 ∨ c = i2 ∨ c = i3 := by simpa using hcm
        rcases e' with q | q | q | q | q | q
        · rw [q]; exact zl
        · rw [q]; exact Heap.lt_size ti
        · rw [q]; exact Heap.lt_size to
        · rw [q]; obtain ⟨_, e1, _⟩ := t1.obj; exact Heap.lt_size e1
        · rw [q]; obtain ⟨_, e1, _⟩ := t2.obj; exact Heap.lt_size e1
        · rw [q]; obtain ⟨_, e1, _⟩ := t3.obj; exact Heap.lt_size e1
      rw [upd_ne (Nat.ne_of_lt hlt)]
      exact (hf c hcm).1
  done := by
    intro X hP hw hK hc i pins s σ H E I hf st hg
    subst hP hw hK
    obtain ⟨zz, ti, ⟨y1, y2, y3, to⟩, t1, t2, t3⟩ := st
    obtain ⟨p1, p2, p3, s1, s2, s3, hend⟩ := hg
    obtain ⟨w1, rv1, q1⟩ := sqk_ok I s1
    have n1 := rv1.length
    obtain ⟨w2, rv2, q2⟩ := sqk_ok I s2
    have n2 := rv2.length
    obtain ⟨w3, rv3, q3⟩ := sqk_ok I s3
    have n3 := rv3.length
    have out : w1.toArray[i]? = none ∨ w2.toArray[i]? = none ∨ w3.toArray[i]? = none := by
      rcases hend with q | q | q
      · exact .inl (by simp; omega)
      · exact .inr (.inl (by simp; omega))
      · exact .inr (.inr ((by simp; omega)))
    have hT : s.TypeIs (.ref z) "zip" := ⟨_, zz, rfl⟩
    unfold pyNext
    refine wpAny_bind (wpAny_attempt (wpAny_callSpecial?_slot (name := Str.ofString "__next__") hT F.slot_zip_next (wpAny_call_entry F.slot_zip_next hT F.entry_zip_next
      (next3_end (I.ok.hd hc) hd m1 m2 m3 zz ti to t1 q1 t2 q2 t3 q3 out fun h' e hk he => ?_) (F.args_zip_next_1 _))))
    obtain ⟨o, ho, hcl⟩ := he
    refine wpAny_bind (wpAny_isInstance (T := "StopIteration") (b := true) ⟨o, ho, hcl⟩ isSubtype_stop ?_)
    exact wpAny_pure ⟨rfl, I.turnedL (t' := s.toks) (ch := [z, TI, TO, i1, i2, i3]) (fun c o hb q => hk c o (fun q' => hb (by simp [q'])) (fun q' => hb (by simp [q'])) (fun q' => hb (by simp [q'])) (fun q' => hb (by simp [q'])) (fun q' => hb (by simp [q'])) q) hf⟩
  self := fun A i s Q E st h => wpAny_pyIter_zip st.1 h
theorem apart3 (I : Nat) : List.Nodup [I + 5, I + 3, I + 4, I, I + 1, I + 2] := by
  simp
theorem away3 (I l : Nat) (h : l < I) : l ∉ [I + 5, I + 3, I + 4, I, I + 1, I + 2] := by
  simp
  omega
def iZ3 (K : PySem.W.Frag) (ta : TA) : TI := fun σ H R => ta σ H fun vs H1 => ∃ (b1 b2 b3 : Bool) (a1 a2 a3 : Addr) (p1 p2 p3 : List V), (b1, b2, b3) = (false, true, false) ∧ vs = [.ref a1, .ref a2, .ref a3] ∧ SqK b1 K H1 a1 p1 ∧ SqK b2 K H1 a2 p2 ∧ SqK b3 K H1 a3 p3 ∧ R (Itz3 K b1 b2 b3 a1 a2 a3) H1
theorem pi_z3 {X : Cx} {e1 e2 e3 : Expr} {ta : TA} {p pos tpos : Pos} {elts : List Expr} {kk : Nat} (hg : Gl X "zip") (hm : X.mg "zip" = none) (ha : PA X [e1, e2, e3] ta)
    (hs : starEach [e1, e2, e3] X.env = (false, eval e1 X.env) :: starEach [e2, e3] X.env := by rfl) (hpl : (backTo pos (starEach [e2, e3] X.env)).any (·.1) = false := by rfl) :
    PI X (.Tuple elts kk tpos) (.Call (.Name "zip" p) [e1, e2, e3] [] pos) (iZ3 X.K ta) := by
  refine ⟨fun pins s σ H R I h => ?_⟩
  refine Call_ (ld_blt I hg hm PyProof.Rows.boot_zip (PyProof.Rows.callWith_type1 (thn (ha.run pos pins s σ H _ I h) fun us s1 ⟨vs, H1, I1, r1, q1⟩ => ?_) hs hpl))
  obtain ⟨b1, b2, b3, a1, a2, a3, p1, p2, p3, eb, ex, k1, k2, k3, q⟩ := q1
  subst ex
  cases eb
  cases r1 with
  | cons r rr => cases rr with
    | cons r' rr => cases rr with
      | cons r'' rr =>
        cases rr
        cases r; cases r'; cases r''
        obtain ⟨w1, rv1, c1⟩ := sqk_ok I1 k1
        obtain ⟨w2, rv2, c2⟩ := sqk_ok I1 k2
        obtain ⟨w3, rv3, c3⟩ := sqk_ok I1 k3
        have fresh : ∀ c, c ∈ [s1.heap.objs.size + 5, s1.heap.objs.size + 3, s1.heap.objs.size + 4, s1.heap.objs.size, s1.heap.objs.size + 1, s1.heap.objs.size + 2] → FpOk X pins H1 c := fun c hcm => by
          have hle : s1.heap.objs.size ≤ c := by
            simp at hcm
            omega
          exact I1.fpOk hle (I1.hok.fresh hle)
        refine callLTL c1 c2 c3 fun h' hz hTI hTO h1 h2 h3 hsz hk => wpAny_pyIter_zip hz ?_
        have I2 : Inv X pins σ H1 { s1 with heap := h' } := I1.kept (t' := s1.toks) hk
        exact ⟨s1.heap.objs.size + 5, [s1.heap.objs.size + 5, s1.heap.objs.size + 3, s1.heap.objs.size + 4, s1.heap.objs.size, s1.heap.objs.size + 1, s1.heap.objs.size + 2], _, _, H1, rfl, I2, turn3 (apart3 _) (away3 _ _ c1.lt) (away3 _ _ c2.lt) (away3 _ _ c3.lt), ⟨hz, hTI, ⟨_, _, _, hTO⟩, h1, h2, h3⟩, fresh, q⟩
end ZN
namespace EL
open PySem PySem.Spec PyProof.Rows L2 GxR LG ZN
section
variable {G : G0} {X : Cx} {pos : Pos} {fr : FA}
/-- a tuple (true) or a list -/
def sqOf (d : D) (st : Sto) : Option (Bool × List D) := match d with
  | .tup ds => some (true, ds)
  | d => (listOf d st).map fun ds => (false, ds)
theorem sq_live {μ : Mu} {st : Sto} {H : Hp} {d : D} {v : V} {b : Bool} {ds : List D} (S : StR G μ st H) (R : Rep G μ H d v) (e : sqOf d st = some (b, ds)) : ∃ a, v = .ref a ∧
    ∀ μ' st' H', Ext0 G μ H μ' H' → StR G μ' st' H' → Intact (srcOf d ds) st' → ∃ vs, SqK b G.K H' a vs ∧ Reps G μ' H' ds vs := by
  unfold sqOf at e
  split at e
  · cases e
    cases R with
    | tup s r => exact ⟨_, rfl, fun μ' st' H' x S' _ => ⟨_, x.tup _ _ s, r.ext0 x⟩⟩
  · obtain ⟨es, e1, e2⟩ := Option.map_eq_some_iff.mp e
    cases e2
    obtain ⟨a, vs, rfl, h1, h2⟩ := list_rep S R e1
    exact ⟨a, rfl, live S R e1⟩
def iZip2 (fr : FA) : FI := fun ρ st => (fr ρ st).bind fun p => match p.1 with
  | [x, y] => (sqOf x p.2).bind fun a => (sqOf y p.2).bind fun b => some (List.zipWith (fun x y => .tup [x, y]) a.2 b.2, srcOf x a.2 ++ srcOf y b.2, p.2)
  | _ => none
def zip3 : List D → List D → List D → List D
  | x :: xs, y :: ys, z :: zs => .tup [x, y, z] :: zip3 xs ys zs
  | _, _, _ => []
def iZip3 (fr : FA) : FI := fun ρ st => (fr ρ st).bind fun p => match p.1 with
  | [x, .tup ys, z] => (listOf x p.2).bind fun xs => (listOf z p.2).bind fun zs => some (zip3 xs ys zs, srcOf x xs ++ srcOf z zs, p.2)
  | _ => none
theorem zip_at {xs ys : List D} {i : Nat} {x y : D} (h1 : xs[i]? = some x) (h2 : ys[i]? = some y) : (List.zipWith (fun x y => D.tup [x, y]) xs ys)[i]? = some (.tup [x, y]) := by
  rw [List.getElem?_zipWith, h1, h2]
theorem zip3_at : ∀ {xs ys zs : List D} {i : Nat} {x y z : D}, xs[i]? = some x → ys[i]? = some y → zs[i]? = some z → (zip3 xs ys zs)[i]? = some (.tup [x, y, z])
  | [], _, _, _, _, _, _, h, _, _ => by simp at h
  | _ :: _, [], _, _, _, _, _, _, h, _ => by simp at h
  | _ :: _, _ :: _, [], _, _, _, _, _, _, h => by simp at h
  | a :: xs, b :: ys, c :: zs, 0, x, y, z, h1, h2, h3 => by simp at h1 h2 h3; subst h1 h2 h3; rfl
  | a :: xs, b :: ys, c :: zs, i + 1, x, y, z, h1, h2, h3 => by
    simp at h1 h2 h3
    simp only [zip3, List.getElem?_cons_succ]
    exact zip3_at h1 h2 h3
theorem zip3_len : ∀ {xs ys zs : List D}, (zip3 xs ys zs).length = min xs.length (min ys.length zs.length)
  | [], _, _ => by simp [zip3]
  | _ :: _, [], _ => by simp [zip3]
  | _ :: _, _ :: _, [] => by simp [zip3]
  | a :: xs, b :: ys, c :: zs => by simp [zip3, zip3_len (xs := xs) (ys := ys) (zs := zs)]
theorem src_now {d : D} {st : Sto} {ds : List D} (h : listOf d st = some ds) : Intact (srcOf d ds) st := by
  intro p hp
  unfold srcOf at hp
  split at hp
  · simp at hp; subst hp
    unfold listOf at h
    simp only at h
    split at h
    · rename_i hl; cases h; exact hl
    · cases h
  · simp at hp
theorem src_sq {d : D} {st : Sto} {b : Bool} {ds : List D} (h : sqOf d st = some (b, ds)) : Intact (srcOf d ds) st := by
  unfold sqOf at h
  split at h
  · cases h; exact fun p hp => by simp [srcOf] at hp
  · obtain ⟨es, e1, e2⟩ := Option.map_eq_some_iff.mp h
    cases e2
    exact src_now e1
theorem di_zip2 {e e2 : Expr} {p tpos : Pos} {elts : List Expr} {kk : Nat} (o : On G X) (hg : Gl X "zip") (hm : G.mg "zip" = none) (ha : PA X [e, e2] (liftA G fr))
    (hs : starEach [e, e2] X.env = (false, eval e X.env) :: starEach [e2] X.env := by rfl) (hpl : (backTo pos (starEach [e2] X.env)).any (·.1) = false := by rfl) :
    PI X (.Tuple elts kk tpos) (.Call (.Name "zip" p) [e, e2] [] pos) (liftI G (iZip2 fr)) := by
  refine PI.imp (pi_z2 hg (by rw [o.mg]; exact hm) ha hs hpl) fun σ H R ⟨ρ, μ, st, items, src, st', E, S, e, k⟩ => ?_
  unfold iZip2 at e
  obtain ⟨⟨ds, s1⟩, e1, e⟩ := Option.bind_eq_some_iff.mp e
  refine ⟨ρ, μ, st, ds, s1, E, S, e1, fun μ1 H1 vs X1 S1 R1 => ?_⟩
  simp only at e
  split at e
  · rename_i x y
    obtain ⟨⟨b1, xs⟩, f1, e⟩ := Option.bind_eq_some_iff.mp e
    obtain ⟨⟨b2, ys⟩, f2, e⟩ := Option.bind_eq_some_iff.mp e
    cases e
    cases R1 with
    | cons r1 t => cases t with
      | cons r2 t =>
        cases t
        obtain ⟨a1, rfl, L1⟩ := sq_live S1 r1 f1
        obtain ⟨a2, rfl, L2⟩ := sq_live S1 r2 f2
        obtain ⟨us, u1, u2⟩ := L1 μ1 _ H1 Ext.refl.to0 S1 (src_sq f1)
        obtain ⟨ws, w1, w2⟩ := L2 μ1 _ H1 Ext.refl.to0 S1 (src_sq f2)
        refine ⟨b1, b2, a1, a2, us, ws, rfl, by rw [o.K]; exact u1, by rw [o.K]; exact w1, k μ1 H1 _ X1 S1 ?_⟩
        rw [o.K]
        intro μ' st' H' i x S hin
        obtain ⟨hin1, hin2⟩ := intact_app.mp hin
        obtain ⟨vs1, h1, h2⟩ := L1 μ' st' H' x S hin1
        obtain ⟨vs2, g1, g2⟩ := L2 μ' st' H' x S hin2
        have len1 : xs.length = vs1.length := h2.length
        have len2 : ys.length = vs2.length := g2.length
        simp only [List.length_zipWith]
        refine ⟨fun hl => ?_, fun hl => ⟨vs1, vs2, h1, g1, by omega⟩⟩
        have hv : i < vs1.length := by omega
        have hw : i < vs2.length := by omega
        refine ⟨⟨vs1, vs2, vs1[i], vs2[i], h1, g1, by simp [hv], by simp [hw]⟩, fun y H'' hy => ?_⟩
        obtain ⟨T, x1, x2, rfl, nT, rfl, q1, q2⟩ := hy
        obtain ⟨d1, z1, r1⟩ := h2.get' i (q1 vs1 h1)
        obtain ⟨d2, z2, r2⟩ := g2.get' i (q2 vs2 g1)
        exact ⟨_, zip_at z1 z2, .tup (SqT.of upd_same) (.cons (r1.ext (Ext.new S nT)) (.cons (r2.ext (Ext.new S nT)) .nil)), S.newT nT, Ext.new S nT⟩
  · cases e
theorem di_zip3 {e e2 e3 : Expr} {p tpos : Pos} {elts : List Expr} {kk : Nat} (o : On G X) (hg : Gl X "zip") (hm : G.mg "zip" = none) (ha : PA X [e, e2, e3] (liftA G fr))
    (hs : starEach [e, e2, e3] X.env = (false, eval e X.env) :: starEach [e2, e3] X.env := by rfl) (hpl : (backTo pos (starEach [e2, e3] X.env)).any (·.1) = false := by rfl) :
    PI X (.Tuple elts kk tpos) (.Call (.Name "zip" p) [e, e2, e3] [] pos) (liftI G (iZip3 fr)) := by
  refine PI.imp (pi_z3 hg (by rw [o.mg]; exact hm) ha hs hpl) fun σ H R ⟨ρ, μ, st, items, src, st', E, S, e, k⟩ => ?_
  unfold iZip3 at e
  obtain ⟨⟨ds, s1⟩, e1, e⟩ := Option.bind_eq_some_iff.mp e
  refine ⟨ρ, μ, st, ds, s1, E, S, e1, fun μ1 H1 vs X1 S1 R1 => ?_⟩
  simp only at e
  split at e
  · rename_i x ys z
    obtain ⟨xs, f1, e⟩ := Option.bind_eq_some_iff.mp e
    obtain ⟨zs, f3, e⟩ := Option.bind_eq_some_iff.mp e
    cases e
    cases R1 with
    | cons r1 t => cases t with
      | cons r2 t => cases t with
        | cons r3 t =>
          cases t
          obtain ⟨a1, v1, rfl, _⟩ := list_rep S1 r1 f1
          obtain ⟨a3, v3, rfl, _⟩ := list_rep S1 r3 f3
          cases r2 with
          | @tup a2 v2 _ s2 q2 =>
            have L1 := live S1 r1 f1
            have L3 := live S1 r3 f3
            obtain ⟨us, u1, u2⟩ := L1 μ1 _ H1 Ext.refl.to0 S1 (src_now f1)
            obtain ⟨ws, w1, w2⟩ := L3 μ1 _ H1 Ext.refl.to0 S1 (src_now f3)
            refine ⟨false, true, false, a1, a2, a3, us, v2, ws, rfl, rfl, by rw [o.K]; exact u1, by rw [o.K]; exact s2, by rw [o.K]; exact w1, k μ1 H1 _ X1 S1 ?_⟩
            rw [o.K]
            intro μ' st' H' i x S hin
            obtain ⟨hin1, hin2⟩ := intact_app.mp hin
            obtain ⟨vs1, h1, h2⟩ := L1 μ' st' H' x S hin1
            obtain ⟨vs3, g1, g2⟩ := L3 μ' st' H' x S hin2
            have s2' := x.tup _ _ s2
            have q2' := q2.ext0 x
            have len1 : xs.length = vs1.length := h2.length
            have len2 : ys.length = v2.length := q2'.length
            have len3 : zs.length = vs3.length := g2.length
            rw [zip3_len]
            refine ⟨fun hl => ?_, fun hl => ⟨vs1, v2, vs3, h1, s2', g1, by omega⟩⟩
            have hv : i < vs1.length := by omega
            have ht : i < v2.length := by omega
            have hw : i < vs3.length := by omega
            refine ⟨⟨vs1, v2, vs3, vs1[i], v2[i], vs3[i], h1, s2', g1, by simp [hv], by simp [ht], by simp [hw]⟩, fun y H'' hy => ?_⟩
            obtain ⟨T, x1, x2, x3, rfl, nT, rfl, p1, p2, p3⟩ := hy
            obtain ⟨d1, z1, r1⟩ := h2.get' i (p1 vs1 h1)
            obtain ⟨d2, z2, r2⟩ := q2'.get' i (p2 v2 s2')
            obtain ⟨d3, z3, r3⟩ := g2.get' i (p3 vs3 g1)
            exact ⟨_, zip3_at z1 z2 z3, .tup (SqT.of upd_same) (.cons (r1.ext (Ext.new S nT)) (.cons (r2.ext (Ext.new S nT)) (.cons (r3.ext (Ext.new S nT)) .nil))), S.newT nT, Ext.new S nT⟩
  · cases e
end
end EL

set_option Elab.async false
set_option linter.all false
set_option maxRecDepth 100000
set_option maxHeartbeats 1000000
/-! enumerate of a list or a tuple -/
namespace ZN
open PySem PySem.Spec PyProof.Rows L2
open AutoSeq1 (wpAny_loadPart')
theorem newEnT (l : Addr) (u : Array Value) (n : Nat) (dct : Option Addr) (sl : Array (Option Value)) :
    Meets (Builtin.«enumerate.__new__» ⟨[.type "enumerate", .ref l], []⟩) (fun _ R s => s.heap.get? l = some { cls := .type "tuple", dict := dct, data := .seq u n, slots := sl } ∧
      R (.ok (.ret (.ref (s.heap.push (itO true l)).objs.size)))
        { s with heap := (s.heap.push (itO true l)).push { cls := .type "enumerate", data := .fields #[.none, .bool false, .ref s.heap.objs.size, rawInt 0, .none, .none] } }) :=
  .of_wp fun prog w A R s h => by
    obtain ⟨hp, g, d, tk, os⟩ := s
    obtain ⟨at_, h⟩ := h
    have hsub := sub_enumerate
    have hT : Heap.IsTuple (Shared.heap ⟨hp, g, d, tk, os⟩) l u := ⟨_, at_, rfl, n, rfl⟩
    wp_walk using wpAny_loadPart' at_
    refine wpAny_stack_any fun st => wpAny_pure ?_
    split
    · rename_i c _ _ _ _ _
      cases (c == Value.type "enumerate")
      · wp_walk using wpAny_loadPart' at_, wpAny_pyIter_tuple hT
        exact ⟨_, rfl, h⟩
      · wp_walk using wpAny_loadPart' at_, wpAny_pyIter_tuple hT
        exact ⟨_, rfl, h⟩
    · wp_walk using wpAny_loadPart' at_, wpAny_pyIter_tuple hT
      exact ⟨_, rfl, h⟩
section
variable {prog : Program} {w : World} {A : Around} {E : Value → Shared → Prop} {s : Shared}
theorem callEn {b : Bool} {l : Addr} {u : Array Value} {Q : Value → Shared → Prop} (q : Sq b s.heap l u)
    (h : ∀ h', IsEnum h' (s.heap.objs.size + 1) s.heap.objs.size 0 .none → It b h' s.heap.objs.size l 0 → h'.objs.size = s.heap.objs.size + 2 →
      (∀ b o, s.heap.get? b = some o → h'.get? b = some o) → Q (.ref (s.heap.objs.size + 1)) { s with heap := h' }) :
    wpAny (model prog w) A (call (.type "enumerate") [.ref l]) Q E s := by
  cases b with
  | false => exact call_enumerate_list q h
  | true =>
    obtain ⟨⟨c, dct, dt, sl⟩, hl, hc, n, hd⟩ := q
    replace hc : c = .type "tuple" := hc
    replace hd : dt = .seq u n := hd
    subst hc hd
    refine callType_new F.called_enumerate (by decide) (F.typeCall_enumerate_1 _) (F.newCall_enumerate_1 _) (fun obj => F.args_object_init_2 obj _) F.entry_enumerate_new (newEnT l u n dct sl) ⟨hl, ?_⟩
    have hz : (s.heap.push (itO true l)).objs.size = s.heap.objs.size + 1 := Heap.size_push ..
    show _ ∧ _
    rw [hz]
    have he : IsEnum ((s.heap.push (itO true l)).push { cls := .type "enumerate", data := .fields #[.none, .bool false, .ref s.heap.objs.size, rawInt 0, .none, .none] }) (s.heap.objs.size + 1) s.heap.objs.size 0 .none := by
      have := Heap.get?_push_size (s.heap.push (itO true l)) (o := { cls := .type "enumerate", data := .fields #[.none, .bool false, .ref s.heap.objs.size, rawInt 0, .none, .none] }) rfl
      rw [hz] at this; exact this
    exact ⟨⟨_, he, rfl⟩, h _ he ⟨_, Heap.get?_push_of_some _ (Heap.get?_push_size _ rfl), rfl, rfl⟩ (by rw [Heap.size_push, hz]) fun b o x => Heap.get?_push_of_some _ (Heap.get?_push_of_some _ x)⟩
theorem draws {b : Bool} (hh : A.handled = none) (it l : Addr) (hne : l ≠ it) (u : Array Value) : Draws prog w A it [it, l] u.size (fun i v => u[i]? = some v) (fun i h => It b h it l i ∧ Sq b h l u) where
  live := fun _ _ st => let ⟨o, ho, _⟩ := st.1.obj; ⟨o, ho⟩
  frame := fun _ _ _ st hk => ⟨st.1.at fun o e => hk it (by simp) o e, st.2.at fun o e => hk l (by simp) o e⟩
  item := fun i s Q E hi st hQ => by
    refine it_item st.1 st.2 (x := u[i]) (by simp [hi]) fun h' t' hs' => ?_
    exact hQ _ h' s.toks (by simp [hi]) ⟨t', st.2.at fun o e => hs'.extBut _ _ hne e⟩ hs'
  done := fun s Q E st hE => it_end hh st.1 st.2 (by simp) hE
end
def Ite (K : PySem.W.Frag) (b : Bool) (a : Addr) : L2.It :=
  ⟨fun i H => ∃ (xs : List V) (x : V), SqK b K H a xs ∧ xs[i]? = some x,
    fun i H v H' => ∃ (T : Addr) (x : V), v = .ref T ∧ H T = none ∧ H' = upd H T (.tup [.int (i : Nat), x]) ∧ ∀ xs, SqK b K H a xs → xs[i]? = some x,
    fun i H => ∃ xs : List V, SqK b K H a xs ∧ xs.length = i⟩
theorem turnEn {P : Program} {w : World} {K : PySem.W.Frag} {elts : List Expr} {kk : Nat} {tpos : Pos} (b : Bool) (a e it : Addr) (hae : a ≠ e) (hai : a ≠ it) :
    Turn P w K (.Tuple elts kk tpos) (Ite K b a) [e, it] e (fun i h => (∃ old, IsEnum h e it ((i : Nat) : Int) old) ∧ It b h it a i ∧ e ≠ it) where
  mem := by simp
  obj := fun i h st c hc => by
    obtain ⟨⟨old, he⟩, t, _⟩ := st
    have e' : c = e ∨ c = it := by simpa using hc
    rcases e' with z | z
    · rw [z]; exact ⟨_, he, fun v q => nomatch q⟩
    · rw [z]; exact t.obj
  keep := fun i h h' st k => let ⟨⟨old, he⟩, t, hne⟩ := st; ⟨⟨old, k e (by simp) _ he⟩, t.at fun o q => k it (by simp) o q, hne⟩
  item := by
    intro X hP hw hK hc i pins s σ H E I hf st hg
    subst hP hw hK
    obtain ⟨⟨old, he⟩, t, hne⟩ := st
    obtain ⟨xs, x, hq, hx⟩ := hg
    obtain ⟨its, rv, p⟩ := sqk_ok I hq
    obtain ⟨u, hu, ru⟩ := rv.get hx
    have hel : e < s.heap.objs.size := Heap.lt_size he
    have hil : it < s.heap.objs.size := by obtain ⟨_, q, _⟩ := t.obj; exact Heap.lt_size q
    have hlt : i < its.toArray.size := by
      have := (List.getElem?_eq_some_iff.mp hu).1
      simpa using this
    refine wpAny_pyNext_enum_itemD (draws (A := X.A.in1) (b := b) (show X.A.in1.handled = none from I.ok.hd hc) it a hai its.toArray) he ⟨t, p⟩ hlt hne (by simp; exact ⟨hne, Ne.symm hae⟩) fun x' h' tk hp' ho st' hT hsz hk => ?_
    obtain rfl : x' = u := by
      have : its.toArray[i]? = some u := by simpa using hu
      rw [this] at hp'; exact (Option.some.inj hp').symm
    refine ⟨_, rfl, wpAny_letOwnedTupleGo_enum (s := { s with heap := h', toks := tk + 1 }) ho fun h'' he' sb => ?_⟩
    have hT2 : h''.get? s.heap.objs.size = some { cls := .type "tuple", data := .seq #[.int i tk, x'] } := (sb.2 _ (Nat.ne_of_gt hel)).trans hT
    have new : ObjOk X.prog X.w (upd H s.heap.objs.size (.tup [.int (i : Nat), x])) h'' s.heap.objs.size (.tup [.int (i : Nat), x]) :=
      ⟨by show 2 ≤ sizeLine; decide, [.int i tk, x'], .cons ⟨_, rfl⟩ (.cons ru .nil), ⟨_, hT2, rfl, _, rfl⟩⟩
    have I1 : Inv X pins σ (upd H s.heap.objs.size (.tup [.int (i : Nat), x])) { s with heap := h'', toks := tk + 1 } :=
      I.turnedNew (ch := [e, it]) (fun c ob hb q => (sb.2 c (fun z => hb (by simp [z]))).trans (hk c ob (fun z => hb (by simp [z])) (fun z => hb (by simp [z])) q)) hf (Nat.le_refl _) new
    refine ⟨.ref s.heap.objs.size, _, I1, rfl, ⟨_, x, rfl, I.hok.fresh (Nat.le_refl _), rfl, fun ys hy => by rw [sqk_inj I hy hq]; exact hx⟩, ⟨⟨x', ?_⟩, st'.1.at fun o q => (sb.2 it (Ne.symm hne)).trans q, hne⟩, fun c hb => ?_⟩
    · have e1 : ((i + 1 : Nat) : Int) = (i : Int) + 1 := by omega
      rw [e1]; exact he'
    · have hb' : c < s.heap.objs.size := by
        have e' : c = e ∨ c = it := by simpa using hb
        rcases e' with z | z
        · rw [z]; exact hel
        · rw [z]; exact hil
      rw [upd_ne (Nat.ne_of_lt hb')]
      exact (hf c hb).1
  done := by
    intro X hP hw hK hc i pins s σ H E I hf st hg
    subst hP hw hK
    obtain ⟨⟨old, he⟩, t, hne⟩ := st
    obtain ⟨xs, hq, hx⟩ := hg
    obtain ⟨its, rv, p⟩ := sqk_ok I hq
    obtain ⟨f0, f1, f2, f3, f4, f5⟩ := hf it (by simp)
    have hl := rv.length
    have hn : its.toArray.size = i := by simp; omega
    subst hn
    exact wpAny_pyNext_enum_endD (draws (A := X.A.in1) (b := b) (show X.A.in1.handled = none from I.ok.hd hc) it a hai its.toArray) he ⟨t, p⟩ fun h' eb => ⟨rfl, I.turned (t' := s.toks) (fun c o hb q => eb c o hb q) f0 f1 f3 f4 f5⟩
  self := fun A i s Q E st h => let ⟨⟨_, he⟩, _⟩ := st; wpAny_pyIter_enum he h
def iEn (K : PySem.W.Frag) (ta : TA) : TI := fun σ H R => ta σ H fun vs H1 => ∃ (b : Bool) (a : Addr) (xs : List V), vs = [.ref a] ∧ SqK b K H1 a xs ∧ R (Ite K b a) H1
theorem pi_en {X : Cx} {e : Expr} {ta : TA} {p pos tpos : Pos} {elts : List Expr} {kk : Nat} (hg : Gl X "enumerate") (hm : X.mg "enumerate" = none) (ha : PA X [e] ta) (hs : starEach [e] X.env = [(false, eval e X.env)] := by rfl) :
    PI X (.Tuple elts kk tpos) (.Call (.Name "enumerate" p) [e] [] pos) (iEn X.K ta) := by
  refine ⟨fun pins s σ H R I h => ?_⟩
  refine Call_ (ld_blt I hg hm boot_enumerate (PyProof.Rows.callWith_type1 (thn (ha.run pos pins s σ H _ I h) fun us s1 ⟨vs, H1, I1, r1, q1⟩ => ?_) hs rfl))
  obtain ⟨b, a, xs, ex, hq, q⟩ := q1
  subst ex
  cases r1 with
  | cons r rr =>
    cases rr
    cases r
    obtain ⟨its, rv, p'⟩ := sqk_ok I1 hq
    have lt := p'.lt
    refine callEn p' fun h' he t hsz hk => wpAny_pyIter_enum he ?_
    have I2 : Inv X pins σ H1 { s1 with heap := h' } := I1.kept (t' := s1.toks) hk
    refine ⟨s1.heap.objs.size + 1, [s1.heap.objs.size + 1, s1.heap.objs.size], _, _, H1, rfl, I2, turnEn b a (s1.heap.objs.size + 1) s1.heap.objs.size (Nat.ne_of_lt (Nat.lt_succ_of_lt lt)) (Nat.ne_of_lt lt), ⟨⟨.none, he⟩, t, Nat.succ_ne_self _⟩, fun c hb => ?_, q⟩
    have e' : c = s1.heap.objs.size + 1 ∨ c = s1.heap.objs.size := by simpa using hb
    have hle : s1.heap.objs.size ≤ c := by
      rcases e' with z | z
      · exact Nat.le_trans (Nat.le_succ _) (Nat.le_of_eq z.symm)
      · exact Nat.le_of_eq z.symm
    exact I1.fpOk hle (I1.hok.fresh hle)
end ZN
namespace EL
open PySem PySem.Spec PyProof.Rows L2 GxR LG ZN
section
variable {G : G0} {X : Cx} {pos : Pos} {fr : FA}
def enumD (ds : List D) : List D := ds.mapIdx fun i d => .tup [.int (i : Nat), d]
def iEnum (fr : FA) : FI := fun ρ st => (fr ρ st).bind fun p => match p.1 with
  | [x] => (sqOf x p.2).bind fun a => some (enumD a.2, srcOf x a.2, p.2)
  | _ => none
theorem di_enum {e : Expr} {p tpos : Pos} {elts : List Expr} {kk : Nat} (o : On G X) (hg : Gl X "enumerate") (hm : G.mg "enumerate" = none) (ha : PA X [e] (liftA G fr)) (hs : starEach [e] X.env = [(false, eval e X.env)] := by rfl) :
    PI X (.Tuple elts kk tpos) (.Call (.Name "enumerate" p) [e] [] pos) (liftI G (iEnum fr)) := by
  refine PI.imp (pi_en hg (by rw [o.mg]; exact hm) ha hs) fun σ H R ⟨ρ, μ, st, items, src, st', E, S, e, k⟩ => ?_
  unfold iEnum at e
  obtain ⟨⟨ds, s1⟩, e1, e⟩ := Option.bind_eq_some_iff.mp e
  refine ⟨ρ, μ, st, ds, s1, E, S, e1, fun μ1 H1 vs X1 S1 R1 => ?_⟩
  simp only at e
  split at e
  · obtain ⟨⟨b, xs⟩, f1, e⟩ := Option.bind_eq_some_iff.mp e
    cases e
    cases R1 with
    | cons r1 t =>
      cases t
      obtain ⟨a1, rfl, L1⟩ := sq_live S1 r1 f1
      obtain ⟨us, u1, u2⟩ := L1 μ1 _ H1 Ext.refl.to0 S1 (src_sq f1)
      refine ⟨b, a1, us, rfl, by rw [o.K]; exact u1, k μ1 H1 _ X1 S1 ?_⟩
      rw [o.K]
      intro μ' st' H' i x S hin
      obtain ⟨vs1, h1, h2⟩ := L1 μ' st' H' x S hin
      have len1 : xs.length = vs1.length := h2.length
      have len : (enumD xs).length = xs.length := by simp [enumD]
      simp only [len]
      refine ⟨fun hl => ?_, fun hl => ⟨vs1, h1, by omega⟩⟩
      have hv : i < vs1.length := by omega
      refine ⟨⟨vs1, vs1[i], h1, by simp [hv]⟩, fun y H'' hy => ?_⟩
      obtain ⟨T, x1, rfl, nT, rfl, q1⟩ := hy
      obtain ⟨d1, z1, r1⟩ := h2.get' i (q1 vs1 h1)
      refine ⟨.tup [.int (i : Nat), d1], ?_, .tup (SqT.of upd_same) (.cons (.int _) (.cons (r1.ext (Ext.new S nT)) .nil)), S.newT nT, Ext.new S nT⟩
      unfold enumD
      rw [List.getElem?_mapIdx, z1]
      rfl
  · cases e
end
end EL

set_option Elab.async false
set_option linter.all false
set_option maxRecDepth 100000
set_option maxHeartbeats 1000000
namespace EL
open PySem PySem.Spec PyProof.Rows L2 GxR LG

/-- a context with its names and its scope -/
structure Here (G : G0) (X : Cx) (Ns : List Str) (scp : Scope) : Prop where
  on : On G X
  N : X.N = Ns
  sc : X.env.scope = scp
  nd : Ns.Nodup
section
variable {G : G0} {W : WX} {X : Cx} {N : List Str} {sc : Scope} {pos : Pos} {a b c e tgt : Expr} {es : List Expr} {fa fb fc : FE} {ta tb : FT} {fr : FA}
theorem Here.gl (o : Here G X N sc) {x : Str} (h : sc.names.lookup x = some .globalImplicit) : Gl X x := by
  show X.env.scope.names.lookup x = _
  rw [o.sc]; exact h
theorem Here.ix (o : Here G X N sc) {i : Nat} {x : Str} (h : N[i]? = some x) : X.N[i]? = some x := by rw [o.N]; exact h
theorem Here.ndX (o : Here G X N sc) : X.N.Nodup := by rw [o.N]; exact o.nd
theorem x_var (o : Here G X N sc) (i : Nat) {x : Str} (hN : N[i]? = some x := by rfl) (hv : Vis sc x := by first | exact Or.inl rfl | exact Or.inr (Or.inl rfl) | exact Or.inr (Or.inr rfl)) (hd : (x == ("__debug__" : Str)) = false := by decide)
    (hcd : (x == ("__classdict__" : Str)) = false := by decide) : PE X (.Name x pos) (lift G (fV i)) := de_var i (o.ix hN) (by rw [o.sc]; exact hv) hd hcd
theorem x_gint (o : Here G X N sc) {x : Str} {i : Int} (hm : ∃ t, G.mg x = some (.int i t)) (hg : sc.names.lookup x = some .globalImplicit := by rfl) (hd : (x == ("__debug__" : Str)) = false := by decide) : PE X (.Name x pos) (lift G (fC (.int i))) :=
  let ⟨_, hm⟩ := hm; de_gint (o.gl hg) (by rw [o.on.mg]; exact hm) hd
theorem x_ty (o : Here G X N sc) {T : String} {x : Str} (hm : G.mg x = none) (hv : bootBuiltins x = some (.type T)) (hg : sc.names.lookup x = some .globalImplicit := by rfl) (hn : x ≠ "__name__" := by decide) (hd : (x == ("__debug__" : Str)) = false := by decide) : PE X (.Name x pos) (lift G (fC (.ty T))) :=
  de_ty o.on (o.gl hg) hm hv hn hd
theorem x_add (o : Here G X N sc) (ha : PE X a (lift G fa)) (hb : PE X b (lift G fb)) : PE X (.BinOp a .Add b pos) (lift G (fOp addD fa fb)) := de_op (do_add o.on) ha hb
theorem x_sub (o : Here G X N sc) (ha : PE X a (lift G fa)) (hb : PE X b (lift G fb)) : PE X (.BinOp a .Sub b pos) (lift G (fOp subD fa fb)) := de_op do_sub ha hb
theorem x_mul (o : Here G X N sc) (ha : PE X a (lift G fa)) (hb : PE X b (lift G fb)) : PE X (.BinOp a .Mult b pos) (lift G (fOp mulD fa fb)) := de_op do_mul ha hb
theorem x_fdiv (o : Here G X N sc) (ha : PE X a (lift G fa)) (hb : PE X b (lift G fb)) : PE X (.BinOp a .FloorDiv b pos) (lift G (fOp fdivD fa fb)) := de_op do_fdiv ha hb
theorem x_mod (o : Here G X N sc) (ha : PE X a (lift G fa)) (hb : PE X b (lift G fb)) : PE X (.BinOp a .Mod b pos) (lift G (fOp modD fa fb)) := de_op do_mod ha hb
theorem x_pow (o : Here G X N sc) (ha : PE X a (lift G fa)) (hb : PE X b (lift G fb)) : PE X (.BinOp a .Pow b pos) (lift G (fOp powD fa fb)) := de_op do_pow ha hb
theorem x_ix (o : Here G X N sc) (ha : PE X a (lift G fa)) (hb : PE X b (lift G fb)) (hs : PlainIx b := by exact fun _ _ => rfl) : PE X (.Subscript a b pos) (lift G (fOp ixD fa fb)) := de_ix (do_ix o.on) ha hb hs
theorem x_slice (o : Here G X N sc) {lo hi : Option Expr} {p2 : Pos} {fl fu : FO} (he : PE X e (lift G fa)) (hl : PO X lo (liftO G fl)) (hu : PO X hi (liftO G fu)) : PE X (.Subscript e (.Slice lo hi none p2) pos) (lift G (fSl fa fl fu)) := de_slice o.on he hl hu
/-- built-in functions by their names -/
theorem x_bi (o : Here G X N sc) {id : String} {x : Str} {p : Pos} {h : HA} (hc : CallR X (.builtin id) (rDA G h)) (hm : G.mg x = none) (hv : bootBuiltins x = some (.builtin id)) (ha : PA X (e :: es) (liftA G fr)) (hg : sc.names.lookup x = some .globalImplicit := by rfl)
    (hn : x ≠ "__name__" := by decide) (hdb : (x == ("__debug__" : Str)) = false := by decide)
    (he : starEach (e :: es) X.env = (false, eval e X.env) :: starEach es X.env := by rfl) (hpl : (backTo pos (starEach es X.env)).any (·.1) = false := by rfl) : PE X (.Call (.Name x p) (e :: es) [] pos) (lift G (fCall h fr)) := de_callB o.on hc (o.gl hg) hm hv ha hn hdb he hpl
theorem x_bt (o : Here G X N sc) {T : String} {x : Str} {p : Pos} {h : HA} (hc : CallR X (.type T) (rDA G h)) (hm : G.mg x = none) (hv : bootBuiltins x = some (.type T)) (ha : PA X (e :: es) (liftA G fr)) (hg : sc.names.lookup x = some .globalImplicit := by rfl)
    (hn : x ≠ "__name__" := by decide) (hdb : (x == ("__debug__" : Str)) = false := by decide)
    (he : starEach (e :: es) X.env = (false, eval e X.env) :: starEach es X.env := by rfl) (hpl : (backTo pos (starEach es X.env)).any (·.1) = false := by rfl) : PE X (.Call (.Name x p) (e :: es) [] pos) (lift G (fCall h fr)) := de_callTy o.on hc (o.gl hg) hm hv ha hn hdb he hpl
theorem x_call (o : Here G X N sc) {k n : Nat} {x : Str} {fn : HA} {p : Pos} (F : Def G k x n fn) (hr : Room k X.A) (ha : PA X (e :: es) (liftA G fr)) (hg : sc.names.lookup x = some .globalImplicit := by rfl) (hdb : (x == ("__debug__" : Str)) = false := by decide)
    (he : starEach (e :: es) X.env = (false, eval e X.env) :: starEach es X.env := by rfl) (hpl : (backTo pos (starEach es X.env)).any (·.1) = false := by rfl) : PE X (.Call (.Name x p) (e :: es) [] pos) (lift G (fFn n fn fr)) := de_call o.on F hr (o.gl hg) ha hdb he hpl
theorem x_isiT (o : Here G X N sc) {Ts : List String} {cs : List Expr} {j : Nat} {p q : Pos} (hm : G.mg "isinstance" = none) (ha : PE X a (lift G fa)) (hc : PA X cs (tTys Ts)) (hg : sc.names.lookup ("isinstance" : Str) = some NameKind.globalImplicit := by rfl) (hz : Ts.length ≤ 100 := by decide)
    (he : starEach [a, .Tuple cs j q] X.env = (false, eval a X.env) :: starEach [.Tuple cs j q] X.env := by rfl) (he2 : starEach [.Tuple cs j q] X.env = (false, eval (.Tuple cs j q) X.env) :: starEach [] X.env := by rfl) (hpl : (backTo pos (starEach [.Tuple cs j q] X.env)).any (·.1) = false := by rfl) :
    PE X (.Call (.Name "isinstance" p) [a, .Tuple cs j q] [] pos) (lift G (fIsiT Ts fa)) := de_isiT o.on (o.gl hg) hm ha hc hz he he2 hpl
theorem x_tys (o : Here G X N sc) {T : String} {Ts : List String} {x : Str} (hm : G.mg x = none) (hv : bootBuiltins x = some (.type T)) (ht : PA X es (tTys Ts)) (hg : sc.names.lookup x = some .globalImplicit := by rfl) (hs : starEach (.Name x pos :: es) X.env = (false, eval (.Name x pos) X.env) :: starEach es X.env := by rfl)
    (hn : x ≠ "__name__" := by decide) (hd : (x == ("__debug__" : Str)) = false := by decide) : PA X (.Name x pos :: es) (tTys (T :: Ts)) := dy_cons o.on (o.gl hg) hm hv ht hs hn hd
/-! statements -/
theorem x_set (o : Here G X N sc) (i : Nat) {x : Str} {pos' : Pos} (he : PE X e (lift G fa)) (hi : N[i]? = some x := by rfl) (hx : Loc sc x := by first | exact Or.inl rfl | exact Or.inr rfl) (hs : swapsWith e (some (.Name x pos')) pos.line X.env = pure false := by rfl)
    (hf : X.fn x = true ∨ X.env.scope.names.lookup x = some .local := by first | exact .inl rfl | exact .inr rfl | assumption) : PS X (.Assign [.Name x pos'] e pos) (liftS G W (sSet i fa)) := ds_set o.ndX (o.ix hi) (by rw [o.sc]; exact hx) he hs hf
theorem x_tg1 (o : Here G X N sc) (i : Nat) {x : Str} (hi : N[i]? = some x := by rfl) (hx : Loc sc x := by first | exact Or.inl rfl | exact Or.inr rfl) (hf : X.fn x = true ∨ sc.names.lookup x = some .local := by first | exact .inr rfl | exact .inl rfl) : PG X (.Name x pos) (gOf G.K (.one i)) :=
  dg_name o.ndX (o.ix hi) (by rw [o.sc]; exact hx) (by rw [o.sc]; exact hf)
theorem x_tgs (o : Here G X N sc) (i : Nat) {is : List Nat} {x : Str} (h2 : PGs X es (gMany is)) (hi : N[i]? = some x := by rfl) (hx : Loc sc x := by first | exact Or.inl rfl | exact Or.inr rfl) (hf : X.fn x = true ∨ sc.names.lookup x = some .local := by first | exact .inr rfl | exact .inl rfl)
    (ha : (assignEach (.Name x pos :: es) X.env).map (·.2) = assign (.Name x pos) X.env :: (assignEach es X.env).map (·.2) := by rfl) : PGs X (.Name x pos :: es) (gMany (i :: is)) := dgs_cons o.ndX (o.ix hi) (by rw [o.sc]; exact hx) h2 (by rw [o.sc]; exact hf) ha
theorem x_tgm (o : Here G X N sc) {k : Nat} {is : List Nat} (h : PGs X es (gMany is)) (hn : (assignEach es X.env).length = is.length := by rfl) (hst : (assignEach es X.env).findIdx? (·.1) = none := by rfl) : PG X (.Tuple es k pos) (gOf G.K (.many is)) := dg_tup o.on h hn hst
theorem x_par2 (o : Here G X N sc) (i j : Nat) {x y : Str} {px py pt : Pos} {kt k2 : Nat} {pt2 : Pos} (ha : PA X [a, b] (liftA G fr)) (hi : N[i]? = some x := by rfl) (hj : N[j]? = some y := by rfl) (hij : i ≠ j := by decide)
    (hx : sc.names.lookup x = some .local := by rfl) (hy : sc.names.lookup y = some .local := by rfl)
    (hw : swappedStores [.Tuple [.Name x px, .Name y py] kt pt] (.Tuple [a, b] k2 pt2) X.env = pure (some [x, y]) := by rfl)
    (hs : swapsWithSole [.Tuple [.Name x px, .Name y py] kt pt] (.Tuple [a, b] k2 pt2) pos.line X.env = pure false := by rfl) :
    PS X (.Assign [.Tuple [.Name x px, .Name y py] kt pt] (.Tuple [a, b] k2 pt2) pos) (liftS G W (sPar [i, j] fr)) := ds_par2 o.on o.ndX (o.ix hi) (o.ix hj) hij (by rw [o.sc]; exact hx) (by rw [o.sc]; exact hy) ha hw hs
theorem x_par3 (o : Here G X N sc) (i j l : Nat) {x y z : Str} {px py pz pt : Pos} {kt k2 : Nat} {pt2 : Pos} (ha : PA X [a, b, c] (liftA G fr)) (hi : N[i]? = some x := by rfl) (hj : N[j]? = some y := by rfl) (hl : N[l]? = some z := by rfl) (hij : i ≠ j := by decide) (hil : i ≠ l := by decide) (hjl : j ≠ l := by decide)
    (hx : sc.names.lookup x = some .local := by rfl) (hy : sc.names.lookup y = some .local := by rfl) (hz : sc.names.lookup z = some .local := by rfl)
    (hw : swappedStores [.Tuple [.Name x px, .Name y py, .Name z pz] kt pt] (.Tuple [a, b, c] k2 pt2) X.env = pure (some [x, y, z]) := by rfl)
    (hs : swapsWithSole [.Tuple [.Name x px, .Name y py, .Name z pz] kt pt] (.Tuple [a, b, c] k2 pt2) pos.line X.env = pure false := by rfl) :
    PS X (.Assign [.Tuple [.Name x px, .Name y py, .Name z pz] kt pt] (.Tuple [a, b, c] k2 pt2) pos) (liftS G W (sPar [i, j, l] fr)) := ds_par3 o.on o.ndX (o.ix hi) (o.ix hj) (o.ix hl) hij hil hjl (by rw [o.sc]; exact hx) (by rw [o.sc]; exact hy) (by rw [o.sc]; exact hz) ha hw hs
variable {fi : FI} {iter : Expr} {tg : Tg} {body : List Stmt} {sb : FS}
theorem x_for (o : Here G X N sc) (hi : PI X tgt iter (liftI G fi)) (hg : PG X tgt (gOf G.K tg)) (hb : PSs X body (liftS G W sb)) (hp : PassesOwn (model X.prog X.w) X.A X.env X.xe := by exact PassesOwn.never)
    (hs : ∀ x, foldedSetIterable iter X.env x = pure x := by intro _; rfl) : PS X (.For tgt iter body [] pos) (liftS G W (sFor fi tg sb)) := ds_for hp o.on hi hg hb hs
theorem x_in (o : Here G X N sc) (h : PE X e (lift G fa)) : PI X tgt e (liftI G (iSeq fa)) := di_seq o.on h
theorem x_rng1 (o : Here G X N sc) {p : Pos} (hm : G.mg "range" = none) (ha : PA X [a] (liftA G fr)) (hg : sc.names.lookup ("range" : Str) = some NameKind.globalImplicit := by rfl) (hs : starEach [a] X.env = [(false, eval a X.env)] := by rfl) : PI X tgt (.Call (.Name "range" p) [a] [] pos) (liftI G (iRange1 fr)) := di_range1 (o.gl hg) (by rw [o.on.mg]; exact hm) ha hs
theorem x_rng2 (o : Here G X N sc) {p : Pos} (hm : G.mg "range" = none) (ha : PA X [a, b] (liftA G fr)) (hg : sc.names.lookup ("range" : Str) = some NameKind.globalImplicit := by rfl) (hs : starEach [a, b] X.env = [(false, eval a X.env), (false, eval b X.env)] := by rfl) (hs2 : starEach [b] X.env = [(false, eval b X.env)] := by rfl) :
    PI X tgt (.Call (.Name "range" p) [a, b] [] pos) (liftI G (iRange2 fr)) := di_range2 (o.gl hg) (by rw [o.on.mg]; exact hm) ha hs hs2
theorem x_zip2 (o : Here G X N sc) {e2 : Expr} {p tpos : Pos} {elts : List Expr} {kk : Nat} (hm : G.mg "zip" = none) (ha : PA X [e, e2] (liftA G fr)) (hg : sc.names.lookup ("zip" : Str) = some NameKind.globalImplicit := by rfl)
    (hs : starEach [e, e2] X.env = (false, eval e X.env) :: starEach [e2] X.env := by rfl) (hpl : (backTo pos (starEach [e2] X.env)).any (·.1) = false := by rfl) : PI X (.Tuple elts kk tpos) (.Call (.Name "zip" p) [e, e2] [] pos) (liftI G (iZip2 fr)) := di_zip2 o.on (o.gl hg) hm ha hs hpl
theorem x_zip3 (o : Here G X N sc) {e2 e3 : Expr} {p tpos : Pos} {elts : List Expr} {kk : Nat} (hm : G.mg "zip" = none) (ha : PA X [e, e2, e3] (liftA G fr)) (hg : sc.names.lookup ("zip" : Str) = some NameKind.globalImplicit := by rfl)
    (hs : starEach [e, e2, e3] X.env = (false, eval e X.env) :: starEach [e2, e3] X.env := by rfl) (hpl : (backTo pos (starEach [e2, e3] X.env)).any (·.1) = false := by rfl) : PI X (.Tuple elts kk tpos) (.Call (.Name "zip" p) [e, e2, e3] [] pos) (liftI G (iZip3 fr)) := di_zip3 o.on (o.gl hg) hm ha hs hpl
theorem x_enum (o : Here G X N sc) {p tpos : Pos} {elts : List Expr} {kk : Nat} (hm : G.mg "enumerate" = none) (ha : PA X [e] (liftA G fr)) (hg : sc.names.lookup ("enumerate" : Str) = some NameKind.globalImplicit := by rfl)
    (hs : starEach [e] X.env = [(false, eval e X.env)] := by rfl) : PI X (.Tuple elts kk tpos) (.Call (.Name "enumerate" p) [e] [] pos) (liftI G (iEnum fr)) := di_enum o.on (o.gl hg) hm ha hs
/-! comprehensions, all -/
def reS (scope sc : Scope) : Scope := { scope with names := scope.names.map fun (n, k) => if (k == NameKind.free && sc.kind == .function && sc.names.lookup n == some .cell) then (n, NameKind.cell) else (n, k) }
theorem Here.blk (o : Here G X N sc) {s : Shared} {H : Hp} {scope : Scope} {cl : List (Str × Addr)} {C : Addr} {fp : List Addr} : Here G (X.blk s H scope (compEnvC scope cl C X.env) fp) N (reS scope sc) := ⟨o.on.blk, o.N, by rw [← o.sc]; rfl, o.nd⟩
theorem x_lc (o : Here G X N sc) {elt : Expr} {ifs : List Expr} {scope : Scope} (own : List (Str × Nat)) {tt : FT} {fe : FE} (hi : PI X tgt iter (liftI G fi))
    (hg : ∀ X', Here G X' N (reS scope sc) → X'.A = X.A → PG X' tgt (gOf G.K tg)) (ht : ∀ X', Here G X' N (reS scope sc) → X'.A = X.A → PTs X' ifs (liftT G tt)) (he : ∀ X', Here G X' N (reS scope sc) → X'.A = X.A → PE X' elt (lift G fe))
    (ok : BlkOk N sc scope own := by exact blkOk_by (by decide +kernel)) (hin : ∀ i ∈ tg.ins, i ∈ own.map (·.2) := by decide) (hs : ∀ x, foldedSetIterable iter X.env x = pure x := by intro _; rfl) :
    PE X (.ListComp elt [⟨tgt, iter, ifs, 0⟩] scope pos) (lift G (fLc fi tg tt fe (own.map (·.2)))) :=
  de_lc o.on o.ndX hi (by rw [o.N, o.sc]; exact ok) (fun _ _ _ _ _ => hg _ o.blk rfl) (fun _ _ _ _ _ => ht _ o.blk rfl) (fun _ _ _ _ _ => he _ o.blk rfl) hin hs
theorem x_setLc (o : Here G X N sc) (i : Nat) {y : Str} {py spos : Pos} {elt : Expr} {ifs : List Expr} {scope : Scope} (own : List (Str × Nat)) {tt : FT} {fe : FE} (hi : PI X tgt iter (liftI G fi))
    (hg : ∀ X', Here G X' N (reS scope sc) → X'.A = X.A → PG X' tgt (gOf G.K tg)) (ht : ∀ X', Here G X' N (reS scope sc) → X'.A = X.A → PTs X' ifs (liftT G tt)) (he : ∀ X', Here G X' N (reS scope sc) → X'.A = X.A → PE X' elt (lift G fe))
    (hsw : swapsWith (.ListComp elt [⟨tgt, iter, ifs, 0⟩] scope pos) (some (.Name y py)) spos.line X.env = pure true := by exact sw_true rfl rfl rfl (by decide +kernel))
    (hy : N[i]? = some y := by rfl) (hyl : sc.names.lookup y = some .local := by rfl)
    (ok : BlkOk N sc scope own := by exact blkOk_by (by decide +kernel)) (hin : ∀ i ∈ tg.ins, i ∈ own.map (·.2) := by decide) (hs : ∀ x, foldedSetIterable iter X.env x = pure x := by intro _; rfl) :
    PS X (.Assign [.Name y py] (.ListComp elt [⟨tgt, iter, ifs, 0⟩] scope pos) spos) (liftS G W (sSet i (fLc fi tg tt fe (own.map (·.2))))) :=
  ds_setLc o.on o.ndX (o.ix hy) (by rw [o.sc]; exact hyl) hsw hi (by rw [o.N, o.sc]; exact ok) (fun _ _ _ _ _ => hg _ o.blk rfl) (fun _ _ _ _ _ => ht _ o.blk rfl) (fun _ _ _ _ _ => he _ o.blk rfl) hin hs
theorem x_lcZ (o : Here G X N sc) {elt : Expr} {ifs : List Expr} {scope : Scope} (own : List (Str × Nat)) {tt : FT} {fe : FE} (hi : PI X tgt iter (liftI G fi))
    (hg : ∀ X', Here G X' N (reS scope sc) → X'.A = X.A → PG X' tgt (gOf G.K tg)) (ht : ∀ X', Here G X' N (reS scope sc) → X'.A = X.A → PTs X' ifs (liftT G tt)) (he : ∀ X', Here G X' N (reS scope sc) → X'.A = X.A → PE X' elt (lift G fe))
    (ok : BlkOk N sc scope own := by exact blkOk_by (by decide +kernel)) (hin : ∀ i ∈ tg.ins, i ∈ own.map (·.2) := by decide) (hs : ∀ x, foldedSetIterable iter X.env x = pure x := by intro _; rfl) :
    PE X (.ListComp elt [⟨tgt, iter, ifs, 0⟩] scope pos) (lift G (fLcZ fi tg tt fe (own.map (·.2)))) :=
  de_lcZ o.on o.ndX hi (by rw [o.N, o.sc]; exact ok) (fun _ _ _ _ _ => hg _ o.blk rfl) (fun _ _ _ _ _ => ht _ o.blk rfl) (fun _ _ _ _ _ => he _ o.blk rfl) hin hs
theorem x_setLcZ (o : Here G X N sc) (i : Nat) {y : Str} {py spos : Pos} {elt : Expr} {ifs : List Expr} {scope : Scope} (own : List (Str × Nat)) {tt : FT} {fe : FE} (hi : PI X tgt iter (liftI G fi))
    (hg : ∀ X', Here G X' N (reS scope sc) → X'.A = X.A → PG X' tgt (gOf G.K tg)) (ht : ∀ X', Here G X' N (reS scope sc) → X'.A = X.A → PTs X' ifs (liftT G tt)) (he : ∀ X', Here G X' N (reS scope sc) → X'.A = X.A → PE X' elt (lift G fe))
    (hsw : swapsWith (.ListComp elt [⟨tgt, iter, ifs, 0⟩] scope pos) (some (.Name y py)) spos.line X.env = pure true := by exact sw_true rfl rfl rfl (by decide +kernel))
    (hy : N[i]? = some y := by rfl) (hyl : sc.names.lookup y = some .local := by rfl)
    (ok : BlkOk N sc scope own := by exact blkOk_by (by decide +kernel)) (hin : ∀ i ∈ tg.ins, i ∈ own.map (·.2) := by decide) (hs : ∀ x, foldedSetIterable iter X.env x = pure x := by intro _; rfl) :
    PS X (.Assign [.Name y py] (.ListComp elt [⟨tgt, iter, ifs, 0⟩] scope pos) spos) (liftS G W (sSet i (fLcZ fi tg tt fe (own.map (·.2))))) :=
  ds_setLcZ o.on o.ndX (o.ix hy) (by rw [o.sc]; exact hyl) hsw hi (by rw [o.N, o.sc]; exact ok) (fun _ _ _ _ _ => hg _ o.blk rfl) (fun _ _ _ _ _ => ht _ o.blk rfl) (fun _ _ _ _ _ => he _ o.blk rfl) hin hs
/-- the scope of a generator expression, by its names alone -/
def gscB (sc scope : Scope) : Bool := (scope.kind == .function) && !scope.isCoroutine && scope.names.all (fun y => y.2 != .cell) && (scope.names.lookup (".0" : Str) == some NameKind.local) && scope.names.all fun y => y.2 != .free || (sc.names.lookup y.1 == some .cell) || (sc.names.lookup y.1 == some .free)
theorem x_all (o : Here G X N sc) {cc P : Addr} {elt : Expr} {p gpos : Pos} {scope : Scope} {fe : FE} {k : Nat} (N' : List Str) (cap : List (Option Nat)) (hP : P ∈ G.Ps)
    (hr : Room (k + 1) X.A) (hm : G.mg "all" = none) (TB : TabB G.base G.mg cc P) (hcode : X.env.code = .ref cc) (hi : PI X tgt iter (liftI G fi))
    (hgt : ∀ X', Here G X' N' scope → Room k X'.A → PG X' tgt (gOf G.K tg)) (hel : ∀ X', Here G X' N' scope → Room k X'.A → PE X' elt (lift G fe))
    (S : GSc X.env scope) (hnd : N'.Nodup := by decide) (hcl : cap.length = N'.length := by rfl)
    (hcap : ∀ (i : Nat) (x : Str) (j : Nat), N'[i]? = some x → cap[i]? = some (some j) → scope.names.lookup x = some .free ∧ N[j]? = some x ∧ (sc.names.lookup x = some .cell ∨ sc.names.lookup x = some .free))
    (hg : sc.names.lookup ("all" : Str) = some NameKind.globalImplicit := by rfl)
    (hs : ∀ v, genFold iter X.env v = pure v := by intro _; rfl)
    (he : starEach [.GeneratorExp elt [⟨tgt, iter, [], 0⟩] scope gpos] X.env = (false, eval (.GeneratorExp elt [⟨tgt, iter, [], 0⟩] scope gpos) X.env) :: starEach [] X.env := by rfl) :
    PE X (.Call (.Name "all" p) [.GeneratorExp elt [⟨tgt, iter, [], 0⟩] scope gpos] [] pos) (lift G (fAllG fi tg fe cap)) :=
  de_all o.on hP hr (o.gl hg) hm TB hcode S hi hcl (fun i x j h1 h2 => by
    obtain ⟨q1, q2, q3⟩ := hcap i x j h1 h2
    refine ⟨q1, o.ix q2, ?_⟩
    show X.env.scope.names.lookup x = _ ∨ X.env.scope.names.lookup x = _
    rw [o.sc]; exact q3) (fun X' h => hgt X' ⟨o.on.inner h, h.N, h.scope, hnd⟩ h.room) (fun X' h => hel X' ⟨o.on.inner h, h.N, h.scope, hnd⟩ h.room) hs he
end
end EL
namespace EL
open PySem PySem.Spec PyProof.Rows L2 GxR LG
/-- a def of the text as the top has left it -/
structure FnAt (G : G0) (name : Str) (st : Stmt) (cdv : Value) : Prop where
  ex : ∃ (f : Addr) (oc : Value) (od : Option Addr) (kV doc pm : Value) (an : Option Addr) (ct : Value) (osl : Array (Option Value)),
    G.K.lookup f = some ⟨oc, od, .func (PySem.W.fnOf name name (defArgs st) (defBody st) (defScope st) .none kV doc pm an cdv ct), osl⟩ ∧ PySem.W.codeIn G.K cdv name = true ∧ G.mg name = some (.ref f) ∧ PySem.W.keepIn G.K (.ref f) = true
section
variable {G : G0}
theorem def_at {k : Nat} {name : Str} {st : Stmt} {cdv : Value} {N ps : List Str} {sb : FS} (F : FnAt G name st cdv) (S : FnScope N ps (defScope st))
    (hb : ∀ (kV doc pm : Value) (an : Option Addr) (ct : Value) (us : List Value), us.length = ps.length → bindArgs (PySem.W.fnOf name name (defArgs st) (defBody st) (defScope st) .none kV doc pm an cdv ct) ⟨us, []⟩ = pure (ps.zip us))
    (hbody : ∀ (f : Addr) (A : Around) (outer : List Env) (s : Shared) (H : Hp), Here G (bodyCx G N name (defScope st) f cdv A outer s H) N (defScope st) → Room k (bodyCx G N name (defScope st) f cdv A outer s H).A →
      (∀ x : Str, (defScope st).names.lookup x = some .cell → ∃ c, (bodyCx G N name (defScope st) f cdv A outer s H).env.cells.lookup x = some c) → PSs (bodyCx G N name (defScope st) f cdv A outer s H) (defBody st) (liftS G W sb)) : Def G (k + 1) name ps.length (runD N.length sb) := by
  obtain ⟨f, oc, od, kV, doc, pm, an, ct, osl, lk, hcd, hm, hk⟩ := F.ex
  refine def_of (W := W) lk hcd S hm hk (hb kV doc pm an ct) fun A outer s H hr => ?_
  exact hbody f A outer s H ⟨On.body, rfl, rfl, S.nd⟩ hr fun x h => cell_has h
theorem gsc_by {X : Cx} {N : List Str} {sc scope : Scope} (o : Here G X N sc) (hc : ∀ x : Str, sc.names.lookup x = some .cell → ∃ c, X.env.cells.lookup x = some c)
    (h : ((scope.kind == .function) && !scope.isCoroutine && scope.names.all (fun y => y.2 != .cell) && (scope.names.lookup (".0" : Str) == some NameKind.local) && scope.names.all fun y => y.2 != .free || (sc.names.lookup y.1 == some .cell)) = true) : GSc X.env scope := by
  simp only [Bool.and_eq_true, List.all_eq_true] at h
  obtain ⟨⟨⟨⟨h1, h2⟩, h3⟩, h4⟩, h5⟩ := h
  refine ⟨eq_of_beq h1, by simpa using h2, fun y hy => by simpa using h3 y hy, eq_of_beq h4, fun y hy e => ?_⟩
  have q := h5 y hy
  rw [e] at q
  have q2 : (sc.names.lookup y.1 == some NameKind.cell) = true := by simpa using q
  exact hc y.1 (eq_of_beq q2)
end
end EL
namespace EL
open PySem PySem.Spec PyProof.Rows L2 GxR LG
theorem capNone (cap : List (Option Nat)) (h : cap.all (·.isNone) = true) (i j : Nat) : ¬ cap[i]? = some (some j) := fun e => by
  have q := List.all_eq_true.mp h (some j) (List.mem_of_getElem? e)
  cases q
section
variable {G : G0}
theorem def_never {k : Nat} {name : Str} {st : Stmt} {cdv : Value} {N ps : List Str} (F : FnAt G name st cdv) (S : FnScope N ps (defScope st))
    (hb : ∀ (kV doc pm : Value) (an : Option Addr) (ct : Value) (us : List Value), us.length = ps.length → bindArgs (PySem.W.fnOf name name (defArgs st) (defBody st) (defScope st) .none kV doc pm an cdv ct) ⟨us, []⟩ = pure (ps.zip us)) : Def G k name ps.length (fun _ _ => none) := by
  obtain ⟨f, oc, od, kV, doc, pm, an, ct, osl, lk, hcd, hm, hk⟩ := F.ex
  have no : ∀ vs H Q E, ¬ spD G ps.length (fun _ _ => none) vs H Q E := fun vs H Q E h => by
    obtain ⟨μ, st, ds, d, st', _, _, _, e, _⟩ := h
    cases e
  exact ⟨f, _, ps, rfl, ⟨fun vs H Q E h => absurd h (no vs H Q E), fun A outer s H args us vs Q E _ _ _ _ h => absurd h (no vs H Q E)⟩, hm, hk, .all (hb kV doc pm an ct)⟩
/-! a tuple read backwards, the texts of a list in their order -/
section
variable {X : Cx} {N : List Str} {sc : Scope} {pos : Pos} {e : Expr} {fa : FE}
theorem x_rev (o : Here G X N sc) {k : Nat} {p1 p2 p3 : Pos} (he : PE X e (lift G fa)) : PE X (.Subscript e (.Slice none none (some (.UnaryOp .USub (.Constant (.int 1) k p1) p2)) p3) pos) (lift G (fRev fa)) := de_rev o.on he
theorem x_sortset (o : Here G X N sc) {k : Nat} {p1 p2 p3 : Pos} (hr : Room k X.A) (h1 : G.mg "sorted" = none) (h2 : G.mg "set" = none) (he : PE X e (lift G fa)) (hg1 : sc.names.lookup ("sorted" : Str) = some NameKind.globalImplicit := by rfl) (hg2 : sc.names.lookup ("set" : Str) = some NameKind.globalImplicit := by rfl)
    (hs1 : starEach [e] X.env = (false, eval e X.env) :: starEach [] X.env := by rfl) (hs2 : starEach [.Call (.Name "set" p2) [e] [] p3] X.env = (false, eval (.Call (.Name "set" p2) [e] [] p3) X.env) :: starEach [] X.env := by rfl) (hp1 : (backTo p3 (starEach [] X.env)).any (·.1) = false := by rfl) (hp2 : (backTo pos (starEach [] X.env)).any (·.1) = false := by rfl) :
    PE X (.Call (.Name "sorted" p1) [.Call (.Name "set" p2) [e] [] p3] [] pos) (lift G (fSortSet fa)) := de_sortset o.on hr (o.gl hg1) (o.gl hg2) h1 h2 he hs1 hs2 hp1 hp2
end
end
end EL
namespace EL
open PySem PySem.Spec PyProof.Rows L2 GxR LG
theorem fn_at {G : G0} {k : Nat} {f : Addr} {name : Str} {st : Stmt} {kV doc pm cdv ct oc : Value} {an od : Option Addr} {osl : Array (Option Value)} {N ps : List Str} {sb : FS}
    (lk : G.K.lookup f = some ⟨oc, od, .func (PySem.W.fnOf name name (defArgs st) (defBody st) (defScope st) .none kV doc pm an cdv ct), osl⟩) (hcd : PySem.W.codeIn G.K cdv name = true) (S : FnScope N ps (defScope st))
    (hbody : ∀ (f : Addr) (A : Around) (outer : List Env) (s : Shared) (H : Hp), Here G (bodyCx G N name (defScope st) f cdv A outer s H) N (defScope st) → Room k (bodyCx G N name (defScope st) f cdv A outer s H).A →
      (∀ x : Str, (defScope st).names.lookup x = some .cell → ∃ c, (bodyCx G N name (defScope st) f cdv A outer s H).env.cells.lookup x = some c) → PSs (bodyCx G N name (defScope st) f cdv A outer s H) (defBody st) (liftS G W sb)) :
    FnOk G.P G.w G.K G.mg G.base CX0 (k + 1) f (PySem.W.fnOf name name (defArgs st) (defBody st) (defScope st) .none kV doc pm an cdv ct) ps (spD G ps.length (runD N.length sb)) :=
  fn_data lk hcd S fun A outer s H hr => hbody f A outer s H ⟨On.body, rfl, rfl, S.nd⟩ hr fun x h => cell_has h
end EL

set_option Elab.async false
set_option linter.all false
set_option maxRecDepth 100000
set_option maxHeartbeats 1000000
/-! what never comes; is None -/
namespace EL
open PySem PySem.Spec PyProof.Rows L2 GxR LG
section
variable {G : G0} {W : WX} {X : Cx} {pos : Pos} {a b e : Expr} {fa fb : FE}
def sNever : FS := fun _ _ => none
theorem ds_never {s : Stmt} : PS X s (liftS G W sNever) := ⟨fun pins s σ H E I q => by
  obtain ⟨ρ, μ, st, fl, ρ', st', _, _, e, _⟩ := q
  cases e⟩
def noneB : D → Bool
  | .non => true
  | _ => false
def isW (neg : Bool) : D → D → Sto → Option (D × Sto) := fun c d st => match d with
  | .non => some (.bl (if neg = true then !noneB c else noneB c), st)
  | _ => none
theorem rep_none {μ : Mu} {H : Hp} {c : D} {x : V} (R : Rep G μ H c x) : decide (x = .non) = noneB c := by
  cases R <;> simp [noneB]
theorem do_is : OpR X (compareOp .Is) (rD G (isW false)) := OpR.imp op_isN fun x y H Q ⟨μ, st, c, d, z, st', S, Rc, Rd, e, k⟩ => by
  unfold isW at e
  split at e
  · cases e; cases Rd
    refine ⟨rfl, ?_⟩
    rw [rep_none Rc]
    exact k μ H _ .refl S (.bl _)
  · cases e
theorem do_isnot : OpR X (compareOp .IsNot) (rD G (isW true)) := OpR.imp op_notN fun x y H Q ⟨μ, st, c, d, z, st', S, Rc, Rd, e, k⟩ => by
  unfold isW at e
  split at e
  · cases e; cases Rd
    refine ⟨rfl, ?_⟩
    rw [rep_none Rc]
    exact k μ H _ .refl S (.bl _)
  · cases e
end
end EL

set_option Elab.async false
set_option linter.all false
set_option maxRecDepth 100000
set_option maxHeartbeats 1000000
/-! while; sum -/
namespace EL
open PySem PySem.Spec PyProof.Rows L2 GxR LG
section
variable {G : G0} {W : WX} {X : Cx} {pos : Pos} {c : Expr} {body : List Stmt} {ta : FT} {sb : FS}
def whileD (t : FT) (b : FS) : Nat → Rho → Sto → Option (Fl × Rho × Sto)
  | 0, _, _ => none
  | n + 1, ρ, st => (t ρ st).bind fun p => if p.1 = true then (b ρ p.2).bind fun q => match q.1 with
      | .nx => whileD t b n q.2.1 q.2.2
      | .ct => whileD t b n q.2.1 q.2.2
      | .bk => some (.nx, q.2.1, q.2.2)
      | .rt r => some (.rt r, q.2.1, q.2.2)
      | .ex x => some (.ex x, q.2.1, q.2.2)
    else some (.nx, ρ, p.2)
def sWhile (n : Nat) (t : FT) (b : FS) : FS := fun ρ st => whileD t b n ρ st
theorem ds_while {n : Nat} (hp : PassesOwn (model X.prog X.w) X.A X.env X.xe) (hc : PT X c (liftT G ta)) (hb : PSs X body (liftS G W sb)) : PS X (.While c body [] pos) (liftS G W (sWhile n ta sb)) :=
  PS.imp (ps_while hp hc hb) fun D0 σ H ⟨ρ, μ, st, fl, ρ', st', E, S, e, k⟩ => by
    refine ⟨fun m σ2 H2 => ∃ ρ2 μ2 st2, EnvR G μ2 H2 ρ2 σ2 ∧ StR G μ2 st2 H2 ∧ Ext G μ H μ2 H2 ∧ whileD ta sb m ρ2 st2 = some (fl, ρ', st'), ⟨n, ρ, μ, st, E, S, .refl, e⟩, ?_⟩
    rintro m σ2 H2 ⟨ρ2, μ2, st2, E2, S2, X2, e2⟩
    cases m with
    | zero => cases e2
    | succ m =>
      unfold whileD at e2
      obtain ⟨⟨b, s3⟩, e3, e2⟩ := Option.bind_eq_some_iff.mp e2
      refine ⟨ρ2, μ2, st2, b, s3, E2, S2, e3, fun μ3 H3 X3 S3 => ?_⟩
      cases b with
      | false =>
        simp only [Bool.false_eq_true, if_false] at e2 ⊢
        cases e2
        exact k μ3 H3 (X2.trans X3) S3 σ2 (E2.ext X3)
      | true =>
        simp only [if_true] at e2 ⊢
        obtain ⟨⟨f4, ρ4, s4⟩, e4, e2⟩ := Option.bind_eq_some_iff.mp e2
        simp only at e2
        refine ⟨fun σ5 H5 => ∃ m', m' < m + 1 ∧ ∃ ρ5 μ5 st5, EnvR G μ5 H5 ρ5 σ5 ∧ StR G μ5 st5 H5 ∧ Ext G μ H μ5 H5 ∧ whileD ta sb m' ρ5 st5 = some (fl, ρ', st'), fun _ _ h => h, ρ2, μ3, s3, f4, ρ4, s4, E2.ext X3, S3, e4, fun μ4 H4 X4 S4 => ?_⟩
        cases f4 with
        | nx => exact fun σ5 E5 => ⟨m, Nat.lt_succ_self _, ρ4, μ4, s4, E5, S4, (X2.trans X3).trans X4, e2⟩
        | ct => exact fun σ5 E5 => ⟨m, Nat.lt_succ_self _, ρ4, μ4, s4, E5, S4, (X2.trans X3).trans X4, e2⟩
        | bk => cases e2; exact fun σ5 E5 => k μ4 H4 ((X2.trans X3).trans X4) S4 σ5 E5
        | rt d => cases e2; exact fun v R5 => k μ4 H4 ((X2.trans X3).trans X4) S4 v R5
        | ex x => cases e2; exact k μ4 H4 ((X2.trans X3).trans X4) S4
def intsD : List D → Option (List Int)
  | [] => some []
  | .int x :: r => (intsD r).map (x :: ·)
  | _ :: _ => none
theorem intsD_eq : ∀ {ds : List D} {xs : List Int}, intsD ds = some xs → ds = xs.map D.int
  | [], xs, h => by cases h; rfl
  | d :: ds, xs, h => by
    cases d with
    | int x =>
      simp only [intsD] at h
      obtain ⟨ys, h1, rfl⟩ := Option.map_eq_some_iff.mp h
      rw [intsD_eq h1]; rfl
    | _ => cases h
theorem ints_of_reps {μ : Mu} {H : Hp} : ∀ {xs : List Int} {vs : List V}, Reps G μ H (xs.map D.int) vs → vs = xs.map V.int
  | [], _, .nil => rfl
  | x :: xs, _, .cons h t => by cases h; rw [ints_of_reps t]; rfl
def sumD : HA
  | [c], st => (listOf c st).bind fun ds => (intsD ds).map fun ns => (.int ns.sum, st)
  | _, _ => none
theorem dc_sum (o : On G X) : CallR X (.builtin "sum") (rDA G sumD) := CallR.imp (cr_sum o.calm) fun xs H Q ⟨μ, st, ds, z, st', S, R, e, k⟩ => by
  unfold sumD at e
  split at e
  · obtain ⟨ds, e0, e⟩ := Option.bind_eq_some_iff.mp e
    obtain ⟨ns, e1, e2⟩ := Option.map_eq_some_iff.mp e
    cases e2
    cases R with
    | cons r t =>
      cases t
      obtain ⟨a, vs, rfl, h1, h2⟩ := list_rep S r e0
      have h3 := intsD_eq e1
      subst h3
      have h4 := ints_of_reps h2
      subst h4
      exact ⟨_, ns, rfl, by rw [o.K]; exact h1, k μ H _ .refl S (.int _)⟩
  · cases e
end
end EL

set_option Elab.async false
set_option linter.all false
set_option maxRecDepth 100000
set_option maxHeartbeats 1000000
/-! tuple(.. for .. in ..) -/
namespace EL
open PySem PySem.Spec PyProof.Rows L2 GxR LG RZ
section
variable {G : G0} {X : Cx} {pos : Pos} {a b c e tgt : Expr} {fi : FI} {iter : Expr} {tg : Tg}
open Classical in
noncomputable def tupD (tg : Tg) (fe : FE) (src : Src) : List D → Rho → Sto → Option (List D × Sto)
  | [], _, st => if Intact src st then some ([], st) else none
  | d :: ds, ρ, st => if Intact src st then (tgD tg d ρ).bind fun ρ1 => (fe ρ1 st).bind fun y => (tupD tg fe src ds ρ1 y.2).bind fun r => some (y.1 :: r.1, r.2) else none
noncomputable def fTupG (fi : FI) (tg : Tg) (fe : FE) (cap : List (Option Nat)) : FE := fun ρ st => (fi ρ st).bind fun p => (tupD tg fe p.2.1 p.1 (capD cap ρ) p.2.2).bind fun q => if q.1.length + 1 < sizeLine ∧ p.1.length < sizeLine then some (.tup q.1, q.2) else none
theorem de_tupG {cc P : Addr} {elt : Expr} {p gpos : Pos} {scope : Scope} {fe : FE} {k : Nat} {N : List Str} {cap : List (Option Nat)} (o : On G X) (hP : P ∈ G.Ps)
    (hr : Room (k + 5) X.A) (hg0 : Gl X "tuple") (hm : G.mg "tuple" = none) (TB : TabB G.base G.mg cc P) (hcode : X.env.code = .ref cc) (S : GSc X.env scope) (hi : PI X tgt iter (liftI G fi))
    (hcl : cap.length = N.length) (hcap : ∀ (i : Nat) (x : Str) (j : Nat), N[i]? = some x → cap[i]? = some (some j) → scope.names.lookup x = some .free ∧ X.N[j]? = some x ∧ (X.env.kindOf x = some .cell ∨ X.env.kindOf x = some .free))
    (hgt : ∀ X', Inner X scope N k X' → PG X' tgt (gOf G.K tg)) (hel : ∀ X', Inner X scope N k X' → PE X' elt (lift G fe))
    (hs : ∀ v, genFold iter X.env v = pure v := by intro _; rfl)
    (he : starEach [.GeneratorExp elt [⟨tgt, iter, [], 0⟩] scope gpos] X.env = (false, eval (.GeneratorExp elt [⟨tgt, iter, [], 0⟩] scope gpos) X.env) :: starEach [] X.env := by rfl) :
    PE X (.Call (.Name "tuple" p) [.GeneratorExp elt [⟨tgt, iter, [], 0⟩] scope gpos] [] pos) (lift G (fTupG fi tg fe cap)) := by
  refine PE.imp (pe_tupG (pgen_expr (P := P) (N := N) (by have := hr.dp; omega) (by rw [o.base, o.mg]; exact TB) hcode S hi hgt hel hs) hr hg0 (by rw [o.mg]; exact hm) he) fun σ H Q ⟨ρ, μ, st, d, st', E, Sx, e, kk⟩ => ?_
  unfold fTupG at e
  obtain ⟨⟨items, src, s1⟩, e1, e⟩ := Option.bind_eq_some_iff.mp e
  obtain ⟨⟨res, sf⟩, e2, e⟩ := Option.bind_eq_some_iff.mp e
  simp only at e
  split at e
  · rename_i hz
    obtain ⟨rfl, rfl⟩ : D.tup res = d ∧ sf = st' := by
      have q := Option.some.inj e
      exact ⟨congrArg Prod.fst q, congrArg Prod.snd q⟩
    refine ⟨ρ, μ, st, items, src, s1, E, Sx, e1, fun μ1 H1 J X1 S1 F => ⟨S1.tab P hP, capS cap σ, ⟨by simp [capS, hcl], fun i x v h1 h2 => ?_⟩, fun H2 tb => ?_⟩⟩
    · unfold capS at h2
      rw [List.getElem?_map] at h2
      cases hc : cap[i]? with
      | none => rw [hc] at h2; cases h2
      | some oj =>
        rw [hc] at h2
        cases oj with
        | none => simp at h2
        | some j =>
          obtain ⟨q1, q2, q3⟩ := hcap i x j h1 hc
          refine ⟨q1, j, q2, ?_, q3⟩
          simp only [Option.map_some, Option.bind_some, Option.some.injEq] at h2
          cases hj : σ[j]? with
          | none => rw [hj] at h2; cases h2
          | some w => rw [hj] at h2; simp at h2; rw [h2]
    · have hT := S1.tab P hP
      have S2 := S1.tabbed hT tb
      have X2 : Ext G μ1 H1 μ1 H2 := Ext.tabbed S1 hT tb
      have E0 : EnvR G μ1 H2 (capD cap ρ) (capS cap σ) := ⟨by simp [capS, capD], fun i dd h => by
        unfold capD at h
        rw [List.getElem?_map] at h
        cases hc : cap[i]? with
        | none => rw [hc] at h; cases h
        | some oj =>
          rw [hc] at h
          cases oj with
          | none => simp at h
          | some j =>
            simp only [Option.map_some, Option.bind_some, Option.some.injEq] at h
            cases hj : ρ[j]? with
            | none => rw [hj] at h; cases h
            | some w =>
              rw [hj] at h
              simp at h
              subst h
              obtain ⟨v, v1, v2⟩ := E.get j dd hj
              refine ⟨v, ?_, v2.ext (X1.trans X2)⟩
              unfold capS
              rw [List.getElem?_map, hc]
              simp [v1]⟩
      refine ⟨fun i m σ3 H3 out => m = items.length - i ∧ i ≤ items.length ∧ ∃ ρ3 μ3 st3 acc r, EnvR G μ3 H3 ρ3 σ3 ∧ StR G μ3 st3 H3 ∧ Ext G μ1 H1 μ3 H3 ∧ Reps G μ3 H3 acc out ∧ tupD tg fe src (items.drop i) ρ3 st3 = some (r, sf) ∧ acc ++ r = res,
        ⟨items.length, hz.2, by simp, Nat.zero_le _, capD cap ρ, μ1, s1, [], res, E0, S2, X2, .nil, by simpa using e2, rfl⟩, ?_⟩
      rintro i m σ3 H3 out ⟨rfl, hi2, ρ3, μ3, st3, acc, r, E3, S3, X3, RA, e3, er⟩
      by_cases hlt : i < items.length
      · have hd : items.drop i = items[i] :: items.drop (i + 1) := List.drop_eq_getElem_cons hlt
        rw [hd] at e3
        unfold tupD at e3
        split at e3
        · rename_i hin
          obtain ⟨ρ4, e4, e3⟩ := Option.bind_eq_some_iff.mp e3
          obtain ⟨⟨y, s5⟩, e5, e3⟩ := Option.bind_eq_some_iff.mp e3
          obtain ⟨⟨r', sf'⟩, e6, e3⟩ := Option.bind_eq_some_iff.mp e3
          obtain ⟨rfl, rfl⟩ : y :: r' = r ∧ sf' = sf := by
            have q := Option.some.inj e3
            exact ⟨congrArg Prod.fst q, congrArg Prod.snd q⟩
          obtain ⟨go, yl⟩ := (F μ3 st3 H3 i X3.to0 S3 hin).1 hlt
          refine .inr ⟨go, fun x H4 hy => ?_⟩
          obtain ⟨dd, ed, Rd, S4, X4⟩ := yl x H4 hy
          have ed' : dd = items[i] := by
            rw [List.getElem?_eq_getElem hlt] at ed
            exact (Option.some.inj ed).symm
          subst ed'
          refine gOf_ok (vs' := []) Rd (E3.ext X4) e4 fun σ6 E6 _ => ?_
          refine ⟨ρ4, μ3, st3, y, s5, E6, S4, e5, fun μ7 H7 v X7 S7 R7 => ⟨?_, items.length - (i + 1), by omega, rfl, hlt, ρ4, μ7, s5, acc ++ [y], r', E6.ext X7, S7, X3.trans (X4.trans X7), (RA.ext (X4.trans X7)).append (.cons R7 .nil), e6, by rw [List.append_assoc]; exact er⟩⟩
          have q1 := RA.length
          have q2 : (acc ++ y :: r').length + 1 < sizeLine := by rw [er]; exact hz.1
          simp at q2
          omega
        · cases e3
      · have hi3 : i = items.length := by omega
        rw [hi3, List.drop_length] at e3
        unfold tupD at e3
        split at e3
        · rename_i hin
          have stop := (F μ3 _ H3 i X3.to0 S3 hin).2 hi3
          obtain ⟨rfl, rfl⟩ : ([] : List D) = r ∧ st3 = sf := by
            have q := Option.some.inj e3
            exact ⟨congrArg Prod.fst q, congrArg Prod.snd q⟩
          rw [List.append_nil] at er
          subst er
          exact .inl ⟨stop, fun p hp => kk μ3 _ _ (X1.trans (X3.trans (Ext.new S3 hp))) (S3.newT hp) (.tup (SqT.of upd_same) (RA.ext (Ext.new S3 hp)))⟩
        · cases e3
  · cases e
end
end EL

set_option Elab.async false
set_option linter.all false
set_option maxRecDepth 100000
set_option maxHeartbeats 1000000
/-! tuple * n, also for 0 and 1; star displays; is; pop -/
namespace ZN
open PySem PySem.Spec PyProof.Rows L2
open AutoSeq1 (wpAny_loadPart')
theorem mul_one (l : Addr) (u : Array Value) (n : Nat) (dd : Option Addr) (sl : Array (Option Value)) (t : Tok) :
    Meets (Builtin.«tuple.__mul__» ⟨[.ref l, .int 1 t], []⟩) (fun _ R s => s.heap.get? l = some { cls := .type "tuple", dict := dd, data := .seq u n, slots := sl } ∧ R (.ok (.ret (.ref l))) s) :=
  .of_wp fun prog w A R s h => by
    obtain ⟨hp, g, d, tk, os⟩ := s
    obtain ⟨hl, h⟩ := h
    have f1 := AutoSeq1.idx_int
    have c1 : (u.isEmpty || (1 : Int) == 1) = true := by simp
    wp_walk using wpAny_loadPart' hl
    repeat (first
      | (refine wpAny_ite_true (decide_eq_true c1) ?_; wp_walk using wpAny_loadPart' hl)
      | (refine wpAny_ite_false (decide_eq_false (by decide)) ?_; wp_walk using wpAny_loadPart' hl))
    exact ⟨_, rfl, h⟩
theorem mul_zero (l : Addr) (u : Array Value) (n : Nat) (dd : Option Addr) (sl : Array (Option Value)) (t : Tok) (hu : u.isEmpty = false) :
    Meets (Builtin.«tuple.__mul__» ⟨[.ref l, .int 0 t], []⟩) (fun _ R s => s.heap.get? l = some { cls := .type "tuple", dict := dd, data := .seq u n, slots := sl } ∧
      R (.ok (.ret (.ref s.heap.objs.size))) { s with heap := s.heap.push { cls := Value.type "tuple", data := Data.seq #[] } }) :=
  .of_wp fun prog w A R s h => by
    obtain ⟨hp, g, d, tk, os⟩ := s
    obtain ⟨hl, h⟩ := h
    have f1 := AutoSeq1.idx_int
    have c1 : (u.isEmpty || (0 : Int) == 1) = false := by simp [hu]
    have c2 : (decide ((0 : Int) ≤ 0) || u.isEmpty) = true := by simp
    wp_walk using wpAny_loadPart' hl
    repeat (first
      | (refine wpAny_ite_false (decide_eq_false (by rw [c1]; exact Bool.false_ne_true)) ?_; wp_walk using wpAny_loadPart' hl)
      | (refine wpAny_ite_true (decide_eq_true c2) ?_; wp_walk using wpAny_loadPart' hl)
      | (refine wpAny_ite_false (decide_eq_false (by decide)) ?_; wp_walk using wpAny_loadPart' hl))
    exact ⟨_, rfl, h⟩
section
variable {X : Cx}
def rRep01 (K : PySem.W.Frag) : R2 := fun x y H Q => ∃ l k xs, x = .ref l ∧ y = .int k ∧ SqT K H l xs ∧ xs ≠ [] ∧ ((k = 1 ∧ Q (.ref l) H) ∨ (k = 0 ∧ ∀ p, H p = none → Q (.ref p) (upd H p (.tup []))))
theorem op_rep01 : OpR X (binaryOp .Mult) (rRep01 X.K) := by
  intro pins s σ H x y v u Q I rx ry h
  obtain ⟨l, k, xs, rfl, rfl, hT, hne, h⟩ := h
  cases rx
  obtain ⟨t, rfl⟩ := ry
  obtain ⟨its, r, ⟨⟨cls, dd, data, sl⟩, ho, hc, n, hd⟩, hs⟩ := I.tuple hT
  simp only at hc hd
  subst hc hd
  have hle : its.length = xs.length := r.length.symm
  have hi : its.toArray.isEmpty = false := by
    cases its with
    | nil => exact absurd (List.eq_nil_of_length_eq_zero hle.symm) hne
    | cons a b => rfl
  rcases h with ⟨rfl, q⟩ | ⟨rfl, q⟩
  · refine wpAny_binaryOp_repeat_ref (T := "tuple") (U := "int") (by decide) ⟨_, ho, rfl⟩ (fun s' => typeIs_int s' 1 t) noFill_tuple_mul F.fills_int_mul F.slot_int_rmul repeat_tuple F.slot_int_index.lookup
      (call_meets F.slot_int_rmul (typeIs_int s 1 t) F.entry_int_rmul (F.args_int_rmul_2 _ _) (int_rmul_tuple 1 t l its.toArray n dd sl)
        ⟨ho, rfl, ⟨_, ho, rfl⟩, call_meets F.slot_tuple_mul ⟨_, ho, rfl⟩ F.entry_tuple_mul (F.args_tuple_mul_2 _ _) (mul_one l its.toArray n dd sl t) ⟨ho, ?_⟩⟩)
    exact ⟨.ref l, H, I, rfl, q⟩
  · refine wpAny_binaryOp_repeat_ref (T := "tuple") (U := "int") (by decide) ⟨_, ho, rfl⟩ (fun s' => typeIs_int s' 0 t) noFill_tuple_mul F.fills_int_mul F.slot_int_rmul repeat_tuple F.slot_int_index.lookup
      (call_meets F.slot_int_rmul (typeIs_int s 0 t) F.entry_int_rmul (F.args_int_rmul_2 _ _) (int_rmul_tuple 0 t l its.toArray n dd sl)
        ⟨ho, rfl, ⟨_, ho, rfl⟩, call_meets F.slot_tuple_mul ⟨_, ho, rfl⟩ F.entry_tuple_mul (F.args_tuple_mul_2 _ _) (mul_zero l its.toArray n dd sl t hi) ⟨ho, ?_⟩⟩)
    refine ⟨.ref s.heap.objs.size, _, I.laid (t' := s.toks) (o := .tup []) (fun b ob q => Heap.get?_push_of_some _ q) (Nat.le_refl _) ?_, rfl, q _ (I.hok.fresh (Nat.le_refl _))⟩
    exact ⟨by simp, [], .nil, ⟨_, Heap.get?_push_size _ rfl, rfl, _, rfl⟩⟩
end
end ZN
namespace EL
open PySem PySem.Spec PyProof.Rows L2 GxR LG ZN
section
variable {G : G0} {W : WX} {X : Cx} {pos : Pos} {a b e : Expr} {es : List Expr} {fa fb fo : FE} {fr : FA}
/-- numbers, and a tuple times a number -/
def mulT : D → D → Sto → Option (D × Sto)
  | .tup ds, .int k, st => if ds ≠ [] ∧ 0 ≤ k ∧ k ≤ 1000 ∧ ds.length ≤ 1000 then some (.tup (List.replicate k.toNat ds).flatten, st) else none
  | c, d, st => mulD c d st
theorem Reps.rep {μ : Mu} {H : Hp} {ds : List D} {vs : List V} (r : Reps G μ H ds vs) : ∀ n : Nat, Reps G μ H (List.replicate n ds).flatten (List.replicate n vs).flatten
  | 0 => .nil
  | n + 1 => by simp only [List.replicate_succ, List.flatten_cons]; exact r.append (Reps.rep r n)
theorem do_mulT (o : On G X) : OpR X (binaryOp .Mult) (rD G mulT) := by
  refine OpR.imp ((do_mul (G := G)).or (op_repT.or op_rep01)) fun x y H Q ⟨μ, st, c, d, z, st', S, Rc, Rd, e, k⟩ => ?_
  unfold mulT at e
  split at e
  · rename_i ds kk
    split at e
    · rename_i hz
      obtain ⟨z1, z2, z3, z4⟩ := hz
      cases e
      cases Rd
      cases Rc with
      | tup s r =>
        have hne : ∀ {vs : List V}, Reps G μ H ds vs → vs ≠ [] := fun q h => z1 (by subst h; cases q; rfl)
        by_cases h1 : kk = 1
        · subst h1
          refine .inr (.inr ⟨_, 1, _, rfl, rfl, by rw [o.K]; exact s, hne r, .inl ⟨rfl, ?_⟩⟩)
          have := k μ H _ .refl S (.tup s (by simpa using r))
          exact this
        · by_cases h0 : kk = 0
          · subst h0
            refine .inr (.inr ⟨_, 0, _, rfl, rfl, by rw [o.K]; exact s, hne r, .inr ⟨rfl, fun p hp => ?_⟩⟩)
            exact k μ _ _ (Ext.new S hp) (S.newT hp) (.tup (SqT.of upd_same) (by simpa using Reps.nil))
          · refine .inr (.inl ⟨_, kk, _, rfl, rfl, by rw [o.K]; exact s, hne r, by omega, z3, by rw [← r.length]; exact z4, fun p hp => ?_⟩)
            exact k μ _ _ (Ext.new S hp) (S.newT hp) (.tup (SqT.of upd_same) ((r.rep _).ext (Ext.new S hp)))
    · cases e
  · exact .inl ⟨μ, st, c, d, z, st', S, Rc, Rd, e, k⟩
/-! star displays -/
def fStar (fa : FE) (fr : FA) : FA := fun ρ st => (fa ρ st).bind fun p => (seqD p.1 p.2).bind fun xs => (fr ρ p.2).bind fun q => some (xs ++ q.1, q.2)
theorem da_star {p : Pos} (o : On G X) (ha : PE X e (lift G fa)) (hr : PA X es (liftA G fr)) (hs : starEach (.Starred e p :: es) X.env = (true, eval e X.env) :: starEach es X.env := by rfl) : PA X (.Starred e p :: es) (liftA G (fStar fa fr)) :=
  PA.imp (StX.pa_star ha hr hs) fun σ H Q ⟨ρ, μ, st, d, st', E, S, e, k⟩ => by
    unfold fStar at e
    obtain ⟨p, e1, e⟩ := Option.bind_eq_some_iff.mp e
    obtain ⟨xs, e2, e⟩ := Option.bind_eq_some_iff.mp e
    obtain ⟨q, e3, e⟩ := Option.bind_eq_some_iff.mp e
    cases e
    refine ⟨ρ, μ, st, p.1, p.2, E, S, e1, fun μ1 H1 v X1 S1 R1 => ?_⟩
    obtain ⟨a, vs, rfl, h1, h2⟩ := seq_rep S1 R1 e2
    exact ⟨a, vs, rfl, by rw [o.K]; exact h1.symm, ρ, μ1, p.2, q.1, q.2, E.ext X1, S1, e3, fun μ2 H2 ws X2 S2 R2 => k μ2 H2 _ (X1.trans X2) S2 ((h2.ext X2).append R2)⟩
/-! is, of truths and None -/
def isB (neg : Bool) : D → D → Sto → Option (D × Sto) := fun c d st => match c, d with
  | .bl x, .bl y => some (.bl (nB neg (decide (x = y))), st)
  | c, .non => some (.bl (nB neg (noneB c)), st)
  | _, _ => none
theorem do_isB : OpR X (compareOp .Is) (rD G (isB false)) := OpR.imp ((do_is (G := G)).or op_isBl) fun x y H Q ⟨μ, st, c, d, z, st', S, Rc, Rd, e, k⟩ => by
  unfold isB at e
  split at e
  · cases e; cases Rc; cases Rd
    exact .inr ⟨_, _, rfl, rfl, k μ H _ .refl S (.bl _)⟩
  · exact .inl ⟨μ, st, _, _, z, st', S, Rc, Rd, e, k⟩
  · cases e
theorem do_isnB : OpR X (compareOp .IsNot) (rD G (isB true)) := OpR.imp ((do_isnot (G := G)).or op_notBl) fun x y H Q ⟨μ, st, c, d, z, st', S, Rc, Rd, e, k⟩ => by
  unfold isB at e
  split at e
  · cases e; cases Rc; cases Rd
    exact .inr ⟨_, _, rfl, rfl, k μ H _ .refl S (.bl _)⟩
  · exact .inl ⟨μ, st, _, _, z, st', S, Rc, Rd, e, k⟩
  · cases e
end
end EL

set_option Elab.async false
set_option linter.all false
set_option maxRecDepth 100000
set_option maxHeartbeats 1000000
/-! x op= e of numbers; l.pop(i); tests of any value; the forms with names -/
namespace EL
open PySem PySem.Spec PyProof.Rows L2 GxR LG ZN
section
variable {G : G0} {W : WX} {X : Cx} {pos : Pos} {a b e : Expr} {es : List Expr} {fa fb fo : FE} {fr : FA}
theorem opR_ip {op : Operator} {r : R2} (h : OpR X (inplaceOp op) r) : PIp X op r := fun pins s σ H x y v u Q I rx ry q => h pins s σ H x y v u Q I rx ry q
def imulD := intOp fun i j => if (-(2 ^ 64) < i ∧ i < 2 ^ 64) ∨ (-(2 ^ 64) < j ∧ j < 2 ^ 64) then some (.int (i * j)) else none
def iaddD := intOp fun i j => some (.int (i + j))
def isubD := intOp fun i j => some (.int (i - j))
theorem rD_int {f : Int → Int → Option D} {x y : V} {H : Hp} {Q : VK} (q : rD G (intOp f) x y H Q) : ∃ i j z, x = .int i ∧ y = .int j ∧ f i j = some z ∧ ∃ μ st, StR G μ st H ∧ After G μ H z st Q := by
  obtain ⟨μ, st, c, d, z, st', S, Rc, Rd, e, k⟩ := q
  unfold intOp at e
  split at e
  · obtain ⟨w, e1, e2⟩ := Option.map_eq_some_iff.mp e
    cases e2; cases Rc; cases Rd
    exact ⟨_, _, _, rfl, rfl, e1, μ, _, S, k⟩
  · cases e
theorem dip_mul : PIp X .Mult (rD G imulD) := opR_ip (OpR.imp iop_mul fun x y H Q q => by
  obtain ⟨i, j, z, rfl, rfl, e, μ, st, S, k⟩ := rD_int q
  split at e
  · rename_i h
    cases e
    exact ⟨i, j, rfl, rfl, h, k μ H _ .refl S (.int _)⟩
  · cases e)
theorem dip_add : PIp X .Add (rD G iaddD) := opR_ip (OpR.imp iop_add fun x y H Q q => by
  obtain ⟨i, j, z, rfl, rfl, e, μ, st, S, k⟩ := rD_int q
  cases e
  exact ⟨i, j, rfl, rfl, k μ H _ .refl S (.int _)⟩)
theorem dip_sub : PIp X .Sub (rD G isubD) := opR_ip (OpR.imp iop_sub fun x y H Q q => by
  obtain ⟨i, j, z, rfl, rfl, e, μ, st, S, k⟩ := rD_int q
  cases e
  exact ⟨i, j, rfl, rfl, k μ H _ .refl S (.int _)⟩)
def sAug (i : Nat) (h : D → D → Sto → Option (D × Sto)) (fa : FE) : FS := fun ρ st => match ρ[i]? with
  | some (some x) => (fa ρ st).bind fun p => (h x p.1 p.2).bind fun z => some (.nx, ρ.set i (some z.1), z.2)
  | _ => none
theorem ds_aug {i : Nat} {x : Str} {op : Operator} {h : D → D → Sto → Option (D × Sto)} {pos' : Pos} (hN : X.N.Nodup) (hi : X.N[i]? = some x) (hx : Loc X.env.scope x) (he : PE X e (lift G fa)) (ho : PIp X op (rD G h))
    (hf : X.fn x = true ∨ X.env.scope.names.lookup x = some .local := by first | exact .inl rfl | exact .inr rfl | assumption) : PS X (.AugAssign (.Name x pos') op e pos) (liftS G W (sAug i h fa)) :=
  PS.imp (ps_aug hN hi hx he ho hf) fun D0 σ H ⟨ρ, μ, st, fl, ρ', st', E, S, e, k⟩ => by
    unfold sAug at e
    split at e
    · rename_i xd hxd
      obtain ⟨p, e1, e⟩ := Option.bind_eq_some_iff.mp e
      obtain ⟨z, e2, e⟩ := Option.bind_eq_some_iff.mp e
      cases e
      obtain ⟨v, hv, Rv⟩ := E.get i xd hxd
      refine ⟨v, hv, ρ, μ, st, p.1, p.2, E, S, e1, fun μ1 H1 w X1 S1 R1 => ⟨μ1, p.2, xd, p.1, z.1, z.2, S1, Rv.ext X1, R1, e2, fun μ2 H2 u X2 S2 R2 => ?_⟩⟩
      exact k μ2 H2 (X1.trans X2) S2 _ ((E.ext (X1.trans X2)).set R2)
    · cases e
/-! l.pop(i) -/
def fPop (fo fa : FE) : FE := fun ρ st => (fo ρ st).bind fun p => (fa ρ p.2).bind fun q => match p.1, q.1 with
  | .ref l, .int i => match p.2[l]?, q.2[l]? with
    | some (.lst _), some (.lst ds) => if 0 ≤ i ∧ i < ds.length ∧ i < 2 ^ 63 then (ds[i.toNat]?).bind fun y => some (y, q.2.set l (.lst (ds.eraseIdx i.toNat))) else none
    | _, _ => none
  | _, _ => none
theorem Reps.erase {μ : Mu} {H : Hp} : ∀ {ds : List D} {vs : List V} (i : Nat), Reps G μ H ds vs → Reps G μ H (ds.eraseIdx i) (vs.eraseIdx i)
  | _, _, _, .nil => .nil
  | _, _, 0, .cons _ t => t
  | _, _, i + 1, .cons h t => .cons h (Reps.erase i t)
theorem de_pop {apos : Pos} (o : On G X) (ho : PE X b (lift G fo)) (ha : PE X a (lift G fa)) (hst : starEach [a] X.env = (false, eval a X.env) :: starEach [] X.env := by rfl)
    (hb : attributeBase b "pop" X.env (eval b X.env) = eval b X.env := by rfl) (hl : (apos.endLine == pos.line) = true := by rfl) (hpl : (backTo pos (starEach [] X.env)).any (·.1) = false := by rfl)
    (hfew : ((backTo pos (starEach [a] X.env)).all (fun x => !x.1) && (backToKw pos (keywordEach [] X.env)).all (fun x => x.1.isSome) && decide ([a].length + ([] : List Keyword).length + (if ([] : List Keyword).isEmpty then 0 else 1) < 30)) = true := by rfl) : PE X (.Call (.Attribute b "pop" apos) [a] [] pos) (lift G (fPop fo fa)) :=
  PE.imp (pe_bm PySem.F.plainAttrs_list PySem.F.slot_list_pop PySem.F.type_list_pop mt_popAt ho (pa_cons ha pa_nil hst) hb hfew hl hst hpl) fun σ H Q ⟨ρ, μ, st, d, st', E, S, e, k⟩ => by
    unfold fPop at e
    obtain ⟨⟨x, s1⟩, e1, e⟩ := Option.bind_eq_some_iff.mp e
    obtain ⟨⟨y, s2⟩, e2, e⟩ := Option.bind_eq_some_iff.mp e
    simp only at e
    split at e
    · rename_i l i
      split at e
      · rename_i d1 ds h1 h2
        split at e
        · rename_i hz
          obtain ⟨w, hw, e⟩ := Option.bind_eq_some_iff.mp e
          cases e
          refine ⟨ρ, μ, st, _, s1, E, S, e1, fun μ1 H1 v X1 S1 R1 => ?_⟩
          cases R1 with
          | ref hp =>
            obtain ⟨us, u1, _⟩ := S1.obj _ _ _ h1 hp
            refine ⟨.inl ⟨rfl, _, SqL.of u1⟩, ⟨ρ, μ1, s1, _, s2, E.ext X1, S1, e2, fun μ2 H2 w2 X2 S2 R2 => ?_⟩⟩
            cases R2
            obtain ⟨ws, w1, w2⟩ := S2.obj _ _ _ h2 (X2.at hp)
            obtain ⟨v0, g1, g2⟩ := w2.get _ hw
            refine ⟨_, ws, _, _, v0, rfl, rfl, w1, by omega, hz.2.2, ?_, g1, k μ2 _ _ (X1.trans (X2.trans (Ext.set S2 (X2.at hp)))) (S2.setL (X2.at hp) (w2.erase _)) (g2.ext (Ext.set S2 (X2.at hp)))⟩
            have := w2.length
            obtain ⟨z1, z2, z3⟩ := hz
            unfold seqIndex?
            rw [if_neg (Int.not_lt.mpr z1)]
            simp only [z1, decide_true, Bool.true_and]
            rw [if_pos (by rw [decide_eq_true_eq]; omega)]
        · cases e
      · cases e
    · cases e
variable {N : List Str} {sc : Scope}
theorem x_aug (o : Here G X N sc) (i : Nat) {x : Str} {op : Operator} {h : D → D → Sto → Option (D × Sto)} {pos' : Pos} (he : PE X e (lift G fa)) (ho : PIp X op (rD G h)) (hi : N[i]? = some x := by rfl) (hx : Loc sc x := by first | exact Or.inl rfl | exact Or.inr rfl)
    (hf : X.fn x = true ∨ X.env.scope.names.lookup x = some .local := by first | exact .inl rfl | exact .inr rfl | assumption) : PS X (.AugAssign (.Name x pos') op e pos) (liftS G W (sAug i h fa)) := ds_aug o.ndX (o.ix hi) (by rw [o.sc]; exact hx) he ho hf
theorem x_mulT (o : Here G X N sc) (ha : PE X a (lift G fa)) (hb : PE X b (lift G fb)) : PE X (.BinOp a .Mult b pos) (lift G (fOp mulT fa fb)) := de_op (do_mulT o.on) ha hb
theorem x_tupG (o : Here G X N sc) {fi : FI} {iter tgt : Expr} {tg : Tg} {cc P : Addr} {elt : Expr} {p gpos : Pos} {scope : Scope} {fe : FE} {k : Nat} (N' : List Str) (cap : List (Option Nat)) (hP : P ∈ G.Ps)
    (hr : Room (k + 5) X.A) (hm : G.mg "tuple" = none) (TB : TabB G.base G.mg cc P) (hcode : X.env.code = .ref cc) (hi : PI X tgt iter (liftI G fi))
    (hgt : ∀ X', Here G X' N' scope → Room k X'.A → PG X' tgt (gOf G.K tg)) (hel : ∀ X', Here G X' N' scope → Room k X'.A → PE X' elt (lift G fe))
    (S : GSc X.env scope) (hnd : N'.Nodup := by decide) (hcl : cap.length = N'.length := by rfl)
    (hcap : ∀ (i : Nat) (x : Str) (j : Nat), N'[i]? = some x → cap[i]? = some (some j) → scope.names.lookup x = some .free ∧ N[j]? = some x ∧ (sc.names.lookup x = some .cell ∨ sc.names.lookup x = some .free))
    (hg : sc.names.lookup ("tuple" : Str) = some NameKind.globalImplicit := by rfl)
    (hs : ∀ v, genFold iter X.env v = pure v := by intro _; rfl)
    (he : starEach [.GeneratorExp elt [⟨tgt, iter, [], 0⟩] scope gpos] X.env = (false, eval (.GeneratorExp elt [⟨tgt, iter, [], 0⟩] scope gpos) X.env) :: starEach [] X.env := by rfl) :
    PE X (.Call (.Name "tuple" p) [.GeneratorExp elt [⟨tgt, iter, [], 0⟩] scope gpos] [] pos) (lift G (fTupG fi tg fe cap)) :=
  de_tupG o.on hP hr (o.gl hg) hm TB hcode S hi hcl (fun i x j h1 h2 => by
    obtain ⟨q1, q2, q3⟩ := hcap i x j h1 h2
    refine ⟨q1, o.ix q2, ?_⟩
    show X.env.scope.names.lookup x = _ ∨ X.env.scope.names.lookup x = _
    rw [o.sc]; exact q3) (fun X' h => hgt X' ⟨o.on.inner h, h.N, h.scope, hnd⟩ h.room) (fun X' h => hel X' ⟨o.on.inner h, h.N, h.scope, hnd⟩ h.room) hs he
/-- the captured names, by a look -/
theorem cap_ok {N N' : List Str} {sc scope : Scope} {cap : List (Option Nat)}
    (h : ((List.range cap.length).all fun i => match cap[i]?, N'[i]? with
      | some (some j), some x => (scope.names.lookup x == some .free) && ((N[j]? == some x) && ((sc.names.lookup x == some .cell) || (sc.names.lookup x == some .free)))
      | _, _ => true) = true) :
    ∀ (i : Nat) (x : Str) (j : Nat), N'[i]? = some x → cap[i]? = some (some j) → scope.names.lookup x = some .free ∧ N[j]? = some x ∧ (sc.names.lookup x = some .cell ∨ sc.names.lookup x = some .free) := by
  intro i x j h1 h2
  have hi : i < cap.length := (List.getElem?_eq_some_iff.mp h2).1
  have q := List.all_eq_true.mp h i (List.mem_range.mpr hi)
  rw [h1, h2] at q
  simp only [Bool.and_eq_true, Bool.or_eq_true, beq_iff_eq] at q
  exact q
end
end EL

set_option Elab.async false
set_option linter.all false
set_option maxRecDepth 100000
set_option maxHeartbeats 1000000
/-! the law's end over the data layer -/
namespace EL
open PySem PySem.Spec PyProof.Rows L2 GxR LG
/-- what the law is asked: any script of at most 63 ints, each of at most a million bits -/
def spLaw (K : PySem.W.Frag) (cs : List (Addr × Addr)) : Sp := fun vs H Q _ => ∃ (a : Addr) (ns : List Int), vs = [.ref a] ∧ SqL K H a (ns.map V.int) ∧ ns.length ≤ 63 ∧ (∀ z ∈ ns, Builtin.Int.intBits z ≤ 1048576) ∧ (∀ p ∈ cs, H p.2 = some (.tbl #[])) ∧ ∀ H', Q (.bl true) H'
theorem law_fn {P : Program} {w : World} {K : PySem.W.Frag} {mg : Str → Option Value} {base : Heap} {k : Nat} {fa : Addr} {fd : FuncData} {cs : List (Addr × Addr)}
    (h : ∀ (a : Addr) (ns : List Int), ns.length ≤ 63 → (∀ z ∈ ns, Builtin.Int.intBits z ≤ 1048576) → ∃ fn st', FnOk P w K mg base CX0 k fa fd ["script"] (spD ⟨P, w, mg, base, K, cs.map (·.2)⟩ 1 fn) ∧ fn [.scr ns] [] = some (.bl true, st')) :
    FnOk P w K mg base CX0 k fa fd ["script"] (spLaw K cs) := by
  refine ⟨fun vs H Q E hs => ?_, fun A outer s H args us vs Q E hr e0 hb r hs => ?_⟩
  · obtain ⟨a, ns, rfl, _⟩ := hs
    rfl
  · obtain ⟨a, ns, rfl, hS, hl, hbits, ht, q⟩ := hs
    obtain ⟨fn, st', F, e⟩ := h a ns hl hbits
    refine F.run A outer s H args us [.ref a] Q E hr e0 hb r ⟨⟨[], []⟩, [], [.scr ns], .bl true, st', rfl, ?_, .cons (.scr ?_) .nil, e, fun μ' H' v _ _ R => ?_⟩
    · refine ⟨rfl, fun l o b h1 => by simp at h1, fun a ha => by simp at ha, List.nodup_nil, fun a ha => by simp at ha, fun P hP => ?_⟩
      obtain ⟨p, hp, rfl⟩ := List.mem_map.mp hP
      exact ⟨#[], ht p hp, trivial⟩
    · rcases hS with z | z
      · exact .inl ⟨z, by simp, by simp⟩
      · exact .inr z
    · cases R
      exact q H'
/-- a def of the head's facts -/
theorem fnAt_of {G : G0} {name : Str} {st : Stmt} {h : Heap} (X : G.K.In h) (Gs : h.Ns mainGlobals G.mg) {fd : FuncData} (F : FunD G.K name name (defArgs st) (defBody st) (defScope st) [] [] (He.ga G.K name) fd) (hg : (He.Fa.glo name).ok G.K = true) : ∃ cdv, FnAt G name st cdv ∧ fd.code = cdv := by
  obtain ⟨oc, od, dV, kV, doc, pm, an, cdv, ct, osl, rfl, lk, hcd, hd, hk⟩ := F.ex
  rcases hd with ⟨_, rfl⟩ | ⟨z, _⟩
  · exact ⟨cdv, ⟨_, oc, od, kV, doc, pm, an, ct, osl, lk, hcd, He.glo_ok X Gs hg, F.kp⟩, rfl⟩
  · exact absurd rfl z
theorem fnAt_tab {G : G0} {name : Str} {st : Stmt} {h : Heap} (X : G.K.In h) (Gs : h.Ns mainGlobals G.mg) {fd : FuncData} (F : FunD G.K name name (defArgs st) (defBody st) (defScope st) [] [] (He.ga G.K name) fd) (hg : (He.Fa.glo name).ok G.K = true) : FnAt G name st (.ref (He.cT G.K (name, none)).1) := by
  obtain ⟨oc, od, dV, kV, doc, pm, an, cdv, ct, osl, rfl, lk, hcd, hd, hk⟩ := F.ex
  rcases hd with ⟨_, rfl⟩ | ⟨z, _⟩
  · obtain ⟨c, rfl⟩ := He.codeIn_ref hcd
    have e : He.codeOf G.K (name, none) = c := He.codeOf_eq lk rfl
    have e2 : (He.cT G.K (name, none)).1 = c := e
    rw [e2]
    exact ⟨_, oc, od, kV, doc, pm, an, ct, osl, lk, hcd, He.glo_ok X Gs hg, F.kp⟩
  · exact absurd rfl z
theorem fn_atD {G : G0} {W : WX} {k : Nat} {f : Addr} {fd : FuncData} {name : Str} {st : Stmt} {N ps : List Str} {sb : FS} (D : FunD G.K name name (defArgs st) (defBody st) (defScope st) [] [] f fd) (S : FnScope N ps (defScope st))
    (hbody : ∀ (cdv : Value) (f : Addr) (A : Around) (outer : List Env) (s : Shared) (H : Hp), Here G (bodyCx G N name (defScope st) f cdv A outer s H) N (defScope st) → Room k (bodyCx G N name (defScope st) f cdv A outer s H).A →
      (∀ x : Str, (defScope st).names.lookup x = some .cell → ∃ c, (bodyCx G N name (defScope st) f cdv A outer s H).env.cells.lookup x = some c) → PSs (bodyCx G N name (defScope st) f cdv A outer s H) (defBody st) (liftS G W sb)) :
    FnOk G.P G.w G.K G.mg G.base CX0 (k + 1) f fd ps (spD G ps.length (runD N.length sb)) := by
  obtain ⟨oc, od, dV, kV, doc, pm, an, cdv, ct, osl, rfl, lk, hcd, hd, hk⟩ := D.ex
  rcases hd with ⟨_, rfl⟩ | ⟨z, _⟩
  · exact fn_at lk hcd S (hbody cdv)
  · exact absurd rfl z
theorem tabB_of {base : Heap} {mg : Str → Option Value} {c P : Addr} (t : LamX.TabB base mg c P) : GxR.TabB base mg c P := ⟨t.code, t.bm, t.gP⟩
end EL

set_option Elab.async false
set_option linter.all false
set_option maxRecDepth 100000
set_option maxHeartbeats 3200000
namespace SX
open PySem PySem.Spec PyProof.Rows L2
section
variable {P : Program} {w : World} {A : Around} {E : Value → Shared → Prop} {s : Shared} {a : Addr}
/-- set of a tuple -/
theorem set_tup_strs {l : Addr} {items : Array Value} (ks : List Str) {Q : Value → Shared → Prop} (hh : A.handled = none) (hl : s.heap.IsTuple l items) (hit : StrsAre items.toList ks) (hfew : ks.length < 64)
    (h : ∀ (h' : Heap) (tk : Nat), TSet w h' s.heap.objs.size ks.reverse → (∀ b o, s.heap.get? b = some o → h'.get? b = some o) → Q (.ref s.heap.objs.size) { s with heap := h', toks := tk }) :
    wpAny (model P w) A (call (.type "set") [.ref l]) Q E s := by
  have isz : items.size = ks.length := by
    have q := StrsAre.length hit
    rw [Array.length_toList] at q
    exact q
  obtain ⟨c, tl, hmro⟩ := F.called_set.mro
  have made0 := F.called_set.made
  have sub0 := F.called_set.sub
  refine wpAny_call (codeAny_of_tree ?_)
  show wpAny _ _ (callAny (.type "set") _) _ _ _
  refine wpAny_pure ⟨Code.quiet_builtin _ (by decide +kernel), codeAny_builtin F.entry_type_call ?_⟩
  rw [Around.under_plain (weight_type_call_type "set" [.ref l] []) rfl]
  have nt0 := F.called_set.notType
  have cc0 := F.called_set.canCreate
  have tc0 := F.typeCall_set_1 (.ref l)
  repeat (any_goals (first | assumption | wp_step))
  refine codeAny_mono (code_set_led1 (.ref l) (E := E) (Q₁ := fun obj s₁ => obj = .ref s.heap.objs.size ∧ s₁ = { s with heap := s.heap.push (set0 w) }) ⟨rfl, rfl⟩) fun r s₁ hr => ?_
  cases r with
  | error e => exact hr
  | ok fl =>
    cases fl with
    | ret obj =>
      obtain ⟨rfl, rfl⟩ := hr
      have atS : (s.heap.push (set0 w)).get? s.heap.objs.size = some (set0 w) := Heap.get?_push_size _ rfl
      have tyS : Shared.TypeIs { s with heap := s.heap.push (set0 w) } (.ref s.heap.objs.size) "set" := ⟨_, atS, rfl⟩
      have ini1 := F.called_set.init.lookup
      have ini2 := F.called_set.init.bind (.ref s.heap.objs.size)
      repeat (any_goals (first | assumption | wp_step))
      refine codeAny_mono (codeAny_call_builtin (R := wants (fun r s₂ => r = .none ∧ ∃ h' tk, s₂ = { s with heap := h', toks := tk } ∧ TSet w h' s.heap.objs.size ks.reverse ∧ (∀ b o, s.heap.get? b = some o → h'.get? b = some o)) E) F.called_set.init.plain F.entry_set_init (check_set_init_1 tyS ?_)) fun r₂ s₂ hr₂ => ?_
      · obtain ⟨ol, hol, hcl, nl, hdl⟩ := hl
        obtain ⟨ocls, odict, odata, oslots⟩ := ol
        simp only at hcl hdl
        subst hcl; subst hdl
        have atL : (s.heap.push (set0 w)).get? l = some { cls := .type "tuple", dict := odict, data := .seq items nl, slots := oslots } := Heap.get?_push_of_some _ hol
        have nsub1 := F.sub_tuple_set
        have nsub2 := F.sub_tuple_frozenset
        have ndict : (Value.type "tuple" == Value.type "dict") = false := by decide
        have lst1 : (s.heap.push (set0 w)).IsTuple l items := ⟨_, atL, rfl, nl, rfl⟩
        unfold Builtin.«set.__init__» noKeywords Builtin.Frozenset.updateFrom
        generalize hPI : pyIter = PI
        wp_walk
        subst hPI
        refine wpAny_pyIter_tuple lst1 ?_
        refine wpAny_bind (wpAny_runValue ?_)
        have lS : l < s.heap.objs.size := Heap.lt_size hol
        have hh3 : A.in1.in1.in1.handled = none := by simp [hh]
        have neI : l ≠ (s.heap.push (set0 w)).objs.size := by
          rw [Heap.size_push]; exact Nat.ne_of_lt (Nat.lt_succ_of_lt lS)
        have outS : s.heap.objs.size ∉ [(s.heap.push (set0 w)).objs.size, l] := by
          rw [Heap.size_push]; simp only [List.mem_cons, List.mem_singleton, List.not_mem_nil, or_false, not_or]
          exact ⟨Nat.ne_of_lt (Nat.lt_succ_self _), Nat.ne_of_gt lS⟩
        refine update_strs ((Walks.tuple hh3 _ l neI items).toS) s.heap.objs.size outS ks isz hfew (fun i v hv => strs_at hit i v (by rw [Array.getElem?_toList]; exact hv)) (items.size - 0) 0 _ (by omega) (Nat.zero_le _)
          ⟨⟨_, Heap.get?_push_size _ rfl, rfl, rfl⟩, (lst1.push _)⟩ (tset0 (Heap.get?_push_of_some _ atS)) fun s' hm T => ?_
        obtain ⟨h', g2, d', tk', os'⟩ := s'
        have eg : g2 = s.gens := hm.gens
        have ed : d' = s.drawn := hm.drawn
        have eo : os' = s.os := hm.os
        subst eg; subst ed; subst eo
        show wpAny _ _ _ _ _ _
        refine wpAny_pure ?_
        show wpAny _ _ (ret Value.none) _ _ _
        refine wpAny_pure ⟨rfl, h', tk', rfl, T, fun b o e => ?_⟩
        have hb : b < s.heap.objs.size := Heap.lt_size e
        have n1 : b ≠ s.heap.objs.size := Nat.ne_of_lt hb
        have n2 : b ≠ (s.heap.push (set0 w)).objs.size := by
          rw [Heap.size_push]; exact Nat.ne_of_lt (Nat.lt_succ_of_lt hb)
        exact hm.heap b o (by simp only [List.mem_cons, List.mem_singleton, List.not_mem_nil, or_false, not_or]; exact ⟨n1, n2⟩) (Heap.get?_push_of_some _ (Heap.get?_push_of_some _ e))
      · cases r₂ with
        | error e => exact hr₂
        | ok fl₂ =>
          cases fl₂ with
          | ret r =>
            obtain ⟨rfl, h', tk, rfl, T, kk⟩ := hr₂
            repeat (any_goals (first | assumption | wp_step))
            exact h _ _ T kk
          | _ => exact hr₂.elim
    | _ => exact hr.elim
end
section
variable {X : Cx}
def rSetAny (K : PySem.W.Frag) (w : World) : List V → Hp → VK → Prop := fun xs H Q => ∃ (l : Addr) (ks : List Str), xs = [V.ref l] ∧ (SqL K H l (ks.map V.str) ∨ SqT K H l (ks.map V.str)) ∧ ks.length < 64 ∧ ∀ a, H a = none → Q (.ref a) (upd H a (TSetO w a ks.reverse))
theorem cr_setAny (hc : X.calm = true) : CallR X (.type "set") (rSetAny X.K X.w) := by
  intro pins s σ H xs us Q I r h
  obtain ⟨l, ks, rfl, hl, hf, q⟩ := h
  rcases hl with hl | hl
  · exact cr_setOfS hc _ _ _ _ _ _ _ I r ⟨l, ks, rfl, hl, hf, q⟩
  · rw [Vals.ref1 r]
    obtain ⟨its, rv, pl⟩ := ZN.sqk_ok (b := true) I hl
    refine set_tup_strs (P := X.prog) (w := X.w) ks (I.ok.hd hc) pl (by simpa using strs_of_vals rv) hf fun h' tk R k => ?_
    exact ⟨.ref s.heap.objs.size, _, I.laid (t' := tk) k (Nat.le_refl _) (tsetO_new R), rfl, q _ (I.hok.fresh (Nat.le_refl _))⟩
end
end SX
namespace EL
open PySem PySem.Spec PyProof.Rows L2 GxR LG
/-- the texts of a list or of a tuple, each once, in their order -/
def fSortSeq (fa : FE) : FE := fun ρ st => (fa ρ st).bind fun p => (seqD p.1 p.2).bind fun ds => (strsD ds).bind fun xs => if xs.length < 64 then some (.lst ((SX.sortSet xs).map D.str), p.2) else none
theorem de_sortseq {G : G0} {X : Cx} {pos : Pos} {e : Expr} {fa : FE} {k : Nat} {p1 p2 p3 : Pos} (o : On G X) (hr : Room k X.A) (g1 : Gl X "sorted") (g2 : Gl X "set") (h1 : G.mg "sorted" = none) (h2 : G.mg "set" = none) (he : PE X e (lift G fa))
    (hs1 : starEach [e] X.env = (false, eval e X.env) :: starEach [] X.env := by rfl) (hs2 : starEach [.Call (.Name "set" p2) [e] [] p3] X.env = (false, eval (.Call (.Name "set" p2) [e] [] p3) X.env) :: starEach [] X.env := by rfl) (hp1 : (backTo p3 (starEach [] X.env)).any (·.1) = false := by rfl) (hp2 : (backTo pos (starEach [] X.env)).any (·.1) = false := by rfl) :
    PE X (.Call (.Name "sorted" p1) [.Call (.Name "set" p2) [e] [] p3] [] pos) (lift G (fSortSeq fa)) := by
  have q1 := pe_callTy (p := p2) (pos := p3) (SX.cr_setAny o.calm) g2 (by rw [o.mg]; exact h2) (by kernel_rfl) (pa_cons he pa_nil hs1) (by decide) (by decide) hs1 hp1
  have q2 := pe_callB (p := p1) (pos := pos) (SX.cr_sortedS o.calm (by have := hr.un; omega)) g1 (by rw [o.mg]; exact h1) (by kernel_rfl) (pa_cons q1 pa_nil hs2) (by decide) (by decide) hs2 hp2
  refine PE.imp q2 fun σ H Q ⟨ρ, μ, st, d, st', E, S, e, kk⟩ => ?_
  unfold fSortSeq at e
  obtain ⟨⟨d1, s1⟩, e1, e⟩ := Option.bind_eq_some_iff.mp e
  obtain ⟨ds, hl, e⟩ := Option.bind_eq_some_iff.mp e
  obtain ⟨xs, ex, e⟩ := Option.bind_eq_some_iff.mp e
  split at e
  · rename_i hz
    cases e
    refine ⟨ρ, μ, st, _, _, E, S, e1, fun μ1 H1 v X1 S1 R1 => ?_⟩
    obtain ⟨a0, vs, rfl, u1, u2⟩ := seq_rep S1 R1 hl
    have u3 := strsD_eq ex
    subst u3
    have u4 := strs_of_reps u2
    subst u4
    refine ⟨_, xs, rfl, by rw [o.K]; exact u1, hz, fun a hna => ⟨a, xs.reverse, rfl, upd_same, by rw [List.length_reverse]; exact hz, fun p hp => ?_⟩⟩
    have es : SX.sortSet xs.reverse = SX.sortSet xs := SX.sortSet_congr fun k => List.mem_reverse
    rw [es]
    have S2 : StR G μ1 s1 (upd H1 a (SX.TSetO X.w a xs.reverse)) := S1.newT hna
    exact kk _ _ _ ((X1.trans (Ext.new S1 hna)).trans (Ext.new S2 hp)) (S2.newT hp) (rep_newZ S2 hp (Reps.strs _))
  · cases e
section
variable {G : G0} {X : Cx} {N : List Str} {sc : Scope} {pos : Pos} {e : Expr} {fa : FE}
theorem x_sortseq (o : Here G X N sc) {k : Nat} {p1 p2 p3 : Pos} (hr : Room k X.A) (h1 : G.mg "sorted" = none) (h2 : G.mg "set" = none) (he : PE X e (lift G fa)) (hg1 : sc.names.lookup ("sorted" : Str) = some NameKind.globalImplicit := by rfl) (hg2 : sc.names.lookup ("set" : Str) = some NameKind.globalImplicit := by rfl)
    (hs1 : starEach [e] X.env = (false, eval e X.env) :: starEach [] X.env := by rfl) (hs2 : starEach [.Call (.Name "set" p2) [e] [] p3] X.env = (false, eval (.Call (.Name "set" p2) [e] [] p3) X.env) :: starEach [] X.env := by rfl) (hp1 : (backTo p3 (starEach [] X.env)).any (·.1) = false := by rfl) (hp2 : (backTo pos (starEach [] X.env)).any (·.1) = false := by rfl) :
    PE X (.Call (.Name "sorted" p1) [.Call (.Name "set" p2) [e] [] p3] [] pos) (lift G (fSortSeq fa)) := de_sortseq o.on hr (o.gl hg1) (o.gl hg2) h1 h2 he hs1 hs2 hp1 hp2
end
end EL

set_option Elab.async false
set_option linter.all false
set_option maxRecDepth 100000
set_option maxHeartbeats 4000000
/-! the defs as functions -/
namespace FW
open PySem PySem.Spec PyProof.Rows L2 GxR LG EL
noncomputable def sb_is_rising : FS :=
    (sRet (fAllG (iZip2 (fCons (fV 0) (fCons (fSl (fV 0) (oSome (fC (.int 1))) oNone) fNil))) (.many [0, 1]) (fOp ltD (fV 0) (fV 1)) [none, none]))
noncomputable def fn_is_rising : HA := sealFn (runD 1 sb_is_rising)
noncomputable def sb_is_name : FS :=
    (sSeq (sIf (fTOr (fTNot (fTst (fCall isiD (fCons (fV 0) (fCons (fC (.ty "str")) fNil))))) (fTNot (fTst (fChain leD leD (fC (.int 1)) (fCall lenD (fCons (fV 0) fNil)) (fC (.int 8)))))) (sRet (fC (.bl false))) sNext)
    (sRet (fAllG (iSeq (fV 0)) (.one 0) (fChain leD leD (fC (.str "a")) (fV 0) (fC (.str "z"))) [none])))
noncomputable def fn_is_name : HA := sealFn (runD 1 sb_is_name)
noncomputable def sb_is_tuple_of : FS :=
    (sRet (fAnd (fCall isiD (fCons (fV 0) (fCons (fC (.ty "tuple")) fNil))) (fOp eqD (fCall lenD (fCons (fV 0) fNil)) (fV 1))))
noncomputable def fn_is_tuple_of : HA := sealFn (runD 2 sb_is_tuple_of)
noncomputable def sb_is_number : FS :=
    (sRet (fAnd (fCall isiD (fCons (fV 0) (fCons (fC (.ty "int")) fNil))) (fNot (fCall isiD (fCons (fV 0) (fCons (fC (.ty "bool")) fNil))))))
noncomputable def fn_is_number : HA := sealFn (runD 1 sb_is_number)
noncomputable def sb_is_whole : FS :=
    (sRet (fAnd (fFn 1 fn_is_number (fCons (fV 0) fNil)) (fChain leD leD (fV 1) (fV 0) (fV 2))))
noncomputable def fn_is_whole : HA := sealFn (runD 3 sb_is_whole)
noncomputable def sb_is_place : FS :=
    (sRet (fAnd (fFn 2 fn_is_tuple_of (fCons (fV 0) (fCons (fC (.int 2)) fNil))) (fAllG (iSeq (fV 0)) (.one 0) (fFn 3 fn_is_whole (fCons (fV 0) (fCons (fNeg (fC (.int 1000))) (fCons (fC (.int 1000)) fNil)))) [none])))
noncomputable def fn_is_place : HA := sealFn (runD 1 sb_is_place)
noncomputable def sb_is_power : FS :=
    (sRet (fFn 3 fn_is_whole (fCons (fV 0) (fCons (fC (.int 1)) (fCons (fC (.int 1000000)) fNil)))))
noncomputable def fn_is_power : HA := sealFn (runD 1 sb_is_power)
noncomputable def sb_is_need : FS :=
    (sRet (fFn 3 fn_is_whole (fCons (fV 0) (fCons (fC (.int 1)) (fCons (fC (.int 1000)) fNil)))))
noncomputable def fn_is_need : HA := sealFn (runD 1 sb_is_need)
noncomputable def sb_is_station : FS :=
    (sSeq (sIf (fTNot (fTst (fFn 2 fn_is_tuple_of (fCons (fV 0) (fCons (fC (.int 5)) fNil))))) (sRet (fC (.bl false))) sNext)
    (sSeq (sUnp (.many [1, 2, 3, 4, 5]) (fV 0))
    (sRet (fAnd (fFn 1 fn_is_name (fCons (fV 1) fNil)) (fAnd (fFn 1 fn_is_place (fCons (fV 2) fNil)) (fAnd (fFn 1 fn_is_power (fCons (fV 3) fNil)) (fAnd (fFn 1 fn_is_place (fCons (fV 4) fNil)) (fFn 1 fn_is_need (fCons (fV 5) fNil)))))))))
noncomputable def fn_is_station : HA := sealFn (runD 6 sb_is_station)
noncomputable def sb_names_of : FS :=
    (sRet (fLcZ (iSeq (fV 0)) (.one 1) fYes (fOp ixD (fV 1) (fC (.int 0))) [1]))
noncomputable def fn_names_of : HA := sealFn (runD 2 sb_names_of)
noncomputable def sb_are_stations : FS :=
    (sSeq (sIf (fTOr (fTNot (fTst (fCall isiD (fCons (fV 0) (fCons (fC (.ty "tuple")) fNil))))) (fTNot (fTst (fChain leD leD (fC (.int 1)) (fCall lenD (fCons (fV 0) fNil)) (fC (.int 8)))))) (sRet (fC (.bl false))) sNext)
    (sRet (fAnd (fAllG (iSeq (fV 0)) (.one 0) (fFn 1 fn_is_station (fCons (fV 0) fNil)) [none]) (fFn 1 fn_is_rising (fCons (fFn 1 fn_names_of (fCons (fV 0) fNil)) fNil)))))
noncomputable def fn_are_stations : HA := sealFn (runD 1 sb_are_stations)
noncomputable def sb_is_leak : FS :=
    (sRet (fFn 3 fn_is_whole (fCons (fV 0) (fCons (fC (.int 1)) (fCons (fC (.int 1000)) fNil)))))
noncomputable def fn_is_leak : HA := sealFn (runD 1 sb_is_leak)
noncomputable def sb_is_air : FS :=
    (sRet (fAnd (fFn 2 fn_is_tuple_of (fCons (fV 0) (fCons (fC (.int 2)) fNil))) (fAnd (fFn 1 fn_are_stations (fCons (fOp ixD (fV 0) (fC (.int 0))) fNil)) (fFn 1 fn_is_leak (fCons (fOp ixD (fV 0) (fC (.int 1))) fNil)))))
noncomputable def fn_is_air : HA := sealFn (runD 1 sb_is_air)
noncomputable def sb_is_tuning : FS :=
    (sSeq (sSet 2 (fOp ixD (fV 0) (fC (.int 0))))
    (sRet (fAnd (fFn 2 fn_is_tuple_of (fCons (fV 1) (fCons (fCall lenD (fCons (fV 2) fNil)) fNil))) (fAllG (iSeq (fV 1)) (.one 0) (fFn 3 fn_is_whole (fCons (fV 0) (fCons (fC (.int 0)) (fCons (fC (.int 9)) fNil)))) [none]))))
noncomputable def fn_is_tuning : HA := sealFn (runD 3 sb_is_tuning)
noncomputable def sb__law_bag : FS :=
    (sSeq (sSet 2 (fC (.int 0)))
    (sSeq (sIf (fTst (fOp ltD (fV 1) (fCall lenD (fCons (fV 0) fNil)))) (sSet 2 (fCall absD (fCons (fOp ixD (fV 0) (fV 1)) fNil))) sNext)
    (sSeq (sIf (fTst (fOp ltD (fV 2) (fOp powD (fC (.int 10)) (fC (.int 18))))) (sRet (fLst (fCons (fC (.int 0)) (fCons (fOp addD (fC (.int 1)) (fOp modD (fOp addD (fOp mulD (fV 2) (fC (.int 7919))) (fOp mulD (fC (.int 104729)) (fV 1))) (fC (.int 2147483646)))) fNil)))) sNext)
    (sRet (fLst (fCons (fV 2) (fCons (fOp addD (fC (.int 1)) (fOp modD (fOp addD (fV 2) (fV 1)) (fC (.int 2147483646)))) fNil)))))))
noncomputable def fn__law_bag : HA := runD 3 sb__law_bag
noncomputable def sb__law_take : FS :=
    (sSeq (sIf (fTst (fOp gtD (fOp ixD (fV 0) (fC (.int 0))) (fC (.int 0)))) (sSeq (sSet 2 (fOp modD (fOp ixD (fV 0) (fC (.int 0))) (fV 1)))
    (sSeq (sPut (fOp fdivD (fOp ixD (fV 0) (fC (.int 0))) (fV 1)) (fV 0) (fC (.int 0)))
    (sRet (fV 2)))) sNext)
    (sSeq (sPut (fOp modD (fOp mulD (fOp ixD (fV 0) (fC (.int 1))) (fC (.int 48271))) (fC (.int 2147483647))) (fV 0) (fC (.int 1)))
    (sRet (fOp modD (fOp fdivD (fOp modD (fOp mulD (fOp ixD (fV 0) (fC (.int 1))) (fOp ixD (fV 0) (fC (.int 1)))) (fC (.int 2147483629))) (fC (.int 64))) (fV 1)))))
noncomputable def fn__law_take : HA := sealFn (runD 3 sb__law_take)
noncomputable def sb__law_odd : FS :=
    (sSeq (sSet 1 (fLz (fCons (fC .non) (fCons (fC (.bl true)) (fCons (fC (.bl false)) (fCons (fC (.int 0)) (fCons (fC (.int 1)) (fCons (fNeg (fC (.int 1))) (fCons (fC (.int 5)) (fCons (fOp powD (fC (.int 10)) (fC (.int 30))) (fCons (fC (.str "")) (fCons (fC (.str "a")) (fCons (fC (.str "shut")) (fCons (fC (.str "bands")) (fCons (fTup fNil) (fCons (fLz fNil) (fCons (fTup (fCons (fC (.int 1)) (fCons (fC (.int 2)) fNil))) (fCons (fTup (fCons (fC .non) fNil)) (fCons (fTup (fCons (fC (.int 0)) (fCons (fC (.int 0)) fNil))) fNil)))))))))))))))))))
    (sSeq (sSet 1 (fOp addD (fV 1) (fLz (fCons (fTup (fCons (fC (.str "a")) (fCons (fTup (fCons (fC (.int 0)) (fCons (fC (.int 0)) fNil))) (fCons (fC (.int 1)) (fCons (fTup (fCons (fC (.int 0)) (fCons (fC (.int 0)) fNil))) (fCons (fC (.int 1)) fNil)))))) (fCons (fTup (fCons (fTup (fCons (fC (.str "a")) (fCons (fTup (fCons (fC (.int 0)) (fCons (fC (.int 0)) fNil))) (fCons (fC (.int 1)) (fCons (fTup (fCons (fC (.int 0)) (fCons (fC (.int 0)) fNil))) (fCons (fC (.int 1)) fNil)))))) fNil)) (fCons (fTup (fCons (fC (.str "shut")) (fCons (fC (.str "ann")) fNil))) fNil))))))
    (sSeq (sSet 1 (fOp addD (fV 1) (fLz (fCons (fTup (fCons (fC (.str "bands")) (fCons (fTup fNil) fNil))) (fCons (fTup (fCons (fTup (fCons (fC (.int 0)) fNil)) (fCons (fC (.int 0)) fNil))) fNil)))))
    (sRet (fOp ixD (fV 1) (fFn 2 fn__law_take (fCons (fV 0) (fCons (fCall lenD (fCons (fV 1) fNil)) fNil))))))))
noncomputable def fn__law_odd : HA := sealFn (runD 2 sb__law_odd)
noncomputable def sb__law_spoilt (rec : HA) : FS :=
    (sSeq (sSet 2 (fFn 2 fn__law_take (fCons (fV 0) (fCons (fC (.int 9)) fNil))))
    (sSeq (sIf (fTAnd (fTst (fIsiT ["tuple", "list"] (fV 1))) (fTAnd (fTst (fOp gtD (fCall lenD (fCons (fV 1) fNil)) (fC (.int 0)))) (fTst (fOp gtD (fV 2) (fC (.int 0)))))) (sSeq (sSet 3 (fCall listD (fCons (fV 1) fNil)))
    (sSeq (sSet 4 (fFn 2 fn__law_take (fCons (fV 0) (fCons (fCall lenD (fCons (fV 3) fNil)) fNil))))
    (sSeq (sIf (fTst (fOp eqD (fV 2) (fC (.int 1)))) (sSet 3 (fOp addD (fSl (fV 3) oNone (oSome (fV 4))) (fSl (fV 3) (oSome (fOp addD (fV 4) (fC (.int 1)))) oNone))) (sIf (fTst (fOp eqD (fV 2) (fC (.int 2)))) (sSet 3 (fOp addD (fSl (fV 3) oNone (oSome (fOp addD (fV 4) (fC (.int 1))))) (fSl (fV 3) (oSome (fV 4)) oNone))) (sIf (fTst (fOp eqD (fV 2) (fC (.int 3)))) (sSeq (sSet 5 (fFn 2 fn__law_take (fCons (fV 0) (fCons (fCall lenD (fCons (fV 3) fNil)) fNil))))
    (sPut2 (fCons (fOp ixD (fV 3) (fV 5)) (fCons (fOp ixD (fV 3) (fV 4)) fNil)) (fV 3) (fV 4) (fV 3) (fV 5))) (sIf (fTst (fOp eqD (fV 2) (fC (.int 4)))) (sRet (fIf (fTst (fCall isiD (fCons (fV 1) (fCons (fC (.ty "tuple")) fNil)))) (fV 3) (fCall tupleD (fCons (fV 3) fNil)))) (sPut (fFn 2 rec (fCons (fV 0) (fCons (fOp ixD (fV 3) (fV 4)) fNil))) (fV 3) (fV 4))))))
    (sRet (fIf (fTst (fCall isiD (fCons (fV 1) (fCons (fC (.ty "tuple")) fNil)))) (fCall tupleD (fCons (fV 3) fNil)) (fV 3)))))) sNext)
    (sSeq (sIf (fTAnd (fTst (fCall isiD (fCons (fV 1) (fCons (fC (.ty "str")) fNil)))) (fTst (fOp gtD (fV 2) (fC (.int 1))))) (sRet (fOp ixD (fLz (fCons (fOp addD (fV 1) (fC (.str "a"))) (fCons (fSl (fV 1) oNone (oSome (fNeg (fC (.int 1))))) (fCons (fOp addD (fV 1) (fC (.str " "))) (fCons (fUpper (fV 1)) (fCons (fOp addD (fV 1) (fV 1)) (fCons (fOp addD (fC (.str "z")) (fV 1)) (fCons (fC (.str "")) fNil)))))))) (fOp subD (fV 2) (fC (.int 2))))) sNext)
    (sSeq (sIf (fTAnd (fTst (fCall isiD (fCons (fV 1) (fCons (fC (.ty "int")) fNil)))) (fTst (fOp gtD (fV 2) (fC (.int 1))))) (sRet (fOp ixD (fLz (fCons (fOp addD (fV 1) (fC (.int 1))) (fCons (fOp subD (fV 1) (fC (.int 1))) (fCons (fNeg (fV 1)) (fCons (fOp addD (fV 1) (fC (.int 1000))) (fCons (fCall strD (fCons (fV 1) fNil)) (fCons (fOp addD (fV 1) (fC (.int 50))) (fCons (fTup (fCons (fV 1) fNil)) fNil)))))))) (fOp subD (fV 2) (fC (.int 2))))) sNext)
    (sRet (fFn 1 fn__law_odd (fCons (fV 0) fNil)))))))
noncomputable def fn__law_spoilt : Nat → HA
  | 0 => fun _ _ => none
  | n + 1 => sealFn (runD 6 (sb__law_spoilt (fn__law_spoilt n)))
noncomputable def sb__law_stations : FS :=
    (sSeq (sSet 2 (fLst fNil))
    (sSeq (sSet 3 (fOp ixD (fLz (fCons (fC (.int 4)) (fCons (fC (.int 12)) (fCons (fC (.int 60)) (fCons (fC (.int 1000)) fNil))))) (fFn 2 fn__law_take (fCons (fV 0) (fCons (fC (.int 4)) fNil)))))
    (sSeq (sFor (iSeq (fSl (fLz (fCons (fC (.str "ann")) (fCons (fC (.str "bo")) (fCons (fC (.str "cy")) (fCons (fC (.str "dee")) (fCons (fC (.str "eli")) (fCons (fC (.str "fay")) (fCons (fC (.str "gus")) (fCons (fC (.str "hal")) fNil))))))))) oNone (oSome (fOp addD (fC (.int 1)) (fFn 2 fn__law_take (fCons (fV 0) (fCons (fV 1) fNil))))))) (.one 4) (sSeq (sPar [5, 6] (fCons (fOp subD (fFn 2 fn__law_take (fCons (fV 0) (fCons (fOp addD (fOp mulD (fC (.int 2)) (fV 3)) (fC (.int 1))) fNil))) (fV 3)) (fCons (fOp subD (fFn 2 fn__law_take (fCons (fV 0) (fCons (fOp addD (fOp mulD (fC (.int 2)) (fV 3)) (fC (.int 1))) fNil))) (fV 3)) fNil)))
    (sSeq (sSet 7 (fOp addD (fC (.int 1)) (fOp fdivD (fV 3) (fC (.int 3)))))
    (sSeq (sSet 8 (fTup (fCons (fCall maxD (fCons (fNeg (fC (.int 1000))) (fCons (fOp subD (fV 5) (fFn 2 fn__law_take (fCons (fV 0) (fCons (fV 7) fNil)))) fNil))) (fCons (fCall minD (fCons (fC (.int 1000)) (fCons (fOp addD (fV 6) (fFn 2 fn__law_take (fCons (fV 0) (fCons (fV 7) fNil)))) fNil))) fNil))))
    (sSeq (sSet 9 (fOp ixD (fLz (fCons (fC (.int 1)) (fCons (fC (.int 100)) (fCons (fOp addD (fC (.int 1)) (fFn 2 fn__law_take (fCons (fV 0) (fCons (fC (.int 1000)) fNil)))) (fCons (fOp addD (fC (.int 1)) (fFn 2 fn__law_take (fCons (fV 0) (fCons (fC (.int 1000000)) fNil)))) fNil))))) (fFn 2 fn__law_take (fCons (fV 0) (fCons (fC (.int 4)) fNil)))))
    (sSeq (sSet 10 (fOp addD (fC (.int 1)) (fFn 2 fn__law_take (fCons (fV 0) (fCons (fOp ixD (fLz (fCons (fC (.int 2)) (fCons (fC (.int 10)) (fCons (fC (.int 1000)) fNil)))) (fFn 2 fn__law_take (fCons (fV 0) (fCons (fC (.int 3)) fNil)))) fNil)))))
    (sExpr (fApp (fV 2) (fTup (fCons (fV 4) (fCons (fTup (fCons (fV 5) (fCons (fV 6) fNil))) (fCons (fV 9) (fCons (fV 8) (fCons (fV 10) fNil))))))))))))))
    (sRet (fCall tupleD (fCons (fV 2) fNil))))))
noncomputable def fn__law_stations : HA := sealFn (runD 11 sb__law_stations)
noncomputable def sb__law_air : FS :=
    (sRet (fTup (fCons (fFn 2 fn__law_stations (fCons (fV 0) (fCons (fV 1) fNil))) (fCons (fOp ixD (fLz (fCons (fC (.int 1)) (fCons (fC (.int 1000)) (fCons (fOp addD (fC (.int 1)) (fFn 2 fn__law_take (fCons (fV 0) (fCons (fC (.int 50)) fNil)))) fNil)))) (fFn 2 fn__law_take (fCons (fV 0) (fCons (fC (.int 3)) fNil)))) fNil))))
noncomputable def fn__law_air : HA := sealFn (runD 2 sb__law_air)
noncomputable def sb__law_tuning : FS :=
    (sSeq (sSet 4 (fLst fNil))
    (sSeq (sFor (iSeq (fOp ixD (fV 1) (fC (.int 0)))) (.one 5) (sExpr (fApp (fV 4) (fIf (fTAnd (fTru (fV 3)) (fTst (fOp eqD (fFn 2 fn__law_take (fCons (fV 0) (fCons (fC (.int 4)) fNil))) (fC (.int 0))))) (fC (.int 0)) (fOp addD (fC (.int 1)) (fFn 2 fn__law_take (fCons (fV 0) (fCons (fV 2) fNil))))))))
    (sRet (fCall tupleD (fCons (fV 4) fNil)))))
noncomputable def fn__law_tuning : HA := sealFn (runD 6 sb__law_tuning)
noncomputable def sb__law_within : FS :=
    (sRet (fAnd (fCall isiD (fCons (fV 0) (fCons (fC (.ty "int")) fNil))) (fAnd (fNot (fCall isiD (fCons (fV 0) (fCons (fC (.ty "bool")) fNil)))) (fChain leD leD (fV 1) (fV 0) (fV 2)))))
noncomputable def fn__law_within : HA := sealFn (runD 3 sb__law_within)
noncomputable def sb__law_is_name : FS :=
    (sSeq (sIf (fTOr (fTNot (fTst (fCall isiD (fCons (fV 0) (fCons (fC (.ty "str")) fNil))))) (fTNot (fTst (fChain leD leD (fC (.int 1)) (fCall lenD (fCons (fV 0) fNil)) (fC (.int 8)))))) (sRet (fC (.bl false))) sNext)
    (sRet (fOp eqD (fLcZ (iSeq (fV 0)) (.one 1) (fTst (fOp (inW true) (fV 1) (fC (.str "abcdefghijklmnopqrstuvwxyz")))) (fV 1) [1]) (fLz fNil))))
noncomputable def fn__law_is_name : HA := sealFn (runD 2 sb__law_is_name)
noncomputable def sb__law_is_spot : FS :=
    (sSeq (sIf (fTOr (fTNot (fTst (fCall isiD (fCons (fV 0) (fCons (fC (.ty "tuple")) fNil))))) (fTst (fOp neD (fCall lenD (fCons (fV 0) fNil)) (fC (.int 2))))) (sRet (fC (.bl false))) sNext)
    (sRet (fAnd (fFn 3 fn__law_within (fCons (fOp ixD (fV 0) (fC (.int 0))) (fCons (fNeg (fC (.int 1000))) (fCons (fC (.int 1000)) fNil)))) (fFn 3 fn__law_within (fCons (fOp ixD (fV 0) (fC (.int 1))) (fCons (fNeg (fC (.int 1000))) (fCons (fC (.int 1000)) fNil)))))))
noncomputable def fn__law_is_spot : HA := sealFn (runD 1 sb__law_is_spot)
noncomputable def sb__law_are_stations : FS :=
    (sSeq (sIf (fTOr (fTNot (fTst (fCall isiD (fCons (fV 0) (fCons (fC (.ty "tuple")) fNil))))) (fTNot (fTst (fChain leD leD (fC (.int 1)) (fCall lenD (fCons (fV 0) fNil)) (fC (.int 8)))))) (sRet (fC (.bl false))) sNext)
    (sSeq (sFor (iSeq (fV 0)) (.one 1) (sSeq (sIf (fTOr (fTNot (fTst (fCall isiD (fCons (fV 1) (fCons (fC (.ty "tuple")) fNil))))) (fTOr (fTst (fOp neD (fCall lenD (fCons (fV 1) fNil)) (fC (.int 5)))) (fTNot (fTst (fFn 1 fn__law_is_name (fCons (fOp ixD (fV 1) (fC (.int 0))) fNil)))))) (sRet (fC (.bl false))) sNext)
    (sSeq (sIf (fTOr (fTNot (fTst (fFn 1 fn__law_is_spot (fCons (fOp ixD (fV 1) (fC (.int 1))) fNil)))) (fTNot (fTst (fFn 1 fn__law_is_spot (fCons (fOp ixD (fV 1) (fC (.int 3))) fNil))))) (sRet (fC (.bl false))) sNext)
    (sIf (fTOr (fTNot (fTst (fFn 3 fn__law_within (fCons (fOp ixD (fV 1) (fC (.int 2))) (fCons (fC (.int 1)) (fCons (fC (.int 1000000)) fNil)))))) (fTNot (fTst (fFn 3 fn__law_within (fCons (fOp ixD (fV 1) (fC (.int 4))) (fCons (fC (.int 1)) (fCons (fC (.int 1000)) fNil))))))) (sRet (fC (.bl false))) sNext))))
    (sSeq (sSet 2 (fLcZ (iSeq (fV 0)) (.one 1) fYes (fOp ixD (fV 1) (fC (.int 0))) [1]))
    (sRet (fOp eqD (fV 2) (fSortSeq (fV 2)))))))
noncomputable def fn__law_are_stations : HA := sealFn (runD 3 sb__law_are_stations)
noncomputable def sb__law_is_tuning : FS :=
    (sSeq (sIf (fTOr (fTNot (fTst (fCall isiD (fCons (fV 1) (fCons (fC (.ty "tuple")) fNil))))) (fTst (fOp neD (fCall lenD (fCons (fV 1) fNil)) (fCall lenD (fCons (fOp ixD (fV 0) (fC (.int 0))) fNil))))) (sRet (fC (.bl false))) sNext)
    (sRet (fOp eqD (fLcZ (iSeq (fV 1)) (.one 2) (fTNot (fTst (fFn 3 fn__law_within (fCons (fV 2) (fCons (fC (.int 0)) (fCons (fC (.int 9)) fNil)))))) (fV 2) [2]) (fLz fNil))))
noncomputable def fn__law_is_tuning : HA := sealFn (runD 3 sb__law_is_tuning)
noncomputable def sb__law_is_air : FS :=
    (sSeq (sIf (fTOr (fTNot (fTst (fCall isiD (fCons (fV 0) (fCons (fC (.ty "tuple")) fNil))))) (fTOr (fTst (fOp neD (fCall lenD (fCons (fV 0) fNil)) (fC (.int 2)))) (fTNot (fTst (fFn 1 fn__law_are_stations (fCons (fOp ixD (fV 0) (fC (.int 0))) fNil)))))) (sRet (fC (.bl false))) sNext)
    (sRet (fFn 3 fn__law_within (fCons (fOp ixD (fV 0) (fC (.int 1))) (fCons (fC (.int 1)) (fCons (fC (.int 1000)) fNil))))))
noncomputable def fn__law_is_air : HA := sealFn (runD 1 sb__law_is_air)
noncomputable def sb__law_of : FS :=
    (sRet (fOp ixD (fV 1) (fFn 2 fn__law_take (fCons (fV 0) (fCons (fCall lenD (fCons (fV 1) fNil)) fNil)))))
noncomputable def fn__law_of : HA := sealFn (runD 2 sb__law_of)
noncomputable def sb__law_at_bounds : FS :=
    (sSeq (sSet 1 (fTup (fCons (fFn 2 fn__law_of (fCons (fV 0) (fCons (fLz (fCons (fC (.int 1000)) (fCons (fNeg (fC (.int 1000))) (fCons (fC (.int 1001)) (fCons (fNeg (fC (.int 1001))) (fCons (fC (.int 0)) fNil)))))) fNil))) (fCons (fFn 2 fn__law_of (fCons (fV 0) (fCons (fLz (fCons (fC (.int 0)) (fCons (fC (.int 1000)) (fCons (fNeg (fC (.int 1000))) fNil)))) fNil))) fNil))))
    (sSeq (sPar [2, 3] (fCons (fFn 2 fn__law_of (fCons (fV 0) (fCons (fLz (fCons (fC (.int 1)) (fCons (fC (.int 1000000)) (fCons (fC (.int 0)) (fCons (fC (.int 1000001)) fNil))))) fNil))) (fCons (fFn 2 fn__law_of (fCons (fV 0) (fCons (fLz (fCons (fC (.int 1)) (fCons (fC (.int 1000)) (fCons (fC (.int 0)) (fCons (fC (.int 1001)) fNil))))) fNil))) fNil)))
    (sRet (fTup (fCons (fTup (fCons (fC (.str "ann")) (fCons (fV 1) (fCons (fV 2) (fCons (fTup (fCons (fC (.int 0)) (fCons (fFn 2 fn__law_of (fCons (fV 0) (fCons (fLz (fCons (fC (.int 1000)) (fCons (fC (.int 1001)) (fCons (fNeg (fC (.int 1000))) fNil)))) fNil))) fNil))) (fCons (fV 3) fNil)))))) fNil)))))
noncomputable def fn__law_at_bounds : HA := sealFn (runD 4 sb__law_at_bounds)
noncomputable def sb_seat : FS :=
    (sSeq (sFor (iEnum (fCons (fV 0) fNil)) (.many [2, 3]) (sIf (fTst (fOp eqD (fOp ixD (fV 3) (fC (.int 0))) (fV 1))) (sRet (fV 2)) sNext))
    sNever)
noncomputable def fn_seat : HA := sealFn (runD 4 sb_seat)
noncomputable def sb_other_senders : FS :=
    (sSeq (sSet 3 (fOp ixD (fV 0) (fC (.int 0))))
    (sSeq (sIf (fTst (fOp eqD (fOp ixD (fV 1) (fFn 2 fn_seat (fCons (fV 3) (fCons (fV 2) fNil)))) (fC (.int 0)))) sNever sNext)
    (sRet (fLcZ (iZip2 (fCons (fV 3) (fCons (fV 1) fNil))) (.many [4, 5]) (fTAnd (fTst (fOp neD (fV 5) (fC (.int 0)))) (fTst (fOp neD (fOp ixD (fV 4) (fC (.int 0))) (fV 2)))) (fOp ixD (fV 4) (fC (.int 0))) [4, 5]))))
noncomputable def fn_other_senders : HA := sealFn (runD 6 sb_other_senders)
noncomputable def sb_spread : FS :=
    (sSeq (sSet 2 (fOp subD (fOp ixD (fV 1) (fC (.int 0))) (fOp ixD (fV 0) (fC (.int 0)))))
    (sSeq (sSet 3 (fOp subD (fOp ixD (fV 1) (fC (.int 1))) (fOp ixD (fV 0) (fC (.int 1)))))
    (sRet (fOp addD (fOp addD (fOp mulD (fV 2) (fV 2)) (fOp mulD (fV 3) (fV 3))) (fC (.int 1))))))
noncomputable def fn_spread : HA := sealFn (runD 4 sb_spread)
noncomputable def sb_ear : FS :=
    (sSeq (sUnp (.many [2, 3]) (fV 0))
    (sSeq (sUnp (.many [4, 5]) (fSl (fOp ixD (fV 2) (fV 1)) (oSome (fC (.int 3))) oNone))
    (sSeq (sSet 6 (fLcZ (iSeq (fV 2)) (.one 11) fYes (fFn 2 fn_spread (fCons (fOp ixD (fV 11) (fC (.int 1))) (fCons (fV 4) fNil))) [11]))
    (sSeq (sSet 7 (fC (.int 1)))
    (sSeq (sFor (iSeq (fV 6)) (.one 8) (sAug 7 imulD (fV 8)))
    (sSeq (sSet 9 (fLcZ (iZip2 (fCons (fV 2) (fCons (fV 6) fNil))) (.many [11, 8]) fYes (fOp mulD (fOp ixD (fV 11) (fC (.int 2))) (fOp fdivD (fV 7) (fV 8))) [11, 8]))
    (sSeq (sSet 10 (fLc (iSeq (fV 9)) (.one 12) fYes (fTup (fCons (fOp mulD (fOp mulD (fV 5) (fV 3)) (fV 12)) (fCons (fOp mulD (fV 5) (fV 12)) (fCons (fC (.int 0)) fNil)))) [12]))
    (sSeq (sPut (fTup (fCons (fC (.int 0)) (fCons (fC (.int 0)) (fCons (fC (.int 0)) fNil)))) (fV 10) (fV 1))
    (sRet (fTup (fCons (fOp mulD (fV 3) (fOp ixD (fV 9) (fV 1))) (fCons (fV 10) fNil))))))))))))
noncomputable def fn_ear : HA := sealFn (runD 13 sb_ear)
noncomputable def sb_gap : FS :=
    (sSeq (sIf (fTst (fOp (inW false) (fC (.int 0)) (fTup (fCons (fV 0) (fCons (fV 1) fNil))))) (sRet (fC (.int 2))) sNext)
    (sRet (fCall minD (fCons (fCall absD (fCons (fOp subD (fV 0) (fV 1)) fNil)) (fCons (fC (.int 2)) fNil)))))
noncomputable def fn_gap : HA := sealFn (runD 2 sb_gap)
noncomputable def sb_hears : FS :=
    (sSeq (sUnp (.many [3, 4]) (fV 0))
    (sRet (fOp geD (fV 3) (fCall sumD (fCons (fLcZ (iZip2 (fCons (fV 4) (fCons (fV 2) fNil))) (.many [5, 6]) fYes (fOp ixD (fV 5) (fFn 2 fn_gap (fCons (fV 1) (fCons (fV 6) fNil)))) [5, 6]) fNil)))))
noncomputable def fn_hears : HA := sealFn (runD 7 sb_hears)
noncomputable def sb_is_heard : FS :=
    (sSeq (sSet 3 (fFn 2 fn_seat (fCons (fOp ixD (fV 0) (fC (.int 0))) (fCons (fV 2) fNil))))
    (sRet (fAnd (fOp neD (fOp ixD (fV 1) (fV 3)) (fC (.int 0))) (fFn 3 fn_hears (fCons (fFn 2 fn_ear (fCons (fV 0) (fCons (fV 3) fNil))) (fCons (fOp ixD (fV 1) (fV 3)) (fCons (fV 1) fNil)))))))
noncomputable def fn_is_heard : HA := sealFn (runD 4 sb_is_heard)
noncomputable def sb_silenced : FS :=
    (sSeq (sSet 3 (fOp ixD (fV 0) (fC (.int 0))))
    (sRet (fTupG (iZip2 (fCons (fV 3) (fCons (fV 1) fNil))) (.many [0, 1]) (fIf (fTst (fOp (inW false) (fOp ixD (fV 0) (fC (.int 0))) (fV 2))) (fC (.int 0)) (fV 1)) [none, none, some 2])))
noncomputable def fn_silenced : HA := sealFn (runD 4 sb_silenced)
noncomputable def sb_choices (rec : HA) : FS :=
    (sSeq (sIf (fTst (fOp eqD (fV 1) (fC (.int 0)))) (sRet (fLz (fCons (fTup fNil) fNil))) sNext)
    (sSeq (sSet 2 (fLst fNil))
    (sSeq (sFor (iEnum (fCons (fV 0) fNil)) (.many [3, 4]) (sFor (iSeq (fFn 2 rec (fCons (fSl (fV 0) (oSome (fOp addD (fV 3) (fC (.int 1)))) oNone) (fCons (fOp subD (fV 1) (fC (.int 1))) fNil)))) (.one 5) (sExpr (fApp (fV 2) (fTup (fCons (fV 4) (fStar (fV 5) fNil)))))))
    (sRet (fV 2)))))
noncomputable def fn_choices : Nat → HA
  | 0 => fun _ _ => none
  | n + 1 => sealFn (runD 6 (sb_choices (fn_choices n)))
noncomputable def sb_fewest_of : FS :=
    (sSeq (sFor (iRange1 (fCons (fCall lenD (fCons (fV 3) fNil)) fNil)) (.one 4) (sFor (iSeq (fFn 2 (fn_choices 10) (fCons (fV 3) (fCons (fV 4) fNil)))) (.one 5) (sIf (fTst (fFn 3 fn_is_heard (fCons (fV 0) (fCons (fFn 3 fn_silenced (fCons (fV 0) (fCons (fV 1) (fCons (fV 5) fNil)))) (fCons (fV 2) fNil))))) (sRet (fV 5)) sNext)))
    (sRet (fCall tupleD (fCons (fV 3) fNil))))
noncomputable def fn_fewest_of : HA := sealFn (runD 6 sb_fewest_of)
noncomputable def sb_cure : FS :=
    (sRet (fFn 4 fn_fewest_of (fCons (fV 0) (fCons (fV 1) (fCons (fV 2) (fCons (fFn 3 fn_other_senders (fCons (fV 0) (fCons (fV 1) (fCons (fV 2) fNil)))) fNil))))))
noncomputable def fn_cure : HA := sealFn (runD 3 sb_cure)
noncomputable def sb_is_cure : FS :=
    (sSeq (sSet 4 (fFn 3 fn_other_senders (fCons (fV 0) (fCons (fV 1) (fCons (fV 2) fNil)))))
    (sSeq (sIf (fTOr (fTNot (fTst (fCall isiD (fCons (fV 3) (fCons (fC (.ty "tuple")) fNil))))) (fTNot (fTst (fAllG (iSeq (fV 3)) (.one 0) (fOp (inW false) (fV 0) (fV 1)) [none, some 4])))) (sRet (fC (.bl false))) sNext)
    (sRet (fAnd (fFn 1 fn_is_rising (fCons (fV 3) fNil)) (fFn 3 fn_is_heard (fCons (fV 0) (fCons (fFn 3 fn_silenced (fCons (fV 0) (fCons (fV 1) (fCons (fV 3) fNil)))) (fCons (fV 2) fNil))))))))
noncomputable def fn_is_cure : HA := sealFn (runD 5 sb_is_cure)
noncomputable def sb__law_names : FS :=
    (sRet (fLcZ (iSeq (fOp ixD (fV 0) (fC (.int 0)))) (.one 1) fYes (fOp ixD (fV 1) (fC (.int 0))) [1]))
noncomputable def fn__law_names : HA := sealFn (runD 2 sb__law_names)
noncomputable def sb__law_part : FS :=
    (sSeq (sPar [2, 3] (fCons (fOp subD (fOp ixD (fOp ixD (fV 0) (fC (.int 1))) (fC (.int 0))) (fOp ixD (fOp ixD (fV 1) (fC (.int 3))) (fC (.int 0)))) (fCons (fOp subD (fOp ixD (fOp ixD (fV 0) (fC (.int 1))) (fC (.int 1))) (fOp ixD (fOp ixD (fV 1) (fC (.int 3))) (fC (.int 1)))) fNil)))
    (sRet (fTup (fCons (fOp ixD (fV 0) (fC (.int 2))) (fCons (fOp addD (fOp addD (fOp powD (fV 2) (fC (.int 2))) (fOp powD (fV 3) (fC (.int 2)))) (fC (.int 1))) fNil)))))
noncomputable def fn__law_part : HA := sealFn (runD 4 sb__law_part)
noncomputable def sb__law_rows : FS :=
    (sSeq (sSet 3 (fLst fNil))
    (sSeq (sFor (iEnum (fCons (fOp ixD (fV 0) (fC (.int 0))) fNil)) (.many [4, 5]) (sIf (fTAnd (fTst (fOp neD (fV 4) (fV 2))) (fTst (fOp gtD (fOp mulD (fOp ixD (fV 1) (fV 2)) (fOp ixD (fV 1) (fV 4))) (fC (.int 0))))) (sSeq (sUnp (.many [6, 7]) (fFn 2 fn__law_part (fCons (fV 5) (fCons (fOp ixD (fOp ixD (fV 0) (fC (.int 0))) (fV 2)) fNil))))
    (sIf (fTst (fOp eqD (fOp ixD (fV 1) (fV 2)) (fOp ixD (fV 1) (fV 4)))) (sExpr (fApp (fV 3) (fTup (fCons (fV 4) (fCons (fV 6) (fCons (fV 7) fNil)))))) (sIf (fTst (fOp (inW false) (fOp subD (fOp ixD (fV 1) (fV 2)) (fOp ixD (fV 1) (fV 4))) (fLz (fCons (fC (.int 1)) (fCons (fNeg (fC (.int 1))) fNil))))) (sExpr (fApp (fV 3) (fTup (fCons (fV 4) (fCons (fV 6) (fCons (fOp mulD (fV 7) (fOp ixD (fV 0) (fC (.int 1)))) fNil)))))) sNext))) sNext))
    (sRet (fV 3))))
noncomputable def fn__law_rows : HA := sealFn (runD 8 sb__law_rows)
noncomputable def sb__law_sum : FS :=
    (sSeq (sSet 1 (fC (.int 1)))
    (sSeq (sFor (iSeq (fV 0)) (.one 2) (sSet 1 (fOp mulD (fV 1) (fOp ixD (fV 2) (fC (.int 2))))))
    (sRet (fTup (fCons (fCall sumD (fCons (fLcZ (iSeq (fV 0)) (.one 2) fYes (fOp mulD (fOp ixD (fV 2) (fC (.int 1))) (fOp fdivD (fV 1) (fOp ixD (fV 2) (fC (.int 2))))) [2]) fNil)) (fCons (fV 1) fNil))))))
noncomputable def fn__law_sum : HA := sealFn (runD 3 sb__law_sum)
noncomputable def sb__law_stands : FS :=
    (sSeq (sUnp (.many [3, 4]) (fFn 2 fn__law_part (fCons (fOp ixD (fOp ixD (fV 0) (fC (.int 0))) (fV 1)) (fCons (fOp ixD (fOp ixD (fV 0) (fC (.int 0))) (fV 1)) fNil))))
    (sSeq (sUnp (.many [5, 6]) (fFn 1 fn__law_sum (fCons (fV 2) fNil)))
    (sRet (fOp geD (fOp mulD (fV 3) (fV 6)) (fOp mulD (fOp mulD (fOp ixD (fOp ixD (fOp ixD (fV 0) (fC (.int 0))) (fV 1)) (fC (.int 4))) (fV 5)) (fV 4))))))
noncomputable def fn__law_stands : HA := sealFn (runD 7 sb__law_stands)
noncomputable def sb__law_is_cure : FS :=
    (sSeq (sIf (fTNot (fTst (fCall isiD (fCons (fV 3) (fCons (fC (.ty "tuple")) fNil))))) (sRet (fC (.bl false))) sNext)
    (sSeq (sSet 4 (fLcZ (iRange1 (fCons (fCall lenD (fCons (fV 1) fNil)) fNil)) (.one 6) (fTAnd (fTst (fOp gtD (fOp ixD (fV 1) (fV 6)) (fC (.int 0)))) (fTst (fOp neD (fV 6) (fV 2)))) (fOp ixD (fOp ixD (fOp ixD (fV 0) (fC (.int 0))) (fV 6)) (fC (.int 0))) [6]))
    (sSeq (sIf (fTst (fOp neD (fLcZ (iSeq (fV 3)) (.one 8) (fTOr (fTNot (fTst (fCall isiD (fCons (fV 8) (fCons (fC (.ty "str")) fNil))))) (fTst (fOp (inW true) (fV 8) (fV 4)))) (fV 8) [8]) (fLz fNil))) (sRet (fC (.bl false))) sNext)
    (sSeq (sIf (fTst (fOp neD (fCall listZ (fCons (fV 3) fNil)) (fSortSeq (fV 3)))) (sRet (fC (.bl false))) sNext)
    (sSeq (sSet 5 (fLcZ (iSeq (fFn 3 fn__law_rows (fCons (fV 0) (fCons (fV 1) (fCons (fV 2) fNil))))) (.one 7) (fTst (fOp (inW true) (fOp ixD (fOp ixD (fOp ixD (fV 0) (fC (.int 0))) (fOp ixD (fV 7) (fC (.int 0)))) (fC (.int 0))) (fV 3))) (fV 7) [7]))
    (sRet (fFn 3 fn__law_stands (fCons (fV 0) (fCons (fV 2) (fCons (fV 5) fNil))))))))))
noncomputable def fn__law_is_cure : HA := sealFn (runD 9 sb__law_is_cure)
noncomputable def sb_common_divisor : FS :=
    (sSeq (sWhile 4000 (fTst (fOp neD (fV 1) (fC (.int 0)))) (sPar [0, 1] (fCons (fV 1) (fCons (fOp modD (fV 0) (fV 1)) fNil))))
    (sRet (fV 0)))
noncomputable def fn_common_divisor : HA := sealFn (runD 2 sb_common_divisor)
noncomputable def sb_fraction : FS :=
    (sSeq (sSet 2 (fFn 2 fn_common_divisor (fCons (fV 0) (fCons (fV 1) fNil))))
    (sSeq (sIf (fTst (fOp eqD (fV 2) (fC (.int 0)))) (sRet (fTup (fCons (fV 0) (fCons (fV 1) fNil)))) sNext)
    (sRet (fTup (fCons (fOp fdivD (fV 0) (fV 2)) (fCons (fOp fdivD (fV 1) (fV 2)) fNil))))))
noncomputable def fn_fraction : HA := sealFn (runD 3 sb_fraction)
noncomputable def sb_total : FS :=
    (sSeq (sUnp (.many [1, 2]) (fTup (fCons (fC (.int 0)) (fCons (fC (.int 1)) fNil))))
    (sSeq (sFor (iSeq (fV 0)) (.many [3, 4]) (sUnp (.many [1, 2]) (fFn 2 fn_fraction (fCons (fOp addD (fOp mulD (fV 1) (fV 4)) (fOp mulD (fV 3) (fV 2))) (fCons (fOp mulD (fV 2) (fV 4)) fNil)))))
    (sRet (fTup (fCons (fV 1) (fCons (fV 2) fNil))))))
noncomputable def fn_total : HA := sealFn (runD 5 sb_total)
noncomputable def sb_arriving : FS :=
    (sRet (fFn 2 fn_fraction (fCons (fOp ixD (fV 0) (fC (.int 2))) (fCons (fOp mulD (fFn 2 fn_spread (fCons (fOp ixD (fV 0) (fC (.int 1))) (fCons (fV 1) fNil))) (fV 2)) fNil))))
noncomputable def fn_arriving : HA := sealFn (runD 3 sb_arriving)
noncomputable def sb_comes : FS :=
    (sSeq (sSet 3 (fOp ixD (fV 0) (fFn 2 fn_seat (fCons (fV 0) (fCons (fV 1) fNil)))))
    (sSeq (sSet 4 (fOp ixD (fV 0) (fFn 2 fn_seat (fCons (fV 0) (fCons (fV 2) fNil)))))
    (sRet (fFn 3 fn_arriving (fCons (fV 3) (fCons (fOp ixD (fV 4) (fC (.int 3))) (fCons (fC (.int 1)) fNil)))))))
noncomputable def fn_comes : HA := sealFn (runD 5 sb_comes)
noncomputable def sb_disturbed_by : FS :=
    (sSeq (sUnp (.many [3, 4]) (fV 0))
    (sSeq (sSet 5 (fFn 2 fn_seat (fCons (fV 3) (fCons (fV 2) fNil))))
    (sSeq (sSet 6 (fTup (fCons (fC (.int 1)) (fCons (fV 4) fNil))))
    (sSeq (sSet 7 (fLst fNil))
    (sSeq (sFor (iZip2 (fCons (fV 3) (fCons (fV 1) fNil))) (.many [8, 9]) (sSeq (sSet 10 (fFn 2 fn_gap (fCons (fOp ixD (fV 1) (fV 5)) (fCons (fV 9) fNil))))
    (sIf (fTAnd (fTst (fOp neD (fV 10) (fC (.int 2)))) (fTst (fOp neD (fOp ixD (fV 8) (fC (.int 0))) (fV 2)))) (sExpr (fApp (fV 7) (fTup (fCons (fOp ixD (fV 8) (fC (.int 0))) (fCons (fFn 3 fn_arriving (fCons (fV 8) (fCons (fOp ixD (fOp ixD (fV 3) (fV 5)) (fC (.int 3))) (fCons (fOp ixD (fV 6) (fV 10)) fNil)))) fNil))))) sNext)))
    (sRet (fV 7)))))))
noncomputable def fn_disturbed_by : HA := sealFn (runD 11 sb_disturbed_by)
noncomputable def sb_margin : FS :=
    (sSeq (sSet 3 (fFn 3 fn_disturbed_by (fCons (fV 0) (fCons (fV 1) (fCons (fV 2) fNil)))))
    (sSeq (sIf (fTNot (fTru (fV 3))) (sRet (fC .non)) sNext)
    (sSeq (sSet 4 (fOp ixD (fV 0) (fC (.int 0))))
    (sSeq (sUnp (.many [5, 6]) (fFn 3 fn_comes (fCons (fV 4) (fCons (fV 2) (fCons (fV 2) fNil)))))
    (sSeq (sUnp (.many [7, 8]) (fFn 1 fn_total (fCons (fLcZ (iSeq (fV 3)) (.many [10, 11]) fYes (fV 11) [10, 11]) fNil)))
    (sSeq (sSet 9 (fOp ixD (fOp ixD (fV 4) (fFn 2 fn_seat (fCons (fV 4) (fCons (fV 2) fNil)))) (fC (.int 4))))
    (sRet (fFn 2 fn_fraction (fCons (fOp mulD (fV 5) (fV 8)) (fCons (fOp mulD (fOp mulD (fV 6) (fV 9)) (fV 7)) fNil))))))))))
noncomputable def fn_margin : HA := sealFn (runD 12 sb_margin)
noncomputable def sb__law_no_less : FS :=
    (sRet (fOr (fOp (isB false) (fV 0) (fC .non)) (fAnd (fOp (isB true) (fV 1) (fC .non)) (fOp geD (fOp mulD (fOp ixD (fV 0) (fC (.int 0))) (fOp ixD (fV 1) (fC (.int 1)))) (fOp mulD (fOp ixD (fV 1) (fC (.int 0))) (fOp ixD (fV 0) (fC (.int 1))))))))
noncomputable def fn__law_no_less : HA := sealFn (runD 2 sb__law_no_less)
noncomputable def sb__law_silenced_so : FS :=
    (sSeq (sSet 3 (fOp addD (fOp addD (fSl (fV 1) oNone (oSome (fV 2))) (fTup (fCons (fC (.int 0)) fNil))) (fSl (fV 1) (oSome (fOp addD (fV 2) (fC (.int 1)))) oNone)))
    (sSeq (sFor (iEnum (fCons (fFn 1 fn__law_names (fCons (fV 0) fNil)) fNil)) (.many [4, 5]) (sIf (fTst (fOp gtD (fOp ixD (fV 3) (fV 4)) (fC (.int 0)))) (sSeq (sIf (fTAnd (fTst (fFn 3 fn_is_heard (fCons (fV 0) (fCons (fV 1) (fCons (fV 5) fNil))))) (fTNot (fTst (fFn 3 fn_is_heard (fCons (fV 0) (fCons (fV 3) (fCons (fV 5) fNil))))))) (sRet (fC (.bl false))) sNext)
    (sIf (fTNot (fTst (fFn 2 fn__law_no_less (fCons (fFn 3 fn_margin (fCons (fV 0) (fCons (fV 3) (fCons (fV 5) fNil)))) (fCons (fFn 3 fn_margin (fCons (fV 0) (fCons (fV 1) (fCons (fV 5) fNil)))) fNil))))) (sRet (fC (.bl false))) sNext)) sNext))
    (sRet (fOp (isB false) (fFn 3 fn_is_heard (fCons (fV 0) (fCons (fV 3) (fCons (fOp ixD (fOp ixD (fOp ixD (fV 0) (fC (.int 0))) (fV 2)) (fC (.int 0))) fNil)))) (fC (.bl false))))))
noncomputable def fn__law_silenced_so : HA := sealFn (runD 6 sb__law_silenced_so)
noncomputable def sb_enough : FS :=
    (sRet (fOp leD (fCall lenD (fCons (fFn 3 fn_cure (fCons (fV 0) (fCons (fV 1) (fCons (fV 2) fNil)))) fNil)) (fV 3)))
noncomputable def fn_enough : HA := sealFn (runD 4 sb_enough)
noncomputable def sb__law_cured_so : FS :=
    (sSeq (sSet 4 (fFn 1 fn__law_names (fCons (fV 1) fNil)))
    (sSeq (sSet 5 (fFn 3 fn_cure (fCons (fV 1) (fCons (fV 2) (fCons (fOp ixD (fV 4) (fV 3)) fNil)))))
    (sSeq (sSet 6 (fLcZ (iRange1 (fCons (fCall lenD (fCons (fV 4) fNil)) fNil)) (.one 11) (fTAnd (fTst (fOp neD (fV 11) (fV 3))) (fTst (fOp gtD (fOp ixD (fV 2) (fV 11)) (fC (.int 0))))) (fOp ixD (fV 4) (fV 11)) [11]))
    (sSeq (sSet 7 (fCall tupleD (fCons (fLcZ (iSeq (fV 6)) (.one 12) (fTOr (fTst (fOp (inW false) (fV 12) (fV 5))) (fTst (fOp eqD (fFn 2 fn__law_take (fCons (fV 0) (fCons (fC (.int 2)) fNil))) (fC (.int 0))))) (fV 12) [12]) fNil)))
    (sSeq (sIf (fTOr (fTst (fOp (isB true) (fFn 4 fn_is_cure (fCons (fV 1) (fCons (fV 2) (fCons (fOp ixD (fV 4) (fV 3)) (fCons (fV 5) fNil))))) (fC (.bl true)))) (fTst (fOp (isB true) (fFn 4 fn_is_cure (fCons (fV 1) (fCons (fV 2) (fCons (fOp ixD (fV 4) (fV 3)) (fCons (fV 7) fNil))))) (fC (.bl true))))) (sRet (fC (.bl false))) sNext)
    (sSeq (sIf (fTOr (fTNot (fTst (fFn 4 fn_enough (fCons (fV 1) (fCons (fV 2) (fCons (fOp ixD (fV 4) (fV 3)) (fCons (fCall lenD (fCons (fV 5) fNil)) fNil))))))) (fTst (fFn 4 fn_enough (fCons (fV 1) (fCons (fV 2) (fCons (fOp ixD (fV 4) (fV 3)) (fCons (fOp subD (fCall lenD (fCons (fV 5) fNil)) (fC (.int 1))) fNil))))))) (sRet (fC (.bl false))) sNext)
    (sSeq (sSet 8 (fCall tupleD (fCons (fLcZ (iRange1 (fCons (fCall lenD (fCons (fV 4) fNil)) fNil)) (.one 11) fYes (fIf (fTst (fOp (inW false) (fOp ixD (fV 4) (fV 11)) (fV 5))) (fC (.int 0)) (fOp ixD (fV 2) (fV 11))) [11]) fNil)))
    (sSeq (sIf (fTst (fOp (isB true) (fFn 3 fn_is_heard (fCons (fV 1) (fCons (fV 8) (fCons (fOp ixD (fV 4) (fV 3)) fNil)))) (fC (.bl true)))) (sRet (fC (.bl false))) sNext)
    (sSeq (sFor (iRange1 (fCons (fC (.int 6)) fNil)) (.one 9) (sSeq (sSet 10 (fCall listD (fCons (fV 6) fNil)))
    (sSeq (sWhile 4000 (fTst (fOp gtD (fCall lenD (fCons (fV 10) fNil)) (fCall maxD (fCons (fC (.int 0)) (fCons (fOp subD (fCall lenD (fCons (fV 5) fNil)) (fC (.int 1))) fNil))))) (sExpr (fPop (fV 10) (fFn 2 fn__law_take (fCons (fV 0) (fCons (fCall lenD (fCons (fV 10) fNil)) fNil))))))
    (sIf (fTAnd (fTst (fOp neD (fV 5) (fTup fNil))) (fTst (fOp (isB true) (fFn 4 fn_is_cure (fCons (fV 1) (fCons (fV 2) (fCons (fOp ixD (fV 4) (fV 3)) (fCons (fCall tupleD (fCons (fV 10) fNil)) fNil))))) (fC (.bl false))))) (sRet (fC (.bl false))) sNext))))
    (sRet (fOp eqD (fOp eqD (fV 5) (fTup fNil)) (fFn 3 fn_is_heard (fCons (fV 1) (fCons (fV 2) (fCons (fOp ixD (fV 4) (fV 3)) fNil)))))))))))))))
noncomputable def fn__law_cured_so : HA := sealFn (runD 13 sb__law_cured_so)
end FW

set_option Elab.async false
set_option linter.all false
set_option maxRecDepth 100000
set_option maxHeartbeats 1000000
/-! the functions evaluated: one step each -/
namespace EL
open PySem PySem.Spec PyProof.Rows L2 GxR LG ZN
theorem bind_lazy {α β : Type} {x x' : Option α} {f : α → Option β} (h : x = x') : x.bind f = x'.bind f := by rw [h]
section
variable {ρ : Rho} {st : Sto} {fa fb fc : FE} {ta tb : FT} {fr : FA} {s1 s2 : FS} {h h' : D → D → Sto → Option (D × Sto)} {hA : HA} {n : Nat}
@[simp] theorem e_run {N : Nat} {sb : FS} {ds : List D} : runD N sb ds st = (sb (ds.map some ++ List.replicate (N - ds.length) none) st).bind fun p => match p.1 with
  | .rt d => some (d, p.2.2)
  | .nx => some (.non, p.2.2)
  | _ => none := rfl
@[simp] theorem e_seq : sSeq s1 s2 ρ st = (s1 ρ st).bind fun p => match p.1 with
  | .nx => s2 p.2.1 p.2.2
  | f => some (f, p.2.1, p.2.2) := rfl
@[simp] theorem e_next : sNext ρ st = some (.nx, ρ, st) := rfl
@[simp] theorem e_set {i : Nat} : sSet i fa ρ st = (fa ρ st).bind fun p => some (.nx, ρ.set i (some p.1), p.2) := rfl
@[simp] theorem e_expr : sExpr fa ρ st = (fa ρ st).bind fun p => some (.nx, ρ, p.2) := rfl
@[simp] theorem e_ret : sRet fa ρ st = (fa ρ st).bind fun p => some (.rt p.1, ρ, p.2) := rfl
@[simp] theorem e_retN : sRetN ρ st = some (.rt .non, ρ, st) := rfl
@[simp] theorem e_if : sIf ta s1 s2 ρ st = (ta ρ st).bind fun p => if p.1 = true then s1 ρ p.2 else s2 ρ p.2 := rfl
@[simp] theorem e_put {fo fi : FE} : sPut fa fo fi ρ st = (fa ρ st).bind fun p => (fo ρ p.2).bind fun q => (fi ρ q.2).bind fun r => (putIx q.1 r.1 p.1 r.2).bind fun st' => some (.nx, ρ, st') := by
  unfold sPut
  congr; funext p; congr; funext q; congr; funext r
  cases putIx q.1 r.1 p.1 r.2 <;> rfl
@[simp] theorem e_unp {tg : Tg} : sUnp tg fa ρ st = (fa ρ st).bind fun p => (tgD tg p.1 ρ).bind fun ρ' => some (.nx, ρ', p.2) := by
  unfold sUnp
  congr; funext p
  cases tgD tg p.1 ρ <;> rfl
@[simp] theorem e_par {is : List Nat} : sPar is fr ρ st = (fr ρ st).bind fun p => if p.1.length = is.length then some (.nx, setM ρ is p.1, p.2) else none := rfl
@[simp] theorem e_C {d : D} : fC d ρ st = some (d, st) := rfl
@[simp] theorem e_V {i : Nat} : fV i ρ st = match ρ[i]? with
  | some (some d) => some (d, st)
  | _ => none := rfl
@[simp] theorem e_op : fOp h fa fb ρ st = (fa ρ st).bind fun p => (fb ρ p.2).bind fun q => h p.1 q.1 q.2 := rfl
@[simp] theorem e_chain : fChain h h' fa fb fc ρ st = (fa ρ st).bind fun p => (fb ρ p.2).bind fun q => (h p.1 q.1 q.2).bind fun r => match r.1 with
  | .bl true => (fc ρ r.2).bind fun z => h' q.1 z.1 z.2
  | .bl false => some (.bl false, r.2)
  | _ => none := rfl
@[simp] theorem e_asB {b : Bool} : asB (.bl b) = some b := rfl
@[simp] theorem e_and : fAnd fa fb ρ st = (fa ρ st).bind fun p => (asB p.1).bind fun k => if k = true then fb ρ p.2 else some (.bl false, p.2) := rfl
@[simp] theorem e_or : fOr fa fb ρ st = (fa ρ st).bind fun p => (asB p.1).bind fun k => if k = true then some (.bl true, p.2) else fb ρ p.2 := rfl
@[simp] theorem e_not : fNot fa ρ st = (fa ρ st).bind fun p => (asB p.1).bind fun k => some (.bl (!k), p.2) := rfl
@[simp] theorem e_tst : fTst fa ρ st = (fa ρ st).bind fun p => (asB p.1).bind fun k => some (k, p.2) := rfl
@[simp] theorem e_tand : fTAnd ta tb ρ st = (ta ρ st).bind fun p => if p.1 = true then tb ρ p.2 else some (false, p.2) := rfl
@[simp] theorem e_tor : fTOr ta tb ρ st = (ta ρ st).bind fun p => if p.1 = true then some (true, p.2) else tb ρ p.2 := rfl
@[simp] theorem e_tnot : fTNot ta ρ st = (ta ρ st).bind fun p => some (!p.1, p.2) := rfl
@[simp] theorem e_ifx : fIf ta fa fb ρ st = (ta ρ st).bind fun p => if p.1 = true then fa ρ p.2 else fb ρ p.2 := rfl
@[simp] theorem e_nil : fNil ρ st = some ([], st) := rfl
@[simp] theorem e_cons : fCons fa fr ρ st = (fa ρ st).bind fun p => (fr ρ p.2).bind fun q => some (p.1 :: q.1, q.2) := rfl
@[simp] theorem e_tup : fTup fr ρ st = (fr ρ st).bind fun p => if p.1.length ≤ sizeLine then some (.tup p.1, p.2) else none := rfl
@[simp] theorem e_lst : fLst fr ρ st = (fr ρ st).bind fun p => if p.1.length ≤ sizeLine then some (.ref p.2.length, p.2 ++ [.lst p.1]) else none := rfl
@[simp] theorem e_lz : fLz fr ρ st = (fr ρ st).bind fun p => if p.1.length ≤ sizeLine then some (.lst p.1, p.2) else none := rfl
@[simp] theorem e_star : fStar fa fr ρ st = (fa ρ st).bind fun p => (seqD p.1 p.2).bind fun xs => (fr ρ p.2).bind fun q => some (xs ++ q.1, q.2) := rfl
@[simp] theorem e_tru : fTru fa ρ st = (fa ρ st).bind fun p => (truD p.1 p.2).bind fun k => some (k, p.2) := rfl
@[simp] theorem e_aug {i : Nat} : sAug i h fa ρ st = match ρ[i]? with
  | some (some x) => (fa ρ st).bind fun p => (h x p.1 p.2).bind fun z => some (.nx, ρ.set i (some z.1), z.2)
  | _ => none := rfl
@[simp] theorem e_yes : fYes ρ st = some (true, st) := rfl
@[simp] theorem e_call : fCall hA fr ρ st = (fr ρ st).bind fun p => hA p.1 p.2 := rfl
@[simp] theorem e_fn : fFn n hA fr ρ st = (fr ρ st).bind fun p => if p.1.length = n then hA p.1 p.2 else none := rfl
@[simp] theorem e_neg : fNeg fa ρ st = (fa ρ st).bind fun p => match p.1 with
  | .int i => some (.int (-i), p.2)
  | .bl b => some (.int (-(bI b)), p.2)
  | _ => none := rfl
@[simp] theorem e_sl {fl fu : FO} : fSl fa fl fu ρ st = (fa ρ st).bind fun p => (fl ρ p.2).bind fun l => (fu ρ l.2).bind fun u => sliceD p.1 l.1 u.1 u.2 := rfl
@[simp] theorem e_oN : oNone ρ st = some (none, st) := rfl
@[simp] theorem e_oS : oSome fa ρ st = (fa ρ st).bind fun p => match p.1 with
  | .int i => some (some i, p.2)
  | _ => none := rfl
@[simp] theorem e_isiT {Ts : List String} : fIsiT Ts fa ρ st = (fa ρ st).bind fun p => (tyN p.1 p.2).bind fun t => (kits t Ts).bind fun b => some (.bl b, p.2) := by
  unfold fIsiT
  congr; funext p; congr; funext t
  cases kits t Ts <;> rfl
@[simp] theorem e_app {fo : FE} : fApp fo fa ρ st = (fo ρ st).bind fun p => (fa ρ p.2).bind fun q => match p.1 with
  | .ref l => match p.2[l]?, q.2[l]? with
    | some (.lst _), some (.lst ds) => if ds.length < sizeLine then some (.non, q.2.set l (.lst (ds ++ [q.1]))) else none
    | _, _ => none
  | _ => none := rfl
@[simp] theorem e_upper : fUpper fa ρ st = (fa ρ st).bind fun p => match p.1 with
  | .str x => if x.length ≤ 5592405 then some (.str (Txt.upper x), p.2) else none
  | _ => none := rfl
/-! operators at values -/
variable {i j : Int} {x y : Str} {l m : Nat} {xs ys : List D}
@[simp] theorem e_addI : addD (.int i) (.int j) st = some (.int (i + j), st) := rfl
@[simp] theorem e_subI : subD (.int i) (.int j) st = some (.int (i - j), st) := rfl
@[simp] theorem e_mulI : mulD (.int i) (.int j) st = if i.natAbs.log2 + j.natAbs.log2 < 1000000 then some (.int (i * j), st) else none := by
  show Option.map _ (if _ then _ else _) = _
  split <;> rfl
@[simp] theorem e_fdivI : fdivD (.int i) (.int j) st = if 0 < j ∧ j.natAbs.log2 < 9000 then some (.int (i / j), st) else none := by
  show Option.map _ (if _ then _ else _) = _
  split <;> rfl
@[simp] theorem e_modI : modD (.int i) (.int j) st = if 0 < j then some (.int (i % j), st) else none := by
  show Option.map _ (if _ then _ else _) = _
  split <;> rfl
@[simp] theorem e_powI : powD (.int i) (.int j) st = if 0 ≤ j ∧ j ≤ 1000000 ∧ i.natAbs < 2 ^ 64 then some (.int (i ^ j.toNat), st) else none := by
  show Option.map _ (if _ then _ else _) = _
  split <;> rfl
@[simp] theorem e_ltI : ltD (.int i) (.int j) st = some (.bl (decide (i < j)), st) := rfl
@[simp] theorem e_leI : leD (.int i) (.int j) st = some (.bl (decide (i ≤ j)), st) := rfl
@[simp] theorem e_gtI : gtD (.int i) (.int j) st = some (.bl (decide (j < i)), st) := rfl
@[simp] theorem e_geI : geD (.int i) (.int j) st = some (.bl (decide (j ≤ i)), st) := rfl
@[simp] theorem e_ixT : ixD (.tup xs) (.int i) st = (atI xs i).bind fun d => some (d, st) := by
  show Option.map _ (atI xs i) = _
  cases atI xs i <;> rfl
@[simp] theorem e_ixZ : ixD (.lst xs) (.int i) st = (atI xs i).bind fun d => some (d, st) := by
  unfold ixD listOf
  simp only [Option.bind_some]
  cases atI xs i <;> rfl
theorem e_ixL {ds : List D} (h : st[l]? = some (.lst ds)) : ixD (.ref l) (.int i) st = (atI ds i).bind fun d => some (d, st) := by
  have q : listOf (.ref l) st = some ds := by unfold listOf; simp only [h]
  unfold ixD
  simp only [q, Option.bind_some]
  cases atI ds i <;> rfl
theorem e_putL {v : D} {ds : List D} (h : st[l]? = some (.lst ds)) : putIx (.ref l) (.int i) v st = (ixN ds.length i).bind fun j => some (st.set l (.lst (ds.set j v))) := by
  unfold putIx
  simp only [h]
  cases ixN ds.length i <;> rfl
@[simp] theorem e_lenT : lenD [.tup xs] st = some (.int xs.length, st) := rfl
@[simp] theorem e_lenZ : lenD [.lst xs] st = some (.int xs.length, st) := rfl
@[simp] theorem e_tupT : tupleD [.tup xs] st = some (.tup xs, st) := rfl
@[simp] theorem e_tupZ : tupleD [.lst xs] st = some (.tup xs, st) := rfl
@[simp] theorem e_listOfZ : listOf (.lst xs) st = some xs := rfl
theorem e_listOfR {ds : List D} (h : st[l]? = some (.lst ds)) : listOf (.ref l) st = some ds := by unfold listOf; simp only [h]
@[simp] theorem e_sqT : sqOf (.tup xs) st = some (true, xs) := rfl
@[simp] theorem e_sqZ : sqOf (.lst xs) st = some (false, xs) := rfl
@[simp] theorem e_seqT : seqD (.tup xs) st = some xs := rfl
@[simp] theorem e_seqZ : seqD (.lst xs) st = some xs := rfl
@[simp] theorem e_valZ : byVal (.lst xs) st = .lst xs := rfl
@[simp] theorem e_valT : byVal (.tup xs) st = .tup xs := rfl
@[simp] theorem e_valI : byVal (.int i) st = .int i := rfl
@[simp] theorem e_valS : byVal (.str x) st = .str x := rfl
@[simp] theorem e_valB {b : Bool} : byVal (.bl b) st = .bl b := rfl
@[simp] theorem e_valN : byVal .non st = .non := rfl
@[simp] theorem e_eqI : eqD (.int i) (.int j) st = some (.bl (decide (i = j)), st) := by
  unfold eqD eqW
  simp [okB, eqB]
  cases h : (i == j) <;> simp_all
@[simp] theorem e_neI : neD (.int i) (.int j) st = some (.bl (!decide (i = j)), st) := by
  unfold neD eqW
  simp [okB, eqB]
  cases h : (i == j) <;> simp_all
@[simp] theorem e_addT : addD (.tup xs) (.tup ys) st = if xs.length + ys.length ≤ sizeLine then some (.tup (xs ++ ys), st) else none := rfl
@[simp] theorem e_addZ : addD (.lst xs) (.lst ys) st = if xs.length + ys.length ≤ sizeLine then some (.lst (xs ++ ys), st) else none := rfl
@[simp] theorem e_slT {a b : Option Int} : sliceD (.tup xs) a b st = some (.tup (cutD xs a b), st) := rfl
@[simp] theorem e_slZ {a b : Option Int} : sliceD (.lst xs) a b st = some (.lst (cutD xs a b), st) := rfl
end
@[simp] theorem atI_0 {α : Type} {x : α} {r : List α} : atI (x :: r) 0 = some x := by simp [atI, ixN]
@[simp] theorem atI_1 {α : Type} {x y : α} {r : List α} : atI (x :: y :: r) 1 = some y := by
  have h : (1 : Int) < ((r.length : Int) + 1 + 1) := by omega
  simp [atI, ixN, h]
@[simp] theorem ixN_0 {n : Nat} : ixN (n + 1) 0 = some 0 := by
  have h : (0 : Int) < (n : Int) + 1 := by omega
  simp [ixN, h]
@[simp] theorem ixN_1 {n : Nat} : ixN (n + 1 + 1) 1 = some 1 := by
  have h : (1 : Int) < (n : Int) + 1 + 1 := by omega
  simp [ixN, h]
end EL

set_option Elab.async false
set_option linter.all false
set_option maxRecDepth 100000
set_option maxHeartbeats 1000000
/-! a value is given; the bag; ends of defs; loops -/
namespace EL
open PySem PySem.Spec PyProof.Rows L2 GxR LG
def Ok {α : Type} (x : Option α) (Q : α → Prop) : Prop := ∃ a, x = some a ∧ Q a
section
variable {α β : Type} {x : Option α} {Q R : α → Prop}
theorem Ok.mono (h : Ok x Q) (i : ∀ a, Q a → R a) : Ok x R := let ⟨a, e, q⟩ := h; ⟨a, e, i a q⟩
theorem Ok.pure {a : α} (h : Q a) : Ok (some a) Q := ⟨a, rfl, h⟩
theorem Ok.bind {f : α → Option β} {S : β → Prop} (h : Ok x fun a => Ok (f a) S) : Ok (x.bind f) S := by
  obtain ⟨a, rfl, b, e, s⟩ := h
  exact ⟨b, e, s⟩
theorem Ok.then {f : α → Option β} {S : β → Prop} (h : Ok x Q) (i : ∀ a, Q a → Ok (f a) S) : Ok (x.bind f) S := Ok.bind (h.mono i)
theorem Ok.eq {y : Option α} (h : Ok y Q) (e : x = y) : Ok x Q := by rw [e]; exact h
theorem Ok.and (h : Ok x Q) (h' : Ok x R) : Ok x fun a => Q a ∧ R a := by
  obtain ⟨a, rfl, q⟩ := h
  obtain ⟨b, e, r⟩ := h'
  cases e
  exact ⟨a, rfl, q, r⟩
end
/-! the bag: two numbers at the place lb -/
def bagO (x y : Int) : O := .lst [.int x, .int y]
def BagOk (x y : Int) : Prop := 0 ≤ x ∧ 0 ≤ y ∧ y < 2147483648
def Bg (lb : Nat) (st : Sto) : Prop := ∃ x y : Int, st[lb]? = some (bagO x y) ∧ BagOk x y
/-- only the bag has changed -/
def Go (lb : Nat) (st st' : Sto) : Prop := ∃ x y : Int, BagOk x y ∧ st' = st.set lb (bagO x y)
section
variable {lb l : Nat} {st st' st'' : Sto} {o : O}
theorem at_lt (h : st[l]? = some o) : l < st.length := (List.getElem?_eq_some_iff.mp h).1
theorem Bg.lt (h : Bg lb st) : lb < st.length := let ⟨_, _, h, _⟩ := h; at_lt h
theorem Go.refl (h : Bg lb st) : Go lb st st := by
  obtain ⟨x, y, h, b⟩ := h
  refine ⟨x, y, b, ?_⟩
  apply List.ext_getElem?
  intro i
  by_cases e : i = lb
  · subst e; rw [List.getElem?_set_self (at_lt h), h]
  · rw [List.getElem?_set_ne (Ne.symm e)]
theorem Go.trans (a : Go lb st st') (b : Go lb st' st'') : Go lb st st'' := by
  obtain ⟨x, y, _, rfl⟩ := a
  obtain ⟨x', y', h', rfl⟩ := b
  exact ⟨x', y', h', by rw [List.set_set]⟩
theorem Go.len (a : Go lb st st') : st'.length = st.length := by obtain ⟨x, y, _, rfl⟩ := a; simp
theorem Go.bg (h : lb < st.length) (a : Go lb st st') : Bg lb st' := by
  obtain ⟨x, y, b, rfl⟩ := a
  exact ⟨x, y, by rw [List.getElem?_set_self h], b⟩
theorem Go.at (a : Go lb st st') (n : l ≠ lb) : st'[l]? = st[l]? := by
  obtain ⟨x, y, b, rfl⟩ := a
  rw [List.getElem?_set_ne (Ne.symm n)]
theorem Go.app {more : Sto} (h : lb < st.length) (a : Go lb (st ++ more) st') : ∃ s2, st' = s2 ++ more ∧ Go lb st s2 := by
  obtain ⟨x, y, b, rfl⟩ := a
  exact ⟨st.set lb (bagO x y), by rw [List.set_append_left _ _ h], x, y, b, rfl⟩
theorem Bg.app (h : Bg lb st) (more : Sto) : Bg lb (st ++ more) := by
  obtain ⟨x, y, q, b⟩ := h
  exact ⟨x, y, by rw [List.getElem?_append_left (at_lt q)]; exact q, b⟩
theorem Go.calm (a : Go lb st st') : Calm st st' := by
  obtain ⟨x, y, b, rfl⟩ := a
  intro l o hl h
  by_cases e : l = lb
  · subst e
    rw [List.getElem?_set_self hl] at h
    cases h
    exact .inr rfl
  · rw [List.getElem?_set_ne (Ne.symm e)] at h
    exact .inl h
theorem at_new : (st ++ [o])[st.length]? = some o := by simp
theorem at_app (h : st[l]? = some o) (more : Sto) : (st ++ more)[l]? = some o := by
  rw [List.getElem?_append_left (at_lt h)]; exact h
end
/-! the end of a def -/
section
variable {fn : HA} {ds : List D} {st st' : Sto} {d d2 : D}
theorem seal_pure {n : Nat} (h : pureB d = true) : sealD n st d = some d := by
  unfold sealD
  split
  · rename_i es
    have q : ∀ es : List D, pureL es = true → seals n st es = some es := by
      intro es
      induction es with
      | nil => intro _; rfl
      | cons e es ih =>
        intro hp
        unfold pureL at hp
        obtain ⟨h1, h2⟩ := Bool.and_eq_true_iff.mp hp
        have s1 : seal1 n st e = some e := by
          unfold seal1
          split
          · unfold pureB at h1; cases h1
          · rw [if_pos h1]
        simp [seals, s1, ih h2]
    have hp : pureL es = true := by unfold pureB at h; exact h
    rw [q es hp]; rfl
  · unfold seal1
    split
    · unfold pureB at h; cases h
    · rw [if_pos h]
theorem seal_to {s2 : Sto} (h : fn ds st = some (d, st')) (c : Calm st st') (s : sealD st.length st' d = some d2) (t : st'.take st.length = s2) : sealFn fn ds st = some (d2, s2) := by
  unfold sealFn
  rw [h]
  simp only [Option.bind_some]
  unfold letGo
  rw [if_pos ⟨c, rfl⟩, s, t]
  rfl
theorem calm_refl : Calm st st := fun _ _ _ h => .inl h
theorem calm_app {more : Sto} (c : Calm st st') (hl : st'.length = st.length) : Calm st (st' ++ more) := fun l o h q => c l o h (by rw [List.getElem?_append_left (by omega)] at q; exact q)
/-- nothing is left behind -/
theorem seal_same (h : fn ds st = some (d, st)) (p : pureB d = true) : sealFn fn ds st = some (d, st) := seal_to h calm_refl (seal_pure p) (by simp)
/-- something is left behind -/
theorem seal_more {more : Sto} (h : fn ds st = some (d, st ++ more)) (p : pureB d = true) : sealFn fn ds st = some (d, st) := seal_to h (calm_app calm_refl rfl) (seal_pure p) (by simp)
theorem seal_list {more : Sto} {es : List D} (h : fn ds st = some (.ref st.length, st ++ .lst es :: more)) (p : pureL es = true) : sealFn fn ds st = some (.lst es, st) :=
  seal_to h (calm_app calm_refl rfl) (by simp [sealD, seal1, p]) (by simp)
/-- a def that draws -/
theorem seal_ok {lb : Nat} {P : D → Prop} (h : Ok (fn ds st) fun p => P p.1 ∧ pureB p.1 = true ∧ ∃ s2 more, p.2 = s2 ++ more ∧ Go lb st s2) : Ok (sealFn fn ds st) fun p => P p.1 ∧ Go lb st p.2 := by
  obtain ⟨⟨v, st'⟩, e, hp, hq, s2, more, rfl, g⟩ := h
  refine ⟨(v, s2), seal_to e (calm_app g.calm g.len) (seal_pure hq) ?_, hp, g⟩
  rw [← g.len]
  simp
end
end EL

set_option Elab.async false
set_option linter.all false
set_option maxRecDepth 100000
set_option maxHeartbeats 1000000
/-! expressions that draw; what is drawn -/
namespace EL
open PySem PySem.Spec PyProof.Rows L2 GxR LG FW
def ED (lb : Nat) (ρ : Rho) (f : FE) (P : D → Prop) : Prop := ∀ st, Bg lb st → Ok (f ρ st) fun p => P p.1 ∧ Go lb st p.2
def EA (lb : Nat) (ρ : Rho) (f : FA) (P : List D → Prop) : Prop := ∀ st, Bg lb st → Ok (f ρ st) fun p => P p.1 ∧ Go lb st p.2
def ET (lb : Nat) (ρ : Rho) (f : FT) : Prop := ∀ st, Bg lb st → Ok (f ρ st) fun p => Go lb st p.2
def Nn (lo hi : Int) (d : D) : Prop := ∃ i, d = .int i ∧ lo ≤ i ∧ i ≤ hi
section
variable {lb : Nat} {ρ : Rho} {f g : FE} {fr : FA} {ta tb : FT} {P Q R : D → Prop} {A B : List D → Prop}
theorem ED.mono (h : ED lb ρ f P) (i : ∀ d, P d → Q d) : ED lb ρ f Q := fun st b => (h st b).mono fun _ q => ⟨i _ q.1, q.2⟩
theorem EA.mono (h : EA lb ρ fr A) (i : ∀ d, A d → B d) : EA lb ρ fr B := fun st b => (h st b).mono fun _ q => ⟨i _ q.1, q.2⟩
theorem ED.c {d : D} (h : P d) : ED lb ρ (fC d) P := fun st b => ⟨_, rfl, h, .refl b⟩
theorem ED.v {i : Nat} {d : D} (e : ρ[i]? = some (some d)) (h : P d) : ED lb ρ (fV i) P := fun st b => ⟨(d, st), by unfold fV; rw [e], h, .refl b⟩
/-- whatever does not draw -/
theorem ED.q {d : D} (e : ∀ st, f ρ st = some (d, st)) (h : P d) : ED lb ρ f P := fun st b => ⟨(d, st), e st, h, .refl b⟩
theorem EA.nil (h : A []) : EA lb ρ fNil A := fun st b => ⟨_, rfl, h, .refl b⟩
theorem EA.cons (h : ED lb ρ f P) (t : EA lb ρ fr A) : EA lb ρ (fCons f fr) (fun ds => ∃ d r, ds = d :: r ∧ P d ∧ A r) := fun st b =>
  (h st b).then fun p q => (t p.2 (q.2.bg b.lt)).then fun r s => .pure ⟨⟨_, _, rfl, q.1, s.1⟩, q.2.trans s.2⟩
theorem EA.all0 : EA lb ρ fNil (fun ds => ds.length = 0 ∧ ∀ d ∈ ds, P d) := .nil ⟨rfl, fun _ h => by cases h⟩
theorem EA.allC {n : Nat} (h : ED lb ρ f P) (t : EA lb ρ fr (fun ds => ds.length = n ∧ ∀ d ∈ ds, P d)) : EA lb ρ (fCons f fr) (fun ds => ds.length = n + 1 ∧ ∀ d ∈ ds, P d) :=
  (EA.cons h t).mono fun ds ⟨d, r, e, p, q1, q2⟩ => by
    subst e
    exact ⟨by simp [q1], fun x hx => by rcases List.mem_cons.mp hx with z | z; exact z ▸ p; exact q2 x z⟩
theorem ED.tup (h : EA lb ρ fr (fun ds => ds.length ≤ sizeLine ∧ P (.tup ds))) : ED lb ρ (fTup fr) P := fun st b =>
  (h st b).then fun p q => by rw [if_pos q.1.1]; exact .pure ⟨q.1.2, q.2⟩
theorem ED.lz (h : EA lb ρ fr (fun ds => ds.length ≤ sizeLine ∧ P (.lst ds))) : ED lb ρ (fLz fr) P := fun st b =>
  (h st b).then fun p q => by rw [if_pos q.1.1]; exact .pure ⟨q.1.2, q.2⟩
theorem ED.call {h : HA} (a : EA lb ρ fr A) (k : ∀ ds st, A ds → Ok (h ds st) fun p => P p.1 ∧ p.2 = st) : ED lb ρ (fCall h fr) P := fun st b =>
  (a st b).then fun p q => (k p.1 p.2 q.1).mono fun r s => ⟨s.1, by rw [s.2]; exact q.2⟩
theorem ED.op {h : D → D → Sto → Option (D × Sto)} (a : ED lb ρ f P) (c : ED lb ρ g Q) (k : ∀ x y st, P x → Q y → Ok (h x y st) fun p => R p.1 ∧ p.2 = st) : ED lb ρ (fOp h f g) R := fun st b =>
  (a st b).then fun p q => (c p.2 (q.2.bg b.lt)).then fun r s => (k p.1 r.1 r.2 q.1 s.1).mono fun t u => ⟨u.1, by rw [u.2]; exact q.2.trans s.2⟩
theorem ED.fn {n : Nat} {h : HA} (a : EA lb ρ fr A) (k : ∀ ds st, A ds → Bg lb st → ds.length = n ∧ Ok (h ds st) fun p => P p.1 ∧ Go lb st p.2) : ED lb ρ (fFn n h fr) P := fun st b =>
  (a st b).then fun p q => by
    obtain ⟨e, o⟩ := k p.1 p.2 q.1 (q.2.bg b.lt)
    rw [if_pos e]
    exact o.mono fun r s => ⟨s.1, q.2.trans s.2⟩
theorem ED.ite (t : ET lb ρ ta) (a : ED lb ρ f P) (c : ED lb ρ g P) : ED lb ρ (fIf ta f g) P := fun st b =>
  (t st b).then fun p q => by
    split
    · exact (a p.2 (q.bg b.lt)).mono fun r s => ⟨s.1, q.trans s.2⟩
    · exact (c p.2 (q.bg b.lt)).mono fun r s => ⟨s.1, q.trans s.2⟩
theorem ET.tst (a : ED lb ρ f fun d => ∃ k, asB d = some k) : ET lb ρ (fTst f) := fun st b =>
  (a st b).then fun p q => by
    obtain ⟨⟨k, e⟩, g⟩ := q
    rw [e]
    exact .pure g
theorem ET.and (t : ET lb ρ ta) (u : ET lb ρ tb) : ET lb ρ (fTAnd ta tb) := fun st b =>
  (t st b).then fun p q => by
    split
    · exact (u p.2 (q.bg b.lt)).mono fun r s => q.trans s
    · exact .pure q
theorem ED.neg {lo hi : Int} (a : ED lb ρ f (Nn lo hi)) : ED lb ρ (fNeg f) (Nn (-hi) (-lo)) := fun st b => (a st b).then fun p q => by
  obtain ⟨⟨i, e, h1, h2⟩, g⟩ := q
  rw [e]
  exact .pure ⟨⟨_, rfl, by omega, by omega⟩, g⟩
theorem ED.add {l1 h1 l2 h2 lo hi : Int} (a : ED lb ρ f (Nn l1 h1)) (c : ED lb ρ g (Nn l2 h2)) (e1 : lo ≤ l1 + l2 := by decide) (e2 : h1 + h2 ≤ hi := by decide) : ED lb ρ (fOp addD f g) (Nn lo hi) :=
  .op a c fun x y st ⟨i, ei, i1, i2⟩ ⟨j, ej, j1, j2⟩ => by subst ei; subst ej; exact .pure ⟨⟨_, rfl, by omega, by omega⟩, rfl⟩
theorem ED.sub {l1 h1 l2 h2 lo hi : Int} (a : ED lb ρ f (Nn l1 h1)) (c : ED lb ρ g (Nn l2 h2)) (e1 : lo ≤ l1 - h2 := by decide) (e2 : h1 - l2 ≤ hi := by decide) : ED lb ρ (fOp subD f g) (Nn lo hi) :=
  .op a c fun x y st ⟨i, ei, i1, i2⟩ ⟨j, ej, j1, j2⟩ => by subst ei; subst ej; exact ⟨_, e_subI, ⟨_, rfl, by omega, by omega⟩, rfl⟩
theorem ED.n {i lo hi : Int} (h1 : lo ≤ i := by decide) (h2 : i ≤ hi := by decide) : ED lb ρ (fC (.int i)) (Nn lo hi) := .c ⟨i, rfl, h1, h2⟩
theorem ED.x {k : Nat} {i lo hi : Int} (e : ρ[k]? = some (some (.int i))) (h1 : lo ≤ i) (h2 : i ≤ hi) : ED lb ρ (fV k) (Nn lo hi) := .v e ⟨i, rfl, h1, h2⟩
theorem atI_lt {α : Type} {l : List α} {i : Int} (h0 : 0 ≤ i) (h1 : i < l.length) : ∃ x, atI l i = some x ∧ x ∈ l ∧ l[i.toNat]? = some x := by
  have h2 : i.toNat < l.length := by omega
  refine ⟨l[i.toNat], ?_, List.getElem_mem h2, by simp [h2]⟩
  unfold atI ixN
  have e1 : ¬ i < 0 := by omega
  simp [e1, h0, h1, h2]
theorem atI_nat {α : Type} {l : List α} {i : Nat} : atI l (i : Int) = l[i]? := by
  unfold atI ixN
  by_cases h : i < l.length
  · simp [h]
  · simp [h]
theorem ED.pick {n : Nat} (a : EA lb ρ fr (fun ds => ds.length = n ∧ ∀ d ∈ ds, P d)) (c : ED lb ρ g (Nn 0 ((n : Int) - 1))) (hn : n ≤ sizeLine := by decide) : ED lb ρ (fOp ixD (fLz fr) g) P :=
  .op (P := fun d => ∃ ds, d = .lst ds ∧ ds.length = n ∧ ∀ d ∈ ds, P d) (.lz (a.mono fun ds q => ⟨by rw [q.1]; exact hn, ds, rfl, q⟩)) c fun x y st ⟨ds, ex, h1, h2⟩ ⟨i, ey, i1, i2⟩ => by
    subst ex; subst ey
    obtain ⟨d, e1, e2, _⟩ := atI_lt (l := ds) i1 (by omega)
    rw [e_ixZ, e1]
    exact .pure ⟨h2 d e2, rfl⟩
end
theorem log2_small {i : Int} (h0 : 0 ≤ i) (h1 : i < 4294967296) : i.natAbs.log2 < 32 := by
  by_cases hz : i.natAbs = 0
  · rw [hz]; decide
  · exact (Nat.log2_lt hz).mpr (by omega)
theorem take_spec {lb : Nat} {m : Int} (hm : 1 ≤ m) (hm2 : m ≤ 1073741824) {st : Sto} (b : Bg lb st) : Ok (fn__law_take [.ref lb, .int m] st) fun p => Nn 0 (m - 1) p.1 ∧ Go lb st p.2 := by
  unfold fn__law_take
  refine seal_ok ?_
  obtain ⟨x, y, h, hx, hy, hz⟩ := b
  have e0 : (0 : Int) < m := by omega
  have em : m.natAbs.log2 < 9000 := by have := log2_small (i := m) (by omega) (by omega); omega
  unfold sb__law_take
  unfold bagO at h
  by_cases hp : 0 < x
  · refine ⟨(.int (x % m), st.set lb (bagO (x / m) y)), ?_, ⟨_, rfl, Int.emod_nonneg _ (by omega), by have := Int.emod_lt_of_pos x e0; omega⟩, rfl, _, [], (List.append_nil _).symm, _, _, ⟨Int.ediv_nonneg hx (by omega), hy, hz⟩, rfl⟩
    simp [e_ixL h, hp, e0, em, e_putL h, bagO]
  · have q1 := Int.emod_nonneg (y * 48271) (show (2147483647 : Int) ≠ 0 by decide)
    have q2 := Int.emod_lt_of_pos (y * 48271) (show (0 : Int) < 2147483647 by decide)
    have h' : (st.set lb (.lst [.int x, .int (y * 48271 % 2147483647)]))[lb]? = some (.lst [.int x, .int (y * 48271 % 2147483647)]) := by rw [List.getElem?_set_self (at_lt h)]
    have k1 : y.natAbs.log2 < 32 := log2_small hy (by omega)
    have k2 : (y * 48271 % 2147483647).natAbs.log2 < 32 := log2_small q1 (by omega)
    refine ⟨(.int (y * 48271 % 2147483647 * (y * 48271 % 2147483647) % 2147483629 / 64 % m), st.set lb (bagO x (y * 48271 % 2147483647))), ?_, ⟨_, rfl, Int.emod_nonneg _ (by omega), by have := Int.emod_lt_of_pos (y * 48271 % 2147483647 * (y * 48271 % 2147483647) % 2147483629 / 64) e0; omega⟩, rfl, _, [], (List.append_nil _).symm, _, _, ⟨hx, q1, by omega⟩, rfl⟩
    have w1 : Nat.log2 48271 < 32 := by decide
    have w2 : Nat.log2 64 < 9000 := by decide
    have l1 : y.natAbs.log2 + Nat.log2 48271 < 1000000 := by omega
    have l2 : (y * 48271 % 2147483647).natAbs.log2 + (y * 48271 % 2147483647).natAbs.log2 < 1000000 := by omega
    simp [e_ixL h, hp, e0, e_putL h, e_ixL h', l1, l2, w2, bagO]
section
variable {lb : Nat} {ρ : Rho} {f g h : FE} {fr : FA} {P : D → Prop} {s : Sto} {t : FS} {Q : Fl × Rho × Sto → Prop}
theorem ED.take {i : Nat} {M hi : Int} (hb : ρ[i]? = some (some (.ref lb))) (c : ED lb ρ f (Nn 1 M)) (hM : M ≤ 1073741824 := by decide) (hh : M - 1 ≤ hi := by decide) : ED lb ρ (fFn 2 fn__law_take (fCons (fV i) (fCons f fNil))) (Nn 0 hi) :=
  .fn (EA.cons (.v (P := (· = .ref lb)) hb rfl) (EA.cons c (.nil (A := (· = [])) rfl))) fun ds st ⟨d1, r, e, e1, d2, r2, e', ⟨m, e2, m1, m2⟩, e3⟩ b => by
    subst e; subst e1; subst e'; subst e2; subst e3
    exact ⟨rfl, (take_spec m1 (by omega) b).mono fun p ⟨⟨j, ej, j1, j2⟩, g⟩ => ⟨⟨j, ej, j1, by omega⟩, g⟩⟩
theorem ok_set {i : Nat} (e : ED lb ρ f P) (b : Bg lb s) (k : ∀ d s', P d → Go lb s s' → Ok (t (ρ.set i (some d)) s') Q) : Ok (sSeq (sSet i f) t ρ s) Q :=
  Ok.bind (Ok.bind ((e s b).mono fun p q => .pure (k p.1 p.2 q.1 q.2)))
theorem ok_ret (e : ED lb ρ f P) (b : Bg lb s) (k : ∀ d s', P d → Go lb s s' → Q (.rt d, ρ, s')) : Ok (sRet f ρ s) Q := Ok.bind ((e s b).mono fun p q => .pure (k p.1 p.2 q.1 q.2))
theorem ok_par2 {i j : Nat} {P' : D → Prop} (e : ED lb ρ f P) (e' : ED lb ρ h P') (b : Bg lb s) (k : ∀ d d' s', P d → P' d' → Go lb s s' → Ok (t ((ρ.set i (some d)).set j (some d')) s') Q) : Ok (sSeq (sPar [i, j] (fCons f (fCons h fNil))) t ρ s) Q := by
  refine Ok.bind (Ok.bind ?_)
  refine ((EA.cons e (EA.cons e' (.nil (A := (· = [])) rfl))) s b).mono fun p ⟨⟨d, r, e1, p1, d', r', e2, p2, e3⟩, g⟩ => ?_
  subst e3; subst e2
  rw [e1]
  simp only [List.length_cons, List.length_nil, if_true]
  exact .pure (k d d' p.2 p1 p2 g)
theorem ok_run {N : Nat} {sb : FS} {ds : List D} {st : Sto} {R : D × Sto → Prop} (h : Ok (sb (ds.map some ++ List.replicate (N - ds.length) none) st) fun p => ∃ x, p.1 = .rt x ∧ R (x, p.2.2)) : Ok (runD N sb ds st) R :=
  Ok.bind (h.mono fun p ⟨x, e, r⟩ => by rw [e]; exact .pure r)
/-- a list that grows at the store's end -/
def Acc (lb : Nat) (st : Sto) (acc : List D) (s : Sto) : Prop := ∃ s0, Go lb st s0 ∧ s = s0 ++ [.lst acc]
theorem Acc.bg {st : Sto} {acc : List D} (b : Bg lb st) (a : Acc lb st acc s) : Bg lb s := by
  obtain ⟨s0, g, rfl⟩ := a
  exact (g.bg b.lt).app _
theorem Acc.go {st s' : Sto} {acc : List D} (b : Bg lb st) (a : Acc lb st acc s) (q : Go lb s s') : Acc lb st acc s' := by
  obtain ⟨s0, g, rfl⟩ := a
  obtain ⟨s2, rfl, q2⟩ := q.app (by rw [g.len]; exact b.lt)
  exact ⟨s2, g.trans q2, rfl⟩
theorem Acc.at {st : Sto} {acc : List D} (a : Acc lb st acc s) : s[st.length]? = some (.lst acc) := by
  obtain ⟨s0, g, rfl⟩ := a
  rw [← g.len]; simp
theorem Acc.start {st : Sto} (b : Bg lb st) : Acc lb st [] (st ++ [.lst []]) := ⟨st, .refl b, rfl⟩
theorem ok_app {st : Sto} {acc : List D} {j : Nat} (b : Bg lb st) (a : Acc lb st acc s) (e : ED lb ρ f P) (hj : ρ[j]? = some (some (.ref st.length))) (hz : acc.length < sizeLine) :
    Ok (sExpr (fApp (fV j) f) ρ s) fun q => q.1 = .nx ∧ q.2.1 = ρ ∧ ∃ d, P d ∧ Acc lb st (acc ++ [d]) q.2.2 := by
  obtain ⟨⟨d, s1⟩, e1, p, g⟩ := e s (a.bg b)
  have a1 := a.go b g
  refine ⟨(.nx, ρ, s1.set st.length (.lst (acc ++ [d]))), ?_, rfl, rfl, d, p, ?_⟩
  · simp only [e_expr, e_app, e_V, hj, Option.bind_some, e1, a.at, a1.at]
    rw [if_pos hz]
    rfl
  · obtain ⟨s0, g0, rfl⟩ := a1
    refine ⟨s0, g0, ?_⟩
    rw [← g0.len, List.set_append_right _ _ (Nat.le_refl _)]
    simp
theorem for_ok {tg : Tg} {b : FS} {src : Src} {items : List D} {I : Nat → Rho → Sto → Prop} (hi : ∀ i ρ s, I i ρ s → Intact src s)
    (step : ∀ i d, items[i]? = some d → ∀ ρ s, I i ρ s → ∃ ρ1, tgD tg d ρ = some ρ1 ∧ Ok (b ρ1 s) fun q => q.1 = .nx ∧ I (i + 1) q.2.1 q.2.2) :
    ∀ (j i : Nat) (ρ : Rho) (s : Sto), j = items.length - i → i ≤ items.length → I i ρ s → Ok (forD tg b src (items.drop i) ρ s) fun q => q.1 = .nx ∧ I items.length q.2.1 q.2.2 := by
  intro j
  induction j with
  | zero =>
    intro i ρ s hj hl h
    have : i = items.length := by omega
    subst this
    rw [List.drop_length]
    unfold forD
    rw [if_pos (hi _ _ _ h)]
    exact .pure ⟨rfl, h⟩
  | succ j ih =>
    intro i ρ s hj hl h
    have hlt : i < items.length := by omega
    obtain ⟨ρ1, e1, q⟩ := step i items[i] (by simp [hlt]) ρ s h
    rw [List.drop_eq_getElem_cons hlt]
    unfold forD
    rw [if_pos (hi _ _ _ h), e1]
    refine Ok.bind (.pure (Ok.bind (q.mono fun q ⟨e, i2⟩ => ?_)))
    rw [e]
    exact ih (i + 1) q.2.1 q.2.2 (by omega) (by omega) i2
end
end EL

set_option Elab.async false
set_option linter.all false
set_option maxRecDepth 100000
set_option maxHeartbeats 1000000
/-! stations, airs, tunings as plain records; how the law draws them -/
namespace EL
open PySem PySem.Spec PyProof.Rows L2 GxR LG FW
structure Stn where
  nm : Str
  px : Int
  py : Int
  pw : Int
  hx : Int
  hy : Int
  nd : Int
def Stn.d (s : Stn) : D := .tup [.str s.nm, .tup [.int s.px, .int s.py], .int s.pw, .tup [.int s.hx, .int s.hy], .int s.nd]
structure Air where
  ss : List Stn
  lk : Int
def ssD (ss : List Stn) : D := .tup (ss.map Stn.d)
def Air.d (a : Air) : D := .tup [ssD a.ss, .int a.lk]
def tun (t : List Int) : D := .tup (t.map D.int)
def nms : List Str := ["ann", "bo", "cy", "dee", "eli", "fay", "gus", "hal"]
structure Stn.Ok (s : Stn) : Prop where
  px : -5000 ≤ s.px ∧ s.px ≤ 5000
  py : -5000 ≤ s.py ∧ s.py ≤ 5000
  pw : 1 ≤ s.pw ∧ s.pw ≤ 1000000
  hx : -5000 ≤ s.hx ∧ s.hx ≤ 5000
  hy : -5000 ≤ s.hy ∧ s.hy ≤ 5000
  nd : 1 ≤ s.nd ∧ s.nd ≤ 1000
  nm : s.nm ∈ nms
structure SsOk (ss : List Stn) : Prop where
  len : 1 ≤ ss.length ∧ ss.length ≤ 8
  nm : ss.map Stn.nm = nms.take ss.length
  all : ∀ s ∈ ss, s.Ok
structure Air.Ok (a : Air) : Prop where
  ss : SsOk a.ss
  lk : 1 ≤ a.lk ∧ a.lk ≤ 1000
def TunOk (n : Nat) (t : List Int) : Prop := t.length = n ∧ ∀ b ∈ t, 0 ≤ b ∧ b ≤ 9
theorem pure_stn (s : Stn) : pureB s.d = true := rfl
theorem pureL_map {α : Type} {f : α → D} (h : ∀ a, pureB (f a) = true) : ∀ l : List α, pureL (l.map f) = true
  | [] => rfl
  | a :: l => by simp [pureL, h a, pureL_map h l]
theorem pure_ss (ss : List Stn) : pureB (ssD ss) = true := by unfold ssD pureB; exact pureL_map pure_stn ss
theorem pure_air (a : Air) : pureB a.d = true := by
  unfold Air.d
  simp [pureB, pureL, pure_ss]
theorem pure_tun (t : List Int) : pureB (tun t) = true := by unfold tun pureB; exact pureL_map (fun _ => rfl) t
section
variable {lb : Nat} {ρ : Rho} {f g h : FE} {fr : FA} {P : D → Prop} {st s : Sto} {t : FS} {Q : Fl × Rho × Sto → Prop}
theorem ED.mul2 {hi : Int} (a : ED lb ρ f (Nn 1 hi)) (hh : hi ≤ 1000000) : ED lb ρ (fOp mulD (fC (.int 2)) f) (Nn 2 (2 * hi)) := .op (.c (P := (· = .int 2)) rfl) a fun x y st ex ⟨j, ej, j1, j2⟩ => by
  subst ex; subst ej
  have l1 := log2_small (i := j) (by omega) (by omega)
  have l2 : (2 : Int).natAbs.log2 < 32 := by decide
  rw [e_mulI, if_pos (by omega)]
  exact .pure ⟨⟨_, rfl, by omega, by omega⟩, rfl⟩
theorem ED.div3 {hi : Int} (a : ED lb ρ f (Nn 1 hi)) : ED lb ρ (fOp fdivD f (fC (.int 3))) (Nn 0 hi) := .op a (.c (P := (· = .int 3)) rfl) fun x y st ⟨j, ej, j1, j2⟩ ey => by
  subst ej; subst ey
  rw [e_fdivI, if_pos (by decide)]
  exact .pure ⟨⟨_, rfl, by omega, by omega⟩, rfl⟩
theorem ED.mx {l1 h1 l2 h2 lo hi : Int} (a : ED lb ρ f (Nn l1 h1)) (c : ED lb ρ h (Nn l2 h2)) (q1 : lo ≤ l1 := by decide) (q2 : lo ≤ l2 := by decide) (q3 : h1 ≤ hi := by decide) (q4 : h2 ≤ hi := by decide) : ED lb ρ (fCall maxD (fCons f (fCons h fNil))) (Nn lo hi) :=
  .call (EA.cons a (EA.cons c (.nil (A := (· = [])) rfl))) fun ds st q => by
    obtain ⟨_, _, rfl, ⟨i, rfl, i1, i2⟩, _, _, rfl, ⟨j, rfl, j1, j2⟩, rfl⟩ := q
    refine ⟨_, rfl, ⟨_, rfl, ?_⟩, rfl⟩
    split <;> omega
theorem ED.mn {l1 h1 l2 h2 lo hi : Int} (a : ED lb ρ f (Nn l1 h1)) (c : ED lb ρ h (Nn l2 h2)) (q1 : lo ≤ l1 := by decide) (q2 : lo ≤ l2 := by decide) (q3 : h1 ≤ hi := by decide) (q4 : h2 ≤ hi := by decide) : ED lb ρ (fCall minD (fCons f (fCons h fNil))) (Nn lo hi) :=
  .call (EA.cons a (EA.cons c (.nil (A := (· = [])) rfl))) fun ds st q => by
    obtain ⟨_, _, rfl, ⟨i, rfl, i1, i2⟩, _, _, rfl, ⟨j, rfl, j1, j2⟩, rfl⟩ := q
    refine ⟨_, rfl, ⟨_, rfl, ?_⟩, rfl⟩
    split <;> omega
noncomputable def bodyS : FS := (sSeq (sPar [5, 6] (fCons (fOp subD (fFn 2 fn__law_take (fCons (fV 0) (fCons (fOp addD (fOp mulD (fC (.int 2)) (fV 3)) (fC (.int 1))) fNil))) (fV 3)) (fCons (fOp subD (fFn 2 fn__law_take (fCons (fV 0) (fCons (fOp addD (fOp mulD (fC (.int 2)) (fV 3)) (fC (.int 1))) fNil))) (fV 3)) fNil)))
    (sSeq (sSet 7 (fOp addD (fC (.int 1)) (fOp fdivD (fV 3) (fC (.int 3)))))
    (sSeq (sSet 8 (fTup (fCons (fCall maxD (fCons (fNeg (fC (.int 1000))) (fCons (fOp subD (fV 5) (fFn 2 fn__law_take (fCons (fV 0) (fCons (fV 7) fNil)))) fNil))) (fCons (fCall minD (fCons (fC (.int 1000)) (fCons (fOp addD (fV 6) (fFn 2 fn__law_take (fCons (fV 0) (fCons (fV 7) fNil)))) fNil))) fNil))))
    (sSeq (sSet 9 (fOp ixD (fLz (fCons (fC (.int 1)) (fCons (fC (.int 100)) (fCons (fOp addD (fC (.int 1)) (fFn 2 fn__law_take (fCons (fV 0) (fCons (fC (.int 1000)) fNil)))) (fCons (fOp addD (fC (.int 1)) (fFn 2 fn__law_take (fCons (fV 0) (fCons (fC (.int 1000000)) fNil)))) fNil))))) (fFn 2 fn__law_take (fCons (fV 0) (fCons (fC (.int 4)) fNil)))))
    (sSeq (sSet 10 (fOp addD (fC (.int 1)) (fFn 2 fn__law_take (fCons (fV 0) (fCons (fOp ixD (fLz (fCons (fC (.int 2)) (fCons (fC (.int 10)) (fCons (fC (.int 1000)) fNil)))) (fFn 2 fn__law_take (fCons (fV 0) (fCons (fC (.int 3)) fNil)))) fNil)))))
    (sExpr (fApp (fV 2) (fTup (fCons (fV 4) (fCons (fTup (fCons (fV 5) (fCons (fV 6) fNil))) (fCons (fV 9) (fCons (fV 8) (fCons (fV 10) fNil)))))))))))))
theorem bodyS_ok {acc : List D} {x : Str} {w : Int} {x1 x5 x6 x7 x8 x9 x10 : Option D} (b : Bg lb st) (a : Acc lb st acc s) (hz : acc.length < sizeLine) (hn : x ∈ nms) (w1 : 1 ≤ w) (w2 : w ≤ 1000) :
    Ok (bodyS [some (.ref lb), x1, some (.ref st.length), some (.int w), some (.str x), x5, x6, x7, x8, x9, x10] s) fun q => q.1 = .nx ∧ (∃ x4 x5 x6 x7 x8 x9 x10, q.2.1 = [some (.ref lb), x1, some (.ref st.length), some (.int w), x4, x5, x6, x7, x8, x9, x10]) ∧ ∃ o : Stn, o.Ok ∧ o.nm = x ∧ Acc lb st (acc ++ [o.d]) q.2.2 := by
  have vw : ∀ {ρ : Rho}, ρ[3]? = some (some (.int w)) → ED lb ρ (fV 3) (Nn 1 1000) := fun e => .x e w1 w2
  unfold bodyS
  refine ok_par2 (P := Nn (-1000) 2000) (P' := Nn (-1000) 2000) (ED.sub (ED.take (M := 2001) (hi := 2000) rfl (ED.add (l1 := 2) (h1 := 2000) (ED.mul2 (hi := 1000) (vw rfl) (by decide)) (ED.n (lo := 1) (hi := 1)))) (vw rfl)) (ED.sub (ED.take (M := 2001) (hi := 2000) rfl (ED.add (l1 := 2) (h1 := 2000) (ED.mul2 (hi := 1000) (vw rfl) (by decide)) (ED.n (lo := 1) (hi := 1)))) (vw rfl)) (a.bg b) fun pa pb s1 ha hb g1 => ?_
  have a1 := a.go b g1
  refine ok_set (P := Nn 1 1001) (ED.add (ED.n (lo := 1) (hi := 1)) (ED.div3 (hi := 1000) (vw rfl))) (a1.bg b) fun pc s2 hc g2 => ?_
  have a2 := a1.go b g2
  obtain ⟨pa, rfl, pa1, pa2⟩ := ha
  obtain ⟨pb, rfl, pb1, pb2⟩ := hb
  obtain ⟨pc, rfl, pc1, pc2⟩ := hc
  have tk : ∀ {ρ : Rho}, ρ[0]? = some (some (.ref lb)) → ρ[7]? = some (some (.int pc)) → ED lb ρ (fFn 2 fn__law_take (fCons (fV 0) (fCons (fV 7) fNil))) (Nn 0 1000) := fun e1 e2 => ED.take (M := 1001) e1 (.x e2 pc1 pc2)
  refine ok_set (P := fun d => ∃ i j, d = .tup [.int i, .int j] ∧ (-5000 ≤ i ∧ i ≤ 5000) ∧ (-5000 ≤ j ∧ j ≤ 5000)) (ED.tup ((EA.cons (P := Nn (-5000) 5000) (ED.mx (l1 := -1000) (h1 := -1000) (l2 := -5000) (h2 := 5000) ((ED.neg (ED.n (lo := 1000) (hi := 1000)))) (ED.sub (l1 := -1000) (h1 := 2000) (.x rfl pa1 pa2) (tk rfl rfl))) (EA.cons (P := Nn (-5000) 5000) (ED.mn (l1 := 1000) (h1 := 1000) (l2 := -5000) (h2 := 5000) ED.n (ED.add (l1 := -1000) (h1 := 2000) (.x rfl pb1 pb2) (tk rfl rfl))) (.nil (A := (· = [])) rfl))).mono fun ds q => ?_)) (a2.bg b) fun d8 s3 h8 g3 => ?_
  · obtain ⟨_, _, rfl, ⟨i, rfl, i1, i2⟩, _, _, rfl, ⟨j, rfl, j1, j2⟩, rfl⟩ := q
    exact ⟨by simp [sizeLine_eq], i, j, rfl, ⟨i1, i2⟩, j1, j2⟩
  have a3 := a2.go b g3
  refine ok_set (P := Nn 1 1000000) (ED.pick (P := Nn 1 1000000) (.allC ED.n (.allC ED.n (.allC (ED.add (ED.n (lo := 1) (hi := 1)) (ED.take (M := 1000) (hi := 999) rfl (ED.n))) (.allC (ED.add (ED.n (lo := 1) (hi := 1)) (ED.take (M := 1000000) (hi := 999999) rfl (ED.n))) .all0)))) (ED.take (M := 4) rfl ED.n)) (a3.bg b) fun d9 s4 h9 g4 => ?_
  have a4 := a3.go b g4
  refine ok_set (P := Nn 1 1000) (ED.add (ED.n (lo := 1) (hi := 1)) (ED.take (M := 1000) (hi := 999) rfl (ED.pick (P := Nn 1 1000) (.allC ED.n (.allC ED.n (.allC ED.n .all0))) (ED.take (M := 3) rfl ED.n)))) (a4.bg b) fun d10 s5 h10 g5 => ?_
  have a5 := a4.go b g5
  obtain ⟨hx, hy, rfl, hx1, hy1⟩ := h8
  obtain ⟨pw, rfl, pw1, pw2⟩ := h9
  obtain ⟨nd, rfl, nd1, nd2⟩ := h10
  let o : Stn := ⟨x, pa, pb, pw, hx, hy, nd⟩
  refine (ok_app (P := (· = o.d)) b a5 (ED.q (fun st => ?_) rfl) rfl hz).mono fun q ⟨e1, e2, d, ed, e3⟩ => ⟨e1, ?_, o, ⟨⟨by show -5000 ≤ pa; omega, by show pa ≤ 5000; omega⟩, ⟨by show -5000 ≤ pb; omega, by show pb ≤ 5000; omega⟩, ⟨pw1, pw2⟩, hx1, hy1, ⟨nd1, nd2⟩, hn⟩, rfl, by rw [← ed]; exact e3⟩
  · simp [sizeLine_eq, o, Stn.d]
  · rw [e2]
    exact ⟨_, _, _, _, _, _, _, rfl⟩
theorem nms_at {i : Nat} {n : Nat} {d : D} (h : ((nms.map D.str).take n)[i]? = some d) : ∃ x, x ∈ nms ∧ d = .str x ∧ nms[i]? = some x ∧ i < n := by
  have hi : i < n := by
    have := (List.getElem?_eq_some_iff.mp h).1
    simp at this
    omega
  rw [List.getElem?_take_of_lt hi, List.getElem?_map] at h
  cases q : nms[i]? with
  | none => rw [q] at h; cases h
  | some x => rw [q] at h; cases h; exact ⟨x, List.mem_of_getElem? q, rfl, rfl, hi⟩
theorem cut_hi {ds : List D} {v : Int} (h : 0 ≤ v) : cutD ds none (some v) = ds.take v.toNat := by
  unfold cutD HT.sIx
  have n1 : ¬ v < 0 := by omega
  simp [n1]
theorem stations_spec {most : Int} (b : Bg lb st) (m1 : 1 ≤ most) (m2 : most ≤ 8) : Ok (fn__law_stations [.ref lb, .int most] st) fun p => (∃ ss, p.1 = ssD ss ∧ SsOk ss ∧ (ss.length : Int) ≤ most) ∧ Go lb st p.2 := by
  unfold fn__law_stations
  refine seal_ok (P := fun d => ∃ ss, d = ssD ss ∧ SsOk ss ∧ (ss.length : Int) ≤ most) (ok_run ?_)
  have a0 := Acc.start (lb := lb) b
  show Ok (sSeq (sSet 2 (fLst fNil)) (sSeq (sSet 3 _) (sSeq (sFor _ (.one 4) bodyS) _)) _ _) _
  refine Ok.bind (⟨(.nx, _, st ++ [.lst []]), by simp [sizeLine_eq]; rfl, ?_⟩)
  refine ok_set (P := Nn 1 1000) (ED.pick (P := Nn 1 1000) (.allC ED.n (.allC ED.n (.allC ED.n (.allC ED.n .all0)))) (ED.take (M := 4) rfl ED.n)) (a0.bg b) fun w s1 hw g1 => ?_
  obtain ⟨w, rfl, w1, w2⟩ := hw
  have a1 := a0.go b g1
  obtain ⟨⟨v, s2⟩, ev, hv, g2⟩ := (ED.add (lo := 1) (hi := most) (l1 := 1) (h1 := 1) (l2 := 0) (h2 := most - 1) (ED.n) (ED.take (M := most) rfl (.x (k := 1) (i := most) rfl m1 (Int.le_refl _)) (by omega) (by omega)) (by omega) (by omega) : ED lb [some (.ref lb), some (.int most), some (.ref st.length), some (.int w), none, none, none, none, none, none, none] (fOp addD (fC (.int 1)) (fFn 2 fn__law_take (fCons (fV 0) (fCons (fV 1) fNil)))) (Nn 1 most)) s1 (a1.bg b)
  obtain ⟨v, rfl, v1, v2⟩ := hv
  have a2 := a1.go b g2
  refine Ok.bind (Ok.bind (Ok.bind ⟨(.lst ((nms.map D.str).take v.toNat), s2), ?_, .pure ?_⟩))
  · simp only [e_sl, e_lz, e_cons, e_C, e_nil, Option.bind_some, e_oN, e_oS]
    rw [if_pos (by simp [sizeLine_eq])]
    simp only [Option.bind_some]
    rw [show (fOp addD (fC (.int 1)) (fFn 2 fn__law_take (fCons (fV 0) (fCons (fV 1) fNil))) ([some (D.ref lb), some (D.int most), some (D.ref (List.length st)), none, none, none, none, none, none, none, none].set 3 (some (D.int w))) s1) = some (D.int v, s2) from ev]
    simp only [Option.bind_some, e_slZ, cut_hi (show 0 ≤ v by omega)]
    rfl
  have fo := for_ok (tg := .one 4) (b := bodyS) (src := []) (items := (nms.map D.str).take v.toNat)
    (I := fun i ρ s => (∃ x4 x5 x6 x7 x8 x9 x10, ρ = [some (.ref lb), some (.int most), some (.ref st.length), some (.int w), x4, x5, x6, x7, x8, x9, x10]) ∧ ∃ ss : List Stn, ss.length = i ∧ (∀ o ∈ ss, o.Ok) ∧ ss.map Stn.nm = nms.take i ∧ Acc lb st (ss.map Stn.d) s)
    (fun _ _ _ _ => Intact.nil) (fun i d hd ρ s ⟨⟨x4, x5, x6, x7, x8, x9, x10, eρ⟩, ss, hl, hok, hnm, ha⟩ => ?_) _ 0 [some (.ref lb), some (.int most), some (.ref st.length), some (.int w), none, none, none, none, none, none, none] s2 rfl (Nat.zero_le _) ⟨⟨_, _, _, _, _, _, _, rfl⟩, [], rfl, by simp, by simp, a2⟩
  · obtain ⟨⟨fl, ρ', s3⟩, e3, hfl, ⟨x4, x5, x6, x7, x8, x9, x10, eρ⟩, ss, hl, hok, hnm, ha⟩ := fo
    simp only at hfl eρ ha
    subst hfl; subst eρ
    refine ⟨_, e3, ?_⟩
    refine ⟨(.rt (ssD ss), [some (.ref lb), some (.int most), some (.ref st.length), some (.int w), x4, x5, x6, x7, x8, x9, x10], s3), ?_, ssD ss, rfl, ⟨ss, rfl, ⟨?_, ?_, hok⟩, ?_⟩, pure_ss ss, ?_⟩
    · have q := e_listOfR ha.at
      simp only [e_ret, e_call, e_cons, e_nil, e_V, Option.bind_some]
      simp [tupleD, q, ssD]
    · rw [hl]
      simp [nms]
      omega
    · rw [hnm, hl]
    · rw [hl]
      simp [nms]
      omega
    · obtain ⟨s0, g0, rfl⟩ := ha
      exact ⟨s0, _, rfl, g0⟩
  · subst eρ
    obtain ⟨x, hx, rfl, hx2, hiv⟩ := nms_at hd
    refine ⟨_, rfl, ?_⟩
    have hi8 : i < 8 := (List.getElem?_eq_some_iff.mp hx2).1
    refine (bodyS_ok (x1 := some (.int most)) b ha (by simp [hl, sizeLine_eq]; omega) hx w1 w2).mono fun q ⟨e1, e2, o, ho, hno, ha2⟩ => ⟨e1, e2, ss ++ [o], by simp [hl], fun z hz => ?_, ?_, by simpa using ha2⟩
    · rcases List.mem_append.mp hz with z1 | z1
      · exact hok z z1
      · simp at z1; rw [z1]; exact ho
    · rw [List.map_append, hnm, List.take_succ, hx2]
      simp [hno]
theorem air_spec {most : Int} (b : Bg lb st) (m1 : 1 ≤ most) (m2 : most ≤ 8) : Ok (fn__law_air [.ref lb, .int most] st) fun p => (∃ a : Air, p.1 = a.d ∧ a.Ok ∧ (a.ss.length : Int) ≤ most) ∧ Go lb st p.2 := by
  unfold fn__law_air
  refine seal_ok (P := fun d => ∃ a : Air, d = a.d ∧ a.Ok ∧ (a.ss.length : Int) ≤ most) (ok_run ?_)
  refine ok_ret (P := fun d => ∃ a : Air, d = a.d ∧ a.Ok ∧ (a.ss.length : Int) ≤ most) (ED.tup ((EA.cons (P := fun d => ∃ ss, d = ssD ss ∧ SsOk ss ∧ (ss.length : Int) ≤ most) (ED.fn (EA.cons (.v (P := (· = .ref lb)) rfl rfl) (EA.cons (.v (P := (· = .int most)) rfl rfl) (.nil (A := (· = [])) rfl))) fun ds st' q bb => ?_) (EA.cons (P := Nn 1 1000) (ED.pick (P := Nn 1 1000) (.allC ED.n (.allC ED.n (.allC (ED.add (ED.n (lo := 1) (hi := 1)) (ED.take (M := 50) (hi := 49) rfl ED.n)) .all0))) (ED.take (M := 3) rfl ED.n)) (.nil (A := (· = [])) rfl))).mono fun ds q => ?_)) b fun d s' h g => ?_
  · obtain ⟨_, _, rfl, rfl, _, _, rfl, rfl, rfl⟩ := q
    exact ⟨rfl, stations_spec bb m1 m2⟩
  · obtain ⟨_, _, rfl, ⟨ss, rfl, h1, h2⟩, _, _, rfl, ⟨l, rfl, l1, l2⟩, rfl⟩ := q
    exact ⟨by simp [sizeLine_eq], ⟨ss, l⟩, rfl, ⟨h1, l1, l2⟩, h2⟩
  · obtain ⟨a, rfl, h1, h2⟩ := h
    exact ⟨_, rfl, ⟨a, rfl, h1, h2⟩, pure_air a, s', [], by simp, g⟩
theorem tuning_spec {a : Air} {bands : Int} {sil : Bool} (b : Bg lb st) (b1 : 1 ≤ bands) (b2 : bands ≤ 9) (ha : a.ss.length ≤ 8) : Ok (fn__law_tuning [.ref lb, a.d, .int bands, .bl sil] st) fun p => (∃ t, p.1 = tun t ∧ t.length = a.ss.length ∧ (∀ z ∈ t, 0 ≤ z ∧ z ≤ bands) ∧ (sil = false → ∀ z ∈ t, 1 ≤ z)) ∧ Go lb st p.2 := by
  unfold fn__law_tuning
  refine seal_ok (P := fun d => ∃ t, d = tun t ∧ t.length = a.ss.length ∧ (∀ z ∈ t, 0 ≤ z ∧ z ≤ bands) ∧ (sil = false → ∀ z ∈ t, 1 ≤ z)) (ok_run ?_)
  have a0 := Acc.start (lb := lb) b
  show Ok (sSeq (sSet 4 (fLst fNil)) (sSeq (sFor _ (.one 5) (sExpr (fApp (fV 4) _))) _) _ _) _
  refine Ok.bind (⟨(.nx, _, st ++ [.lst []]), by simp [sizeLine_eq]; rfl, ?_⟩)
  refine Ok.bind (Ok.bind ⟨(a.ss.map Stn.d, [], st ++ [.lst []]), by simp [iSeq, Air.d, ssD], ?_⟩)
  have fo := for_ok (tg := .one 5) (b := sExpr (fApp (fV 4) (fIf (fTAnd (fTru (fV 3)) (fTst (fOp eqD (fFn 2 fn__law_take (fCons (fV 0) (fCons (fC (.int 4)) fNil))) (fC (.int 0))))) (fC (.int 0)) (fOp addD (fC (.int 1)) (fFn 2 fn__law_take (fCons (fV 0) (fCons (fV 2) fNil))))))) (src := []) (items := a.ss.map Stn.d)
    (I := fun i ρ s => (∃ x5, ρ = [some (.ref lb), some a.d, some (.int bands), some (.bl sil), some (.ref st.length), x5]) ∧ ∃ t : List Int, t.length = i ∧ (∀ z ∈ t, 0 ≤ z ∧ z ≤ bands) ∧ (sil = false → ∀ z ∈ t, 1 ≤ z) ∧ Acc lb st (t.map D.int) s)
    (fun _ _ _ _ => Intact.nil) (fun i d hd ρ s ⟨⟨x5, eρ⟩, t, hl, h1, h2, ha⟩ => ?_) _ 0 [some (.ref lb), some a.d, some (.int bands), some (.bl sil), some (.ref st.length), none] _ rfl (Nat.zero_le _) ⟨⟨_, rfl⟩, [], rfl, by simp, by simp, a0⟩
  · obtain ⟨⟨fl, ρ', s3⟩, e3, hfl, ⟨x5, eρ⟩, t, hl, h1, h2, ha⟩ := fo
    simp only at hfl eρ ha
    subst hfl; subst eρ
    refine ⟨_, e3, ?_⟩
    refine ⟨(.rt (tun t), [some (.ref lb), some a.d, some (.int bands), some (.bl sil), some (.ref st.length), x5], s3), ?_, tun t, rfl, ⟨t, rfl, by simpa using hl, h1, h2⟩, pure_tun t, ?_⟩
    · have q := e_listOfR ha.at
      simp only [e_ret, e_call, e_cons, e_nil, e_V, Option.bind_some]
      simp [tupleD, q, tun]
    · obtain ⟨s0, g0, rfl⟩ := ha
      exact ⟨s0, _, rfl, g0⟩
  · subst eρ
    have hi : i < a.ss.length := by
      have := (List.getElem?_eq_some_iff.mp hd).1
      simpa using this
    refine ⟨_, rfl, ?_⟩
    have add : ED lb [some (.ref lb), some a.d, some (.int bands), some (.bl sil), some (.ref st.length), some d] (fOp addD (fC (.int 1)) (fFn 2 fn__law_take (fCons (fV 0) (fCons (fV 2) fNil)))) (Nn 1 bands) := ED.add (lo := 1) (hi := bands) (l1 := 1) (h1 := 1) (l2 := 0) (h2 := bands - 1) ED.n (ED.take (M := bands) rfl (.x rfl b1 (Int.le_refl _)) (by omega) (by omega)) (by omega) (by omega)
    have key : ED lb [some (.ref lb), some a.d, some (.int bands), some (.bl sil), some (.ref st.length), some d] (fIf (fTAnd (fTru (fV 3)) (fTst (fOp eqD (fFn 2 fn__law_take (fCons (fV 0) (fCons (fC (.int 4)) fNil))) (fC (.int 0))))) (fC (.int 0)) (fOp addD (fC (.int 1)) (fFn 2 fn__law_take (fCons (fV 0) (fCons (fV 2) fNil))))) (fun e => ∃ z, e = .int z ∧ 0 ≤ z ∧ z ≤ bands ∧ (sil = false → 1 ≤ z)) := by
      cases sil with
      | true =>
        refine ED.ite (ET.and (fun s b => ⟨(true, s), rfl, .refl b⟩) (ET.tst (ED.op (ED.take (M := 4) (hi := 3) rfl ED.n) (ED.n (lo := 0) (hi := 0)) fun x y st ⟨i, ei, _⟩ ⟨j, ej, _⟩ => ?_))) (ED.c ⟨0, rfl, by omega, by omega, by simp⟩) (add.mono fun e ⟨z, ez, z1, z2⟩ => ⟨z, ez, by omega, z2, fun _ => z1⟩)
        subst ei; subst ej
        rw [e_eqI]
        exact .pure ⟨⟨_, rfl⟩, rfl⟩
      | false =>
        intro s b
        refine Ok.bind ⟨(false, s), rfl, ?_⟩
        simp only [Bool.false_eq_true, if_false]
        exact (add s b).mono fun p ⟨⟨z, ez, z1, z2⟩, g⟩ => ⟨⟨z, ez, by omega, z2, fun _ => z1⟩, g⟩
    refine (ok_app b ha key rfl (by simp [hl, sizeLine_eq]; omega)).mono fun q ⟨e1, e2, e, ⟨z, ez, z1, z2, z3⟩, ha2⟩ => ⟨e1, ⟨some d, e2⟩, t ++ [z], by simp [hl], fun y hy => ?_, fun hs y hy => ?_, by rw [ez] at ha2; simpa using ha2⟩
    · rcases List.mem_append.mp hy with q | q
      · exact h1 y q
      · simp at q; rw [q]; exact ⟨z1, z2⟩
    · rcases List.mem_append.mp hy with q | q
      · exact h2 hs y q
      · simp at q; rw [q]; exact z3 hs
end
end EL

set_option Elab.async false
set_option linter.all false
set_option maxRecDepth 100000
set_option maxHeartbeats 1000000
/-! loops that do not draw; seats, spreads, gaps -/
namespace EL
open PySem PySem.Spec PyProof.Rows L2 GxR LG FW
section
variable {tg : Tg} {tt : FT} {fe : FE} {src : Src} {ρ : Rho} {st : Sto} {b : D → Bool} {v : D → D}
theorem lcZ_eq (hs : Intact src st) : ∀ {items : List D}, (∀ d ∈ items, ∃ ρ1, tgD tg d ρ = some ρ1 ∧ tt ρ1 st = some (b d, st) ∧ (b d = true → fe ρ1 st = some (v d, st))) → lcZ tg tt fe src ρ items st = some ((items.filter b).map v, st)
  | [], _ => by unfold lcZ; rw [if_pos hs]; rfl
  | d :: ds, h => by
    obtain ⟨ρ1, e1, e2, e3⟩ := h d List.mem_cons_self
    have ih := lcZ_eq hs (items := ds) fun x hx => h x (List.mem_cons_of_mem _ hx)
    unfold lcZ
    rw [if_pos hs, e1]
    simp only [Option.bind_some, e2]
    cases hb : b d with
    | true => simp [e3 hb, ih, hb]
    | false => simp [ih, hb]
theorem allD_eq (hs : Intact src st) {I : Rho → Prop} : ∀ {items : List D} {ρ : Rho}, I ρ → (∀ d ∈ items, ∀ ρ, I ρ → ∃ ρ1, tgD tg d ρ = some ρ1 ∧ I ρ1 ∧ fe ρ1 st = some (.bl (b d), st)) → allD tg fe src items ρ st = some (items.all b, st)
  | [], _, _, _ => by unfold allD; rw [if_pos hs]; rfl
  | d :: ds, ρ, i, h => by
    obtain ⟨ρ1, e1, i1, e2⟩ := h d List.mem_cons_self ρ i
    have ih := allD_eq hs (items := ds) i1 fun x hx => h x (List.mem_cons_of_mem _ hx)
    unfold allD
    rw [if_pos hs, e1]
    simp only [Option.bind_some, e2, e_asB]
    cases hb : b d with
    | true => simp [ih, hb]
    | false => simp [hb]
theorem tupD_eq (hs : Intact src st) {I : Rho → Prop} : ∀ {items : List D} {ρ : Rho}, I ρ → (∀ d ∈ items, ∀ ρ, I ρ → ∃ ρ1, tgD tg d ρ = some ρ1 ∧ I ρ1 ∧ fe ρ1 st = some (v d, st)) → tupD tg fe src items ρ st = some (items.map v, st)
  | [], _, _, _ => by unfold tupD; rw [if_pos hs]; rfl
  | d :: ds, ρ, i, h => by
    obtain ⟨ρ1, e1, i1, e2⟩ := h d List.mem_cons_self ρ i
    have ih := tupD_eq hs (items := ds) i1 fun x hx => h x (List.mem_cons_of_mem _ hx)
    unfold tupD
    rw [if_pos hs, e1]
    simp [e2, ih]
/-- a loop whose turns only carry a state of the slots -/
theorem forD_eq {bd : FS} (hs : Intact src st) {α : Type} {R : α → Rho → Prop} {step : α → D → α} : ∀ {items : List D} {ρ : Rho} {a : α}, R a ρ →
    (∀ d ∈ items, ∀ a ρ, R a ρ → ∃ ρ1 ρ2, tgD tg d ρ = some ρ1 ∧ bd ρ1 st = some (.nx, ρ2, st) ∧ R (step a d) ρ2) → ∃ ρ', forD tg bd src items ρ st = some (.nx, ρ', st) ∧ R (items.foldl step a) ρ'
  | [], ρ, a, r, _ => ⟨ρ, by unfold forD; rw [if_pos hs], r⟩
  | d :: ds, ρ, a, r, h => by
    obtain ⟨ρ1, ρ2, e1, e2, r2⟩ := h d List.mem_cons_self a ρ r
    obtain ⟨ρ', e3, r3⟩ := forD_eq hs (items := ds) r2 fun x hx => h x (List.mem_cons_of_mem _ hx)
    refine ⟨ρ', ?_, r3⟩
    unfold forD
    rw [if_pos hs, e1]
    simp [e2, e3]
/-- a loop that looks for the first one -/
theorem forD_find {bd : FS} (hs : Intact src st) {I : Rho → Prop} {r : D → D} : ∀ {items : List D} {ρ : Rho}, I ρ →
    (∀ d ∈ items, ∀ ρ, I ρ → ∃ ρ1 ρ2, tgD tg d ρ = some ρ1 ∧ I ρ2 ∧ bd ρ1 st = some (if b d = true then .rt (r d) else .nx, ρ2, st)) →
    ∃ ρ', forD tg bd src items ρ st = some ((match items.find? b with | some d => .rt (r d) | none => .nx), ρ', st) ∧ I ρ'
  | [], ρ, i, _ => ⟨ρ, by unfold forD; rw [if_pos hs]; rfl, i⟩
  | d :: ds, ρ, i, h => by
    obtain ⟨ρ1, ρ2, e1, i2, e2⟩ := h d List.mem_cons_self ρ i
    cases hb : b d with
    | true =>
      refine ⟨ρ2, ?_, i2⟩
      unfold forD
      rw [if_pos hs, e1]
      simp [e2, hb]
    | false =>
      obtain ⟨ρ', e3, i3⟩ := forD_find hs (items := ds) i2 fun x hx => h x (List.mem_cons_of_mem _ hx)
      refine ⟨ρ', ?_, i3⟩
      unfold forD
      rw [if_pos hs, e1]
      simp [e2, hb, e3]
end
section
variable {st : Sto}
/-- of at most k bits -/
def Bt (k : Nat) (i : Int) : Prop := i.natAbs < 2 ^ k
theorem Bt.mul {a b : Nat} {i j : Int} (h1 : Bt a i) (h2 : Bt b j) : Bt (a + b) (i * j) := by
  unfold Bt at *
  rw [Int.natAbs_mul, Nat.pow_add]
  exact Nat.mul_lt_mul'' h1 h2
theorem Bt.up {a b : Nat} {i : Int} (h : Bt a i) (hab : a ≤ b) : Bt b i := Nat.lt_of_lt_of_le h (Nat.pow_le_pow_right (by decide) hab)
theorem Bt.log {k : Nat} {i : Int} (h : Bt k i) : i.natAbs.log2 ≤ k := by
  by_cases hz : i.natAbs = 0
  · rw [hz]; simp
  · exact Nat.le_of_lt ((Nat.log2_lt hz).mpr h)
theorem mul_ok {a b : Nat} {i j : Int} (hi : Bt a i) (hj : Bt b j) (h : a + b < 9000 := by decide) : mulD (.int i) (.int j) st = some (.int (i * j), st) := by
  have := hi.log
  have := hj.log
  rw [e_mulI, if_pos (by omega)]
theorem fdiv_ok {b : Nat} {i j : Int} (h0 : 0 < j) (hj : Bt b j) (h : b < 9000 := by decide) : fdivD (.int i) (.int j) st = some (.int (i / j), st) := by
  have := hj.log
  rw [e_fdivI, if_pos ⟨h0, by omega⟩]
@[simp] theorem src_tup {xs : List D} : srcOf (.tup xs) xs = [] := rfl
@[simp] theorem src_lst {xs : List D} : srcOf (.lst xs) xs = [] := rfl
@[simp] theorem eqB_int {i j : Int} : eqB (.int i) (.int j) = decide (i = j) := by
  unfold eqB
  cases h : (i == j) <;> simp_all
theorem str_okB : ∀ x ∈ nms, PyData.strOk x = true := by decide +kernel
@[simp] theorem eqB_str {x y : Str} : eqB (.str x) (.str y) = decide (x = y) := by
  unfold eqB
  cases h : (x == y) <;> simp_all
theorem eq_str {x y : Str} (hx : PyData.strOk x = true) (hy : PyData.strOk y = true) : eqD (.str x) (.str y) st = some (.bl (decide (x = y)), st) := by
  unfold eqD eqW
  simp [okB, hx, hy]
theorem ne_str {x y : Str} (hx : PyData.strOk x = true) (hy : PyData.strOk y = true) : neD (.str x) (.str y) st = some (.bl (!decide (x = y)), st) := by
  unfold neD eqW
  simp [okB, hx, hy]
theorem nms_nd : nms.Nodup := by decide +kernel
theorem SsOk.name {ss : List Stn} (h : SsOk ss) {i : Nat} {s : Stn} (e : ss[i]? = some s) : nms[i]? = some s.nm := by
  have hi := (List.getElem?_eq_some_iff.mp e).1
  have q : (ss.map Stn.nm)[i]? = some s.nm := by rw [List.getElem?_map, e]; rfl
  rw [h.nm, List.getElem?_take_of_lt hi] at q
  exact q
theorem SsOk.inj {ss : List Stn} (h : SsOk ss) {i j : Nat} {s t : Stn} (e : ss[i]? = some s) (e' : ss[j]? = some t) (q : s.nm = t.nm) : i = j := by
  have a := h.name e
  have b := h.name e'
  rw [← q] at b
  exact (List.getElem?_inj (List.getElem?_eq_some_iff.mp a).1 nms_nd).mp (a.trans b.symm)
theorem enum_at {xs : List D} {i : Nat} : (enumD xs)[i]? = (xs[i]?).map fun d => D.tup [.int (i : Nat), d] := by
  unfold enumD
  rw [List.getElem?_mapIdx]
theorem mem_enum {xs : List D} {d : D} (h : d ∈ enumD xs) : ∃ i x, xs[i]? = some x ∧ d = .tup [.int (i : Nat), x] := by
  obtain ⟨i, hi⟩ := List.mem_iff_getElem?.mp h
  rw [enum_at] at hi
  cases q : xs[i]? with
  | none => rw [q] at hi; cases hi
  | some x => rw [q] at hi; cases hi; exact ⟨i, x, q, rfl⟩
theorem seat_eq {ss : List Stn} (h : SsOk ss) {i : Nat} {s : Stn} (e : ss[i]? = some s) : fn_seat [ssD ss, .str s.nm] st = some (.int (i : Nat), st) := by
  unfold fn_seat
  refine seal_same ?_ rfl
  unfold sb_seat ssD
  have key : ∀ d ∈ enumD (ss.map Stn.d), ∀ ρ : Rho, (∃ a b, ρ = [some (.tup (ss.map Stn.d)), some (.str s.nm), a, b]) → ∃ ρ1 ρ2, tgD (.many [2, 3]) d ρ = some ρ1 ∧ (∃ a b, ρ2 = [some (.tup (ss.map Stn.d)), some (.str s.nm), a, b]) ∧
      (sIf (fTst (fOp eqD (fOp ixD (fV 3) (fC (.int 0))) (fV 1))) (sRet (fV 2)) sNext) ρ1 st = some (if (match d with | .tup [_, .tup (.str x :: _)] => decide (x = s.nm) | _ => false) = true then .rt (match d with | .tup [j, _] => j | d => d) else .nx, ρ2, st) := by
    intro d hd ρ ⟨a, b, eρ⟩
    subst eρ
    obtain ⟨j, x, hx, rfl⟩ := mem_enum hd
    rw [List.getElem?_map] at hx
    cases q : ss[j]? with
    | none => rw [q] at hx; cases hx
    | some t =>
      rw [q] at hx
      cases hx
      have s1 := str_okB _ (h.all s (List.mem_of_getElem? e)).nm
      have s2 := str_okB _ (h.all t (List.mem_of_getElem? q)).nm
      refine ⟨_, [some (.tup (ss.map Stn.d)), some (.str s.nm), some (.int (j : Nat)), some t.d], rfl, ⟨_, _, rfl⟩, ?_⟩
      simp [setM, Stn.d, eq_str s2 s1]
      by_cases z : t.nm = s.nm <;> simp [z]
  obtain ⟨ρ', e1, i1⟩ := forD_find (src := []) Intact.nil (items := enumD (ss.map Stn.d)) (ρ := [some (.tup (ss.map Stn.d)), some (.str s.nm), none, none]) ⟨_, _, rfl⟩ key
  have f : (enumD (ss.map Stn.d)).find? (fun d => match d with | .tup [_, .tup (.str x :: _)] => decide (x = s.nm) | _ => false) = some (.tup [.int (i : Nat), s.d]) := by
    have hi := (List.getElem?_eq_some_iff.mp e).1
    have ei : (enumD (ss.map Stn.d))[i]? = some (.tup [.int (i : Nat), s.d]) := by rw [enum_at, List.getElem?_map, e]; rfl
    rw [List.find?_eq_some_iff_getElem]
    refine ⟨by simp [Stn.d], i, (List.getElem?_eq_some_iff.mp ei).1, (List.getElem?_eq_some_iff.mp ei).2, fun j hj => ?_⟩
    have hjl : j < ss.length := by omega
    have ej : (enumD (ss.map Stn.d))[j]? = some (.tup [.int (j : Nat), ss[j].d]) := by rw [enum_at, List.getElem?_map, List.getElem?_eq_getElem hjl]; rfl
    rw [(List.getElem?_eq_some_iff.mp ej).2]
    simp only [Stn.d]
    simp
    intro q
    have := h.inj (i := j) (j := i) (List.getElem?_eq_getElem hjl) e q
    omega
  rw [f] at e1
  simp only [e_run, e_seq]
  unfold sFor
  simp [iEnum]
  rw [e1]
  rfl
def spr (s r : Stn) : Int := (r.hx - s.px) * (r.hx - s.px) + (r.hy - s.py) * (r.hy - s.py) + 1
theorem sq_le {x : Int} (h1 : -10000 ≤ x) (h2 : x ≤ 10000) : 0 ≤ x * x ∧ x * x ≤ 100000000 := by
  refine ⟨by rcases Int.le_total 0 x with h | h; exact Int.mul_nonneg h h; exact Int.mul_nonneg_of_nonpos_of_nonpos h h, ?_⟩
  have : x.natAbs * x.natAbs ≤ 10000 * 10000 := Nat.mul_le_mul (by omega) (by omega)
  have e : x * x = ((x.natAbs * x.natAbs : Nat) : Int) := by rw [Int.natCast_mul, Int.natAbs_mul_self' x]
  omega
theorem spr_pos {s r : Stn} (hs : s.Ok) (hr : r.Ok) : 1 ≤ spr s r ∧ spr s r ≤ 200000001 := by
  have a1 := hs.px; have a2 := hs.py; have a3 := hr.hx; have a4 := hr.hy
  have h1 := sq_le (x := r.hx - s.px) (by omega) (by omega)
  have h2 := sq_le (x := r.hy - s.py) (by omega) (by omega)
  unfold spr
  omega
theorem bt64 {x : Int} (h1 : -(2 ^ 64) < x) (h2 : x < 2 ^ 64) : Bt 64 x := by
  unfold Bt
  omega
theorem spread_eq {s r : Stn} (hs : s.Ok) (hr : r.Ok) : fn_spread [.tup [.int s.px, .int s.py], .tup [.int r.hx, .int r.hy]] st = some (.int (spr s r), st) := by
  unfold fn_spread
  refine seal_same ?_ rfl
  have a1 := hs.px; have a2 := hs.py; have a3 := hr.hx; have a4 := hr.hy
  have b1 : Bt 64 (r.hx - s.px) := bt64 (by omega) (by omega)
  have b2 : Bt 64 (r.hy - s.py) := bt64 (by omega) (by omega)
  unfold sb_spread
  simp only [e_run, e_seq, e_set, e_op, e_V, e_C, e_ret, List.map_cons, List.map_nil, List.length_cons, List.length_nil]
  simp only [List.replicate, List.cons_append, List.nil_append, List.getElem?_cons_zero, List.getElem?_cons_succ, Option.bind_some, e_ixT, atI_0, atI_1, e_subI, List.set_cons_zero, List.set_cons_succ, mul_ok b1 b1, mul_ok b2 b2, e_addI]
  rfl
def gapI (b o : Int) : Int := if b = 0 ∨ o = 0 then 2 else if 2 < (if b - o < 0 then -(b - o) else b - o) then 2 else if b - o < 0 then -(b - o) else b - o
theorem gap_eq {b o : Int} : fn_gap [.int b, .int o] st = some (.int (gapI b o), st) := by
  unfold fn_gap
  refine seal_same ?_ rfl
  unfold sb_gap gapI
  simp [sizeLine_eq, inW, flatD, nB]
  by_cases h1 : b = 0
  · simp [h1]
  · by_cases h2 : o = 0
    · simp [h1, h2]
    · simp [h1, h2, absD, minD]
end
end EL

set_option Elab.async false
set_option linter.all false
set_option maxRecDepth 100000
set_option maxHeartbeats 1000000
/-! ears, who is heard -/
namespace EL
open PySem PySem.Spec PyProof.Rows L2 GxR LG FW
section
variable {α : Type} {tg : Tg} {tt : FT} {fe : FE} {src : Src} {ρ : Rho} {st : Sto} {enc : α → D} {b : α → Bool} {w : α → D}
theorem lcE (hs : Intact src st) : ∀ {l : List α}, (∀ x ∈ l, ∃ ρ1, tgD tg (enc x) ρ = some ρ1 ∧ tt ρ1 st = some (b x, st) ∧ (b x = true → fe ρ1 st = some (w x, st))) → lcZ tg tt fe src ρ (l.map enc) st = some ((l.filter b).map w, st)
  | [], _ => by unfold lcZ; simp only [List.map_nil]; rw [if_pos hs]; rfl
  | d :: ds, h => by
    obtain ⟨ρ1, e1, e2, e3⟩ := h d List.mem_cons_self
    have ih := lcE hs (l := ds) fun x hx => h x (List.mem_cons_of_mem _ hx)
    simp only [List.map_cons]
    unfold lcZ
    rw [if_pos hs, e1]
    simp only [Option.bind_some, e2]
    cases hb : b d with
    | true => simp [e3 hb, ih, hb]
    | false => simp [ih, hb]
theorem lcM (hs : Intact src st) : ∀ {l : List α}, (∀ x ∈ l, ∃ ρ1, tgD tg (enc x) ρ = some ρ1 ∧ fe ρ1 st = some (w x, st)) → lcZ tg fYes fe src ρ (l.map enc) st = some (l.map w, st)
  | [], _ => by unfold lcZ; simp only [List.map_nil]; rw [if_pos hs]
  | d :: ds, h => by
    obtain ⟨ρ1, e1, e3⟩ := h d List.mem_cons_self
    have ih := lcM hs (l := ds) fun x hx => h x (List.mem_cons_of_mem _ hx)
    simp only [List.map_cons]
    unfold lcZ
    rw [if_pos hs, e1]
    simp [e3, ih]
theorem allE (hs : Intact src st) {I : Rho → Prop} : ∀ {l : List α} {ρ : Rho}, I ρ → (∀ x ∈ l, ∀ ρ, I ρ → ∃ ρ1, tgD tg (enc x) ρ = some ρ1 ∧ I ρ1 ∧ fe ρ1 st = some (.bl (b x), st)) → allD tg fe src (l.map enc) ρ st = some (l.all b, st)
  | [], _, _, _ => by unfold allD; simp only [List.map_nil]; rw [if_pos hs]; rfl
  | d :: ds, ρ, i, h => by
    obtain ⟨ρ1, e1, i1, e2⟩ := h d List.mem_cons_self ρ i
    have ih := allE hs (l := ds) i1 fun x hx => h x (List.mem_cons_of_mem _ hx)
    simp only [List.map_cons]
    unfold allD
    rw [if_pos hs, e1]
    simp only [Option.bind_some, e2, e_asB]
    cases hb : b d with
    | true => simp [ih, hb]
    | false => simp [hb]
theorem tupE (hs : Intact src st) {I : Rho → Prop} : ∀ {l : List α} {ρ : Rho}, I ρ → (∀ x ∈ l, ∀ ρ, I ρ → ∃ ρ1, tgD tg (enc x) ρ = some ρ1 ∧ I ρ1 ∧ fe ρ1 st = some (w x, st)) → tupD tg fe src (l.map enc) ρ st = some (l.map w, st)
  | [], _, _, _ => by unfold tupD; simp only [List.map_nil]; rw [if_pos hs]
  | d :: ds, ρ, i, h => by
    obtain ⟨ρ1, e1, i1, e2⟩ := h d List.mem_cons_self ρ i
    have ih := tupE hs (l := ds) i1 fun x hx => h x (List.mem_cons_of_mem _ hx)
    simp only [List.map_cons]
    unfold tupD
    rw [if_pos hs, e1]
    simp [e2, ih]
end
def prodI (l : List Int) : Int := l.foldl (· * ·) 1
def sprs (ss : List Stn) (r : Stn) : List Int := ss.map fun s => spr s r
def shareI (ss : List Stn) (r s : Stn) : Int := s.pw * (prodI (sprs ss r) / spr s r)
def tri (p : Int × Int × Int) : D := .tup [.int p.1, .int p.2.1, .int p.2.2]
def othL (a : Air) (i : Nat) (r : Stn) : List (Int × Int × Int) := (a.ss.map fun s => (r.nd * a.lk * shareI a.ss r s, r.nd * shareI a.ss r s, (0 : Int))).set i (0, 0, 0)
def ownI (a : Air) (r : Stn) : Int := a.lk * shareI a.ss r r
def earD (a : Air) (i : Nat) (r : Stn) : D := .tup [.int (ownI a r), .lst ((othL a i r).map tri)]
theorem foldl_mul : ∀ (l : List Int) (x : Int), l.foldl (· * ·) x = x * prodI l
  | [], x => by simp [prodI]
  | y :: l, x => by
    unfold prodI
    simp only [List.foldl_cons]
    rw [foldl_mul l (x * y), foldl_mul l (1 * y)]
    rw [Int.one_mul, Int.mul_assoc]
theorem prodI_cons (x : Int) (l : List Int) : prodI (x :: l) = x * prodI l := by
  unfold prodI
  simp only [List.foldl_cons]
  rw [foldl_mul, Int.one_mul]
  rfl
theorem prodI_nil : prodI [] = 1 := rfl
theorem prodI_pos : ∀ {l : List Int}, (∀ x ∈ l, 1 ≤ x) → 1 ≤ prodI l
  | [], _ => by decide
  | x :: l, h => by
    rw [prodI_cons]
    have h1 := h x List.mem_cons_self
    have h2 := prodI_pos fun y hy => h y (List.mem_cons_of_mem _ hy)
    have := Int.mul_le_mul h1 h2 (by decide) (by omega)
    simpa using this
theorem prodI_bt {k : Nat} : ∀ {l : List Int}, (∀ x ∈ l, Bt k x) → Bt (k * l.length) (prodI l) ∨ l = []
  | [], _ => .inr rfl
  | x :: l, h => by
    rw [prodI_cons]
    have h1 := h x List.mem_cons_self
    rcases prodI_bt fun y hy => h y (List.mem_cons_of_mem _ hy) with h2 | rfl
    · exact .inl ((h1.mul h2).up (by simp [Nat.mul_add]; omega))
    · exact .inl (by rw [prodI_nil]; simpa using h1)
theorem prodI_dvd : ∀ {l : List Int} {x : Int}, x ∈ l → x ∣ prodI l
  | y :: l, x, h => by
    rw [prodI_cons]
    rcases List.mem_cons.mp h with rfl | h
    · exact Int.dvd_mul_right _ _
    · exact Int.dvd_trans (prodI_dvd h) (Int.dvd_mul_left _ _)
section
variable {st : Sto}
theorem bt28 {x : Int} (h1 : 1 ≤ x) (h2 : x ≤ 200000001) : Bt 28 x := by unfold Bt; omega
theorem bt10 {x : Int} (h1 : 1 ≤ x) (h2 : x ≤ 1000) : Bt 10 x := by unfold Bt; omega
theorem bt20 {x : Int} (h1 : 1 ≤ x) (h2 : x ≤ 1000000) : Bt 20 x := by unfold Bt; omega
theorem Bt.div {k : Nat} {x y : Int} (h : Bt k x) (hx : 0 ≤ x) (hy : 1 ≤ y) : Bt k (x / y) := by
  unfold Bt at *
  have h1 : x / y ≤ x := Int.ediv_le_self _ hx
  have h2 : 0 ≤ x / y := Int.ediv_nonneg hx (by omega)
  have e1 : ((x / y).natAbs : Int) = x / y := Int.natAbs_of_nonneg h2
  have e2 : (x.natAbs : Int) = x := Int.natAbs_of_nonneg hx
  have : (x / y).natAbs ≤ x.natAbs := by omega
  omega
theorem sprs_ok {ss : List Stn} (h : SsOk ss) {r : Stn} (hr : r.Ok) : (∀ x ∈ sprs ss r, 1 ≤ x ∧ x ≤ 200000001) ∧ Bt 224 (prodI (sprs ss r)) := by
  have h1 : ∀ x ∈ sprs ss r, 1 ≤ x ∧ x ≤ 200000001 := fun x hx => by
    obtain ⟨s, hs, rfl⟩ := List.mem_map.mp hx
    exact spr_pos (h.all s hs) hr
  refine ⟨h1, ?_⟩
  rcases prodI_bt (k := 28) (l := sprs ss r) (fun x hx => bt28 (h1 x hx).1 (h1 x hx).2) with q | q
  · refine q.up ?_
    have := h.len.2
    simp [sprs]
    omega
  · rw [q, prodI_nil]
    unfold Bt; decide
theorem seq_nx {s1 s2 : FS} {ρ ρ1 : Rho} {st1 : Sto} (h : s1 ρ st = some (.nx, ρ1, st1)) : sSeq s1 s2 ρ st = s2 ρ1 st1 := by rw [e_seq, h]; rfl
theorem set_ok {i : Nat} {f : FE} {ρ : Rho} {d : D} {st1 : Sto} (h : f ρ st = some (d, st1)) : sSet i f ρ st = some (.nx, ρ.set i (some d), st1) := by rw [e_set, h]; rfl
theorem lcz_ok {fi : FI} {tg : Tg} {tt : FT} {fe : FE} {vs : List Nat} {ρ : Rho} {items ds : List D} {src : Src} {st1 st2 : Sto} (h1 : fi ρ st = some (items, src, st1)) (h2 : lcZ tg tt fe src (wipeD ρ vs) items st1 = some (ds, st2)) (hz : ds.length ≤ 1000) : fLcZ fi tg tt fe vs ρ st = some (.lst ds, st2) := by
  unfold fLcZ
  rw [h1]
  simp only [Option.bind_some, h2]
  rw [if_pos (by rw [sizeLine_eq]; omega)]
theorem lcD_eq {tg : Tg} {fe : FE} {ρ : Rho} {s0 : Sto} {v : D → D} : ∀ {items acc : List D}, items.length + acc.length ≤ 1000 → (∀ d ∈ items, ∃ ρ1, tgD tg d ρ = some ρ1 ∧ ∀ st, fe ρ1 st = some (v d, st)) → lcD tg fYes fe s0.length [] ρ items (s0 ++ [.lst acc]) = some (s0 ++ [.lst (acc ++ items.map v)])
  | [], acc, _, _ => by unfold lcD; rw [if_pos Intact.nil]; simp
  | d :: ds, acc, hz, h => by
    obtain ⟨ρ1, e1, e2⟩ := h d List.mem_cons_self
    simp only [List.length_cons] at hz
    have ih := lcD_eq (tg := tg) (fe := fe) (ρ := ρ) (s0 := s0) (items := ds) (acc := acc ++ [v d]) (by simp; omega) fun x hx => h x (List.mem_cons_of_mem _ hx)
    unfold lcD
    rw [if_pos Intact.nil, e1]
    simp only [Option.bind_some, e_yes, if_true, e2]
    have q : (s0 ++ [O.lst acc])[s0.length]? = some (.lst acc) := by simp
    rw [q]
    simp only
    rw [if_pos (by rw [sizeLine_eq]; omega), List.set_append_right _ _ (Nat.le_refl _)]
    simp only [Nat.sub_self, List.set_cons_zero]
    rw [ih]
    simp
theorem seal_pair {fn : HA} {ds : List D} {x : Int} {es : List D} (h : fn ds st = some (.tup [.int x, .ref st.length], st ++ [.lst es])) (p : pureL es = true) : sealFn fn ds st = some (.tup [.int x, .lst es], st) :=
  seal_to h (calm_app calm_refl rfl) (by simp [sealD, seals, seal1, p, pureB]) (by simp)
theorem zipWith_map {α β γ : Type} (f : α → β → γ) (g : α → β) : ∀ l : List α, List.zipWith f l (l.map g) = l.map fun x => f x (g x)
  | [] => rfl
  | x :: l => by simp [zipWith_map f g l]
theorem ear_eq {a : Air} (h : a.Ok) {i : Nat} {r : Stn} (e : a.ss[i]? = some r) : fn_ear [a.d, .int (i : Nat)] st = some (earD a i r, st) := by
  have hr := h.ss.all r (List.mem_of_getElem? e)
  have hi := (List.getElem?_eq_some_iff.mp e).1
  obtain ⟨hS, hP⟩ := sprs_ok h.ss hr
  have hPp : 1 ≤ prodI (sprs a.ss r) := prodI_pos fun x hx => (hS x hx).1
  have hl8 := h.ss.len.2
  unfold fn_ear
  refine seal_pair ?_ (pureL_map (fun _ => rfl) _)
  unfold sb_ear
  have e0 : ixD (ssD a.ss) (.int (i : Nat)) st = some (r.d, st) := by
    unfold ssD
    rw [e_ixT, atI_nat, List.getElem?_map, e]
    rfl
  have c3 : cutD [D.str r.nm, D.tup [D.int r.px, D.int r.py], D.int r.pw, D.tup [D.int r.hx, D.int r.hy], D.int r.nd] (some 3) none = [.tup [.int r.hx, .int r.hy], .int r.nd] := rfl
  have L1 : ∀ ρ0 : Rho, ρ0[4]? = some (some (.tup [.int r.hx, .int r.hy])) → ρ0.length = 13 → lcZ (.one 11) fYes (fFn 2 fn_spread (fCons (fOp ixD (fV 11) (fC (.int 1))) (fCons (fV 4) fNil))) [] ρ0 (a.ss.map Stn.d) st = some ((sprs a.ss r).map D.int, st) := by
    intro ρ0 h4 hl
    rw [sprs, List.map_map]
    refine lcM Intact.nil fun s hs => ⟨_, rfl, ?_⟩
    have q11 : (ρ0.set 11 (some s.d))[11]? = some (some s.d) := by rw [List.getElem?_set_self (by omega)]
    have q4 : (ρ0.set 11 (some s.d))[4]? = some (some (.tup [.int r.hx, .int r.hy])) := by rw [List.getElem?_set_ne (by decide)]; exact h4
    simp only [e_fn, e_cons, e_op, e_V, e_C, e_nil, q11, q4, Option.bind_some]
    simp only [Stn.d, e_ixT, atI_1, Option.bind_some, List.length_cons, List.length_nil, if_true]
    rw [spread_eq (st := st) (h.ss.all s hs) hr]
    rfl
  have L2 : ∀ ρ0 : Rho, ρ0.length = 13 → ρ0[7]? = some (some (.int 1)) → ∃ ρ', forD (.one 8) (sAug 7 imulD (fV 8)) [] ((sprs a.ss r).map D.int) ρ0 st = some (.nx, ρ', st) ∧ ρ'.length = 13 ∧ ρ'[7]? = some (some (.int (prodI (sprs a.ss r)))) ∧ ∀ j, j ≠ 7 → j ≠ 8 → ρ'[j]? = ρ0[j]? := by
    intro ρ0 hl h7
    have gen : ∀ (l : List Int) (ρ0 : Rho) (x : Int), (∀ y ∈ l, 1 ≤ y ∧ y ≤ 200000001) → ρ0.length = 13 → ρ0[7]? = some (some (.int x)) → ∃ ρ', forD (.one 8) (sAug 7 imulD (fV 8)) [] (l.map D.int) ρ0 st = some (.nx, ρ', st) ∧ ρ'.length = 13 ∧ ρ'[7]? = some (some (.int (l.foldl (· * ·) x))) ∧ ∀ j, j ≠ 7 → j ≠ 8 → ρ'[j]? = ρ0[j]? := by
      intro l
      induction l with
      | nil => intro ρ0 x _ hl h7; exact ⟨ρ0, by unfold forD; simp only [List.map_nil]; rw [if_pos Intact.nil], hl, h7, fun _ _ _ => rfl⟩
      | cons y l ih =>
        intro ρ0 x hy hl h7
        have y1 := hy y List.mem_cons_self
        obtain ⟨ρ', e1, e2, e3, e4⟩ := ih ((ρ0.set 8 (some (.int y))).set 7 (some (.int (x * y)))) (x * y) (fun z hz => hy z (List.mem_cons_of_mem _ hz)) (by simp [hl]) (by rw [List.getElem?_set_self (by simp [hl])])
        refine ⟨ρ', ?_, e2, e3, fun j h1 h2 => ?_⟩
        · simp only [List.map_cons]
          unfold forD
          rw [if_pos Intact.nil]
          have q7 : (ρ0.set 8 (some (.int y)))[7]? = some (some (.int x)) := by rw [List.getElem?_set_ne (by decide)]; exact h7
          have q8 : (ρ0.set 8 (some (.int y)))[8]? = some (some (.int y)) := by rw [List.getElem?_set_self (by omega)]
          simp only [tgD, Option.bind_some, e_aug, q7, e_V, q8, imulD, intOp]
          rw [if_pos (Or.inr ⟨by omega, by omega⟩)]
          simp only [Option.map_some, Option.bind_some]
          exact e1
        · rw [e4 j h1 h2, List.getElem?_set_ne (Ne.symm h1), List.getElem?_set_ne (Ne.symm h2)]
    exact gen _ ρ0 1 hS hl h7
  have L3 : ∀ ρ0 : Rho, ρ0.length = 13 → ρ0[7]? = some (some (.int (prodI (sprs a.ss r)))) → lcZ (.many [11, 8]) fYes (fOp mulD (fOp ixD (fV 11) (fC (.int 2))) (fOp fdivD (fV 7) (fV 8))) [] ρ0 (List.zipWith (fun x y => D.tup [x, y]) (a.ss.map Stn.d) ((sprs a.ss r).map D.int)) st = some ((a.ss.map fun s => shareI a.ss r s).map D.int, st) := by
    intro ρ0 hl h7
    have e : List.zipWith (fun x y => D.tup [x, y]) (a.ss.map Stn.d) ((sprs a.ss r).map D.int) = a.ss.map fun s => D.tup [s.d, .int (spr s r)] := by
      unfold sprs
      rw [List.map_map, List.zipWith_map, ]
      simp [List.zipWith_self]
    rw [e, List.map_map]
    refine lcM Intact.nil fun s hs => ⟨(ρ0.set 11 (some s.d)).set 8 (some (.int (spr s r))), rfl, ?_⟩
    have sp := spr_pos (h.ss.all s hs) hr
    have q11 : ((ρ0.set 11 (some s.d)).set 8 (some (.int (spr s r))))[11]? = some (some s.d) := by rw [List.getElem?_set_ne (by decide), List.getElem?_set_self (by omega)]
    have q8 : ((ρ0.set 11 (some s.d)).set 8 (some (.int (spr s r))))[8]? = some (some (.int (spr s r))) := by rw [List.getElem?_set_self (by simp [hl])]
    have q7 : ((ρ0.set 11 (some s.d)).set 8 (some (.int (spr s r))))[7]? = some (some (.int (prodI (sprs a.ss r)))) := by rw [List.getElem?_set_ne (by decide), List.getElem?_set_ne (by decide)]; exact h7
    have pw := (h.ss.all s hs).pw
    simp only [e_op, e_V, e_C, q11, q8, q7, Option.bind_some]
    have i2 : ixD s.d (.int 2) st = some (.int s.pw, st) := rfl
    simp only [i2, Option.bind_some, fdiv_ok (st := st) (show 0 < spr s r by omega) (bt28 sp.1 sp.2)]
    rw [mul_ok (bt20 pw.1 pw.2) (hP.div (by omega) sp.1)]
    rfl
  have L4 : ∀ ρ0 : Rho, ρ0.length = 13 → ρ0[5]? = some (some (.int r.nd)) → ρ0[3]? = some (some (.int a.lk)) → lcD (.one 12) fYes (fTup (fCons (fOp mulD (fOp mulD (fV 5) (fV 3)) (fV 12)) (fCons (fOp mulD (fV 5) (fV 12)) (fCons (fC (.int 0)) fNil)))) st.length [] ρ0 ((a.ss.map fun s => shareI a.ss r s).map D.int) (st ++ [.lst []]) = some (st ++ [.lst ((a.ss.map fun s => (r.nd * a.lk * shareI a.ss r s, r.nd * shareI a.ss r s, (0 : Int))).map tri)]) := by
    intro ρ0 hl h5 h3
    rw [lcD_eq (v := fun d => match d with | .int x => tri (r.nd * a.lk * x, r.nd * x, 0) | d => d) (by simp; omega)]
    · simp [Function.comp_def]
    · intro d hd
      obtain ⟨x, hx, rfl⟩ := List.mem_map.mp hd
      obtain ⟨s, hs, rfl⟩ := List.mem_map.mp hx
      have sp := spr_pos (h.ss.all s hs) hr
      have pw := (h.ss.all s hs).pw
      have b1 : Bt 244 (shareI a.ss r s) := (bt20 pw.1 pw.2).mul (hP.div (by omega) sp.1)
      refine ⟨_, rfl, fun st => ?_⟩
      have q12 : (ρ0.set 12 (some (.int (shareI a.ss r s))))[12]? = some (some (.int (shareI a.ss r s))) := by rw [List.getElem?_set_self (by omega)]
      have q5 : (ρ0.set 12 (some (.int (shareI a.ss r s))))[5]? = some (some (.int r.nd)) := by rw [List.getElem?_set_ne (by decide)]; exact h5
      have q3 : (ρ0.set 12 (some (.int (shareI a.ss r s))))[3]? = some (some (.int a.lk)) := by rw [List.getElem?_set_ne (by decide)]; exact h3
      have bn := bt10 hr.nd.1 hr.nd.2
      have bk := bt10 h.lk.1 h.lk.2
      simp only [e_tup, e_cons, e_op, e_V, e_C, e_nil, q12, q5, q3, Option.bind_some, mul_ok (st := st) bn bk, mul_ok (st := st) (bn.mul bk) b1, mul_ok (st := st) bn b1]
      rw [if_pos (by simp [sizeLine_eq])]
      rfl
  obtain ⟨ρ8, e8, l8, p8, k8⟩ := L2 [some a.d, some (.int (i : Nat)), some (ssD a.ss), some (.int a.lk), some (.tup [.int r.hx, .int r.hy]), some (.int r.nd), some (.lst ((sprs a.ss r).map D.int)), some (.int 1), none, none, none, none, none] rfl rfl
  have k2 := k8 2 (by decide) (by decide)
  have k1 := k8 1 (by decide) (by decide)
  have k3 := k8 3 (by decide) (by decide)
  have k5 := k8 5 (by decide) (by decide)
  have k6 := k8 6 (by decide) (by decide)
  have shb : ∀ s ∈ a.ss, Bt 244 (shareI a.ss r s) := fun s hs => by
    have sp := spr_pos (h.ss.all s hs) hr
    have pw := (h.ss.all s hs).pw
    exact (bt20 pw.1 pw.2).mul (hP.div (by omega) sp.1)
  rw [e_run]
  simp only [List.map_cons, List.map_nil, List.length_cons, List.length_nil, List.replicate, List.cons_append, List.nil_append]
  rw [seq_nx (ρ1 := [some a.d, some (.int (i : Nat)), some (ssD a.ss), some (.int a.lk), none, none, none, none, none, none, none, none, none]) (st1 := st) rfl]
  rw [seq_nx (ρ1 := [some a.d, some (.int (i : Nat)), some (ssD a.ss), some (.int a.lk), some (.tup [.int r.hx, .int r.hy]), some (.int r.nd), none, none, none, none, none, none, none]) (st1 := st) (by
    simp only [e_unp, e_sl, e_op, e_V, List.getElem?_cons_zero, List.getElem?_cons_succ, Option.bind_some, e0, e_oS, e_C, e_oN]
    simp only [Stn.d, e_slT, c3, Option.bind_some]
    rfl)]
  rw [seq_nx (set_ok (lcz_ok (items := a.ss.map Stn.d) (src := []) (st1 := st) rfl (L1 _ rfl rfl) (by simp [sprs]; omega)))]
  rw [seq_nx (set_ok (d := .int 1) (st1 := st) rfl)]
  rw [seq_nx (ρ1 := ρ8) (st1 := st) (by
    unfold sFor
    exact e8)]
  rw [seq_nx (set_ok (lcz_ok (items := List.zipWith (fun x y => D.tup [x, y]) (a.ss.map Stn.d) ((sprs a.ss r).map D.int)) (src := []) (st1 := st) (by
    unfold iZip2
    simp only [e_cons, e_V, e_nil, k2, k6, List.getElem?_cons_zero, List.getElem?_cons_succ, Option.bind_some]
    rfl) (L3 _ (by simp [wipeD, l8]) (by simp [wipeD]; exact p8)) (by simp; omega)))]
  have q9 : ∀ j, j ≠ 9 → (ρ8.set 9 (some (.lst ((a.ss.map fun s => shareI a.ss r s).map D.int))))[j]? = ρ8[j]? := fun j hj => by rw [List.getElem?_set_ne (Ne.symm hj)]
  have q99 : (ρ8.set 9 (some (.lst ((a.ss.map fun s => shareI a.ss r s).map D.int))))[9]? = some (some (.lst ((a.ss.map fun s => shareI a.ss r s).map D.int))) := by rw [List.getElem?_set_self (by omega)]
  generalize hρ9 : (ρ8.set 9 (some (.lst ((a.ss.map fun s => shareI a.ss r s).map D.int)))) = ρ9 at q9 q99
  have l9 : ρ9.length = 13 := by rw [← hρ9]; simp [l8]
  have r5 : ρ9[5]? = some (some (.int r.nd)) := (q9 5 (by decide)).trans k5
  have r3 : ρ9[3]? = some (some (.int a.lk)) := (q9 3 (by decide)).trans k3
  have r1 : ρ9[1]? = some (some (.int (i : Nat))) := (q9 1 (by decide)).trans k1
  rw [seq_nx (ρ1 := ρ9.set 10 (some (.ref st.length))) (st1 := st ++ [.lst ((a.ss.map fun s => (r.nd * a.lk * shareI a.ss r s, r.nd * shareI a.ss r s, (0 : Int))).map tri)]) (by
    refine set_ok ?_
    unfold fLc iSeq
    simp only [e_V, q99, Option.bind_some]
    rw [L4 _ (by simp [wipeD, l9]) (by simp [wipeD]; exact r5) (by simp [wipeD]; exact r3)]
    rfl)]
  have t1 : (ρ9.set 10 (some (.ref st.length)))[1]? = some (some (.int (i : Nat))) := by rw [List.getElem?_set_ne (by decide)]; exact r1
  have t3 : (ρ9.set 10 (some (.ref st.length)))[3]? = some (some (.int a.lk)) := by rw [List.getElem?_set_ne (by decide)]; exact r3
  have t9 : (ρ9.set 10 (some (.ref st.length)))[9]? = some (some (.lst ((a.ss.map fun s => shareI a.ss r s).map D.int))) := by rw [List.getElem?_set_ne (by decide)]; exact q99
  have t10 : (ρ9.set 10 (some (.ref st.length)))[10]? = some (some (.ref st.length)) := by rw [List.getElem?_set_self (by omega)]
  have nx : ixN ((a.ss.map fun s => (r.nd * a.lk * shareI a.ss r s, r.nd * shareI a.ss r s, (0 : Int))).map tri).length (i : Nat) = some i := by
    unfold ixN
    simp [hi]
  rw [seq_nx (ρ1 := ρ9.set 10 (some (.ref st.length))) (st1 := st ++ [.lst ((othL a i r).map tri)]) (by
    simp only [e_put, e_tup, e_cons, e_C, e_nil, e_V, t1, t10, Option.bind_some]
    rw [if_pos (by simp [sizeLine_eq])]
    simp only [Option.bind_some]
    rw [e_putL (ds := (a.ss.map fun s => (r.nd * a.lk * shareI a.ss r s, r.nd * shareI a.ss r s, (0 : Int))).map tri) (by simp), nx]
    simp only [Option.bind_some]
    rw [List.set_append_right _ _ (Nat.le_refl _)]
    simp [othL, tri])]
  have ii : atI ((a.ss.map fun s => shareI a.ss r s).map D.int) (i : Nat) = some (.int (shareI a.ss r r)) := by
    rw [atI_nat, List.getElem?_map, List.getElem?_map, e]
    rfl
  simp only [e_ret, e_tup, e_cons, e_op, e_V, e_nil, t1, t3, t9, t10, Option.bind_some, e_ixZ, ii, mul_ok (bt10 h.lk.1 h.lk.2) (shb r (List.mem_of_getElem? e))]
  rw [if_pos (by simp [sizeLine_eq])]
  rfl
def pick3 (p : Int × Int × Int) (g : Int) : Int := if g = 0 then p.1 else if g = 1 then p.2.1 else p.2.2
theorem gap_cases (b o : Int) : gapI b o = 0 ∨ gapI b o = 1 ∨ gapI b o = 2 := by
  unfold gapI
  split
  · exact .inr (.inr rfl)
  · split <;> split <;> omega
def disI (oth : List (Int × Int × Int)) (band : Int) (t : List Int) : Int := (List.zipWith (fun p o => pick3 p (gapI band o)) oth t).sum
theorem intsD_map (l : List Int) : intsD (l.map D.int) = some l := by
  induction l with
  | nil => rfl
  | cons x l ih => simp [intsD, ih]
theorem hears_eq {own band : Int} {oth : List (Int × Int × Int)} {t : List Int} (hz : oth.length ≤ 100) : fn_hears [.tup [.int own, .lst (oth.map tri)], .int band, tun t] st = some (.bl (decide (disI oth band t ≤ own)), st) := by
  unfold fn_hears
  refine seal_same ?_ rfl
  unfold sb_hears
  rw [e_run]
  simp only [List.map_cons, List.map_nil, List.length_cons, List.length_nil, List.replicate, List.cons_append, List.nil_append]
  rw [seq_nx (ρ1 := [some (.tup [.int own, .lst (oth.map tri)]), some (.int band), some (tun t), some (.int own), some (.lst (oth.map tri)), none, none]) (st1 := st) rfl]
  have e : List.zipWith (fun x y => D.tup [x, y]) (oth.map tri) (t.map D.int) = (oth.zip t).map fun p => D.tup [tri p.1, .int p.2] := by
    rw [List.zip, List.zipWith_map, List.map_zipWith]
  have L : lcZ (.many [5, 6]) fYes (fOp ixD (fV 5) (fFn 2 fn_gap (fCons (fV 1) (fCons (fV 6) fNil)))) [] (wipeD [some (.tup [.int own, .lst (oth.map tri)]), some (.int band), some (tun t), some (.int own), some (.lst (oth.map tri)), none, none] [5, 6]) (List.zipWith (fun x y => D.tup [x, y]) (oth.map tri) (t.map D.int)) st = some (((oth.zip t).map fun p => pick3 p.1 (gapI band p.2)).map D.int, st) := by
    rw [e, List.map_map]
    refine lcM Intact.nil fun p hp => ⟨_, rfl, ?_⟩
    simp [wipeD, setM, gap_eq, tri]
    unfold pick3
    rcases gap_cases band p.2 with q | q | q
    · simp [q]
    · simp [q]
    · rw [q]; simp; rfl
  simp only [e_ret, e_op, e_V, e_call, e_cons, e_nil, List.getElem?_cons_zero, List.getElem?_cons_succ, Option.bind_some]
  rw [lcz_ok (items := List.zipWith (fun x y => D.tup [x, y]) (oth.map tri) (t.map D.int)) (src := []) (st1 := st) (by unfold iZip2 tun; simp) L (by simp; omega)]
  simp only [Option.bind_some, sumD, e_listOfZ, intsD_map, Option.map_some, e_geI]
  have : ((oth.zip t).map fun p => pick3 p.1 (gapI band p.2)).sum = disI oth band t := by
    unfold disI
    rw [List.zip, List.map_zipWith]
  rw [this]
/-- whether the one at the seat i is heard -/
def heardB (a : Air) (t : List Int) (i : Nat) (r : Stn) : Bool := decide (t.getD i 0 ≠ 0) && decide (disI (othL a i r) (t.getD i 0) t ≤ ownI a r)
theorem heard_eq {a : Air} (h : a.Ok) {t : List Int} (ht : t.length = a.ss.length) {i : Nat} {r : Stn} (e : a.ss[i]? = some r) : fn_is_heard [a.d, tun t, .str r.nm] st = some (.bl (heardB a t i r), st) := by
  unfold fn_is_heard
  refine seal_same ?_ rfl
  have hi := (List.getElem?_eq_some_iff.mp e).1
  have it : t[i]? = some (t.getD i 0) := by
    rw [List.getD_eq_getElem?_getD]
    have : i < t.length := by omega
    simp [this]
  have ix : ixD (tun t) (.int (i : Nat)) st = some (.int (t.getD i 0), st) := by
    unfold tun
    rw [e_ixT, atI_nat, List.getElem?_map, it]
    rfl
  unfold sb_is_heard
  rw [e_run]
  simp only [List.map_cons, List.map_nil, List.length_cons, List.length_nil, List.replicate, List.cons_append, List.nil_append]
  have s1 : ixD a.d (.int 0) st = some (ssD a.ss, st) := rfl
  rw [seq_nx (set_ok (d := .int (i : Nat)) (st1 := st) (by
    simp only [e_fn, e_cons, e_op, e_V, e_C, e_nil, List.getElem?_cons_zero, List.getElem?_cons_succ, Option.bind_some, s1, List.length_cons, List.length_nil, if_true]
    exact seat_eq h.ss e))]
  have lo : (othL a i r).length ≤ 100 := by
    have := h.ss.len.2
    simp [othL]
    omega
  simp only [e_ret, e_and, e_op, e_V, e_C, List.set_cons_zero, List.set_cons_succ, List.getElem?_cons_zero, List.getElem?_cons_succ, Option.bind_some, ix, e_neI, e_asB, e_fn, e_cons, e_nil, List.length_cons, List.length_nil, if_true, ear_eq (st := st) h e, earD, hears_eq (st := st) lo]
  unfold heardB
  generalize t.getD i 0 = tz
  by_cases z : tz = 0
  · simp [z]
  · simp [z]
end
end EL

set_option Elab.async false
set_option linter.all false
set_option maxRecDepth 100000
set_option maxHeartbeats 1000000
/-! the law's own reckoning of who is heard -/
namespace EL
open PySem PySem.Spec PyProof.Rows L2 GxR LG FW
section
variable {st : Sto}
/-- a loop that makes a list at the store's end -/
theorem forAcc {α : Type} {tg : Tg} {bd : FS} {enc : α → D} {g : α → List D} {I : Rho → Prop} {s0 : Sto} : ∀ {l : List α} {acc : List D} {ρ : Rho}, I ρ →
    (∀ x ∈ l, ∀ ρ acc, I ρ → acc.length + (g x).length < 2000 → ∃ ρ1 ρ2, tgD tg (enc x) ρ = some ρ1 ∧ I ρ2 ∧ bd ρ1 (s0 ++ [.lst acc]) = some (.nx, ρ2, s0 ++ [.lst (acc ++ g x)])) → acc.length + (l.flatMap g).length < 2000 →
    ∃ ρ', forD tg bd [] (l.map enc) ρ (s0 ++ [.lst acc]) = some (.nx, ρ', s0 ++ [.lst (acc ++ l.flatMap g)]) ∧ I ρ'
  | [], acc, ρ, i, _, _ => ⟨ρ, by unfold forD; simp only [List.map_nil]; rw [if_pos Intact.nil]; simp, i⟩
  | x :: l, acc, ρ, i, h, hz => by
    simp only [List.flatMap_cons, List.length_append] at hz
    obtain ⟨ρ1, ρ2, e1, i2, e2⟩ := h x List.mem_cons_self ρ acc i (by omega)
    obtain ⟨ρ', e3, i3⟩ := forAcc (l := l) (acc := acc ++ g x) i2 (fun y hy => h y (List.mem_cons_of_mem _ hy)) (by simp only [List.length_append]; omega)
    refine ⟨ρ', ?_, i3⟩
    simp only [List.map_cons]
    unfold forD
    rw [if_pos Intact.nil, e1]
    simp only [Option.bind_some, e2]
    rw [e3]
    simp
theorem sq2 (x y : Int) : (x - y) ^ 2 = (y - x) * (y - x) := by grind
theorem part_eq {s r : Stn} (hs : s.Ok) (hr : r.Ok) : fn__law_part [s.d, r.d] st = some (.tup [.int s.pw, .int (spr s r)], st) := by
  unfold fn__law_part
  refine seal_same ?_ rfl
  have a1 := hs.px; have a2 := hs.py; have a3 := hr.hx; have a4 := hr.hy
  have p1 : powD (.int (s.px - r.hx)) (.int 2) st = some (.int ((r.hx - s.px) * (r.hx - s.px)), st) := by
    rw [e_powI, if_pos ⟨by decide, by decide, by omega⟩, ← sq2]
    rfl
  have p2 : powD (.int (s.py - r.hy)) (.int 2) st = some (.int ((r.hy - s.py) * (r.hy - s.py)), st) := by
    rw [e_powI, if_pos ⟨by decide, by decide, by omega⟩, ← sq2]
    rfl
  have x1 : ixD s.d (.int 1) st = some (.tup [.int s.px, .int s.py], st) := rfl
  have x2 : ixD s.d (.int 2) st = some (.int s.pw, st) := rfl
  have x3 : ixD r.d (.int 3) st = some (.tup [.int r.hx, .int r.hy], st) := rfl
  unfold sb__law_part
  simp only [e_run, List.map_cons, List.map_nil, List.length_cons, List.length_nil, List.replicate, List.cons_append, List.nil_append]
  rw [seq_nx (ρ1 := [some s.d, some r.d, some (.int (s.px - r.hx)), some (.int (s.py - r.hy))]) (st1 := st) (by
    simp only [e_par, e_cons, e_op, e_V, e_C, e_nil, List.getElem?_cons_zero, List.getElem?_cons_succ, Option.bind_some, x1, x3, e_ixT, atI_0, atI_1, e_subI]
    rfl)]
  simp only [e_ret, e_tup, e_cons, e_op, e_V, e_C, e_nil, List.getElem?_cons_zero, List.getElem?_cons_succ, Option.bind_some, x2, p1, p2, e_addI]
  rw [if_pos (by simp [sizeLine_eq])]
  rfl
abbrev Rw := Nat × Int × Int
def rowD (p : Rw) : D := .tup [.int (p.1 : Nat), .int p.2.1, .int p.2.2]
def rowAt (a : Air) (t : List Int) (i : Nat) (r : Stn) (x : Stn × Nat) : List Rw :=
  if x.2 ≠ i ∧ t.getD i 0 * t.getD x.2 0 > 0 then (if t.getD i 0 = t.getD x.2 0 then [(x.2, x.1.pw, spr x.1 r)] else if t.getD i 0 - t.getD x.2 0 = 1 ∨ t.getD i 0 - t.getD x.2 0 = -1 then [(x.2, x.1.pw, spr x.1 r * a.lk)] else []) else []
def rowsL (a : Air) (t : List Int) (i : Nat) (r : Stn) : List Rw := a.ss.zipIdx.flatMap (rowAt a t i r)
theorem enum_zip (ss : List Stn) : enumD (ss.map Stn.d) = ss.zipIdx.map fun x => D.tup [.int (x.2 : Nat), x.1.d] := by
  unfold enumD
  apply List.ext_getElem?
  intro i
  rw [List.getElem?_mapIdx, List.getElem?_map, List.getElem?_map, List.getElem?_zipIdx]
  cases ss[i]? <;> simp
theorem row_one (a : Air) (t : List Int) (i : Nat) (r : Stn) (x : Stn × Nat) : (rowAt a t i r x).length ≤ 1 := by
  unfold rowAt
  split
  · split
    · simp
    · split <;> simp
  · simp
theorem flat_le {α β : Type} {g : α → List β} (h : ∀ x, (g x).length ≤ 1) : ∀ l : List α, (l.flatMap g).length ≤ l.length
  | [] => by simp
  | x :: l => by
    have := h x
    have := flat_le h l
    simp only [List.flatMap_cons, List.length_append, List.length_cons]
    omega
theorem tun_at {t : List Int} {n j : Nat} (ht : t.length = n) (hj : j < n) : ixD (tun t) (.int (j : Nat)) st = some (.int (t.getD j 0), st) := by
  have it : t[j]? = some (t.getD j 0) := by
    rw [List.getD_eq_getElem?_getD]
    have : j < t.length := by omega
    simp [this]
  unfold tun
  rw [e_ixT, atI_nat, List.getElem?_map, it]
  rfl
theorem ss_at {ss : List Stn} {j : Nat} {s : Stn} (e : ss[j]? = some s) : ixD (ssD ss) (.int (j : Nat)) st = some (s.d, st) := by
  unfold ssD
  rw [e_ixT, atI_nat, List.getElem?_map, e]
  rfl
theorem t_bound {t : List Int} (h : ∀ b ∈ t, 0 ≤ b ∧ b ≤ 9) (j : Nat) : 0 ≤ t.getD j 0 ∧ t.getD j 0 ≤ 9 := by
  rw [List.getD_eq_getElem?_getD]
  cases q : t[j]? with
  | none => simp
  | some x => exact h x (List.mem_of_getElem? q)
theorem in_pm {x : Int} : inW false (.int x) (.lst [.int 1, .int (-1)]) st = some (.bl (decide (x = 1 ∨ x = -1)), st) := by
  have o1 : okB 60 (.int x) = true := rfl
  have o2 : okBs 59 [.int 1, .int (-1)] = true := rfl
  unfold inW
  simp only [e_listOfZ, Option.bind_some, e_valI, o1, o2, and_self, if_true, List.any_cons, List.any_nil, eqB_int, nB, Bool.false_eq_true, if_false, Bool.or_false]
  congr 3
  rw [Bool.decide_or]
  congr 1 <;> (apply decide_eq_decide.mpr; omega)
theorem app_acc {ρ : Rho} {f : FE} {j : Nat} {d : D} {s0 : Sto} {acc : List D} (hj : ρ[j]? = some (some (.ref s0.length))) (e : f ρ (s0 ++ [.lst acc]) = some (d, s0 ++ [.lst acc])) (hz : acc.length < 2000) : sExpr (fApp (fV j) f) ρ (s0 ++ [.lst acc]) = some (.nx, ρ, s0 ++ [.lst (acc ++ [d])]) := by
  have q : (s0 ++ [O.lst acc])[s0.length]? = some (.lst acc) := by simp
  simp only [e_expr, e_app, e_V, hj, Option.bind_some, e, q]
  rw [if_pos (by rw [sizeLine_eq]; omega), List.set_append_right _ _ (Nat.le_refl _)]
  simp
noncomputable def bodyR : FS := (sIf (fTAnd (fTst (fOp neD (fV 4) (fV 2))) (fTst (fOp gtD (fOp mulD (fOp ixD (fV 1) (fV 2)) (fOp ixD (fV 1) (fV 4))) (fC (.int 0))))) (sSeq (sUnp (.many [6, 7]) (fFn 2 fn__law_part (fCons (fV 5) (fCons (fOp ixD (fOp ixD (fV 0) (fC (.int 0))) (fV 2)) fNil))))
    (sIf (fTst (fOp eqD (fOp ixD (fV 1) (fV 2)) (fOp ixD (fV 1) (fV 4)))) (sExpr (fApp (fV 3) (fTup (fCons (fV 4) (fCons (fV 6) (fCons (fV 7) fNil)))))) (sIf (fTst (fOp (inW false) (fOp subD (fOp ixD (fV 1) (fV 2)) (fOp ixD (fV 1) (fV 4))) (fLz (fCons (fC (.int 1)) (fCons (fNeg (fC (.int 1))) fNil))))) (sExpr (fApp (fV 3) (fTup (fCons (fV 4) (fCons (fV 6) (fCons (fOp mulD (fV 7) (fOp ixD (fV 0) (fC (.int 1)))) fNil)))))) sNext))) sNext)
theorem bodyR_eq {a : Air} (h : a.Ok) {t : List Int} (ht : t.length = a.ss.length) (hb : ∀ b ∈ t, 0 ≤ b ∧ b ≤ 9) {i : Nat} {r : Stn} (e : a.ss[i]? = some r) {x : Stn × Nat} (hx : a.ss[x.2]? = some x.1) {x6 x7 : Option D} {acc : List D} (hz : acc.length < 2000) :
    ∃ y6 y7, bodyR [some a.d, some (tun t), some (.int (i : Nat)), some (.ref st.length), some (.int (x.2 : Nat)), some x.1.d, x6, x7] (st ++ [.lst acc]) = some (.nx, [some a.d, some (tun t), some (.int (i : Nat)), some (.ref st.length), some (.int (x.2 : Nat)), some x.1.d, y6, y7], st ++ [.lst (acc ++ (rowAt a t i r x).map rowD)]) := by
  have hi := (List.getElem?_eq_some_iff.mp e).1
  have hj := (List.getElem?_eq_some_iff.mp hx).1
  have hr := h.ss.all r (List.mem_of_getElem? e)
  have hs := h.ss.all x.1 (List.mem_of_getElem? hx)
  have b1 := t_bound hb i
  have b2 := t_bound hb x.2
  have sp := spr_pos hs hr
  have m1 : ∀ st, mulD (.int (t.getD i 0)) (.int (t.getD x.2 0)) st = some (.int (t.getD i 0 * t.getD x.2 0), st) := fun st => mul_ok (a := 64) (b := 64) (bt64 (by omega) (by omega)) (bt64 (by omega) (by omega))
  have m2 : ∀ st, mulD (.int (spr x.1 r)) (.int a.lk) st = some (.int (spr x.1 r * a.lk), st) := fun st => mul_ok (bt28 sp.1 sp.2) (bt10 h.lk.1 h.lk.2)
  have i0 : ∀ st, ixD a.d (.int 0) st = some (ssD a.ss, st) := fun _ => rfl
  have i1 : ∀ st, ixD a.d (.int 1) st = some (.int a.lk, st) := fun _ => rfl
  have ti : ∀ st, ixD (tun t) (.int (i : Nat)) st = some (.int (t.getD i 0), st) := fun _ => tun_at ht hi
  have tj : ∀ st, ixD (tun t) (.int (x.2 : Nat)) st = some (.int (t.getD x.2 0), st) := fun _ => tun_at ht hj
  have si : ∀ st, ixD (ssD a.ss) (.int (i : Nat)) st = some (r.d, st) := fun _ => ss_at e
  have pe : ∀ st, fn__law_part [x.1.d, r.d] st = some (.tup [.int x.1.pw, .int (spr x.1 r)], st) := fun _ => part_eq hs hr
  unfold bodyR rowAt
  generalize t.getD i 0 = ti0 at *
  generalize t.getD x.2 0 = tj0 at *
  simp only [e_if, e_tand, e_tst, e_op, e_V, e_C, List.getElem?_cons_zero, List.getElem?_cons_succ, Option.bind_some, e_neI, e_asB, ti, tj, m1, e_gtI]
  by_cases z1 : (x.2 : Int) = (i : Nat)
  · have z1' : x.2 = i := by omega
    refine ⟨x6, x7, ?_⟩
    simp [z1']
  · have z1' : x.2 ≠ i := by omega
    simp only [z1, decide_false, Bool.not_false, if_true]
    by_cases z2 : 0 < ti0 * tj0
    · simp only [z2, decide_true, if_true, Option.bind_some]
      refine ⟨some (.int x.1.pw), some (.int (spr x.1 r)), ?_⟩
      rw [seq_nx (ρ1 := [some a.d, some (tun t), some (.int (i : Nat)), some (.ref st.length), some (.int (x.2 : Nat)), some x.1.d, some (.int x.1.pw), some (.int (spr x.1 r))]) (st1 := st ++ [.lst acc]) (by
        simp only [e_unp, e_fn, e_cons, e_op, e_V, e_C, e_nil, List.getElem?_cons_zero, List.getElem?_cons_succ, Option.bind_some, i0, si, List.length_cons, List.length_nil, if_true, pe]
        rfl)]
      simp only [e_if, e_tst, e_op, e_V, e_C, List.getElem?_cons_zero, List.getElem?_cons_succ, Option.bind_some, e_asB, ti, tj, e_eqI]
      by_cases z3 : ti0 = tj0
      · simp only [z3, decide_true, if_true]
        rw [app_acc (d := rowD (x.2, x.1.pw, spr x.1 r)) rfl (by simp [sizeLine_eq, rowD]) hz]
        rw [z3] at z2
        simp [z1', z2]
      · simp only [z3, decide_false, Bool.false_eq_true, if_false, e_lz, e_cons, e_C, e_nil, e_neg, Option.bind_some, e_subI]
        rw [if_pos (by simp [sizeLine_eq])]
        simp only [Option.bind_some, in_pm, e_asB]
        by_cases z4 : ti0 - tj0 = 1 ∨ ti0 - tj0 = -1
        · simp only [z4, decide_true, if_true]
          rw [app_acc (d := rowD (x.2, x.1.pw, spr x.1 r * a.lk)) rfl (by
            simp only [e_tup, e_cons, e_op, e_V, e_C, e_nil, List.getElem?_cons_zero, List.getElem?_cons_succ, Option.bind_some, i1, m2]
            rw [if_pos (by simp [sizeLine_eq])]
            rfl) hz]
          simp [z1', z2]
        · simp [z4, z1', z2]
    · refine ⟨x6, x7, ?_⟩
      simp [z2]
theorem rows_eq {a : Air} (h : a.Ok) {t : List Int} (ht : t.length = a.ss.length) (hb : ∀ b ∈ t, 0 ≤ b ∧ b ≤ 9) {i : Nat} {r : Stn} (e : a.ss[i]? = some r) : fn__law_rows [a.d, tun t, .int (i : Nat)] st = some (.lst ((rowsL a t i r).map rowD), st) := by
  unfold fn__law_rows
  refine seal_list (more := []) ?_ (pureL_map (fun _ => rfl) _)
  have hl8 := h.ss.len.2
  have fl : ∀ l : List (Stn × Nat), (l.flatMap (rowAt a t i r)).map rowD = l.flatMap fun x => (rowAt a t i r x).map rowD := fun l => by
    rw [List.map_flatMap]
  obtain ⟨ρ', e1, i1⟩ := forAcc (tg := .many [4, 5]) (bd := bodyR) (enc := fun x : Stn × Nat => D.tup [.int (x.2 : Nat), x.1.d]) (g := fun x => (rowAt a t i r x).map rowD) (s0 := st)
    (I := fun ρ => ∃ x4 x5 x6 x7, ρ = [some a.d, some (tun t), some (.int (i : Nat)), some (.ref st.length), x4, x5, x6, x7]) (l := a.ss.zipIdx) (acc := []) (ρ := [some a.d, some (tun t), some (.int (i : Nat)), some (.ref st.length), none, none, none, none]) ⟨_, _, _, _, rfl⟩ (by
      intro x hx ρ acc ⟨x4, x5, x6, x7, eρ⟩ hz
      subst eρ
      have hx2 : a.ss[x.2]? = some x.1 := by
        obtain ⟨k, hk⟩ := List.mem_iff_getElem?.mp hx
        rw [List.getElem?_zipIdx] at hk
        cases q : a.ss[k]? with
        | none => rw [q] at hk; cases hk
        | some s => rw [q] at hk; cases hk; simpa using q
      obtain ⟨y6, y7, ey⟩ := bodyR_eq (st := st) h ht hb e hx2 (x6 := x6) (x7 := x7) (acc := acc) (by omega)
      exact ⟨_, _, rfl, ⟨_, _, _, _, rfl⟩, ey⟩) (by
      have := flat_le (row_one a t i r) a.ss.zipIdx
      rw [← fl]
      simp at this ⊢
      omega)
  unfold sb__law_rows
  rw [e_run]
  simp only [List.map_cons, List.map_nil, List.length_cons, List.length_nil, List.replicate, List.cons_append, List.nil_append]
  rw [seq_nx (ρ1 := [some a.d, some (tun t), some (.int (i : Nat)), some (.ref st.length), none, none, none, none]) (st1 := st ++ [.lst []]) (by simp [sizeLine_eq])]
  obtain ⟨x4, x5, x6, x7, eρ⟩ := i1
  rw [seq_nx (ρ1 := ρ') (st1 := st ++ [.lst ((rowsL a t i r).map rowD)]) (by
    unfold sFor
    have z : iEnum (fCons (fOp ixD (fV 0) (fC (.int 0))) fNil) [some a.d, some (tun t), some (.int (i : Nat)), some (.ref st.length), none, none, none, none] (st ++ [.lst []]) = some (a.ss.zipIdx.map (fun x : Stn × Nat => D.tup [.int (x.2 : Nat), x.1.d]), [], st ++ [.lst []]) := by
      rw [← enum_zip]
      rfl
    rw [z]
    simp only [Option.bind_some]
    have := e1
    simp only [List.nil_append] at this
    show forD (.many [4, 5]) bodyR [] _ _ _ = _
    rw [this, rowsL, fl])]
  rw [eρ]
  rfl
end
end EL

set_option Elab.async false
set_option linter.all false
set_option maxRecDepth 100000
set_option maxHeartbeats 1000000
/-! sums over one bottom -/
namespace EL
open PySem PySem.Spec PyProof.Rows L2 GxR LG FW
section
variable {st : Sto}
structure RwOk (p : Rw) : Prop where
  t : 1 ≤ p.2.1 ∧ p.2.1 ≤ 1000000
  b : 1 ≤ p.2.2 ∧ p.2.2 ≤ 200000001000
theorem bt38 {x : Int} (h1 : 1 ≤ x) (h2 : x ≤ 200000001000) : Bt 38 x := by unfold Bt; omega
theorem mul_okL {a b : Nat} {i j : Int} (hi : Bt a i) (hj : Bt b j) (h : a + b < 9000) : mulD (.int i) (.int j) st = some (.int (i * j), st) := mul_ok hi hj h
def botI (rows : List Rw) : Int := prodI (rows.map fun p => p.2.2)
def sumI (rows : List Rw) : Int := (rows.map fun p => p.2.1 * (botI rows / p.2.2)).sum
theorem row_ix {p : Rw} : ixD (rowD p) (.int 0) st = some (.int (p.1 : Nat), st) ∧ ixD (rowD p) (.int 1) st = some (.int p.2.1, st) ∧ ixD (rowD p) (.int 2) st = some (.int p.2.2, st) := ⟨rfl, rfl, rfl⟩
theorem prodLoop {z : Option D} : ∀ (rows : List Rw) (x : Int) (k : Nat) (y : Option D), (∀ p ∈ rows, RwOk p) → Bt k x → k + 38 * rows.length ≤ 1000 →
    ∃ y', forD (.one 2) (sSet 1 (fOp mulD (fV 1) (fOp ixD (fV 2) (fC (.int 2))))) [] (rows.map rowD) [z, some (.int x), y] st = some (.nx, [z, some (.int (x * botI rows)), y'], st)
  | [], x, k, y, _, _, _ => ⟨y, by unfold forD; simp only [List.map_nil]; rw [if_pos Intact.nil]; simp [botI, prodI_nil]⟩
  | p :: rows, x, k, y, h, hx, hk => by
    have hp := h p List.mem_cons_self
    have b := bt38 hp.b.1 hp.b.2
    simp only [List.length_cons] at hk
    obtain ⟨y', e⟩ := prodLoop (z := z) rows (x * p.2.2) (k + 38) (some (rowD p)) (fun q hq => h q (List.mem_cons_of_mem _ hq)) (hx.mul b) (by omega)
    refine ⟨y', ?_⟩
    simp only [List.map_cons]
    unfold forD
    rw [if_pos Intact.nil]
    have t : tgD (.one 2) (rowD p) [z, some (.int x), y] = some [z, some (.int x), some (rowD p)] := rfl
    rw [t]
    simp only [Option.bind_some, e_set, e_op, e_V, e_C, List.getElem?_cons_zero, List.getElem?_cons_succ, row_ix.2.2, mul_okL hx b (show k + 38 < 9000 by omega)]
    simp only [List.set_cons_succ, List.set_cons_zero, e]
    simp [botI, prodI_cons, Int.mul_assoc]
theorem bot_ok {rows : List Rw} (h : ∀ p ∈ rows, RwOk p) (hz : rows.length ≤ 8) : 1 ≤ botI rows ∧ Bt 304 (botI rows) := by
  have h1 : ∀ x ∈ rows.map (fun p : Rw => p.2.2), 1 ≤ x := by
    intro x hx
    obtain ⟨p, hp, rfl⟩ := List.mem_map.mp hx
    exact (h p hp).b.1
  have h2 : ∀ x ∈ rows.map (fun p : Rw => p.2.2), Bt 38 x := by
    intro x hx
    obtain ⟨p, hp, rfl⟩ := List.mem_map.mp hx
    exact bt38 (h p hp).b.1 (h p hp).b.2
  refine ⟨prodI_pos h1, ?_⟩
  rcases prodI_bt h2 with q | q
  · refine q.up ?_
    rw [List.length_map]
    omega
  · unfold botI
    rw [q]
    have : Bt 1 (prodI []) := by rw [prodI_nil]; unfold Bt; decide
    exact this.up (by decide)
theorem term_bt {rows : List Rw} (h : ∀ p ∈ rows, RwOk p) (hz : rows.length ≤ 8) {p : Rw} (hp : p ∈ rows) : Bt 324 (p.2.1 * (botI rows / p.2.2)) := by
  have q := h p hp
  have b := bot_ok h hz
  have := (bt20 q.t.1 q.t.2).mul (b.2.div (by omega) q.b.1)
  exact this.up (by decide)
theorem Bt.add {k : Nat} {i j : Int} (h1 : Bt k i) (h2 : Bt k j) : Bt (k + 1) (i + j) := by
  unfold Bt at *
  rw [Nat.pow_succ]
  omega
theorem sum_bt {k : Nat} : ∀ {l : List Int}, (∀ x ∈ l, Bt k x) → Bt (k + l.length) l.sum
  | [], _ => by show Bt _ 0; unfold Bt; exact Nat.two_pow_pos _
  | x :: l, h => by
    have := sum_bt (l := l) fun y hy => h y (List.mem_cons_of_mem _ hy)
    rw [List.sum_cons, List.length_cons, ← Nat.add_assoc]
    exact ((h x List.mem_cons_self).up (Nat.le_add_right _ _)).add this
theorem sumI_bt {rows : List Rw} (h : ∀ p ∈ rows, RwOk p) (hz : rows.length ≤ 8) : Bt 332 (sumI rows) := by
  have := sum_bt (k := 324) (l := rows.map fun p => p.2.1 * (botI rows / p.2.2)) fun x hx => by
    obtain ⟨p, hp, rfl⟩ := List.mem_map.mp hx
    exact term_bt h hz hp
  rw [List.length_map] at this
  exact this.up (by omega)
theorem sum_eq {rows : List Rw} (h : ∀ p ∈ rows, RwOk p) (hz : rows.length ≤ 8) : fn__law_sum [.lst (rows.map rowD)] st = some (.tup [.int (sumI rows), .int (botI rows)], st) := by
  unfold fn__law_sum
  refine seal_same ?_ rfl
  unfold sb__law_sum
  rw [e_run]
  simp only [List.map_cons, List.map_nil, List.length_cons, List.length_nil, List.replicate, List.cons_append, List.nil_append]
  rw [seq_nx (ρ1 := [some (.lst (rows.map rowD)), some (.int 1), none]) (st1 := st) rfl]
  obtain ⟨y', e⟩ := prodLoop (st := st) (z := some (.lst (rows.map rowD))) rows 1 1 none h (by unfold Bt; decide) (by omega)
  rw [seq_nx (ρ1 := [some (.lst (rows.map rowD)), some (.int (botI rows)), y']) (st1 := st) (by
    unfold sFor
    have z : iSeq (fV 0) [some (.lst (rows.map rowD)), some (.int 1), none] st = some (rows.map rowD, [], st) := rfl
    rw [z]
    simp only [Option.bind_some]
    rw [e, Int.one_mul])]
  have b := bot_ok h hz
  have L : lcZ (.one 2) fYes (fOp mulD (fOp ixD (fV 2) (fC (.int 1))) (fOp fdivD (fV 1) (fOp ixD (fV 2) (fC (.int 2))))) [] (wipeD [some (.lst (rows.map rowD)), some (.int (botI rows)), y'] [2]) (rows.map rowD) st = some ((rows.map fun p => p.2.1 * (botI rows / p.2.2)).map D.int, st) := by
    rw [List.map_map]
    refine lcM Intact.nil fun p hp => ⟨_, rfl, ?_⟩
    have q := h p hp
    have f := fdiv_ok (st := st) (i := botI rows) (j := p.2.2) (by have := q.b.1; omega) (bt38 q.b.1 q.b.2)
    have m := mul_ok (st := st) (bt20 q.t.1 q.t.2) (b.2.div (by omega) q.b.1 : Bt 304 (botI rows / p.2.2))
    have w : wipeD [some (.lst (rows.map rowD)), some (.int (botI rows)), y'] [2] = [some (.lst (rows.map rowD)), some (.int (botI rows)), none] := rfl
    simp only [w, List.set_cons_succ, List.set_cons_zero, e_op, e_V, e_C, List.getElem?_cons_zero, List.getElem?_cons_succ, Option.bind_some, row_ix.2.1, row_ix.2.2, f, m, Function.comp]
  simp only [e_ret, e_tup, e_V, e_call, e_cons, e_nil, List.getElem?_cons_zero, List.getElem?_cons_succ, Option.bind_some]
  rw [lcz_ok (items := rows.map rowD) (src := []) (st1 := st) rfl L (by simp; omega)]
  simp only [Option.bind_some, sumD, e_listOfZ, intsD_map, Option.map_some]
  rw [if_pos (by simp [sizeLine_eq])]
  rfl
theorem stands_eq {a : Air} (h : a.Ok) {i : Nat} {r : Stn} (e : a.ss[i]? = some r) {rows : List Rw} (hr : ∀ p ∈ rows, RwOk p) (hz : rows.length ≤ 8) :
    fn__law_stands [a.d, .int (i : Nat), .lst (rows.map rowD)] st = some (.bl (decide (r.nd * sumI rows * spr r r ≤ r.pw * botI rows)), st) := by
  unfold fn__law_stands
  refine seal_same ?_ rfl
  unfold sb__law_stands
  rw [e_run]
  simp only [List.map_cons, List.map_nil, List.length_cons, List.length_nil, List.replicate, List.cons_append, List.nil_append]
  have ok := h.ss.all r (List.mem_of_getElem? e)
  have i0 : ixD a.d (.int 0) st = some (ssD a.ss, st) := rfl
  have si : ixD (ssD a.ss) (.int (i : Nat)) st = some (r.d, st) := ss_at e
  have i4 : ixD r.d (.int 4) st = some (.int r.nd, st) := rfl
  have sp := spr_pos ok ok
  have b := bot_ok hr hz
  have sb := sumI_bt hr hz
  have m1 := mul_ok (st := st) (bt20 ok.pw.1 ok.pw.2) b.2
  have m2 := mul_ok (st := st) (bt10 ok.nd.1 ok.nd.2) sb
  have m3 := mul_ok (st := st) ((bt10 ok.nd.1 ok.nd.2).mul sb) (bt28 sp.1 sp.2)
  rw [seq_nx (ρ1 := [some a.d, some (.int (i : Nat)), some (.lst (rows.map rowD)), some (.int r.pw), some (.int (spr r r)), none, none]) (st1 := st) (by
    simp only [e_unp, e_fn, e_cons, e_op, e_V, e_C, e_nil, List.getElem?_cons_zero, List.getElem?_cons_succ, Option.bind_some, i0, si, List.length_cons, List.length_nil, if_true, part_eq ok ok]
    rfl)]
  rw [seq_nx (ρ1 := [some a.d, some (.int (i : Nat)), some (.lst (rows.map rowD)), some (.int r.pw), some (.int (spr r r)), some (.int (sumI rows)), some (.int (botI rows))]) (st1 := st) (by
    simp only [e_unp, e_fn, e_cons, e_op, e_V, e_C, e_nil, List.getElem?_cons_zero, List.getElem?_cons_succ, Option.bind_some, List.length_cons, List.length_nil, if_true, sum_eq hr hz]
    rfl)]
  simp only [e_ret, e_op, e_V, e_C, List.getElem?_cons_zero, List.getElem?_cons_succ, Option.bind_some, i0, si, i4, m1, m2, m3, e_geI]
end
end EL

set_option Elab.async false
set_option linter.all false
set_option maxRecDepth 100000
set_option maxHeartbeats 1000000
/-! the two reckonings say the same -/
namespace EL
open PySem PySem.Spec PyProof.Rows L2 GxR LG FW
section
/-- the sum of the rows, over the bottom M -/
def FM (rows : List Rw) (M : Int) : Int := (rows.map fun p => p.2.1 * (M / p.2.2)).sum
theorem fm_mul {M k : Int} : ∀ {rows : List Rw}, (∀ p ∈ rows, p.2.2 ∣ M) → FM rows (M * k) = FM rows M * k
  | [], _ => by simp [FM]
  | p :: rows, h => by
    have ih := fm_mul (M := M) (k := k) (rows := rows) fun q hq => h q (List.mem_cons_of_mem _ hq)
    unfold FM at ih ⊢
    rw [List.map_cons, List.sum_cons, List.map_cons, List.sum_cons, ih, Int.add_mul, Int.mul_assoc]
    have : M * k / p.2.2 = M / p.2.2 * k := by
      rw [Int.mul_comm M k, Int.mul_ediv_assoc _ (h p List.mem_cons_self), Int.mul_comm]
    rw [this]
theorem fm_cross {M N : Int} {rows : List Rw} (h1 : ∀ p ∈ rows, p.2.2 ∣ M) (h2 : ∀ p ∈ rows, p.2.2 ∣ N) : FM rows M * N = FM rows N * M := by
  rw [← fm_mul h1, ← fm_mul h2, Int.mul_comm]
theorem bot_dvd {rows : List Rw} {p : Rw} (hp : p ∈ rows) : p.2.2 ∣ botI rows := prodI_dvd (List.mem_map.mpr ⟨p, hp, rfl⟩)
theorem sum_fm (rows : List Rw) : sumI rows = FM rows (botI rows) := rfl
/-- one's own over the same bottom -/
theorem cross {rows : List Rw} {nd pw S M B : Int} (hS : 0 < S) (hM : 0 < M) (hB : 0 < B) (dS : S ∣ M) (h1 : ∀ p ∈ rows, p.2.2 ∣ M) (h2 : ∀ p ∈ rows, p.2.2 ∣ B) :
    nd * FM rows M ≤ pw * (M / S) ↔ nd * FM rows B * S ≤ pw * B := by
  have c := fm_cross h1 h2
  obtain ⟨m, rfl⟩ := dS
  rw [Int.mul_ediv_cancel_left _ (by omega)]
  have hm : 0 < m := by
    rcases Int.lt_trichotomy m 0 with q | q | q
    · have := Int.mul_neg_of_pos_of_neg hS q; omega
    · subst q; simp at hM
    · exact q
  have e : nd * FM rows (S * m) * B = nd * FM rows B * S * m := by
    rw [Int.mul_assoc, c]; simp [Int.mul_assoc]
  constructor
  · intro h
    have := Int.mul_le_mul_of_nonneg_right h (Int.le_of_lt hB)
    rw [e] at this
    have e2 : pw * m * B = pw * B * m := by rw [Int.mul_assoc, Int.mul_comm m B, Int.mul_assoc]
    rw [e2] at this
    exact Int.le_of_mul_le_mul_right this hm
  · intro h
    have := Int.mul_le_mul_of_nonneg_right h (Int.le_of_lt hm)
    rw [← e] at this
    have e2 : pw * B * m = pw * m * B := by rw [Int.mul_assoc, Int.mul_comm B m, Int.mul_assoc]
    rw [e2] at this
    exact Int.le_of_mul_le_mul_right this hB
theorem oth_idx (a : Air) (i : Nat) (r : Stn) : othL a i r = a.ss.zipIdx.map fun x => if x.2 = i then ((0, 0, 0) : Int × Int × Int) else (r.nd * a.lk * shareI a.ss r x.1, r.nd * shareI a.ss r x.1, 0) := by
  unfold othL
  apply List.ext_getElem?
  intro j
  rw [List.getElem?_set, List.getElem?_map, List.getElem?_map, List.getElem?_zipIdx, List.length_map]
  by_cases q : i = j
  · subst q
    by_cases hl : i < a.ss.length
    · simp [hl]
    · simp [hl]
  · have q' : ¬ j = i := fun z => q z.symm
    cases a.ss[j]? <;> simp [q, q']
theorem zip_idx {α β : Type} (g : β → Int → Int) (u : α × Nat → β) {ss : List α} {t : List Int} (ht : t.length = ss.length) : List.zipWith g (ss.zipIdx.map u) t = ss.zipIdx.map fun x => g (u x) (t.getD x.2 0) := by
  apply List.ext_getElem?
  intro j
  rw [List.getElem?_zipWith, List.getElem?_map, List.getElem?_map, List.getElem?_zipIdx]
  by_cases hl : j < ss.length
  · have : j < t.length := by omega
    simp [hl, this]
  · have h1 : ss[j]? = none := by simp; omega
    simp [h1]
theorem sum_flat {α : Type} (g : α → List Rw) (f : Rw → Int) : ∀ l : List α, ((l.flatMap g).map f).sum = (l.map fun x => ((g x).map f).sum).sum
  | [] => rfl
  | x :: l => by rw [List.flatMap_cons, List.map_append, List.sum_append, sum_flat g f l, List.map_cons, List.sum_cons]
theorem sum_mul {α : Type} (f : α → Int) (k : Int) : ∀ l : List α, k * (l.map f).sum = (l.map fun x => k * f x).sum
  | [] => by simp
  | x :: l => by rw [List.map_cons, List.sum_cons, List.map_cons, List.sum_cons, Int.mul_add, sum_mul f k l]
theorem zipIdx_mem {ss : List Stn} {x : Stn × Nat} (hx : x ∈ ss.zipIdx) : ss[x.2]? = some x.1 := by
  obtain ⟨k, hk⟩ := List.mem_iff_getElem?.mp hx
  rw [List.getElem?_zipIdx] at hk
  cases q : ss[k]? with
  | none => rw [q] at hk; cases hk
  | some s => rw [q] at hk; cases hk; simpa using q
theorem gap_zero {b o : Int} (hb : 0 < b) (ho : 0 ≤ o) : gapI b o = 0 ↔ 0 < b * o ∧ b = o := by
  unfold gapI
  have : b * o = 0 ↔ o = 0 := by
    constructor
    · intro h; rcases Int.mul_eq_zero.mp h with q | q <;> omega
    · intro h; rw [h]; simp
  have p := Int.mul_nonneg (Int.le_of_lt hb) ho
  split
  · rename_i q
    have : o = 0 := by omega
    subst this
    simp
  · split <;> split <;> omega
theorem gap_one {b o : Int} (hb : 0 < b) (ho : 0 ≤ o) : gapI b o = 1 ↔ 0 < b * o ∧ (b - o = 1 ∨ b - o = -1) := by
  unfold gapI
  have : b * o = 0 ↔ o = 0 := by
    constructor
    · intro h; rcases Int.mul_eq_zero.mp h with q | q <;> omega
    · intro h; rw [h]; simp
  have p := Int.mul_nonneg (Int.le_of_lt hb) ho
  split
  · rename_i q
    have : o = 0 := by omega
    subst this
    simp
  · split <;> split <;> omega
theorem dis_rows {a : Air} (h : a.Ok) {t : List Int} (ht : t.length = a.ss.length) (hb : ∀ b ∈ t, 0 ≤ b ∧ b ≤ 9) {i : Nat} {r : Stn} (hr : r.Ok) (hi : 0 < t.getD i 0) :
    disI (othL a i r) (t.getD i 0) t = r.nd * FM (rowsL a t i r) (a.lk * prodI (sprs a.ss r)) := by
  unfold disI FM rowsL
  rw [oth_idx, zip_idx _ _ ht, sum_flat, sum_mul]
  congr 1
  refine List.map_congr_left fun x hx => ?_
  have hx2 := zipIdx_mem hx
  have hs := h.ss.all x.1 (List.mem_of_getElem? hx2)
  have sp := spr_pos hs hr
  have dv : spr x.1 r ∣ prodI (sprs a.ss r) := prodI_dvd (List.mem_map.mpr ⟨x.1, List.mem_of_getElem? hx2, rfl⟩)
  have bx := t_bound hb x.2
  have lk := h.lk.1
  unfold rowAt
  by_cases q : x.2 = i
  · have : ∀ g : Int, pick3 (0, 0, 0) g = 0 := fun g => by unfold pick3; simp
    simp [q, this]
  · simp only [q, if_false, ne_eq, not_false_eq_true, true_and]
    have g0 := gap_zero hi bx.1
    have g1 := gap_one hi bx.1
    have gc := gap_cases (t.getD i 0) (t.getD x.2 0)
    generalize t.getD i 0 = b at *
    generalize t.getD x.2 0 = o at *
    generalize gapI b o = g at *
    unfold pick3 shareI
    rcases gc with z | z | z
    · have ⟨z1, z2⟩ := g0.mp z
      rw [z2] at z1
      simp only [z, z2, z1, if_true, gt_iff_lt, List.map_cons, List.map_nil, List.sum_cons, List.sum_nil, Int.add_zero]
      rw [Int.mul_ediv_assoc _ dv]
      grind
    · have ⟨z1, z2⟩ := g1.mp z
      have z3 : ¬ b = o := by omega
      simp only [z, z1, z2, z3, if_true, if_false, gt_iff_lt, List.map_cons, List.map_nil, List.sum_cons, List.sum_nil, Int.add_zero]
      rw [Int.mul_comm (spr x.1 r), Int.mul_ediv_mul_of_pos _ _ (by omega)]
      simp [Int.mul_assoc]
    · have z0 : ¬ (0 < b * o ∧ b = o) := fun w => by have := g0.mpr w; omega
      have z1 : ¬ (0 < b * o ∧ (b - o = 1 ∨ b - o = -1)) := fun w => by have := g1.mpr w; omega
      have e0 : ¬ g = 0 := by omega
      have e1 : ¬ g = 1 := by omega
      simp only [e0, e1, if_false, gt_iff_lt]
      split
      · rename_i w
        have w1 : ¬ b = o := fun v => z0 ⟨w, v⟩
        have w2 : ¬ (b - o = 1 ∨ b - o = -1) := fun v => z1 ⟨w, v⟩
        simp [w1, w2]
      · simp
theorem row_mem {a : Air} (h : a.Ok) {t : List Int} {i : Nat} {r : Stn} (hr : r.Ok) {p : Rw} (hp : p ∈ rowsL a t i r) : RwOk p ∧ p.2.2 ∣ a.lk * prodI (sprs a.ss r) ∧ p.1 < a.ss.length := by
  unfold rowsL at hp
  obtain ⟨x, hx, hp⟩ := List.mem_flatMap.mp hp
  have hx2 := zipIdx_mem hx
  have hs := h.ss.all x.1 (List.mem_of_getElem? hx2)
  have sp := spr_pos hs hr
  have dv : spr x.1 r ∣ prodI (sprs a.ss r) := prodI_dvd (List.mem_map.mpr ⟨x.1, List.mem_of_getElem? hx2, rfl⟩)
  have lk := h.lk
  have pw := hs.pw
  have hl := (List.getElem?_eq_some_iff.mp hx2).1
  unfold rowAt at hp
  split at hp
  · split at hp
    · rw [List.mem_singleton] at hp; subst hp
      exact ⟨⟨pw, sp.1, by show spr x.1 r ≤ _; omega⟩, Int.dvd_mul_of_dvd_right dv, hl⟩
    · split at hp
      · rw [List.mem_singleton] at hp; subst hp
        refine ⟨⟨pw, ?_, ?_⟩, ?_, hl⟩
        · show 1 ≤ spr x.1 r * a.lk
          have := Int.mul_le_mul sp.1 lk.1 (by decide) (by omega)
          omega
        · show spr x.1 r * a.lk ≤ _
          have := Int.mul_le_mul sp.2 lk.2 (by omega) (by decide)
          omega
        · show spr x.1 r * a.lk ∣ _
          rw [Int.mul_comm]
          exact Int.mul_dvd_mul_left _ dv
      · cases hp
  · cases hp
theorem heard_rows {a : Air} (h : a.Ok) {t : List Int} (ht : t.length = a.ss.length) (hb : ∀ b ∈ t, 0 ≤ b ∧ b ≤ 9) {i : Nat} {r : Stn} (e : a.ss[i]? = some r) (hi : 0 < t.getD i 0) :
    heardB a t i r = decide (r.nd * sumI (rowsL a t i r) * spr r r ≤ r.pw * botI (rowsL a t i r)) := by
  have hr := h.ss.all r (List.mem_of_getElem? e)
  have sp := spr_pos hr hr
  have hp : ∀ p ∈ rowsL a t i r, RwOk p ∧ p.2.2 ∣ a.lk * prodI (sprs a.ss r) ∧ p.1 < a.ss.length := fun p => row_mem h hr
  have lk := h.lk
  have P1 : 1 ≤ prodI (sprs a.ss r) := prodI_pos fun x hx => ((sprs_ok h.ss hr).1 x hx).1
  have dv : spr r r ∣ prodI (sprs a.ss r) := prodI_dvd (List.mem_map.mpr ⟨r, List.mem_of_getElem? e, rfl⟩)
  have M1 : 0 < a.lk * prodI (sprs a.ss r) := Int.mul_pos (by omega) (by omega)
  have B1 : 1 ≤ botI (rowsL a t i r) := prodI_pos fun x hx => by
    obtain ⟨p, q, rfl⟩ := List.mem_map.mp hx
    exact (hp p q).1.b.1
  have c := cross (rows := rowsL a t i r) (nd := r.nd) (pw := r.pw) (S := spr r r) (by omega) M1 (by omega : 0 < botI (rowsL a t i r)) (Int.dvd_mul_of_dvd_right dv) (fun p q => (hp p q).2.1) (fun p q => bot_dvd q)
  unfold heardB
  rw [dis_rows h ht hb hr hi, sum_fm]
  have o : ownI a r = r.pw * (a.lk * prodI (sprs a.ss r) / spr r r) := by
    unfold ownI shareI
    rw [Int.mul_ediv_assoc _ dv]
    grind
  have nz : decide (t.getD i 0 ≠ 0) = true := decide_eq_true (fun z => by omega)
  rw [o, nz, Bool.true_and]
  exact decide_eq_decide.mpr c
end
end EL

set_option Elab.async false
set_option linter.all false
set_option maxRecDepth 100000
set_option maxHeartbeats 1000000
/-! cures told, as plain functions -/
namespace EL
open PySem PySem.Spec PyProof.Rows L2 GxR LG FW
/-! rising texts -/
def ltS (x y : Str) : Bool := decide (x.cps.toList < y.cps.toList)
def risB : List Str → Bool
  | x :: y :: r => ltS x y && risB (y :: r)
  | _ => true
theorem ltS_tr {x y z : Str} (h1 : ltS x y = true) (h2 : ltS y z = true) : ltS x z = true := by
  simp only [ltS, decide_eq_true_eq] at *; exact List.lt_trans h1 h2
theorem ris_pw : ∀ xs : List Str, risB xs = true ↔ xs.Pairwise (fun x y => ltS x y = true)
  | [] => by simp [risB]
  | [x] => by simp [risB]
  | x :: y :: r => by
    have ih := ris_pw (y :: r)
    simp only [risB, Bool.and_eq_true, ih, List.pairwise_cons (a := x)]
    constructor
    · rintro ⟨h1, h2⟩
      refine ⟨fun z hz => ?_, h2⟩
      rcases List.mem_cons.mp hz with e | e
      · exact e ▸ h1
      · exact ltS_tr h1 ((List.pairwise_cons.mp h2).1 z e)
    · rintro ⟨h1, h2⟩
      exact ⟨h1 y List.mem_cons_self, h2⟩
theorem lt_le {x y : Str} (h : ltS x y = true) : SX.leS x y = true := by
  simp only [ltS, SX.leS, decide_eq_true_eq] at *; exact List.le_of_lt h
theorem lt_ne {x y : Str} (h : ltS x y = true) : x ≠ y := fun e => by
  subst e
  simp only [ltS, decide_eq_true_eq] at h
  exact List.lt_irrefl _ h
theorem le_lt {x y : Str} (h : SX.leS x y = true) (hn : x ≠ y) : ltS x y = true := by
  by_cases hl : ltS x y = true
  · exact hl
  · have : SX.leS y x = true := by
      simp only [ltS, SX.leS, decide_eq_true_eq] at *
      exact List.not_lt.mp hl
    exact absurd (SX.leS_anti h this) hn
theorem ris_sort (xs : List Str) : risB xs = decide (xs = SX.sortSet xs) := by
  rw [Bool.eq_iff_iff, ris_pw, decide_eq_true_eq]
  constructor
  · intro h
    have nd : xs.Nodup := h.imp fun q => lt_ne q
    have e := SX.sortSet_of (l := xs) nd fun k => Iff.rfl
    rw [← e]
    exact SX.srt_uniq (le := fun a b => SX.leS a b = true) (fun a b => SX.leS_anti) (h.imp fun q => lt_le q) (List.pairwise_mergeSort SX.leS_tr SX.leS_tot xs) (List.mergeSort_perm xs SX.leS).symm
  · intro h
    have s1 : (SX.sortSet xs).Pairwise (fun a b => SX.leS a b = true) := List.pairwise_mergeSort SX.leS_tr SX.leS_tot _
    have s2 : (SX.sortSet xs).Nodup := (List.mergeSort_perm _ _).nodup_iff.mpr (SX.dd_nodup xs)
    rw [← h] at s1 s2
    exact s1.imp₂ (fun a b h1 h2 => le_lt h1 h2) s2
section
variable {st : Sto}
theorem zip_ris : ∀ xs : List Str, (List.zipWith (fun x y => D.tup [x, y]) (xs.map D.str) ((xs.map D.str).drop 1)).all (fun d => match d with
    | .tup [.str x, .str y] => ltS x y
    | _ => false) = risB xs
  | [] => rfl
  | [x] => rfl
  | x :: y :: r => by
    have ih := zip_ris (y :: r)
    simp only [List.map_cons, List.drop_one, List.tail_cons, List.zipWith_cons_cons, List.all_cons, risB] at ih ⊢
    rw [ih]
theorem cut_one {ds : List D} : cutD ds (some 1) none = ds.drop 1 := by
  unfold cutD
  have e1 : HT.sIx ds.length 0 (some 1) = min 1 ds.length := HT.sIx_nat _ _ 1
  rw [e1]
  show List.take (ds.length - _) _ = _
  cases ds with
  | nil => rfl
  | cons x r => simp
theorem rising_eq {xs : List Str} : fn_is_rising [.tup (xs.map D.str)] st = some (.bl (risB xs), st) := by
  unfold fn_is_rising
  refine seal_same ?_ rfl
  unfold sb_is_rising
  rw [e_run]
  simp only [List.map_cons, List.map_nil, List.length_cons, List.length_nil, Nat.zero_add, Nat.sub_self, List.replicate, List.append_nil, List.cons_append, List.nil_append]
  have A : allD (.many [0, 1]) (fOp ltD (fV 0) (fV 1)) [] (List.zipWith (fun x y => D.tup [x, y]) (xs.map D.str) ((xs.map D.str).drop 1)) [none, none] st = some (risB xs, st) := by
    rw [← zip_ris]
    refine allD_eq Intact.nil (I := fun ρ => ∃ p q, ρ = [p, q]) ⟨_, _, rfl⟩ fun d hd ρ ⟨p, q, eρ⟩ => ?_
    subst eρ
    obtain ⟨i, hi, e⟩ := List.getElem_of_mem hd
    rw [List.getElem_zipWith] at e
    simp only [List.getElem_map, List.getElem_drop] at e
    subst e
    exact ⟨_, rfl, ⟨_, _, rfl⟩, rfl⟩
  have Z : iZip2 (fCons (fV 0) (fCons (fSl (fV 0) (oSome (fC (.int 1))) oNone) fNil)) [some (.tup (xs.map D.str))] st = some (List.zipWith (fun x y => D.tup [x, y]) (xs.map D.str) ((xs.map D.str).drop 1), [], st) := by
    unfold iZip2
    simp only [e_cons, e_V, e_nil, e_sl, e_oS, e_oN, e_C, List.getElem?_cons_zero, Option.bind_some, e_slT, cut_one, e_sqT]
    rfl
  rw [e_ret]
  unfold fAllG
  rw [Z]
  simp only [Option.bind_some]
  rw [show capD [none, none] [some (.tup (xs.map D.str))] = [none, none] from rfl, A]
  rfl
/-! the others who send -/
def sendB (t : List Int) (r : Stn) (x : Stn × Nat) : Bool := decide (t.getD x.2 0 ≠ 0) && decide (x.1.nm ≠ r.nm)
def sendL (a : Air) (t : List Int) (r : Stn) : List Str := (a.ss.zipIdx.filter (sendB t r)).map fun x => x.1.nm
theorem zip_ss {ss : List Stn} {t : List Int} (ht : t.length = ss.length) : List.zipWith (fun x y => D.tup [x, y]) (ss.map Stn.d) (t.map D.int) = ss.zipIdx.map fun x => D.tup [x.1.d, .int (t.getD x.2 0)] := by
  apply List.ext_getElem?
  intro j
  rw [List.getElem?_zipWith, List.getElem?_map, List.getElem?_map, List.getElem?_map, List.getElem?_zipIdx]
  by_cases hl : j < ss.length
  · have : j < t.length := by omega
    simp [hl, this]
  · have h1 : ss[j]? = none := by simp; omega
    simp [h1]
theorem ss_len {a : Air} (h : a.Ok) (f : Stn × Nat → Bool) : (a.ss.zipIdx.filter f).length ≤ 8 := by
  have h1 := List.length_filter_le f a.ss.zipIdx
  have h2 := h.ss.len.2
  rw [List.length_zipIdx] at h1
  omega
theorem nm_ok {s : Stn} (h : s.Ok) : PyData.strOk s.nm = true := str_okB _ h.nm
theorem other_eq {a : Air} (h : a.Ok) {t : List Int} (ht : t.length = a.ss.length) {i : Nat} {r : Stn} (e : a.ss[i]? = some r) (hi : t.getD i 0 ≠ 0) :
    fn_other_senders [a.d, tun t, .str r.nm] st = some (.lst ((sendL a t r).map D.str), st) := by
  have hl := (List.getElem?_eq_some_iff.mp e).1
  have hr := h.ss.all r (List.mem_of_getElem? e)
  unfold fn_other_senders
  refine seal_same ?_ (by unfold pureB; exact pureL_map (fun _ => rfl) _)
  unfold sb_other_senders
  rw [e_run]
  simp only [List.map_cons, List.map_nil, List.length_cons, List.length_nil, List.replicate, List.cons_append, List.nil_append]
  have i0 : ixD a.d (.int 0) st = some (ssD a.ss, st) := rfl
  rw [seq_nx (ρ1 := [some a.d, some (tun t), some (.str r.nm), some (ssD a.ss), none, none]) (st1 := st) rfl]
  rw [seq_nx (ρ1 := [some a.d, some (tun t), some (.str r.nm), some (ssD a.ss), none, none]) (st1 := st) (by
    simp only [e_if, e_tst, e_op, e_V, e_C, e_fn, e_cons, e_nil, List.getElem?_cons_zero, List.getElem?_cons_succ, Option.bind_some, List.length_cons, List.length_nil, if_true, seat_eq h.ss e, tun_at ht hl, e_eqI, e_asB]
    rw [decide_eq_false hi]
    rfl)]
  have L : lcZ (.many [4, 5]) (fTAnd (fTst (fOp neD (fV 5) (fC (.int 0)))) (fTst (fOp neD (fOp ixD (fV 4) (fC (.int 0))) (fV 2)))) (fOp ixD (fV 4) (fC (.int 0))) [] (wipeD [some a.d, some (tun t), some (.str r.nm), some (ssD a.ss), none, none] [4, 5]) (List.zipWith (fun x y => D.tup [x, y]) (a.ss.map Stn.d) (t.map D.int)) st = some ((sendL a t r).map D.str, st) := by
    rw [zip_ss ht, sendL, List.map_map]
    refine lcE Intact.nil fun x hx => ⟨_, rfl, ?_, fun _ => rfl⟩
    have hx2 := zipIdx_mem hx
    have hs := h.ss.all x.1 (List.mem_of_getElem? hx2)
    have w : wipeD [some a.d, some (tun t), some (.str r.nm), some (ssD a.ss), none, none] [4, 5] = [some a.d, some (tun t), some (.str r.nm), some (ssD a.ss), none, none] := rfl
    have x0 : ixD x.1.d (.int 0) st = some (.str x.1.nm, st) := rfl
    unfold sendB
    simp only [w, setM, List.set_cons_succ, List.set_cons_zero, e_tand, e_tst, e_op, e_V, e_C, List.getElem?_cons_zero, List.getElem?_cons_succ, Option.bind_some, e_neI, e_asB, x0, ne_str (nm_ok hs) (nm_ok hr)]
    generalize t.getD x.2 0 = tv
    by_cases q : tv = 0
    · simp only [q]; rfl
    · simp only [q]
      by_cases q2 : x.1.nm = r.nm
      · simp [q2]
      · simp [q2, q]
  rw [e_ret, lcz_ok (items := List.zipWith (fun x y => D.tup [x, y]) (a.ss.map Stn.d) (t.map D.int)) (src := []) (st1 := st) rfl L (by
    rw [List.length_map]
    unfold sendL
    rw [List.length_map]
    have := ss_len h (sendB t r)
    omega)]
  rfl
end
end EL

set_option Elab.async false
set_option linter.all false
set_option maxRecDepth 100000
set_option maxHeartbeats 1000000
/-! cures told, as plain functions: silence, is_cure -/
namespace EL
open PySem PySem.Spec PyProof.Rows L2 GxR LG FW
section
variable {st : Sto}
theorem str_beq {x y : Str} : (x == y) = decide (x = y) := by
  by_cases q : x = y
  · subst q; simp
  · simp [q]
theorem any_strs {x : Str} (xs : List Str) : ((xs.map D.str).any fun y => eqB y (.str x)) = decide (x ∈ xs) := by
  induction xs with
  | nil => simp
  | cons y xs ih =>
    rw [List.map_cons, List.any_cons, ih]
    have : eqB (.str y) (.str x) = (y == x) := rfl
    rw [this]
    by_cases q : x = y
    · subst q; simp
    · have : ¬ y = x := fun z => q z.symm
      simp [q, this]
theorem flat_strs (xs : List Str) : (xs.map D.str).all flatD = true := by
  rw [List.all_map]
  exact List.all_eq_true.mpr fun _ _ => rfl
theorem in_tup {x : Str} {xs : List Str} {neg : Bool} : inW neg (.str x) (.tup (xs.map D.str)) st = some (.bl (nB neg (decide (x ∈ xs))), st) := by
  unfold inW
  simp only [any_strs, flat_strs]
  rfl
/-! made silent -/
def silT (a : Air) (t : List Int) (xs : List Str) : List Int := a.ss.zipIdx.map fun x => if x.1.nm ∈ xs then 0 else t.getD x.2 0
theorem sil_len {a : Air} {t : List Int} {xs : List Str} : (silT a t xs).length = a.ss.length := by simp [silT]
theorem sil_at {a : Air} {t : List Int} {xs : List Str} {j : Nat} {s : Stn} (e : a.ss[j]? = some s) : (silT a t xs).getD j 0 = if s.nm ∈ xs then 0 else t.getD j 0 := by
  unfold silT
  rw [List.getD_eq_getElem?_getD, List.getElem?_map, List.getElem?_zipIdx, e]
  simp
theorem sil_ok {a : Air} {t : List Int} {xs : List Str} (hb : ∀ b ∈ t, 0 ≤ b ∧ b ≤ 9) : ∀ b ∈ silT a t xs, 0 ≤ b ∧ b ≤ 9 := by
  intro b h
  obtain ⟨x, hx, rfl⟩ := List.mem_map.mp h
  split
  · omega
  · exact t_bound hb x.2
theorem silenced_eq {a : Air} (h : a.Ok) {t : List Int} (ht : t.length = a.ss.length) {xs : List Str} : fn_silenced [a.d, tun t, .tup (xs.map D.str)] st = some (tun (silT a t xs), st) := by
  unfold fn_silenced
  refine seal_same ?_ (by unfold tun pureB; exact pureL_map (fun _ => rfl) _)
  unfold sb_silenced
  rw [e_run]
  simp only [List.map_cons, List.map_nil, List.length_cons, List.length_nil, List.replicate, List.cons_append, List.nil_append]
  rw [seq_nx (ρ1 := [some a.d, some (tun t), some (.tup (xs.map D.str)), some (ssD a.ss)]) (st1 := st) rfl]
  have Z : iZip2 (fCons (fV 3) (fCons (fV 1) fNil)) [some a.d, some (tun t), some (.tup (xs.map D.str)), some (ssD a.ss)] st = some (a.ss.zipIdx.map (fun x => D.tup [x.1.d, .int (t.getD x.2 0)]), [], st) := by
    rw [← zip_ss ht]; rfl
  have T : tupD (.many [0, 1]) (fIf (fTst (fOp (inW false) (fOp ixD (fV 0) (fC (.int 0))) (fV 2))) (fC (.int 0)) (fV 1)) [] (a.ss.zipIdx.map (fun x => D.tup [x.1.d, .int (t.getD x.2 0)])) [none, none, some (.tup (xs.map D.str))] st = some ((silT a t xs).map D.int, st) := by
    rw [silT, List.map_map]
    refine tupE Intact.nil (I := fun ρ => ∃ p q, ρ = [p, q, some (.tup (xs.map D.str))]) ⟨_, _, rfl⟩ fun x hx ρ ⟨p, q, eρ⟩ => ?_
    subst eρ
    refine ⟨_, rfl, ⟨_, _, rfl⟩, ?_⟩
    have x0 : ixD x.1.d (.int 0) st = some (.str x.1.nm, st) := rfl
    simp only [setM, e_ifx, e_tst, e_op, e_V, e_C, List.set_cons_succ, List.set_cons_zero, List.getElem?_cons_zero, List.getElem?_cons_succ, Option.bind_some, x0, in_tup, e_asB, nB, Function.comp]
    by_cases q : x.1.nm ∈ xs
    · simp [q]
    · simp [q]
  rw [e_ret]
  unfold fTupG
  rw [Z]
  simp only [Option.bind_some]
  rw [show capD [none, none, some 2] [some a.d, some (tun t), some (.tup (xs.map D.str)), some (ssD a.ss)] = [none, none, some (.tup (xs.map D.str))] from rfl, T]
  simp only [Option.bind_some]
  have h8 := h.ss.len.2
  rw [if_pos (by
    rw [sizeLine_eq, List.length_map, sil_len, List.length_map, List.length_zipIdx]
    omega)]
  rfl
/-! what is told to be a cure -/
def strsOf (ds : List D) : List Str := ds.filterMap fun d => match d with
  | .str x => some x
  | _ => none
theorem strsOf_map (xs : List Str) : strsOf (xs.map D.str) = xs := by
  unfold strsOf
  rw [List.filterMap_map]
  exact List.filterMap_some ..
def inB (xs : List Str) (d : D) : Bool := (xs.map D.str).any fun y => eqB y d
theorem inB_str {xs : List Str} {d : D} (h : inB xs d = true) : ∃ x ∈ xs, d = .str x := by
  obtain ⟨y, hy, e⟩ := List.any_eq_true.mp h
  obtain ⟨x, hx, rfl⟩ := List.mem_map.mp hy
  cases d with
  | str z =>
    have : (x == z) = true := e
    rw [str_beq] at this
    exact ⟨x, hx, by rw [of_decide_eq_true this]⟩
  | _ => cases e
theorem all_strs {xs : List Str} : ∀ {ds : List D}, ds.all (inB xs) = true → ds = (strsOf ds).map D.str ∧ ∀ x ∈ strsOf ds, x ∈ xs
  | [], _ => ⟨rfl, fun _ h => by cases h⟩
  | d :: ds, h => by
    rw [List.all_cons, Bool.and_eq_true] at h
    obtain ⟨x, hx, rfl⟩ := inB_str h.1
    have ⟨e, m⟩ := all_strs (ds := ds) h.2
    have z : strsOf (.str x :: ds) = x :: strsOf ds := rfl
    rw [z]
    exact ⟨by rw [List.map_cons, ← e], fun y hy => by rcases List.mem_cons.mp hy with q | q; exact q ▸ hx; exact m y q⟩
def cureB (a : Air) (t : List Int) (i : Nat) (r : Stn) (d : D) : Bool := match d with
  | .tup ds => ds.all (inB (sendL a t r)) && (risB (strsOf ds) && heardB a (silT a t (strsOf ds)) i r)
  | _ => false
theorem okB_up : ∀ {n m : Nat} {d : D}, okB n d = true → n ≤ m → okB m d = true := by
  have key : ∀ n, (∀ {m : Nat} {d : D}, okB n d = true → n ≤ m → okB m d = true) ∧ (∀ {m : Nat} {ds : List D}, okBs n ds = true → n ≤ m → okBs m ds = true) := by
    intro n
    induction n with
    | zero =>
      have one : ∀ {m : Nat} {d : D}, okB 0 d = true → 0 ≤ m → okB m d = true := by
        intro m d h _
        cases d <;> first | (cases h; done) | (cases m <;> exact h)
      refine ⟨one, ?_⟩
      intro m ds
      induction ds with
      | nil => intro _ _; cases m <;> rfl
      | cons d ds ih =>
        intro h hm
        unfold okBs at h ⊢
        rw [Bool.and_eq_true] at h ⊢
        exact ⟨one h.1 hm, ih h.2 hm⟩
    | succ n ih =>
      have one : ∀ {m : Nat} {d : D}, okB (n + 1) d = true → n + 1 ≤ m → okB m d = true := by
        intro m d h hm
        obtain ⟨k, rfl⟩ : ∃ k, m = k + 1 := ⟨m - 1, by omega⟩
        cases d with
        | tup ds => unfold okB at h ⊢; exact ih.2 h (by omega)
        | lst ds => unfold okB at h ⊢; exact ih.2 h (by omega)
        | _ => first | exact h | cases h
      refine ⟨one, ?_⟩
      intro m ds
      induction ds with
      | nil => intro _ _; cases m <;> rfl
      | cons d ds ih2 =>
        intro h hm
        unfold okBs at h ⊢
        rw [Bool.and_eq_true] at h ⊢
        exact ⟨one h.1 hm, ih2 h.2 hm⟩
  intro n m d h hm
  exact (key n).1 h hm
theorem okBs_mem {n : Nat} : ∀ {ds : List D}, okBs n ds = true ↔ ∀ d ∈ ds, okB n d = true
  | [] => by unfold okBs; simp
  | d :: ds => by unfold okBs; rw [Bool.and_eq_true, okBs_mem]; simp
theorem val_data {n : Nat} {d : D} (h : okB n d = true) : byVal d st = d := by
  cases d with
  | ref l => cases n <;> cases h
  | _ => rfl
theorem okBs_strs {n : Nat} {xs : List Str} (h : ∀ x ∈ xs, PyData.strOk x = true) : okBs n (xs.map D.str) = true := okBs_mem.mpr fun d hd => by
  obtain ⟨x, hx, rfl⟩ := List.mem_map.mp hd
  cases n <;> exact h x hx
theorem in_lst {n : Nat} {d : D} {xs : List Str} {neg : Bool} (hd : okB n d = true) (hn : n ≤ 60 := by decide) (hx : ∀ x ∈ xs, PyData.strOk x = true) : inW neg d (.lst (xs.map D.str)) st = some (.bl (nB neg (inB xs d)), st) := by
  unfold inW
  simp only [e_listOfZ, Option.bind_some, val_data hd]
  rw [if_pos ⟨okB_up hd hn, okBs_strs hx⟩]
  rfl
theorem send_mem {a : Air} (h : a.Ok) {t : List Int} {r : Stn} {x : Str} (hx : x ∈ sendL a t r) : x ∈ nms := by
  obtain ⟨y, hy, rfl⟩ := List.mem_map.mp hx
  exact (h.ss.all y.1 (List.mem_of_getElem? (zipIdx_mem (List.mem_filter.mp hy).1))).nm
/-- data of a bounded depth and length -/
def Th (d : D) : Prop := okB 50 d = true ∧ ∀ ds, d = .tup ds → ds.length ≤ 60
def isTup : D → Bool
  | .tup _ => true
  | _ => false
theorem isi_tup {n : Nat} {d : D} (h : okB n d = true) : isiD [d, .ty "tuple"] st = some (.bl (isTup d), st) := by
  cases d with
  | non => rfl
  | bl b => rfl
  | int i => rfl
  | str x => rfl
  | tup ds => rfl
  | lst ds => rfl
  | _ => cases n <;> cases h
theorem is_cure_eq {a : Air} (h : a.Ok) {t : List Int} (ht : t.length = a.ss.length) {i : Nat} {r : Stn} (e : a.ss[i]? = some r) (hi : t.getD i 0 ≠ 0) {d : D} (hd : Th d) :
    fn_is_cure [a.d, tun t, .str r.nm, d] st = some (.bl (cureB a t i r d), st) := by
  unfold fn_is_cure
  refine seal_same ?_ rfl
  unfold sb_is_cure
  rw [e_run]
  simp only [List.map_cons, List.map_nil, List.length_cons, List.length_nil, List.replicate, List.cons_append, List.nil_append]
  rw [seq_nx (ρ1 := [some a.d, some (tun t), some (.str r.nm), some d, some (.lst ((sendL a t r).map D.str))]) (st1 := st) (by
    simp only [e_set, e_fn, e_V, e_cons, e_nil, List.getElem?_cons_zero, List.getElem?_cons_succ, Option.bind_some, List.length_cons, List.length_nil, if_true, other_eq h ht e hi]
    rfl)]
  have isi := isi_tup (st := st) hd.1
  unfold cureB
  split
  · rename_i ds
    have isi : isiD [.tup ds, .ty "tuple"] st = some (.bl true, st) := isi
    have hds : okBs 49 ds = true := by have := hd.1; unfold okB at this; exact this
    have A : fAllG (iSeq (fV 3)) (.one 0) (fOp (inW false) (fV 0) (fV 1)) [none, some 4] [some a.d, some (tun t), some (.str r.nm), some (.tup ds), some (.lst ((sendL a t r).map D.str))] st = some (.bl (ds.all (inB (sendL a t r))), st) := by
      unfold fAllG
      have Z : iSeq (fV 3) [some a.d, some (tun t), some (.str r.nm), some (.tup ds), some (.lst ((sendL a t r).map D.str))] st = some (ds, [], st) := rfl
      rw [Z]
      simp only [Option.bind_some]
      have B : allD (.one 0) (fOp (inW false) (fV 0) (fV 1)) [] ds [none, some (.lst ((sendL a t r).map D.str))] st = some (ds.all (inB (sendL a t r)), st) := by
        refine allD_eq Intact.nil (I := fun ρ => ∃ p, ρ = [p, some (.lst ((sendL a t r).map D.str))]) ⟨_, rfl⟩ fun x hx ρ ⟨p, eρ⟩ => ?_
        subst eρ
        refine ⟨_, rfl, ⟨_, rfl⟩, ?_⟩
        simp only [e_op, e_V, List.set_cons_zero, List.getElem?_cons_zero, List.getElem?_cons_succ, Option.bind_some, in_lst (okBs_mem.mp hds x hx) (by decide) (fun y hy => str_okB y (send_mem h hy)), nB]
        rfl
      rw [show capD [none, some 4] [some a.d, some (tun t), some (.str r.nm), some (.tup ds), some (.lst ((sendL a t r).map D.str))] = [none, some (.lst ((sendL a t r).map D.str))] from rfl, B]
      rfl
    cases q : ds.all (inB (sendL a t r)) with
    | false =>
      rw [q] at A
      simp only [e_seq, e_if, e_tor, e_tnot, e_tst, e_call, e_cons, e_V, e_C, e_nil, List.getElem?_cons_zero, List.getElem?_cons_succ, Option.bind_some, isi, e_asB, A, e_ret, Bool.not_true, Bool.not_false, Bool.false_eq_true, if_false, if_true, Bool.false_and]
    | true =>
      rw [q] at A
      obtain ⟨e1, m⟩ := all_strs q
      rw [seq_nx (ρ1 := [some a.d, some (tun t), some (.str r.nm), some (.tup ds), some (.lst ((sendL a t r).map D.str))]) (st1 := st) (by
        simp only [e_if, e_tor, e_tnot, e_tst, e_call, e_cons, e_V, e_C, e_nil, List.getElem?_cons_zero, List.getElem?_cons_succ, Option.bind_some, isi, e_asB, A, Bool.not_true, Bool.false_eq_true, if_false, e_next])]
      have R : fn_is_rising [.tup ds] st = some (.bl (risB (strsOf ds)), st) := by
        rw [e1, strsOf_map]; exact rising_eq
      have S : fn_silenced [a.d, tun t, .tup ds] st = some (tun (silT a t (strsOf ds)), st) := by
        rw [e1, strsOf_map]; exact silenced_eq h ht
      simp only [e_ret, e_and, e_fn, e_cons, e_V, e_nil, List.getElem?_cons_zero, List.getElem?_cons_succ, Option.bind_some, List.length_cons, List.length_nil, if_true, R, S, e_asB, heard_eq h sil_len e, Bool.true_and]
      cases risB (strsOf ds) <;> rfl
  · rename_i nt
    have f : isTup d = false := by
      cases d with
      | tup ds => exact absurd rfl (nt ds)
      | _ => rfl
    rw [f] at isi
    simp only [e_seq, e_if, e_tor, e_tnot, e_tst, e_call, e_cons, e_V, e_C, e_nil, List.getElem?_cons_zero, List.getElem?_cons_succ, Option.bind_some, isi, e_asB, e_ret, Bool.not_false, if_true]
end
end EL

set_option Elab.async false
set_option linter.all false
set_option maxRecDepth 100000
set_option maxHeartbeats 1000000
/-! the law's own look at cures -/
namespace EL
open PySem PySem.Spec PyProof.Rows L2 GxR LG FW
section
variable {st : Sto}
theorem range_idx {ss : List Stn} {n : Nat} (hn : n = ss.length) {f : Nat → Bool} {g : Stn × Nat → Bool} {u : Nat → Str} (hf : ∀ j s, ss[j]? = some s → f j = g (s, j)) (hu : ∀ j s, ss[j]? = some s → u j = s.nm) :
    ((List.range n).filter f).map u = (ss.zipIdx.filter g).map fun x => x.1.nm := by
  subst hn
  have e : List.range ss.length = ss.zipIdx.map fun x => x.2 := by
    apply List.ext_getElem?
    intro j
    rw [List.getElem?_map, List.getElem?_zipIdx]
    by_cases hl : j < ss.length
    · simp [hl]
    · have h1 : ss[j]? = none := by simp; omega
      rw [h1]
      simp; omega
  rw [e, List.filter_map, List.map_map]
  have c1 : ss.zipIdx.filter (f ∘ fun x => x.2) = ss.zipIdx.filter g := List.filter_congr fun x hx => hf _ _ (zipIdx_mem hx)
  rw [c1]
  refine List.map_congr_left fun x hx => ?_
  exact hu _ _ (zipIdx_mem (List.mem_filter.mp hx).1)
theorem lawsend {a : Air} (h : a.Ok) {t : List Int} (ht : t.length = a.ss.length) (hb : ∀ b ∈ t, 0 ≤ b ∧ b ≤ 9) {i : Nat} {r : Stn} (e : a.ss[i]? = some r) :
    ((List.range t.length).filter fun j => decide (0 < t.getD j 0) && !decide (j = i)).map (fun j => ((a.ss[j]?).map Stn.nm).getD "") = sendL a t r := by
  unfold sendL
  refine range_idx ht (fun j s ej => ?_) (fun j s ej => by rw [ej]; rfl)
  unfold sendB
  have b := t_bound hb j
  congr 1
  · apply decide_eq_decide.mpr
    show _ ↔ t.getD j 0 ≠ 0
    omega
  · rw [← decide_not]
    apply decide_eq_decide.mpr
    show ¬ j = i ↔ s.nm ≠ r.nm
    constructor
    · intro q z; exact q (h.ss.inj ej e z)
    · intro q z
      subst z
      rw [ej] at e
      cases e
      exact q rfl
theorem sil_rows {a : Air} (h : a.Ok) {t : List Int} {i : Nat} {r : Stn} (e : a.ss[i]? = some r) {xs : List Str} (hr : r.nm ∉ xs) :
    rowsL a (silT a t xs) i r = (rowsL a t i r).filter fun p => !decide (((a.ss[p.1]?).map Stn.nm).getD "" ∈ xs) := by
  unfold rowsL
  rw [List.filter_flatMap]
  have : ∀ l : List (Stn × Nat), (∀ x ∈ l, a.ss[x.2]? = some x.1) → l.flatMap (rowAt a (silT a t xs) i r) = l.flatMap fun x => (rowAt a t i r x).filter fun p => !decide (((a.ss[p.1]?).map Stn.nm).getD "" ∈ xs) := by
    intro l hl
    induction l with
    | nil => rfl
    | cons x l ih =>
      rw [List.flatMap_cons, List.flatMap_cons, ih fun y hy => hl y (List.mem_cons_of_mem _ hy)]
      congr 1
      have ex := hl x List.mem_cons_self
      unfold rowAt
      rw [sil_at e, sil_at ex, if_neg hr]
      by_cases q : x.1.nm ∈ xs
      · simp only [q, if_true, Int.mul_zero]
        rw [if_neg (by omega)]
        split
        · split
          · simp [ex, q]
          · split <;> simp [ex, q]
        · rfl
      · simp only [q, if_false]
        split
        · split
          · simp [ex, q]
          · split <;> simp [ex, q]
        · rfl
  exact this _ fun x hx => zipIdx_mem hx
theorem rows_len {a : Air} (h : a.Ok) {t : List Int} {i : Nat} {r : Stn} : (rowsL a t i r).length ≤ 8 := by
  have h1 := flat_le (row_one a t i r) a.ss.zipIdx
  have h2 := h.ss.len.2
  rw [List.length_zipIdx] at h1
  unfold rowsL
  omega
theorem rising_lt {xs : List Str} : (decide (xs = SX.sortSet xs)) = risB xs := (ris_sort xs).symm
theorem eqBs_strs : ∀ xs ys : List Str, eqBs (xs.map D.str) (ys.map D.str) = decide (xs = ys)
  | [], [] => rfl
  | [], _ :: _ => by simp [eqBs]
  | _ :: _, [] => by simp [eqBs]
  | x :: xs, y :: ys => by
    have ih := eqBs_strs xs ys
    have : eqB (.str x) (.str y) = (x == y) := rfl
    simp only [List.map_cons, eqBs, ih, this, str_beq]
    by_cases q : x = y
    · by_cases q2 : xs = ys
      · simp [q, q2]
      · simp [q, q2]
    · simp [q]
theorem ne_strs {xs ys : List Str} (h1 : ∀ x ∈ xs, PyData.strOk x = true) (h2 : ∀ x ∈ ys, PyData.strOk x = true) : neD (.lst (xs.map D.str)) (.lst (ys.map D.str)) st = some (.bl (!decide (xs = ys)), st) := by
  unfold neD eqW
  rw [e_valZ, e_valZ]
  have o : ∀ zs : List Str, (∀ x ∈ zs, PyData.strOk x = true) → okB 60 (.lst (zs.map D.str)) = true := fun zs hz => by unfold okB; exact okBs_strs hz
  rw [if_pos ⟨o xs h1, o ys h2⟩]
  have : eqB (.lst (xs.map D.str)) (.lst (ys.map D.str)) = eqBs (xs.map D.str) (ys.map D.str) := rfl
  rw [this, eqBs_strs]
  rfl
theorem ne_nil {ds : List D} (h : okBs 59 ds = true) : neD (.lst ds) (.lst []) st = some (.bl (!ds.isEmpty), st) := by
  unfold neD eqW
  rw [e_valZ, e_valZ]
  rw [if_pos ⟨by unfold okB; exact h, rfl⟩]
  cases ds <;> rfl
def isStr : D → Bool
  | .str _ => true
  | _ => false
theorem isi_str {n : Nat} {d : D} (h : okB n d = true) : isiD [d, .ty "str"] st = some (.bl (isStr d), st) := by
  cases d with
  | non => rfl
  | bl b => rfl
  | int i => rfl
  | str x => rfl
  | tup ds => rfl
  | lst ds => rfl
  | _ => cases n <;> cases h
theorem filter_bad {α : Type} (f : α → Bool) : ∀ l : List α, (l.filter fun x => !f x).isEmpty = l.all f
  | [] => rfl
  | x :: l => by
    rw [List.filter_cons, List.all_cons]
    cases f x with
    | true => simpa using filter_bad f l
    | false => rfl
theorem range_gen {fr : FA} {ρ : Rho} {j : Int} {st1 : Sto} (e : fr ρ st = some ([.int j], st1)) : iRange1 fr ρ st = if -(2 ^ 62) ≤ j ∧ j < 2 ^ 62 then some (rangeD 0 j.toNat, [], st1) else none := by
  unfold iRange1
  rw [e]
  rfl
theorem small_n {n : Nat} (hn : n ≤ 1000) : -(2 ^ 62 : Int) ≤ (n : Int) ∧ (n : Int) < 2 ^ 62 :=
  ⟨Int.le_trans (by decide) (Int.natCast_nonneg n), Int.lt_of_le_of_lt (by omega : (n : Int) ≤ 1000) (by decide)⟩
theorem range_ok {fr : FA} {ρ : Rho} {n : Nat} {st1 : Sto} (e : fr ρ st = some ([.int (n : Nat)], st1)) (hn : n ≤ 1000) : iRange1 fr ρ st = some (rangeD 0 n, [], st1) := by
  rw [range_gen e, if_pos (small_n hn), Int.toNat_natCast]
theorem range_len {ρ : Rho} {j : Nat} {t : List Int} (hj : ρ[j]? = some (some (tun t))) (hn : t.length ≤ 1000) : iRange1 (fCons (fCall lenD (fCons (fV j) fNil)) fNil) ρ st = some (rangeD 0 t.length, [], st) := by
  refine range_ok ?_ hn
  have : lenD [tun t] st = some (.int (t.length : Nat), st) := by unfold tun; rw [e_lenT, List.length_map]
  simp only [e_cons, e_call, e_V, e_nil, hj, Option.bind_some, this]
theorem law_cure_eq {a : Air} (h : a.Ok) {t : List Int} (ht : t.length = a.ss.length) (hb : ∀ b ∈ t, 0 ≤ b ∧ b ≤ 9) {i : Nat} {r : Stn} (e : a.ss[i]? = some r) (hi : 0 < t.getD i 0) {d : D} (hd : Th d) :
    fn__law_is_cure [a.d, tun t, .int (i : Nat), d] st = some (.bl (cureB a t i r d), st) := by
  unfold fn__law_is_cure
  refine seal_same ?_ rfl
  unfold sb__law_is_cure
  rw [e_run]
  simp only [List.map_cons, List.map_nil, List.length_cons, List.length_nil, List.replicate, List.cons_append, List.nil_append]
  have isi := isi_tup (st := st) hd.1
  have hn := (List.getElem?_eq_some_iff.mp e).1
  have i0 : ixD a.d (.int 0) st = some (ssD a.ss, st) := rfl
  unfold cureB
  split
  · rename_i ds
    have isi : isiD [.tup ds, .ty "tuple"] st = some (.bl true, st) := isi
    have hds : okBs 49 ds = true := by have := hd.1; unfold okB at this; exact this
    have so : ∀ y ∈ sendL a t r, PyData.strOk y = true := fun y hy => str_okB y (send_mem h hy)
    rw [seq_nx (ρ1 := [some a.d, some (tun t), some (.int (i : Nat)), some (.tup ds), none, none, none, none, none]) (st1 := st) (by
      simp only [e_if, e_tnot, e_tst, e_call, e_cons, e_V, e_C, e_nil, List.getElem?_cons_zero, List.getElem?_cons_succ, Option.bind_some, isi, e_asB, Bool.not_true, Bool.false_eq_true, if_false, e_next])]
    -- the senders
    have L1 : lcZ (.one 6) (fTAnd (fTst (fOp gtD (fOp ixD (fV 1) (fV 6)) (fC (.int 0)))) (fTst (fOp neD (fV 6) (fV 2)))) (fOp ixD (fOp ixD (fOp ixD (fV 0) (fC (.int 0))) (fV 6)) (fC (.int 0))) [] (wipeD [some a.d, some (tun t), some (.int (i : Nat)), some (.tup ds), none, none, none, none, none] [6]) (rangeD 0 t.length) st = some ((sendL a t r).map D.str, st) := by
      rw [← lawsend h ht hb e, List.map_map]
      unfold rangeD
      have w : wipeD [some a.d, some (tun t), some (.int (i : Nat)), some (.tup ds), none, none, none, none, none] [6] = [some a.d, some (tun t), some (.int (i : Nat)), some (.tup ds), none, none, none, none, none] := rfl
      rw [w]
      refine lcE Intact.nil fun j hj => ⟨_, rfl, ?_, fun _ => ?_⟩
      · have hj' : j < a.ss.length := by have := List.mem_range.mp hj; omega
        simp only [Int.zero_add, List.set_cons_succ, List.set_cons_zero, e_tand, e_tst, e_op, e_V, e_C, List.getElem?_cons_zero, List.getElem?_cons_succ, Option.bind_some, tun_at ht hj', e_gtI, e_asB, e_neI]
        have : decide ((j : Int) = (i : Int)) = decide (j = i) := decide_eq_decide.mpr (by omega)
        rw [this]
        cases decide (0 < t.getD j 0) <;> rfl
      · have hj' : j < a.ss.length := by have := List.mem_range.mp hj; omega
        obtain ⟨s, es⟩ : ∃ s, a.ss[j]? = some s := ⟨_, List.getElem?_eq_getElem hj'⟩
        have x0 : ixD s.d (.int 0) st = some (.str s.nm, st) := rfl
        simp only [Int.zero_add, List.set_cons_succ, List.set_cons_zero, e_op, e_V, e_C, List.getElem?_cons_zero, List.getElem?_cons_succ, Option.bind_some, i0, ss_at es, x0, Function.comp, es]
        rfl
    have R1 := range_len (st := st) (ρ := [some a.d, some (tun t), some (.int (i : Nat)), some (.tup ds), none, none, none, none, none]) (j := 1) (t := t) rfl (by have := h.ss.len.2; omega)
    rw [seq_nx (ρ1 := [some a.d, some (tun t), some (.int (i : Nat)), some (.tup ds), some (.lst ((sendL a t r).map D.str)), none, none, none, none]) (st1 := st) (by
      refine set_ok (lcz_ok R1 L1 ?_)
      rw [List.length_map]
      unfold sendL
      rw [List.length_map]
      have := ss_len h (sendB t r)
      omega)]
    -- parts that are none of them
    have L2 : lcZ (.one 8) (fTOr (fTNot (fTst (fCall isiD (fCons (fV 8) (fCons (fC (.ty "str")) fNil))))) (fTst (fOp (inW true) (fV 8) (fV 4)))) (fV 8) [] (wipeD [some a.d, some (tun t), some (.int (i : Nat)), some (.tup ds), some (.lst ((sendL a t r).map D.str)), none, none, none, none] [8]) ds st = some (ds.filter (fun x => !inB (sendL a t r) x), st) := by
      have w : wipeD [some a.d, some (tun t), some (.int (i : Nat)), some (.tup ds), some (.lst ((sendL a t r).map D.str)), none, none, none, none] [8] = [some a.d, some (tun t), some (.int (i : Nat)), some (.tup ds), some (.lst ((sendL a t r).map D.str)), none, none, none, none] := rfl
      rw [w]
      have := lcZ_eq (tg := .one 8) (tt := fTOr (fTNot (fTst (fCall isiD (fCons (fV 8) (fCons (fC (.ty "str")) fNil))))) (fTst (fOp (inW true) (fV 8) (fV 4)))) (fe := fV 8) (src := []) (ρ := [some a.d, some (tun t), some (.int (i : Nat)), some (.tup ds), some (.lst ((sendL a t r).map D.str)), none, none, none, none]) (st := st) (b := fun x => !inB (sendL a t r) x) (v := fun x => x) Intact.nil (items := ds) fun x hx => ⟨_, rfl, by
          have ox := okBs_mem.mp hds x hx
          simp only [List.set_cons_succ, List.set_cons_zero, e_tor, e_tnot, e_tst, e_call, e_cons, e_op, e_V, e_C, e_nil, List.getElem?_cons_zero, List.getElem?_cons_succ, Option.bind_some, isi_str ox, e_asB, in_lst ox (by decide) so, nB]
          cases q : isStr x with
          | true => rfl
          | false =>
            have : inB (sendL a t r) x = false := by
              cases q2 : inB (sendL a t r) x with
              | false => rfl
              | true =>
                obtain ⟨y, _, rfl⟩ := inB_str q2
                cases q
            rw [this]
            rfl, fun _ => rfl⟩
      rw [this]
      simp
    have B2 : fLcZ (iSeq (fV 3)) (.one 8) (fTOr (fTNot (fTst (fCall isiD (fCons (fV 8) (fCons (fC (.ty "str")) fNil))))) (fTst (fOp (inW true) (fV 8) (fV 4)))) (fV 8) [8] [some a.d, some (tun t), some (.int (i : Nat)), some (.tup ds), some (.lst ((sendL a t r).map D.str)), none, none, none, none] st = some (.lst (ds.filter fun x => !inB (sendL a t r) x), st) := lcz_ok rfl L2 (by
        have := List.length_filter_le (fun x => !inB (sendL a t r) x) ds
        have := hd.2 ds rfl
        omega)
    have N2 : neD (.lst (ds.filter fun x => !inB (sendL a t r) x)) (.lst []) st = some (.bl (!ds.all (inB (sendL a t r))), st) := by
      rw [ne_nil (okBs_mem.mpr fun x hx => okB_up (okBs_mem.mp hds x (List.mem_filter.mp hx).1) (by decide)), filter_bad]
    have Z0 : fLz fNil [some a.d, some (tun t), some (.int (i : Nat)), some (.tup ds), some (.lst ((sendL a t r).map D.str)), none, none, none, none] st = some (.lst [], st) := by
      rw [e_lz, e_nil]; simp [sizeLine_eq]
    cases q : ds.all (inB (sendL a t r)) with
    | false =>
      rw [q] at N2
      simp only [e_seq, e_if, e_tst, e_op, B2, Z0, N2, Option.bind_some, e_asB, e_ret, e_C, Bool.not_false, if_true, Bool.false_and]
    | true =>
      rw [q] at N2
      obtain ⟨e1, m⟩ := all_strs q
      rw [seq_nx (ρ1 := [some a.d, some (tun t), some (.int (i : Nat)), some (.tup ds), some (.lst ((sendL a t r).map D.str)), none, none, none, none]) (st1 := st) (by
        simp only [e_if, e_tst, e_op, B2, Z0, N2, Option.bind_some, e_asB, e_next, Bool.not_true, Bool.false_eq_true, if_false])]
      generalize hxs : strsOf ds = xs at *
      subst e1
      have hlen : xs.length ≤ 60 := by have := hd.2 _ rfl; rwa [List.length_map] at this
      have sx : ∀ x ∈ xs, PyData.strOk x = true := fun x hx => so x (m x hx)
      have S3 : fSortSeq (fV 3) [some a.d, some (tun t), some (.int (i : Nat)), some (.tup (xs.map D.str)), some (.lst ((sendL a t r).map D.str)), none, none, none, none] st = some (.lst ((SX.sortSet xs).map D.str), st) := by
        unfold fSortSeq
        simp only [e_V, List.getElem?_cons_zero, List.getElem?_cons_succ, Option.bind_some, e_seqT, strsD_map]
        rw [if_pos (by omega)]
      have N3 := ne_strs (st := st) (xs := xs) (ys := SX.sortSet xs) sx (fun x hx => sx x (by
        have : x ∈ SX.dd xs := (List.mergeSort_perm _ _).mem_iff.mp hx
        exact (SX.dd_mem _ _).mp this))
      rw [rising_lt] at N3
      have Lz : listZ [.tup (xs.map D.str)] st = some (.lst (xs.map D.str), st) := rfl
      cases q3 : risB xs with
      | false =>
        rw [q3] at N3
        simp only [e_seq, e_if, e_tst, e_op, e_call, e_cons, e_nil, e_V, e_C, List.getElem?_cons_zero, List.getElem?_cons_succ, S3, Lz, N3, Option.bind_some, e_asB, e_ret, Bool.not_false, if_true, Bool.false_and, Bool.and_false]
      | true =>
        rw [q3] at N3
        rw [seq_nx (ρ1 := [some a.d, some (tun t), some (.int (i : Nat)), some (.tup (xs.map D.str)), some (.lst ((sendL a t r).map D.str)), none, none, none, none]) (st1 := st) (by
          simp only [e_if, e_tst, e_op, e_call, e_cons, e_nil, e_V, e_C, List.getElem?_cons_zero, List.getElem?_cons_succ, S3, Lz, N3, Option.bind_some, e_asB, e_next, Bool.not_true, Bool.false_eq_true, if_false])]
        have hr := h.ss.all r (List.mem_of_getElem? e)
        have nr : r.nm ∉ xs := fun hx => by
          have := m _ hx
          unfold sendL at this
          obtain ⟨y, hy, ey⟩ := List.mem_map.mp this
          have := (List.mem_filter.mp hy).2
          unfold sendB at this
          simp [ey] at this
        have L4 : lcZ (.one 7) (fTst (fOp (inW true) (fOp ixD (fOp ixD (fOp ixD (fV 0) (fC (.int 0))) (fOp ixD (fV 7) (fC (.int 0)))) (fC (.int 0))) (fV 3))) (fV 7) [] (wipeD [some a.d, some (tun t), some (.int (i : Nat)), some (.tup (xs.map D.str)), some (.lst ((sendL a t r).map D.str)), none, none, none, none] [7]) ((rowsL a t i r).map rowD) st = some ((rowsL a (silT a t xs) i r).map rowD, st) := by
          have w : wipeD [some a.d, some (tun t), some (.int (i : Nat)), some (.tup (xs.map D.str)), some (.lst ((sendL a t r).map D.str)), none, none, none, none] [7] = [some a.d, some (tun t), some (.int (i : Nat)), some (.tup (xs.map D.str)), some (.lst ((sendL a t r).map D.str)), none, none, none, none] := rfl
          rw [w, sil_rows h e nr]
          refine lcE Intact.nil fun p hp => ⟨_, rfl, ?_, fun _ => rfl⟩
          have hj := (row_mem h hr hp).2.2
          obtain ⟨s, es⟩ : ∃ s, a.ss[p.1]? = some s := ⟨_, List.getElem?_eq_getElem hj⟩
          have x0 : ixD s.d (.int 0) st = some (.str s.nm, st) := rfl
          simp only [List.set_cons_succ, List.set_cons_zero, e_tst, e_op, e_V, e_C, List.getElem?_cons_zero, List.getElem?_cons_succ, Option.bind_some, i0, row_ix.1, ss_at es, x0, in_tup, e_asB, es]
          rfl
        have R4 : iSeq (fFn 3 fn__law_rows (fCons (fV 0) (fCons (fV 1) (fCons (fV 2) fNil)))) [some a.d, some (tun t), some (.int (i : Nat)), some (.tup (xs.map D.str)), some (.lst ((sendL a t r).map D.str)), none, none, none, none] st = some ((rowsL a t i r).map rowD, [], st) := by
          unfold iSeq
          simp only [e_fn, e_cons, e_V, e_nil, List.getElem?_cons_zero, List.getElem?_cons_succ, Option.bind_some, List.length_cons, List.length_nil, if_true, rows_eq h ht hb e]
        rw [seq_nx (ρ1 := [some a.d, some (tun t), some (.int (i : Nat)), some (.tup (xs.map D.str)), some (.lst ((sendL a t r).map D.str)), some (.lst ((rowsL a (silT a t xs) i r).map rowD)), none, none, none]) (st1 := st) (by
          refine set_ok (lcz_ok R4 L4 ?_)
          rw [List.length_map]
          have := rows_len h (t := silT a t xs) (i := i) (r := r)
          omega)]
        have hi2 : 0 < (silT a t xs).getD i 0 := by rw [sil_at e, if_neg nr]; exact hi
        have st4 := stands_eq (st := st) h e (rows := rowsL a (silT a t xs) i r) (fun p hp => (row_mem h hr hp).1) (rows_len h)
        rw [← heard_rows h sil_len (sil_ok hb) e hi2] at st4
        simp only [e_ret, e_fn, e_cons, e_V, e_nil, List.getElem?_cons_zero, List.getElem?_cons_succ, Option.bind_some, List.length_cons, List.length_nil, if_true, st4, Bool.true_and]
  · rename_i nt
    have f : isTup d = false := by
      cases d with
      | tup ds => exact absurd rfl (nt ds)
      | _ => rfl
    rw [f] at isi
    simp only [e_seq, e_if, e_tnot, e_tst, e_call, e_cons, e_V, e_C, e_nil, List.getElem?_cons_zero, List.getElem?_cons_succ, Option.bind_some, isi, e_asB, e_ret, Bool.not_false, if_true]
end
end EL

set_option Elab.async false
set_option linter.all false
set_option maxRecDepth 100000
set_option maxHeartbeats 1000000
/-! lots of names, in their order -/
namespace EL
open PySem PySem.Spec PyProof.Rows L2 GxR LG FW
section
variable {st : Sto}
def choL : List Str → Nat → List (List Str)
  | _, 0 => [[]]
  | [], _ + 1 => []
  | x :: xs, k + 1 => (choL xs k).map (x :: ·) ++ choL xs (k + 1)
theorem cho_len : ∀ (xs : List Str) (k : Nat), (choL xs k).length ≤ 2 ^ xs.length
  | [], 0 => by simp [choL]
  | [], _ + 1 => by simp [choL]
  | x :: xs, 0 => by
    simp only [choL, List.length_cons, List.length_nil]
    exact Nat.one_le_two_pow
  | x :: xs, k + 1 => by
    have h1 := cho_len xs k
    have h2 := cho_len xs (k + 1)
    simp only [choL, List.length_append, List.length_map, List.length_cons, Nat.pow_succ]
    omega
theorem cho_mem : ∀ {xs : List Str} {k : Nat} {ys : List Str}, ys ∈ choL xs k → ys.Sublist xs ∧ ys.length = k
  | [], 0, ys, h => by simp [choL] at h; subst h; simp
  | [], _ + 1, ys, h => by simp [choL] at h
  | x :: xs, 0, ys, h => by simp [choL] at h; subst h; simp
  | x :: xs, k + 1, ys, h => by
    rw [choL, List.mem_append] at h
    rcases h with h | h
    · obtain ⟨zs, hz, rfl⟩ := List.mem_map.mp h
      have ⟨a, b⟩ := cho_mem hz
      exact ⟨a.cons_cons x, by simp [b]⟩
    · have ⟨a, b⟩ := cho_mem h
      exact ⟨a.cons x, b⟩
theorem mem_cho : ∀ {xs ys : List Str}, ys.Sublist xs → ys ∈ choL xs ys.length
  | [], [], _ => by simp [choL]
  | x :: xs, [], _ => by simp [choL]
  | [], y :: ys, h => by cases h
  | x :: xs, y :: ys, h => by
    rw [List.length_cons, choL, List.mem_append]
    cases h with
    | cons _ h => exact .inr (mem_cho h)
    | cons_cons _ h => exact .inl (List.mem_map.mpr ⟨ys, mem_cho h, rfl⟩)
/-- the loop goes through all beginnings -/
theorem cho_loop (k : Nat) (all : List Str) : ∀ (xs : List Str) (n : Nat), all.drop n = xs → ((xs.zipIdx n).flatMap fun x => (choL (all.drop (x.2 + 1)) k).map (x.1 :: ·)) = choL xs (k + 1)
  | [], n, _ => by simp [choL]
  | x :: xs, n, h => by
    have h2 : all.drop (n + 1) = xs := by rw [← List.drop_drop, h]; rfl
    rw [List.zipIdx_cons, List.flatMap_cons, cho_loop k all xs (n + 1) h2]
    simp only [h2, choL]
def lotD (ys : List Str) : D := .tup (ys.map D.str)
theorem enum_strs (xs : List Str) : enumD (xs.map D.str) = xs.zipIdx.map fun x => D.tup [.int (x.2 : Nat), .str x.1] := by
  unfold enumD
  apply List.ext_getElem?
  intro i
  rw [List.getElem?_mapIdx, List.getElem?_map, List.getElem?_map, List.getElem?_zipIdx]
  cases xs[i]? <;> simp
theorem cut_from {ds : List D} {n : Nat} : cutD ds (some ((n : Nat) : Int)) none = ds.drop n := by
  unfold cutD
  have e1 : HT.sIx ds.length 0 (some ((n : Nat) : Int)) = min n ds.length := HT.sIx_nat _ _ n
  rw [e1]
  show List.take (ds.length - _) _ = _
  by_cases hn : n ≤ ds.length
  · rw [Nat.min_eq_left hn]
    exact List.take_of_length_le (by simp)
  · rw [Nat.min_eq_right (by omega)]
    rw [List.drop_of_length_le (by omega), List.drop_of_length_le (by omega)]
    simp
theorem flat_one {α β : Type} (f : α → β) : ∀ l : List α, (l.flatMap fun x => [f x]) = l.map f
  | [] => rfl
  | x :: l => by rw [List.flatMap_cons, flat_one f l]; rfl
noncomputable def bodyC (rec : HA) : FS := (sFor (iSeq (fFn 2 rec (fCons (fSl (fV 0) (oSome (fOp addD (fV 3) (fC (.int 1)))) oNone) (fCons (fOp subD (fV 1) (fC (.int 1))) fNil)))) (.one 5) (sExpr (fApp (fV 2) (fTup (fCons (fV 4) (fStar (fV 5) fNil))))))
theorem choices_eq : ∀ (fu k : Nat) (xs : List Str) (st : Sto), k < fu → xs.length ≤ 8 → fn_choices fu [.lst (xs.map D.str), .int (k : Nat)] st = some (.lst ((choL xs k).map lotD), st)
  | 0, k, xs, st, h, _ => by omega
  | fu + 1, k, xs, st, h, hx => by
    show sealFn (runD 6 (sb_choices (fn_choices fu))) _ st = _
    have pl : ∀ l : List (List Str), pureL (l.map lotD) = true := fun l => pureL_map (fun ys => by unfold lotD pureB; exact pureL_map (fun _ => rfl) _) l
    unfold sb_choices
    cases k with
    | zero =>
      refine seal_same ?_ (by unfold pureB; exact pl _)
      rw [e_run]
      simp only [List.map_cons, List.map_nil, List.length_cons, List.length_nil, List.replicate, List.cons_append, List.nil_append]
      have z : (([.tup []] : List D).length ≤ sizeLine) := by rw [sizeLine_eq]; decide
      have z0 : (([] : List D).length ≤ sizeLine) := by rw [sizeLine_eq]; decide
      simp only [e_seq, e_if, e_tst, e_op, e_V, e_C, List.getElem?_cons_zero, List.getElem?_cons_succ, Option.bind_some, e_eqI, e_asB, e_ret, e_lz, e_tup, e_cons, e_nil]
      rw [if_pos (by simp)]
      simp only [z, z0, if_true, Option.bind_some]
      simp [choL, lotD, sizeLine_eq]
    | succ k =>
      refine seal_list (more := []) ?_ (pl _)
      rw [e_run]
      simp only [List.map_cons, List.map_nil, List.length_cons, List.length_nil, List.replicate, List.cons_append, List.nil_append]
      have nz : ¬ (((k + 1 : Nat) : Int) = 0) := by omega
      rw [seq_nx (ρ1 := [some (.lst (xs.map D.str)), some (.int ((k + 1 : Nat) : Int)), none, none, none, none]) (st1 := st) (by
        simp only [e_if, e_tst, e_op, e_V, e_C, List.getElem?_cons_zero, List.getElem?_cons_succ, Option.bind_some, e_eqI, e_asB, nz, decide_false, Bool.false_eq_true, if_false, e_next])]
      rw [seq_nx (ρ1 := [some (.lst (xs.map D.str)), some (.int ((k + 1 : Nat) : Int)), some (.ref st.length), none, none, none]) (st1 := st ++ [.lst []]) (by simp [sizeLine_eq])]
      have len := cho_len xs (k + 1)
      have len2 : (2 : Nat) ^ xs.length ≤ 2 ^ 8 := Nat.pow_le_pow_right (by decide) hx
      have el := cho_loop k xs xs 0 rfl
      have outer := forAcc (tg := .many [3, 4]) (bd := bodyC (fn_choices fu)) (enc := fun x : Str × Nat => D.tup [.int (x.2 : Nat), .str x.1]) (g := fun x => ((choL (xs.drop (x.2 + 1)) k).map (x.1 :: ·)).map lotD) (s0 := st)
        (I := fun ρ => ∃ x3 x4 x5, ρ = [some (.lst (xs.map D.str)), some (.int ((k + 1 : Nat) : Int)), some (.ref st.length), x3, x4, x5]) (l := xs.zipIdx) (acc := []) (ρ := [some (.lst (xs.map D.str)), some (.int ((k + 1 : Nat) : Int)), some (.ref st.length), none, none, none]) ⟨_, _, _, rfl⟩ (by
          intro x hx2 ρ acc ⟨x3, x4, x5, eρ⟩ hz
          subst eρ
          have ih := choices_eq fu k (xs.drop (x.2 + 1)) (st ++ [.lst acc]) (by omega) (by simp; omega)
          have c5 : cutD (xs.map D.str) (some ((x.2 : Int) + 1)) none = (xs.drop (x.2 + 1)).map D.str := by
            have := cut_from (ds := xs.map D.str) (n := x.2 + 1)
            rw [List.map_drop]
            exact this
          have k1 : (((k + 1 : Nat) : Int) - 1) = (k : Nat) := by omega
          have inner := forAcc (tg := .one 5) (bd := sExpr (fApp (fV 2) (fTup (fCons (fV 4) (fStar (fV 5) fNil))))) (enc := lotD) (g := fun ys => [lotD (x.1 :: ys)]) (s0 := st)
            (I := fun ρ => ∃ x5, ρ = [some (.lst (xs.map D.str)), some (.int ((k + 1 : Nat) : Int)), some (.ref st.length), some (.int (x.2 : Nat)), some (.str x.1), x5]) (l := choL (xs.drop (x.2 + 1)) k) (acc := acc) (ρ := [some (.lst (xs.map D.str)), some (.int ((k + 1 : Nat) : Int)), some (.ref st.length), some (.int (x.2 : Nat)), some (.str x.1), x5]) ⟨_, rfl⟩ (by
              intro ys hy ρ acc2 ⟨x5', eρ⟩ hz2
              subst eρ
              refine ⟨_, _, rfl, ⟨_, rfl⟩, app_acc rfl ?_ (by omega)⟩
              have ly := (cho_mem hy).1.length_le
              simp only [List.length_drop] at ly
              simp only [e_tup, e_cons, e_star, e_V, e_nil, List.set_cons_succ, List.set_cons_zero, List.getElem?_cons_zero, List.getElem?_cons_succ, Option.bind_some]
              have sq : seqD (lotD ys) (st ++ [.lst acc2]) = some (ys.map D.str) := rfl
              simp only [sq, Option.bind_some, List.append_nil]
              rw [if_pos (by rw [sizeLine_eq]; simp; omega)]
              rfl) (by
                rw [flat_one, List.length_map]
                simp only [List.length_map] at hz
                exact hz)
          obtain ⟨ρ', e1, x5', eρ⟩ := inner
          subst eρ
          refine ⟨_, [some (.lst (xs.map D.str)), some (.int ((k + 1 : Nat) : Int)), some (.ref st.length), some (.int (x.2 : Nat)), some (.str x.1), x5'], rfl, ⟨_, _, _, rfl⟩, ?_⟩
          unfold bodyC sFor
          have sq : iSeq (fFn 2 (fn_choices fu) (fCons (fSl (fV 0) (oSome (fOp addD (fV 3) (fC (.int 1)))) oNone) (fCons (fOp subD (fV 1) (fC (.int 1))) fNil))) (setM [some (.lst (xs.map D.str)), some (.int ((k + 1 : Nat) : Int)), some (.ref st.length), x3, x4, x5] [3, 4] [.int (x.2 : Nat), .str x.1]) (st ++ [.lst acc]) = some ((choL (xs.drop (x.2 + 1)) k).map lotD, [], st ++ [.lst acc]) := by
            unfold iSeq
            simp only [setM, List.set_cons_succ, List.set_cons_zero, e_fn, e_cons, e_sl, e_oS, e_oN, e_op, e_V, e_C, e_nil, List.getElem?_cons_zero, List.getElem?_cons_succ, Option.bind_some, e_addI, e_subI, e_slZ, c5, k1, List.length_cons, List.length_nil, if_true, ih]
          rw [sq]
          simp only [Option.bind_some]
          have : setM [some (.lst (xs.map D.str)), some (.int ((k + 1 : Nat) : Int)), some (.ref st.length), x3, x4, x5] [3, 4] [.int (x.2 : Nat), .str x.1] = [some (.lst (xs.map D.str)), some (.int ((k + 1 : Nat) : Int)), some (.ref st.length), some (.int (x.2 : Nat)), some (.str x.1), x5] := rfl
          rw [this, e1, flat_one, List.map_map]
          rfl) (by
          rw [← List.map_flatMap, List.length_map, el]
          simp only [List.length_nil]
          omega)
      obtain ⟨ρ', e1, x3, x4, x5, eρ⟩ := outer
      subst eρ
      rw [← List.map_flatMap, el, List.nil_append] at e1
      rw [seq_nx (ρ1 := [some (.lst (xs.map D.str)), some (.int ((k + 1 : Nat) : Int)), some (.ref st.length), x3, x4, x5]) (st1 := st ++ [.lst ((choL xs (k + 1)).map lotD)]) (by
        have it : iEnum (fCons (fV 0) fNil) [some (.lst (xs.map D.str)), some (.int ((k + 1 : Nat) : Int)), some (.ref st.length), none, none, none] (st ++ [.lst []]) = some (xs.zipIdx.map (fun x : Str × Nat => D.tup [.int (x.2 : Nat), .str x.1]), [], st ++ [.lst []]) := by
          rw [← enum_strs]
          rfl
        show (iEnum (fCons (fV 0) fNil) _ _).bind _ = _
        rw [it]
        simp only [Option.bind_some]
        exact e1)]
      rfl
end
end EL

set_option Elab.async false
set_option linter.all false
set_option maxRecDepth 100000
set_option maxHeartbeats 1000000
/-! the fewest -/
namespace EL
open PySem PySem.Spec PyProof.Rows L2 GxR LG FW
section
variable {st : Sto}
theorem fn_ok {n : Nat} {hA : HA} {fr : FA} {ρ : Rho} {ds : List D} {d : D} {st1 st2 : Sto} (h1 : fr ρ st = some (ds, st1)) (h2 : ds.length = n) (h3 : hA ds st1 = some (d, st2)) : fFn n hA fr ρ st = some (d, st2) := by
  rw [e_fn, h1]
  simp only [Option.bind_some]
  rw [if_pos h2, h3]
theorem ret_ok {f : FE} {ρ : Rho} {d : D} {st1 : Sto} (h : f ρ st = some (d, st1)) : sRet f ρ st = some (.rt d, ρ, st1) := by rw [e_ret, h]; rfl
theorem run_ok {N : Nat} {sb : FS} {ds : List D} {ρ' : Rho} {d : D} {st1 : Sto} (h : sb (ds.map some ++ List.replicate (N - ds.length) none) st = some (.rt d, ρ', st1)) : runD N sb ds st = some (d, st1) := by
  rw [e_run, h]; rfl
def outF : Option (List Str) → Fl
  | some v => .rt (lotD v)
  | none => .nx
theorem for_some {α : Type} {tg : Tg} {bd : FS} {enc : α → D} {F : α → Option (List Str)} {I : Rho → Prop} : ∀ {l : List α} {ρ : Rho}, I ρ →
    (∀ x ∈ l, ∀ ρ, I ρ → ∃ ρ1 ρ2, tgD tg (enc x) ρ = some ρ1 ∧ I ρ2 ∧ bd ρ1 st = some (outF (F x), ρ2, st)) →
    ∃ ρ', forD tg bd [] (l.map enc) ρ st = some (outF (l.findSome? F), ρ', st) ∧ I ρ'
  | [], ρ, i, _ => ⟨ρ, by unfold forD; simp only [List.map_nil]; rw [if_pos Intact.nil]; rfl, i⟩
  | x :: l, ρ, i, h => by
    obtain ⟨ρ1, ρ2, e1, i2, e2⟩ := h x List.mem_cons_self ρ i
    simp only [List.map_cons]
    unfold forD
    rw [if_pos Intact.nil, e1]
    simp only [Option.bind_some, e2]
    cases q : F x with
    | some v =>
      refine ⟨ρ2, ?_, i2⟩
      simp [List.findSome?_cons, q, outF]
    | none =>
      obtain ⟨ρ', e3, i3⟩ := for_some (l := l) i2 fun y hy => h y (List.mem_cons_of_mem _ hy)
      refine ⟨ρ', ?_, i3⟩
      simp only [outF, List.findSome?_cons, q]
      exact e3
/-- the first lot that helps -/
def fewL (a : Air) (t : List Int) (i : Nat) (r : Stn) (xs : List Str) : List Str :=
  ((List.range xs.length).findSome? fun k => (choL xs k).findSome? fun ys => if heardB a (silT a t ys) i r = true then some ys else none).getD xs
noncomputable def bodyI : FS := (sIf (fTst (fFn 3 fn_is_heard (fCons (fV 0) (fCons (fFn 3 fn_silenced (fCons (fV 0) (fCons (fV 1) (fCons (fV 5) fNil)))) (fCons (fV 2) fNil))))) (sRet (fV 5)) sNext)
noncomputable def bodyM : FS := (sFor (iSeq (fFn 2 (fn_choices 10) (fCons (fV 3) (fCons (fV 4) fNil)))) (.one 5) bodyI)
theorem fewest_eq {a : Air} (h : a.Ok) {t : List Int} (ht : t.length = a.ss.length) {i : Nat} {r : Stn} (e : a.ss[i]? = some r) {xs : List Str} (hx : xs.length ≤ 8) :
    fn_fewest_of [a.d, tun t, .str r.nm, .lst (xs.map D.str)] st = some (lotD (fewL a t i r xs), st) := by
  unfold fn_fewest_of
  refine seal_same ?_ (by unfold lotD pureB; exact pureL_map (fun _ => rfl) _)
  unfold sb_fewest_of
  rw [e_run]
  simp only [List.map_cons, List.map_nil, List.length_cons, List.length_nil, List.replicate, List.cons_append, List.nil_append]
  obtain ⟨ρ', e1, x4, x5, eρ⟩ := for_some (st := st) (tg := .one 4) (bd := bodyM) (enc := fun k : Nat => D.int (0 + (k : Nat))) (F := fun k => (choL xs k).findSome? fun ys => if heardB a (silT a t ys) i r = true then some ys else none)
    (I := fun ρ => ∃ x4 x5, ρ = [some a.d, some (tun t), some (.str r.nm), some (.lst (xs.map D.str)), x4, x5]) (l := List.range xs.length) (ρ := [some a.d, some (tun t), some (.str r.nm), some (.lst (xs.map D.str)), none, none]) ⟨_, _, rfl⟩ (by
      intro k hk ρ ⟨x4, x5, eρ⟩
      subst eρ
      have hk2 := List.mem_range.mp hk
      have ce := choices_eq 10 k xs st (by omega) hx
      have sq : iSeq (fFn 2 (fn_choices 10) (fCons (fV 3) (fCons (fV 4) fNil))) [some a.d, some (tun t), some (.str r.nm), some (.lst (xs.map D.str)), some (.int (0 + (k : Nat))), x5] st = some ((choL xs k).map lotD, [], st) := by
        unfold iSeq
        simp only [e_fn, e_cons, e_V, e_nil, List.getElem?_cons_zero, List.getElem?_cons_succ, Option.bind_some, Int.zero_add, List.length_cons, List.length_nil, if_true, ce]
      obtain ⟨ρ', e2, x5', eρ⟩ := for_some (st := st) (tg := .one 5) (bd := bodyI) (enc := lotD) (F := fun ys => if heardB a (silT a t ys) i r = true then some ys else none)
        (I := fun ρ => ∃ x5, ρ = [some a.d, some (tun t), some (.str r.nm), some (.lst (xs.map D.str)), some (.int (0 + (k : Nat))), x5]) (l := choL xs k) (ρ := [some a.d, some (tun t), some (.str r.nm), some (.lst (xs.map D.str)), some (.int (0 + (k : Nat))), x5]) ⟨_, rfl⟩ (by
          intro ys hy ρ ⟨x5', eρ⟩
          subst eρ
          refine ⟨_, [some a.d, some (tun t), some (.str r.nm), some (.lst (xs.map D.str)), some (.int (0 + (k : Nat))), some (lotD ys)], rfl, ⟨_, rfl⟩, ?_⟩
          have S : fn_silenced [a.d, tun t, lotD ys] st = some (tun (silT a t ys), st) := silenced_eq h ht
          unfold bodyI
          simp only [List.set_cons_succ, List.set_cons_zero, e_if, e_tst, e_fn, e_cons, e_V, e_nil, List.getElem?_cons_zero, List.getElem?_cons_succ, Option.bind_some, List.length_cons, List.length_nil, if_true, S, heard_eq h sil_len e, e_asB, e_ret, e_next]
          cases heardB a (silT a t ys) i r <;> rfl)
      subst eρ
      refine ⟨_, [some a.d, some (tun t), some (.str r.nm), some (.lst (xs.map D.str)), some (.int (0 + (k : Nat))), x5'], rfl, ⟨_, _, rfl⟩, ?_⟩
      unfold bodyM sFor
      simp only [List.set_cons_succ, List.set_cons_zero]
      rw [sq]
      simp only [Option.bind_some]
      exact e2)
  subst eρ
  have R : sFor (iRange1 (fCons (fCall lenD (fCons (fV 3) fNil)) fNil)) (.one 4) bodyM [some a.d, some (tun t), some (.str r.nm), some (.lst (xs.map D.str)), none, none] st = some (outF ((List.range xs.length).findSome? fun k => (choL xs k).findSome? fun ys => if heardB a (silT a t ys) i r = true then some ys else none), [some a.d, some (tun t), some (.str r.nm), some (.lst (xs.map D.str)), x4, x5], st) := by
    unfold sFor
    rw [range_ok (n := xs.length) (st1 := st) (by
      simp only [e_cons, e_call, e_V, e_nil, List.getElem?_cons_zero, List.getElem?_cons_succ, Option.bind_some, e_lenZ, List.length_map]) (by omega)]
    simp only [Option.bind_some]
    exact e1
  unfold fewL
  rw [e_seq]
  show ((sFor _ (.one 4) bodyM _ st).bind _).bind _ = _
  rw [R]
  cases (List.range xs.length).findSome? fun k => (choL xs k).findSome? fun ys => if heardB a (silT a t ys) i r = true then some ys else none with
  | some v => rfl
  | none =>
    simp only [Option.bind_some, outF, e_ret, e_call, e_cons, e_V, e_nil, List.getElem?_cons_zero, List.getElem?_cons_succ, e_tupZ, Option.getD_none]
    rfl
theorem cure_eq {a : Air} (h : a.Ok) {t : List Int} (ht : t.length = a.ss.length) {i : Nat} {r : Stn} (e : a.ss[i]? = some r) (hi : t.getD i 0 ≠ 0) :
    fn_cure [a.d, tun t, .str r.nm] st = some (lotD (fewL a t i r (sendL a t r)), st) := by
  unfold fn_cure
  refine seal_same ?_ (by unfold lotD pureB; exact pureL_map (fun _ => rfl) _)
  have hl : (sendL a t r).length ≤ 8 := by
    unfold sendL
    rw [List.length_map]
    exact ss_len h _
  refine run_ok (ρ' := [some a.d, some (tun t), some (.str r.nm)]) ?_
  show sRet _ [some a.d, some (tun t), some (.str r.nm)] st = _
  refine ret_ok (fn_ok (ds := [a.d, tun t, .str r.nm, .lst ((sendL a t r).map D.str)]) (st1 := st) ?_ rfl (fewest_eq h ht e hl))
  have f1 : fFn 3 fn_other_senders (fCons (fV 0) (fCons (fV 1) (fCons (fV 2) fNil))) [some a.d, some (tun t), some (.str r.nm)] st = some (.lst ((sendL a t r).map D.str), st) := fn_ok (ds := [a.d, tun t, .str r.nm]) (st1 := st) rfl rfl (other_eq h ht e hi)
  simp only [e_cons, f1, e_V, e_nil, List.getElem?_cons_zero, List.getElem?_cons_succ, Option.bind_some]
theorem few_mem {a : Air} {t : List Int} {i : Nat} {r : Stn} {xs : List Str} : (fewL a t i r xs).Sublist xs := by
  unfold fewL
  cases q : (List.range xs.length).findSome? fun k => (choL xs k).findSome? fun ys => if heardB a (silT a t ys) i r = true then some ys else none with
  | none => exact List.Sublist.refl _
  | some v =>
    obtain ⟨k, _, q1⟩ := List.exists_of_findSome?_eq_some q
    obtain ⟨ys, hy, q2⟩ := List.exists_of_findSome?_eq_some q1
    split at q2
    · cases q2; exact (cho_mem hy).1
    · cases q2
end
end EL

set_option Elab.async false
set_option linter.all false
set_option maxRecDepth 100000
set_option maxHeartbeats 1000000
/-! things of any kind, and spoilt ones, stay small -/
namespace EL
open PySem PySem.Spec PyProof.Rows L2 GxR LG FW
def SO (B : Nat) (x : Str) : Prop := x.length ≤ B ∧ ∀ c ∈ x.cps.toList, c < 128
/-- data of depth n, g times spoilt -/
def Dv (g : Nat) : Nat → D → Prop
  | _, .non => True
  | _, .bl _ => True
  | _, .int i => i.natAbs ≤ 10 ^ 30 + 2000 * g
  | _, .str x => SO (300 * 4 ^ g) x
  | n + 1, .tup ds => ds.length ≤ 20 + g ∧ ∀ d ∈ ds, Dv g n d
  | n + 1, .lst ds => ds.length ≤ 20 + g ∧ ∀ d ∈ ds, Dv g n d
  | _, _ => False
section
variable {g g' n m : Nat} {d : D} {lb : Nat} {st : Sto}
theorem SO.up {A B : Nat} {x : Str} (h : SO A x) (hab : A ≤ B) : SO B x := ⟨Nat.le_trans h.1 hab, h.2⟩
theorem Dv.up (h : Dv g n d) (hg : g ≤ g') (hn : n ≤ m) : Dv g' m d := by
  induction n generalizing m d with
  | zero =>
    cases d with
    | int i => cases m <;> (simp only [Dv] at h ⊢; omega)
    | str x => cases m <;> (simp only [Dv] at h ⊢; exact h.up (Nat.mul_le_mul_left _ (Nat.pow_le_pow_right (by decide) hg)))
    | non => cases m <;> simp [Dv]
    | bl b => cases m <;> simp [Dv]
    | _ => simp [Dv] at h
  | succ n ih =>
    obtain ⟨k, rfl⟩ : ∃ k, m = k + 1 := ⟨m - 1, by omega⟩
    cases d with
    | int i => simp only [Dv] at h ⊢; omega
    | str x => simp only [Dv] at h ⊢; exact h.up (Nat.mul_le_mul_left _ (Nat.pow_le_pow_right (by decide) hg))
    | non => simp [Dv]
    | bl b => simp [Dv]
    | tup ds => simp only [Dv] at h ⊢; exact ⟨by omega, fun x hx => ih (h.2 x hx) (by omega)⟩
    | lst ds => simp only [Dv] at h ⊢; exact ⟨by omega, fun x hx => ih (h.2 x hx) (by omega)⟩
    | _ => simp [Dv] at h
theorem Dv.pure (h : Dv g n d) : pureB d = true := by
  induction n generalizing d with
  | zero => cases d <;> first | rfl | (simp [Dv] at h)
  | succ n ih =>
    have all : ∀ ds : List D, (∀ x ∈ ds, Dv g n x) → pureL ds = true := by
      intro ds
      induction ds with
      | nil => intro _; rfl
      | cons x ds ih2 =>
        intro hx
        unfold pureL
        rw [ih (hx x List.mem_cons_self), ih2 fun y hy => hx y (List.mem_cons_of_mem _ hy)]
        rfl
    cases d with
    | tup ds => simp only [Dv] at h; unfold pureB; exact all ds h.2
    | lst ds => simp only [Dv] at h; unfold pureB; exact all ds h.2
    | _ => first | rfl | (simp [Dv] at h)
def oddL : List D := [.non, .bl true, .bl false, .int 0, .int 1, .int (-1), .int 5, .int (10 ^ 30), .str "", .str "a", .str "shut", .str "bands", .tup [], .lst [], .tup [.int 1, .int 2], .tup [.non], .tup [.int 0, .int 0],
  .tup [.str "a", .tup [.int 0, .int 0], .int 1, .tup [.int 0, .int 0], .int 1], .tup [.tup [.str "a", .tup [.int 0, .int 0], .int 1, .tup [.int 0, .int 0], .int 1]], .tup [.str "shut", .str "ann"], .tup [.str "bands", .tup []], .tup [.tup [.int 0], .int 0]]
def bS (x : Str) : Bool := decide (x.length ≤ 300) && x.cps.toList.all (fun c => decide (c < 128))
def dvB : Nat → D → Bool
  | _, .non => true
  | _, .bl _ => true
  | _, .int i => decide (i.natAbs ≤ 10 ^ 30)
  | _, .str x => bS x
  | n + 1, .tup ds => decide (ds.length ≤ 20) && ds.all (dvB n)
  | n + 1, .lst ds => decide (ds.length ≤ 20) && ds.all (dvB n)
  | _, _ => false
theorem SO.of {x : Str} (h : bS x = true) : SO 300 x := by
  unfold bS at h
  simp only [Bool.and_eq_true, decide_eq_true_eq, List.all_eq_true] at h
  exact h
theorem Dv.by : ∀ {n : Nat} {d : D}, dvB n d = true → Dv 0 n d := by
  intro n
  induction n with
  | zero =>
    intro d h
    cases d with
    | int i => simp only [dvB, decide_eq_true_eq] at h; simp only [Dv]; omega
    | str x => simp only [dvB] at h; simp only [Dv]; exact (SO.of h).up (by omega)
    | non => simp [Dv]
    | bl b => simp [Dv]
    | _ => simp [dvB] at h
  | succ n ih =>
    intro d h
    cases d with
    | int i => simp only [dvB, decide_eq_true_eq] at h; simp only [Dv]; omega
    | str x => simp only [dvB] at h; simp only [Dv]; exact (SO.of h).up (by omega)
    | non => simp [Dv]
    | bl b => simp [Dv]
    | tup ds => simp only [dvB, Bool.and_eq_true, decide_eq_true_eq, List.all_eq_true] at h; simp only [Dv]; exact ⟨by omega, fun x hx => ih (h.2 x hx)⟩
    | lst ds => simp only [dvB, Bool.and_eq_true, decide_eq_true_eq, List.all_eq_true] at h; simp only [Dv]; exact ⟨by omega, fun x hx => ih (h.2 x hx)⟩
    | _ => simp [dvB] at h
theorem odd_all : oddL.all (dvB 4) = true := by decide +kernel
theorem odd_spec (b : Bg lb st) : Ok (fn__law_odd [.ref lb] st) fun p => Dv 0 4 p.1 ∧ Go lb st p.2 := by
  unfold fn__law_odd
  refine seal_ok ?_
  obtain ⟨⟨x6, s6⟩, q6, ⟨i, rfl, i1, i2⟩, g6⟩ := take_spec (m := 22) (by decide) (by decide) b
  obtain ⟨x, a1, a2, _⟩ := atI_lt (l := oddL) i1 (by show i < 22; omega)
  have dx : Dv 0 4 x := Dv.by (List.all_eq_true.mp odd_all x a2)
  refine ⟨(x, s6), ?_, dx, dx.pure, s6, [], (List.append_nil _).symm, g6⟩
  unfold sb__law_odd
  rw [e_run]
  simp only [List.map_cons, List.map_nil, List.length_cons, List.length_nil, List.replicate, List.cons_append, List.nil_append]
  have z17 : ∀ k : Nat, k ≤ 30 → k ≤ sizeLine := fun k h => by rw [sizeLine_eq]; omega
  have p30 : powD (.int 10) (.int 30) st = some (.int (10 ^ 30), st) := by simp
  rw [seq_nx (ρ1 := [some (.ref lb), some (.lst (oddL.take 17))]) (st1 := st) (by simp [sizeLine_eq, oddL])]
  rw [seq_nx (ρ1 := [some (.ref lb), some (.lst (oddL.take 20))]) (st1 := st) (by simp [sizeLine_eq, oddL])]
  rw [seq_nx (ρ1 := [some (.ref lb), some (.lst oddL)]) (st1 := st) (by simp [sizeLine_eq, oddL])]
  have lz : lenD [.lst oddL] st = some (.int 22, st) := rfl
  simp only [e_ret, e_op, e_V, e_fn, e_cons, e_nil, e_call, List.getElem?_cons_succ, List.getElem?_cons_zero, Option.bind_some, lz, List.length_cons, List.length_nil, if_true, q6, e_ixZ, a1]
end
end EL

set_option Elab.async false
set_option linter.all false
set_option maxRecDepth 100000
set_option maxHeartbeats 1000000
/-! one part spoilt -/
namespace EL
open PySem PySem.Spec PyProof.Rows L2 GxR LG FW
section
variable {lb : Nat} {st s : Sto} {P : D → Prop} {d : D} {g n : Nat}
/-- what a def may give back: data, or the list that it has made first -/
def Gv (lb : Nat) (st : Sto) (P : D → Prop) (x : D) (s : Sto) : Prop :=
  (∃ s2 more, s = s2 ++ more ∧ Go lb st s2) ∧ ((pureB x = true ∧ P x) ∨ ∃ es, x = .ref st.length ∧ s[st.length]? = some (.lst es) ∧ pureL es = true ∧ P (.lst es))
theorem seal_gv {fn : HA} {ds : List D} (h : Ok (fn ds st) fun p => Gv lb st P p.1 p.2) : Ok (sealFn fn ds st) fun p => P p.1 ∧ Go lb st p.2 := by
  obtain ⟨⟨v, st'⟩, e, ⟨s2, more, es, gg⟩, q⟩ := h
  simp only at es q
  subst es
  have tk : (s2 ++ more).take st.length = s2 := by rw [← gg.len]; simp
  rcases q with ⟨p1, p2⟩ | ⟨es, rfl, h1, h2, h3⟩
  · exact ⟨(v, s2), seal_to e (calm_app gg.calm gg.len) (seal_pure p1) tk, p2, gg⟩
  · refine ⟨(.lst es, s2), seal_to e (calm_app gg.calm gg.len) ?_ tk, h3, gg⟩
    unfold sealD seal1
    simp only [Nat.lt_irrefl, if_false, h1, h2, if_true]
/-- the rows as they stand in the variable -/
def Rv (lb : Nat) (st : Sto) (x : D) (es : List D) (s : Sto) : Prop := (x = .ref st.length ∧ Acc lb st es s) ∨ (x = .lst es ∧ ∃ s2 more, s = s2 ++ more ∧ Go lb st s2)
theorem Rv.pre {x : D} {es : List D} (h : Rv lb st x es s) : ∃ s2 more, s = s2 ++ more ∧ Go lb st s2 := by
  rcases h with ⟨_, s0, g0, rfl⟩ | ⟨_, h⟩
  · exact ⟨s0, _, rfl, g0⟩
  · exact h
theorem Rv.listOf {x : D} {es : List D} (h : Rv lb st x es s) : listOf x s = some es := by
  rcases h with ⟨rfl, a⟩ | ⟨rfl, h⟩
  · exact e_listOfR a.at
  · rfl
theorem Rv.tuple {x : D} {es : List D} (h : Rv lb st x es s) : tupleD [x] s = some (.tup es, s) := by
  have q := h.listOf
  rcases h with ⟨rfl, a⟩ | ⟨rfl, h⟩
  · unfold tupleD; simp only [q, Option.map_some]
  · rfl
theorem Dv.tupL {es : List D} (h1 : es.length ≤ 20 + g) (h2 : ∀ e ∈ es, Dv g n e) : Dv g (n + 1) (.tup es) ∧ Dv g (n + 1) (.lst es) := by
  simp only [Dv]; exact ⟨⟨h1, h2⟩, h1, h2⟩
theorem Dv.pureL {es : List D} (h2 : ∀ e ∈ es, Dv g n e) : EL.pureL es = true := by
  induction es with
  | nil => rfl
  | cons x es ih =>
    unfold EL.pureL
    rw [(h2 x List.mem_cons_self).pure, ih fun y hy => h2 y (List.mem_cons_of_mem _ hy)]
    rfl
theorem Rv.gv {x : D} {es : List D} (h : Rv lb st x es s) (h1 : es.length ≤ 20 + g) (h2 : ∀ e ∈ es, Dv g n e) : Gv lb st (Dv g (n + 1)) x s := by
  refine ⟨h.pre, ?_⟩
  have q := Dv.tupL h1 h2
  rcases h with ⟨rfl, a⟩ | ⟨rfl, h⟩
  · exact .inr ⟨es, rfl, a.at, Dv.pureL h2, q.2⟩
  · exact .inl ⟨q.2.pure, q.2⟩
end
end EL

set_option Elab.async false
set_option linter.all false
set_option maxRecDepth 100000
set_option maxHeartbeats 1000000
/-! one part spoilt: the rows -/
namespace EL
open PySem PySem.Spec PyProof.Rows L2 GxR LG FW
noncomputable def chainS (rec : HA) : FS := (sIf (fTst (fOp eqD (fV 2) (fC (.int 1)))) (sSet 3 (fOp addD (fSl (fV 3) oNone (oSome (fV 4))) (fSl (fV 3) (oSome (fOp addD (fV 4) (fC (.int 1)))) oNone))) (sIf (fTst (fOp eqD (fV 2) (fC (.int 2)))) (sSet 3 (fOp addD (fSl (fV 3) oNone (oSome (fOp addD (fV 4) (fC (.int 1))))) (fSl (fV 3) (oSome (fV 4)) oNone))) (sIf (fTst (fOp eqD (fV 2) (fC (.int 3)))) (sSeq (sSet 5 (fFn 2 fn__law_take (fCons (fV 0) (fCons (fCall lenD (fCons (fV 3) fNil)) fNil)))) (sPut2 (fCons (fOp ixD (fV 3) (fV 5)) (fCons (fOp ixD (fV 3) (fV 4)) fNil)) (fV 3) (fV 4) (fV 3) (fV 5))) (sIf (fTst (fOp eqD (fV 2) (fC (.int 4)))) (sRet (fIf (fTst (fCall isiD (fCons (fV 1) (fCons (fC (.ty "tuple")) fNil)))) (fV 3) (fCall tupleD (fCons (fV 3) fNil)))) (sPut (fFn 2 rec (fCons (fV 0) (fCons (fOp ixD (fV 3) (fV 4)) fNil))) (fV 3) (fV 4))))))
noncomputable def bodyA (rec : HA) : FS := (sSeq (sSet 3 (fCall listD (fCons (fV 1) fNil))) (sSeq (sSet 4 (fFn 2 fn__law_take (fCons (fV 0) (fCons (fCall lenD (fCons (fV 3) fNil)) fNil)))) (sSeq (chainS rec) (sRet (fIf (fTst (fCall isiD (fCons (fV 1) (fCons (fC (.ty "tuple")) fNil)))) (fCall tupleD (fCons (fV 3) fNil)) (fV 3))))))
noncomputable def condA : FT := (fTAnd (fTst (fIsiT ["tuple", "list"] (fV 1))) (fTAnd (fTst (fOp gtD (fCall lenD (fCons (fV 1) fNil)) (fC (.int 0)))) (fTst (fOp gtD (fV 2) (fC (.int 0))))))
noncomputable def restA : FS := (sSeq (sIf (fTAnd (fTst (fCall isiD (fCons (fV 1) (fCons (fC (.ty "str")) fNil)))) (fTst (fOp gtD (fV 2) (fC (.int 1))))) (sRet (fOp ixD (fLz (fCons (fOp addD (fV 1) (fC (.str "a"))) (fCons (fSl (fV 1) oNone (oSome (fNeg (fC (.int 1))))) (fCons (fOp addD (fV 1) (fC (.str " "))) (fCons (fUpper (fV 1)) (fCons (fOp addD (fV 1) (fV 1)) (fCons (fOp addD (fC (.str "z")) (fV 1)) (fCons (fC (.str "")) fNil)))))))) (fOp subD (fV 2) (fC (.int 2))))) sNext) (sSeq (sIf (fTAnd (fTst (fCall isiD (fCons (fV 1) (fCons (fC (.ty "int")) fNil)))) (fTst (fOp gtD (fV 2) (fC (.int 1))))) (sRet (fOp ixD (fLz (fCons (fOp addD (fV 1) (fC (.int 1))) (fCons (fOp subD (fV 1) (fC (.int 1))) (fCons (fNeg (fV 1)) (fCons (fOp addD (fV 1) (fC (.int 1000))) (fCons (fCall strD (fCons (fV 1) fNil)) (fCons (fOp addD (fV 1) (fC (.int 50))) (fCons (fTup (fCons (fV 1) fNil)) fNil)))))))) (fOp subD (fV 2) (fC (.int 2))))) sNext) (sRet (fFn 1 fn__law_odd (fCons (fV 0) fNil)))))
theorem spoilt_form (rec : HA) : sb__law_spoilt rec = sSeq (sSet 2 (fFn 2 fn__law_take (fCons (fV 0) (fCons (fC (.int 9)) fNil)))) (sSeq (sIf condA (bodyA rec) sNext) restA) := rfl
section
variable {lb : Nat} {st s : Sto} {d : D} {g n : Nat} {rec : HA}
theorem cut_mem {es : List D} {a b : Option Int} {e : D} (h : e ∈ cutD es a b) : e ∈ es := List.mem_of_mem_drop (List.mem_of_mem_take h)
theorem cut_hiL {es : List D} {v : Int} (h : 0 ≤ v) : (cutD es none (some v)).length ≤ min v.toNat es.length := by
  unfold cutD
  have e : HT.sIx es.length es.length (some v) = min v.toNat es.length := by
    show (if v < 0 then _ else min v.toNat es.length) = _
    rw [if_neg (by omega)]
  rw [e, HT.sIx_none]
  simp
theorem cut_lo {es : List D} {v : Int} (h : 0 ≤ v) : (cutD es (some v) none).length ≤ es.length - min v.toNat es.length := by
  unfold cutD
  have e : HT.sIx es.length 0 (some v) = min v.toNat es.length := by
    show (if v < 0 then _ else min v.toNat es.length) = _
    rw [if_neg (by omega)]
  rw [e, HT.sIx_none]
  simp
theorem ixN_lt {k : Nat} {i : Int} (h0 : 0 ≤ i) (h1 : i < k) : ixN k i = some i.toNat := by
  unfold ixN
  have e1 : ¬ i < 0 := by omega
  simp [e1, h0, h1]
theorem eqI (i j : Int) : eqD (.int i) (.int j) st = some (.bl (decide (i = j)), st) := e_eqI
/-- two pieces put together -/
theorem cat_eq {es : List D} {l : Nat} {a b : Option Int} (h : s[l]? = some (.lst es)) (hz : (cutD es none a).length + (cutD es b none).length ≤ 1000) :
    (sliceD (.ref l) none a s).bind (fun p => (sliceD (.ref l) b none p.2).bind fun q => addD p.1 q.1 q.2) = some (.lst (cutD es none a ++ cutD es b none), s) := by
  have e : ∀ x y : Option Int, sliceD (.ref l) x y s = some (.lst (cutD es x y), s) := fun x y => by
    unfold sliceD
    simp only [e_listOfR h, Option.map_some]
  simp only [e, Option.bind_some, e_addZ]
  rw [if_pos (by rw [sizeLine_eq]; omega)]
/-- behind the chain: the rows stand, or all is done -/
def Cn (lb : Nat) (g m : Nat) (st : Sto) (d : D) (k a : Int) (p : Fl × Rho × Sto) : Prop :=
  (p.1 = .nx ∧ ∃ x es y, p.2.1 = [some (.ref lb), some d, some (.int k), some x, some (.int a), y] ∧ Rv lb st x es p.2.2 ∧ es.length ≤ 20 + (g + 1) ∧ ∀ e ∈ es, Dv (g + 1) m e) ∨ ∃ x, p.1 = .rt x ∧ Gv lb st (Dv (g + 1) (m + 1)) x p.2.2
theorem chain_ok {k a : Int} {es : List D} (b : Bg lb st) (A : Acc lb st es s) (few : es.length ≤ 20 + g) (hg : g ≤ 7) (h5 : ∀ e ∈ es, Dv g n e) (ty : d = .tup es ∨ d = .lst es)
    (a0 : 0 ≤ a) (a1 : a < es.length) (hrec : ∀ (s : Sto) (e : D), Bg lb s → Dv g n e → Ok (rec [.ref lb, e] s) fun p => Dv (g + 1) (n + 4) p.1 ∧ Go lb s p.2) :
    Ok (chainS rec [some (.ref lb), some d, some (.int k), some (.ref st.length), some (.int a), none] s) (Cn lb g (n + 4) st d k a) := by
  have bs : Bg lb s := A.bg b
  have at0 := A.at
  have up5 : ∀ e ∈ es, Dv (g + 1) (n + 4) e := fun e he => (h5 e he).up (by omega) (by omega)
  have cat : ∀ u v : Int, 0 ≤ u → 0 ≤ v → min u.toNat es.length + (es.length - min v.toNat es.length) ≤ 21 + g → Cn lb g (n + 4) st d k a (.nx, [some (.ref lb), some d, some (.int k), some (.lst (cutD es none (some u) ++ cutD es (some v) none)), some (.int a), none], s) := fun u v hu hv hz => by
    have c1 := cut_hiL (es := es) hu
    have c2 := cut_lo (es := es) hv
    refine .inl ⟨rfl, _, _, _, rfl, .inr ⟨rfl, ?_⟩, by simp only [List.length_append]; omega, fun e he => ?_⟩
    · obtain ⟨s0, g0, rfl⟩ := A
      exact ⟨s0, _, rfl, g0⟩
    · rcases List.mem_append.mp he with z | z
      · exact up5 e (cut_mem z)
      · exact up5 e (cut_mem z)
  unfold chainS
  by_cases e1 : k = 1
  · subst e1
    refine ⟨_, ?_, cat a (a + 1) a0 (by omega) (by omega)⟩
    have c1 := cut_hiL (es := es) a0
    have c2 := cut_lo (es := es) (v := a + 1) (by omega)
    have ce := cat_eq (a := some a) (b := some (a + 1)) at0 (by omega)
    simp only [e_if, e_tst, e_set, e_op, e_sl, e_oN, e_oS, e_V, e_C, List.getElem?_cons_zero, List.getElem?_cons_succ, Option.bind_some, eqI, e_asB, decide_true, if_true, e_addI, ce]
    rfl
  by_cases e2 : k = 2
  · subst e2
    refine ⟨_, ?_, cat (a + 1) a (by omega) a0 (by omega)⟩
    have c1 := cut_hiL (es := es) (v := a + 1) (by omega)
    have c2 := cut_lo (es := es) a0
    have ce := cat_eq (a := some (a + 1)) (b := some a) at0 (by omega)
    have z1 : ¬ (2 : Int) = 1 := by decide
    simp only [e_if, e_tst, e_set, e_op, e_sl, e_oN, e_oS, e_V, e_C, List.getElem?_cons_zero, List.getElem?_cons_succ, Option.bind_some, eqI, e_asB, z1, decide_false, decide_true, Bool.false_eq_true, if_false, if_true, e_addI, ce]
    rfl
  by_cases e3 : k = 3
  · subst e3
    obtain ⟨⟨x6, s6⟩, q6, ⟨i, rfl, i1, i2⟩, g6⟩ := take_spec (m := (es.length : Int)) (by omega) (by omega) bs
    have A6 := A.go b g6
    have r6 := A6.at
    obtain ⟨x, c1, c2, _⟩ := atI_lt (l := es) i1 (by omega)
    obtain ⟨y, d1, d2, _⟩ := atI_lt (l := es) a0 (by omega)
    have n1 : ixN es.length a = some a.toNat := ixN_lt a0 a1
    have w1 : (s6.set st.length (O.lst (es.set a.toNat x)))[st.length]? = some (.lst (es.set a.toNat x)) := by rw [List.getElem?_set_self (at_lt r6)]
    have n2 : ixN (es.set a.toNat x).length i = some i.toNat := by rw [List.length_set]; exact ixN_lt i1 (by omega)
    refine ⟨(.nx, [some (.ref lb), some d, some (.int 3), some (.ref st.length), some (.int a), some (.int i)], (s6.set st.length (.lst (es.set a.toNat x))).set st.length (.lst ((es.set a.toNat x).set i.toNat y))), ?_, .inl ⟨rfl, _, (es.set a.toNat x).set i.toNat y, _, rfl, .inl ⟨rfl, ?_⟩, ?_, fun e he => ?_⟩⟩
    · have lz : lenD [.ref st.length] s = some (.int es.length, s) := by unfold lenD; simp only [e_listOfR at0]; rfl
      have z1 : ¬ (3 : Int) = 1 := by decide
      have z2 : ¬ (3 : Int) = 2 := by decide
      have tk : fFn 2 fn__law_take (fCons (fV 0) (fCons (fCall lenD (fCons (fV 3) fNil)) fNil)) [some (.ref lb), some d, some (.int 3), some (.ref st.length), some (.int a), none] s = some (.int i, s6) := fn_ok (ds := [.ref lb, .int es.length]) (st1 := s) (by simp only [e_cons, e_call, e_V, e_nil, List.getElem?_cons_zero, List.getElem?_cons_succ, Option.bind_some, lz]) rfl q6
      simp only [e_if, e_tst, e_op, e_V, e_C, List.getElem?_cons_zero, List.getElem?_cons_succ, Option.bind_some, eqI, e_asB, z1, z2, decide_false, decide_true, Bool.false_eq_true, if_false, if_true]
      rw [seq_nx (set_ok tk)]
      unfold sPut2
      simp only [List.set_cons_succ, List.set_cons_zero, e_cons, e_nil, e_op, e_V, List.getElem?_cons_zero, List.getElem?_cons_succ, Option.bind_some, e_ixL r6, c1, d1, e_putL r6, n1, e_putL w1, n2, Option.map_some]
    · obtain ⟨s0, g0, rfl⟩ := A6
      refine ⟨s0, g0, ?_⟩
      rw [List.set_set, ← g0.len, List.set_append_right _ _ (Nat.le_refl _)]
      simp
    · simp only [List.length_set]; omega
    · rcases List.mem_or_eq_of_mem_set he with z | z
      · rcases List.mem_or_eq_of_mem_set z with z | z
        · exact up5 e z
        · exact up5 e (z ▸ c2)
      · exact up5 e (z ▸ d2)
  by_cases e4 : k = 4
  · subst e4
    have z1 : ¬ (4 : Int) = 1 := by decide
    have z2 : ¬ (4 : Int) = 2 := by decide
    have z3 : ¬ (4 : Int) = 3 := by decide
    have R : Rv lb st (.ref st.length) es s := .inl ⟨rfl, A⟩
    have q := Dv.tupL (g := g + 1) (n := n + 4) (es := es) (by omega) up5
    rcases ty with rfl | rfl
    · refine ⟨(.rt (.ref st.length), [some (.ref lb), some (.tup es), some (.int 4), some (.ref st.length), some (.int a), none], s), ?_, .inr ⟨_, rfl, R.gv (by omega) up5⟩⟩
      simp only [e_if, e_tst, e_op, e_V, e_C, List.getElem?_cons_zero, List.getElem?_cons_succ, Option.bind_some, eqI, e_asB, z1, z2, z3, decide_false, decide_true, Bool.false_eq_true, if_false, if_true, e_ret, e_ifx, e_call, e_cons, e_nil]
      rfl
    · refine ⟨(.rt (.tup es), [some (.ref lb), some (.lst es), some (.int 4), some (.ref st.length), some (.int a), none], s), ?_, .inr ⟨_, rfl, R.pre, .inl ⟨q.1.pure, q.1⟩⟩⟩
      have isi : isiD [.lst es, .ty "tuple"] s = some (.bl false, s) := rfl
      simp only [e_if, e_tst, e_op, e_V, e_C, List.getElem?_cons_zero, List.getElem?_cons_succ, Option.bind_some, eqI, e_asB, z1, z2, z3, decide_false, decide_true, Bool.false_eq_true, if_false, if_true, e_ret, e_ifx, e_call, e_cons, e_nil, isi, R.tuple]
  · obtain ⟨y, d1, d2, _⟩ := atI_lt (l := es) a0 (by omega)
    obtain ⟨⟨x6, s6⟩, q6, dx, g6⟩ := hrec s y bs (h5 y d2)
    have A6 := A.go b g6
    have r6 := A6.at
    have n1 : ixN es.length a = some a.toNat := ixN_lt a0 a1
    refine ⟨(.nx, [some (.ref lb), some d, some (.int k), some (.ref st.length), some (.int a), none], s6.set st.length (.lst (es.set a.toNat x6))), ?_, .inl ⟨rfl, _, es.set a.toNat x6, _, rfl, .inl ⟨rfl, ?_⟩, ?_, fun e he => ?_⟩⟩
    · have tk : fFn 2 rec (fCons (fV 0) (fCons (fOp ixD (fV 3) (fV 4)) fNil)) [some (.ref lb), some d, some (.int k), some (.ref st.length), some (.int a), none] s = some (x6, s6) := fn_ok (ds := [.ref lb, y]) (st1 := s) (by simp only [e_cons, e_op, e_V, e_nil, List.getElem?_cons_zero, List.getElem?_cons_succ, Option.bind_some, e_ixL at0, d1]) rfl q6
      simp only [e_if, e_tst, e_op, e_V, e_C, List.getElem?_cons_zero, List.getElem?_cons_succ, Option.bind_some, eqI, e_asB, e1, e2, e3, e4, decide_false, Bool.false_eq_true, if_false, e_put, tk, e_putL r6, n1]
    · obtain ⟨s0, g0, rfl⟩ := A6
      refine ⟨s0, g0, ?_⟩
      rw [← g0.len, List.set_append_right _ _ (Nat.le_refl _)]
      simp
    · simp only [List.length_set]; omega
    · rcases List.mem_or_eq_of_mem_set he with z | z
      · exact up5 e z
      · exact z ▸ dx
end
end EL

set_option Elab.async false
set_option linter.all false
set_option maxRecDepth 100000
set_option maxHeartbeats 1000000
/-! one part spoilt: texts and numbers -/
namespace EL
open PySem PySem.Spec PyProof.Rows L2 GxR LG FW
section
variable {lb : Nat} {st s : Sto} {d : D} {g n : Nat} {rec : HA}
theorem SO.app {A B : Nat} {x y : Str} (h1 : SO A x) (h2 : SO B y) : SO (A + B) (x ++ y) := ⟨by rw [Str.length_append]; exact Nat.add_le_add h1.1 h2.1, fun c hc => by
  rw [Str.cps_append, Array.toList_append] at hc
  rcases List.mem_append.mp hc with z | z
  · exact h1.2 c z
  · exact h2.2 c z⟩
theorem SO.cut {B : Nat} {x : Str} {lo hi : Option Int} (h : SO B x) : SO B (cutS x lo hi) := by
  refine ⟨Nat.le_trans ?_ h.1, fun c hc => h.2 c (List.mem_of_mem_drop (List.mem_of_mem_take (by simpa [cutS] using hc)))⟩
  show (cutS x lo hi).cps.size ≤ x.cps.size
  unfold cutS
  simp
  omega
theorem upper_ascii : ∀ c, c < 128 → ∀ e ∈ Unicode.upperOf c, e < 128 := by
  have : (List.range 128).all (fun c => (Unicode.upperOf c).all fun e => decide (e < 128)) = true := by decide +kernel
  intro c hc e he
  have h := List.all_eq_true.mp this c (List.mem_range.mpr hc)
  exact of_decide_eq_true (List.all_eq_true.mp h e he)
theorem SO.upper {B : Nat} {x : Str} (h : SO B x) : SO (3 * B) (Txt.upper x) := by
  refine ⟨Nat.le_trans (len_upper x) (Nat.mul_le_mul_left _ h.1), fun c hc => ?_⟩
  have hc : c ∈ (x.cps.mapIdx fun _ c => (Unicode.upperOf c).toArray).flatten.toList := hc
  rw [Array.mem_toList_iff, Array.mem_flatten] at hc
  obtain ⟨a, ha, hc⟩ := hc
  obtain ⟨i, hi, e⟩ := Array.mem_mapIdx.mp ha
  subst e
  exact upper_ascii x.cps[i] (h.2 _ (by simp)) c (by simpa using hc)
theorem so_short {x : Str} {k : Nat} (h : (decide (x.length ≤ k) && x.cps.toList.all (fun c => decide (c < 128))) = true) : SO k x := by
  simp only [Bool.and_eq_true, decide_eq_true_eq, List.all_eq_true] at h
  exact ⟨h.1, h.2⟩
theorem so_int {i : Int} (h : i.natAbs.log2 < 200) : SO 300 (toString i : String) := by
  refine ⟨?_, fun c hc => ?_⟩
  · show (Str.ofString (toString i)).length ≤ 300
    rw [PySem.ofString_length]
    exact Nat.le_trans (PySem.int_text_length_le (k := 200) (by decide) h) (by decide)
  · have hc : c ∈ (Str.ofString (toString i)).cps.toList := hc
    rw [Str.ofString_eq_toList] at hc
    simp only [List.mem_map] at hc
    obtain ⟨ch, h1, rfl⟩ := hc
    exact PySem.int_ascii i ch h1
theorem pow_leB (h : g ≤ 6) : 300 * 4 ^ g ≤ 4915200 := by
  have : 4 ^ g ≤ 4 ^ 6 := Nat.pow_le_pow_right (by decide) h
  have : (4 : Nat) ^ 6 = 4096 := by decide
  omega
theorem SO.dv {B : Nat} {x : Str} (h : SO B x) (hB : B ≤ 300 * 4 ^ g) : Dv g n (.str x) := by
  have := h.up hB
  cases n <;> simpa [Dv] using this
theorem int_dv {i : Int} (h : i.natAbs ≤ 10 ^ 30 + 2000 * g) : Dv g n (.int i) := by cases n <;> simpa [Dv] using h
/-- one of a list that is shown -/
theorem pick_ok {k : Int} {es : List D} {P : D → Prop} {σ : Rho} {fr : FA} {fk : FE} (ef : fr σ s = some (es, s)) (hz : es.length ≤ 20) (ek : ∀ s, fk σ s = some (.int k, s)) (k0 : 0 ≤ k) (k1 : k < es.length) (hP : ∀ e ∈ es, P e) :
    ∃ x, sRet (fOp ixD (fLz fr) fk) σ s = some (.rt x, σ, s) ∧ P x := by
  obtain ⟨x, h1, h2, _⟩ := atI_lt (l := es) k0 k1
  refine ⟨x, ?_, hP x h2⟩
  have hs : es.length ≤ sizeLine := by rw [sizeLine_eq]; omega
  simp only [e_ret, e_op, e_lz, ef, Option.bind_some, hs, if_true, ek, e_ixZ, h1]
noncomputable def strR : FS := (sRet (fOp ixD (fLz (fCons (fOp addD (fV 1) (fC (.str "a"))) (fCons (fSl (fV 1) oNone (oSome (fNeg (fC (.int 1))))) (fCons (fOp addD (fV 1) (fC (.str " "))) (fCons (fUpper (fV 1)) (fCons (fOp addD (fV 1) (fV 1)) (fCons (fOp addD (fC (.str "z")) (fV 1)) (fCons (fC (.str "")) fNil)))))))) (fOp subD (fV 2) (fC (.int 2)))))
noncomputable def numR : FS := (sRet (fOp ixD (fLz (fCons (fOp addD (fV 1) (fC (.int 1))) (fCons (fOp subD (fV 1) (fC (.int 1))) (fCons (fNeg (fV 1)) (fCons (fOp addD (fV 1) (fC (.int 1000))) (fCons (fCall strD (fCons (fV 1) fNil)) (fCons (fOp addD (fV 1) (fC (.int 50))) (fCons (fTup (fCons (fV 1) fNil)) fNil)))))))) (fOp subD (fV 2) (fC (.int 2)))))
theorem str_ok {x : Str} {k : Int} (h : Dv g n (.str x)) (hg : g ≤ 6) (k0 : 2 ≤ k) (k1 : k ≤ 8) :
    ∃ z, strR [some (.ref lb), some (.str x), some (.int k), none, none, none] s = some (.rt z, [some (.ref lb), some (.str x), some (.int k), none, none, none], s) ∧ ∀ n, Dv (g + 1) n z := by
  have hx : SO (300 * 4 ^ g) x := by cases n <;> simpa [Dv] using h
  have hB : 300 * 4 ^ g ≤ 4915200 := pow_leB (by omega)
  have h1 : 300 * 1 ≤ 300 * 4 ^ g := Nat.mul_le_mul_left _ (Nat.pow_pos (by decide))
  have hq : 300 * 4 ^ (g + 1) = 4 * (300 * 4 ^ g) := by rw [Nat.pow_succ]; omega
  have sa : SO 1 ("a" : Str) := so_short (by decide +kernel)
  have ss : SO 1 (" " : Str) := so_short (by decide +kernel)
  have sz : SO 1 ("z" : Str) := so_short (by decide +kernel)
  have se : SO 1 ("" : Str) := so_short (by decide +kernel)
  generalize 300 * 4 ^ g = B at hx hB h1 hq
  have la := (hx.app sa).1
  have ls := (hx.app ss).1
  have lx := (hx.app hx).1
  have lz := (sz.app hx).1
  simp only [Str.length_append] at la ls lx lz
  have szl : sizeLine = 16777216 := sizeLine_eq
  have ea : addD (.str x) (.str "a") s = some (.str (x ++ "a"), s) := if_pos (by omega)
  have es : addD (.str x) (.str " ") s = some (.str (x ++ " "), s) := if_pos (by omega)
  have ex : addD (.str x) (.str x) s = some (.str (x ++ x), s) := if_pos (by omega)
  have ez : addD (.str "z") (.str x) s = some (.str ("z" ++ x), s) := if_pos (by omega)
  have ec : sliceD (.str x) none (some (-1)) s = some (.str (cutS x none (some (-1))), s) := if_pos (by have := hx.1; omega)
  have lu : x.length ≤ 5592405 := by have := hx.1; omega
  unfold strR
  refine pick_ok (k := k - 2) (es := [.str (x ++ "a"), .str (cutS x none (some (-1))), .str (x ++ " "), .str (Txt.upper x), .str (x ++ x), .str ("z" ++ x), .str ""]) (P := fun z => ∀ n, Dv (g + 1) n z) ?_ (by simp) (fun s => by simp) (by omega) (by simp; omega) fun e he => ?_
  · simp [ea, es, ex, ez, ec, lu]
  · intro n
    simp only [List.mem_cons, List.not_mem_nil, or_false] at he
    rcases he with z | z | z | z | z | z | z <;> subst z
    · exact (hx.app sa).dv (by omega)
    · exact hx.cut.dv (by omega)
    · exact (hx.app ss).dv (by omega)
    · exact hx.upper.dv (by omega)
    · exact (hx.app hx).dv (by omega)
    · exact (sz.app hx).dv (by omega)
    · exact se.dv (by omega)
theorem num_ok {v : Int} {k : Int} (hd : d = .int v ∨ ∃ w, d = .bl w ∧ v = bI w) (hv : v.natAbs ≤ 10 ^ 30 + 2000 * g) (hg : g ≤ 6) (k0 : 2 ≤ k) (k1 : k ≤ 8) :
    ∃ z, numR [some (.ref lb), some d, some (.int k), none, none, none] s = some (.rt z, [some (.ref lb), some d, some (.int k), none, none, none], s) ∧ ∀ n, Dv (g + 1) (n + 1) z := by
  have lg : v.natAbs.log2 < 200 := by
    by_cases hz : v.natAbs = 0
    · rw [hz]; decide
    · exact (Nat.log2_lt hz).mpr (Nat.lt_of_le_of_lt hv (by
        have : 10 ^ 30 + 2000 * 6 < 2 ^ 200 := by decide
        omega))
  have h1 : 1 ≤ 4 ^ (g + 1) := Nat.pow_pos (by decide)
  obtain ⟨sv, e1, e2⟩ : ∃ sv, strD [d] s = some (.str sv, s) ∧ SO 300 sv := by
    rcases hd with rfl | ⟨w, rfl, rfl⟩
    · exact ⟨toString v, if_pos (by omega), so_int lg⟩
    · exact ⟨strB w, rfl, by cases w <;> exact SO.of (by decide +kernel)⟩
  have a1 : ∀ j : Int, addD d (.int j) s = some (.int (v + j), s) := fun j => by
    rcases hd with rfl | ⟨w, rfl, rfl⟩ <;> rfl
  have a2 : ∀ j : Int, subD d (.int j) s = some (.int (v - j), s) := fun j => by
    rcases hd with rfl | ⟨w, rfl, rfl⟩ <;> rfl
  have a3 : fNeg (fV 1) [some (.ref lb), some d, some (.int k), none, none, none] s = some (.int (-v), s) := by
    rcases hd with rfl | ⟨w, rfl, rfl⟩ <;> rfl
  have hz : (1 : Nat) ≤ sizeLine := by decide
  unfold numR
  refine pick_ok (k := k - 2) (es := [.int (v + 1), .int (v - 1), .int (-v), .int (v + 1000), .str sv, .int (v + 50), .tup [d]]) (P := fun z => ∀ n, Dv (g + 1) (n + 1) z) ?_ (by simp) (fun s => by simp) (by omega) (by simp; omega) fun e he => ?_
  · simp only [e_cons, e_op, e_V, e_C, e_nil, e_call, e_tup, List.getElem?_cons_succ, List.getElem?_cons_zero, Option.bind_some, a1, a2, a3, e1, List.length_cons, List.length_nil, Nat.zero_add, hz, if_true]
  · intro n
    simp only [List.mem_cons, List.not_mem_nil, or_false] at he
    rcases he with z | z | z | z | z | z | z <;> subst z
    · exact int_dv (by omega)
    · exact int_dv (by omega)
    · exact int_dv (by omega)
    · exact int_dv (by omega)
    · exact e2.dv (by omega)
    · exact int_dv (by omega)
    · simp only [Dv]
      refine ⟨by simp; omega, fun e he => ?_⟩
      simp only [List.mem_cons, List.not_mem_nil, or_false] at he
      subst he
      rcases hd with rfl | ⟨w, rfl, rfl⟩
      · exact int_dv (by omega)
      · cases n <;> simp [Dv]
end
end EL

set_option Elab.async false
set_option linter.all false
set_option maxRecDepth 100000
set_option maxHeartbeats 1000000
/-! one part spoilt: the whole -/
namespace EL
open PySem PySem.Spec PyProof.Rows L2 GxR LG FW
section
variable {lb : Nat} {st s : Sto} {d : D} {g n : Nat} {rec : HA}
theorem rest_form : restA = sSeq (sIf (fTAnd (fTst (fCall isiD (fCons (fV 1) (fCons (fC (.ty "str")) fNil)))) (fTst (fOp gtD (fV 2) (fC (.int 1))))) strR sNext) (sSeq (sIf (fTAnd (fTst (fCall isiD (fCons (fV 1) (fCons (fC (.ty "int")) fNil)))) (fTst (fOp gtD (fV 2) (fC (.int 1))))) numR sNext) (sRet (fFn 1 fn__law_odd (fCons (fV 0) fNil)))) := rfl
def isInt : D → Bool
  | .int _ => true
  | .bl _ => true
  | _ => false
theorem Dv.isiS (h : Dv g n d) : isiD [d, .ty "str"] s = some (.bl (isStr d), s) := by
  cases d with
  | non => rfl
  | bl b => rfl
  | int i => rfl
  | str x => rfl
  | tup ds => rfl
  | lst ds => rfl
  | _ => cases n <;> simp [Dv] at h
theorem Dv.isiI (h : Dv g n d) : isiD [d, .ty "int"] s = some (.bl (isInt d), s) := by
  cases d with
  | non => rfl
  | bl b => rfl
  | int i => rfl
  | str x => rfl
  | tup ds => rfl
  | lst ds => rfl
  | _ => cases n <;> simp [Dv] at h
theorem rest_ok {k : Int} (b : Bg lb st) (q : Go lb st s) (h : Dv g n d) (hg : g ≤ 6) (k0 : 0 ≤ k) (k1 : k ≤ 8) : Ok (restA [some (.ref lb), some d, some (.int k), none, none, none] s) fun p => ∃ x, p.1 = .rt x ∧ Dv (g + 1) (n + 4) x ∧ Go lb st p.2.2 := by
  have bs := q.bg b.lt
  obtain ⟨⟨xo, so⟩, qo, dxo, go⟩ := odd_spec bs
  have odd : Ok (sRet (fFn 1 fn__law_odd (fCons (fV 0) fNil)) [some (.ref lb), some d, some (.int k), none, none, none] s) fun p => ∃ x, p.1 = .rt x ∧ Dv (g + 1) (n + 4) x ∧ Go lb st p.2.2 :=
    ⟨_, ret_ok (fn_ok (ds := [.ref lb]) (st1 := s) rfl rfl qo), xo, rfl, dxo.up (by omega) (by omega), q.trans go⟩
  have t : ∀ (T : String) (v : Bool), isiD [d, .ty T] s = some (.bl v, s) → fTAnd (fTst (fCall isiD (fCons (fV 1) (fCons (fC (.ty T)) fNil)))) (fTst (fOp gtD (fV 2) (fC (.int 1)))) [some (.ref lb), some d, some (.int k), none, none, none] s = some (v && decide (1 < k), s) := fun T v e => by
    simp only [e_tand, e_tst, e_call, e_cons, e_op, e_V, e_C, e_nil, List.getElem?_cons_zero, List.getElem?_cons_succ, Option.bind_some, e, e_asB, e_gtI]
    cases v <;> rfl
  have tS := t "str" _ h.isiS
  have tI := t "int" _ h.isiI
  rw [rest_form]
  by_cases kk : 1 < k
  · rw [decide_eq_true kk, Bool.and_true] at tS tI
    cases hs : isStr d with
    | true =>
      rw [hs] at tS
      cases d with
      | str x =>
        obtain ⟨z, e, hz⟩ := str_ok (lb := lb) (s := s) (k := k) h hg (by omega) k1
        refine ⟨(.rt z, [some (.ref lb), some (.str x), some (.int k), none, none, none], s), ?_, z, rfl, hz _, q⟩
        rw [e_seq, e_if, tS]
        simp only [Option.bind_some, if_true, e]
      | _ => cases hs
    | false =>
      rw [hs] at tS
      have s1 : sIf (fTAnd (fTst (fCall isiD (fCons (fV 1) (fCons (fC (.ty "str")) fNil)))) (fTst (fOp gtD (fV 2) (fC (.int 1))))) strR sNext [some (.ref lb), some d, some (.int k), none, none, none] s = some (.nx, [some (.ref lb), some d, some (.int k), none, none, none], s) := by
        rw [e_if, tS]
        simp only [Option.bind_some, Bool.false_eq_true, if_false, e_next]
      rw [seq_nx s1]
      cases hi : isInt d with
      | true =>
        rw [hi] at tI
        have nm : ∃ v : Int, (d = .int v ∨ ∃ w, d = .bl w ∧ v = bI w) ∧ v.natAbs ≤ 10 ^ 30 + 2000 * g := by
          cases d with
          | int v => exact ⟨v, .inl rfl, by cases n <;> simpa [Dv] using h⟩
          | bl w => exact ⟨bI w, .inr ⟨w, rfl, rfl⟩, by cases w <;> simp [bI] <;> omega⟩
          | _ => cases hi
        obtain ⟨v, hd, hv⟩ := nm
        obtain ⟨z, e, hz⟩ := num_ok (lb := lb) (s := s) (k := k) hd hv hg (by omega) k1
        refine ⟨(.rt z, [some (.ref lb), some d, some (.int k), none, none, none], s), ?_, z, rfl, hz _, q⟩
        rw [e_seq, e_if, tI]
        simp only [Option.bind_some, if_true, e]
      | false =>
        rw [hi] at tI
        refine odd.eq (seq_nx ?_)
        rw [e_if, tI]
        simp only [Option.bind_some, Bool.false_eq_true, if_false, e_next]
  · rw [decide_eq_false kk, Bool.and_false] at tS tI
    have s1 : sIf (fTAnd (fTst (fCall isiD (fCons (fV 1) (fCons (fC (.ty "str")) fNil)))) (fTst (fOp gtD (fV 2) (fC (.int 1))))) strR sNext [some (.ref lb), some d, some (.int k), none, none, none] s = some (.nx, [some (.ref lb), some d, some (.int k), none, none, none], s) := by
      rw [e_if, tS]
      simp only [Option.bind_some, Bool.false_eq_true, if_false, e_next]
    rw [seq_nx s1]
    refine odd.eq (seq_nx ?_)
    rw [e_if, tI]
    simp only [Option.bind_some, Bool.false_eq_true, if_false, e_next]
/-- the parts of a tuple or a list -/
def partsOf : D → Option (List D)
  | .tup ds => some ds
  | .lst ds => some ds
  | _ => none
theorem parts_seq {es : List D} (h : partsOf d = some es) : seqD d s = some es ∧ lenD [d] s = some (.int es.length, s) ∧ (d = .tup es ∨ d = .lst es) := by
  cases d with
  | tup ds => cases h; exact ⟨rfl, rfl, .inl rfl⟩
  | lst ds => cases h; exact ⟨rfl, rfl, .inr rfl⟩
  | _ => cases h
end
end EL

set_option Elab.async false
set_option linter.all false
set_option maxRecDepth 100000
set_option maxHeartbeats 1000000
namespace EL
open PySem PySem.Spec PyProof.Rows L2 GxR LG FW
section
variable {lb : Nat} {st s : Sto} {d : D} {g n : Nat} {rec : HA}
theorem len_at {l : Nat} {es : List D} (h : s[l]? = some (.lst es)) : lenD [.ref l] s = some (.int es.length, s) := by
  unfold lenD; simp only [e_listOfR h]; rfl
theorem tk_ok {f : HA} {ρ : List (Option D)} {x y z : D} {d2 : D} {s2 : Sto} (h0 : ρ[0]? = some (some x)) (h3 : ρ[3]? = some (some y)) (hl : lenD [y] s = some (z, s)) (h : f [x, z] s = some (d2, s2)) :
    fFn 2 f (fCons (fV 0) (fCons (fCall lenD (fCons (fV 3) fNil)) fNil)) ρ s = some (d2, s2) := by
  refine fn_ok (ds := [x, z]) (st1 := s) ?_ rfl h
  simp only [e_cons, e_call, e_V, e_nil, h0, h3, Option.bind_some, hl]
theorem bodyA_ok {k : Int} {es : List D} (b : Bg lb st) (q : Go lb st s) (hp : partsOf d = some es) (few : es.length ≤ 20 + g) (pos : 0 < es.length) (hg : g ≤ 7) (h5 : ∀ e ∈ es, Dv g n e)
    (hrec : ∀ (s : Sto) (e : D), Bg lb s → Dv g n e → Ok (rec [.ref lb, e] s) fun p => Dv (g + 1) (n + 4) p.1 ∧ Go lb s p.2) :
    Ok (bodyA rec [some (.ref lb), some d, some (.int k), none, none, none] s) fun p => ∃ x, p.1 = .rt x ∧ Gv lb st (Dv (g + 1) (n + 4 + 1)) x p.2.2 := by
  obtain ⟨p1, p2, p3⟩ := parts_seq (s := s) hp
  have A : Acc lb st es (s ++ [.lst es]) := ⟨s, q, rfl⟩
  have ls : s.length = st.length := q.len
  unfold bodyA
  rw [seq_nx (ρ1 := [some (.ref lb), some d, some (.int k), some (.ref st.length), none, none]) (st1 := s ++ [.lst es]) (by
    refine set_ok (d := .ref st.length) ?_
    simp only [e_call, e_cons, e_V, e_nil, List.getElem?_cons_zero, List.getElem?_cons_succ, Option.bind_some, listD, p1, Option.map_some, ls])]
  obtain ⟨s1, hs1⟩ : ∃ s1, s1 = s ++ [.lst es] := ⟨_, rfl⟩
  rw [← hs1] at A ⊢
  clear hs1
  obtain ⟨⟨x6, s6⟩, q6, ⟨i, rfl, i1, i2⟩, g6⟩ := take_spec (m := (es.length : Int)) (by omega) (by omega) (A.bg b)
  have A6 := A.go b g6
  have tk := tk_ok (ρ := [some (.ref lb), some d, some (.int k), some (.ref st.length), none, none]) rfl rfl (len_at A.at) q6
  rw [seq_nx (ρ1 := [some (.ref lb), some d, some (.int k), some (.ref st.length), some (.int i), none]) (st1 := s6) (set_ok tk)]
  obtain ⟨⟨f, ρ2, s2⟩, ec, c⟩ := chain_ok (rec := rec) (k := k) b A6 few hg h5 p3 i1 (by omega) hrec
  rcases c with ⟨rfl, x, es2, y, rfl, R, l2, d2⟩ | ⟨x, rfl, gv⟩
  · rw [seq_nx ec]
    rcases p3 with rfl | rfl
    · have t := Dv.tupL l2 d2
      refine ⟨(.rt (.tup es2), [some (.ref lb), some (.tup es), some (.int k), some x, some (.int i), y], s2), ret_ok ?_, .tup es2, rfl, R.pre, .inl ⟨t.1.pure, t.1⟩⟩
      have isi : isiD [.tup es, .ty "tuple"] s2 = some (.bl true, s2) := rfl
      simp only [e_ifx, e_tst, e_call, e_cons, e_V, e_C, e_nil, List.getElem?_cons_zero, List.getElem?_cons_succ, Option.bind_some, isi, e_asB, if_true, R.tuple]
    · refine ⟨(.rt x, [some (.ref lb), some (.lst es), some (.int k), some x, some (.int i), y], s2), ret_ok ?_, x, rfl, R.gv l2 d2⟩
      have isi : isiD [.lst es, .ty "tuple"] s2 = some (.bl false, s2) := rfl
      simp only [e_ifx, e_tst, e_call, e_cons, e_V, e_C, e_nil, List.getElem?_cons_zero, List.getElem?_cons_succ, Option.bind_some, isi, e_asB, Bool.false_eq_true, if_false]
  · refine ⟨(.rt x, ρ2, s2), ?_, x, rfl, gv⟩
    rw [e_seq, ec]
    rfl
theorem spoilt_of {fu : Nat} (hg : g ≤ 6) (b : Bg lb st) (h : Dv g n d)
    (main : ∀ {k : Int} {s1 : Sto}, 0 ≤ k → Go lb st s1 → ∃ c, condA [some (.ref lb), some d, some (.int k), none, none, none] s1 = some (c, s1) ∧ (c = true → Ok (bodyA (fn__law_spoilt fu) [some (.ref lb), some d, some (.int k), none, none, none] s1) fun p => ∃ x, p.1 = .rt x ∧ Gv lb st (Dv (g + 1) (n + 4)) x p.2.2)) :
    Ok (fn__law_spoilt (fu + 1) [.ref lb, d] st) fun p => Dv (g + 1) (n + 4) p.1 ∧ Go lb st p.2 := by
  show Ok (sealFn (runD 6 (sb__law_spoilt (fn__law_spoilt fu))) [.ref lb, d] st) _
  refine seal_gv ?_
  obtain ⟨⟨x1, s1⟩, q1, ⟨k, rfl, k0, k1⟩, g1⟩ := take_spec (m := 9) (by decide) (by decide) b
  obtain ⟨c, hc, hb⟩ := main k0 g1
  have fin : Ok (sSeq (sIf condA (bodyA (fn__law_spoilt fu)) sNext) restA [some (.ref lb), some d, some (.int k), none, none, none] s1) fun p => ∃ x, p.1 = .rt x ∧ Gv lb st (Dv (g + 1) (n + 4)) x p.2.2 := by
    cases c with
    | true =>
      obtain ⟨⟨f, ρ2, s2⟩, e, x, rfl, r⟩ := hb rfl
      refine ⟨(.rt x, ρ2, s2), ?_, x, rfl, r⟩
      rw [e_seq, e_if, hc]
      simp only [Option.bind_some, if_true, e]
    | false =>
      obtain ⟨⟨f, ρ2, s2⟩, e, x, rfl, r1, r2⟩ := rest_ok b g1 h hg k0 (by omega)
      refine ⟨(.rt x, ρ2, s2), ?_, x, rfl, ⟨s2, [], (List.append_nil _).symm, r2⟩, .inl ⟨r1.pure, r1⟩⟩
      rw [seq_nx (ρ1 := [some (.ref lb), some d, some (.int k), none, none, none]) (st1 := s1) (by rw [e_if, hc]; simp only [Option.bind_some, Bool.false_eq_true, if_false, e_next])]
      exact e
  obtain ⟨⟨f, ρ2, s2⟩, e, x, rfl, r⟩ := fin
  refine ⟨(x, s2), ?_, r⟩
  rw [spoilt_form, e_run]
  simp only [List.map_cons, List.map_nil, List.length_cons, List.length_nil, List.replicate, List.cons_append, List.nil_append]
  rw [seq_nx (ρ1 := [some (.ref lb), some d, some (.int k), none, none, none]) (st1 := s1) (set_ok (fn_ok (ds := [.ref lb, .int 9]) (st1 := st) rfl rfl q1)), e]
  rfl
theorem Dv.isT {ρ : Rho} (h : Dv g n d) (hr : ρ[1]? = some (some d)) : fTst (fIsiT ["tuple", "list"] (fV 1)) ρ s = some ((partsOf d).isSome, s) := by
  have t : (tyN d s).bind (fun t => kits t ["tuple", "list"]) = some (partsOf d).isSome := by
    cases d with
    | non => rfl
    | bl b => rfl
    | int i => rfl
    | str x => rfl
    | tup ds => rfl
    | lst ds => rfl
    | _ => cases n <;> simp [Dv] at h
  obtain ⟨u, t1, t2⟩ := Option.bind_eq_some_iff.mp t
  simp only [e_tst, e_isiT, e_V, hr, Option.bind_some, t1, t2, e_asB]
theorem cond_no {k : Int} (h : Dv g n d) (hp : partsOf d = none) : condA [some (.ref lb), some d, some (.int k), none, none, none] s = some (false, s) := by
  unfold condA
  rw [e_tand, h.isT rfl, hp]
  rfl
theorem cond_yes {k : Int} {es : List D} (h : Dv g n d) (hp : partsOf d = some es) : condA [some (.ref lb), some d, some (.int k), none, none, none] s = some (decide (0 < es.length) && decide (0 < k), s) := by
  obtain ⟨p1, p2, p3⟩ := parts_seq (s := s) hp
  have c : decide ((0 : Int) < (es.length : Int)) = decide (0 < es.length) := by
    by_cases z : 0 < es.length <;> simp [z] <;> omega
  unfold condA
  rw [e_tand, h.isT rfl, hp]
  simp only [Option.isSome_some, Option.bind_some, if_true, e_tand, e_tst, e_op, e_call, e_cons, e_V, e_C, e_nil, List.getElem?_cons_zero, List.getElem?_cons_succ, p2, e_gtI, e_asB, c]
  cases decide (0 < es.length) <;> rfl
theorem spoilt_spec : ∀ (n fu : Nat), n < fu → ∀ (g : Nat) (st : Sto) (d : D), g ≤ 6 → Bg lb st → Dv g n d → Ok (fn__law_spoilt fu [.ref lb, d] st) fun p => Dv (g + 1) (n + 4) p.1 ∧ Go lb st p.2 := by
  intro n
  induction n with
  | zero =>
    intro fu hf g st d hg b h
    obtain ⟨fu, rfl⟩ : ∃ j, fu = j + 1 := ⟨fu - 1, by omega⟩
    have nt : partsOf d = none := by
      cases d with
      | tup ds => simp [Dv] at h
      | lst ds => simp [Dv] at h
      | _ => rfl
    refine spoilt_of hg b h fun {k s1} k0 g1 => ⟨false, cond_no h nt, fun z => by cases z⟩
  | succ n ih =>
    intro fu hf g st d hg b h
    obtain ⟨fu, rfl⟩ : ∃ j, fu = j + 1 := ⟨fu - 1, by omega⟩
    cases hp : partsOf d with
    | none => exact spoilt_of hg b h fun {k s1} k0 g1 => ⟨false, cond_no h hp, fun z => by cases z⟩
    | some es =>
      have hes : es.length ≤ 20 + g ∧ ∀ e ∈ es, Dv g n e := by
        cases d with
        | tup ds => cases hp; simpa only [Dv] using h
        | lst ds => cases hp; simpa only [Dv] using h
        | _ => cases hp
      refine spoilt_of hg b h fun {k s1} k0 g1 => ⟨_, cond_yes h hp, fun z => ?_⟩
      simp only [Bool.and_eq_true, decide_eq_true_eq] at z
      exact bodyA_ok b g1 hp hes.1 z.1 (by omega) hes.2 fun s e bs he => ih fu (by omega) g s e hg bs he
end
end EL

set_option Elab.async false
set_option linter.all false
set_option maxRecDepth 100000
set_option maxHeartbeats 1000000
/-! small data may be compared; the bag; the names; lists that are drawn -/
namespace EL
open PySem PySem.Spec PyProof.Rows L2 GxR LG FW
section
variable {lb : Nat} {st s : Sto} {d : D} {g n : Nat}
theorem SO.ok {B : Nat} {x : Str} (h : SO B x) : PyData.strOk x = true := by
  simp only [PyData.strOk, Array.all_eq_true, decide_eq_true_eq]
  intro i hi
  have := h.2 x.cps[i] (by simp)
  exact Nat.lt_trans this (by decide)
theorem okBs_of {m : Nat} : ∀ {ds : List D}, (∀ d ∈ ds, okB m d = true) → okBs m ds = true
  | [], _ => by unfold okBs; rfl
  | d :: ds, h => by
    unfold okBs
    rw [h d List.mem_cons_self, okBs_of fun x hx => h x (List.mem_cons_of_mem _ hx)]
    rfl
theorem Dv.ok (h : Dv g n d) : okB n d = true := by
  induction n generalizing d with
  | zero =>
    cases d with
    | str x => simp only [Dv] at h; unfold okB; exact h.ok
    | _ => first | (unfold okB; rfl) | (simp [Dv] at h)
  | succ n ih =>
    cases d with
    | str x => simp only [Dv] at h; unfold okB; exact h.ok
    | tup ds => simp only [Dv] at h; unfold okB; exact okBs_of fun x hx => ih (h.2 x hx)
    | lst ds => simp only [Dv] at h; unfold okB; exact okBs_of fun x hx => ih (h.2 x hx)
    | _ => first | (unfold okB; rfl) | (simp [Dv] at h)
theorem Dv.th (h : Dv g n d) (hg : g ≤ 40) (hn : n ≤ 50) : Th d := by
  refine ⟨(h.up (Nat.le_refl _) hn).ok, fun ds e => ?_⟩
  subst e
  cases n with
  | zero => simp [Dv] at h
  | succ n => simp only [Dv] at h; omega
theorem log2_mid {i : Int} (h0 : 0 ≤ i) (h1 : i < 1000000000000000000) : i.natAbs.log2 < 64 := by
  by_cases hz : i.natAbs = 0
  · rw [hz]; decide
  · exact (Nat.log2_lt hz).mpr (by omega)
theorem bag_new {x y : Int} (hx : 0 ≤ x) (hy : 0 ≤ y) (hz : y < 2147483648) : Bg st.length (st ++ [.lst [.int x, .int y]]) := ⟨x, y, at_new, hx, hy, hz⟩
theorem bag_spec {k : Int} {ns : List Int} (k0 : 0 ≤ k) (k1 : k ≤ 63) : Ok (fn__law_bag [.scr ns, .int k] st) fun p => p.1 = .ref st.length ∧ ∃ o, p.2 = st ++ [o] ∧ Bg st.length p.2 := by
  unfold fn__law_bag sb__law_bag
  have tl : ∀ {c : Int}, 0 ≤ c → Ok (sSeq (sIf (fTst (fOp ltD (fV 2) (fOp powD (fC (.int 10)) (fC (.int 18))))) (sRet (fLst (fCons (fC (.int 0)) (fCons (fOp addD (fC (.int 1)) (fOp modD (fOp addD (fOp mulD (fV 2) (fC (.int 7919))) (fOp mulD (fC (.int 104729)) (fV 1))) (fC (.int 2147483646)))) fNil)))) sNext)
    (sRet (fLst (fCons (fV 2) (fCons (fOp addD (fC (.int 1)) (fOp modD (fOp addD (fV 2) (fV 1)) (fC (.int 2147483646)))) fNil)))) [some (.scr ns), some (.int k), some (.int c)] st) fun p => ∃ x, p.1 = .rt x ∧ (x = .ref st.length ∧ ∃ o, p.2.2 = st ++ [o] ∧ Bg st.length p.2.2) := fun {c} hc => by
    have l2 : (2 : Nat) ≤ sizeLine := by rw [sizeLine_eq]; decide
    by_cases hs : c < 1000000000000000000
    · have q := log2_mid hc hs
      have w1 : Nat.log2 7919 < 64 := by decide
      have w2 : Nat.log2 104729 < 64 := by decide
      have w3 := log2_small (i := k) k0 (by omega)
      have m1 : c.natAbs.log2 + Nat.log2 7919 < 1000000 := by omega
      have m2 : Nat.log2 104729 + k.natAbs.log2 < 1000000 := by omega
      have r1 := Int.emod_nonneg (c * 7919 + 104729 * k) (show (2147483646 : Int) ≠ 0 by decide)
      have r2 := Int.emod_lt_of_pos (c * 7919 + 104729 * k) (show (0 : Int) < 2147483646 by decide)
      refine ⟨(.rt (.ref st.length), [some (.scr ns), some (.int k), some (.int c)], st ++ [.lst [.int 0, .int (1 + (c * 7919 + 104729 * k) % 2147483646)]]), ?_, _, rfl, rfl, _, rfl, bag_new (by decide) (by omega) (by omega)⟩
      simp [hs, m1, m2, l2]
    · have r1 := Int.emod_nonneg (c + k) (show (2147483646 : Int) ≠ 0 by decide)
      have r2 := Int.emod_lt_of_pos (c + k) (show (0 : Int) < 2147483646 by decide)
      refine ⟨(.rt (.ref st.length), [some (.scr ns), some (.int k), some (.int c)], st ++ [.lst [.int c, .int (1 + (c + k) % 2147483646)]]), ?_, _, rfl, rfl, _, rfl, bag_new hc (by omega) (by omega)⟩
      simp [hs, l2]
  refine ok_run ?_
  have ls : lenD [.scr ns] st = some (.int ns.length, st) := rfl
  by_cases hk : k < ns.length
  · obtain ⟨z, a1, _, _⟩ := atI_lt (l := ns) k0 hk
    have ix : ixD (.scr ns) (.int k) st = some (.int z, st) := by
      show Option.map _ (atI ns k) = _
      rw [a1]; rfl
    refine Ok.eq (tl (c := if z < 0 then -z else z) (by split <;> omega)) ?_
    have ab : absD [.int z] st = some (.int (if z < 0 then -z else z), st) := rfl
    generalize (if z < 0 then -z else z) = c at ab
    simp only [List.map_cons, List.map_nil, List.length_cons, List.length_nil, List.cons_append, List.nil_append]
    rw [seq_nx (ρ1 := [some (.scr ns), some (.int k), some (.int 0)]) (st1 := st) rfl, seq_nx (ρ1 := [some (.scr ns), some (.int k), some (.int c)]) (st1 := st) (by simp [ls, hk, ix, ab])]
  · refine Ok.eq (tl (c := 0) (by decide)) ?_
    simp only [List.map_cons, List.map_nil, List.length_cons, List.length_nil, List.cons_append, List.nil_append]
    rw [seq_nx (ρ1 := [some (.scr ns), some (.int k), some (.int 0)]) (st1 := st) rfl, seq_nx (ρ1 := [some (.scr ns), some (.int k), some (.int 0)]) (st1 := st) (by simp [ls, hk])]
def nmD (a : Air) : List D := a.ss.map fun o => .str o.nm
theorem nmD_mem {a : Air} (h : a.Ok) (hd : d ∈ nmD a) : ∃ x, d = .str x ∧ x ∈ nms := by
  obtain ⟨o, ho, rfl⟩ := List.mem_map.mp hd
  exact ⟨_, rfl, (h.ss.all o ho).nm⟩
theorem nmD_len {a : Air} (h : a.Ok) : (nmD a).length ≤ 8 := by unfold nmD; rw [List.length_map]; exact h.ss.len.2
theorem names_eq {a : Air} (h : a.Ok) : fn__law_names [a.d] st = some (.lst (nmD a), st) := by
  unfold fn__law_names
  refine seal_same ?_ (by show pureL _ = true; exact pureL_map (fun _ => rfl) _)
  refine run_ok (ρ' := [some a.d, none]) (ret_ok ?_)
  simp only [List.map_cons, List.map_nil, List.length_cons, List.length_nil, List.replicate, List.cons_append, List.nil_append]
  refine lcz_ok (items := a.ss.map Stn.d) (src := []) (st1 := st) rfl ?_ (by have := nmD_len h; omega)
  have := lcE (tg := .one 1) (tt := fYes) (fe := fOp ixD (fV 1) (fC (.int 0))) (src := []) (ρ := [some a.d, none]) (st := st) (enc := Stn.d) (b := fun _ => true) (w := fun o : Stn => D.str o.nm) (l := a.ss) Intact.nil fun o ho => ⟨[some a.d, some o.d], rfl, rfl, fun _ => rfl⟩
  have w : wipeD [some a.d, none] [1] = [some a.d, none] := rfl
  have f : ∀ l : List Stn, l.filter (fun _ => true) = l := fun l => List.filter_eq_self.mpr fun _ _ => rfl
  rw [f] at this
  rw [w]
  exact this
theorem bS_nms : ∀ x ∈ nms, bS x = true := by decide +kernel
theorem nm_dv {x : Str} (h : x ∈ nms) (g n : Nat) : Dv g n (.str x) := Dv.up (Dv.by (n := 0) (by unfold dvB; exact bS_nms x h)) (Nat.zero_le _) (Nat.zero_le _)
theorem lcz_draw {tg : Tg} {tt : FT} {fe : FE} {ρ : Rho} : ∀ {items : List D}, (∀ d ∈ items, ∃ ρ1, tgD tg d ρ = some ρ1 ∧ (∀ st, Bg lb st → Ok (tt ρ1 st) fun p => Go lb st p.2) ∧ ∀ s, fe ρ1 s = some (d, s)) → ∀ st, Bg lb st → Ok (lcZ tg tt fe [] ρ items st) fun p => p.1.Sublist items ∧ Go lb st p.2
  | [], _, st, b => ⟨([], st), by unfold lcZ; rw [if_pos Intact.nil], .slnil, .refl b⟩
  | d :: ds, h, st, b => by
    obtain ⟨ρ1, e1, e2, e3⟩ := h d List.mem_cons_self
    obtain ⟨⟨c, s1⟩, e4, g1⟩ := e2 st b
    obtain ⟨⟨r, s2⟩, e5, sl, g2⟩ := lcz_draw (items := ds) (fun x hx => h x (List.mem_cons_of_mem _ hx)) s1 (g1.bg b.lt)
    unfold lcZ
    rw [if_pos Intact.nil, e1]
    simp only [Option.bind_some, e4]
    cases c with
    | true => exact ⟨(d :: r, s2), by simp only [if_true, e3, Option.bind_some, e5], sl.cons₂ d, g1.trans g2⟩
    | false => exact ⟨(r, s2), by simp only [Bool.false_eq_true, if_false, e5], sl.cons d, g1.trans g2⟩
end
end EL

set_option Elab.async false
set_option linter.all false
set_option maxRecDepth 100000
set_option maxHeartbeats 1000000
/-! fractions in lowest terms -/
namespace EL
open PySem PySem.Spec PyProof.Rows L2 GxR LG FW
section
variable {st : Sto}
def fr (t b : Int) : Int × Int := (t / (Int.gcd t b : Int), b / (Int.gcd t b : Int))
def frD (p : Int × Int) : D := .tup [.int p.1, .int p.2]
noncomputable def euT : FT := fTst (fOp neD (fV 1) (fC (.int 0)))
noncomputable def euB : FS := sPar [0, 1] (fCons (fV 1) (fCons (fOp modD (fV 0) (fV 1)) fNil))
theorem eu_stop {fu x : Nat} : whileD euT euB (fu + 1) [some (.int (x : Nat)), some (.int ((0 : Nat) : Int))] st = some (.nx, [some (.int (x : Nat)), some (.int ((0 : Nat) : Int))], st) := by
  have t : euT [some (.int (x : Nat)), some (.int ((0 : Nat) : Int))] st = some (false, st) := by simp [euT]
  show Option.bind (euT _ st) _ = _
  rw [t]
  rfl
theorem eu_step {fu x y : Nat} (hy : y ≠ 0) : whileD euT euB (fu + 1) [some (.int (x : Nat)), some (.int (y : Nat))] st = whileD euT euB fu [some (.int (y : Nat)), some (.int ((x % y : Nat) : Int))] st := by
  have t : euT [some (.int (x : Nat)), some (.int (y : Nat))] st = some (true, st) := by simp [euT, hy]
  have b : euB [some (.int (x : Nat)), some (.int (y : Nat))] st = some (.nx, [some (.int (y : Nat)), some (.int ((x % y : Nat) : Int))], st) := by
    have h0 : 0 < y := by omega
    simp [euB, setM, h0]
  show Option.bind (euT _ st) _ = _
  rw [t]
  simp only [Option.bind_some, if_true, b]
theorem euclid : ∀ (n x y fu : Nat), y < 2 ^ n → 2 * n + 1 ≤ fu → whileD euT euB fu [some (.int (x : Nat)), some (.int (y : Nat))] st = some (.nx, [some (.int ((Nat.gcd x y : Nat) : Int)), some (.int ((0 : Nat) : Int))], st) := by
  intro n
  induction n with
  | zero =>
    intro x y fu hy hf
    have : y = 0 := by simpa using hy
    subst this
    obtain ⟨f, rfl⟩ : ∃ f, fu = f + 1 := ⟨fu - 1, by omega⟩
    rw [eu_stop, Nat.gcd_zero_right]
  | succ n ih =>
    intro x y fu hy hf
    obtain ⟨f, rfl⟩ : ∃ f, fu = f + 1 + 1 := ⟨fu - 2, by omega⟩
    by_cases h0 : y = 0
    · subst h0; rw [eu_stop, Nat.gcd_zero_right]
    · rw [eu_step h0]
      have g1 : Nat.gcd x y = Nat.gcd y (x % y) := by rw [Nat.gcd_comm x y, Nat.gcd_rec y x, Nat.gcd_comm]
      by_cases h1 : x % y = 0
      · rw [h1, eu_stop, g1, h1, Nat.gcd_zero_right]
      · rw [eu_step h1]
        have r1 := Nat.mod_lt x (Nat.pos_of_ne_zero h0)
        have r2 := Nat.mod_lt y (Nat.pos_of_ne_zero h1)
        have r3 : y % (x % y) + x % y ≤ y := by
          have e := Nat.div_add_mod y (x % y)
          have q : 1 ≤ y / (x % y) := Nat.div_pos (Nat.le_of_lt r1) (Nat.pos_of_ne_zero h1)
          have m := Nat.mul_le_mul_left (x % y) q
          omega
        have g2 : Nat.gcd y (x % y) = Nat.gcd (x % y) (y % (x % y)) := by rw [Nat.gcd_comm y (x % y), Nat.gcd_rec (x % y) y, Nat.gcd_comm]
        rw [ih _ _ _ (by rw [Nat.pow_succ] at hy; omega) (by omega), g1, g2]
theorem divisor_eq {t b : Int} (ht : 0 ≤ t) (hb : 0 ≤ b) (hz : Bt 900 b) : fn_common_divisor [.int t, .int b] st = some (.int (Int.gcd t b : Int), st) := by
  unfold fn_common_divisor
  refine seal_same ?_ rfl
  obtain ⟨x, rfl⟩ := Int.eq_ofNat_of_zero_le ht
  obtain ⟨y, rfl⟩ := Int.eq_ofNat_of_zero_le hb
  have e := euclid (st := st) 900 x y 4000 (by unfold Bt at hz; simpa using hz) (by decide)
  refine run_ok (ρ' := [some (.int ((Nat.gcd x y : Nat) : Int)), some (.int ((0 : Nat) : Int))]) ?_
  simp only [List.map_cons, List.map_nil, List.length_cons, List.length_nil, List.replicate, List.cons_append, List.nil_append, Nat.zero_add, Nat.sub_self, List.append_nil]
  show sSeq (sWhile 4000 euT euB) (sRet (fV 0)) _ st = _
  rw [seq_nx (ρ1 := [some (.int ((Nat.gcd x y : Nat) : Int)), some (.int ((0 : Nat) : Int))]) (st1 := st) (show sWhile 4000 euT euB _ st = _ from e)]
  rfl
theorem gcd_pos' {t b : Int} (hb : 0 < b) : (0 : Int) < (Int.gcd t b : Int) := by
  have : Int.gcd t b ≠ 0 := fun z => by
    have := (Int.gcd_eq_zero_iff.mp z).2
    omega
  omega
theorem gcd_le' {t b : Int} (hb : 0 < b) : (Int.gcd t b : Int) ≤ b := Int.le_of_dvd hb (Int.gcd_dvd_right t b)
theorem fraction_eq {t b : Int} (ht : 0 ≤ t) (hb : 0 < b) (hz : Bt 900 b) : fn_fraction [.int t, .int b] st = some (frD (fr t b), st) := by
  unfold fn_fraction
  refine seal_same ?_ rfl
  have g0 := gcd_pos' (t := t) hb
  have g1 := gcd_le' (t := t) hb
  have gz : Bt 900 (Int.gcd t b : Int) := by unfold Bt at hz ⊢; omega
  have d1 : fdivD (.int t) (.int (Int.gcd t b : Int)) st = some (.int (t / (Int.gcd t b : Int)), st) := fdiv_ok g0 gz
  have d2 : fdivD (.int b) (.int (Int.gcd t b : Int)) st = some (.int (b / (Int.gcd t b : Int)), st) := fdiv_ok g0 gz
  have q := divisor_eq (st := st) ht (Int.le_of_lt hb) hz
  unfold fr frD
  generalize (Int.gcd t b : Int) = g at g0 d1 d2 q
  refine run_ok (ρ' := [some (.int t), some (.int b), some (.int g)]) ?_
  simp only [List.map_cons, List.map_nil, List.length_cons, List.length_nil, List.replicate, List.cons_append, List.nil_append]
  unfold sb_fraction
  rw [seq_nx (ρ1 := [some (.int t), some (.int b), some (.int g)]) (st1 := st) (set_ok (fn_ok (ds := [.int t, .int b]) (st1 := st) rfl rfl q))]
  have ng : ¬ g = 0 := by omega
  rw [seq_nx (ρ1 := [some (.int t), some (.int b), some (.int g)]) (st1 := st) (by simp [ng])]
  refine ret_ok ?_
  simp only [e_tup, e_cons, e_op, e_V, e_nil, List.getElem?_cons_zero, List.getElem?_cons_succ, Option.bind_some, d1, d2]
  rfl
theorem fr_cross {t b : Int} (hb : 0 < b) : (fr t b).1 * b = t * (fr t b).2 := by
  unfold fr
  obtain ⟨x, hx⟩ := Int.gcd_dvd_left t b
  obtain ⟨y, hy⟩ := Int.gcd_dvd_right t b
  have g0 := gcd_pos' (t := t) hb
  generalize (Int.gcd t b : Int) = g at *
  rw [hx, hy, Int.mul_ediv_cancel_left x (by omega), Int.mul_ediv_cancel_left y (by omega)]
  grind
theorem fr_le {t b : Int} (ht : 0 ≤ t) (hb : 0 < b) : 0 ≤ (fr t b).1 ∧ (fr t b).1 ≤ t ∧ 0 < (fr t b).2 ∧ (fr t b).2 ≤ b ∧ (0 < t → 0 < (fr t b).1) := by
  unfold fr
  obtain ⟨x, hx⟩ := Int.gcd_dvd_left t b
  obtain ⟨y, hy⟩ := Int.gcd_dvd_right t b
  have g0 := gcd_pos' (t := t) hb
  generalize (Int.gcd t b : Int) = g at *
  subst hx; subst hy
  simp only [Int.mul_ediv_cancel_left x (show g ≠ 0 by omega), Int.mul_ediv_cancel_left y (show g ≠ 0 by omega)]
  have x0 : 0 ≤ x := Int.nonneg_of_mul_nonneg_right ht g0
  have y0 : 0 < y := Int.pos_of_mul_pos_right hb g0
  have x1 : x * 1 ≤ x * g := Int.mul_le_mul_of_nonneg_left (by omega) x0
  have y1 : y * 1 ≤ y * g := Int.mul_le_mul_of_nonneg_left (by omega) (Int.le_of_lt y0)
  refine ⟨x0, by rw [Int.mul_comm g x]; omega, y0, by rw [Int.mul_comm g y]; omega, fun z => ?_⟩
  exact Int.pos_of_mul_pos_right z g0
/-! the sum of fractions -/
def totL (p : Int × Int) (ps : List (Int × Int)) : Int × Int := ps.foldl (fun a q => fr (a.1 * q.2 + q.1 * a.2) (a.2 * q.2)) p
def Fr (q : Int × Int) : Prop := 0 < q.1 ∧ q.1 ≤ 2 ^ 40 ∧ 0 < q.2 ∧ q.2 ≤ 2 ^ 40
def Tb (k : Nat) (p : Int × Int) : Prop := 0 ≤ p.1 ∧ p.1 ≤ 2 ^ (41 * k) ∧ 0 < p.2 ∧ p.2 ≤ 2 ^ (41 * k)
theorem tb_step {k : Nat} {p q : Int × Int} (h : Tb k p) (hq : Fr q) : 0 < p.1 * q.2 + q.1 * p.2 ∧ p.1 * q.2 + q.1 * p.2 ≤ 2 ^ (41 * (k + 1)) ∧ 0 < p.2 * q.2 ∧ p.2 * q.2 ≤ 2 ^ (41 * (k + 1)) := by
  obtain ⟨a1, a2, a3, a4⟩ := h
  obtain ⟨b1, b2, b3, b4⟩ := hq
  have e : (2 : Int) ^ (41 * (k + 1)) = 2 ^ (41 * k) * 2 ^ 40 + 2 ^ (41 * k) * 2 ^ 40 := by
    rw [show 41 * (k + 1) = 41 * k + 40 + 1 by omega, Int.pow_succ, Int.pow_add]
    omega
  have p0 : (0 : Int) < 2 ^ (41 * k) := Int.pow_pos (by decide)
  generalize (2 : Int) ^ (41 * k) = A at *
  generalize hB : (2 : Int) ^ 40 = B at *
  have m1 : p.1 * q.2 ≤ A * B := Int.mul_le_mul a2 b4 (Int.le_of_lt b3) (by omega)
  have m2 : q.1 * p.2 ≤ B * A := Int.mul_le_mul b2 a4 (Int.le_of_lt a3) (by omega)
  have m3 : p.2 * q.2 ≤ A * B := Int.mul_le_mul a4 b4 (Int.le_of_lt b3) (by omega)
  have m4 : 0 ≤ p.1 * q.2 := Int.mul_nonneg a1 (Int.le_of_lt b3)
  have m5 : 0 < q.1 * p.2 := Int.mul_pos b1 a3
  have m6 : 0 < p.2 * q.2 := Int.mul_pos a3 b3
  rw [Int.mul_comm B A] at m2
  rw [e]
  exact ⟨by omega, by omega, m6, by omega⟩
theorem tb_next {k : Nat} {p q : Int × Int} (h : Tb k p) (hq : Fr q) : Tb (k + 1) (fr (p.1 * q.2 + q.1 * p.2) (p.2 * q.2)) ∧ 0 < (fr (p.1 * q.2 + q.1 * p.2) (p.2 * q.2)).1 := by
  obtain ⟨s1, s2, s3, s4⟩ := tb_step h hq
  obtain ⟨f1, f2, f3, f4, f5⟩ := fr_le (Int.le_of_lt s1) s3
  exact ⟨⟨f1, Int.le_trans f2 s2, f3, Int.le_trans f4 s4⟩, f5 s1⟩
theorem bt_of {n : Nat} {x : Int} (h0 : 0 ≤ x) (h : x ≤ 2 ^ n) : Bt (n + 1) x := by
  unfold Bt
  obtain ⟨y, rfl⟩ := Int.eq_ofNat_of_zero_le h0
  have h : (y : Int) ≤ ((2 ^ n : Nat) : Int) := by rw [Int.natCast_pow]; exact h
  have h : y ≤ 2 ^ n := Int.ofNat_le.mp h
  have : 0 < 2 ^ n := Nat.pow_pos (by decide)
  rw [Nat.pow_succ, Int.natAbs_natCast]
  omega
theorem tot_tb : ∀ {ps : List (Int × Int)} {k : Nat} {p : Int × Int}, Tb k p → (∀ q ∈ ps, Fr q) → Tb (k + ps.length) (totL p ps) ∧ (0 < p.1 ∨ ps ≠ [] → 0 < (totL p ps).1)
  | [], k, p, h, _ => ⟨h, fun z => z.resolve_right fun q => q rfl⟩
  | q :: ps, k, p, h, hp => by
    obtain ⟨t1, t2⟩ := tb_next h (hp q List.mem_cons_self)
    have ih := tot_tb t1 fun x hx => hp x (List.mem_cons_of_mem _ hx)
    refine ⟨by have := ih.1; rw [List.length_cons]; rw [show k + (ps.length + 1) = k + 1 + ps.length by omega]; exact this, fun _ => ih.2 (.inl t2)⟩
end
end EL

set_option Elab.async false
set_option linter.all false
set_option maxRecDepth 100000
set_option maxHeartbeats 1000000
/-! who disturbs whom, and the margin, as plain numbers -/
namespace EL
open PySem PySem.Spec PyProof.Rows L2 GxR LG FW
section
variable {st : Sto}
theorem op_ok {h : D → D → Sto → Option (D × Sto)} {fa fb : FE} {ρ : Rho} {d e : D} {st1 st2 : Sto} {z : D × Sto} (h1 : fa ρ st = some (d, st1)) (h2 : fb ρ st1 = some (e, st2)) (h3 : h d e st2 = some z) : fOp h fa fb ρ st = some z := by
  rw [e_op, h1]
  simp only [Option.bind_some, h2, h3]
theorem for_at {fi : FI} {tg : Tg} {b : FS} {ρ : Rho} {items : List D} {src : Src} {st1 : Sto} {z : Fl × Rho × Sto} (h1 : fi ρ st = some (items, src, st1)) (h2 : forD tg b src items ρ st1 = some z) : sFor fi tg b ρ st = some z := by
  unfold sFor
  rw [h1]
  exact h2
noncomputable def bodyTt : FS := sUnp (.many [1, 2]) (fFn 2 fn_fraction (fCons (fOp addD (fOp mulD (fV 1) (fV 4)) (fOp mulD (fV 3) (fV 2))) (fCons (fOp mulD (fV 2) (fV 4)) fNil)))
theorem Tb.bt {k : Nat} {p : Int × Int} (h : Tb k p) (hk : k ≤ 9) : Bt 400 p.1 ∧ Bt 400 p.2 :=
  ⟨(bt_of h.1 h.2.1).up (by omega), (bt_of (Int.le_of_lt h.2.2.1) h.2.2.2).up (by omega)⟩
theorem Fr.bt {q : Int × Int} (h : Fr q) : Bt 41 q.1 ∧ Bt 41 q.2 := ⟨bt_of (Int.le_of_lt h.1) h.2.1, bt_of (Int.le_of_lt h.2.2.1) h.2.2.2⟩
theorem tot_loop {L : D} : ∀ {ps : List (Int × Int)} {k : Nat} {p : Int × Int} {x3 x4 : Option D}, Tb k p → k + ps.length ≤ 9 → (∀ q ∈ ps, Fr q) →
    ∃ y3 y4, forD (.many [3, 4]) bodyTt [] (ps.map frD) [some L, some (.int p.1), some (.int p.2), x3, x4] st = some (.nx, [some L, some (.int (totL p ps).1), some (.int (totL p ps).2), y3, y4], st)
  | [], k, p, x3, x4, _, _, _ => ⟨x3, x4, by unfold forD; simp only [List.map_nil]; rw [if_pos Intact.nil]; rfl⟩
  | q :: ps, k, p, x3, x4, h, hk, hp => by
    rw [List.length_cons] at hk
    have hq := hp q List.mem_cons_self
    obtain ⟨b1, b2⟩ := h.bt (by omega)
    obtain ⟨c1, c2⟩ := hq.bt
    obtain ⟨s1, s2, s3, s4⟩ := tb_step h hq
    obtain ⟨y3, y4, e⟩ := tot_loop (L := L) (ps := ps) (x3 := some (.int q.1)) (x4 := some (.int q.2)) (tb_next h hq).1 (by omega) fun x hx => hp x (List.mem_cons_of_mem _ hx)
    refine ⟨y3, y4, ?_⟩
    have f := fraction_eq (st := st) (Int.le_of_lt s1) s3 ((bt_of (Int.le_of_lt s3) s4).up (by omega))
    have tl : totL p (q :: ps) = totL (fr (p.1 * q.2 + q.1 * p.2) (p.2 * q.2)) ps := rfl
    rw [tl]
    generalize fr (p.1 * q.2 + q.1 * p.2) (p.2 * q.2) = u at e f
    have b : bodyTt [some L, some (.int p.1), some (.int p.2), some (.int q.1), some (.int q.2)] st = some (.nx, [some L, some (.int u.1), some (.int u.2), some (.int q.1), some (.int q.2)], st) := by
      unfold bodyTt
      rw [e_unp, fn_ok (n := 2) (ds := [.int (p.1 * q.2 + q.1 * p.2), .int (p.2 * q.2)]) (st1 := st) (by
        simp only [e_cons, e_op, e_V, e_nil, List.getElem?_cons_zero, List.getElem?_cons_succ, Option.bind_some, mul_ok b1 c2, mul_ok c1 b2, mul_ok b2 c2, e_addI]) rfl f]
      rfl
    simp only [List.map_cons]
    unfold forD
    rw [if_pos Intact.nil]
    show Option.bind (tgD (.many [3, 4]) (.tup [.int q.1, .int q.2]) _) _ = _
    simp only [tgD, setM, List.length_cons, List.length_nil, if_true, Option.bind_some, List.set_cons_succ, List.set_cons_zero, b]
    exact e
theorem tb0 : Tb 0 (0, 1) := ⟨by decide, by decide, by decide, by decide⟩
theorem total_eq {ps : List (Int × Int)} (hl : ps.length ≤ 8) (hp : ∀ q ∈ ps, Fr q) : fn_total [.lst (ps.map frD)] st = some (frD (totL (0, 1) ps), st) := by
  unfold fn_total
  refine seal_same ?_ rfl
  obtain ⟨y3, y4, e⟩ := tot_loop (st := st) (L := .lst (ps.map frD)) (x3 := none) (x4 := none) tb0 (by omega) hp
  refine run_ok (ρ' := [some (.lst (ps.map frD)), some (.int (totL (0, 1) ps).1), some (.int (totL (0, 1) ps).2), y3, y4]) ?_
  simp only [List.map_cons, List.map_nil, List.length_cons, List.length_nil, List.replicate, List.cons_append, List.nil_append]
  show sSeq (sUnp (.many [1, 2]) (fTup (fCons (fC (.int 0)) (fCons (fC (.int 1)) fNil)))) (sSeq (sFor (iSeq (fV 0)) (.many [3, 4]) bodyTt) (sRet (fTup (fCons (fV 1) (fCons (fV 2) fNil))))) _ st = _
  rw [seq_nx (ρ1 := [some (.lst (ps.map frD)), some (.int 0), some (.int 1), none, none]) (st1 := st) (by simp [sizeLine_eq, tgD, setM])]
  generalize totL (0, 1) ps = u at e
  rw [seq_nx (ρ1 := [some (.lst (ps.map frD)), some (.int u.1), some (.int u.2), y3, y4]) (st1 := st) (for_at (items := ps.map frD) (src := []) (st1 := st) rfl e)]
  refine ret_ok ?_
  simp [sizeLine_eq, frD]
/-- the sum over a common bottom -/
def SM (M : Int) (ps : List (Int × Int)) : Int := (ps.map fun q => q.1 * (M / q.2)).sum
theorem tot_val {M : Int} : ∀ {ps : List (Int × Int)} {p : Int × Int}, 0 ≤ p.1 → 0 < p.2 → (∀ q ∈ ps, 0 ≤ q.1 ∧ 0 < q.2 ∧ q.2 ∣ M) → (totL p ps).1 * (p.2 * M) = (totL p ps).2 * (p.1 * M + p.2 * SM M ps)
  | [], p, h0, h, _ => by
    show p.1 * (p.2 * M) = p.2 * (p.1 * M + p.2 * 0)
    grind
  | q :: ps, p, h0, h, hp => by
    obtain ⟨q0, q1, k, hk⟩ := hp q List.mem_cons_self
    have a0 : 0 ≤ p.1 * q.2 + q.1 * p.2 := Int.add_nonneg (Int.mul_nonneg h0 (Int.le_of_lt q1)) (Int.mul_nonneg q0 (Int.le_of_lt h))
    have a1 : 0 < p.2 * q.2 := Int.mul_pos h q1
    obtain ⟨f1, f2, f3, f4, f5⟩ := fr_le a0 a1
    have cr := fr_cross (t := p.1 * q.2 + q.1 * p.2) a1
    have ih := tot_val (M := M) (ps := ps) (p := fr (p.1 * q.2 + q.1 * p.2) (p.2 * q.2)) f1 f3 fun x hx => hp x (List.mem_cons_of_mem _ hx)
    have tl : totL p (q :: ps) = totL (fr (p.1 * q.2 + q.1 * p.2) (p.2 * q.2)) ps := rfl
    have sm : SM M (q :: ps) = q.1 * k + SM M ps := by
      unfold SM
      rw [List.map_cons, List.sum_cons, hk, Int.mul_ediv_cancel_left k (by omega)]
    rw [tl, sm]
    generalize SM M ps = S at ih
    generalize fr (p.1 * q.2 + q.1 * p.2) (p.2 * q.2) = u at *
    generalize totL u ps = T at ih
    have key : (u.2 * q.2) * (T.1 * (p.2 * M)) = (u.2 * q.2) * (T.2 * (p.1 * M + p.2 * (q.1 * k + S))) := by grind
    exact Int.eq_of_mul_eq_mul_left (Int.mul_ne_zero (by omega) (by omega)) key
def arr (s r : Stn) (k : Int) : Int × Int := fr s.pw (spr s r * k)
theorem arr_bd {s r : Stn} (hs : s.Ok) (hr : r.Ok) {k : Int} (k1 : 1 ≤ k) (k2 : k ≤ 1000) : 0 < spr s r * k ∧ spr s r * k ≤ 200000001000 := by
  obtain ⟨p1, p2⟩ := spr_pos hs hr
  have : spr s r * k ≤ 200000001 * 1000 := Int.mul_le_mul p2 k2 (by omega) (by decide)
  exact ⟨Int.mul_pos (by omega) (by omega), by omega⟩
theorem arr_fr {s r : Stn} (hs : s.Ok) (hr : r.Ok) {k : Int} (k1 : 1 ≤ k) (k2 : k ≤ 1000) : Fr (arr s r k) := by
  obtain ⟨b1, b2⟩ := arr_bd hs hr k1 k2
  have := hs.pw
  obtain ⟨f1, f2, f3, f4, f5⟩ := fr_le (t := s.pw) (by omega) b1
  have e : (2 : Int) ^ 40 = 1099511627776 := by decide
  unfold arr
  exact ⟨f5 (by omega), by omega, f3, by omega⟩
theorem arriving_eq {s r : Stn} (hs : s.Ok) (hr : r.Ok) {k : Int} (k1 : 1 ≤ k) (k2 : k ≤ 1000) : fn_arriving [s.d, .tup [.int r.hx, .int r.hy], .int k] st = some (frD (arr s r k), st) := by
  unfold fn_arriving
  refine seal_same ?_ rfl
  obtain ⟨b1, b2⟩ := arr_bd hs hr k1 k2
  obtain ⟨p1, p2⟩ := spr_pos hs hr
  have hp := hs.pw
  have f := fraction_eq (st := st) (t := s.pw) (b := spr s r * k) (by omega) b1 ((bt64 (by omega) (by omega)).up (by decide))
  refine run_ok (ρ' := [some s.d, some (.tup [.int r.hx, .int r.hy]), some (.int k)]) (ret_ok (fn_ok (ds := [.int s.pw, .int (spr s r * k)]) (st1 := st) ?_ rfl f))
  simp only [List.map_cons, List.map_nil, List.length_cons, List.length_nil, List.replicate, List.cons_append, List.nil_append, Nat.zero_add, Nat.sub_self, List.append_nil]
  have x2 : ixD s.d (.int 2) st = some (.int s.pw, st) := rfl
  have x1 : ixD s.d (.int 1) st = some (.tup [.int s.px, .int s.py], st) := rfl
  have m := mul_ok (st := st) (bt64 (x := spr s r) (by omega) (by omega)) (bt64 (x := k) (by omega) (by omega))
  have sp : fFn 2 fn_spread (fCons (fOp ixD (fV 0) (fC (.int 1))) (fCons (fV 1) fNil)) [some s.d, some (.tup [.int r.hx, .int r.hy]), some (.int k)] st = some (.int (spr s r), st) := fn_ok (ds := [.tup [.int s.px, .int s.py], .tup [.int r.hx, .int r.hy]]) (st1 := st) rfl rfl (spread_eq hs hr)
  simp only [e_cons, e_op, e_V, e_C, e_nil, List.getElem?_cons_zero, List.getElem?_cons_succ, Option.bind_some, x2, sp, m]
theorem comes_eq {a : Air} (h : a.Ok) {i j : Nat} {s r : Stn} (es : a.ss[i]? = some s) (er : a.ss[j]? = some r) : fn_comes [ssD a.ss, .str s.nm, .str r.nm] st = some (frD (arr s r 1), st) := by
  unfold fn_comes
  refine seal_same ?_ rfl
  have hs := h.ss.all s (List.mem_of_getElem? es)
  have hr := h.ss.all r (List.mem_of_getElem? er)
  refine run_ok (ρ' := [some (ssD a.ss), some (.str s.nm), some (.str r.nm), some s.d, some r.d]) ?_
  simp only [List.map_cons, List.map_nil, List.length_cons, List.length_nil, List.replicate, List.cons_append, List.nil_append]
  unfold sb_comes
  rw [seq_nx (ρ1 := [some (ssD a.ss), some (.str s.nm), some (.str r.nm), some s.d, none]) (st1 := st) (set_ok (op_ok (d := ssD a.ss) (st1 := st) rfl (fn_ok (ds := [ssD a.ss, .str s.nm]) (st1 := st) rfl rfl (seat_eq h.ss es)) (ss_at es)))]
  rw [seq_nx (ρ1 := [some (ssD a.ss), some (.str s.nm), some (.str r.nm), some s.d, some r.d]) (st1 := st) (set_ok (op_ok (d := ssD a.ss) (st1 := st) rfl (fn_ok (ds := [ssD a.ss, .str r.nm]) (st1 := st) rfl rfl (seat_eq h.ss er)) (ss_at er)))]
  exact ret_ok (fn_ok (ds := [s.d, .tup [.int r.hx, .int r.hy], .int 1]) (st1 := st) rfl rfl (arriving_eq hs hr (by decide) (by decide)))
end
end EL

set_option Elab.async false
set_option linter.all false
set_option maxRecDepth 100000
set_option maxHeartbeats 300000
namespace EL
open PySem PySem.Spec PyProof.Rows L2 GxR LG FW
section
variable {st : Sto}
def divI (a : Air) (g : Int) : Int := if g = 0 then 1 else a.lk
def disB (t : List Int) (i : Nat) (r : Stn) (x : Stn × Nat) : Bool := !decide (gapI (t.getD i 0) (t.getD x.2 0) = 2) && !decide (x.1.nm = r.nm)
def disAt (a : Air) (t : List Int) (i : Nat) (r : Stn) (x : Stn × Nat) : List (Str × Int × Int) := if disB t i r x = true then [(x.1.nm, arr x.1 r (divI a (gapI (t.getD i 0) (t.getD x.2 0))))] else []
def disL (a : Air) (t : List Int) (i : Nat) (r : Stn) : List (Str × Int × Int) := a.ss.zipIdx.flatMap (disAt a t i r)
def disD (x : Str × Int × Int) : D := .tup [.str x.1, frD x.2]
theorem gap_vals (b o : Int) : gapI b o = 0 ∨ gapI b o = 1 ∨ gapI b o = 2 := by
  unfold gapI
  by_cases h1 : b = 0 ∨ o = 0
  · simp [h1]
  · rw [if_neg h1]
    by_cases h2 : b - o < 0
    · simp only [if_pos h2]; split <;> omega
    · simp only [if_neg h2]; split <;> omega
theorem div_bd {a : Air} (h : a.Ok) (g : Int) : 1 ≤ divI a g ∧ divI a g ≤ 1000 := by
  unfold divI
  have := h.lk
  split <;> omega
theorem dis_one (a : Air) (t : List Int) (i : Nat) (r : Stn) (x : Stn × Nat) : (disAt a t i r x).length ≤ 1 := by
  unfold disAt
  split <;> simp
noncomputable def bodyDb : FS := (sSeq (sSet 10 (fFn 2 fn_gap (fCons (fOp ixD (fV 1) (fV 5)) (fCons (fV 9) fNil))))
    (sIf (fTAnd (fTst (fOp neD (fV 10) (fC (.int 2)))) (fTst (fOp neD (fOp ixD (fV 8) (fC (.int 0))) (fV 2)))) (sExpr (fApp (fV 7) (fTup (fCons (fOp ixD (fV 8) (fC (.int 0))) (fCons (fFn 3 fn_arriving (fCons (fV 8) (fCons (fOp ixD (fOp ixD (fV 3) (fV 5)) (fC (.int 3))) (fCons (fOp ixD (fV 6) (fV 10)) fNil)))) fNil))))) sNext))
abbrev dbR (a : Air) (t : List Int) (i : Nat) (r : Stn) (l : Nat) (x8 x9 x10 : Option D) : Rho := [some a.d, some (tun t), some (.str r.nm), some (ssD a.ss), some (.int a.lk), some (.int (i : Nat)), some (.tup [.int 1, .int a.lk]), some (.ref l), x8, x9, x10]
theorem bodyDb_ok {a : Air} (h : a.Ok) {t : List Int} (ht : t.length = a.ss.length) {i : Nat} {r : Stn} (e : a.ss[i]? = some r) {x : Stn × Nat} (hx : x ∈ a.ss.zipIdx) {acc : List D} (hz : acc.length < 2000) {x10 : Option D} :
    bodyDb (dbR a t i r st.length (some x.1.d) (some (.int (t.getD x.2 0))) x10) (st ++ [.lst acc]) = some (.nx, dbR a t i r st.length (some x.1.d) (some (.int (t.getD x.2 0))) (some (.int (gapI (t.getD i 0) (t.getD x.2 0)))), st ++ [.lst (acc ++ (disAt a t i r x).map disD)]) := by
  have hl := (List.getElem?_eq_some_iff.mp e).1
  have hr := h.ss.all r (List.mem_of_getElem? e)
  have hx2 := zipIdx_mem hx
  have hs := h.ss.all x.1 (List.mem_of_getElem? hx2)
  have g3 := gap_vals (t.getD i 0) (t.getD x.2 0)
  have gq := gap_eq (st := st ++ [.lst acc]) (b := t.getD i 0) (o := t.getD x.2 0)
  have d2 := div_bd h (gapI (t.getD i 0) (t.getD x.2 0))
  have aq := arriving_eq (st := st ++ [.lst acc]) hs hr d2.1 d2.2
  have dv : gapI (t.getD i 0) (t.getD x.2 0) ≠ 2 → ixD (.tup [.int 1, .int a.lk]) (.int (gapI (t.getD i 0) (t.getD x.2 0))) (st ++ [.lst acc]) = some (.int (divI a (gapI (t.getD i 0) (t.getD x.2 0))), st ++ [.lst acc]) := fun n2 => by
    rcases g3 with z | z | z
    · rw [z]; rfl
    · rw [z]; rfl
    · exact absurd z n2
  have ti := tun_at (st := st ++ [.lst acc]) ht hl
  unfold disAt disB
  generalize gapI (t.getD i 0) (t.getD x.2 0) = g at gq aq dv
  generalize t.getD x.2 0 = tv at gq
  unfold bodyDb
  have f0 : fCons (fOp ixD (fV 1) (fV 5)) (fCons (fV 9) fNil) (dbR a t i r st.length (some x.1.d) (some (.int tv)) x10) (st ++ [.lst acc]) = some ([.int (t.getD i 0), .int tv], st ++ [.lst acc]) := by
    simp only [e_cons, e_op, e_V, e_nil, List.getElem?_cons_zero, List.getElem?_cons_succ, Option.bind_some, ti]
  have fg := fn_ok (n := 2) f0 rfl gq
  rw [seq_nx (ρ1 := (dbR a t i r st.length (some x.1.d) (some (.int tv)) (some (.int g)))) (st1 := st ++ [.lst acc]) (set_ok fg)]
  have x0 : ixD x.1.d (.int 0) (st ++ [.lst acc]) = some (.str x.1.nm, st ++ [.lst acc]) := rfl
  have n0 := ne_str (st := st ++ [.lst acc]) (nm_ok hs) (nm_ok hr)
  rw [e_if]
  simp only [e_tand, e_tst, e_op, e_V, e_C, List.getElem?_cons_zero, List.getElem?_cons_succ, Option.bind_some, e_neI, e_asB]
  by_cases q : g = 2
  · simp only [q, decide_true, Bool.not_true, Bool.false_eq_true, if_false, Bool.false_and, Option.bind_some, e_next, List.map_nil, List.append_nil]
  · simp only [q, decide_false, Bool.not_false, if_true, Bool.true_and, Option.bind_some, x0, n0, e_asB]
    by_cases q2 : x.1.nm = r.nm
    · simp only [q2, decide_true, Bool.not_true, Bool.false_eq_true, if_false, e_next, List.map_nil, List.append_nil]
    · simp only [q2, decide_false, Bool.not_false, if_true, List.map_cons, List.map_nil]
      have at7 : (st ++ [O.lst acc])[st.length]? = some (.lst acc) := at_new
      have r3 : ixD r.d (.int 3) (st ++ [.lst acc]) = some (.tup [.int r.hx, .int r.hy], st ++ [.lst acc]) := rfl
      have f1 : fCons (fV 8) (fCons (fOp ixD (fOp ixD (fV 3) (fV 5)) (fC (.int 3))) (fCons (fOp ixD (fV 6) (fV 10)) fNil)) (dbR a t i r st.length (some x.1.d) (some (.int tv)) (some (.int g))) (st ++ [.lst acc]) = some ([x.1.d, .tup [.int r.hx, .int r.hy], .int (divI a g)], st ++ [.lst acc]) := by
        simp only [e_cons, e_op, e_V, e_C, e_nil, List.getElem?_cons_zero, List.getElem?_cons_succ, Option.bind_some, ss_at e, r3, dv q]
      have fa := fn_ok (n := 3) f1 rfl aq
      have tp : fTup (fCons (fOp ixD (fV 8) (fC (.int 0))) (fCons (fFn 3 fn_arriving (fCons (fV 8) (fCons (fOp ixD (fOp ixD (fV 3) (fV 5)) (fC (.int 3))) (fCons (fOp ixD (fV 6) (fV 10)) fNil)))) fNil)) (dbR a t i r st.length (some x.1.d) (some (.int tv)) (some (.int g))) (st ++ [.lst acc]) = some (disD (x.1.nm, arr x.1 r (divI a g)), st ++ [.lst acc]) := by
        simp only [e_tup, e_cons, e_op, e_V, e_C, e_nil, List.getElem?_cons_zero, List.getElem?_cons_succ, Option.bind_some, x0, fa]
        simp [sizeLine_eq, disD]
      simp only [e_expr, e_app, e_V, List.getElem?_cons_zero, List.getElem?_cons_succ, Option.bind_some, tp, at7]
      rw [if_pos (by rw [sizeLine_eq]; omega)]
      simp
theorem disturbed_eq {a : Air} (h : a.Ok) {t : List Int} (ht : t.length = a.ss.length) {i : Nat} {r : Stn} (e : a.ss[i]? = some r) :
    fn_disturbed_by [a.d, tun t, .str r.nm] st = some (.lst ((disL a t i r).map disD), st) := by
  unfold fn_disturbed_by
  refine seal_list (more := []) ?_ (pureL_map (fun _ => rfl) _)
  have hl := (List.getElem?_eq_some_iff.mp e).1
  have hl8 := h.ss.len.2
  have hr := h.ss.all r (List.mem_of_getElem? e)
  obtain ⟨ρ', e1, i1⟩ := forAcc (tg := .many [8, 9]) (bd := bodyDb) (enc := fun x : Stn × Nat => D.tup [x.1.d, .int (t.getD x.2 0)]) (g := fun x => (disAt a t i r x).map disD) (s0 := st)
    (I := fun ρ => ∃ x8 x9 x10, ρ = [some a.d, some (tun t), some (.str r.nm), some (ssD a.ss), some (.int a.lk), some (.int (i : Nat)), some (.tup [.int 1, .int a.lk]), some (.ref st.length), x8, x9, x10]) (l := a.ss.zipIdx) (acc := [])
    (ρ := [some a.d, some (tun t), some (.str r.nm), some (ssD a.ss), some (.int a.lk), some (.int (i : Nat)), some (.tup [.int 1, .int a.lk]), some (.ref st.length), none, none, none]) ⟨_, _, _, rfl⟩ (by
      intro x hx ρ acc ⟨x8, x9, x10, eρ⟩ hz
      subst eρ
      exact ⟨_, _, rfl, ⟨_, _, _, rfl⟩, bodyDb_ok h ht e hx (by omega)⟩) (by
      have := flat_le (dis_one a t i r) a.ss.zipIdx
      rw [← List.map_flatMap]
      simp at this ⊢
      omega)
  rw [← List.map_flatMap] at e1
  obtain ⟨x8, x9, x10, eρ⟩ := i1
  refine run_ok (ρ' := ρ') ?_
  simp only [List.map_cons, List.map_nil, List.length_cons, List.length_nil, List.replicate, List.cons_append, List.nil_append]
  show sSeq (sUnp (.many [3, 4]) (fV 0)) (sSeq (sSet 5 (fFn 2 fn_seat (fCons (fV 3) (fCons (fV 2) fNil)))) (sSeq (sSet 6 (fTup (fCons (fC (.int 1)) (fCons (fV 4) fNil)))) (sSeq (sSet 7 (fLst fNil)) (sSeq (sFor (iZip2 (fCons (fV 3) (fCons (fV 1) fNil))) (.many [8, 9]) bodyDb) (sRet (fV 7)))))) _ st = _
  rw [seq_nx (ρ1 := [some a.d, some (tun t), some (.str r.nm), some (ssD a.ss), some (.int a.lk), none, none, none, none, none, none]) (st1 := st) rfl]
  rw [seq_nx (ρ1 := [some a.d, some (tun t), some (.str r.nm), some (ssD a.ss), some (.int a.lk), some (.int (i : Nat)), none, none, none, none, none]) (st1 := st) (set_ok (fn_ok (ds := [ssD a.ss, .str r.nm]) (st1 := st) rfl rfl (seat_eq h.ss e)))]
  rw [seq_nx (ρ1 := [some a.d, some (tun t), some (.str r.nm), some (ssD a.ss), some (.int a.lk), some (.int (i : Nat)), some (.tup [.int 1, .int a.lk]), none, none, none, none]) (st1 := st) (by simp [sizeLine_eq])]
  rw [seq_nx (ρ1 := [some a.d, some (tun t), some (.str r.nm), some (ssD a.ss), some (.int a.lk), some (.int (i : Nat)), some (.tup [.int 1, .int a.lk]), some (.ref st.length), none, none, none]) (st1 := st ++ [.lst []]) (by simp [sizeLine_eq])]
  have z : iZip2 (fCons (fV 3) (fCons (fV 1) fNil)) [some a.d, some (tun t), some (.str r.nm), some (ssD a.ss), some (.int a.lk), some (.int (i : Nat)), some (.tup [.int 1, .int a.lk]), some (.ref st.length), none, none, none] (st ++ [.lst []]) = some (a.ss.zipIdx.map (fun x : Stn × Nat => D.tup [x.1.d, .int (t.getD x.2 0)]), [], st ++ [.lst []]) := by
    rw [← zip_ss ht]
    rfl
  rw [seq_nx (ρ1 := ρ') (st1 := st ++ [.lst ((disL a t i r).map disD)]) (for_at z e1), eρ]
  rfl
end
end EL

set_option Elab.async false
set_option linter.all false
set_option maxRecDepth 100000
set_option maxHeartbeats 400000
/-! the margin; silence harms nobody -/
namespace EL
open PySem PySem.Spec PyProof.Rows L2 GxR LG FW
section
variable {st : Sto} {a : Air} {t t' : List Int} {i : Nat} {r : Stn}
def marO (a : Air) (t : List Int) (i : Nat) (r : Stn) : Option (Int × Int) :=
  if disL a t i r = [] then none else
    some (fr ((arr r r 1).1 * (totL (0, 1) ((disL a t i r).map (·.2))).2) ((arr r r 1).2 * r.nd * (totL (0, 1) ((disL a t i r).map (·.2))).1))
def marD : Option (Int × Int) → D
  | none => .non
  | some p => frD p
theorem dis_len (h : a.Ok) : (disL a t i r).length ≤ 8 := by
  have := flat_le (dis_one a t i r) a.ss.zipIdx
  have := h.ss.len.2
  rw [List.length_zipIdx] at *
  unfold disL
  omega
theorem dis_mem (h : a.Ok) (hr : r.Ok) {p : Str × Int × Int} (hp : p ∈ disL a t i r) : Fr p.2 ∧ p.2.2 ∣ a.lk * prodI (sprs a.ss r) := by
  unfold disL at hp
  obtain ⟨x, hx, hp⟩ := List.mem_flatMap.mp hp
  have hx2 := zipIdx_mem hx
  have hs := h.ss.all x.1 (List.mem_of_getElem? hx2)
  unfold disAt at hp
  split at hp
  · rw [List.mem_singleton.mp hp]
    have d := div_bd h (gapI (t.getD i 0) (t.getD x.2 0))
    refine ⟨arr_fr hs hr d.1 d.2, ?_⟩
    have dv : spr x.1 r ∣ prodI (sprs a.ss r) := prodI_dvd (List.mem_map.mpr ⟨x.1, List.mem_of_getElem? hx2, rfl⟩)
    have e1 : (arr x.1 r (divI a (gapI (t.getD i 0) (t.getD x.2 0)))).2 ∣ spr x.1 r * divI a (gapI (t.getD i 0) (t.getD x.2 0)) := by
      unfold arr fr
      exact Int.ediv_dvd_of_dvd (Int.gcd_dvd_right _ _)
    refine Int.dvd_trans e1 ?_
    have e2 : divI a (gapI (t.getD i 0) (t.getD x.2 0)) ∣ a.lk := by
      unfold divI
      split
      · exact Int.one_dvd _
      · exact Int.dvd_refl _
    rw [Int.mul_comm a.lk]
    exact Int.mul_dvd_mul dv e2
  · cases hp
theorem mar_parts (h : a.Ok) (hr : r.Ok) (hn : disL a t i r ≠ []) : Tb 8 (totL (0, 1) ((disL a t i r).map (·.2))) ∧ 0 < (totL (0, 1) ((disL a t i r).map (·.2))).1 ∧ Fr (arr r r 1) := by
  have hf : ∀ q ∈ (disL a t i r).map (·.2), Fr q := fun q hq => by
    obtain ⟨p, hp, rfl⟩ := List.mem_map.mp hq
    exact (dis_mem h hr hp).1
  have T := tot_tb (ps := (disL a t i r).map (·.2)) tb0 hf
  have hl := dis_len (t := t) (i := i) (r := r) h
  have t8 : Tb 8 (totL (0, 1) ((disL a t i r).map (·.2))) := by
    obtain ⟨a1, a2, a3, a4⟩ := T.1
    have up : (2 : Int) ^ (41 * (0 + ((disL a t i r).map (·.2)).length)) ≤ 2 ^ (41 * 8) := by
      rw [List.length_map]
      have := Nat.pow_le_pow_right (n := 2) (by decide) (show 41 * (0 + (disL a t i r).length) ≤ 41 * 8 by omega)
      exact_mod_cast this
    exact ⟨a1, Int.le_trans a2 up, a3, Int.le_trans a4 up⟩
  exact ⟨t8, T.2 (.inr (by simpa using hn)), arr_fr hr hr (by decide) (by decide)⟩
theorem margin_eq (h : a.Ok) (ht : t.length = a.ss.length) (e : a.ss[i]? = some r) : fn_margin [a.d, tun t, .str r.nm] st = some (marD (marO a t i r), st) := by
  have hr := h.ss.all r (List.mem_of_getElem? e)
  unfold fn_margin
  refine seal_same ?_ (by cases marO a t i r <;> rfl)
  have f0 := disturbed_eq (st := st) h ht e
  have s0 : fFn 3 fn_disturbed_by (fCons (fV 0) (fCons (fV 1) (fCons (fV 2) fNil))) [some a.d, some (tun t), some (.str r.nm), none, none, none, none, none, none, none, none, none] st = some (.lst ((disL a t i r).map disD), st) := fn_ok (n := 3) (ds := [a.d, tun t, .str r.nm]) (st1 := st) rfl rfl f0
  by_cases hn : disL a t i r = []
  · refine run_ok (ρ' := [some a.d, some (tun t), some (.str r.nm), some (.lst []), none, none, none, none, none, none, none, none]) ?_
    simp only [List.map_cons, List.map_nil, List.length_cons, List.length_nil, List.replicate, List.cons_append, List.nil_append]
    unfold sb_margin
    rw [hn] at s0
    rw [seq_nx (set_ok s0)]
    unfold marO
    rw [if_pos hn]
    rfl
  · obtain ⟨t8, tp, fo⟩ := mar_parts h hr hn
    have fl : ∀ q ∈ (disL a t i r).map (·.2), Fr q := fun q hq => by
      obtain ⟨p, hp, rfl⟩ := List.mem_map.mp hq
      exact (dis_mem h hr hp).1
    have tq := total_eq (st := st) (ps := (disL a t i r).map (·.2)) (by rw [List.length_map]; exact dis_len h) fl
    have cq := comes_eq (st := st) h e e
    obtain ⟨b1, b2⟩ := t8.bt (by decide)
    obtain ⟨o1, o2⟩ := fo.bt
    have hd := hr.nd
    have dn : Bt 64 r.nd := bt64 (by omega) (by omega)
    have m1 := mul_ok (st := st) o1 b2
    have m2 := mul_ok (st := st) o2 dn
    have m3 := mul_ok (st := st) (o2.mul dn) b1
    have fq := fraction_eq (st := st) (t := (arr r r 1).1 * (totL (0, 1) ((disL a t i r).map (·.2))).2) (b := (arr r r 1).2 * r.nd * (totL (0, 1) ((disL a t i r).map (·.2))).1)
      (Int.mul_nonneg (Int.le_of_lt fo.1) (Int.le_of_lt t8.2.2.1)) (Int.mul_pos (Int.mul_pos fo.2.2.1 (by omega)) tp) (((o2.mul dn).mul b1).up (by decide))
    unfold marO
    rw [if_neg hn]
    have lq : lcZ (.many [10, 11]) fYes (fV 11) [] (wipeD [some a.d, some (tun t), some (.str r.nm), some (.lst ((disL a t i r).map disD)), some (ssD a.ss), some (.int (arr r r 1).1), some (.int (arr r r 1).2), none, none, none, none, none] [10, 11]) ((disL a t i r).map disD) st = some ((((disL a t i r).map (·.2)).map frD), st) := by
      have := lcE (tg := .many [10, 11]) (tt := fYes) (fe := fV 11) (src := []) (ρ := [some a.d, some (tun t), some (.str r.nm), some (.lst ((disL a t i r).map disD)), some (ssD a.ss), some (.int (arr r r 1).1), some (.int (arr r r 1).2), none, none, none, none, none]) (st := st) (enc := disD) (b := fun _ => true) (w := fun p : Str × Int × Int => frD p.2) (l := disL a t i r) Intact.nil fun p hp => ⟨_, rfl, rfl, fun _ => rfl⟩
      have f : ∀ l : List (Str × Int × Int), l.filter (fun _ => true) = l := fun l => List.filter_eq_self.mpr fun _ _ => rfl
      rw [f] at this
      rw [List.map_map]
      exact this
    have nz : truD (.lst ((disL a t i r).map disD)) st = some true := by
      show some (!((disL a t i r).map disD).isEmpty) = _
      cases q : disL a t i r with
      | nil => exact absurd q hn
      | cons x l => rfl
    have tl : ((disL a t i r).map disD).length ≤ 1000 := by rw [List.length_map]; have := dis_len (t := t) (i := i) (r := r) h; omega
    have tl2 : (((disL a t i r).map (·.2)).map frD).length ≤ 1000 := by rw [List.length_map, List.length_map]; have := dis_len (t := t) (i := i) (r := r) h; omega
    generalize totL (0, 1) ((disL a t i r).map (·.2)) = T at *
    generalize arr r r 1 = o at *
    generalize ((disL a t i r).map (·.2)).map frD = fs at *
    generalize (disL a t i r).map disD = ds at *
    generalize fr (o.1 * T.2) (o.2 * r.nd * T.1) = u at *
    refine run_ok (ρ' := [some a.d, some (tun t), some (.str r.nm), some (.lst ds), some (ssD a.ss), some (.int o.1), some (.int o.2), some (.int T.1), some (.int T.2), some (.int r.nd), none, none]) ?_
    simp only [List.map_cons, List.map_nil, List.length_cons, List.length_nil, List.replicate, List.cons_append, List.nil_append]
    unfold sb_margin
    rw [seq_nx (set_ok s0)]
    simp only [List.set_cons_succ, List.set_cons_zero]
    rw [seq_nx (ρ1 := [some a.d, some (tun t), some (.str r.nm), some (.lst ds), none, none, none, none, none, none, none, none]) (st1 := st) (by
      simp only [e_if, e_tnot, e_tru, e_V, List.getElem?_cons_zero, List.getElem?_cons_succ, Option.bind_some, nz, Bool.not_true, Bool.false_eq_true, if_false, e_next])]
    rw [seq_nx (ρ1 := [some a.d, some (tun t), some (.str r.nm), some (.lst ds), some (ssD a.ss), none, none, none, none, none, none, none]) (st1 := st) rfl]
    have c1 : fFn 3 fn_comes (fCons (fV 4) (fCons (fV 2) (fCons (fV 2) fNil))) [some a.d, some (tun t), some (.str r.nm), some (.lst ds), some (ssD a.ss), none, none, none, none, none, none, none] st = some (frD o, st) := fn_ok (ds := [ssD a.ss, .str r.nm, .str r.nm]) (st1 := st) rfl rfl cq
    rw [seq_nx (ρ1 := [some a.d, some (tun t), some (.str r.nm), some (.lst ds), some (ssD a.ss), some (.int o.1), some (.int o.2), none, none, none, none, none]) (st1 := st) (by rw [e_unp, c1]; rfl)]
    have l1 : fLcZ (iSeq (fV 3)) (.many [10, 11]) fYes (fV 11) [10, 11] [some a.d, some (tun t), some (.str r.nm), some (.lst ds), some (ssD a.ss), some (.int o.1), some (.int o.2), none, none, none, none, none] st = some (.lst fs, st) := lcz_ok (items := ds) (src := []) (st1 := st) rfl lq tl2
    have c2 : fFn 1 fn_total (fCons (fLcZ (iSeq (fV 3)) (.many [10, 11]) fYes (fV 11) [10, 11]) fNil) [some a.d, some (tun t), some (.str r.nm), some (.lst ds), some (ssD a.ss), some (.int o.1), some (.int o.2), none, none, none, none, none] st = some (frD T, st) := fn_ok (ds := [.lst fs]) (st1 := st) (by rw [e_cons, l1]; rfl) rfl tq
    rw [seq_nx (ρ1 := [some a.d, some (tun t), some (.str r.nm), some (.lst ds), some (ssD a.ss), some (.int o.1), some (.int o.2), some (.int T.1), some (.int T.2), none, none, none]) (st1 := st) (by rw [e_unp, c2]; rfl)]
    have s4 : fFn 2 fn_seat (fCons (fV 4) (fCons (fV 2) fNil)) [some a.d, some (tun t), some (.str r.nm), some (.lst ds), some (ssD a.ss), some (.int o.1), some (.int o.2), some (.int T.1), some (.int T.2), none, none, none] st = some (.int (i : Nat), st) := fn_ok (ds := [ssD a.ss, .str r.nm]) (st1 := st) rfl rfl (seat_eq h.ss e)
    have x4 : ixD r.d (.int 4) st = some (.int r.nd, st) := rfl
    rw [seq_nx (ρ1 := [some a.d, some (tun t), some (.str r.nm), some (.lst ds), some (ssD a.ss), some (.int o.1), some (.int o.2), some (.int T.1), some (.int T.2), some (.int r.nd), none, none]) (st1 := st) (set_ok (op_ok (op_ok (d := ssD a.ss) (st1 := st) rfl s4 (ss_at e)) (e := .int 4) (st2 := st) rfl x4))]
    have g0 : fCons (fOp mulD (fV 5) (fV 8)) (fCons (fOp mulD (fOp mulD (fV 6) (fV 9)) (fV 7)) fNil) [some a.d, some (tun t), some (.str r.nm), some (.lst ds), some (ssD a.ss), some (.int o.1), some (.int o.2), some (.int T.1), some (.int T.2), some (.int r.nd), none, none] st = some ([.int (o.1 * T.2), .int (o.2 * r.nd * T.1)], st) := by
      simp only [e_cons, e_op, e_V, e_nil, List.getElem?_cons_zero, List.getElem?_cons_succ, Option.bind_some, m1, m2, m3]
    exact ret_ok (fn_ok g0 rfl fq)
end
end EL

set_option Elab.async false
set_option linter.all false
set_option maxRecDepth 100000
set_option maxHeartbeats 400000
/-! silence harms nobody -/
namespace EL
open PySem PySem.Spec PyProof.Rows L2 GxR LG FW
section
variable {st : Sto} {a : Air} {t t' : List Int} {i : Nat} {r : Stn}
/-- t' is t with some stations but the i-th silent -/
structure Qt (a : Air) (t t' : List Int) (i : Nat) : Prop where
  l1 : t.length = a.ss.length
  l2 : t'.length = a.ss.length
  own : t'.getD i 0 = t.getD i 0
  oth : ∀ j, t'.getD j 0 = t.getD j 0 ∨ t'.getD j 0 = 0
theorem sum_le {α : Type} {f g : α → Int} : ∀ {l : List α}, (∀ x ∈ l, f x ≤ g x) → (l.map f).sum ≤ (l.map g).sum
  | [], _ => by simp
  | x :: l, h => by
    have h1 := h x List.mem_cons_self
    have h2 := sum_le fun y hy => h y (List.mem_cons_of_mem x hy)
    simp only [List.map_cons, List.sum_cons]
    omega
theorem gap_zero2 (b : Int) : gapI b 0 = 2 := by unfold gapI; simp
theorem share_nn (h : a.Ok) (hr : r.Ok) {s : Stn} (hs : s.Ok) : 0 ≤ shareI a.ss r s := by
  have P1 : 1 ≤ prodI (sprs a.ss r) := prodI_pos fun x hx => ((sprs_ok h.ss hr).1 x hx).1
  have sp := spr_pos hs hr
  have pw := hs.pw
  exact Int.mul_nonneg (by omega) (Int.ediv_nonneg (by omega) (by omega))
def thr (a : Air) (i : Nat) (r : Stn) (x : Stn × Nat) : Int × Int × Int := if x.2 = i then (0, 0, 0) else (r.nd * a.lk * shareI a.ss r x.1, r.nd * shareI a.ss r x.1, 0)
theorem dis_sum (ht : t.length = a.ss.length) (b : Int) : disI (othL a i r) b t = (a.ss.zipIdx.map fun x => pick3 (thr a i r x) (gapI b (t.getD x.2 0))).sum := by
  unfold disI
  rw [oth_idx, zip_idx _ _ ht]
  rfl
theorem thr_nn (h : a.Ok) (hr : r.Ok) {x : Stn × Nat} (hx : x ∈ a.ss.zipIdx) (g : Int) : 0 ≤ pick3 (thr a i r x) g := by
  have hs := h.ss.all x.1 (List.mem_of_getElem? (zipIdx_mem hx))
  have q := share_nn h hr hs
  have lk := h.lk; have nd := hr.nd
  unfold thr pick3
  have q1 : 0 ≤ r.nd * shareI a.ss r x.1 := Int.mul_nonneg (by omega) q
  have q2 : 0 ≤ r.nd * a.lk * shareI a.ss r x.1 := Int.mul_nonneg (Int.mul_nonneg (by omega) (by omega)) q
  split <;> split <;> (try split) <;> simp_all
theorem thr_two {x : Stn × Nat} : pick3 (thr a i r x) 2 = 0 := by
  unfold thr pick3
  by_cases w : x.2 = i <;> simp [w]
theorem heard_mono (h : a.Ok) (hr : r.Ok) (q : Qt a t t' i) (hh : heardB a t i r = true) : heardB a t' i r = true := by
  unfold heardB at hh ⊢
  rw [q.own]
  simp only [Bool.and_eq_true, decide_eq_true_eq] at hh ⊢
  refine ⟨hh.1, Int.le_trans ?_ hh.2⟩
  rw [dis_sum q.l1, dis_sum q.l2]
  refine sum_le fun x hx => ?_
  rcases q.oth x.2 with z | z
  · rw [z]; exact Int.le_refl _
  · rw [z, gap_zero2, thr_two]; exact thr_nn h hr hx _
theorem heard_none (h : a.Ok) (hr : r.Ok) (l : t.length = a.ss.length) (hi : t.getD i 0 ≠ 0) (ho : ∀ j, j ≠ i → t.getD j 0 = 0) : heardB a t i r = true := by
  unfold heardB
  simp only [Bool.and_eq_true, decide_eq_true_eq]
  refine ⟨hi, ?_⟩
  rw [dis_sum l]
  have z : (a.ss.zipIdx.map fun x => pick3 (thr a i r x) (gapI (t.getD i 0) (t.getD x.2 0))).sum ≤ (a.ss.zipIdx.map fun x : Stn × Nat => (0 : Int)).sum := sum_le fun x hx => by
    by_cases w : x.2 = i
    · have : thr a i r x = (0, 0, 0) := by unfold thr; rw [if_pos w]
      rw [this]
      unfold pick3
      simp
    · rw [ho _ w, gap_zero2, thr_two]; exact Int.le_refl _
  have z0 : (a.ss.zipIdx.map fun x : Stn × Nat => (0 : Int)).sum = 0 := by
    generalize a.ss.zipIdx = l
    induction l with
    | nil => rfl
    | cons x l ih => simp only [List.map_cons, List.sum_cons, ih]; rfl
  have own : 0 ≤ ownI a r := Int.mul_nonneg (by have := h.lk; omega) (share_nn h hr hr)
  omega
/-! margins -/
theorem SM_flat {α : Type} (M : Int) (g : α → List (Int × Int)) : ∀ l : List α, SM M (l.flatMap g) = (l.map fun x => SM M (g x)).sum
  | [] => rfl
  | x :: l => by
    have ih := SM_flat M g l
    unfold SM at ih ⊢
    rw [List.flatMap_cons, List.map_append, List.sum_append, ih]
    rfl
theorem sm_nn {M : Int} (hM : 0 < M) : ∀ {ps : List (Int × Int)}, (∀ q ∈ ps, Fr q) → 0 ≤ SM M ps
  | [], _ => by unfold SM; simp
  | q :: ps, h => by
    have h1 := h q List.mem_cons_self
    have h2 := sm_nn hM fun x hx => h x (List.mem_cons_of_mem q hx)
    unfold SM at h2 ⊢
    rw [List.map_cons, List.sum_cons]
    have : 0 ≤ q.1 * (M / q.2) := Int.mul_nonneg (Int.le_of_lt h1.1) (Int.ediv_nonneg (by omega) (Int.le_of_lt h1.2.2.1))
    omega
theorem dis_snd : (disL a t i r).map (·.2) = a.ss.zipIdx.flatMap fun x => (disAt a t i r x).map (·.2) := by
  unfold disL
  rw [List.map_flatMap]
theorem at_same (q : Qt a t t' i) (x : Stn × Nat) : disAt a t' i r x = disAt a t i r x ∨ disAt a t' i r x = [] := by
  unfold disAt disB
  rw [q.own]
  rcases q.oth x.2 with z | z
  · rw [z]; exact .inl rfl
  · rw [z, gap_zero2]; right; simp
theorem sm_le (h : a.Ok) (hr : r.Ok) (q : Qt a t t' i) {M : Int} (hM : 0 < M) : SM M ((disL a t' i r).map (·.2)) ≤ SM M ((disL a t i r).map (·.2)) := by
  rw [dis_snd, dis_snd, SM_flat, SM_flat]
  refine sum_le fun x hx => ?_
  rcases at_same (r := r) q x with z | z
  · rw [z]; exact Int.le_refl _
  · rw [z]
    show (0 : Int) ≤ _
    refine sm_nn hM fun p hp => ?_
    obtain ⟨y, hy, rfl⟩ := List.mem_map.mp hp
    exact (dis_mem h hr (List.mem_flatMap.mpr ⟨x, hx, hy⟩)).1
theorem dis_nil (q : Qt a t t' i) (hn : disL a t' i r ≠ []) : disL a t i r ≠ [] := fun z => hn (by
  unfold disL at z ⊢
  rw [List.flatMap_eq_nil_iff] at z ⊢
  intro x hx
  rcases at_same (r := r) q x with w | w
  · rw [w]; exact z x hx
  · exact w)
/-- no less, or nothing to be compared with -/
def noLess : Option (Int × Int) → Option (Int × Int) → Bool
  | none, _ => true
  | some _, none => false
  | some p, some q => decide (q.1 * p.2 ≤ p.1 * q.2)
theorem less_num {o1 K T B T' B' p q p' q' : Int} (hT : 0 < T) (hT' : 0 < T') (hK : 0 < K) (ho : 0 < o1) (hq : 0 < q) (hq' : 0 < q') (e : p * (K * T) = o1 * B * q) (e' : p' * (K * T') = o1 * B' * q') (le : T * B' ≤ T' * B) : p' * q ≤ p * q' := by
  have c : 0 < (K * T) * (K * T') := Int.mul_pos (Int.mul_pos hK hT) (Int.mul_pos hK hT')
  refine Int.le_of_mul_le_mul_right ?_ c
  have e1 : p' * q * (K * T * (K * T')) = (o1 * q * q' * K) * (T * B') := by grind
  have e2 : p * q' * (K * T * (K * T')) = (o1 * q * q' * K) * (T' * B) := by grind
  rw [e1, e2]
  exact Int.mul_le_mul_of_nonneg_left le (Int.le_of_lt (Int.mul_pos (Int.mul_pos (Int.mul_pos ho hq) hq') hK))
theorem margin_mono (h : a.Ok) (hr : r.Ok) (q : Qt a t t' i) : noLess (marO a t' i r) (marO a t i r) = true := by
  unfold marO
  by_cases hn : disL a t' i r = []
  · rw [if_pos hn]; cases (if disL a t i r = [] then none else some (fr ((arr r r 1).1 * (totL (0, 1) ((disL a t i r).map (·.2))).2) ((arr r r 1).2 * r.nd * (totL (0, 1) ((disL a t i r).map (·.2))).1))) <;> rfl
  · have hn2 := dis_nil q hn
    rw [if_neg hn, if_neg hn2]
    unfold noLess
    rw [decide_eq_true_eq]
    obtain ⟨t8, tp, fo⟩ := mar_parts (t := t') h hr hn
    obtain ⟨u8, up, _⟩ := mar_parts (t := t) h hr hn2
    have lk := h.lk
    have P1 : 1 ≤ prodI (sprs a.ss r) := prodI_pos fun x hx => ((sprs_ok h.ss hr).1 x hx).1
    have M1 : 0 < a.lk * prodI (sprs a.ss r) := Int.mul_pos (by omega) (by omega)
    have hm : ∀ (t : List Int), ∀ q ∈ (disL a t i r).map (·.2), 0 ≤ q.1 ∧ 0 < q.2 ∧ q.2 ∣ a.lk * prodI (sprs a.ss r) := fun t q hq => by
      obtain ⟨p, hp, rfl⟩ := List.mem_map.mp hq
      obtain ⟨d1, d2⟩ := dis_mem h hr hp
      exact ⟨Int.le_of_lt d1.1, d1.2.2.1, d2⟩
    have v1 := tot_val (M := a.lk * prodI (sprs a.ss r)) (p := (0, 1)) (by decide) (by decide) (hm t')
    have v2 := tot_val (M := a.lk * prodI (sprs a.ss r)) (p := (0, 1)) (by decide) (by decide) (hm t)
    have sl := sm_le (r := r) h hr q M1
    have nd := hr.nd
    have b1 : 0 < (arr r r 1).2 * r.nd * (totL (0, 1) ((disL a t' i r).map (·.2))).1 := Int.mul_pos (Int.mul_pos fo.2.2.1 (by omega)) tp
    have b2 : 0 < (arr r r 1).2 * r.nd * (totL (0, 1) ((disL a t i r).map (·.2))).1 := Int.mul_pos (Int.mul_pos fo.2.2.1 (by omega)) up
    have f1 := fr_cross (t := (arr r r 1).1 * (totL (0, 1) ((disL a t' i r).map (·.2))).2) b1
    have f2 := fr_cross (t := (arr r r 1).1 * (totL (0, 1) ((disL a t i r).map (·.2))).2) b2
    have g1 := (fr_le (t := (arr r r 1).1 * (totL (0, 1) ((disL a t' i r).map (·.2))).2) (Int.mul_nonneg (Int.le_of_lt fo.1) (Int.le_of_lt t8.2.2.1)) b1).2.2.1
    have g2 := (fr_le (t := (arr r r 1).1 * (totL (0, 1) ((disL a t i r).map (·.2))).2) (Int.mul_nonneg (Int.le_of_lt fo.1) (Int.le_of_lt u8.2.2.1)) b2).2.2.1
    have T2 := t8.2.2.1
    have U2 := u8.2.2.1
    have K0 : 0 < (arr r r 1).2 * r.nd := Int.mul_pos fo.2.2.1 (by omega)
    have o0 := fo.1
    generalize SM (a.lk * prodI (sprs a.ss r)) ((disL a t' i r).map (·.2)) = S1 at *
    generalize SM (a.lk * prodI (sprs a.ss r)) ((disL a t i r).map (·.2)) = S2 at *
    generalize a.lk * prodI (sprs a.ss r) = M at *
    generalize totL (0, 1) ((disL a t' i r).map (·.2)) = T at *
    generalize totL (0, 1) ((disL a t i r).map (·.2)) = U at *
    generalize (arr r r 1).2 * r.nd = K at *
    generalize (arr r r 1).1 = o at *
    generalize fr (o * T.2) (K * T.1) = x at *
    generalize fr (o * U.2) (K * U.1) = y at *
    refine less_num (K := K) (o1 := o) (T := T.1) (B := T.2) (T' := U.1) (B' := U.2) tp up K0 o0 g1 g2 f1 f2 ?_
    have w1 : T.1 * M = T.2 * S1 := by simpa using v1
    have w2 : U.1 * M = U.2 * S2 := by simpa using v2
    refine Int.le_of_mul_le_mul_right ?_ M1
    have k1 : T.1 * U.2 * M = (T.2 * U.2) * S1 := by grind
    have k2 : U.1 * T.2 * M = (T.2 * U.2) * S2 := by grind
    rw [k1, k2]
    exact Int.mul_le_mul_of_nonneg_left sl (Int.le_of_lt (Int.mul_pos T2 U2))
end
end EL

set_option Elab.async false
set_option linter.all false
set_option maxRecDepth 100000
set_option maxHeartbeats 400000
/-! the fewest that cure -/
namespace EL
open PySem PySem.Spec PyProof.Rows L2 GxR LG FW
section
variable {st : Sto} {a : Air} {t t' : List Int} {i : Nat} {r : Stn}
theorem find_range {β : Type} {f : Nat → Option β} {n : Nat} {v : β} (h : (List.range n).findSome? f = some v) : ∃ k, k < n ∧ f k = some v ∧ ∀ j, j < k → f j = none := by
  induction n with
  | zero => cases h
  | succ n ih =>
    rw [List.range_succ, List.findSome?_append] at h
    cases q : (List.range n).findSome? f with
    | some w =>
      rw [q] at h
      obtain ⟨k, h1, h2, h3⟩ := ih (by rw [q]; exact h)
      exact ⟨k, by omega, h2, h3⟩
    | none =>
      rw [q] at h
      refine ⟨n, by omega, ?_, fun j hj => List.findSome?_eq_none_iff.mp q j (List.mem_range.mpr hj)⟩
      simpa using h
theorem send_not : r.nm ∉ sendL a t r := fun h => by
  obtain ⟨x, hx, e⟩ := List.mem_map.mp h
  have := (List.mem_filter.mp hx).2
  unfold sendB at this
  simp [e] at this
theorem sil_qt (e : a.ss[i]? = some r) {ys zs : List Str} (hs : ∀ y ∈ ys, y ∈ zs) (hz : r.nm ∉ zs) : Qt a (silT a t ys) (silT a t zs) i := by
  refine ⟨sil_len, sil_len, ?_, fun j => ?_⟩
  · rw [sil_at e, sil_at e, if_neg hz, if_neg fun z => hz (hs _ z)]
  · cases q : a.ss[j]? with
    | none =>
      have : a.ss.length ≤ j := List.getElem?_eq_none_iff.mp q
      have o : ∀ xs : List Str, (silT a t xs).getD j 0 = 0 := fun xs => by
        rw [List.getD_eq_getElem?_getD, List.getElem?_eq_none_iff.mpr (by rw [sil_len]; exact this)]
        rfl
      exact .inr (o zs)
    | some s =>
      rw [sil_at q, sil_at q]
      by_cases w : s.nm ∈ zs
      · rw [if_pos w]; exact .inr rfl
      · rw [if_neg w, if_neg fun z => w (hs _ z)]; exact .inl rfl
theorem sil_nil (ht : t.length = a.ss.length) : silT a t [] = t := by
  apply List.ext_getElem?
  intro j
  unfold silT
  rw [List.getElem?_map, List.getElem?_zipIdx]
  by_cases hl : j < a.ss.length
  · have : j < t.length := by omega
    simp [hl, this]
  · have h1 : a.ss[j]? = none := by simp; omega
    have h2 : t[j]? = none := by simp; omega
    simp [h1, h2]
theorem heard_all (h : a.Ok) (e : a.ss[i]? = some r) (hi : t.getD i 0 ≠ 0) : heardB a (silT a t (sendL a t r)) i r = true := by
  have hr := h.ss.all r (List.mem_of_getElem? e)
  refine heard_none h hr sil_len ?_ fun j hj => ?_
  · rw [sil_at e, if_neg send_not]; exact hi
  · cases q : a.ss[j]? with
    | none =>
      have : a.ss.length ≤ j := List.getElem?_eq_none_iff.mp q
      rw [List.getD_eq_getElem?_getD, List.getElem?_eq_none_iff.mpr (by rw [sil_len]; exact this)]
      rfl
    | some s =>
      rw [sil_at q]
      split
      · rfl
      · rename_i w
        by_cases z : t.getD j 0 = 0
        · exact z
        · exfalso
          refine w (List.mem_map.mpr ⟨(s, j), List.mem_filter.mpr ⟨?_, ?_⟩, rfl⟩)
          · exact List.mem_iff_getElem?.mpr ⟨j, by rw [List.getElem?_zipIdx, q]; simp⟩
          · unfold sendB
            have w2 : s.nm ≠ r.nm := fun n => hj (h.ss.inj q e n)
            show (decide (t.getD j 0 ≠ 0) && decide (s.nm ≠ r.nm)) = true
            rw [decide_eq_true z, decide_eq_true w2]
            rfl
theorem few_spec (h : a.Ok) (e : a.ss[i]? = some r) (hi : t.getD i 0 ≠ 0) :
    heardB a (silT a t (fewL a t i r (sendL a t r))) i r = true ∧ ∀ ys : List Str, ys.Sublist (sendL a t r) → ys.length < (fewL a t i r (sendL a t r)).length → heardB a (silT a t ys) i r = false := by
  generalize hxs : sendL a t r = xs
  have none_of : ∀ k, ((choL xs k).findSome? fun ys => if heardB a (silT a t ys) i r = true then some ys else none) = none → ∀ ys : List Str, ys.Sublist xs → ys.length = k → heardB a (silT a t ys) i r = false := fun k z ys hs hk => by
    have := List.findSome?_eq_none_iff.mp z ys (by rw [← hk]; exact mem_cho hs)
    cases q : heardB a (silT a t ys) i r with
    | false => rfl
    | true => rw [q] at this; cases this
  unfold fewL
  cases q : (List.range xs.length).findSome? fun k => (choL xs k).findSome? fun ys => if heardB a (silT a t ys) i r = true then some ys else none with
  | none =>
    refine ⟨by rw [← hxs]; exact heard_all h e hi, fun ys hs hl => ?_⟩
    exact none_of ys.length (List.findSome?_eq_none_iff.mp q _ (List.mem_range.mpr hl)) ys hs rfl
  | some v =>
    obtain ⟨k, _, h2, h3⟩ := find_range q
    obtain ⟨ys, hy, hv⟩ := List.exists_of_findSome?_eq_some h2
    split at hv
    · rename_i w
      cases hv
      refine ⟨w, fun zs hs hl => ?_⟩
      exact none_of zs.length (h3 _ (by have := (cho_mem hy).2; simp only [Option.getD_some] at hl; omega)) zs hs rfl
    · cases hv
theorem nms_ris : nms.Pairwise (fun x y => ltS x y = true) := by
  have : risB nms = true := by decide +kernel
  exact (ris_pw nms).mp this
theorem send_sub (h : a.Ok) : (sendL a t r).Sublist nms := by
  have s1 : (sendL a t r).Sublist (a.ss.zipIdx.map fun x => x.1.nm) := (List.filter_sublist).map _
  have s2 : (a.ss.zipIdx.map fun x => x.1.nm) = a.ss.map Stn.nm := by
    apply List.ext_getElem?
    intro j
    rw [List.getElem?_map, List.getElem?_map, List.getElem?_zipIdx]
    cases a.ss[j]? <;> simp
  rw [s2, h.ss.nm] at s1
  exact s1.trans (List.take_sublist _ _)
theorem cure_sub (h : a.Ok) {ys : List Str} (hs : ys.Sublist (sendL a t r)) : cureB a t i r (lotD ys) = heardB a (silT a t ys) i r := by
  unfold cureB lotD
  simp only [strsOf_map]
  have r1 : risB ys = true := (ris_pw ys).mpr (nms_ris.sublist (hs.trans (send_sub h)))
  have r2 : (ys.map D.str).all (inB (sendL a t r)) = true := List.all_eq_true.mpr fun d hd => by
    obtain ⟨x, hx, rfl⟩ := List.mem_map.mp hd
    exact List.any_eq_true.mpr ⟨.str x, List.mem_map.mpr ⟨x, hs.subset hx, rfl⟩, by simp⟩
  rw [r1, r2]
  rfl
/-- the fewest are none just where it is heard -/
theorem few_nil (h : a.Ok) (ht : t.length = a.ss.length) (e : a.ss[i]? = some r) (hi : t.getD i 0 ≠ 0) : (fewL a t i r (sendL a t r) = []) ↔ heardB a t i r = true := by
  obtain ⟨f1, f2⟩ := few_spec h e hi
  constructor
  · intro z
    rw [z, sil_nil ht] at f1
    exact f1
  · intro z
    cases q : fewL a t i r (sendL a t r) with
    | nil => rfl
    | cons x l =>
      have := f2 [] (List.nil_sublist _) (by rw [q]; simp)
      rw [sil_nil ht, z] at this
      cases this
/-- more than the fewest cure too -/
theorem more_heard (h : a.Ok) (e : a.ss[i]? = some r) (hi : t.getD i 0 ≠ 0) {zs : List Str} (hs : ∀ y ∈ fewL a t i r (sendL a t r), y ∈ zs) (hz : r.nm ∉ zs) : heardB a (silT a t zs) i r = true :=
  heard_mono h (h.ss.all r (List.mem_of_getElem? e)) (sil_qt e hs hz) (few_spec h e hi).1
end
end EL

set_option Elab.async false
set_option linter.all false
set_option maxRecDepth 100000
set_option maxHeartbeats 400000
/-! what the law asks of silence -/
namespace EL
open PySem PySem.Spec PyProof.Rows L2 GxR LG FW
section
variable {st : Sto} {a : Air} {t t' : List Int} {i : Nat} {r : Stn}
theorem quiet_eq (ht : i < t.length) (hz : t.length ≤ 8) : fOp addD (fOp addD (fSl (fV 1) oNone (oSome (fV 2))) (fTup (fCons (fC (.int 0)) fNil))) (fSl (fV 1) (oSome (fOp addD (fV 2) (fC (.int 1)))) oNone) [some a.d, some (tun t), some (.int (i : Nat)), none, none, none] st = some (tun (t.set i 0), st) := by
  have c1 : cutD (t.map D.int) none (some (i : Int)) = (t.take i).map D.int := by
    rw [cut_hi (by omega), List.map_take]
    rfl
  have c2 : cutD (t.map D.int) (some ((i : Int) + 1)) none = (t.drop (i + 1)).map D.int := by
    have := cut_from (ds := t.map D.int) (n := i + 1)
    rw [List.map_drop]
    exact this
  have e : t.set i 0 = t.take i ++ [0] ++ t.drop (i + 1) := by
    rw [List.set_eq_take_append_cons_drop, if_pos ht, List.append_assoc]
    rfl
  unfold tun
  rw [e]
  have i1 : ∀ n : Nat, n ≤ 30 → n ≤ sizeLine := fun n hn => by rw [sizeLine_eq]; omega
  simp only [e_op, e_sl, e_tup, e_cons, e_V, e_C, e_nil, e_oN, e_oS, List.getElem?_cons_zero, List.getElem?_cons_succ, Option.bind_some, e_slT, c1, c2, List.length_cons, List.length_nil, if_pos (i1 (0 + 1) (by decide)), e_addI]
  have a1 : ∀ xs ys : List D, addD (.tup xs) (.tup ys) st = if xs.length + ys.length ≤ sizeLine then some (.tup (xs ++ ys), st) else none := fun _ _ => rfl
  rw [a1, if_pos (i1 _ (by simp; omega))]
  simp only [Option.bind_some]
  rw [a1, if_pos (i1 _ (by simp; omega))]
  simp [List.map_append]
theorem set_qt (l1 : t.length = a.ss.length) {j : Nat} (hj : j ≠ i) : Qt a t (t.set i 0) j := by
  refine ⟨l1, by rw [List.length_set]; exact l1, ?_, fun k => ?_⟩
  · rw [List.getD_eq_getElem?_getD, List.getD_eq_getElem?_getD, List.getElem?_set_ne (Ne.symm hj)]
  · by_cases w : k = i
    · subst w
      right
      rw [List.getD_eq_getElem?_getD]
      by_cases z : k < t.length
      · rw [List.getElem?_set_self z]; rfl
      · rw [List.getElem?_eq_none_iff.mpr (by rw [List.length_set]; omega)]; rfl
    · left
      rw [List.getD_eq_getElem?_getD, List.getD_eq_getElem?_getD, List.getElem?_set_ne (Ne.symm w)]
def mBt : Option (Int × Int) → Prop
  | none => True
  | some p => Bt 600 p.1 ∧ Bt 600 p.2
theorem mar_bt (h : a.Ok) (hr : r.Ok) : mBt (marO a t i r) := by
  unfold marO
  by_cases hn : disL a t i r = []
  · rw [if_pos hn]; trivial
  · rw [if_neg hn]
    obtain ⟨t8, tp, fo⟩ := mar_parts h hr hn
    obtain ⟨b1, b2⟩ := t8.bt (by decide)
    obtain ⟨o1, o2⟩ := fo.bt
    have hd := hr.nd
    have dn : Bt 64 r.nd := bt64 (by omega) (by omega)
    have c1 := o1.mul b2
    have c2 := (o2.mul dn).mul b1
    have f := fr_le (t := (arr r r 1).1 * (totL (0, 1) ((disL a t i r).map (·.2))).2) (b := (arr r r 1).2 * r.nd * (totL (0, 1) ((disL a t i r).map (·.2))).1)
      (Int.mul_nonneg (Int.le_of_lt fo.1) (Int.le_of_lt t8.2.2.1)) (Int.mul_pos (Int.mul_pos fo.2.2.1 (by omega)) tp)
    have dn2 : ∀ {x y : Int} {n : Nat}, 0 ≤ x → x ≤ y → Bt n y → Bt n x := fun h0 h1 h2 => by unfold Bt at *; omega
    exact ⟨(dn2 f.1 f.2.1 c1).up (by decide), (dn2 (Int.le_of_lt f.2.2.1) f.2.2.2.1 c2).up (by decide)⟩
theorem no_less_eq {m1 m2 : Option (Int × Int)} (b1 : mBt m1) (b2 : mBt m2) : fn__law_no_less [marD m1, marD m2] st = some (.bl (noLess m1 m2), st) := by
  unfold fn__law_no_less
  refine seal_same ?_ rfl
  refine run_ok (ρ' := [some (marD m1), some (marD m2)]) (ret_ok ?_)
  simp only [List.map_cons, List.map_nil, List.length_cons, List.length_nil, List.replicate, List.cons_append, List.nil_append, Nat.zero_add, Nat.sub_self, List.append_nil]
  cases m1 with
  | none => rfl
  | some p =>
    cases m2 with
    | none => rfl
    | some q =>
      have n0 : isB false (frD p) .non st = some (.bl false, st) := rfl
      have n1 : isB true (frD q) .non st = some (.bl true, st) := rfl
      have p0 : ixD (frD p) (.int 0) st = some (.int p.1, st) := rfl
      have p1 : ixD (frD p) (.int 1) st = some (.int p.2, st) := rfl
      have q0 : ixD (frD q) (.int 0) st = some (.int q.1, st) := rfl
      have q1 : ixD (frD q) (.int 1) st = some (.int q.2, st) := rfl
      simp only [marD, e_or, e_and, e_op, e_V, e_C, List.getElem?_cons_zero, List.getElem?_cons_succ, Option.bind_some, n0, n1, p0, p1, q0, q1, e_asB, Bool.false_eq_true, if_false, if_true, mul_ok b1.1 b2.2, mul_ok b2.1 b1.2, e_geI, noLess]
noncomputable def bodyQ : FS := (sIf (fTst (fOp gtD (fOp ixD (fV 3) (fV 4)) (fC (.int 0)))) (sSeq (sIf (fTAnd (fTst (fFn 3 fn_is_heard (fCons (fV 0) (fCons (fV 1) (fCons (fV 5) fNil))))) (fTNot (fTst (fFn 3 fn_is_heard (fCons (fV 0) (fCons (fV 3) (fCons (fV 5) fNil))))))) (sRet (fC (.bl false))) sNext)
    (sIf (fTNot (fTst (fFn 2 fn__law_no_less (fCons (fFn 3 fn_margin (fCons (fV 0) (fCons (fV 3) (fCons (fV 5) fNil)))) (fCons (fFn 3 fn_margin (fCons (fV 0) (fCons (fV 1) (fCons (fV 5) fNil)))) fNil))))) (sRet (fC (.bl false))) sNext)) sNext)
abbrev qR (a : Air) (t : List Int) (i : Nat) (x4 x5 : Option D) : Rho := [some a.d, some (tun t), some (.int (i : Nat)), some (tun (t.set i 0)), x4, x5]
theorem bodyQ_ok (h : a.Ok) (ht : t.length = a.ss.length) {j : Nat} {s : Stn} (e : a.ss[j]? = some s) : bodyQ (qR a t i (some (.int (j : Nat))) (some (.str s.nm))) st = some (.nx, qR a t i (some (.int (j : Nat))) (some (.str s.nm)), st) := by
  have hl := (List.getElem?_eq_some_iff.mp e).1
  have hs := h.ss.all s (List.mem_of_getElem? e)
  have l2 : (t.set i 0).length = a.ss.length := by rw [List.length_set]; exact ht
  unfold bodyQ
  rw [e_if]
  have c0 : fTst (fOp gtD (fOp ixD (fV 3) (fV 4)) (fC (.int 0))) (qR a t i (some (.int (j : Nat))) (some (.str s.nm))) st = some (decide (0 < (t.set i 0).getD j 0), st) := by
    simp only [e_tst, e_op, e_V, e_C, List.getElem?_cons_zero, List.getElem?_cons_succ, Option.bind_some, tun_at l2 hl, e_gtI, e_asB]
  rw [c0]
  by_cases up : 0 < (t.set i 0).getD j 0
  · have hj : j ≠ i := fun z => by
      subst z
      rw [List.getD_eq_getElem?_getD, List.getElem?_set_self (by omega)] at up
      simp at up
    have q := set_qt (i := i) ht hj
    have h1 : fFn 3 fn_is_heard (fCons (fV 0) (fCons (fV 1) (fCons (fV 5) fNil))) (qR a t i (some (.int (j : Nat))) (some (.str s.nm))) st = some (.bl (heardB a t j s), st) := fn_ok (ds := [a.d, tun t, .str s.nm]) (st1 := st) rfl rfl (heard_eq h ht e)
    have h2 : fFn 3 fn_is_heard (fCons (fV 0) (fCons (fV 3) (fCons (fV 5) fNil))) (qR a t i (some (.int (j : Nat))) (some (.str s.nm))) st = some (.bl (heardB a (t.set i 0) j s), st) := fn_ok (ds := [a.d, tun (t.set i 0), .str s.nm]) (st1 := st) rfl rfl (heard_eq h l2 e)
    have m1 : fFn 3 fn_margin (fCons (fV 0) (fCons (fV 3) (fCons (fV 5) fNil))) (qR a t i (some (.int (j : Nat))) (some (.str s.nm))) st = some (marD (marO a (t.set i 0) j s), st) := fn_ok (ds := [a.d, tun (t.set i 0), .str s.nm]) (st1 := st) rfl rfl (margin_eq h l2 e)
    have m2 : fFn 3 fn_margin (fCons (fV 0) (fCons (fV 1) (fCons (fV 5) fNil))) (qR a t i (some (.int (j : Nat))) (some (.str s.nm))) st = some (marD (marO a t j s), st) := fn_ok (ds := [a.d, tun t, .str s.nm]) (st1 := st) rfl rfl (margin_eq h ht e)
    have g0 : fCons (fFn 3 fn_margin (fCons (fV 0) (fCons (fV 3) (fCons (fV 5) fNil)))) (fCons (fFn 3 fn_margin (fCons (fV 0) (fCons (fV 1) (fCons (fV 5) fNil)))) fNil) (qR a t i (some (.int (j : Nat))) (some (.str s.nm))) st = some ([marD (marO a (t.set i 0) j s), marD (marO a t j s)], st) := by
      simp only [e_cons, e_nil, m1, m2, Option.bind_some]
    have nl := fn_ok (n := 2) g0 rfl (no_less_eq (st := st) (mar_bt (t := t.set i 0) (i := j) h hs) (mar_bt (t := t) (i := j) h hs))
    rw [margin_mono h hs q] at nl
    simp only [Option.bind_some, decide_eq_true up, if_true]
    rw [seq_nx (ρ1 := qR a t i (some (.int (j : Nat))) (some (.str s.nm))) (st1 := st) (by
      rw [e_if]
      simp only [e_tand, e_tnot, e_tst, h1, h2, Option.bind_some, e_asB]
      cases w : heardB a t j s with
      | false => simp only [Bool.false_eq_true, if_false, Option.bind_some, e_next]
      | true =>
        rw [heard_mono h hs q w]
        simp only [if_true, Option.bind_some, Bool.not_true, Bool.false_eq_true, if_false, e_next])]
    rw [e_if]
    simp only [e_tnot, e_tst, nl, Option.bind_some, e_asB, Bool.not_true, Bool.false_eq_true, if_false, e_next]
  · rw [decide_eq_false up]
    simp only [Option.bind_some, Bool.false_eq_true, if_false, e_next]
theorem silenced_so (h : a.Ok) (ht : t.length = a.ss.length) (e : a.ss[i]? = some r) : fn__law_silenced_so [a.d, tun t, .int (i : Nat)] st = some (.bl true, st) := by
  have hl := (List.getElem?_eq_some_iff.mp e).1
  have l8 := h.ss.len.2
  have l2 : (t.set i 0).length = a.ss.length := by rw [List.length_set]; exact ht
  unfold fn__law_silenced_so
  refine seal_same ?_ rfl
  have fo := for_ok (tg := .many [4, 5]) (b := bodyQ) (src := []) (items := enumD (nmD a))
    (I := fun _ ρ s' => (∃ y4 y5, ρ = qR a t i y4 y5) ∧ s' = st)
    (fun _ _ _ _ => Intact.nil) (fun j z hz ρ s' ⟨⟨y4, y5, hρ⟩, hs⟩ => by
      subst hρ; subst hs
      unfold enumD nmD at hz
      rw [List.getElem?_mapIdx, List.getElem?_map] at hz
      cases hr : a.ss[j]? with
      | none => rw [hr] at hz; cases hz
      | some r =>
        rw [hr] at hz
        cases hz
        exact ⟨qR a t i (some (.int (j : Nat))) (some (.str r.nm)), rfl, ⟨_, bodyQ_ok h ht hr, rfl, ⟨_, _, rfl⟩, rfl⟩⟩)
    _ 0 (qR a t i none none) st rfl (Nat.zero_le _) ⟨⟨_, _, rfl⟩, rfl⟩
  rw [List.drop_zero] at fo
  obtain ⟨⟨f, ρ2, s2⟩, ef, e1, ⟨y4, y5, e2⟩, e3⟩ := fo
  simp only at e1 e2 e3
  subst e1; subst e2; subst e3
  refine run_ok (ρ' := qR a t i y4 y5) ?_
  simp only [List.map_cons, List.map_nil, List.length_cons, List.length_nil, List.replicate, List.cons_append, List.nil_append]
  have sf : sb__law_silenced_so = sSeq (sSet 3 (fOp addD (fOp addD (fSl (fV 1) oNone (oSome (fV 2))) (fTup (fCons (fC (.int 0)) fNil))) (fSl (fV 1) (oSome (fOp addD (fV 2) (fC (.int 1)))) oNone))) (sSeq (sFor (EL.iEnum (fCons (fFn 1 fn__law_names (fCons (fV 0) fNil)) fNil)) (.many [4, 5]) bodyQ) (sRet (fOp (isB false) (fFn 3 fn_is_heard (fCons (fV 0) (fCons (fV 3) (fCons (fOp ixD (fOp ixD (fOp ixD (fV 0) (fC (.int 0))) (fV 2)) (fC (.int 0))) fNil)))) (fC (.bl false))))) := rfl
  rw [sf]
  have q0 := quiet_eq (st := s2) (a := a) (t := t) (i := i) (by omega) (by omega)
  rw [seq_nx (ρ1 := qR a t i none none) (st1 := s2) (set_ok q0)]
  have f1 : fFn 1 fn__law_names (fCons (fV 0) fNil) (qR a t i none none) s2 = some (.lst (nmD a), s2) := fn_ok (ds := [a.d]) (st1 := s2) rfl rfl (names_eq h)
  have it : EL.iEnum (fCons (fFn 1 fn__law_names (fCons (fV 0) fNil)) fNil) (qR a t i none none) s2 = some (enumD (nmD a), [], s2) := by
    unfold EL.iEnum
    simp only [e_cons, e_nil, f1, Option.bind_some]
    rfl
  rw [seq_nx (ρ1 := qR a t i y4 y5) (st1 := s2) (for_at it ef)]
  refine ret_ok ?_
  have hb : heardB a (t.set i 0) i r = false := by
    unfold heardB
    have : (t.set i 0).getD i 0 = 0 := by rw [List.getD_eq_getElem?_getD, List.getElem?_set_self (by omega)]; rfl
    rw [this]
    rfl
  have g0 : fCons (fV 0) (fCons (fV 3) (fCons (fOp ixD (fOp ixD (fOp ixD (fV 0) (fC (.int 0))) (fV 2)) (fC (.int 0))) fNil)) (qR a t i y4 y5) s2 = some ([a.d, tun (t.set i 0), .str r.nm], s2) := by
    have i0 : ixD a.d (.int 0) s2 = some (ssD a.ss, s2) := rfl
    have r0 : ixD r.d (.int 0) s2 = some (.str r.nm, s2) := rfl
    simp only [e_cons, e_op, e_V, e_C, e_nil, List.getElem?_cons_zero, List.getElem?_cons_succ, Option.bind_some, i0, ss_at e, r0]
  have g1 := fn_ok (n := 3) g0 rfl (heard_eq (st := s2) h l2 e)
  rw [hb] at g1
  exact op_ok g1 (e := .bl false) (st2 := s2) rfl rfl
end
end EL

set_option Elab.async false
set_option linter.all false
set_option maxRecDepth 100000
set_option maxHeartbeats 400000
/-! what the law asks of cures -/
namespace EL
open PySem PySem.Spec PyProof.Rows L2 GxR LG FW
section
variable {st s S0 : Sto} {a : Air} {t t' : List Int} {i : Nat} {r : Stn} {lb : Nat}
theorem lot_th (h : a.Ok) {ys : List Str} (hs : ys.Sublist (sendL a t r)) : Th (lotD ys) := by
  have l1 := (hs.trans (send_sub h)).length_le
  have l2 : nms.length = 8 := rfl
  refine Dv.th (g := 0) (n := 4) ((Dv.tupL (g := 0) (n := 3) (by rw [List.length_map]; omega) fun e he => ?_).1) (by decide) (by decide)
  obtain ⟨x, hx, rfl⟩ := List.mem_map.mp he
  exact nm_dv ((hs.trans (send_sub h)).subset hx) _ _
theorem lot_ok (h : a.Ok) {ys : List Str} (hs : ys.Sublist (sendL a t r)) : okB 60 (lotD ys) = true := okB_up (lot_th h hs).1 (by decide)
theorem eq_nil (h : a.Ok) {ys : List Str} (hs : ys.Sublist (sendL a t r)) : eqD (lotD ys) (.tup []) st = some (.bl (decide (ys = [])), st) ∧ neD (lotD ys) (.tup []) st = some (.bl (!decide (ys = [])), st) := by
  have o := lot_ok h hs
  have b1 : byVal (lotD ys) st = lotD ys := rfl
  have b2 : byVal (.tup []) st = .tup [] := rfl
  have o2 : okB 60 (.tup []) = true := rfl
  have e : eqB (lotD ys) (.tup []) = decide (ys = []) := by
    cases ys with
    | nil => rfl
    | cons x l => rfl
  unfold eqD neD eqW
  rw [b1, b2, o, o2, e]
  exact ⟨rfl, rfl⟩
theorem erase_map {α β : Type} (f : α → β) : ∀ (l : List α) (k : Nat), (l.map f).eraseIdx k = (l.eraseIdx k).map f
  | [], _ => rfl
  | x :: l, 0 => rfl
  | x :: l, k + 1 => by simp only [List.map_cons, List.eraseIdx_cons_succ, erase_map f l k]
theorem e_popR {fo fa : FE} {ρ : Rho} {l : Nat} {j : Int} {ds es : List D} {s1 : Sto} {y : D} (h1 : fo ρ s = some (.ref l, s)) (h2 : fa ρ s = some (.int j, s1)) (h3 : s[l]? = some (.lst es)) (h4 : s1[l]? = some (.lst ds)) (j0 : 0 ≤ j) (j1 : j < ds.length) (j2 : j < 1000) (hy : ds[j.toNat]? = some y) :
    fPop fo fa ρ s = some (y, s1.set l (.lst (ds.eraseIdx j.toNat))) := by
  unfold fPop
  rw [h1]
  simp only [Option.bind_some, h2, h3, h4]
  rw [if_pos ⟨j0, j1, Int.lt_trans j2 (by decide)⟩, hy]
  rfl
noncomputable def popB : FS := sExpr (fPop (fV 10) (fFn 2 fn__law_take (fCons (fV 0) (fCons (fCall lenD (fCons (fV 10) fNil)) fNil))))
noncomputable def popT : FT := fTst (fOp gtD (fCall lenD (fCons (fV 10) fNil)) (fCall maxD (fCons (fC (.int 0)) (fCons (fOp subD (fCall lenD (fCons (fV 5) fNil)) (fC (.int 1))) fNil))))
theorem pop_ok {ρ : Rho} {xs : List Str} (b : Bg lb S0) (A : Acc lb S0 (xs.map D.str) s) (h0 : ρ[0]? = some (some (.ref lb))) (h10 : ρ[10]? = some (some (.ref S0.length))) (pos : 0 < xs.length) (few : xs.length ≤ 100) :
    Ok (popB ρ s) fun q => q.1 = .nx ∧ q.2.1 = ρ ∧ ∃ zs : List Str, zs.Sublist xs ∧ zs.length + 1 = xs.length ∧ Acc lb S0 (zs.map D.str) q.2.2 := by
  obtain ⟨⟨x6, s6⟩, q6, ⟨j, rfl, j1, j2⟩, g6⟩ := take_spec (m := (xs.length : Int)) (by omega) (by omega) (A.bg b)
  simp only at g6
  have A6 := A.go b g6
  have lz : lenD [.ref S0.length] s = some (.int (xs.length : Nat), s) := by
    have := len_at A.at
    rw [List.length_map] at this
    exact this
  have f0 : fCons (fV 0) (fCons (fCall lenD (fCons (fV 10) fNil)) fNil) ρ s = some ([.ref lb, .int (xs.length : Nat)], s) := by
    simp only [e_cons, e_call, e_V, e_nil, h0, h10, Option.bind_some, lz]
  have f1 := fn_ok (n := 2) f0 rfl q6
  have hj : j.toNat < xs.length := by omega
  have f2 := e_popR (fo := fV 10) (ρ := ρ) (s := s) (l := S0.length) (y := .str xs[j.toNat]) (by rw [e_V, h10]) f1 A.at A6.at j1 (by rw [List.length_map]; omega) (by omega) (by rw [List.getElem?_map, List.getElem?_eq_getElem hj]; rfl)
  refine ⟨(.nx, ρ, s6.set S0.length (.lst ((xs.map D.str).eraseIdx j.toNat))), ?_, rfl, rfl, xs.eraseIdx j.toNat, List.eraseIdx_sublist _ _, ?_, ?_⟩
  · unfold popB
    rw [e_expr, f2]
    rfl
  · rw [List.length_eraseIdx_of_lt hj]; omega
  · obtain ⟨s0, g0, e0⟩ := A6
    refine ⟨s0, g0, ?_⟩
    have e0 : s6 = s0 ++ [.lst (xs.map D.str)] := e0
    show s6.set S0.length _ = _
    rw [e0, ← g0.len, List.set_append_right _ _ (Nat.le_refl _), Nat.sub_self, erase_map]
    rfl
theorem wh_ok {ρ : Rho} {ys : List Str} (b : Bg lb S0) (h0 : ρ[0]? = some (some (.ref lb))) (h10 : ρ[10]? = some (some (.ref S0.length))) (h5 : ρ[5]? = some (some (lotD ys))) : ∀ (fu : Nat) (xs : List Str) (s : Sto), xs.length < fu → xs.length ≤ 100 → Acc lb S0 (xs.map D.str) s →
    Ok (whileD popT popB fu ρ s) fun q => q.1 = .nx ∧ q.2.1 = ρ ∧ ∃ zs : List Str, zs.Sublist xs ∧ zs.length ≤ ys.length - 1 ∧ Acc lb S0 (zs.map D.str) q.2.2 := by
  intro fu
  induction fu with
  | zero => intro xs s h; omega
  | succ fu ih =>
    intro xs s hf few A
    have lz : lenD [.ref S0.length] s = some (.int (xs.length : Nat), s) := by
      have := len_at A.at
      rw [List.length_map] at this
      exact this
    have l5 : lenD [lotD ys] s = some (.int (ys.length : Nat), s) := by unfold lotD; rw [e_lenT, List.length_map]
    have mx : maxD [.int 0, .int ((ys.length : Nat) - 1)] s = some (.int ((ys.length - 1 : Nat) : Int), s) := by
      show some (D.int (if (0 : Int) < (ys.length : Nat) - 1 then (ys.length : Nat) - 1 else 0), s) = _
      congr 3
      split <;> omega
    have tt : popT ρ s = some (decide (ys.length - 1 < xs.length), s) := by
      unfold popT
      simp only [e_tst, e_op, e_call, e_cons, e_V, e_C, e_nil, h10, h5, Option.bind_some, lz, l5, e_subI, mx, e_gtI, e_asB]
      congr 2
      exact decide_eq_decide.mpr (by omega)
    unfold whileD
    rw [tt]
    by_cases w : ys.length - 1 < xs.length
    · obtain ⟨⟨f, ρ1, s1⟩, e, rfl, rfl, zs, z1, z2, A1⟩ := pop_ok b A h0 h10 (by omega) few
      refine (ih zs s1 (by omega) (by omega) A1).eq ?_ |>.mono fun q ⟨q1, q2, ws, w1, w2, w3⟩ => ⟨q1, q2, ws, w1.trans z1, w2, w3⟩
      simp only [Option.bind_some, decide_eq_true w, if_true, e]
    · rw [decide_eq_false w]
      exact ⟨(.nx, ρ, s), rfl, rfl, rfl, xs, List.Sublist.refl _, by omega, A⟩
end
end EL

set_option Elab.async false
set_option linter.all false
set_option maxRecDepth 100000
set_option maxHeartbeats 400000
namespace EL
open PySem PySem.Spec PyProof.Rows L2 GxR LG FW
section
variable {st s S0 : Sto} {a : Air} {t t' : List Int} {i : Nat} {r : Stn} {lb : Nat} {x4 x5 x6 x7 x8 x9 x10 x11 x12 : Option D}
abbrev cR (lb : Nat) (a : Air) (t : List Int) (i : Nat) (x4 x5 x6 x7 x8 x9 x10 x11 x12 : Option D) : Rho := [some (.ref lb), some a.d, some (tun t), some (.int (i : Nat)), x4, x5, x6, x7, x8, x9, x10, x11, x12]
theorem ix_nm (e : a.ss[i]? = some r) : ixD (.lst (nmD a)) (.int (i : Nat)) s = some (.str r.nm, s) := by
  unfold nmD
  rw [e_ixZ, atI_nat, List.getElem?_map, e]
  rfl
theorem nm_len (h : a.Ok) : fCons (fCall lenD (fCons (fV 4) fNil)) fNil (cR lb a t i (some (.lst (nmD a))) x5 x6 x7 x8 x9 x10 x11 x12) s = some ([.int ((a.ss.length : Nat) : Int)], s) := by
  have lz : lenD [.lst (nmD a)] s = some (.int (a.ss.length : Nat), s) := by
    show some (D.int ((nmD a).length : Nat), s) = _
    unfold nmD
    rw [List.length_map]
  simp only [e_cons, e_call, e_V, e_nil, List.getElem?_cons_zero, List.getElem?_cons_succ, Option.bind_some, lz]
noncomputable def fOth : FE := fLcZ (iRange1 (fCons (fCall lenD (fCons (fV 4) fNil)) fNil)) (.one 11) (fTAnd (fTst (fOp neD (fV 11) (fV 3))) (fTst (fOp gtD (fOp ixD (fV 2) (fV 11)) (fC (.int 0))))) (fOp ixD (fV 4) (fV 11)) [11]
theorem oth_eq (h : a.Ok) (ht : t.length = a.ss.length) (hb : ∀ b ∈ t, 0 ≤ b ∧ b ≤ 9) (e : a.ss[i]? = some r) : fOth (cR lb a t i (some (.lst (nmD a))) x5 x6 x7 x8 x9 x10 none x12) s = some (.lst ((sendL a t r).map D.str), s) := by
  have l8 := h.ss.len.2
  refine lcz_ok (items := rangeD 0 a.ss.length) (src := []) (st1 := s) (range_ok (nm_len h) (by omega)) ?_ ?_
  · rw [← lawsend h ht hb e, List.map_map, ht]
    unfold rangeD
    have w : wipeD (cR lb a t i (some (.lst (nmD a))) x5 x6 x7 x8 x9 x10 none x12) [11] = cR lb a t i (some (.lst (nmD a))) x5 x6 x7 x8 x9 x10 none x12 := rfl
    rw [w]
    refine lcE Intact.nil fun j hj => ⟨cR lb a t i (some (.lst (nmD a))) x5 x6 x7 x8 x9 x10 (some (.int (0 + (j : Nat)))) x12, rfl, ?_, fun _ => ?_⟩
    · have hj' : j < a.ss.length := List.mem_range.mp hj
      simp only [Int.zero_add, e_tand, e_tst, e_op, e_V, e_C, List.getElem?_cons_zero, List.getElem?_cons_succ, Option.bind_some, tun_at ht hj', e_gtI, e_asB, e_neI]
      have : decide ((j : Int) = (i : Int)) = decide (j = i) := decide_eq_decide.mpr (by omega)
      rw [this]
      cases decide (0 < t.getD j 0) <;> cases decide (j = i) <;> rfl
    · have hj' : j < a.ss.length := List.mem_range.mp hj
      obtain ⟨o, eo⟩ : ∃ o, a.ss[j]? = some o := ⟨_, List.getElem?_eq_getElem hj'⟩
      simp only [Int.zero_add, e_op, e_V, List.getElem?_cons_zero, List.getElem?_cons_succ, Option.bind_some, ix_nm eo, Function.comp, eo]
      rfl
  · rw [List.length_map]
    have := (send_sub (t := t) (r := r) h).length_le
    have l2 : nms.length = 8 := rfl
    omega
theorem lcz_draw2 {tg : Tg} {tt : FT} {fe : FE} {ρ : Rho} {c : D → Bool} : ∀ {items : List D}, (∀ d ∈ items, ∃ ρ1, tgD tg d ρ = some ρ1 ∧ (∀ st, Bg lb st → Ok (tt ρ1 st) fun p => (c d = true → p.1 = true) ∧ Go lb st p.2) ∧ ∀ s, fe ρ1 s = some (d, s)) → ∀ st, Bg lb st → Ok (lcZ tg tt fe [] ρ items st) fun p => (p.1.Sublist items ∧ ∀ d ∈ items, c d = true → d ∈ p.1) ∧ Go lb st p.2
  | [], _, st, b => ⟨([], st), by unfold lcZ; rw [if_pos Intact.nil], ⟨.slnil, fun _ h => by cases h⟩, .refl b⟩
  | d :: ds, h, st, b => by
    obtain ⟨ρ1, e1, e2, e3⟩ := h d List.mem_cons_self
    obtain ⟨⟨k, s1⟩, e4, hk, g1⟩ := e2 st b
    obtain ⟨⟨r, s2⟩, e5, ⟨sl, hin⟩, g2⟩ := lcz_draw2 (items := ds) (fun x hx => h x (List.mem_cons_of_mem _ hx)) s1 (g1.bg b.lt)
    unfold lcZ
    rw [if_pos Intact.nil, e1]
    simp only [Option.bind_some, e4]
    cases k with
    | true => exact ⟨(d :: r, s2), by simp only [if_true, e3, Option.bind_some, e5], ⟨sl.cons₂ d, fun x hx hc => by
        rcases List.mem_cons.mp hx with z | z
        · rw [z]; exact List.mem_cons_self
        · exact List.mem_cons_of_mem _ (hin x z hc)⟩, g1.trans g2⟩
    | false => exact ⟨(r, s2), by simp only [Bool.false_eq_true, if_false, e5], ⟨sl.cons d, fun x hx hc => by
        rcases List.mem_cons.mp hx with z | z
        · rw [z] at hc; have := hk hc; cases this
        · exact hin x z hc⟩, g1.trans g2⟩
noncomputable def fMre : FE := fCall tupleD (fCons (fLcZ (iSeq (fV 6)) (.one 12) (fTOr (fTst (fOp (inW false) (fV 12) (fV 5))) (fTst (fOp eqD (fFn 2 fn__law_take (fCons (fV 0) (fCons (fC (.int 2)) fNil))) (fC (.int 0))))) (fV 12) [12]) fNil)
theorem mre_ok {xs ys : List Str} (few : xs.length ≤ 8) (b : Bg lb s) : Ok (fMre (cR lb a t i x4 (some (lotD ys)) (some (.lst (xs.map D.str))) x7 x8 x9 x10 x11 none) s) fun p => (∃ zs : List Str, p.1 = lotD zs ∧ zs.Sublist xs ∧ ∀ x ∈ xs, x ∈ ys → x ∈ zs) ∧ Go lb s p.2 := by
  obtain ⟨⟨S, s2⟩, e, ⟨sl, hin⟩, g2⟩ := lcz_draw2 (lb := lb) (c := fun d => inB ys d) (tg := .one 12) (tt := fTOr (fTst (fOp (inW false) (fV 12) (fV 5))) (fTst (fOp eqD (fFn 2 fn__law_take (fCons (fV 0) (fCons (fC (.int 2)) fNil))) (fC (.int 0))))) (fe := fV 12)
    (ρ := cR lb a t i x4 (some (lotD ys)) (some (.lst (xs.map D.str))) x7 x8 x9 x10 x11 none) (items := xs.map D.str) (fun d hd => ⟨cR lb a t i x4 (some (lotD ys)) (some (.lst (xs.map D.str))) x7 x8 x9 x10 x11 (some d), rfl, fun s b => by
      obtain ⟨x, hx, rfl⟩ := List.mem_map.mp hd
      have it : inW false (.str x) (lotD ys) s = some (.bl (decide (x ∈ ys)), s) := in_tup
      by_cases w : x ∈ ys
      · refine ⟨(true, s), ?_, fun _ => rfl, .refl b⟩
        simp only [e_tor, e_tst, e_op, e_V, List.getElem?_cons_zero, List.getElem?_cons_succ, Option.bind_some, it, e_asB, decide_eq_true w, if_true]
      · obtain ⟨⟨k, s1⟩, ek, gk⟩ := (ET.tst (ED.op (ED.take (M := 2) (hi := 1) rfl ED.n) (ED.n (lo := 0) (hi := 0)) fun x y st ⟨i, ei, _⟩ ⟨j, ej, _⟩ => by
          subst ei; subst ej
          rw [e_eqI]
          exact .pure ⟨⟨_, rfl⟩, rfl⟩) : ET lb (cR lb a t i x4 (some (lotD ys)) (some (.lst (xs.map D.str))) x7 x8 x9 x10 x11 (some (.str x))) (fTst (fOp eqD (fFn 2 fn__law_take (fCons (fV 0) (fCons (fC (.int 2)) fNil))) (fC (.int 0))))) s b
        refine ⟨(k, s1), ?_, fun z => ?_, gk⟩
        · rw [e_tor]
          have t1 : fTst (fOp (inW false) (fV 12) (fV 5)) (cR lb a t i x4 (some (lotD ys)) (some (.lst (xs.map D.str))) x7 x8 x9 x10 x11 (some (.str x))) s = some (false, s) := by
            simp only [e_tst, e_op, e_V, List.getElem?_cons_zero, List.getElem?_cons_succ, Option.bind_some, it, e_asB, decide_eq_false w]
          rw [t1]
          exact ek
        · obtain ⟨y, hy, ey⟩ := inB_str z
          cases ey
          exact absurd hy w, fun s => rfl⟩) s b
  simp only at sl hin g2
  obtain ⟨zs, z1, rfl⟩ := List.sublist_map_iff.mp sl
  have le := z1.length_le
  have f1 : fLcZ (iSeq (fV 6)) (.one 12) (fTOr (fTst (fOp (inW false) (fV 12) (fV 5))) (fTst (fOp eqD (fFn 2 fn__law_take (fCons (fV 0) (fCons (fC (.int 2)) fNil))) (fC (.int 0))))) (fV 12) [12] (cR lb a t i x4 (some (lotD ys)) (some (.lst (xs.map D.str))) x7 x8 x9 x10 x11 none) s = some (.lst (zs.map D.str), s2) :=
    lcz_ok (items := xs.map D.str) (src := []) (st1 := s) rfl e (by rw [List.length_map]; omega)
  refine ⟨(lotD zs, s2), ?_, ⟨zs, rfl, z1, fun x hx hy => ?_⟩, g2⟩
  · unfold fMre
    rw [e_call, e_cons, f1]
    rfl
  · obtain ⟨y, h1, h2⟩ := List.mem_map.mp (hin (.str x) (List.mem_map.mpr ⟨x, hx, rfl⟩) (List.any_eq_true.mpr ⟨.str x, List.mem_map.mpr ⟨x, hy, rfl⟩, by simp⟩))
    cases h2
    exact h1
noncomputable def fQui : FE := fCall tupleD (fCons (fLcZ (iRange1 (fCons (fCall lenD (fCons (fV 4) fNil)) fNil)) (.one 11) fYes (fIf (fTst (fOp (inW false) (fOp ixD (fV 4) (fV 11)) (fV 5))) (fC (.int 0)) (fOp ixD (fV 2) (fV 11))) [11]) fNil)
theorem qui_eq (h : a.Ok) (ht : t.length = a.ss.length) {ys : List Str} : fQui (cR lb a t i (some (.lst (nmD a))) (some (lotD ys)) x6 x7 x8 x9 x10 none x12) s = some (tun (silT a t ys), s) := by
  have l8 := h.ss.len.2
  have f1 : fLcZ (iRange1 (fCons (fCall lenD (fCons (fV 4) fNil)) fNil)) (.one 11) fYes (fIf (fTst (fOp (inW false) (fOp ixD (fV 4) (fV 11)) (fV 5))) (fC (.int 0)) (fOp ixD (fV 2) (fV 11))) [11] (cR lb a t i (some (.lst (nmD a))) (some (lotD ys)) x6 x7 x8 x9 x10 none x12) s = some (.lst ((silT a t ys).map D.int), s) := by
    refine lcz_ok (items := rangeD 0 a.ss.length) (src := []) (st1 := s) (range_ok (nm_len h) (by omega)) ?_ (by rw [List.length_map, sil_len]; omega)
    have w : wipeD (cR lb a t i (some (.lst (nmD a))) (some (lotD ys)) x6 x7 x8 x9 x10 none x12) [11] = cR lb a t i (some (.lst (nmD a))) (some (lotD ys)) x6 x7 x8 x9 x10 none x12 := rfl
    rw [w]
    unfold rangeD
    have m : (silT a t ys).map D.int = ((List.range a.ss.length).filter fun _ => true).map fun j => D.int ((silT a t ys).getD j 0) := by
      rw [List.filter_eq_self.mpr fun _ _ => rfl]
      apply List.ext_getElem?
      intro j
      rw [List.getElem?_map, List.getElem?_map]
      by_cases hl : j < a.ss.length
      · have : j < (silT a t ys).length := by rw [sil_len]; exact hl
        simp [hl, this]
      · have h1 : (silT a t ys)[j]? = none := List.getElem?_eq_none_iff.mpr (by rw [sil_len]; omega)
        have h2 : (List.range a.ss.length)[j]? = none := List.getElem?_eq_none_iff.mpr (by rw [List.length_range]; omega)
        rw [h1, h2]; rfl
    rw [m]
    refine lcE Intact.nil fun j hj => ⟨cR lb a t i (some (.lst (nmD a))) (some (lotD ys)) x6 x7 x8 x9 x10 (some (.int (0 + (j : Nat)))) x12, rfl, rfl, fun _ => ?_⟩
    have hj' : j < a.ss.length := List.mem_range.mp hj
    obtain ⟨o, eo⟩ : ∃ o, a.ss[j]? = some o := ⟨_, List.getElem?_eq_getElem hj'⟩
    have it : inW false (.str o.nm) (lotD ys) s = some (.bl (decide (o.nm ∈ ys)), s) := in_tup
    rw [sil_at eo]
    simp only [Int.zero_add, e_ifx, e_tst, e_op, e_V, e_C, List.getElem?_cons_zero, List.getElem?_cons_succ, Option.bind_some, ix_nm eo, it, e_asB, tun_at ht hj', decide_eq_true_eq]
    split <;> rfl
  unfold fQui
  rw [e_call, e_cons, f1]
  rfl
theorem enough_eq (h : a.Ok) (ht : t.length = a.ss.length) (e : a.ss[i]? = some r) (hi : t.getD i 0 ≠ 0) {k : Int} : fn_enough [a.d, tun t, .str r.nm, .int k] s = some (.bl (decide (((fewL a t i r (sendL a t r)).length : Int) ≤ k)), s) := by
  unfold fn_enough
  refine seal_same ?_ rfl
  refine run_ok (ρ' := [some a.d, some (tun t), some (.str r.nm), some (.int k)]) (ret_ok ?_)
  simp only [List.map_cons, List.map_nil, List.length_cons, List.length_nil, List.replicate, List.cons_append, List.nil_append, Nat.zero_add, Nat.sub_self, List.append_nil]
  have c : fFn 3 fn_cure (fCons (fV 0) (fCons (fV 1) (fCons (fV 2) fNil))) [some a.d, some (tun t), some (.str r.nm), some (.int k)] s = some (lotD (fewL a t i r (sendL a t r)), s) := fn_ok (ds := [a.d, tun t, .str r.nm]) (st1 := s) rfl rfl (cure_eq h ht e hi)
  generalize fewL a t i r (sendL a t r) = ys at c
  have l : lenD [lotD ys] s = some (.int (ys.length : Nat), s) := by unfold lotD; rw [e_lenT, List.length_map]
  simp only [e_op, e_call, e_cons, e_nil, e_V, List.getElem?_cons_zero, List.getElem?_cons_succ, c, Option.bind_some, l]
  rfl
end
end EL

set_option Elab.async false
set_option linter.all false
set_option maxRecDepth 100000
set_option maxHeartbeats 400000
namespace EL
open PySem PySem.Spec PyProof.Rows L2 GxR LG FW
section
variable {st s S0 : Sto} {a : Air} {t t' : List Int} {i : Nat} {r : Stn} {lb : Nat} {x4 x5 x6 x7 x8 x9 x10 x11 x12 : Option D}
noncomputable def bodyV : FS := (sSeq (sSet 10 (fCall listD (fCons (fV 6) fNil)))
    (sSeq (sWhile 4000 popT popB)
    (sIf (fTAnd (fTst (fOp neD (fV 5) (fTup fNil))) (fTst (fOp (isB true) (fFn 4 fn_is_cure (fCons (fV 1) (fCons (fV 2) (fCons (fOp ixD (fV 4) (fV 3)) (fCons (fCall tupleD (fCons (fV 10) fNil)) fNil))))) (fC (.bl false))))) (sRet (fC (.bl false))) sNext)))
theorem bodyV_ok (h : a.Ok) (ht : t.length = a.ss.length) (e : a.ss[i]? = some r) (hi : t.getD i 0 ≠ 0) (b : Bg lb s) :
    Ok (bodyV (cR lb a t i (some (.lst (nmD a))) (some (lotD (fewL a t i r (sendL a t r)))) (some (.lst ((sendL a t r).map D.str))) x7 x8 x9 x10 none none) s) fun q => q.1 = .nx ∧ (∃ y10, q.2.1 = cR lb a t i (some (.lst (nmD a))) (some (lotD (fewL a t i r (sendL a t r)))) (some (.lst ((sendL a t r).map D.str))) x7 x8 x9 y10 none none) ∧ ∃ s2 o, Go lb s s2 ∧ q.2.2 = s2 ++ [o] := by
  have hys := few_mem (a := a) (t := t) (i := i) (r := r) (xs := sendL a t r)
  obtain ⟨f1, f2⟩ := few_spec h e hi
  have x8' := (send_sub (t := t) (r := r) h).length_le
  have n8 : nms.length = 8 := rfl
  generalize hy : fewL a t i r (sendL a t r) = ys at *
  have A : Acc lb s ((sendL a t r).map D.str) (s ++ [.lst ((sendL a t r).map D.str)]) := ⟨s, .refl b, rfl⟩
  unfold bodyV
  have s1 : fCall listD (fCons (fV 6) fNil) (cR lb a t i (some (.lst (nmD a))) (some (lotD ys)) (some (.lst ((sendL a t r).map D.str))) x7 x8 x9 x10 none none) s = some (.ref s.length, s ++ [.lst ((sendL a t r).map D.str)]) := rfl
  rw [seq_nx (ρ1 := cR lb a t i (some (.lst (nmD a))) (some (lotD ys)) (some (.lst ((sendL a t r).map D.str))) x7 x8 x9 (some (.ref s.length)) none none) (st1 := s ++ [.lst ((sendL a t r).map D.str)]) (set_ok s1)]
  obtain ⟨⟨f, ρ2, s2⟩, ew, e1, e2, zs, z1, z2, A2⟩ := wh_ok (ρ := cR lb a t i (some (.lst (nmD a))) (some (lotD ys)) (some (.lst ((sendL a t r).map D.str))) x7 x8 x9 (some (.ref s.length)) none none) (ys := ys) b rfl rfl rfl 4000 (sendL a t r) _ (by omega) (by omega) A
  simp only at e1 e2 A2
  subst e1; subst e2
  rw [seq_nx (show sWhile 4000 popT popB _ _ = _ from ew)]
  refine ⟨(.nx, cR lb a t i (some (.lst (nmD a))) (some (lotD ys)) (some (.lst ((sendL a t r).map D.str))) x7 x8 x9 (some (.ref s.length)) none none, s2), ?_, rfl, ⟨_, rfl⟩, ?_⟩
  · rw [e_if]
    have n5 := (eq_nil (st := s2) h hys).2
    have t0 : fTup fNil (cR lb a t i (some (.lst (nmD a))) (some (lotD ys)) (some (.lst ((sendL a t r).map D.str))) x7 x8 x9 (some (.ref s.length)) none none) s2 = some (.tup [], s2) := by simp [sizeLine_eq]
    simp only [e_tand, e_tst, e_op, e_V, List.getElem?_cons_zero, List.getElem?_cons_succ, Option.bind_some, t0, n5, e_asB]
    by_cases w : ys = []
    · rw [decide_eq_true w]
      simp only [Bool.not_true, Bool.false_eq_true, if_false, Option.bind_some, e_next]
    · have wp : 0 < ys.length := List.length_pos_iff.mpr w
      have hf : heardB a (silT a t zs) i r = false := f2 zs z1 (by omega)
      have ic := is_cure_eq (st := s2) h ht e hi (lot_th h z1)
      rw [cure_sub h z1, hf] at ic
      have tz : tupleD [.ref s.length] s2 = some (lotD zs, s2) := by
        unfold tupleD
        simp only [e_listOfR A2.at, Option.map_some]
        rfl
      have g0 : fCons (fV 1) (fCons (fV 2) (fCons (fOp ixD (fV 4) (fV 3)) (fCons (fCall tupleD (fCons (fV 10) fNil)) fNil))) (cR lb a t i (some (.lst (nmD a))) (some (lotD ys)) (some (.lst ((sendL a t r).map D.str))) x7 x8 x9 (some (.ref s.length)) none none) s2 = some ([a.d, tun t, .str r.nm, lotD zs], s2) := by
        simp only [e_cons, e_op, e_call, e_V, e_nil, List.getElem?_cons_zero, List.getElem?_cons_succ, Option.bind_some, ix_nm e, tz]
      have g1 := fn_ok (n := 4) g0 rfl ic
      have ib : isB true (.bl false) (.bl false) s2 = some (.bl false, s2) := rfl
      rw [decide_eq_false w]
      simp only [Bool.not_false, if_true, g1, e_C, Option.bind_some, ib, e_asB, Bool.false_eq_true, if_false, e_next]
  · obtain ⟨s0, g0, e0⟩ := A2
    exact ⟨s0, _, g0, e0⟩
noncomputable def tailW : FS := (sSeq (sFor (iRange1 (fCons (fC (.int 6)) fNil)) (.one 9) bodyV)
    (sRet (fOp eqD (fOp eqD (fV 5) (fTup fNil)) (fFn 3 fn_is_heard (fCons (fV 1) (fCons (fV 2) (fCons (fOp ixD (fV 4) (fV 3)) fNil)))))))
theorem tailW_ok (h : a.Ok) (ht : t.length = a.ss.length) (e : a.ss[i]? = some r) (hi : t.getD i 0 ≠ 0) (b : Bg lb s) :
    Ok (tailW (cR lb a t i (some (.lst (nmD a))) (some (lotD (fewL a t i r (sendL a t r)))) (some (.lst ((sendL a t r).map D.str))) x7 x8 x9 x10 none none) s) fun q => q.1 = .rt (.bl true) ∧ ∃ s2 more, q.2.2 = s2 ++ more ∧ Go lb s s2 := by
  have lp := for_ok (tg := .one 9) (b := bodyV) (src := []) (items := rangeD 0 6)
    (I := fun _ ρ s' => (∃ y9 y10, ρ = cR lb a t i (some (.lst (nmD a))) (some (lotD (fewL a t i r (sendL a t r)))) (some (.lst ((sendL a t r).map D.str))) x7 x8 y9 y10 none none) ∧ ∃ s2 more, s' = s2 ++ more ∧ Go lb s s2)
    (fun _ _ _ _ => Intact.nil) (fun j z hz ρ s' ⟨⟨y9, y10, hρ⟩, s2, more, hs, gg⟩ => by
      subst hρ; subst hs
      exact ⟨cR lb a t i (some (.lst (nmD a))) (some (lotD (fewL a t i r (sendL a t r)))) (some (.lst ((sendL a t r).map D.str))) x7 x8 (some z) y10 none none, rfl, (bodyV_ok h ht e hi ((gg.bg b.lt).app more)).mono fun q ⟨e1, ⟨y, e2⟩, s3, o, g3, e3⟩ => by
        obtain ⟨s4, rfl, g4⟩ := g3.app (by rw [gg.len]; exact b.lt)
        exact ⟨e1, ⟨_, y, e2⟩, s4, more ++ [o], by rw [e3, List.append_assoc], gg.trans g4⟩⟩)
    _ 0 (cR lb a t i (some (.lst (nmD a))) (some (lotD (fewL a t i r (sendL a t r)))) (some (.lst ((sendL a t r).map D.str))) x7 x8 x9 x10 none none) s rfl (Nat.zero_le _) ⟨⟨_, _, rfl⟩, s, [], (List.append_nil _).symm, .refl b⟩
  rw [List.drop_zero] at lp
  obtain ⟨⟨f, ρ2, s2⟩, ef, e1, ⟨y9, y10, e2⟩, s3, more, e3, g3⟩ := lp
  simp only at e1 e2 e3
  subst e1; subst e2
  unfold tailW
  rw [seq_nx (for_at (range_ok (n := 6) rfl (by decide)) ef)]
  refine ⟨(.rt (.bl true), cR lb a t i (some (.lst (nmD a))) (some (lotD (fewL a t i r (sendL a t r)))) (some (.lst ((sendL a t r).map D.str))) x7 x8 y9 y10 none none, s2), ret_ok ?_, rfl, s3, more, e3, g3⟩
  have hys := few_mem (a := a) (t := t) (i := i) (r := r) (xs := sendL a t r)
  have fn := few_nil h ht e hi
  generalize hy : fewL a t i r (sendL a t r) = ys at *
  have n5 := (eq_nil (st := s2) h hys).1
  have t0 : fTup fNil (cR lb a t i (some (.lst (nmD a))) (some (lotD ys)) (some (.lst ((sendL a t r).map D.str))) x7 x8 y9 y10 none none) s2 = some (.tup [], s2) := by simp [sizeLine_eq]
  have g0 : fCons (fV 1) (fCons (fV 2) (fCons (fOp ixD (fV 4) (fV 3)) fNil)) (cR lb a t i (some (.lst (nmD a))) (some (lotD ys)) (some (.lst ((sendL a t r).map D.str))) x7 x8 y9 y10 none none) s2 = some ([a.d, tun t, .str r.nm], s2) := by
    simp only [e_cons, e_op, e_V, e_nil, List.getElem?_cons_zero, List.getElem?_cons_succ, Option.bind_some, ix_nm e]
  have g1 := fn_ok (n := 3) g0 rfl (heard_eq (st := s2) h ht e)
  have hd : decide (ys = []) = heardB a t i r := by
    cases w : heardB a t i r with
    | true => exact decide_eq_true (fn.mpr w)
    | false => exact decide_eq_false fun z => by have := fn.mp z; rw [w] at this; cases this
  simp only [e_op, e_V, List.getElem?_cons_zero, List.getElem?_cons_succ, Option.bind_some, t0, n5, g1, hd]
  cases heardB a t i r <;> rfl
theorem cured_form : sb__law_cured_so = (sSeq (sSet 4 (fFn 1 fn__law_names (fCons (fV 1) fNil)))
    (sSeq (sSet 5 (fFn 3 fn_cure (fCons (fV 1) (fCons (fV 2) (fCons (fOp ixD (fV 4) (fV 3)) fNil)))))
    (sSeq (sSet 6 fOth)
    (sSeq (sSet 7 fMre)
    (sSeq (sIf (fTOr (fTst (fOp (isB true) (fFn 4 fn_is_cure (fCons (fV 1) (fCons (fV 2) (fCons (fOp ixD (fV 4) (fV 3)) (fCons (fV 5) fNil))))) (fC (.bl true)))) (fTst (fOp (isB true) (fFn 4 fn_is_cure (fCons (fV 1) (fCons (fV 2) (fCons (fOp ixD (fV 4) (fV 3)) (fCons (fV 7) fNil))))) (fC (.bl true))))) (sRet (fC (.bl false))) sNext)
    (sSeq (sIf (fTOr (fTNot (fTst (fFn 4 fn_enough (fCons (fV 1) (fCons (fV 2) (fCons (fOp ixD (fV 4) (fV 3)) (fCons (fCall lenD (fCons (fV 5) fNil)) fNil))))))) (fTst (fFn 4 fn_enough (fCons (fV 1) (fCons (fV 2) (fCons (fOp ixD (fV 4) (fV 3)) (fCons (fOp subD (fCall lenD (fCons (fV 5) fNil)) (fC (.int 1))) fNil))))))) (sRet (fC (.bl false))) sNext)
    (sSeq (sSet 8 fQui)
    (sSeq (sIf (fTst (fOp (isB true) (fFn 3 fn_is_heard (fCons (fV 1) (fCons (fV 8) (fCons (fOp ixD (fV 4) (fV 3)) fNil)))) (fC (.bl true)))) (sRet (fC (.bl false))) sNext)
    tailW)))))))) := rfl
theorem cured_so (h : a.Ok) (ht : t.length = a.ss.length) (hb : ∀ b ∈ t, 0 ≤ b ∧ b ≤ 9) (e : a.ss[i]? = some r) (hi : 0 < t.getD i 0) (b : Bg lb st) :
    Ok (fn__law_cured_so [.ref lb, a.d, tun t, .int (i : Nat)] st) fun p => p.1 = .bl true ∧ Go lb st p.2 := by
  unfold fn__law_cured_so
  refine seal_ok (P := fun d => d = .bl true) (ok_run ?_)
  simp only [List.map_cons, List.map_nil, List.length_cons, List.length_nil, List.replicate, List.cons_append, List.nil_append]
  rw [cured_form]
  have hi0 : t.getD i 0 ≠ 0 := by omega
  have hys := few_mem (a := a) (t := t) (i := i) (r := r) (xs := sendL a t r)
  obtain ⟨f1, f2⟩ := few_spec h e hi0
  have mh := fun zs => more_heard (t := t) (zs := zs) h e hi0
  have x8' := (send_sub (t := t) (r := r) h).length_le
  have n8 : nms.length = 8 := rfl
  have n1 : fFn 1 fn__law_names (fCons (fV 1) fNil) (cR lb a t i none none none none none none none none none) st = some (.lst (nmD a), st) := fn_ok (ds := [a.d]) (st1 := st) rfl rfl (names_eq h)
  rw [seq_nx (ρ1 := cR lb a t i (some (.lst (nmD a))) none none none none none none none none) (st1 := st) (set_ok n1)]
  have g2 : fCons (fV 1) (fCons (fV 2) (fCons (fOp ixD (fV 4) (fV 3)) fNil)) (cR lb a t i (some (.lst (nmD a))) none none none none none none none none) st = some ([a.d, tun t, .str r.nm], st) := by
    simp only [e_cons, e_op, e_V, e_nil, List.getElem?_cons_zero, List.getElem?_cons_succ, Option.bind_some, ix_nm e]
  have n2 := fn_ok (n := 3) g2 rfl (cure_eq (st := st) h ht e hi0)
  have tl := fun {s : Sto} {x7 x8 : Option D} (b : Bg lb s) => tailW_ok (x7 := x7) (x8 := x8) (x9 := none) (x10 := none) h ht e hi0 b
  have en := fun (s : Sto) (k : Int) => enough_eq (s := s) (k := k) h ht e hi0
  generalize hy : fewL a t i r (sendL a t r) = ys at *
  rw [seq_nx (ρ1 := cR lb a t i (some (.lst (nmD a))) (some (lotD ys)) none none none none none none none) (st1 := st) (set_ok n2)]
  rw [seq_nx (ρ1 := cR lb a t i (some (.lst (nmD a))) (some (lotD ys)) (some (.lst ((sendL a t r).map D.str))) none none none none none none) (st1 := st) (set_ok (oth_eq h ht hb e))]
  obtain ⟨⟨m, s2⟩, em, ⟨zs, e2, z1, z2⟩, gm⟩ := mre_ok (a := a) (t := t) (i := i) (x4 := some (.lst (nmD a))) (x7 := none) (x8 := none) (x9 := none) (x10 := none) (x11 := none) (xs := sendL a t r) (ys := ys) (by omega) b
  simp only at e2 gm
  subst e2
  have b2 := gm.bg b.lt
  rw [seq_nx (ρ1 := cR lb a t i (some (.lst (nmD a))) (some (lotD ys)) (some (.lst ((sendL a t r).map D.str))) (some (lotD zs)) none none none none none) (st1 := s2) (set_ok em)]
  -- both cure
  have c1 := is_cure_eq (st := s2) h ht e hi0 (lot_th h hys)
  rw [cure_sub h hys, f1] at c1
  have c2 := is_cure_eq (st := s2) h ht e hi0 (lot_th h z1)
  rw [cure_sub h z1, mh zs (fun y hy => z2 y (hys.subset hy) hy) (fun w => send_not (z1.subset w))] at c2
  have k1 : fCons (fV 1) (fCons (fV 2) (fCons (fOp ixD (fV 4) (fV 3)) (fCons (fV 5) fNil))) (cR lb a t i (some (.lst (nmD a))) (some (lotD ys)) (some (.lst ((sendL a t r).map D.str))) (some (lotD zs)) none none none none none) s2 = some ([a.d, tun t, .str r.nm, lotD ys], s2) := by
    simp only [e_cons, e_op, e_V, e_nil, List.getElem?_cons_zero, List.getElem?_cons_succ, Option.bind_some, ix_nm e]
  have k2 : fCons (fV 1) (fCons (fV 2) (fCons (fOp ixD (fV 4) (fV 3)) (fCons (fV 7) fNil))) (cR lb a t i (some (.lst (nmD a))) (some (lotD ys)) (some (.lst ((sendL a t r).map D.str))) (some (lotD zs)) none none none none none) s2 = some ([a.d, tun t, .str r.nm, lotD zs], s2) := by
    simp only [e_cons, e_op, e_V, e_nil, List.getElem?_cons_zero, List.getElem?_cons_succ, Option.bind_some, ix_nm e]
  have q1 := fn_ok (n := 4) k1 rfl c1
  have q2 := fn_ok (n := 4) k2 rfl c2
  have ib : isB true (.bl true) (.bl true) s2 = some (.bl false, s2) := rfl
  rw [seq_nx (ρ1 := cR lb a t i (some (.lst (nmD a))) (some (lotD ys)) (some (.lst ((sendL a t r).map D.str))) (some (lotD zs)) none none none none none) (st1 := s2) (by
    simp only [e_if, e_tor, e_tst, e_op, q1, q2, e_C, Option.bind_some, ib, e_asB, Bool.false_eq_true, if_false, e_next])]
  -- enough
  have l5 : lenD [lotD ys] s2 = some (.int (ys.length : Nat), s2) := by unfold lotD; rw [e_lenT, List.length_map]
  have k3 : fCons (fV 1) (fCons (fV 2) (fCons (fOp ixD (fV 4) (fV 3)) (fCons (fCall lenD (fCons (fV 5) fNil)) fNil))) (cR lb a t i (some (.lst (nmD a))) (some (lotD ys)) (some (.lst ((sendL a t r).map D.str))) (some (lotD zs)) none none none none none) s2 = some ([a.d, tun t, .str r.nm, .int (ys.length : Nat)], s2) := by
    simp only [e_cons, e_op, e_call, e_V, e_nil, List.getElem?_cons_zero, List.getElem?_cons_succ, Option.bind_some, ix_nm e, l5]
  have k4 : fCons (fV 1) (fCons (fV 2) (fCons (fOp ixD (fV 4) (fV 3)) (fCons (fOp subD (fCall lenD (fCons (fV 5) fNil)) (fC (.int 1))) fNil))) (cR lb a t i (some (.lst (nmD a))) (some (lotD ys)) (some (.lst ((sendL a t r).map D.str))) (some (lotD zs)) none none none none none) s2 = some ([a.d, tun t, .str r.nm, .int ((ys.length : Nat) - 1)], s2) := by
    simp only [e_cons, e_op, e_call, e_V, e_C, e_nil, List.getElem?_cons_zero, List.getElem?_cons_succ, Option.bind_some, ix_nm e, l5, e_subI]
  have q3 := fn_ok (n := 4) k3 rfl (en s2 _)
  have q4 := fn_ok (n := 4) k4 rfl (en s2 _)
  rw [decide_eq_true (Int.le_refl _)] at q3
  rw [decide_eq_false (by omega)] at q4
  rw [seq_nx (ρ1 := cR lb a t i (some (.lst (nmD a))) (some (lotD ys)) (some (.lst ((sendL a t r).map D.str))) (some (lotD zs)) none none none none none) (st1 := s2) (by
    simp only [e_if, e_tor, e_tnot, e_tst, q3, q4, Option.bind_some, e_asB, Bool.not_true, Bool.false_eq_true, if_false, e_next])]
  rw [seq_nx (ρ1 := cR lb a t i (some (.lst (nmD a))) (some (lotD ys)) (some (.lst ((sendL a t r).map D.str))) (some (lotD zs)) (some (tun (silT a t ys))) none none none none) (st1 := s2) (set_ok (qui_eq h ht))]
  have k5 : fCons (fV 1) (fCons (fV 8) (fCons (fOp ixD (fV 4) (fV 3)) fNil)) (cR lb a t i (some (.lst (nmD a))) (some (lotD ys)) (some (.lst ((sendL a t r).map D.str))) (some (lotD zs)) (some (tun (silT a t ys))) none none none none) s2 = some ([a.d, tun (silT a t ys), .str r.nm], s2) := by
    simp only [e_cons, e_op, e_V, e_nil, List.getElem?_cons_zero, List.getElem?_cons_succ, Option.bind_some, ix_nm e]
  have q5 := fn_ok (n := 3) k5 rfl (heard_eq (st := s2) h sil_len e)
  rw [f1] at q5
  rw [seq_nx (ρ1 := cR lb a t i (some (.lst (nmD a))) (some (lotD ys)) (some (.lst ((sendL a t r).map D.str))) (some (lotD zs)) (some (tun (silT a t ys))) none none none none) (st1 := s2) (by
    simp only [e_if, e_tst, e_op, q5, e_C, Option.bind_some, ib, e_asB, Bool.false_eq_true, if_false, e_next])]
  exact (tl b2).mono fun q ⟨e1, s3, more, e3, g3⟩ => ⟨.bl true, e1, rfl, rfl, s3, more, e3, gm.trans g3⟩
end
end EL

set_option Elab.async false
set_option linter.all false
set_option maxRecDepth 100000
set_option maxHeartbeats 4000000
namespace K11
open PySem PySem.Spec PyProof.Rows L2 GxR LG EL FW
def top (i : Nat) : Stmt := PySem.Challenge.pw_wavehall_k11_whole_silence_harms_nobody.main.body.getD i (.Pass ⟨0, 0, 0, 0⟩)
/-- the built-ins' names are not taken; the module's numbers -/
structure T0 (G : G0) : Prop where
  b_abs : G.mg "abs" = none
  b_all : G.mg "all" = none
  b_enumerate : G.mg "enumerate" = none
  b_isinstance : G.mg "isinstance" = none
  b_len : G.mg "len" = none
  b_list : G.mg "list" = none
  b_max : G.mg "max" = none
  b_min : G.mg "min" = none
  b_range : G.mg "range" = none
  b_sum : G.mg "sum" = none
  b_tuple : G.mg "tuple" = none
  b_zip : G.mg "zip" = none
  c_APART : ∃ t, G.mg "APART" = some (.int 2 t)
  c_SILENCE : ∃ t, G.mg "SILENCE" = some (.int 0 t)
variable {G : G0}
abbrev W0 : WX := fun _ _ _ _ => False
/-! ### _law_bag -/
abbrev st__law_bag : Stmt := top 33
theorem sc__law_bag : FnScope ["script", "k", "cell"] ["script", "k"] (defScope st__law_bag) := ⟨rfl, rfl, rfl, by decide +kernel, rfl, by decide +kernel, by decide +kernel⟩
theorem d__law_bag {cdv : Value} (T : T0 G) (F : FnAt G "_law_bag" st__law_bag cdv)  : Def G 1 "_law_bag" 2 fn__law_bag :=
  (def_at (W := W0) (k := 0) (sb := sb__law_bag) F sc__law_bag (fun _ _ _ _ _ us hl => match us, hl with | [_, _], _ => rfl) fun f A outer s H o hr hcell =>
    (ds_cons (x_set o 2 de_int)
    (ds_cons (ds_if (dt_cmp do_lt (x_var o 1) (x_bi o (dc_len o.on) T.b_len (by decide +kernel) (da_cons (x_var o 0) da_nil)) (nomark _)) (ds_one (x_set o 2 (x_bi o dc_abs T.b_abs (by decide +kernel) (da_cons (x_ix o (x_var o 0) (x_var o 1)) da_nil)))) ds_nil)
    (ds_cons (ds_if (dt_cmp do_lt (x_var o 2) (x_pow o de_int de_int) (nomark _)) (ds_one (ds_ret (de_lst (da_cons de_int (da_cons (x_add o de_int (x_mod o (x_add o (x_mul o (x_var o 2) de_int) (x_mul o de_int (x_var o 1))) de_int)) da_nil))))) ds_nil)
    (ds_one (ds_ret (de_lst (da_cons (x_var o 2) (da_cons (x_add o de_int (x_mod o (x_add o (x_var o 2) (x_var o 1)) de_int)) da_nil)))))))))
/-! ### _law_take -/
abbrev st__law_take : Stmt := top 34
theorem sc__law_take : FnScope ["bag", "many", "found"] ["bag", "many"] (defScope st__law_take) := ⟨rfl, rfl, rfl, by decide +kernel, rfl, by decide +kernel, by decide +kernel⟩
theorem d__law_take {cdv : Value} (T : T0 G) (F : FnAt G "_law_take" st__law_take cdv)  : Def G 1 "_law_take" 2 fn__law_take :=
  (def_at (W := W0) (k := 0) (sb := sb__law_take) F sc__law_take (fun _ _ _ _ _ us hl => match us, hl with | [_, _], _ => rfl) fun f A outer s H o hr hcell =>
    (ds_cons (ds_if (dt_cmp do_gt (x_ix o (x_var o 0) de_int) de_int (nomark _)) (ds_cons (x_set o 2 (x_mod o (x_ix o (x_var o 0) de_int) (x_var o 1)))
    (ds_cons (ds_put (x_fdiv o (x_ix o (x_var o 0) de_int) (x_var o 1)) (x_var o 0) de_int (pg_sub (x_var o 0) de_int set_list))
    (ds_one (ds_ret (x_var o 2))))) ds_nil)
    (ds_cons (ds_put (x_mod o (x_mul o (x_ix o (x_var o 0) de_int) de_int) de_int) (x_var o 0) de_int (pg_sub (x_var o 0) de_int set_list))
    (ds_one (ds_ret (x_mod o (x_fdiv o (x_mod o (x_mul o (x_ix o (x_var o 0) de_int) (x_ix o (x_var o 0) de_int)) de_int) de_int) (x_var o 1))))))).seal
/-! ### _law_stations -/
abbrev st__law_stations : Stmt := top 35
theorem sc__law_stations : FnScope ["bag", "most", "found", "wide", "name", "across", "along", "by", "hearer", "power", "need"] ["bag", "most"] (defScope st__law_stations) := ⟨rfl, rfl, rfl, by decide +kernel, rfl, by decide +kernel, by decide +kernel⟩
theorem d__law_stations {cdv : Value} (T : T0 G) (F : FnAt G "_law_stations" st__law_stations cdv) (d__law_take : Def G 1 "_law_take" 2 (fn__law_take)) : Def G 2 "_law_stations" 2 fn__law_stations :=
  (def_at (W := W0) (k := 1) (sb := sb__law_stations) F sc__law_stations (fun _ _ _ _ _ us hl => match us, hl with | [_, _], _ => rfl) fun f A outer s H o hr hcell =>
    (ds_cons (x_set o 2 (de_lst da_nil))
    (ds_cons (x_set o 3 (x_ix o (de_lz (da_cons de_int (da_cons de_int (da_cons de_int (da_cons de_int da_nil))))) (x_call o d__law_take (hr.mono (by decide)) (da_cons (x_var o 0) (da_cons de_int da_nil)))))
    (ds_cons (x_for o (x_in o (x_slice o (de_lz (da_cons de_str (da_cons de_str (da_cons de_str (da_cons de_str (da_cons de_str (da_cons de_str (da_cons de_str (da_cons de_str da_nil))))))))) dp_none (dp_some (x_add o de_int (x_call o d__law_take (hr.mono (by decide)) (da_cons (x_var o 0) (da_cons (x_var o 1) da_nil))))))) (x_tg1 o 4) (ds_cons (x_par2 o 5 6 (da_cons (x_sub o (x_call o d__law_take (hr.mono (by decide)) (da_cons (x_var o 0) (da_cons (x_add o (x_mul o de_int (x_var o 3)) de_int) da_nil))) (x_var o 3)) (da_cons (x_sub o (x_call o d__law_take (hr.mono (by decide)) (da_cons (x_var o 0) (da_cons (x_add o (x_mul o de_int (x_var o 3)) de_int) da_nil))) (x_var o 3)) da_nil)))
    (ds_cons (x_set o 7 (x_add o de_int (x_fdiv o (x_var o 3) de_int)))
    (ds_cons (x_set o 8 (de_tup (da_cons (x_bi o (dc_max o.on) T.b_max (by decide +kernel) (da_cons (de_neg de_int) (da_cons (x_sub o (x_var o 5) (x_call o d__law_take (hr.mono (by decide)) (da_cons (x_var o 0) (da_cons (x_var o 7) da_nil)))) da_nil))) (da_cons (x_bi o (dc_min o.on) T.b_min (by decide +kernel) (da_cons de_int (da_cons (x_add o (x_var o 6) (x_call o d__law_take (hr.mono (by decide)) (da_cons (x_var o 0) (da_cons (x_var o 7) da_nil)))) da_nil))) da_nil))))
    (ds_cons (x_set o 9 (x_ix o (de_lz (da_cons de_int (da_cons de_int (da_cons (x_add o de_int (x_call o d__law_take (hr.mono (by decide)) (da_cons (x_var o 0) (da_cons de_int da_nil)))) (da_cons (x_add o de_int (x_call o d__law_take (hr.mono (by decide)) (da_cons (x_var o 0) (da_cons de_int da_nil)))) da_nil))))) (x_call o d__law_take (hr.mono (by decide)) (da_cons (x_var o 0) (da_cons de_int da_nil)))))
    (ds_cons (x_set o 10 (x_add o de_int (x_call o d__law_take (hr.mono (by decide)) (da_cons (x_var o 0) (da_cons (x_ix o (de_lz (da_cons de_int (da_cons de_int (da_cons de_int da_nil)))) (x_call o d__law_take (hr.mono (by decide)) (da_cons (x_var o 0) (da_cons de_int da_nil)))) da_nil)))))
    (ds_one (ds_expr (de_append o.on (x_var o 2) (de_tup (da_cons (x_var o 4) (da_cons (de_tup (da_cons (x_var o 5) (da_cons (x_var o 6) da_nil))) (da_cons (x_var o 9) (da_cons (x_var o 8) (da_cons (x_var o 10) da_nil)))))))))))))))
    (ds_one (ds_ret (x_bt o (dc_tuple o.on) T.b_tuple (by decide +kernel) (da_cons (x_var o 2) da_nil)))))))).seal
/-! ### _law_air -/
abbrev st__law_air : Stmt := top 36
theorem sc__law_air : FnScope ["bag", "most"] ["bag", "most"] (defScope st__law_air) := ⟨rfl, rfl, rfl, by decide +kernel, rfl, by decide +kernel, by decide +kernel⟩
theorem d__law_air {cdv : Value} (T : T0 G) (F : FnAt G "_law_air" st__law_air cdv) (d__law_stations : Def G 2 "_law_stations" 2 (fn__law_stations)) (d__law_take : Def G 1 "_law_take" 2 (fn__law_take)) : Def G 3 "_law_air" 2 fn__law_air :=
  (def_at (W := W0) (k := 2) (sb := sb__law_air) F sc__law_air (fun _ _ _ _ _ us hl => match us, hl with | [_, _], _ => rfl) fun f A outer s H o hr hcell =>
    (ds_one (ds_ret (de_tup (da_cons (x_call o d__law_stations (hr.mono (by decide)) (da_cons (x_var o 0) (da_cons (x_var o 1) da_nil))) (da_cons (x_ix o (de_lz (da_cons de_int (da_cons de_int (da_cons (x_add o de_int (x_call o d__law_take (hr.mono (by decide)) (da_cons (x_var o 0) (da_cons de_int da_nil)))) da_nil)))) (x_call o d__law_take (hr.mono (by decide)) (da_cons (x_var o 0) (da_cons de_int da_nil)))) da_nil)))))).seal
/-! ### _law_tuning -/
abbrev st__law_tuning : Stmt := top 37
theorem sc__law_tuning : FnScope ["bag", "air", "bands", "silent", "found", "station"] ["bag", "air", "bands", "silent"] (defScope st__law_tuning) := ⟨rfl, rfl, rfl, by decide +kernel, rfl, by decide +kernel, by decide +kernel⟩
theorem d__law_tuning {cdv : Value} (T : T0 G) (F : FnAt G "_law_tuning" st__law_tuning cdv) (d__law_take : Def G 1 "_law_take" 2 (fn__law_take)) : Def G 2 "_law_tuning" 4 fn__law_tuning :=
  (def_at (W := W0) (k := 1) (sb := sb__law_tuning) F sc__law_tuning (fun _ _ _ _ _ us hl => match us, hl with | [_, _, _, _], _ => rfl) fun f A outer s H o hr hcell =>
    (ds_cons (x_set o 4 (de_lst da_nil))
    (ds_cons (x_for o (x_in o (x_ix o (x_var o 1) de_int)) (x_tg1 o 5) (ds_one (ds_expr (de_append o.on (x_var o 4) (de_if (PW.pt (dw_and (dt_tru o.on (x_var o 3)) (dw_and1 (dt_cmp (do_eq (k := 0) o.on (hr.mono (Nat.zero_le _))) (x_call o d__law_take (hr.mono (by decide)) (da_cons (x_var o 0) (da_cons de_int da_nil))) de_int (nomark _))))) de_int (x_add o de_int (x_call o d__law_take (hr.mono (by decide)) (da_cons (x_var o 0) (da_cons (x_var o 2) da_nil)))))))))
    (ds_one (ds_ret (x_bt o (dc_tuple o.on) T.b_tuple (by decide +kernel) (da_cons (x_var o 4) da_nil))))))).seal
/-! ### seat -/
abbrev st_seat : Stmt := top 14
theorem sc_seat : FnScope ["stations", "name", "at", "station"] ["stations", "name"] (defScope st_seat) := ⟨rfl, rfl, rfl, by decide +kernel, rfl, by decide +kernel, by decide +kernel⟩
theorem d_seat {cdv : Value} (T : T0 G) (F : FnAt G "seat" st_seat cdv)  : Def G 1 "seat" 2 fn_seat :=
  (def_at (W := W0) (k := 0) (sb := sb_seat) F sc_seat (fun _ _ _ _ _ us hl => match us, hl with | [_, _], _ => rfl) fun f A outer s H o hr hcell =>
    (ds_cons (x_for o (x_enum o T.b_enumerate (da_cons (x_var o 0) da_nil)) (x_tgm o (x_tgs o 2 (x_tgs o 3 dgs_nil))) (ds_one (ds_if (dt_cmp (do_eq (k := 0) o.on (hr.mono (Nat.zero_le _))) (x_ix o (x_var o 3) de_int) (x_var o 1) (nomark _)) (ds_one (ds_ret (x_var o 2))) ds_nil)))
    (ds_one ds_never))).seal
/-! ### spread -/
abbrev st_spread : Stmt := top 15
theorem sc_spread : FnScope ["place", "hearer", "across", "along"] ["place", "hearer"] (defScope st_spread) := ⟨rfl, rfl, rfl, by decide +kernel, rfl, by decide +kernel, by decide +kernel⟩
theorem d_spread {cdv : Value} (T : T0 G) (F : FnAt G "spread" st_spread cdv)  : Def G 1 "spread" 2 fn_spread :=
  (def_at (W := W0) (k := 0) (sb := sb_spread) F sc_spread (fun _ _ _ _ _ us hl => match us, hl with | [_, _], _ => rfl) fun f A outer s H o hr hcell =>
    (ds_cons (x_set o 2 (x_sub o (x_ix o (x_var o 1) de_int) (x_ix o (x_var o 0) de_int)))
    (ds_cons (x_set o 3 (x_sub o (x_ix o (x_var o 1) de_int) (x_ix o (x_var o 0) de_int)))
    (ds_one (ds_ret (x_add o (x_add o (x_mul o (x_var o 2) (x_var o 2)) (x_mul o (x_var o 3) (x_var o 3))) de_int)))))).seal
/-! ### ear -/
abbrev st_ear : Stmt := top 20
theorem sc_ear : FnScope ["air", "at", "stations", "leak", "hearer", "need", "spreads", "product", "much", "shares", "others", "station", "share"] ["air", "at"] (defScope st_ear) := ⟨rfl, rfl, rfl, by decide +kernel, rfl, by decide +kernel, by decide +kernel⟩
theorem d_ear {cdv : Value} (T : T0 G) (F : FnAt G "ear" st_ear cdv) (d_spread : Def G 1 "spread" 2 (fn_spread)) : Def G 2 "ear" 2 fn_ear :=
  (def_at (W := W0) (k := 1) (sb := sb_ear) F sc_ear (fun _ _ _ _ _ us hl => match us, hl with | [_, _], _ => rfl) fun f A outer s H o hr hcell =>
    (ds_cons (ds_unp (x_var o 0) (x_tgm o (x_tgs o 2 (x_tgs o 3 dgs_nil))))
    (ds_cons (ds_unp (x_slice o (x_ix o (x_var o 2) (x_var o 1)) (dp_some de_int) dp_none) (x_tgm o (x_tgs o 4 (x_tgs o 5 dgs_nil))))
    (ds_cons (x_setLcZ o 6 [("station", 11)] (x_in o (x_var o 2)) (fun X' o' hA => (x_tg1 o' 11)) (fun X' o' hA => dts_nil) (fun X' o' hA => (x_call o' d_spread (by rw [hA]; exact (hr.mono (by decide))) (da_cons (x_ix o' (x_var o' 11) de_int) (da_cons (x_var o' 4) da_nil)))))
    (ds_cons (x_set o 7 de_int)
    (ds_cons (x_for o (x_in o (x_var o 6)) (x_tg1 o 8) (ds_one (x_aug o 7 (x_var o 8) dip_mul)))
    (ds_cons (x_setLcZ o 9 [("station", 11), ("much", 8)] (x_zip2 o T.b_zip (da_cons (x_var o 2) (da_cons (x_var o 6) da_nil))) (fun X' o' hA => (x_tgm o' (x_tgs o' 11 (x_tgs o' 8 dgs_nil)))) (fun X' o' hA => dts_nil) (fun X' o' hA => (x_mul o' (x_ix o' (x_var o' 11) de_int) (x_fdiv o' (x_var o' 7) (x_var o' 8)))))
    (ds_cons (x_setLc o 10 [("share", 12)] (x_in o (x_var o 9)) (fun X' o' hA => (x_tg1 o' 12)) (fun X' o' hA => dts_nil) (fun X' o' hA => (de_tup (da_cons (x_mul o' (x_mul o' (x_var o' 5) (x_var o' 3)) (x_var o' 12)) (da_cons (x_mul o' (x_var o' 5) (x_var o' 12)) (da_cons de_int da_nil))))))
    (ds_cons (ds_put (de_tup (da_cons de_int (da_cons de_int (da_cons de_int da_nil)))) (x_var o 10) (x_var o 1) (pg_sub (x_var o 10) (x_var o 1) set_list))
    (ds_one (ds_ret (de_tup (da_cons (x_mul o (x_var o 3) (x_ix o (x_var o 9) (x_var o 1))) (da_cons (x_var o 10) da_nil)))))))))))))).seal
/-! ### gap -/
abbrev st_gap : Stmt := top 18
theorem sc_gap : FnScope ["band", "other"] ["band", "other"] (defScope st_gap) := ⟨rfl, rfl, rfl, by decide +kernel, rfl, by decide +kernel, by decide +kernel⟩
theorem d_gap {cdv : Value} (T : T0 G) (F : FnAt G "gap" st_gap cdv)  : Def G 1 "gap" 2 fn_gap :=
  (def_at (W := W0) (k := 0) (sb := sb_gap) F sc_gap (fun _ _ _ _ _ us hl => match us, hl with | [_, _], _ => rfl) fun f A outer s H o hr hcell =>
    (ds_cons (ds_if (dt_cmp (do_in (k := 0) o.on (hr.mono (Nat.zero_le _))) (x_gint o T.c_SILENCE) (de_tup (da_cons (x_var o 0) (da_cons (x_var o 1) da_nil))) (by rfl)) (ds_one (ds_ret (x_gint o T.c_APART))) ds_nil)
    (ds_one (ds_ret (x_bi o (dc_min o.on) T.b_min (by decide +kernel) (da_cons (x_bi o dc_abs T.b_abs (by decide +kernel) (da_cons (x_sub o (x_var o 0) (x_var o 1)) da_nil)) (da_cons (x_gint o T.c_APART) da_nil))))))).seal
/-! ### hears -/
abbrev st_hears : Stmt := top 21
theorem sc_hears : FnScope ["one_ear", "band", "tuning", "own", "others", "much", "there"] ["one_ear", "band", "tuning"] (defScope st_hears) := ⟨rfl, rfl, rfl, by decide +kernel, rfl, by decide +kernel, by decide +kernel⟩
theorem d_hears {cdv : Value} (T : T0 G) (F : FnAt G "hears" st_hears cdv) (d_gap : Def G 1 "gap" 2 (fn_gap)) : Def G 2 "hears" 3 fn_hears :=
  (def_at (W := W0) (k := 1) (sb := sb_hears) F sc_hears (fun _ _ _ _ _ us hl => match us, hl with | [_, _, _], _ => rfl) fun f A outer s H o hr hcell =>
    (ds_cons (ds_unp (x_var o 0) (x_tgm o (x_tgs o 3 (x_tgs o 4 dgs_nil))))
    (ds_one (ds_ret (de_cmp do_ge (x_var o 3) (x_bi o (dc_sum o.on) T.b_sum (by decide +kernel) (da_cons (x_lcZ o [("much", 5), ("there", 6)] (x_zip2 o T.b_zip (da_cons (x_var o 4) (da_cons (x_var o 2) da_nil))) (fun X' o' hA => (x_tgm o' (x_tgs o' 5 (x_tgs o' 6 dgs_nil)))) (fun X' o' hA => dts_nil) (fun X' o' hA => (x_ix o' (x_var o' 5) (x_call o' d_gap (by rw [hA]; exact (hr.mono (by decide))) (da_cons (x_var o' 1) (da_cons (x_var o' 6) da_nil)))))) da_nil)) (nomark _)))))).seal
/-! ### is_heard -/
abbrev st_is_heard : Stmt := top 22
theorem sc_is_heard : FnScope ["air", "tuning", "name", "at"] ["air", "tuning", "name"] (defScope st_is_heard) := ⟨rfl, rfl, rfl, by decide +kernel, rfl, by decide +kernel, by decide +kernel⟩
theorem d_is_heard {cdv : Value} (T : T0 G) (F : FnAt G "is_heard" st_is_heard cdv) (d_ear : Def G 2 "ear" 2 (fn_ear)) (d_hears : Def G 2 "hears" 3 (fn_hears)) (d_seat : Def G 1 "seat" 2 (fn_seat)) : Def G 3 "is_heard" 3 fn_is_heard :=
  (def_at (W := W0) (k := 2) (sb := sb_is_heard) F sc_is_heard (fun _ _ _ _ _ us hl => match us, hl with | [_, _, _], _ => rfl) fun f A outer s H o hr hcell =>
    (ds_cons (x_set o 3 (x_call o d_seat (hr.mono (by decide)) (da_cons (x_ix o (x_var o 0) de_int) (da_cons (x_var o 2) da_nil))))
    (ds_one (ds_ret (de_and (de_cmp (do_ne (k := 0) o.on (hr.mono (Nat.zero_le _))) (x_ix o (x_var o 1) (x_var o 3)) (x_gint o T.c_SILENCE) (nomark _)) (de_one (x_call o d_hears (hr.mono (by decide)) (da_cons (x_call o d_ear (hr.mono (by decide)) (da_cons (x_var o 0) (da_cons (x_var o 3) da_nil))) (da_cons (x_ix o (x_var o 1) (x_var o 3)) (da_cons (x_var o 1) da_nil)))))))))).seal
/-! ### common_divisor -/
abbrev st_common_divisor : Stmt := top 3
theorem sc_common_divisor : FnScope ["one", "other"] ["one", "other"] (defScope st_common_divisor) := ⟨rfl, rfl, rfl, by decide +kernel, rfl, by decide +kernel, by decide +kernel⟩
theorem d_common_divisor {cdv : Value} (T : T0 G) (F : FnAt G "common_divisor" st_common_divisor cdv)  : Def G 1 "common_divisor" 2 fn_common_divisor :=
  (def_at (W := W0) (k := 0) (sb := sb_common_divisor) F sc_common_divisor (fun _ _ _ _ _ us hl => match us, hl with | [_, _], _ => rfl) fun f A outer s H o hr hcell =>
    (ds_cons (ds_while PassesOwn.never (dt_cmp (do_ne (k := 0) o.on (hr.mono (Nat.zero_le _))) (x_var o 1) de_int (nomark _)) (ds_one (x_par2 o 0 1 (da_cons (x_var o 1) (da_cons (x_mod o (x_var o 0) (x_var o 1)) da_nil)))))
    (ds_one (ds_ret (x_var o 0))))).seal
/-! ### fraction -/
abbrev st_fraction : Stmt := top 4
theorem sc_fraction : FnScope ["top", "bottom", "common"] ["top", "bottom"] (defScope st_fraction) := ⟨rfl, rfl, rfl, by decide +kernel, rfl, by decide +kernel, by decide +kernel⟩
theorem d_fraction {cdv : Value} (T : T0 G) (F : FnAt G "fraction" st_fraction cdv) (d_common_divisor : Def G 1 "common_divisor" 2 (fn_common_divisor)) : Def G 2 "fraction" 2 fn_fraction :=
  (def_at (W := W0) (k := 1) (sb := sb_fraction) F sc_fraction (fun _ _ _ _ _ us hl => match us, hl with | [_, _], _ => rfl) fun f A outer s H o hr hcell =>
    (ds_cons (x_set o 2 (x_call o d_common_divisor (hr.mono (by decide)) (da_cons (x_var o 0) (da_cons (x_var o 1) da_nil))))
    (ds_cons (ds_if (dt_cmp (do_eq (k := 0) o.on (hr.mono (Nat.zero_le _))) (x_var o 2) de_int (nomark _)) (ds_one (ds_ret (de_tup (da_cons (x_var o 0) (da_cons (x_var o 1) da_nil))))) ds_nil)
    (ds_one (ds_ret (de_tup (da_cons (x_fdiv o (x_var o 0) (x_var o 2)) (da_cons (x_fdiv o (x_var o 1) (x_var o 2)) da_nil)))))))).seal
/-! ### total -/
abbrev st_total : Stmt := top 5
theorem sc_total : FnScope ["fractions", "top", "bottom", "more_top", "more_bottom"] ["fractions"] (defScope st_total) := ⟨rfl, rfl, rfl, by decide +kernel, rfl, by decide +kernel, by decide +kernel⟩
theorem d_total {cdv : Value} (T : T0 G) (F : FnAt G "total" st_total cdv) (d_fraction : Def G 2 "fraction" 2 (fn_fraction)) : Def G 3 "total" 1 fn_total :=
  (def_at (W := W0) (k := 2) (sb := sb_total) F sc_total (fun _ _ _ _ _ us hl => match us, hl with | [_], _ => rfl) fun f A outer s H o hr hcell =>
    (ds_cons (ds_unp (de_tup (da_cons de_int (da_cons de_int da_nil))) (x_tgm o (x_tgs o 1 (x_tgs o 2 dgs_nil))))
    (ds_cons (x_for o (x_in o (x_var o 0)) (x_tgm o (x_tgs o 3 (x_tgs o 4 dgs_nil))) (ds_one (ds_unp (x_call o d_fraction (hr.mono (by decide)) (da_cons (x_add o (x_mul o (x_var o 1) (x_var o 4)) (x_mul o (x_var o 3) (x_var o 2))) (da_cons (x_mul o (x_var o 2) (x_var o 4)) da_nil))) (x_tgm o (x_tgs o 1 (x_tgs o 2 dgs_nil))))))
    (ds_one (ds_ret (de_tup (da_cons (x_var o 1) (da_cons (x_var o 2) da_nil)))))))).seal
/-! ### arriving -/
abbrev st_arriving : Stmt := top 16
theorem sc_arriving : FnScope ["station", "hearer", "divisor"] ["station", "hearer", "divisor"] (defScope st_arriving) := ⟨rfl, rfl, rfl, by decide +kernel, rfl, by decide +kernel, by decide +kernel⟩
theorem d_arriving {cdv : Value} (T : T0 G) (F : FnAt G "arriving" st_arriving cdv) (d_fraction : Def G 2 "fraction" 2 (fn_fraction)) (d_spread : Def G 1 "spread" 2 (fn_spread)) : Def G 3 "arriving" 3 fn_arriving :=
  (def_at (W := W0) (k := 2) (sb := sb_arriving) F sc_arriving (fun _ _ _ _ _ us hl => match us, hl with | [_, _, _], _ => rfl) fun f A outer s H o hr hcell =>
    (ds_one (ds_ret (x_call o d_fraction (hr.mono (by decide)) (da_cons (x_ix o (x_var o 0) de_int) (da_cons (x_mul o (x_call o d_spread (hr.mono (by decide)) (da_cons (x_ix o (x_var o 0) de_int) (da_cons (x_var o 1) da_nil))) (x_var o 2)) da_nil)))))).seal
/-! ### comes -/
abbrev st_comes : Stmt := top 17
theorem sc_comes : FnScope ["stations", "name", "other", "sender", "receiver"] ["stations", "name", "other"] (defScope st_comes) := ⟨rfl, rfl, rfl, by decide +kernel, rfl, by decide +kernel, by decide +kernel⟩
theorem d_comes {cdv : Value} (T : T0 G) (F : FnAt G "comes" st_comes cdv) (d_arriving : Def G 3 "arriving" 3 (fn_arriving)) (d_seat : Def G 1 "seat" 2 (fn_seat)) : Def G 4 "comes" 3 fn_comes :=
  (def_at (W := W0) (k := 3) (sb := sb_comes) F sc_comes (fun _ _ _ _ _ us hl => match us, hl with | [_, _, _], _ => rfl) fun f A outer s H o hr hcell =>
    (ds_cons (x_set o 3 (x_ix o (x_var o 0) (x_call o d_seat (hr.mono (by decide)) (da_cons (x_var o 0) (da_cons (x_var o 1) da_nil)))))
    (ds_cons (x_set o 4 (x_ix o (x_var o 0) (x_call o d_seat (hr.mono (by decide)) (da_cons (x_var o 0) (da_cons (x_var o 2) da_nil)))))
    (ds_one (ds_ret (x_call o d_arriving (hr.mono (by decide)) (da_cons (x_var o 3) (da_cons (x_ix o (x_var o 4) de_int) (da_cons de_int da_nil))))))))).seal
/-! ### disturbed_by -/
abbrev st_disturbed_by : Stmt := top 19
theorem sc_disturbed_by : FnScope ["air", "tuning", "name", "stations", "leak", "at", "divisors", "told", "station", "band", "apart"] ["air", "tuning", "name"] (defScope st_disturbed_by) := ⟨rfl, rfl, rfl, by decide +kernel, rfl, by decide +kernel, by decide +kernel⟩
theorem d_disturbed_by {cdv : Value} (T : T0 G) (F : FnAt G "disturbed_by" st_disturbed_by cdv) (d_arriving : Def G 3 "arriving" 3 (fn_arriving)) (d_gap : Def G 1 "gap" 2 (fn_gap)) (d_seat : Def G 1 "seat" 2 (fn_seat)) : Def G 4 "disturbed_by" 3 fn_disturbed_by :=
  (def_at (W := W0) (k := 3) (sb := sb_disturbed_by) F sc_disturbed_by (fun _ _ _ _ _ us hl => match us, hl with | [_, _, _], _ => rfl) fun f A outer s H o hr hcell =>
    (ds_cons (ds_unp (x_var o 0) (x_tgm o (x_tgs o 3 (x_tgs o 4 dgs_nil))))
    (ds_cons (x_set o 5 (x_call o d_seat (hr.mono (by decide)) (da_cons (x_var o 3) (da_cons (x_var o 2) da_nil))))
    (ds_cons (x_set o 6 (de_tup (da_cons de_int (da_cons (x_var o 4) da_nil))))
    (ds_cons (x_set o 7 (de_lst da_nil))
    (ds_cons (x_for o (x_zip2 o T.b_zip (da_cons (x_var o 3) (da_cons (x_var o 1) da_nil))) (x_tgm o (x_tgs o 8 (x_tgs o 9 dgs_nil))) (ds_cons (x_set o 10 (x_call o d_gap (hr.mono (by decide)) (da_cons (x_ix o (x_var o 1) (x_var o 5)) (da_cons (x_var o 9) da_nil))))
    (ds_one (ds_if (PW.pt (dw_and (dt_cmp (do_ne (k := 0) o.on (hr.mono (Nat.zero_le _))) (x_var o 10) (x_gint o T.c_APART) (nomark _)) (dw_and1 (dt_cmp (do_ne (k := 0) o.on (hr.mono (Nat.zero_le _))) (x_ix o (x_var o 8) de_int) (x_var o 2) (nomark _))))) (ds_one (ds_expr (de_append o.on (x_var o 7) (de_tup (da_cons (x_ix o (x_var o 8) de_int) (da_cons (x_call o d_arriving (hr.mono (by decide)) (da_cons (x_var o 8) (da_cons (x_ix o (x_ix o (x_var o 3) (x_var o 5)) de_int) (da_cons (x_ix o (x_var o 6) (x_var o 10)) da_nil)))) da_nil)))))) ds_nil))))
    (ds_one (ds_ret (x_var o 7))))))))).seal
/-! ### margin -/
abbrev st_margin : Stmt := top 23
theorem sc_margin : FnScope ["air", "tuning", "name", "told", "stations", "own_top", "own_bottom", "top", "bottom", "need", "other", "much"] ["air", "tuning", "name"] (defScope st_margin) := ⟨rfl, rfl, rfl, by decide +kernel, rfl, by decide +kernel, by decide +kernel⟩
theorem d_margin {cdv : Value} (T : T0 G) (F : FnAt G "margin" st_margin cdv) (d_comes : Def G 4 "comes" 3 (fn_comes)) (d_disturbed_by : Def G 4 "disturbed_by" 3 (fn_disturbed_by)) (d_fraction : Def G 2 "fraction" 2 (fn_fraction)) (d_seat : Def G 1 "seat" 2 (fn_seat)) (d_total : Def G 3 "total" 1 (fn_total)) : Def G 5 "margin" 3 fn_margin :=
  (def_at (W := W0) (k := 4) (sb := sb_margin) F sc_margin (fun _ _ _ _ _ us hl => match us, hl with | [_, _, _], _ => rfl) fun f A outer s H o hr hcell =>
    (ds_cons (x_set o 3 (x_call o d_disturbed_by (hr.mono (by decide)) (da_cons (x_var o 0) (da_cons (x_var o 1) (da_cons (x_var o 2) da_nil)))))
    (ds_cons (ds_if (dt_not (dt_tru o.on (x_var o 3))) (ds_one (ds_ret de_non)) ds_nil)
    (ds_cons (x_set o 4 (x_ix o (x_var o 0) de_int))
    (ds_cons (ds_unp (x_call o d_comes (hr.mono (by decide)) (da_cons (x_var o 4) (da_cons (x_var o 2) (da_cons (x_var o 2) da_nil)))) (x_tgm o (x_tgs o 5 (x_tgs o 6 dgs_nil))))
    (ds_cons (ds_unp (x_call o d_total (hr.mono (by decide)) (da_cons (x_lcZ o [("other", 10), ("much", 11)] (x_in o (x_var o 3)) (fun X' o' hA => (x_tgm o' (x_tgs o' 10 (x_tgs o' 11 dgs_nil)))) (fun X' o' hA => dts_nil) (fun X' o' hA => (x_var o' 11))) da_nil)) (x_tgm o (x_tgs o 7 (x_tgs o 8 dgs_nil))))
    (ds_cons (x_set o 9 (x_ix o (x_ix o (x_var o 4) (x_call o d_seat (hr.mono (by decide)) (da_cons (x_var o 4) (da_cons (x_var o 2) da_nil)))) de_int))
    (ds_one (ds_ret (x_call o d_fraction (hr.mono (by decide)) (da_cons (x_mul o (x_var o 5) (x_var o 8)) (da_cons (x_mul o (x_mul o (x_var o 6) (x_var o 9)) (x_var o 7)) da_nil)))))))))))).seal
/-! ### _law_names -/
abbrev st__law_names : Stmt := top 38
theorem sc__law_names : FnScope ["air", "station"] ["air"] (defScope st__law_names) := ⟨rfl, rfl, rfl, by decide +kernel, rfl, by decide +kernel, by decide +kernel⟩
theorem d__law_names {cdv : Value} (T : T0 G) (F : FnAt G "_law_names" st__law_names cdv)  : Def G 1 "_law_names" 1 fn__law_names :=
  (def_at (W := W0) (k := 0) (sb := sb__law_names) F sc__law_names (fun _ _ _ _ _ us hl => match us, hl with | [_], _ => rfl) fun f A outer s H o hr hcell =>
    (ds_one (ds_ret (x_lcZ o [("station", 1)] (x_in o (x_ix o (x_var o 0) de_int)) (fun X' o' hA => (x_tg1 o' 1)) (fun X' o' hA => dts_nil) (fun X' o' hA => (x_ix o' (x_var o' 1) de_int)))))).seal
/-! ### _law_no_less -/
abbrev st__law_no_less : Stmt := top 39
theorem sc__law_no_less : FnScope ["one", "other"] ["one", "other"] (defScope st__law_no_less) := ⟨rfl, rfl, rfl, by decide +kernel, rfl, by decide +kernel, by decide +kernel⟩
theorem d__law_no_less {cdv : Value} (T : T0 G) (F : FnAt G "_law_no_less" st__law_no_less cdv)  : Def G 1 "_law_no_less" 2 fn__law_no_less :=
  (def_at (W := W0) (k := 0) (sb := sb__law_no_less) F sc__law_no_less (fun _ _ _ _ _ us hl => match us, hl with | [_, _], _ => rfl) fun f A outer s H o hr hcell =>
    (ds_one (ds_ret (de_or (de_cmp do_isB (x_var o 0) de_non (nomark _)) (de_one (de_and (de_cmp do_isnB (x_var o 1) de_non (nomark _)) (de_one (de_cmp do_ge (x_mul o (x_ix o (x_var o 0) de_int) (x_ix o (x_var o 1) de_int)) (x_mul o (x_ix o (x_var o 1) de_int) (x_ix o (x_var o 0) de_int)) (nomark _))))))))).seal
/-! ### _law_silenced_so -/
abbrev st__law_silenced_so : Stmt := top 40
theorem sc__law_silenced_so : FnScope ["air", "tuning", "at", "quiet", "place", "name"] ["air", "tuning", "at"] (defScope st__law_silenced_so) := ⟨rfl, rfl, rfl, by decide +kernel, rfl, by decide +kernel, by decide +kernel⟩
theorem d__law_silenced_so {cdv : Value} (T : T0 G) (F : FnAt G "_law_silenced_so" st__law_silenced_so cdv) (d__law_names : Def G 1 "_law_names" 1 (fn__law_names)) (d__law_no_less : Def G 1 "_law_no_less" 2 (fn__law_no_less)) (d_is_heard : Def G 3 "is_heard" 3 (fn_is_heard)) (d_margin : Def G 5 "margin" 3 (fn_margin)) : Def G 6 "_law_silenced_so" 3 fn__law_silenced_so :=
  (def_at (W := W0) (k := 5) (sb := sb__law_silenced_so) F sc__law_silenced_so (fun _ _ _ _ _ us hl => match us, hl with | [_, _, _], _ => rfl) fun f A outer s H o hr hcell =>
    (ds_cons (x_set o 3 (x_add o (x_add o (x_slice o (x_var o 1) dp_none (dp_some (x_var o 2))) (de_tup (da_cons de_int da_nil))) (x_slice o (x_var o 1) (dp_some (x_add o (x_var o 2) de_int)) dp_none)))
    (ds_cons (x_for o (x_enum o T.b_enumerate (da_cons (x_call o d__law_names (hr.mono (by decide)) (da_cons (x_var o 0) da_nil)) da_nil)) (x_tgm o (x_tgs o 4 (x_tgs o 5 dgs_nil))) (ds_one (ds_if (dt_cmp do_gt (x_ix o (x_var o 3) (x_var o 4)) de_int (nomark _)) (ds_cons (ds_if (PW.pt (dw_and (dt_val (x_call o d_is_heard (hr.mono (by decide)) (da_cons (x_var o 0) (da_cons (x_var o 1) (da_cons (x_var o 5) da_nil))))) (dw_and1 (dt_not (dt_val (x_call o d_is_heard (hr.mono (by decide)) (da_cons (x_var o 0) (da_cons (x_var o 3) (da_cons (x_var o 5) da_nil))))))))) (ds_one (ds_ret de_bl)) ds_nil)
    (ds_one (ds_if (dt_not (dt_val (x_call o d__law_no_less (hr.mono (by decide)) (da_cons (x_call o d_margin (hr.mono (by decide)) (da_cons (x_var o 0) (da_cons (x_var o 3) (da_cons (x_var o 5) da_nil)))) (da_cons (x_call o d_margin (hr.mono (by decide)) (da_cons (x_var o 0) (da_cons (x_var o 1) (da_cons (x_var o 5) da_nil)))) da_nil))))) (ds_one (ds_ret de_bl)) ds_nil))) ds_nil)))
    (ds_one (ds_ret (de_cmp do_isB (x_call o d_is_heard (hr.mono (by decide)) (da_cons (x_var o 0) (da_cons (x_var o 3) (da_cons (x_ix o (x_ix o (x_ix o (x_var o 0) de_int) (x_var o 2)) de_int) da_nil)))) de_bl (nomark _))))))).seal
/-! ### other_senders -/
abbrev st_other_senders : Stmt := top 25
theorem sc_other_senders : FnScope ["air", "tuning", "name", "stations", "station", "band"] ["air", "tuning", "name"] (defScope st_other_senders) := ⟨rfl, rfl, rfl, by decide +kernel, rfl, by decide +kernel, by decide +kernel⟩
theorem d_other_senders {cdv : Value} (T : T0 G) (F : FnAt G "other_senders" st_other_senders cdv) (d_seat : Def G 1 "seat" 2 (fn_seat)) : Def G 2 "other_senders" 3 fn_other_senders :=
  (def_at (W := W0) (k := 1) (sb := sb_other_senders) F sc_other_senders (fun _ _ _ _ _ us hl => match us, hl with | [_, _, _], _ => rfl) fun f A outer s H o hr hcell =>
    (ds_cons (x_set o 3 (x_ix o (x_var o 0) de_int))
    (ds_cons (ds_if (dt_cmp (do_eq (k := 0) o.on (hr.mono (Nat.zero_le _))) (x_ix o (x_var o 1) (x_call o d_seat (hr.mono (by decide)) (da_cons (x_var o 3) (da_cons (x_var o 2) da_nil)))) (x_gint o T.c_SILENCE) (nomark _)) (ds_one ds_never) ds_nil)
    (ds_one (ds_ret (x_lcZ o [("station", 4), ("band", 5)] (x_zip2 o T.b_zip (da_cons (x_var o 3) (da_cons (x_var o 1) da_nil))) (fun X' o' hA => (x_tgm o' (x_tgs o' 4 (x_tgs o' 5 dgs_nil)))) (fun X' o' hA => (dts_one (PW.pt (dw_and (dt_cmp (do_ne (k := 0) o'.on (by rw [hA]; exact (hr.mono (Nat.zero_le _)))) (x_var o' 5) (x_gint o' T.c_SILENCE) (nomark _)) (dw_and1 (dt_cmp (do_ne (k := 0) o'.on (by rw [hA]; exact (hr.mono (Nat.zero_le _)))) (x_ix o' (x_var o' 4) de_int) (x_var o' 2) (nomark _))))))) (fun X' o' hA => (x_ix o' (x_var o' 4) de_int)))))))).seal
/-! ### silenced -/
abbrev st_silenced : Stmt := top 26
theorem sc_silenced : FnScope ["air", "tuning", "names", "stations"] ["air", "tuning", "names"] (defScope st_silenced) := ⟨rfl, rfl, rfl, by decide +kernel, rfl, by decide +kernel, by decide +kernel⟩
theorem d_silenced {cc P : Addr} (hP : P ∈ G.Ps) (hTB : TabB G.base G.mg cc P) (T : T0 G) (F : FnAt G "silenced" st_silenced (.ref cc))  : Def G 6 "silenced" 3 fn_silenced :=
  (def_at (W := W0) (k := 5) (sb := sb_silenced) F sc_silenced (fun _ _ _ _ _ us hl => match us, hl with | [_, _, _], _ => rfl) fun f A outer s H o hr hcell =>
    (ds_cons (x_set o 3 (x_ix o (x_var o 0) de_int))
    (ds_one (ds_ret (x_tupG (k := 0) o ["station", "band", "names"] [none, none, some 2] hP (hr.mono (by decide)) T.b_tuple hTB rfl (x_zip2 o T.b_zip (da_cons (x_var o 3) (da_cons (x_var o 1) da_nil))) (fun X' o' hr' => (x_tgm o' (x_tgs o' 0 (x_tgs o' 1 dgs_nil)))) (fun X' o' hr' => (de_if (dt_cmp (do_in (k := 0) o'.on (hr'.mono (Nat.zero_le _))) (x_ix o' (x_var o' 0) de_int) (x_var o' 2) (by rfl)) (x_gint o' T.c_SILENCE) (x_var o' 1))) (gsc_by o hcell (by decide +kernel)) (hcap := (cap_ok (by decide +kernel)))))))).seal
/-! ### choices -/
abbrev st_choices : Stmt := top 27
theorem sc_choices : FnScope ["names", "many", "chosen", "at", "name", "rest"] ["names", "many"] (defScope st_choices) := ⟨rfl, rfl, rfl, by decide +kernel, rfl, by decide +kernel, by decide +kernel⟩
theorem s_choices {cdv : Value} (T : T0 G) (F : FnAt G "choices" st_choices cdv)  (n : Nat) (d_rec : Def G (0 + 1 + n) "choices" 2 (fn_choices n)) : Def G (0 + 1 + n + 1) "choices" 2 (fn_choices (n + 1)) :=
  (def_at (W := W0) (k := 0 + 1 + n) (sb := sb_choices (fn_choices n)) F sc_choices (fun _ _ _ _ _ us hl => match us, hl with | [_, _], _ => rfl) fun f A outer s H o hr hcell => let hrR := hr;
    (ds_cons (ds_if (dt_cmp (do_eq (k := 0) o.on (hr.mono (Nat.zero_le _))) (x_var o 1) de_int (nomark _)) (ds_one (ds_ret (de_lz (da_cons (de_tup da_nil) da_nil)))) ds_nil)
    (ds_cons (x_set o 2 (de_lst da_nil))
    (ds_cons (x_for o (x_enum o T.b_enumerate (da_cons (x_var o 0) da_nil)) (x_tgm o (x_tgs o 3 (x_tgs o 4 dgs_nil))) (ds_one (x_for o (x_in o (x_call o d_rec hrR (da_cons (x_slice o (x_var o 0) (dp_some (x_add o (x_var o 3) de_int)) dp_none) (da_cons (x_sub o (x_var o 1) de_int) da_nil)))) (x_tg1 o 5) (ds_one (ds_expr (de_append o.on (x_var o 2) (de_tup (da_cons (x_var o 4) (da_star o.on (x_var o 5) da_nil)))))))))
    (ds_one (ds_ret (x_var o 2))))))).seal
theorem d_choices {cdv : Value} (T : T0 G) (F : FnAt G "choices" st_choices cdv)  : ∀ n : Nat, Def G (0 + 1 + n) "choices" 2 (fn_choices n)
  | 0 => def_never F sc_choices (fun _ _ _ _ _ us hl => match us, hl with | [_, _], _ => rfl)
  | n + 1 => s_choices T F  n (d_choices T F  n)
/-! ### fewest_of -/
abbrev st_fewest_of : Stmt := top 28
theorem sc_fewest_of : FnScope ["air", "tuning", "name", "others", "many", "names"] ["air", "tuning", "name", "others"] (defScope st_fewest_of) := ⟨rfl, rfl, rfl, by decide +kernel, rfl, by decide +kernel, by decide +kernel⟩
theorem d_fewest_of {cdv : Value} (T : T0 G) (F : FnAt G "fewest_of" st_fewest_of cdv) (d_choices : Def G 11 "choices" 2 (fn_choices 10)) (d_is_heard : Def G 3 "is_heard" 3 (fn_is_heard)) (d_silenced : Def G 6 "silenced" 3 (fn_silenced)) : Def G 12 "fewest_of" 4 fn_fewest_of :=
  (def_at (W := W0) (k := 11) (sb := sb_fewest_of) F sc_fewest_of (fun _ _ _ _ _ us hl => match us, hl with | [_, _, _, _], _ => rfl) fun f A outer s H o hr hcell =>
    (ds_cons (x_for o (x_rng1 o T.b_range (da_cons (x_bi o (dc_len o.on) T.b_len (by decide +kernel) (da_cons (x_var o 3) da_nil)) da_nil)) (x_tg1 o 4) (ds_one (x_for o (x_in o (x_call o d_choices (hr.mono (by decide)) (da_cons (x_var o 3) (da_cons (x_var o 4) da_nil)))) (x_tg1 o 5) (ds_one (ds_if (dt_val (x_call o d_is_heard (hr.mono (by decide)) (da_cons (x_var o 0) (da_cons (x_call o d_silenced (hr.mono (by decide)) (da_cons (x_var o 0) (da_cons (x_var o 1) (da_cons (x_var o 5) da_nil)))) (da_cons (x_var o 2) da_nil))))) (ds_one (ds_ret (x_var o 5))) ds_nil)))))
    (ds_one (ds_ret (x_bt o (dc_tuple o.on) T.b_tuple (by decide +kernel) (da_cons (x_var o 3) da_nil)))))).seal
/-! ### cure -/
abbrev st_cure : Stmt := top 29
theorem sc_cure : FnScope ["air", "tuning", "name"] ["air", "tuning", "name"] (defScope st_cure) := ⟨rfl, rfl, rfl, by decide +kernel, rfl, by decide +kernel, by decide +kernel⟩
theorem d_cure {cdv : Value} (T : T0 G) (F : FnAt G "cure" st_cure cdv) (d_fewest_of : Def G 12 "fewest_of" 4 (fn_fewest_of)) (d_other_senders : Def G 2 "other_senders" 3 (fn_other_senders)) : Def G 13 "cure" 3 fn_cure :=
  (def_at (W := W0) (k := 12) (sb := sb_cure) F sc_cure (fun _ _ _ _ _ us hl => match us, hl with | [_, _, _], _ => rfl) fun f A outer s H o hr hcell =>
    (ds_one (ds_ret (x_call o d_fewest_of (hr.mono (by decide)) (da_cons (x_var o 0) (da_cons (x_var o 1) (da_cons (x_var o 2) (da_cons (x_call o d_other_senders (hr.mono (by decide)) (da_cons (x_var o 0) (da_cons (x_var o 1) (da_cons (x_var o 2) da_nil)))) da_nil)))))))).seal
/-! ### is_rising -/
abbrev st_is_rising : Stmt := top 1
theorem sc_is_rising : FnScope ["things"] ["things"] (defScope st_is_rising) := ⟨rfl, rfl, rfl, by decide +kernel, rfl, by decide +kernel, by decide +kernel⟩
theorem d_is_rising {cc P : Addr} (hP : P ∈ G.Ps) (hTB : TabB G.base G.mg cc P) (T : T0 G) (F : FnAt G "is_rising" st_is_rising (.ref cc))  : Def G 2 "is_rising" 1 fn_is_rising :=
  (def_at (W := W0) (k := 1) (sb := sb_is_rising) F sc_is_rising (fun _ _ _ _ _ us hl => match us, hl with | [_], _ => rfl) fun f A outer s H o hr hcell =>
    (ds_one (ds_ret (x_all (k := 0) o ["one", "other"] [none, none] hP (hr.mono (by decide)) T.b_all hTB rfl (x_zip2 o T.b_zip (da_cons (x_var o 0) (da_cons (x_slice o (x_var o 0) (dp_some de_int) dp_none) da_nil))) (fun X' o' hr' => (x_tgm o' (x_tgs o' 0 (x_tgs o' 1 dgs_nil)))) (fun X' o' hr' => (de_cmp do_lt (x_var o' 0) (x_var o' 1) (nomark _))) (gsc_by o hcell (by decide +kernel)) (hcap := (cap_ok (by decide +kernel))))))).seal
/-! ### is_cure -/
abbrev st_is_cure : Stmt := top 30
theorem sc_is_cure : FnScope ["air", "tuning", "name", "thing", "others"] ["air", "tuning", "name", "thing"] (defScope st_is_cure) := ⟨rfl, rfl, rfl, by decide +kernel, rfl, by decide +kernel, by decide +kernel⟩
theorem d_is_cure {cc P : Addr} (hP : P ∈ G.Ps) (hTB : TabB G.base G.mg cc P) (T : T0 G) (F : FnAt G "is_cure" st_is_cure (.ref cc)) (d_is_heard : Def G 3 "is_heard" 3 (fn_is_heard)) (d_is_rising : Def G 2 "is_rising" 1 (fn_is_rising)) (d_other_senders : Def G 2 "other_senders" 3 (fn_other_senders)) (d_silenced : Def G 6 "silenced" 3 (fn_silenced)) : Def G 7 "is_cure" 4 fn_is_cure :=
  (def_at (W := W0) (k := 6) (sb := sb_is_cure) F sc_is_cure (fun _ _ _ _ _ us hl => match us, hl with | [_, _, _, _], _ => rfl) fun f A outer s H o hr hcell =>
    (ds_cons (x_set o 4 (x_call o d_other_senders (hr.mono (by decide)) (da_cons (x_var o 0) (da_cons (x_var o 1) (da_cons (x_var o 2) da_nil)))))
    (ds_cons (ds_if (PW.pt (dw_or (dt_not (dt_val (x_bi o (dc_isi o.on) T.b_isinstance (by decide +kernel) (da_cons (x_var o 3) (da_cons (x_ty o T.b_tuple (by decide +kernel)) da_nil))))) (dw_or1 (dt_not (dt_val (x_all (k := 0) o ["part", "others"] [none, some 4] hP (hr.mono (by decide)) T.b_all hTB rfl (x_in o (x_var o 3)) (fun X' o' hr' => (x_tg1 o' 0)) (fun X' o' hr' => (de_cmp (do_in (k := 0) o'.on (hr'.mono (Nat.zero_le _))) (x_var o' 0) (x_var o' 1) (by rfl))) (gsc_by o hcell (by decide +kernel)) (hcap := (cap_ok (by decide +kernel))))))))) (ds_one (ds_ret de_bl)) ds_nil)
    (ds_one (ds_ret (de_and (x_call o d_is_rising (hr.mono (by decide)) (da_cons (x_var o 3) da_nil)) (de_one (x_call o d_is_heard (hr.mono (by decide)) (da_cons (x_var o 0) (da_cons (x_call o d_silenced (hr.mono (by decide)) (da_cons (x_var o 0) (da_cons (x_var o 1) (da_cons (x_var o 3) da_nil)))) (da_cons (x_var o 2) da_nil))))))))))).seal
/-! ### enough -/
abbrev st_enough : Stmt := top 31
theorem sc_enough : FnScope ["air", "tuning", "name", "many"] ["air", "tuning", "name", "many"] (defScope st_enough) := ⟨rfl, rfl, rfl, by decide +kernel, rfl, by decide +kernel, by decide +kernel⟩
theorem d_enough {cdv : Value} (T : T0 G) (F : FnAt G "enough" st_enough cdv) (d_cure : Def G 13 "cure" 3 (fn_cure)) : Def G 14 "enough" 4 fn_enough :=
  (def_at (W := W0) (k := 13) (sb := sb_enough) F sc_enough (fun _ _ _ _ _ us hl => match us, hl with | [_, _, _, _], _ => rfl) fun f A outer s H o hr hcell =>
    (ds_one (ds_ret (de_cmp do_le (x_bi o (dc_len o.on) T.b_len (by decide +kernel) (da_cons (x_call o d_cure (hr.mono (by decide)) (da_cons (x_var o 0) (da_cons (x_var o 1) (da_cons (x_var o 2) da_nil)))) da_nil)) (x_var o 3) (nomark _))))).seal
/-! ### _law_cured_so -/
abbrev st__law_cured_so : Stmt := top 41
theorem sc__law_cured_so : FnScope ["bag", "air", "tuning", "at", "names", "told", "others", "more", "quiet", "turn", "left", "place", "name"] ["bag", "air", "tuning", "at"] (defScope st__law_cured_so) := ⟨rfl, rfl, rfl, by decide +kernel, rfl, by decide +kernel, by decide +kernel⟩
theorem d__law_cured_so {cdv : Value} (T : T0 G) (F : FnAt G "_law_cured_so" st__law_cured_so cdv) (d__law_names : Def G 1 "_law_names" 1 (fn__law_names)) (d__law_take : Def G 1 "_law_take" 2 (fn__law_take)) (d_cure : Def G 13 "cure" 3 (fn_cure)) (d_enough : Def G 14 "enough" 4 (fn_enough)) (d_is_cure : Def G 7 "is_cure" 4 (fn_is_cure)) (d_is_heard : Def G 3 "is_heard" 3 (fn_is_heard)) : Def G 15 "_law_cured_so" 4 fn__law_cured_so :=
  (def_at (W := W0) (k := 14) (sb := sb__law_cured_so) F sc__law_cured_so (fun _ _ _ _ _ us hl => match us, hl with | [_, _, _, _], _ => rfl) fun f A outer s H o hr hcell =>
    (ds_cons (x_set o 4 (x_call o d__law_names (hr.mono (by decide)) (da_cons (x_var o 1) da_nil)))
    (ds_cons (x_set o 5 (x_call o d_cure (hr.mono (by decide)) (da_cons (x_var o 1) (da_cons (x_var o 2) (da_cons (x_ix o (x_var o 4) (x_var o 3)) da_nil)))))
    (ds_cons (x_setLcZ o 6 [("place", 11)] (x_rng1 o T.b_range (da_cons (x_bi o (dc_len o.on) T.b_len (by decide +kernel) (da_cons (x_var o 4) da_nil)) da_nil)) (fun X' o' hA => (x_tg1 o' 11)) (fun X' o' hA => (dts_one (PW.pt (dw_and (dt_cmp (do_ne (k := 0) o'.on (by rw [hA]; exact (hr.mono (Nat.zero_le _)))) (x_var o' 11) (x_var o' 3) (nomark _)) (dw_and1 (dt_cmp do_gt (x_ix o' (x_var o' 2) (x_var o' 11)) de_int (nomark _))))))) (fun X' o' hA => (x_ix o' (x_var o' 4) (x_var o' 11))))
    (ds_cons (x_set o 7 (x_bt o (dc_tuple o.on) T.b_tuple (by decide +kernel) (da_cons (x_lcZ o [("name", 12)] (x_in o (x_var o 6)) (fun X' o' hA => (x_tg1 o' 12)) (fun X' o' hA => (dts_one (PW.pt (dw_or (dt_cmp (do_in (k := 0) o'.on (by rw [hA]; exact (hr.mono (Nat.zero_le _)))) (x_var o' 12) (x_var o' 5) (by rfl)) (dw_or1 (dt_cmp (do_eq (k := 0) o'.on (by rw [hA]; exact (hr.mono (Nat.zero_le _)))) (x_call o' d__law_take (by rw [hA]; exact (hr.mono (by decide))) (da_cons (x_var o' 0) (da_cons de_int da_nil))) de_int (nomark _))))))) (fun X' o' hA => (x_var o' 12))) da_nil)))
    (ds_cons (ds_if (PW.pt (dw_or (dt_cmp do_isnB (x_call o d_is_cure (hr.mono (by decide)) (da_cons (x_var o 1) (da_cons (x_var o 2) (da_cons (x_ix o (x_var o 4) (x_var o 3)) (da_cons (x_var o 5) da_nil))))) de_bl (nomark _)) (dw_or1 (dt_cmp do_isnB (x_call o d_is_cure (hr.mono (by decide)) (da_cons (x_var o 1) (da_cons (x_var o 2) (da_cons (x_ix o (x_var o 4) (x_var o 3)) (da_cons (x_var o 7) da_nil))))) de_bl (nomark _))))) (ds_one (ds_ret de_bl)) ds_nil)
    (ds_cons (ds_if (PW.pt (dw_or (dt_not (dt_val (x_call o d_enough (hr.mono (by decide)) (da_cons (x_var o 1) (da_cons (x_var o 2) (da_cons (x_ix o (x_var o 4) (x_var o 3)) (da_cons (x_bi o (dc_len o.on) T.b_len (by decide +kernel) (da_cons (x_var o 5) da_nil)) da_nil))))))) (dw_or1 (dt_val (x_call o d_enough (hr.mono (by decide)) (da_cons (x_var o 1) (da_cons (x_var o 2) (da_cons (x_ix o (x_var o 4) (x_var o 3)) (da_cons (x_sub o (x_bi o (dc_len o.on) T.b_len (by decide +kernel) (da_cons (x_var o 5) da_nil)) de_int) da_nil))))))))) (ds_one (ds_ret de_bl)) ds_nil)
    (ds_cons (x_set o 8 (x_bt o (dc_tuple o.on) T.b_tuple (by decide +kernel) (da_cons (x_lcZ o [("place", 11)] (x_rng1 o T.b_range (da_cons (x_bi o (dc_len o.on) T.b_len (by decide +kernel) (da_cons (x_var o 4) da_nil)) da_nil)) (fun X' o' hA => (x_tg1 o' 11)) (fun X' o' hA => dts_nil) (fun X' o' hA => (de_if (dt_cmp (do_in (k := 0) o'.on (by rw [hA]; exact (hr.mono (Nat.zero_le _)))) (x_ix o' (x_var o' 4) (x_var o' 11)) (x_var o' 5) (by rfl)) de_int (x_ix o' (x_var o' 2) (x_var o' 11))))) da_nil)))
    (ds_cons (ds_if (dt_cmp do_isnB (x_call o d_is_heard (hr.mono (by decide)) (da_cons (x_var o 1) (da_cons (x_var o 8) (da_cons (x_ix o (x_var o 4) (x_var o 3)) da_nil)))) de_bl (nomark _)) (ds_one (ds_ret de_bl)) ds_nil)
    (ds_cons (x_for o (x_rng1 o T.b_range (da_cons de_int da_nil)) (x_tg1 o 9) (ds_cons (x_set o 10 (x_bt o (dc_list o.on) T.b_list (by decide +kernel) (da_cons (x_var o 6) da_nil)))
    (ds_cons (ds_while PassesOwn.never (dt_cmp do_gt (x_bi o (dc_len o.on) T.b_len (by decide +kernel) (da_cons (x_var o 10) da_nil)) (x_bi o (dc_max o.on) T.b_max (by decide +kernel) (da_cons de_int (da_cons (x_sub o (x_bi o (dc_len o.on) T.b_len (by decide +kernel) (da_cons (x_var o 5) da_nil)) de_int) da_nil))) (nomark _)) (ds_one (ds_expr (de_pop o.on (x_var o 10) (x_call o d__law_take (hr.mono (by decide)) (da_cons (x_var o 0) (da_cons (x_bi o (dc_len o.on) T.b_len (by decide +kernel) (da_cons (x_var o 10) da_nil)) da_nil)))))))
    (ds_one (ds_if (PW.pt (dw_and (dt_cmp (do_ne (k := 0) o.on (hr.mono (Nat.zero_le _))) (x_var o 5) (de_tup da_nil) (nomark _)) (dw_and1 (dt_cmp do_isnB (x_call o d_is_cure (hr.mono (by decide)) (da_cons (x_var o 1) (da_cons (x_var o 2) (da_cons (x_ix o (x_var o 4) (x_var o 3)) (da_cons (x_bt o (dc_tuple o.on) T.b_tuple (by decide +kernel) (da_cons (x_var o 10) da_nil)) da_nil))))) de_bl (nomark _))))) (ds_one (ds_ret de_bl)) ds_nil)))))
    (ds_one (ds_ret (de_cmp (do_eq (k := 0) o.on (hr.mono (Nat.zero_le _))) (de_cmp (do_eq (k := 0) o.on (hr.mono (Nat.zero_le _))) (x_var o 5) (de_tup da_nil) (nomark _)) (x_call o d_is_heard (hr.mono (by decide)) (da_cons (x_var o 1) (da_cons (x_var o 2) (da_cons (x_ix o (x_var o 4) (x_var o 3)) da_nil)))) (nomark _)))))))))))))).seal
/-! ### law -/
abbrev st_law : Stmt := top 42
theorem sc_law : FnScope ["script", "k", "bag", "air", "bands", "tuning", "at"] ["script"] (defScope st_law) := ⟨rfl, rfl, rfl, by decide +kernel, rfl, by decide +kernel, by decide +kernel⟩
noncomputable def sb_law : FS :=
    (sSeq (sFor (iRange1 (fCons (fOp addD (fC (.int 1)) (fCall minD (fCons (fCall lenD (fCons (fV 0) fNil)) (fCons (fC (.int 10)) fNil)))) fNil)) (.one 1) (sSeq (sSet 2 (fFn 2 fn__law_bag (fCons (fV 0) (fCons (fV 1) fNil))))
    (sSeq (sSet 3 (fFn 2 fn__law_air (fCons (fV 2) (fCons (fC (.int 8)) fNil))))
    (sFor (iSeq (fLz (fCons (fC (.int 1)) (fCons (fC (.int 2)) (fCons (fC (.int 3)) fNil))))) (.one 4) (sSeq (sSet 5 (fFn 4 fn__law_tuning (fCons (fV 2) (fCons (fV 3) (fCons (fV 4) (fCons (fOp eqD (fFn 2 fn__law_take (fCons (fV 2) (fCons (fC (.int 2)) fNil))) (fC (.int 0))) fNil))))))
    (sFor (iRange1 (fCons (fCall lenD (fCons (fV 5) fNil)) fNil)) (.one 6) (sIf (fTst (fOp gtD (fOp ixD (fV 5) (fV 6)) (fC (.int 0)))) (sIf (fTOr (fTNot (fTst (fFn 3 fn__law_silenced_so (fCons (fV 3) (fCons (fV 5) (fCons (fV 6) fNil)))))) (fTNot (fTst (fFn 4 fn__law_cured_so (fCons (fV 2) (fCons (fV 3) (fCons (fV 5) (fCons (fV 6) fNil)))))))) (sRet (fC (.bl false))) sNext) sNext)))))))
    (sRet (fC (.bl true))))
noncomputable def fn_law : HA := runD 7 sb_law
theorem b_law {cdv : Value} (T : T0 G) (d__law_air : Def G 3 "_law_air" 2 (fn__law_air)) (d__law_bag : Def G 1 "_law_bag" 2 (fn__law_bag)) (d__law_cured_so : Def G 15 "_law_cured_so" 4 (fn__law_cured_so)) (d__law_silenced_so : Def G 6 "_law_silenced_so" 3 (fn__law_silenced_so)) (d__law_take : Def G 1 "_law_take" 2 (fn__law_take)) (d__law_tuning : Def G 2 "_law_tuning" 4 (fn__law_tuning)) : ∀ (f : Addr) (A : Around) (outer : List Env) (s : Shared) (H : Hp), Here G (bodyCx G ["script", "k", "bag", "air", "bands", "tuning", "at"] "law" (defScope st_law) f cdv A outer s H) ["script", "k", "bag", "air", "bands", "tuning", "at"] (defScope st_law) → Room 15 (bodyCx G ["script", "k", "bag", "air", "bands", "tuning", "at"] "law" (defScope st_law) f cdv A outer s H).A → (∀ x : Str, (defScope st_law).names.lookup x = some .cell → ∃ c, (bodyCx G ["script", "k", "bag", "air", "bands", "tuning", "at"] "law" (defScope st_law) f cdv A outer s H).env.cells.lookup x = some c) → PSs (bodyCx G ["script", "k", "bag", "air", "bands", "tuning", "at"] "law" (defScope st_law) f cdv A outer s H) (defBody st_law) (liftS G W0 sb_law) :=
  fun f A outer s H o hr hcell =>
    (ds_cons (x_for o (x_rng1 o T.b_range (da_cons (x_add o de_int (x_bi o (dc_min o.on) T.b_min (by decide +kernel) (da_cons (x_bi o (dc_len o.on) T.b_len (by decide +kernel) (da_cons (x_var o 0) da_nil)) (da_cons de_int da_nil)))) da_nil)) (x_tg1 o 1) (ds_cons (x_set o 2 (x_call o d__law_bag (hr.mono (by decide)) (da_cons (x_var o 0) (da_cons (x_var o 1) da_nil))))
    (ds_cons (x_set o 3 (x_call o d__law_air (hr.mono (by decide)) (da_cons (x_var o 2) (da_cons de_int da_nil))))
    (ds_one (x_for o (x_in o (de_lz (da_cons de_int (da_cons de_int (da_cons de_int da_nil))))) (x_tg1 o 4) (ds_cons (x_set o 5 (x_call o d__law_tuning (hr.mono (by decide)) (da_cons (x_var o 2) (da_cons (x_var o 3) (da_cons (x_var o 4) (da_cons (de_cmp (do_eq (k := 0) o.on (hr.mono (Nat.zero_le _))) (x_call o d__law_take (hr.mono (by decide)) (da_cons (x_var o 2) (da_cons de_int da_nil))) de_int (nomark _)) da_nil))))))
    (ds_one (x_for o (x_rng1 o T.b_range (da_cons (x_bi o (dc_len o.on) T.b_len (by decide +kernel) (da_cons (x_var o 5) da_nil)) da_nil)) (x_tg1 o 6) (ds_one (ds_if (dt_cmp do_gt (x_ix o (x_var o 5) (x_var o 6)) de_int (nomark _)) (ds_one (ds_if (PW.pt (dw_or (dt_not (dt_val (x_call o d__law_silenced_so (hr.mono (by decide)) (da_cons (x_var o 3) (da_cons (x_var o 5) (da_cons (x_var o 6) da_nil)))))) (dw_or1 (dt_not (dt_val (x_call o d__law_cured_so (hr.mono (by decide)) (da_cons (x_var o 2) (da_cons (x_var o 3) (da_cons (x_var o 5) (da_cons (x_var o 6) da_nil)))))))))) (ds_one (ds_ret de_bl)) ds_nil)) ds_nil))))))))))
    (ds_one (ds_ret de_bl)))
end K11

set_option Elab.async false
set_option linter.all false
set_option maxRecDepth 100000
set_option maxHeartbeats 0
namespace K11
open PySem PySem.Spec PyProof.Rows L2 GxR LG EL FW
def dd__law_bag : He.DefD := ⟨("_law_bag", none), "_law_bag", "_law_bag", defArgs st__law_bag, defBody st__law_bag, defScope st__law_bag, [], []⟩
def dd__law_take : He.DefD := ⟨("_law_take", none), "_law_take", "_law_take", defArgs st__law_take, defBody st__law_take, defScope st__law_take, [], []⟩
def dd__law_stations : He.DefD := ⟨("_law_stations", none), "_law_stations", "_law_stations", defArgs st__law_stations, defBody st__law_stations, defScope st__law_stations, [], []⟩
def dd__law_air : He.DefD := ⟨("_law_air", none), "_law_air", "_law_air", defArgs st__law_air, defBody st__law_air, defScope st__law_air, [], []⟩
def dd__law_tuning : He.DefD := ⟨("_law_tuning", none), "_law_tuning", "_law_tuning", defArgs st__law_tuning, defBody st__law_tuning, defScope st__law_tuning, [], []⟩
def dd_seat : He.DefD := ⟨("seat", none), "seat", "seat", defArgs st_seat, defBody st_seat, defScope st_seat, [], []⟩
def dd_spread : He.DefD := ⟨("spread", none), "spread", "spread", defArgs st_spread, defBody st_spread, defScope st_spread, [], []⟩
def dd_ear : He.DefD := ⟨("ear", none), "ear", "ear", defArgs st_ear, defBody st_ear, defScope st_ear, [], []⟩
def dd_gap : He.DefD := ⟨("gap", none), "gap", "gap", defArgs st_gap, defBody st_gap, defScope st_gap, [], []⟩
def dd_hears : He.DefD := ⟨("hears", none), "hears", "hears", defArgs st_hears, defBody st_hears, defScope st_hears, [], []⟩
def dd_is_heard : He.DefD := ⟨("is_heard", none), "is_heard", "is_heard", defArgs st_is_heard, defBody st_is_heard, defScope st_is_heard, [], []⟩
def dd_common_divisor : He.DefD := ⟨("common_divisor", none), "common_divisor", "common_divisor", defArgs st_common_divisor, defBody st_common_divisor, defScope st_common_divisor, [], []⟩
def dd_fraction : He.DefD := ⟨("fraction", none), "fraction", "fraction", defArgs st_fraction, defBody st_fraction, defScope st_fraction, [], []⟩
def dd_total : He.DefD := ⟨("total", none), "total", "total", defArgs st_total, defBody st_total, defScope st_total, [], []⟩
def dd_arriving : He.DefD := ⟨("arriving", none), "arriving", "arriving", defArgs st_arriving, defBody st_arriving, defScope st_arriving, [], []⟩
def dd_comes : He.DefD := ⟨("comes", none), "comes", "comes", defArgs st_comes, defBody st_comes, defScope st_comes, [], []⟩
def dd_disturbed_by : He.DefD := ⟨("disturbed_by", none), "disturbed_by", "disturbed_by", defArgs st_disturbed_by, defBody st_disturbed_by, defScope st_disturbed_by, [], []⟩
def dd_margin : He.DefD := ⟨("margin", none), "margin", "margin", defArgs st_margin, defBody st_margin, defScope st_margin, [], []⟩
def dd__law_names : He.DefD := ⟨("_law_names", none), "_law_names", "_law_names", defArgs st__law_names, defBody st__law_names, defScope st__law_names, [], []⟩
def dd__law_no_less : He.DefD := ⟨("_law_no_less", none), "_law_no_less", "_law_no_less", defArgs st__law_no_less, defBody st__law_no_less, defScope st__law_no_less, [], []⟩
def dd__law_silenced_so : He.DefD := ⟨("_law_silenced_so", none), "_law_silenced_so", "_law_silenced_so", defArgs st__law_silenced_so, defBody st__law_silenced_so, defScope st__law_silenced_so, [], []⟩
def dd_other_senders : He.DefD := ⟨("other_senders", none), "other_senders", "other_senders", defArgs st_other_senders, defBody st_other_senders, defScope st_other_senders, [], []⟩
def dd_silenced : He.DefD := ⟨("silenced", none), "silenced", "silenced", defArgs st_silenced, defBody st_silenced, defScope st_silenced, [], []⟩
def dd_choices : He.DefD := ⟨("choices", none), "choices", "choices", defArgs st_choices, defBody st_choices, defScope st_choices, [], []⟩
def dd_fewest_of : He.DefD := ⟨("fewest_of", none), "fewest_of", "fewest_of", defArgs st_fewest_of, defBody st_fewest_of, defScope st_fewest_of, [], []⟩
def dd_cure : He.DefD := ⟨("cure", none), "cure", "cure", defArgs st_cure, defBody st_cure, defScope st_cure, [], []⟩
def dd_is_rising : He.DefD := ⟨("is_rising", none), "is_rising", "is_rising", defArgs st_is_rising, defBody st_is_rising, defScope st_is_rising, [], []⟩
def dd_is_cure : He.DefD := ⟨("is_cure", none), "is_cure", "is_cure", defArgs st_is_cure, defBody st_is_cure, defScope st_is_cure, [], []⟩
def dd_enough : He.DefD := ⟨("enough", none), "enough", "enough", defArgs st_enough, defBody st_enough, defScope st_enough, [], []⟩
def dd__law_cured_so : He.DefD := ⟨("_law_cured_so", none), "_law_cured_so", "_law_cured_so", defArgs st__law_cured_so, defBody st__law_cured_so, defScope st__law_cured_so, [], []⟩
def dd_law : He.DefD := ⟨("law", none), "law", "law", defArgs st_law, defBody st_law, defScope st_law, [], []⟩
def fnL : List He.DefD := [dd__law_bag, dd__law_take, dd__law_stations, dd__law_air, dd__law_tuning, dd_seat, dd_spread, dd_ear, dd_gap, dd_hears, dd_is_heard, dd_common_divisor, dd_fraction, dd_total, dd_arriving, dd_comes, dd_disturbed_by, dd_margin, dd__law_names, dd__law_no_less, dd__law_silenced_so, dd_other_senders, dd_silenced, dd_choices, dd_fewest_of, dd_cure, dd_is_rising, dd_is_cure, dd_enough, dd__law_cured_so, dd_law]
def faL : List He.Fa := [.glo "_law_bag", .glo "_law_take", .glo "_law_stations", .glo "_law_air", .glo "_law_tuning", .glo "seat", .glo "spread", .glo "ear", .glo "gap", .glo "hears", .glo "is_heard", .glo "common_divisor", .glo "fraction", .glo "total", .glo "arriving", .glo "comes", .glo "disturbed_by", .glo "margin", .glo "_law_names", .glo "_law_no_less", .glo "_law_silenced_so", .glo "other_senders", .glo "silenced", .glo "choices", .glo "fewest_of", .glo "cure", .glo "is_rising", .glo "is_cure", .glo "enough", .glo "_law_cured_so", .glo "law", .free "abs", .free "all", .free "enumerate", .free "isinstance", .free "len", .free "list", .free "max", .free "min", .free "range", .free "sum", .free "tuple", .free "zip", .int "APART" 2, .int "SILENCE" 0]
def tfL : List He.Defn := [("silenced", none), ("is_rising", none), ("is_cure", none)]
abbrev RR : PySem.W.OpenRow := PySem.W.OpenLaw.row PySem.Challenge.rw_wavehall_k11_whole_silence_harms_nobody
abbrev hkL : PySem.W.Hook := He.hookX 4 faL fnL [] tfL (fun _ => true)
def obL (s : PySem.W.SharedT) : He.AlX := He.obsX 4 faL fnL [] tfL (fun _ => true) (HandSHeadRun.getT s)
theorem ob_eq (s : PySem.W.SharedT) : obL s = hkL.obs s.abs := He.obsX_eq (HandSHeadRun.getT_eq s)
def looseL : List PySem.Str := (["is_rising", "copied", "common_divisor", "fraction", "total", "WaveError", "AskedError", "NoStation", "Silent", "SILENCE", "APART", "seat"] : List PySem.Str) ++ (["spread", "arriving", "comes", "gap", "disturbed_by", "ear", "hears", "is_heard", "margin", "other_senders", "silenced", "choices"] : List PySem.Str) ++ (["fewest_of", "cure", "is_cure", "enough", "_law_bag", "_law_take", "_law_stations", "_law_air", "_law_tuning", "_law_names", "_law_no_less", "_law_silenced_so"] : List PySem.Str) ++ (["_law_cured_so"] : List PySem.Str)
theorem runL (w : World) : HandSHeadRun.RunEq RR (PySem.W.view RR.prog [42]) hkL obL 4000 looseL w := by
  intro os
  kernel_rfl
section
variable {G : G0}
theorem facts {h : Heap} {w : World} (X : G.K.In h) (Gs : h.Ns mainGlobals G.mg) (c : He.SaysX faL fnL [] tfL (fun _ => true) w h G.K) (hPs : G.Ps = (tfL.map (He.cT G.K)).map (·.2)) (tb : ∀ p ∈ tfL.map (He.cT G.K), GxR.TabB G.base G.mg p.1 p.2) : T0 G ∧ (
    Def G 3 "_law_air" 2 (fn__law_air) ∧ Def G 1 "_law_bag" 2 (fn__law_bag) ∧ Def G 15 "_law_cured_so" 4 (fn__law_cured_so) ∧ Def G 6 "_law_silenced_so" 3 (fn__law_silenced_so) ∧ Def G 1 "_law_take" 2 (fn__law_take) ∧ Def G 2 "_law_tuning" 4 (fn__law_tuning)) := by
  have T : T0 G := ⟨He.free_ok X Gs (c.t.d.fact 31 (f := .free "abs") rfl), He.free_ok X Gs (c.t.d.fact 32 (f := .free "all") rfl), He.free_ok X Gs (c.t.d.fact 33 (f := .free "enumerate") rfl), He.free_ok X Gs (c.t.d.fact 34 (f := .free "isinstance") rfl), He.free_ok X Gs (c.t.d.fact 35 (f := .free "len") rfl), He.free_ok X Gs (c.t.d.fact 36 (f := .free "list") rfl), He.free_ok X Gs (c.t.d.fact 37 (f := .free "max") rfl), He.free_ok X Gs (c.t.d.fact 38 (f := .free "min") rfl), He.free_ok X Gs (c.t.d.fact 39 (f := .free "range") rfl), He.free_ok X Gs (c.t.d.fact 40 (f := .free "sum") rfl), He.free_ok X Gs (c.t.d.fact 41 (f := .free "tuple") rfl), He.free_ok X Gs (c.t.d.fact 42 (f := .free "zip") rfl), He.int_ok X Gs (c.t.d.fact 43 (f := .int "APART" 2) rfl), He.int_ok X Gs (c.t.d.fact 44 (f := .int "SILENCE" 0) rfl)⟩
  obtain ⟨fd_0, D_0⟩ := c.t.d.def_ 0 (d := dd__law_bag) rfl
  obtain ⟨_, F__law_bag, _⟩ := fnAt_of (st := st__law_bag) X Gs D_0 (c.t.d.fact 0 (f := .glo "_law_bag") rfl)
  have d__law_bag := K11.d__law_bag T F__law_bag 
  obtain ⟨fd_1, D_1⟩ := c.t.d.def_ 1 (d := dd__law_take) rfl
  obtain ⟨_, F__law_take, _⟩ := fnAt_of (st := st__law_take) X Gs D_1 (c.t.d.fact 1 (f := .glo "_law_take") rfl)
  have d__law_take := K11.d__law_take T F__law_take 
  obtain ⟨fd_2, D_2⟩ := c.t.d.def_ 2 (d := dd__law_stations) rfl
  obtain ⟨_, F__law_stations, _⟩ := fnAt_of (st := st__law_stations) X Gs D_2 (c.t.d.fact 2 (f := .glo "_law_stations") rfl)
  have d__law_stations := K11.d__law_stations T F__law_stations d__law_take
  obtain ⟨fd_3, D_3⟩ := c.t.d.def_ 3 (d := dd__law_air) rfl
  obtain ⟨_, F__law_air, _⟩ := fnAt_of (st := st__law_air) X Gs D_3 (c.t.d.fact 3 (f := .glo "_law_air") rfl)
  have d__law_air := K11.d__law_air T F__law_air d__law_stations d__law_take
  obtain ⟨fd_4, D_4⟩ := c.t.d.def_ 4 (d := dd__law_tuning) rfl
  obtain ⟨_, F__law_tuning, _⟩ := fnAt_of (st := st__law_tuning) X Gs D_4 (c.t.d.fact 4 (f := .glo "_law_tuning") rfl)
  have d__law_tuning := K11.d__law_tuning T F__law_tuning d__law_take
  obtain ⟨fd_5, D_5⟩ := c.t.d.def_ 5 (d := dd_seat) rfl
  obtain ⟨_, F_seat, _⟩ := fnAt_of (st := st_seat) X Gs D_5 (c.t.d.fact 5 (f := .glo "seat") rfl)
  have d_seat := K11.d_seat T F_seat 
  obtain ⟨fd_6, D_6⟩ := c.t.d.def_ 6 (d := dd_spread) rfl
  obtain ⟨_, F_spread, _⟩ := fnAt_of (st := st_spread) X Gs D_6 (c.t.d.fact 6 (f := .glo "spread") rfl)
  have d_spread := K11.d_spread T F_spread 
  obtain ⟨fd_7, D_7⟩ := c.t.d.def_ 7 (d := dd_ear) rfl
  obtain ⟨_, F_ear, _⟩ := fnAt_of (st := st_ear) X Gs D_7 (c.t.d.fact 7 (f := .glo "ear") rfl)
  have d_ear := K11.d_ear T F_ear d_spread
  obtain ⟨fd_8, D_8⟩ := c.t.d.def_ 8 (d := dd_gap) rfl
  obtain ⟨_, F_gap, _⟩ := fnAt_of (st := st_gap) X Gs D_8 (c.t.d.fact 8 (f := .glo "gap") rfl)
  have d_gap := K11.d_gap T F_gap 
  obtain ⟨fd_9, D_9⟩ := c.t.d.def_ 9 (d := dd_hears) rfl
  obtain ⟨_, F_hears, _⟩ := fnAt_of (st := st_hears) X Gs D_9 (c.t.d.fact 9 (f := .glo "hears") rfl)
  have d_hears := K11.d_hears T F_hears d_gap
  obtain ⟨fd_10, D_10⟩ := c.t.d.def_ 10 (d := dd_is_heard) rfl
  obtain ⟨_, F_is_heard, _⟩ := fnAt_of (st := st_is_heard) X Gs D_10 (c.t.d.fact 10 (f := .glo "is_heard") rfl)
  have d_is_heard := K11.d_is_heard T F_is_heard d_ear d_hears d_seat
  obtain ⟨fd_11, D_11⟩ := c.t.d.def_ 11 (d := dd_common_divisor) rfl
  obtain ⟨_, F_common_divisor, _⟩ := fnAt_of (st := st_common_divisor) X Gs D_11 (c.t.d.fact 11 (f := .glo "common_divisor") rfl)
  have d_common_divisor := K11.d_common_divisor T F_common_divisor 
  obtain ⟨fd_12, D_12⟩ := c.t.d.def_ 12 (d := dd_fraction) rfl
  obtain ⟨_, F_fraction, _⟩ := fnAt_of (st := st_fraction) X Gs D_12 (c.t.d.fact 12 (f := .glo "fraction") rfl)
  have d_fraction := K11.d_fraction T F_fraction d_common_divisor
  obtain ⟨fd_13, D_13⟩ := c.t.d.def_ 13 (d := dd_total) rfl
  obtain ⟨_, F_total, _⟩ := fnAt_of (st := st_total) X Gs D_13 (c.t.d.fact 13 (f := .glo "total") rfl)
  have d_total := K11.d_total T F_total d_fraction
  obtain ⟨fd_14, D_14⟩ := c.t.d.def_ 14 (d := dd_arriving) rfl
  obtain ⟨_, F_arriving, _⟩ := fnAt_of (st := st_arriving) X Gs D_14 (c.t.d.fact 14 (f := .glo "arriving") rfl)
  have d_arriving := K11.d_arriving T F_arriving d_fraction d_spread
  obtain ⟨fd_15, D_15⟩ := c.t.d.def_ 15 (d := dd_comes) rfl
  obtain ⟨_, F_comes, _⟩ := fnAt_of (st := st_comes) X Gs D_15 (c.t.d.fact 15 (f := .glo "comes") rfl)
  have d_comes := K11.d_comes T F_comes d_arriving d_seat
  obtain ⟨fd_16, D_16⟩ := c.t.d.def_ 16 (d := dd_disturbed_by) rfl
  obtain ⟨_, F_disturbed_by, _⟩ := fnAt_of (st := st_disturbed_by) X Gs D_16 (c.t.d.fact 16 (f := .glo "disturbed_by") rfl)
  have d_disturbed_by := K11.d_disturbed_by T F_disturbed_by d_arriving d_gap d_seat
  obtain ⟨fd_17, D_17⟩ := c.t.d.def_ 17 (d := dd_margin) rfl
  obtain ⟨_, F_margin, _⟩ := fnAt_of (st := st_margin) X Gs D_17 (c.t.d.fact 17 (f := .glo "margin") rfl)
  have d_margin := K11.d_margin T F_margin d_comes d_disturbed_by d_fraction d_seat d_total
  obtain ⟨fd_18, D_18⟩ := c.t.d.def_ 18 (d := dd__law_names) rfl
  obtain ⟨_, F__law_names, _⟩ := fnAt_of (st := st__law_names) X Gs D_18 (c.t.d.fact 18 (f := .glo "_law_names") rfl)
  have d__law_names := K11.d__law_names T F__law_names 
  obtain ⟨fd_19, D_19⟩ := c.t.d.def_ 19 (d := dd__law_no_less) rfl
  obtain ⟨_, F__law_no_less, _⟩ := fnAt_of (st := st__law_no_less) X Gs D_19 (c.t.d.fact 19 (f := .glo "_law_no_less") rfl)
  have d__law_no_less := K11.d__law_no_less T F__law_no_less 
  obtain ⟨fd_20, D_20⟩ := c.t.d.def_ 20 (d := dd__law_silenced_so) rfl
  obtain ⟨_, F__law_silenced_so, _⟩ := fnAt_of (st := st__law_silenced_so) X Gs D_20 (c.t.d.fact 20 (f := .glo "_law_silenced_so") rfl)
  have d__law_silenced_so := K11.d__law_silenced_so T F__law_silenced_so d__law_names d__law_no_less d_is_heard d_margin
  obtain ⟨fd_21, D_21⟩ := c.t.d.def_ 21 (d := dd_other_senders) rfl
  obtain ⟨_, F_other_senders, _⟩ := fnAt_of (st := st_other_senders) X Gs D_21 (c.t.d.fact 21 (f := .glo "other_senders") rfl)
  have d_other_senders := K11.d_other_senders T F_other_senders d_seat
  obtain ⟨fd_22, D_22⟩ := c.t.d.def_ 22 (d := dd_silenced) rfl
  have F_silenced : FnAt G "silenced" st_silenced (.ref (He.cT G.K ("silenced", none)).1) := fnAt_tab (st := st_silenced) X Gs D_22 (c.t.d.fact 22 (f := .glo "silenced") rfl)
  have m_silenced : He.cT G.K ("silenced", none) ∈ tfL.map (He.cT G.K) := List.mem_map.mpr ⟨("silenced", none), by simp [tfL], rfl⟩
  have p_silenced : (He.cT G.K ("silenced", none)).2 ∈ G.Ps := by rw [hPs]; exact List.mem_map.mpr ⟨_, m_silenced, rfl⟩
  have d_silenced := K11.d_silenced p_silenced (tb _ m_silenced) T F_silenced 
  obtain ⟨fd_23, D_23⟩ := c.t.d.def_ 23 (d := dd_choices) rfl
  obtain ⟨_, F_choices, _⟩ := fnAt_of (st := st_choices) X Gs D_23 (c.t.d.fact 23 (f := .glo "choices") rfl)
  have d_choices := (K11.d_choices T F_choices  10)
  obtain ⟨fd_24, D_24⟩ := c.t.d.def_ 24 (d := dd_fewest_of) rfl
  obtain ⟨_, F_fewest_of, _⟩ := fnAt_of (st := st_fewest_of) X Gs D_24 (c.t.d.fact 24 (f := .glo "fewest_of") rfl)
  have d_fewest_of := K11.d_fewest_of T F_fewest_of d_choices d_is_heard d_silenced
  obtain ⟨fd_25, D_25⟩ := c.t.d.def_ 25 (d := dd_cure) rfl
  obtain ⟨_, F_cure, _⟩ := fnAt_of (st := st_cure) X Gs D_25 (c.t.d.fact 25 (f := .glo "cure") rfl)
  have d_cure := K11.d_cure T F_cure d_fewest_of d_other_senders
  obtain ⟨fd_26, D_26⟩ := c.t.d.def_ 26 (d := dd_is_rising) rfl
  have F_is_rising : FnAt G "is_rising" st_is_rising (.ref (He.cT G.K ("is_rising", none)).1) := fnAt_tab (st := st_is_rising) X Gs D_26 (c.t.d.fact 26 (f := .glo "is_rising") rfl)
  have m_is_rising : He.cT G.K ("is_rising", none) ∈ tfL.map (He.cT G.K) := List.mem_map.mpr ⟨("is_rising", none), by simp [tfL], rfl⟩
  have p_is_rising : (He.cT G.K ("is_rising", none)).2 ∈ G.Ps := by rw [hPs]; exact List.mem_map.mpr ⟨_, m_is_rising, rfl⟩
  have d_is_rising := K11.d_is_rising p_is_rising (tb _ m_is_rising) T F_is_rising 
  obtain ⟨fd_27, D_27⟩ := c.t.d.def_ 27 (d := dd_is_cure) rfl
  have F_is_cure : FnAt G "is_cure" st_is_cure (.ref (He.cT G.K ("is_cure", none)).1) := fnAt_tab (st := st_is_cure) X Gs D_27 (c.t.d.fact 27 (f := .glo "is_cure") rfl)
  have m_is_cure : He.cT G.K ("is_cure", none) ∈ tfL.map (He.cT G.K) := List.mem_map.mpr ⟨("is_cure", none), by simp [tfL], rfl⟩
  have p_is_cure : (He.cT G.K ("is_cure", none)).2 ∈ G.Ps := by rw [hPs]; exact List.mem_map.mpr ⟨_, m_is_cure, rfl⟩
  have d_is_cure := K11.d_is_cure p_is_cure (tb _ m_is_cure) T F_is_cure d_is_heard d_is_rising d_other_senders d_silenced
  obtain ⟨fd_28, D_28⟩ := c.t.d.def_ 28 (d := dd_enough) rfl
  obtain ⟨_, F_enough, _⟩ := fnAt_of (st := st_enough) X Gs D_28 (c.t.d.fact 28 (f := .glo "enough") rfl)
  have d_enough := K11.d_enough T F_enough d_cure
  obtain ⟨fd_29, D_29⟩ := c.t.d.def_ 29 (d := dd__law_cured_so) rfl
  obtain ⟨_, F__law_cured_so, _⟩ := fnAt_of (st := st__law_cured_so) X Gs D_29 (c.t.d.fact 29 (f := .glo "_law_cured_so") rfl)
  have d__law_cured_so := K11.d__law_cured_so T F__law_cured_so d__law_names d__law_take d_cure d_enough d_is_cure d_is_heard
  obtain ⟨fd_30, D_30⟩ := c.t.d.def_ 30 (d := dd_law) rfl
  obtain ⟨_, F_law, _⟩ := fnAt_of (st := st_law) X Gs D_30 (c.t.d.fact 30 (f := .glo "law") rfl)
  exact ⟨T, d__law_air, d__law_bag, d__law_cured_so, d__law_silenced_so, d__law_take, d__law_tuning⟩
end
end K11

set_option Elab.async false
set_option linter.all false
set_option maxRecDepth 100000
set_option maxHeartbeats 0
namespace K11
open PySem PySem.Spec PyProof.Rows L2 GxR LG EL FW
theorem lawFn {G : G0} {fd : FuncData} (D : FunD G.K "law" "law" (defArgs st_law) (defBody st_law) (defScope st_law) [] [] (He.ga G.K "law") fd) (T : T0 G) (d__law_air : Def G 3 "_law_air" 2 (fn__law_air)) (d__law_bag : Def G 1 "_law_bag" 2 (fn__law_bag)) (d__law_cured_so : Def G 15 "_law_cured_so" 4 (fn__law_cured_so)) (d__law_silenced_so : Def G 6 "_law_silenced_so" 3 (fn__law_silenced_so)) (d__law_take : Def G 1 "_law_take" 2 (fn__law_take)) (d__law_tuning : Def G 2 "_law_tuning" 4 (fn__law_tuning)) : FnOk G.P G.w G.K G.mg G.base CX0 16 (He.ga G.K "law") fd ["script"] (spD G 1 fn_law) := by
  exact fn_atD (G := G) (W := W0) (k := 16 - 1) (name := "law") (st := st_law) (ps := ["script"]) (sb := sb_law) D sc_law (fun cdv => b_law T d__law_air d__law_bag d__law_cured_so d__law_silenced_so d__law_take d__law_tuning)
end K11

set_option Elab.async false
set_option linter.all false
set_option maxRecDepth 100000
set_option maxHeartbeats 0
namespace K11
open PySem PySem.Spec PyProof.Rows L2 GxR LG EL FW
theorem lawAt {w : World} {K : PySem.W.Frag} {mg : Str → Option Value} {fa : Addr} {h : Heap} (math : ∀ ns : List Int, ns.length ≤ 63 → (∀ z ∈ ns, Builtin.Int.intBits z ≤ 1048576) → ∃ st', fn_law [.scr ns] [] = some (.bl true, st')) (X : K.In h) (Gs : h.Ns mainGlobals mg) (hmg : mg ("law" : Str) = some (.ref fa))
    (c : He.SaysX faL fnL [] tfL (fun _ => true) w h K) : LamX.LawAtS PySem.Challenge.rw_wavehall_k11_whole_silence_harms_nobody w K CX0 16 63 "script" mg fa h := by
  have hfact := c.t.d.fact 30 (f := .glo "law") rfl
  obtain ⟨fd, D⟩ := c.t.d.def_ 30 (d := dd_law) rfl
  have e := hmg.symm.trans (He.glo_ok X Gs hfact)
  cases e
  have hb := FunD.bindsA (ps := ["script"]) D fun _ _ _ _ _ _ us hl => match us, hl with | [_], _ => rfl
  refine ⟨fd, tfL.map (He.cT K), spLaw K (tfL.map (He.cT K)), fun p hp => ?_, fun p hp => ?_, fun p hp => ?_, fun s v => hb s [v] rfl, fun H a ns h1 h2 h3 h4 => ⟨a, ns, rfl, h4, h1, h2, h3, fun _ => rfl⟩, fun base kb nb tb => ?_⟩
  · obtain ⟨x, hx, rfl⟩ := List.mem_map.mp hp
    exact c.empty x hx
  · obtain ⟨x, hx, rfl⟩ := List.mem_map.mp hp
    exact c.out x hx
  · obtain ⟨x, hx, rfl⟩ := List.mem_map.mp hp
    exact PySem.W.codeHd_of_K X (c.hd x hx)
  · refine law_fn fun a ns h1 h2 => ?_
    obtain ⟨T, d__law_air, d__law_bag, d__law_cured_so, d__law_silenced_so, d__law_take, d__law_tuning⟩ := facts (G := (⟨PySem.Challenge.rw_wavehall_k11_whole_silence_harms_nobody.prog, w, mg, base, K, (tfL.map (He.cT K)).map (fun p : Addr × Addr => p.2)⟩ : G0)) (h := h) (w := w) X Gs c rfl (fun p hp => tabB_of (tb p hp))
    obtain ⟨st', em⟩ := math ns h1 h2
    exact ⟨_, st', lawFn (G := (⟨PySem.Challenge.rw_wavehall_k11_whole_silence_harms_nobody.prog, w, mg, base, K, (tfL.map (He.cT K)).map (fun p : Addr × Addr => p.2)⟩ : G0)) D T d__law_air d__law_bag d__law_cured_so d__law_silenced_so d__law_take d__law_tuning, em⟩
end K11

set_option Elab.async false
set_option linter.all false
set_option maxRecDepth 100000
set_option maxHeartbeats 0
namespace K11
open PySem PySem.Spec PyProof.Rows L2 GxR LG EL FW
theorem walkL (math : ∀ ns : List Int, ns.length ≤ 63 → (∀ z ∈ ns, Builtin.Int.intBits z ≤ 1048576) → ∃ st', fn_law [.scr ns] [] = some (.bl true, st')) : PySem.W.WalkO (PySem.W.view RR.prog [42]) looseL (PySem.W.XL (PySem.W.view RR.prog [42]) []) hkL.says RR.toRowW (HandSHeadRun.topDef RR.prog 42) [] (fun f vs => PySem.call f vs) := by
  refine LamX.walk_ofTsE (l := PySem.Challenge.rw_wavehall_k11_whole_silence_harms_nobody) (n := 63) (k := 16) (x := "script") (CX := fun _ => CX0) rfl (by decide) (by kernel_rfl) ⟨rfl, by decide, by decide⟩ ?F (fun _ _ _ _ _ z => z)
  intro w mg fa h Y G hmg0
  obtain ⟨K, KX, c⟩ := Y
  have hmg : mg ("law" : PySem.Str) = some (.ref fa) := by
    have e : (HandSHeadRun.topDef RR.prog 42).name = ("law" : PySem.Str) := by kernel_rfl
    rw [← e]
    exact hmg0
  exact ⟨K, KX, lawAt math KX G hmg c⟩
theorem holds (math : ∀ ns : List Int, ns.length ≤ 63 → (∀ z ∈ ns, Builtin.Int.intBits z ≤ 1048576) → ∃ st', fn_law [.scr ns] [] = some (.bl true, st')) : PySem.Challenge.rw_wavehall_k11_whole_silence_harms_nobody.Holds := by
  w_on; o_law
  refine HandSHeadRun.head_any (r := RR) (q := PySem.W.view RR.prog [42]) (H := hkL) (ob := obL) (M := 4000) (loose := looseL) (d := HandSHeadRun.topDef RR.prog 42) (kwd := []) ob_eq
    (by kernel_rfl) (fun s => by kernel_rfl) runL (by kernel_rfl) (by kernel_rfl) (by kernel_rfl) (by rfl) (by first | assumption | decide +kernel) (by decide +kernel) ⟨rfl, rfl, rfl, rfl, rfl, by decide +kernel⟩ ?hw (walkL math)
  case hw => w_witness2
end K11

set_option Elab.async false
set_option linter.all false
set_option maxRecDepth 100000
set_option maxHeartbeats 400000
namespace K11
open PySem PySem.Spec PyProof.Rows L2 GxR LG EL FW
section
variable {ns : List Int} {lb : Nat} {st s : Sto} {a : Air} {t : List Int} {x1 x2 x3 x4 x5 x6 : Option D}
abbrev mkR (ns : List Int) (x1 x2 x3 x4 x5 x6 : Option D) : Rho := [some (.scr ns), x1, x2, x3, x4, x5, x6]
noncomputable def bodyP : FS := (sIf (fTst (fOp gtD (fOp ixD (fV 5) (fV 6)) (fC (.int 0)))) (sIf (fTOr (fTNot (fTst (fFn 3 fn__law_silenced_so (fCons (fV 3) (fCons (fV 5) (fCons (fV 6) fNil)))))) (fTNot (fTst (fFn 4 fn__law_cured_so (fCons (fV 2) (fCons (fV 3) (fCons (fV 5) (fCons (fV 6) fNil)))))))) (sRet (fC (.bl false))) sNext) sNext)
noncomputable def bodyB : FS := (sSeq (sSet 5 (fFn 4 fn__law_tuning (fCons (fV 2) (fCons (fV 3) (fCons (fV 4) (fCons (fOp eqD (fFn 2 fn__law_take (fCons (fV 2) (fCons (fC (.int 2)) fNil))) (fC (.int 0))) fNil))))))
    (sFor (iRange1 (fCons (fCall lenD (fCons (fV 5) fNil)) fNil)) (.one 6) bodyP))
noncomputable def bodyL : FS := (sSeq (sSet 2 (fFn 2 fn__law_bag (fCons (fV 0) (fCons (fV 1) fNil))))
    (sSeq (sSet 3 (fFn 2 fn__law_air (fCons (fV 2) (fCons (fC (.int 8)) fNil))))
    (sFor (iSeq (fLz (fCons (fC (.int 1)) (fCons (fC (.int 2)) (fCons (fC (.int 3)) fNil))))) (.one 4) bodyB)))
theorem law_form : sb_law = sSeq (sFor (iRange1 (fCons (fOp addD (fC (.int 1)) (fCall minD (fCons (fCall lenD (fCons (fV 0) fNil)) (fCons (fC (.int 10)) fNil)))) fNil)) (.one 1) bodyL) (sRet (fC (.bl true))) := rfl
theorem bodyP_ok (h : a.Ok) (ht : t.length = a.ss.length) (hb : ∀ b ∈ t, 0 ≤ b ∧ b ≤ 9) {i : Nat} (hi : i < t.length) (b : Bg lb s) :
    Ok (bodyP (mkR ns x1 (some (.ref lb)) (some a.d) x4 (some (tun t)) (some (.int (i : Nat)))) s) fun q => q.1 = .nx ∧ q.2.1 = mkR ns x1 (some (.ref lb)) (some a.d) x4 (some (tun t)) (some (.int (i : Nat))) ∧ Go lb s q.2.2 := by
  obtain ⟨r, e⟩ : ∃ r, a.ss[i]? = some r := ⟨_, List.getElem?_eq_getElem (by omega)⟩
  have c : fTst (fOp gtD (fOp ixD (fV 5) (fV 6)) (fC (.int 0))) (mkR ns x1 (some (.ref lb)) (some a.d) x4 (some (tun t)) (some (.int (i : Nat)))) s = some (decide (0 < t.getD i 0), s) := by
    simp only [e_tst, e_op, e_V, e_C, List.getElem?_cons_zero, List.getElem?_cons_succ, Option.bind_some, tun_at rfl hi, e_gtI, e_asB]
  unfold bodyP
  rw [e_if, c]
  by_cases up : 0 < t.getD i 0
  · rw [decide_eq_true up]
    have q1 : fFn 3 fn__law_silenced_so (fCons (fV 3) (fCons (fV 5) (fCons (fV 6) fNil))) (mkR ns x1 (some (.ref lb)) (some a.d) x4 (some (tun t)) (some (.int (i : Nat)))) s = some (.bl true, s) := fn_ok (ds := [a.d, tun t, .int (i : Nat)]) (st1 := s) rfl rfl (silenced_so h ht e)
    obtain ⟨⟨y, s2⟩, ec, e1, g2⟩ := cured_so h ht hb e up b
    simp only at e1 g2
    subst e1
    have q2 : fFn 4 fn__law_cured_so (fCons (fV 2) (fCons (fV 3) (fCons (fV 5) (fCons (fV 6) fNil)))) (mkR ns x1 (some (.ref lb)) (some a.d) x4 (some (tun t)) (some (.int (i : Nat)))) s = some (.bl true, s2) := fn_ok (ds := [.ref lb, a.d, tun t, .int (i : Nat)]) (st1 := s) rfl rfl ec
    refine ⟨(.nx, mkR ns x1 (some (.ref lb)) (some a.d) x4 (some (tun t)) (some (.int (i : Nat))), s2), ?_, rfl, rfl, g2⟩
    simp only [Option.bind_some, if_true, e_if, e_tor, e_tnot, e_tst, q1, q2, e_asB, Bool.not_true, Bool.false_eq_true, if_false, e_next]
  · rw [decide_eq_false up]
    simp only [Option.bind_some, Bool.false_eq_true, if_false, e_next]
    exact .pure ⟨rfl, rfl, .refl b⟩
theorem bodyB_ok (h : a.Ok) {bands : Int} (b1 : 1 ≤ bands) (b2 : bands ≤ 9) (b : Bg lb s) :
    Ok (bodyB (mkR ns x1 (some (.ref lb)) (some a.d) (some (.int bands)) x5 x6) s) fun q => q.1 = .nx ∧ (∃ y5 y6, q.2.1 = mkR ns x1 (some (.ref lb)) (some a.d) (some (.int bands)) y5 y6) ∧ Go lb s q.2.2 := by
  obtain ⟨⟨y3, s3⟩, q3, ⟨sil, rfl⟩, g3⟩ := (ED.op (R := fun d => ∃ k, d = .bl k) (ED.take (M := 2) (hi := 1) rfl ED.n) (ED.n (lo := 0) (hi := 0)) (fun x y st ⟨i, ei, _⟩ ⟨j, ej, _⟩ => by
    subst ei; subst ej
    rw [e_eqI]
    exact .pure ⟨⟨_, rfl⟩, rfl⟩) : ED lb (mkR ns x1 (some (.ref lb)) (some a.d) (some (.int bands)) x5 x6) (fOp eqD (fFn 2 fn__law_take (fCons (fV 2) (fCons (fC (.int 2)) fNil))) (fC (.int 0))) (fun d => ∃ k, d = .bl k)) s b
  simp only at g3
  have b3 := g3.bg b.lt
  obtain ⟨⟨y4, s4⟩, q4, ⟨t, e4, ht, h9, _⟩, g4⟩ := tuning_spec (a := a) (bands := bands) (sil := sil) b3 b1 b2 h.ss.len.2
  simp only at e4 g4
  subst e4
  have b4 := g4.bg b3.lt
  have l8 := h.ss.len.2
  have k0 : fCons (fV 2) (fCons (fV 3) (fCons (fV 4) (fCons (fOp eqD (fFn 2 fn__law_take (fCons (fV 2) (fCons (fC (.int 2)) fNil))) (fC (.int 0))) fNil))) (mkR ns x1 (some (.ref lb)) (some a.d) (some (.int bands)) x5 x6) s = some ([.ref lb, a.d, .int bands, .bl sil], s3) := by
    rw [e_cons, e_V]
    simp only [List.getElem?_cons_zero, List.getElem?_cons_succ, Option.bind_some]
    rw [e_cons, e_V]
    simp only [List.getElem?_cons_zero, List.getElem?_cons_succ, Option.bind_some]
    rw [e_cons, e_V]
    simp only [List.getElem?_cons_zero, List.getElem?_cons_succ, Option.bind_some]
    rw [e_cons, q3]
    rfl
  have q5 := fn_ok (n := 4) k0 rfl q4
  unfold bodyB
  rw [seq_nx (ρ1 := mkR ns x1 (some (.ref lb)) (some a.d) (some (.int bands)) (some (tun t)) x6) (st1 := s4) (set_ok q5)]
  have lp := for_ok (tg := .one 6) (b := bodyP) (src := []) (items := rangeD 0 t.length)
    (I := fun _ ρ s' => (∃ y6, ρ = mkR ns x1 (some (.ref lb)) (some a.d) (some (.int bands)) (some (tun t)) y6) ∧ Go lb s4 s')
    (fun _ _ _ _ => Intact.nil) (fun j z hz ρ s' ⟨⟨y6, hρ⟩, gg⟩ => by
      subst hρ
      obtain ⟨hj, ej⟩ := List.getElem?_eq_some_iff.mp hz
      have hj : j < t.length := by simpa [rangeD] using hj
      have ed : z = .int (0 + (j : Nat)) := by rw [← ej]; simp [rangeD]
      rw [Int.zero_add] at ed
      subst ed
      exact ⟨_, rfl, (bodyP_ok (x4 := some (.int bands)) h ht (fun b hb => ⟨(h9 b hb).1, by have := (h9 b hb).2; omega⟩) hj (gg.bg b4.lt)).mono fun q ⟨e1, e2, g5⟩ => ⟨e1, ⟨_, e2⟩, gg.trans g5⟩⟩)
    _ 0 (mkR ns x1 (some (.ref lb)) (some a.d) (some (.int bands)) (some (tun t)) x6) s4 rfl (Nat.zero_le _) ⟨⟨_, rfl⟩, .refl b4⟩
  rw [List.drop_zero] at lp
  have rg := range_len (st := s4) (ρ := mkR ns x1 (some (.ref lb)) (some a.d) (some (.int bands)) (some (tun t)) x6) (j := 5) (t := t) rfl (by omega)
  obtain ⟨⟨f, ρ2, s5⟩, ef, e1, ⟨y6, e2⟩, g5⟩ := lp
  simp only at e1 e2 g5
  subst e1; subst e2
  exact ⟨_, for_at rg ef, rfl, ⟨_, _, rfl⟩, (g3.trans g4).trans g5⟩
theorem bodyL_ok {k : Int} (k0 : 0 ≤ k) (k1 : k ≤ 15) :
    Ok (bodyL (mkR ns (some (.int k)) x2 x3 x4 x5 x6) s) fun q => q.1 = .nx ∧ ∃ x1 x2 x3 x4 x5 x6, q.2.1 = mkR ns x1 x2 x3 x4 x5 x6 := by
  obtain ⟨⟨y1, s1⟩, q1, e1, o, e2, b1⟩ := bag_spec (ns := ns) (st := s) k0 (by omega)
  simp only at e1 e2 b1
  subst e1
  obtain ⟨⟨y2, s2⟩, q2, ⟨a, e3, ha, _⟩, g2⟩ := air_spec (most := 8) b1 (by decide) (by decide)
  simp only at e3 g2
  subst e3
  have b2 := g2.bg b1.lt
  unfold bodyL
  rw [seq_nx (ρ1 := mkR ns (some (.int k)) (some (.ref s.length)) x3 x4 x5 x6) (st1 := s1) (set_ok (fn_ok (ds := [.scr ns, .int k]) (st1 := s) rfl rfl q1))]
  rw [seq_nx (ρ1 := mkR ns (some (.int k)) (some (.ref s.length)) (some a.d) x4 x5 x6) (st1 := s2) (set_ok (fn_ok (ds := [.ref s.length, .int 8]) (st1 := s1) rfl rfl q2))]
  have it : iSeq (fLz (fCons (fC (.int 1)) (fCons (fC (.int 2)) (fCons (fC (.int 3)) fNil)))) (mkR ns (some (.int k)) (some (.ref s.length)) (some a.d) x4 x5 x6) s2 = some ([.int 1, .int 2, .int 3], [], s2) := by
    unfold iSeq
    simp [sizeLine_eq]
  have lp := for_ok (tg := .one 4) (b := bodyB) (src := []) (items := [.int 1, .int 2, .int 3])
    (I := fun _ ρ s' => (∃ y4 y5 y6, ρ = mkR ns (some (.int k)) (some (.ref s.length)) (some a.d) y4 y5 y6) ∧ Go s.length s2 s')
    (fun _ _ _ _ => Intact.nil) (fun j z hz ρ s' ⟨⟨y4, y5, y6, hρ⟩, gg⟩ => by
      subst hρ
      have hm : ∃ v : Int, z = .int v ∧ 1 ≤ v ∧ v ≤ 9 := by
        have := List.mem_of_getElem? hz
        simp only [List.mem_cons, List.not_mem_nil, or_false] at this
        rcases this with rfl | rfl | rfl
        · exact ⟨1, rfl, by decide, by decide⟩
        · exact ⟨2, rfl, by decide, by decide⟩
        · exact ⟨3, rfl, by decide, by decide⟩
      obtain ⟨v, rfl, v1, v2⟩ := hm
      exact ⟨mkR ns (some (.int k)) (some (.ref s.length)) (some a.d) (some (.int v)) y5 y6, rfl, (bodyB_ok ha v1 v2 (gg.bg b2.lt)).mono fun q ⟨e1, ⟨y5, y6, e2⟩, g5⟩ => ⟨e1, ⟨_, _, _, e2⟩, gg.trans g5⟩⟩)
    _ 0 (mkR ns (some (.int k)) (some (.ref s.length)) (some a.d) x4 x5 x6) s2 rfl (Nat.zero_le _) ⟨⟨_, _, _, rfl⟩, .refl b2⟩
  rw [List.drop_zero] at lp
  obtain ⟨⟨f, ρ2, s5⟩, ef, e1, ⟨y4, y5, y6, e2⟩, g5⟩ := lp
  simp only at e1 e2
  subst e1; subst e2
  exact ⟨_, for_at it ef, rfl, _, _, _, _, _, _, rfl⟩
theorem math (hz : ns.length ≤ 63) : ∃ st', fn_law [.scr ns] [] = some (.bl true, st') := by
  have key : Ok (sb_law (mkR ns none none none none none none) []) fun q => q.1 = .rt (.bl true) := by
    rw [law_form]
    have ls : ∀ st, lenD [.scr ns] st = some (.int ns.length, st) := fun _ => rfl
    obtain ⟨c, hc, c1⟩ : ∃ c : Nat, minD [.int ns.length, .int 10] ([] : Sto) = some (.int (c : Nat), []) ∧ c ≤ 10 := by
      by_cases z : (10 : Int) < ns.length
      · exact ⟨10, by show some (D.int (if (10 : Int) < ns.length then 10 else ns.length), _) = _; rw [if_pos z]; rfl, by omega⟩
      · exact ⟨ns.length, by show some (D.int (if (10 : Int) < ns.length then 10 else ns.length), _) = _; rw [if_neg z], by omega⟩
    have it : iRange1 (fCons (fOp addD (fC (.int 1)) (fCall minD (fCons (fCall lenD (fCons (fV 0) fNil)) (fCons (fC (.int 10)) fNil)))) fNil) (mkR ns none none none none none none) [] = some (rangeD 0 (1 + c), [], []) := by
      refine range_ok ?_ (by omega)
      simp only [e_cons, e_op, e_C, e_call, e_V, e_nil, List.getElem?_cons_zero, Option.bind_some, ls, hc, e_addI]
      rw [Int.natCast_add]
      rfl
    have lp := for_ok (tg := .one 1) (b := bodyL) (src := []) (items := rangeD 0 (1 + c))
      (I := fun _ ρ _ => ∃ x1 x2 x3 x4 x5 x6, ρ = mkR ns x1 x2 x3 x4 x5 x6)
      (fun _ _ _ _ => Intact.nil)
      (fun j d hd ρ s' ⟨x1, x2, x3, x4, x5, x6, hρ⟩ => by
        subst hρ
        obtain ⟨hj, ej⟩ := List.getElem?_eq_some_iff.mp hd
        have hj : j < 1 + c := by simpa [rangeD] using hj
        have ed : d = .int (0 + (j : Nat)) := by rw [← ej]; simp [rangeD]
        subst ed
        exact ⟨_, rfl, bodyL_ok (by omega) (by omega)⟩)
      _ 0 (mkR ns none none none none none none) [] rfl (Nat.zero_le _) ⟨_, _, _, _, _, _, rfl⟩
    rw [List.drop_zero] at lp
    obtain ⟨⟨f, ρ2, s2⟩, e, e1, _⟩ := lp
    simp only at e1
    subst e1
    refine ⟨(.rt (.bl true), ρ2, s2), ?_, rfl⟩
    rw [seq_nx (ρ1 := ρ2) (st1 := s2) (for_at it e)]
    rfl
  obtain ⟨⟨f, ρ2, s2⟩, e, e1⟩ := key
  simp only at e1
  subst e1
  exact ⟨s2, run_ok (ρ' := ρ2) e⟩
end
end K11

theorem PySem.Challenge.cw_wavehall_k11_whole_silence_harms_nobody_holds : PySem.Challenge.rw_wavehall_k11_whole_silence_harms_nobody.Holds := by
  exact K11.holds fun ns hz _ => K11.math hz
