import PyProof.Rows.All
import Wide.All
import OpenK.AllK
import Wide.FinOn
import PySem.Challenge.RW_wavehall_k01_airs_and_tunings_told
import HandS.ForMost
import HandS.AnyAll
import HandS.GenList
import HandS.Nested
import HandS.TupAny
import HandS.Wide
import HandS.IsInst
import HandS.Zip
import HandS.Style
import HandS.Flow
import PyProof.Rows.IntBool
import KE.KRevSl
import HandS.TupSets
import KE.SortData
import HandS.Head0
import HandS.Head1
import HandS.Head2
import HandS.HeadEnd
import HandS.HeadHook1
import HandS.HeadHook2
import HandS.HeadHook3
import HandS.HeadHook4
import HandS.HeadWalk
import HandS.EndTab
set_option Elab.async false
set_option linter.all false
set_option maxRecDepth 100000
set_option maxHeartbeats 2000000
/-! a generator expression whose element may do anything, drawn by all(..) -/
namespace LG
open PySem PySem.Spec PyProof.Rows L2 GenW GxR

/-- a truth is handed out -/
def YT (a : Addr) (g : Nat) (Post : Bool → Shared → Prop) : Protocol := fun n s₀ v s1 kap =>
  ∃ b, v = .bool b ∧ AllBare s1.gens ∧ s1.heap.NoLimit ∧ s1.heap.IsGen a g ∧
    (b = true → ∀ s' : Shared, s'.heap = s1.heap → s'.os = s1.os → AllBare s'.gens → kap (.send .none) s') ∧
    (b = false → ∀ s' : Shared, s'.heap = s1.heap → s'.os = s1.os → AllBare s'.gens → Post false s')
def RT (Post : Bool → Shared → Prop) (s1 : Shared) : Prop :=
  AllBare s1.gens ∧ ∀ s' : Shared, (∀ b o, s1.heap.get? b = some o → s'.heap.get? b = some o) → s'.os = s1.os → AllBare s'.gens → Post true s'

theorem all_loud {P : Program} {w : World} {A : Around} {R : Result → Shared → Prop} {a : Addr} {g : Nat} {Post : Bool → Shared → Prop} (hh : A.handled = none) (hd : A.depth < recursionLimit)
    (hend : ∀ b s', Post b s' → R (.ok (.ret (.bool b))) s') :
    ∀ (m : Nat) (s : Shared), s.heap.IsGen a g → s.heap.NoLimit →
      (∃ gs, s.gens[g]? = some gs ∧ gs.Goes (model P w) A.in1.in1 (fun n s₀ r s₁ => r = .ok .next ∧ RT Post s₁) (YT a g Post) m (.send .none) (s.setGen g .running)) →
      codeAny (model P w) A (.builtin "all.loop" ⟨[.ref a], []⟩) R s := by
  intro m
  induction m with
  | zero =>
    intro s hg hl ⟨gs, hgs, hgo⟩
    refine codeAny_builtin F.entry_all_loop ?_
    rw [Around.under_plainId F.plain_all_loop _]
    show wpAny _ A.in1 (pyNext (.ref a) >>= _) _ _ s
    refine wpAny_bind (wpAny_pyNext_genexpQ (A := A.in1) (P := fun _ _ s₁ => RT Post s₁) hh hl hd hg hgs hgo (fun v s₁ gs' hb hv => ?_) (fun s₁ hp h' hk => ?_))
    · obtain ⟨b, rfl, hb1, hl1, hg1, ht, hf⟩ := hv
      refine wpAny_bind (wpAny_holding (wpAny_truthy_bool ?_))
      refine wpAny_bind (wpAny_letGo ?_)
      cases b with
      | true => exact (ht rfl s₁ rfl rfl hb1).elim
      | false =>
        simp only [Bool.false_eq_true, if_false]
        refine wpAny_bind (wpAny_rule (wpAny_pure ?_))
        exact hend _ _ (hf rfl _ rfl rfl (allBare_setGen hb1 hb))
    · refine wpAny_bind (wpAny_rule (wpAny_pure ?_))
      exact hend _ _ (hp.2 _ hk rfl (allBare_setGen (s := s₁) hp.1 rfl))
  | succ m ih =>
    intro s hg hl ⟨gs, hgs, hgo⟩
    have hgl : g < s.gens.size := (Array.getElem?_eq_some_iff.mp hgs).1
    refine codeAny_builtin F.entry_all_loop ?_
    rw [Around.under_plainId F.plain_all_loop _]
    show wpAny _ A.in1 (pyNext (.ref a) >>= _) _ _ s
    refine wpAny_bind (wpAny_gsz (n := g + 1) hgl (wpAny_pyNext_genexpQ (A := A.in1) (P := fun _ _ s₁ => RT Post s₁) hh hl hd hg hgs hgo (fun v s₁ gs' hb hv => ?_) (fun s₁ hp h' hk => ?_)))
    · intro hsz
      obtain ⟨b, rfl, hb1, hl1, hg1, ht, hf⟩ := hv
      have hsz1 : g < s₁.gens.size := by
        have q : (s₁.setGen g gs').gens.size = s₁.gens.size := setGen_size _ _ _
        have hsz' : g + 1 ≤ (s₁.setGen g gs').gens.size := hsz
        omega
      refine wpAny_bind (wpAny_holding (wpAny_truthy_bool ?_))
      refine wpAny_bind (wpAny_letGo ?_)
      cases b with
      | true =>
        simp only [if_true]
        refine wpAny_pure ⟨plainId_quiet F.plain_all_loop _, ih _ hg1 hl1 ⟨gs', setGen_at hsz1, ?_⟩⟩
        exact ht rfl _ rfl rfl (allBare_setGen (s := s₁.setGen g gs') (allBare_setGen hb1 hb) rfl)
      | false =>
        simp only [Bool.false_eq_true, if_false]
        refine wpAny_bind (wpAny_rule (wpAny_pure ?_))
        exact hend _ _ (hf rfl _ rfl rfl (allBare_setGen hb1 hb))
    · intro _
      refine wpAny_bind (wpAny_rule (wpAny_pure ?_))
      exact hend _ _ (hp.2 _ hk rfl (allBare_setGen (s := s₁) hp.1 rfl))

/-- the around of a generator expression's own frame -/
theorem over_gen {A : Around} {elt : Expr} {gs : List Comprehension} {sc : Scope} {pos : Pos} {it acc : Value} {env : Env} : A.over (.compLoop (.GeneratorExp elt gs sc pos) 0 it acc env) [] = A.deeper env := by
  obtain ⟨hd, d, fr, gu, u⟩ := A
  simp [Around.over, Around.deeper, marksOver, frameCount, unitsOf, envsOf, guardsOf, pushEnvs, pushGuards, Code.envs, Code.env?, Code.isFrame, Code.guards, Code.isGuard, Code.weight, Code.frames, Code.isCreation, Code.isCaller, Code.cUnits]
theorem over_gen0 {A : Around} {elt : Expr} {gs : List Comprehension} {sc : Scope} {pos : Pos} {it acc : Value} {env : Env} : A.over (.compStart (.GeneratorExp elt gs sc pos) 0 it acc env) [] = A.deeper env := by
  obtain ⟨hd, d, fr, gu, u⟩ := A
  simp [Around.over, Around.deeper, marksOver, frameCount, unitsOf, envsOf, guardsOf, pushEnvs, pushGuards, Code.envs, Code.env?, Code.isFrame, Code.guards, Code.isGuard, Code.weight, Code.frames, Code.isCreation, Code.isCaller, Code.cUnits]
end LG

set_option Elab.async false
set_option linter.all false
set_option maxRecDepth 100000
set_option maxHeartbeats 2000000
namespace LG
open PySem PySem.Spec PyProof.Rows L2 GenW GxR

/-- the turns of a generator expression drawn by all(..) -/
def Turns (J : It) (g : TG) (te : TE) (Fin : Bool → Hp → Prop) (W : Nat → Nat → L2.St → Hp → Prop) : Prop :=
  ∀ i m σ H, W i m σ H → (J.stop i H ∧ Fin true H) ∨
    (J.go i H ∧ ∀ x H', J.yld i H x H' → g x σ H' fun σ2 H2 => te σ2 H2 fun y H3 => ∃ b, y = .bl b ∧ if b = true then ∃ m', m' < m ∧ W (i + 1) m' σ2 H3 else Fin false H3)

section
variable {X : Cx} {Aw : Around} {elt iter tg : Expr} {scope : Scope} {gpos : Pos} {J : It} {fp : List Addr} {it a : Addr} {gn : Nat} {go : Obj} {tn : Nat → Heap → Prop} {g : TG} {te : TE} {Fin : Bool → Hp → Prop} {W : Nat → Nat → L2.St → Hp → Prop} {Post : Bool → Shared → Prop}
theorem seg_loop (hA : X.A = Aw.deeper X.env) (hxe : X.xe = fun _ _ => False) (hc : X.calm = true) (hco : X.env.scope.isCoroutine = false) (hpn : (a, go) ∈ X.pn) (hgo : ∀ h : Heap, h.get? a = some go → h.IsGen a gn)
    (T : Turn X.prog X.w X.K tg J fp it tn) (hg : PG X tg g) (he : PE X elt te) (hW : Turns J g te Fin W)
    (hPost : ∀ b σ H s s', Inv X [] σ H s → Fin b H → (∀ c o, s.heap.get? c = some o → s'.heap.get? c = some o) → s'.os = s.os → AllBare s'.gens → Post b s') :
    ∀ (n i m : Nat) (s₀ s : Shared) (σ : L2.St) (H : Hp), m < n → Inv X [] σ H s → tn i s.heap → (∀ b ∈ fp, FpOk X [] H b) → W i m σ H →
      Seg (model X.prog X.w) Aw (fun n s₀ r s₁ => r = .ok .next ∧ RT Post s₁) (YT a gn Post) n s₀ (.compLoop (.GeneratorExp elt [⟨tg, iter, [], 0⟩] scope gpos) 0 (.ref it) .none X.env)
        ((model X.prog X.w).den (.compLoop (.GeneratorExp elt [⟨tg, iter, [], 0⟩] scope gpos) 0 (.ref it) .none X.env)) [] s := by
  intro n
  induction n with
  | zero => intro i m s₀ s σ H hm; omega
  | succ n ih =>
    intro i m s₀ s σ H hm I ht hf w
    have hov : Aw.over (.compLoop (.GeneratorExp elt [⟨tg, iter, [], 0⟩] scope gpos) 0 (.ref it) .none X.env) [] = X.A := over_gen.trans hA.symm
    show Seg _ Aw _ _ _ s₀ _ ((compTurn (.GeneratorExp elt [⟨tg, iter, [], 0⟩] scope gpos) 0 (.ref it) .none X.env).onRaise (leaving X.env)) [] s
    rw [compTurn_gen, Sem.onRaise_eq_wrap]
    refine seg_bind_wrap (wpAny_standAt ?_)
    rcases hW i m σ H w with ⟨stop, fin⟩ | ⟨goes, step⟩
    · refine seg_bind_wrap ?_
      rw [hov]
      refine thn (T.done X rfl rfl rfl hc i [] s σ H _ I hf ht stop) fun r s1 ⟨hr, I1⟩ => ?_
      subst hr
      exact seg_end (.ok .next) ⟨rfl, I1.bare, fun s' hk ho hb => hPost true σ H s1 s' I1 fin hk ho hb⟩
    · refine seg_bind_wrap ?_
      rw [hov]
      refine thn (T.item X rfl rfl rfl hc i [] s σ H _ I hf ht goes) fun r s1 ⟨u, hr, h1⟩ => ?_
      subst hr
      refine seg_bind_wrap ?_
      rw [hov]
      refine thn h1 fun _ s2 ⟨x, H2, I2, rx, y2, ht2, fr2⟩ => ?_
      have hf2 : ∀ b ∈ fp, FpOk X [] H2 b := fun b hb => ⟨fr2 b hb, (hf b hb).2⟩
      have I2' := I2.pinned hf2 (T.obj _ _ ht2)
      refine seg_bind_wrap ?_
      rw [hov]
      refine wpAny_mono (hg.run _ s2 σ H2 x u _ I2' rx (step x H2 y2)) (fun _ s3 ⟨σ3, H3, I3, q3⟩ => ?_) fun e s' hx => by rw [hxe] at hx; exact hx.elim
      refine seg_bind_wrap ?_
      simp only [List.forIn_nil]
      refine wpAny_pure ?_
      have hy : ∀ v, yieldOut X.env v = yieldValue v := fun v => by simp only [yieldOut, hco, Bool.false_eq_true, if_false]
      simp only [if_true, hy]
      rw [Sem.bind_eq_wrap', Sem.bind_eq_wrap', Sem.wrap_wrap, Sem.wrap_wrap]
      refine seg_wrap ?_
      rw [hov]
      refine wpAny_mono (he.run _ s3 σ3 H3 _ I3 q3) (fun y s4 ⟨yv, H4, I4, r4, b, eb, q4⟩ => ?_) fun e s' hx => by rw [hxe] at hx; exact hx.elim
      subst eb
      obtain rfl : y = Value.bool b := r4
      have pin : ∀ c ∈ fp, ∀ o, s2.heap.get? c = some o → s4.heap.get? c = some o ∧ H4 c = none := fun c hcc o e =>
        let z := I4.pin (c, o) (List.mem_append_right _ (List.mem_append_right _ (mem_pinsAt hcc e)))
        ⟨z.1, z.2.1⟩
      have I5 : Inv X [] σ3 H4 s4 := I4.unpinned
      refine seg_at (seg_yield rfl rfl rfl ⟨b, rfl, I5.bare, I5.nolimit, hgo _ (I5.pin (a, go) (List.mem_append_left _ hpn)).1, fun hb s' h1 h2 h3 => ?_, fun hb s' h1 h2 h3 => ?_⟩)
      · subst hb
        rw [if_pos rfl] at q4
        obtain ⟨m', hm', w'⟩ := q4
        have I6 : Inv X [] σ3 H4 s' := I5.call' (ch := []) h2 (by rw [h1]; exact Un.refl) (by rw [h1]; exact I5.hok) h3 fun b z => by simp at z
        refine seg_again rfl (ih (i + 1) m' s' s' σ3 H4 (by omega) I6 (by rw [h1]; exact T.keep _ _ _ ht2 fun c hcc o e => (pin c hcc o e).1) (fun c hcc => ?_) w')
        obtain ⟨o, e, _⟩ := T.obj _ _ ht2 c hcc
        exact ⟨(pin c hcc o e).2, (hf c hcc).2⟩
      · subst hb
        rw [if_neg Bool.false_ne_true] at q4
        exact hPost false σ3 H4 s4 s' I5 q4 (fun c o e => by rw [h1]; exact e) h2 h3

theorem seg_start (hA : X.A = Aw.deeper X.env) (hxe : X.xe = fun _ _ => False) (hc : X.calm = true) (hco : X.env.scope.isCoroutine = false) (hpn : (a, go) ∈ X.pn) (hgo : ∀ h : Heap, h.get? a = some go → h.IsGen a gn)
    (T : Turn X.prog X.w X.K tg J fp it tn) (hg : PG X tg g) (he : PE X elt te) (hW : Turns J g te Fin W)
    (hPost : ∀ b σ H s s', Inv X [] σ H s → Fin b H → (∀ c o, s.heap.get? c = some o → s'.heap.get? c = some o) → s'.os = s.os → AllBare s'.gens → Post b s')
    (m : Nat) (s₀ s : Shared) (σ : L2.St) (H : Hp) (I : Inv X [] σ H s) (ht : tn 0 s.heap) (hf : ∀ b ∈ fp, FpOk X [] H b) (w : W 0 m σ H) :
    Seg (model X.prog X.w) Aw (fun n s₀ r s₁ => r = .ok .next ∧ RT Post s₁) (YT a gn Post) (m + 1) s₀ (.compStart (.GeneratorExp elt [⟨tg, iter, [], 0⟩] scope gpos) 0 (.ref it) .none X.env)
        ((model X.prog X.w).den (.compStart (.GeneratorExp elt [⟨tg, iter, [], 0⟩] scope gpos) 0 (.ref it) .none X.env)) [] s := by
  have hov : Aw.over (.compStart (.GeneratorExp elt [⟨tg, iter, [], 0⟩] scope gpos) 0 (.ref it) .none X.env) [] = X.A := over_gen0.trans hA.symm
  have loop := seg_loop (iter := iter) (scope := scope) (gpos := gpos) (gn := gn) hA hxe hc hco hpn hgo T hg he hW hPost (m + 1) 0 m s₀ s σ H (Nat.lt_succ_self m) I ht hf w
  show Seg _ Aw _ _ _ s₀ _ ((compStart (.GeneratorExp elt [⟨tg, iter, [], 0⟩] scope gpos) 0 (.ref it) .none X.env).onRaise (leaving X.env)) [] s
  unfold compStart
  rw [Sem.onRaise_eq_wrap]
  show Seg _ Aw _ _ _ s₀ _ ((ask >>= _).wrap _ _ _ _) [] s
  refine seg_bind_wrap (wpAny_askSetting ?_)
  split
  · exact seg_again rfl loop
  · first
      | exact seg_bind_wrap (wpAny_rule (seg_bind_wrap (wpAny_standAt (seg_bind_wrap (T.self _ 0 s _ _ ht (seg_again rfl loop))))))
      | (refine seg_bind_wrap (wpAny_rule ?_); show Seg _ Aw _ _ _ s₀ _ ((standAt iter.pos >>= _).wrap _ _ _ _) [] s; exact seg_bind_wrap (wpAny_standAt (seg_bind_wrap (T.self _ 0 s _ _ ht (seg_again rfl loop)))))
end
end LG

set_option Elab.async false
set_option linter.all false
set_option maxRecDepth 100000
set_option maxHeartbeats 2000000
namespace LG
open PySem PySem.Spec PyProof.Rows L2 GenW GxR NdefX

/-- the generator expression's scope: captured names that the def has -/
structure GSc (env : Env) (scope : Scope) : Prop where
  kind : scope.kind = .function
  co : scope.isCoroutine = false
  cell : ∀ y ∈ scope.names, y.2 ≠ .cell
  dot : scope.names.lookup (".0" : Str) = some NameKind.local
  free : ∀ y ∈ scope.names, y.2 = .free → ∃ c, env.cells.lookup y.1 = some c

/-- the context of the generator expression's frame -/
def gx (X : Cx) (s4 : Shared) (H3 : Hp) (N : List Str) (cenv : Env) (Aw : Around) (fp : List Addr) (pn : List (Addr × Obj)) : Cx where
  prog := X.prog
  w := X.w
  K := X.K
  mg := X.mg
  base := X.base
  A := Aw.deeper cenv
  N := N
  s_0 := s4
  H_0 := H3
  env := cenv
  outer := X.stack
  stack := cenv :: X.stack
  ex := fp
  fn := fun _ => false
  calm := true
  pn := pn
  xe := fun _ _ => False

/-- what an element's rule may lean on -/
structure Inner (X : Cx) (scope : Scope) (N : List Str) (k : Nat) (X' : Cx) : Prop where
  prog : X'.prog = X.prog
  w : X'.w = X.w
  K : X'.K = X.K
  mg : X'.mg = X.mg
  base : X'.base = X.base
  N : X'.N = N
  scope : X'.env.scope = scope
  calm : X'.calm = true
  xe : X'.xe = fun _ _ => False
  room : Room k X'.A

/-- how the captured names' slots lie -/
def Caps (X : Cx) (scope : Scope) (N : List Str) (σ σ' : L2.St) : Prop :=
  σ'.length = N.length ∧ ∀ (i : Nat) (x : Str) (v : V), N[i]? = some x → σ'[i]? = some (some v) → scope.names.lookup x = some .free ∧ ∃ j : Nat, X.N[j]? = some x ∧ σ[j]? = some (some v) ∧ (X.env.kindOf x = some .cell ∨ X.env.kindOf x = some .free)

def tAllG (X : Cx) (P : Addr) (scope : Scope) (N : List Str) (wi : TI) (g : TG) (te : TE) : TE := fun σ H Q => wi σ H fun J H1 => TabG H1 P ∧ ∃ σ', Caps X scope N σ σ' ∧
  ∀ H2, Tabbed P H1 H2 → ∃ W : Nat → Nat → L2.St → Hp → Prop, (∃ m, W 0 m σ' H2) ∧ Turns J g te (fun b H' => Q (.bl b) H') W

section
variable {X : Cx}
theorem pe_allG {c P : Addr} {elt iter tg : Expr} {p pos gpos : Pos} {scope : Scope} {wi : TI} {g : TG} {te : TE} {k : Nat} {N : List Str}
    (hr : Room (k + 1) X.A) (hg0 : Gl X "all") (hm : X.mg "all" = none) (hcalm : X.calm = true) (TB : TabB X.base X.mg c P) (hcode : X.env.code = .ref c) (S : GSc X.env scope) (hi : PI X tg iter wi)
    (hgt : ∀ X', Inner X scope N k X' → PG X' tg g) (hel : ∀ X', Inner X scope N k X' → PE X' elt te)
    (hs : ∀ v, genFold iter X.env v = pure v)
    (he : starEach [.GeneratorExp elt [⟨tg, iter, [], 0⟩] scope gpos] X.env = (false, eval (.GeneratorExp elt [⟨tg, iter, [], 0⟩] scope gpos) X.env) :: starEach [] X.env := by rfl) :
    PE X (.Call (.Name "all" p) [.GeneratorExp elt [⟨tg, iter, [], 0⟩] scope gpos] [] pos) (tAllG X P scope N wi g te) := by
  refine ⟨fun pins s σ H Q I h => ?_⟩
  refine wpAny_Call_Name_kw (ld_blt I hg0 hm (show bootBuiltins "all" = some (.builtin "all") by decide +kernel) ?_)
  refine PyProof.Rows.callWith_builtin1 ?_ he (by rfl)
  rw [he]
  show wpAny _ _ (spliced ((false, eval (.GeneratorExp elt [⟨tg, iter, [], 0⟩] scope gpos) X.env) :: backTo pos (starEach [] X.env))) _ _ s
  refine Calls.spliced_cons ?_
  refine wpAny_GeneratorExp_make S.co (closure_ok S.free) S.cell S.dot S.kind (by have := hr.dp; omega) ?_ hs
  refine thn (hi.run pins s σ H _ I h) fun xv s1 h1 => thn h1 fun itv s2 h2 => ?_
  obtain ⟨it, fp, tn, J, H2, rfl, I2, T, ht2, hf2, hR⟩ := h2
  obtain ⟨⟨ps, hP, htr⟩, σ', hcap, hR⟩ := hR
  have lim2 : s2.heap.NoLimit := I2.nolimit
  have hPs : s2.heap.get? P = some { cls := .none, data := .fields ps } := I2.hok P _ hP
  have cd : PySem.W.CodeHd s2.heap c P := TB.code.keeps fun b u e => I2.bk b u e
  refine ⟨lim2, ?_⟩
  have cont : ∀ (code : Value) (h3 : Heap) (tk : Nat) (ps' : Array Value), Heap.ExtBut P s2.heap h3 → s2.heap.objs.size ≤ h3.objs.size → h3.get? P = some { cls := .none, data := .fields ps' } → (∃ more, ps' = ps ++ more) → TriplesOk ps'.toList →
      wpAny (model X.prog X.w) X.A (builtinsFor X.env.globals X.env.builtins) (fun bi s₄ =>
        ∀ h', h'.Ns s₄.heap.objs.size (fun y => if y = ".0" then some (Value.ref it) else none) → Heap.SameBut s₄.heap.objs.size (s₄.heap.push { cls := .type "frame", data := .dict #[] }) h' →
          (fun a s' => wpAny (model X.prog X.w) X.A (spliced (backTo pos (starEach [] X.env))) (fun x s'' => wpAny (model X.prog X.w) X.A (call (.builtin "all") (a :: x)) (EP X pins σ Q) X.xe s'') X.xe s') (Value.ref h'.objs.size) { s₄ with
            gens := s₄.gens.push (.fresh (.compStart (.GeneratorExp elt [⟨tg, iter, [], 0⟩] scope gpos) 0 (.ref it) .none (genEnv scope (cloFrom X.env.cells scope.names []) s₄.heap.objs.size code bi X.env))),
            toks := s₄.toks + 1 + 1 + 1,
            heap := h'.push { cls := .type "generator", data := .fields #[.int s₄.gens.size 0, .str "<genexpr>" (s₄.toks + 1), .str (X.env.qual ++ "<genexpr>") (s₄.toks + 1 + 1)] } }) X.xe { s2 with heap := h3, toks := tk } := by
    intro code h3 tk ps' hx hsz hP3 hmore ht3
    obtain ⟨bm, ob, e1, e2, e3, e4, e5, e6, e7, e8⟩ := TB.bm
    have keep3 : ∀ b u, b ≠ P → s2.heap.get? b = some u → h3.get? b = some u := fun b u hb e => hx b u hb e
    refine wpAny_builtinsFor (m := X.mg) (by rw [I2.ok.glob]; exact (I2.mod.glob.keeps I2.bk).extBut hx TB.gP) e1 e2 (keep3 _ _ e4 (I2.bk _ _ e5)) e6 e7 e8 ?_
    obtain ⟨more, em⟩ := hmore
    have I4 : Inv X pins σ (upd H2 P (.tbl (ps ++ more))) { s2 with heap := h3, toks := tk } :=
      inv_tab (more := more) (h' := h3) (g' := s2.gens) (d' := s2.drawn) (t' := tk) I2 hP keep3 (by rw [← em]; exact hP3) I2.bare
    have hTab : Tabbed P H2 (upd H2 P (.tbl (ps ++ more))) := ⟨⟨ps ++ more, upd_same, by rw [← em]; exact ht3⟩, fun b hb => upd_ne hb⟩
    obtain ⟨W, ⟨m, w0⟩, hW⟩ := hR _ hTab
    generalize hH3 : upd H2 P (.tbl (ps ++ more)) = H3 at I4 hTab w0
    generalize hs4 : ({ s2 with heap := h3, toks := tk } : Shared) = s4 at I4
    have nP : ∀ b ∈ fp, b ≠ P := fun b hb z => by
      have q := (hf2 b hb).1
      rw [z, hP] at q
      cases q
    have hf4 : ∀ b ∈ fp, FpOk X pins H3 b := fun b hb => ⟨by rw [hTab.2 b (nP b hb)]; exact (hf2 b hb).1, (hf2 b hb).2⟩
    have ht4 : tn 0 s4.heap := T.keep _ _ _ ht2 fun b hb o e => by rw [← hs4]; exact keep3 b o (nP b hb) e
    have lim4 : s4.heap.NoLimit := I4.nolimit
    intro h' hn' hs'
    have hszN : h'.objs.size = s4.heap.objs.size + 1 := by rw [hs'.1, Heap.size_push]
    have keep' : ∀ b o, s4.heap.get? b = some o → h'.get? b = some o := fun b o e => hs'.extBut b o (Nat.ne_of_lt (Heap.lt_size e)) (Heap.get?_push_of_some _ e)
    generalize hgo : ({ cls := .type "generator", data := .fields #[.int s4.gens.size 0, .str "<genexpr>" (s4.toks + 1), .str (X.env.qual ++ "<genexpr>") (s4.toks + 1 + 1)] } : Obj) = go
    have hgen : ∀ h : Heap, h.get? h'.objs.size = some go → h.IsGen h'.objs.size s4.gens.size := fun h e => ⟨go, _, _, e, by rw [← hgo], by rw [← hgo], by rw [← hgo]⟩
    have hfreed : go.data ≠ .freed := by rw [← hgo]; intro z; cases z
    have hpush : (h'.push go).get? h'.objs.size = some go := Heap.get?_push_size _ (by rw [← hgo]; rfl)
    have keep5 : ∀ b o, s4.heap.get? b = some o → (h'.push go).get? b = some o := fun b o e => Heap.get?_push_of_some _ (keep' b o e)
    generalize hcenv : genEnv scope (cloFrom X.env.cells scope.names []) s4.heap.objs.size code builtinsNs X.env = cenv
    have eLoc : cenv.locals = s4.heap.objs.size := by rw [← hcenv]; rfl
    have eScope : cenv.scope = scope := by rw [← hcenv]; rfl
    have eCells : cenv.cells = cloFrom X.env.cells scope.names [] := by rw [← hcenv]; rfl
    have eFrame : cenv.frame = some cenv.locals := by rw [← hcenv]; rfl
    have eGlob : cenv.globals = X.env.globals := by rw [← hcenv]; rfl
    have eBlt : cenv.builtins = builtinsNs := by rw [← hcenv]; rfl
    have cm : ∀ {y : Str} {c : Addr}, cenv.cells.lookup y = some c → X.env.cells.lookup y = some c := fun {y c} e => clo_cm S.free (by rw [← eCells]; exact e)
    -- the generator's own context, whatever wakes it
    have wake : ∀ (Aw : Around), Room k (Aw.deeper cenv) → Aw.frames = some X.stack → ∀ (s6 : Shared), (∀ b o, (h'.push go).get? b = some o → s6.heap.get? b = some o) → s6.os = s4.os → AllBare s6.gens →
        Inv (gx X s4 H3 N cenv Aw fp [(h'.objs.size, go)]) [] σ' H3 s6 := by
      intro Aw hrw hfr s6 hk6 ho6 hb6
      have keep6 : ∀ b o, s4.heap.get? b = some o → s6.heap.get? b = some o := fun b o e => hk6 b o (keep5 b o e)
      have fpl : ∀ b ∈ fp, b < s4.heap.objs.size := fun b hb => by
        obtain ⟨o, e, _⟩ := T.obj _ _ ht4 b hb
        exact Heap.lt_size e
      refine ⟨⟨I4.ok.mod, by show cenv.scope.kind = _; rw [eScope]; exact S.kind, by show cenv.globals = _; rw [eGlob]; exact I4.ok.glob, eBlt, by show s4.heap.objs.size ≤ cenv.locals; rw [eLoc]; exact Nat.le_refl _,
        fun y z c h1 h2 => I4.ok.inj y z c (cm h1) (cm h2), fun y hy => ?_, fun y c hf _ => absurd (show false = true from hf) (by decide), fun _ => hrw.hd, ?_, .inr ⟨rfl, eFrame⟩, fun b hb => ⟨?_, fun y c e => (hf4 b hb).2.2.2.2.1 y c (cm e)⟩, I4.bs, Nat.le_trans I4.ok.bsz I4.sz,
        fun b o e hb => ?_, fun b hb hm => ?_, I4.stack, I4.stkFree⟩, ho6, hb6, Un.kept keep6, ?_, fun y c e => ?_, ?_, fun y c e => I4.freeC y c (cm e), fun q hq => ?_, I4.hok.kept keep6, hcap.1⟩
      · have hy' : scope.names.lookup y = some .cell ∨ scope.names.lookup y = some .free := by
          have z : cenv.scope.names.lookup y = some .cell ∨ cenv.scope.names.lookup y = some .free := hy
          rw [eScope] at z
          exact z
        rcases hy' with z | z
        · exact absurd rfl (S.cell _ (PySem.mem_of_lookup z))
        · obtain ⟨c0, e0⟩ := S.free _ (PySem.mem_of_lookup z) rfl
          exact ⟨c0, by show cenv.cells.lookup y = _; rw [eCells]; exact clo_has S.free (PySem.mem_of_lookup z) e0⟩
      · show (Aw.deeper cenv).frames = some (cenv :: X.stack)
        exact Around.frames_deeper hfr
      · show b ≠ cenv.locals
        rw [eLoc]; exact Nat.ne_of_lt (fpl b hb)
      · rcases (hf4 b hb).2.2.2.1 with z | z
        · exact I4.ok.noex b o e z
        · exact absurd (Nat.lt_of_lt_of_le (Heap.lt_size e) (Nat.le_trans I4.ok.bsz z)) (Nat.lt_irrefl _)
      · rcases List.mem_cons.mp (I4.stkSub b hm) with z | z
        · exact (hf4 b hb).2.1 z
        · exact (hf4 b hb).2.2.1 z
      · refine ⟨_, by show s6.heap.Ns cenv.locals _; rw [eLoc]; exact (hn'.push go).keeps hk6, fun i x v e1 e2 e3 => ?_⟩
        obtain ⟨f1, j, f2, f3, f4⟩ := hcap.2 i x v e1 e2
        obtain ⟨mo, hno, hlo⟩ := I4.loc
        have hvis : Vis X.env.scope x := by
          rcases f4 with z | z
          · exact .inr (.inl z)
          · exact .inr (.inr z)
        obtain ⟨u, ru, l⟩ := hlo j x v f2 f3 hvis
        refine ⟨u, ru, .inr ⟨.inr (by show cenv.scope.names.lookup x = _; rw [eScope]; exact f1), ?_⟩⟩
        rcases l with ⟨l1, _⟩ | ⟨_, c0, l2, l3⟩
        · rcases f4 with z | z
          · rw [z] at l1; cases l1
          · rw [z] at l1; cases l1
        · obtain ⟨oc, hoc, hd⟩ := l3
          exact ⟨c0, by show cenv.cells.lookup x = _; rw [eCells]; exact clo_has S.free (PySem.mem_of_lookup f1) l2, oc, keep6 _ _ hoc, hd⟩
      · obtain ⟨v, o, ho, hd⟩ := I4.cell y c (cm e)
        exact ⟨v, o, keep6 _ _ ho, hd⟩
      · show H3 cenv.locals = none
        rw [eLoc]; exact I4.hok.fresh (Nat.le_refl _)
      · have hq' : q = (h'.objs.size, go) := by
          have z : q ∈ [(h'.objs.size, go)] ++ [] := hq
          simpa using z
        subst hq'
        have ga : s4.heap.objs.size ≤ h'.objs.size := by omega
        refine ⟨hk6 _ _ hpush, I4.hok.fresh ga, by show h'.objs.size ≠ cenv.locals; rw [eLoc]; omega, fun hm => ?_, fun v z => ?_⟩
        · rcases List.mem_cons.mp (I4.stkSub _ hm) with z | z
          · exact absurd (Nat.lt_of_lt_of_le I4.lt ga) (by rw [← z]; exact Nat.lt_irrefl _)
          · exact I4.nofs ga z
        · rw [← hgo] at z; cases z
    refine Calls.spliced_nil ?_
    -- all(..) draws
    refine call_function_tree F.kind_all F.plain_all F.entry_all (F.args_all1 _) ?_
    unfold Builtin.«all»
    refine wpAny_bind (m := oneArg "all" _) (wpAny_pure ?_)
    refine wpAny_bind (wpAny_pyIter_gen (s := { s4 with heap := h'.push go, gens := _, toks := _ }) (hgen _ hpush) ?_)
    refine wpAny_pure ⟨plainId_quiet F.plain_all_loop _, ?_⟩
    have hrw : Room k ((X.A.in1.in1).deeper cenv) := ⟨hr.hd, by have := hr.dp; show X.A.depth + 1 + 3 * k + 5 < _; omega, by have := hr.un; show X.A.units + 1 + 1 + 3 + 16 * k + 200 < _; omega⟩
    have hInner : Inner X scope N k (gx X s4 H3 N cenv (X.A.in1.in1) fp [(h'.objs.size, go)]) := ⟨rfl, rfl, rfl, rfl, rfl, rfl, eScope, rfl, rfl, hrw⟩
    refine all_loud (P := X.prog) (w := X.w) (A := X.A) (a := h'.objs.size) (g := s4.gens.size) (Post := fun b s' => EP X pins σ Q (.bool b) s') hr.hd (by have := hr.dp; show X.A.depth < _; omega) (fun b s' z => z) (m + 1) { s4 with heap := h'.push go, gens := s4.gens.push (.fresh (.compStart (.GeneratorExp elt [⟨tg, iter, [], 0⟩] scope gpos) 0 (.ref it) .none cenv)), toks := s4.toks + 1 + 1 + 1 } (hgen _ hpush) (lim4.keeps keep5) ⟨.fresh (.compStart (.GeneratorExp elt [⟨tg, iter, [], 0⟩] scope gpos) 0 (.ref it) .none cenv), Array.getElem?_push_size .., rfl, ?_⟩
    have fpF : ∀ b ∈ fp, FpOk (gx X s4 H3 N cenv (X.A.in1.in1) fp [(h'.objs.size, go)]) [] H3 b := fun b hb => by
      obtain ⟨o, e, _⟩ := T.obj _ _ ht4 b hb
      have bl := Heap.lt_size e
      refine ⟨(hf4 b hb).1, by show b ≠ cenv.locals; rw [eLoc]; exact Nat.ne_of_lt bl, fun hm => ?_, .inl hb, fun y c z => (hf4 b hb).2.2.2.2.1 y c (cm z), fun q hq => ?_⟩
      · rcases List.mem_cons.mp (I4.stkSub b hm) with z | z
        · exact (hf4 b hb).2.1 z
        · exact (hf4 b hb).2.2.1 z
      · have hq' : q = (h'.objs.size, go) := by
          have z : q ∈ [(h'.objs.size, go)] ++ [] := hq
          simpa using z
        subst hq'
        show h'.objs.size ≠ b
        exact Nat.ne_of_gt (by rw [hszN]; exact Nat.lt_succ_of_lt bl)
    have I6 := wake (X.A.in1.in1) hrw I4.ok.frames ({ s4 with heap := h'.push go, gens := s4.gens.push (.fresh (.compStart (.GeneratorExp elt [⟨tg, iter, [], 0⟩] scope gpos) 0 (.ref it) .none cenv)), toks := s4.toks + 1 + 1 + 1 }.setGen s4.gens.size .running) (fun b o e => e) rfl (allBare_setGen (s := { s4 with heap := h'.push go, gens := s4.gens.push (.fresh (.compStart (.GeneratorExp elt [⟨tg, iter, [], 0⟩] scope gpos) 0 (.ref it) .none cenv)), toks := s4.toks + 1 + 1 + 1 }) (AllBare.push I4.bare rfl) rfl)
    refine seg_start (X := gx X s4 H3 N cenv (X.A.in1.in1) fp [(h'.objs.size, go)]) (Aw := X.A.in1.in1) (go := go) rfl rfl rfl (by show cenv.scope.isCoroutine = false; rw [eScope]; exact S.co) (List.mem_singleton.mpr rfl) hgen T (hgt _ hInner) (hel _ hInner) hW (fun b σ1 H1 sa sb J fin hk ho hb => ?_) m _ _ σ' H3 I6 (T.keep _ _ _ ht4 fun b hb o e => keep5 b o e) fpF w0
    refine ⟨.bl b, H1, I4.call' (ch := fp) (ho.trans J.os) ((show Un (frs X.stack) fp H3 H1 s4.heap sa.heap from J.base).trans (Un.kept hk)) (J.hok.kept hk) hb (fun b hb => ⟨(hf4 b hb).2.2.2.1, (hf4 b hb).2.1, (hf4 b hb).2.2.2.2.1, (hf4 b hb).2.2.2.2.2⟩), rfl, fin⟩
  cases hfc : codeAmong gpos ps.toList with
  | none =>
    refine wpAny_genexprCodeX hcode (cd.code hPs htr) (cd.tab hPs) hfc fun c' h' tk hx hge hlt hco' _ htab' _ => ?_
    obtain ⟨o1, vs, f1, tf, fl, tg', inF, tx, tt, op, _, _, _, _, _, _, _, _, _, htr', _⟩ := hco'
    exact cont _ h' tk _ hx (Nat.le_trans hge (Nat.le_of_lt hlt)) htab'.2 ⟨_, rfl⟩ htr'
  | some cv =>
    refine wpAny_genexprCode_hit hcode (cd.code hPs htr) hfc ?_
    exact cont cv s2.heap s2.toks ps (Heap.ExtBut.refl _ _) (Nat.le_refl _) hPs ⟨#[], by simp⟩ htr
end
end LG

set_option Elab.async false
set_option linter.all false
set_option maxRecDepth 100000
set_option maxHeartbeats 1000000
/-! values as data: tuples by value, lists by places of a store; what a piece of Python does, as a Lean function over them -/
namespace DL
open PySem PySem.Spec PyProof.Rows L2 GxR LG

inductive D where
  | non | bl (b : Bool) | int (i : Int) | str (x : Str) | tup (ds : List D) | ref (l : Nat) | scr | ty (n : String)
inductive O where
  | lst (ds : List D)
abbrev Sto := List O
abbrev Rho := List (Option D)
/-- what is fixed through the law: the written part, the tables, the script -/
structure G0 where
  P : Program
  w : World
  mg : Str → Option Value
  base : Heap
  K : PySem.W.Frag
  Ps : List Addr
  sa : Addr
  ns : List Int

mutual
inductive Rep (G : G0) (μ : List Addr) (H : Hp) : D → V → Prop
  | non : Rep G μ H .non .non
  | bl (b : Bool) : Rep G μ H (.bl b) (.bl b)
  | int (i : Int) : Rep G μ H (.int i) (.int i)
  | str (x : Str) : Rep G μ H (.str x) (.str x)
  | tup {a : Addr} {vs : List V} {ds : List D} (s : SqT G.K H a vs) (r : Reps G μ H ds vs) : Rep G μ H (.tup ds) (.ref a)
  | ref {l : Nat} {a : Addr} (h : μ[l]? = some a) : Rep G μ H (.ref l) (.ref a)
  | scr : Rep G μ H .scr (.ref G.sa)
  | ty (n : String) : Rep G μ H (.ty n) (.ty n)
inductive Reps (G : G0) (μ : List Addr) (H : Hp) : List D → List V → Prop
  | nil : Reps G μ H [] []
  | cons {d : D} {v : V} {ds : List D} {vs : List V} (h : Rep G μ H d v) (t : Reps G μ H ds vs) : Reps G μ H (d :: ds) (v :: vs)
end

/-- further on: new places, the tuples that stood stand -/
structure Ext (G : G0) (μ : List Addr) (H : Hp) (μ' : List Addr) (H' : Hp) : Prop where
  pre : ∃ more, μ' = μ ++ more
  tup : ∀ a vs, SqT G.K H a vs → SqT G.K H' a vs
theorem Ext.refl {G : G0} {μ : List Addr} {H : Hp} : Ext G μ H μ H := ⟨⟨[], by simp⟩, fun _ _ h => h⟩
theorem Ext.trans {G : G0} {μ1 μ2 μ3 : List Addr} {H1 H2 H3 : Hp} (a : Ext G μ1 H1 μ2 H2) (b : Ext G μ2 H2 μ3 H3) : Ext G μ1 H1 μ3 H3 := by
  obtain ⟨x, hx⟩ := a.pre
  obtain ⟨y, hy⟩ := b.pre
  exact ⟨⟨x ++ y, by rw [hy, hx, List.append_assoc]⟩, fun c vs h => b.tup c vs (a.tup c vs h)⟩
theorem Ext.at {G : G0} {μ μ' : List Addr} {H H' : Hp} (e : Ext G μ H μ' H') {l : Nat} {a : Addr} (h : μ[l]? = some a) : μ'[l]? = some a := by
  obtain ⟨x, hx⟩ := e.pre
  have hl : l < μ.length := (List.getElem?_eq_some_iff.mp h).1
  rw [hx, List.getElem?_append_left hl]
  exact h
mutual
theorem Rep.ext {G : G0} {μ μ' : List Addr} {H H' : Hp} (e : Ext G μ H μ' H') : ∀ {d : D} {v : V}, Rep G μ H d v → Rep G μ' H' d v
  | _, _, .non => .non
  | _, _, .bl b => .bl b
  | _, _, .int i => .int i
  | _, _, .str x => .str x
  | _, _, .tup s r => .tup (e.tup _ _ s) (Reps.ext e r)
  | _, _, .ref h => .ref (e.at h)
  | _, _, .scr => .scr
  | _, _, .ty n => .ty n
theorem Reps.ext {G : G0} {μ μ' : List Addr} {H H' : Hp} (e : Ext G μ H μ' H') : ∀ {ds : List D} {vs : List V}, Reps G μ H ds vs → Reps G μ' H' ds vs
  | _, _, .nil => .nil
  | _, _, .cons h t => .cons (Rep.ext e h) (Reps.ext e t)
end
section
variable {G : G0} {μ : List Addr} {H : Hp}
theorem Reps.length : ∀ {ds : List D} {vs : List V}, Reps G μ H ds vs → ds.length = vs.length
  | _, _, .nil => rfl
  | _, _, .cons _ t => congrArg (· + 1) (Reps.length t)
theorem Reps.get : ∀ {ds : List D} {vs : List V} (i : Nat) {d : D}, Reps G μ H ds vs → ds[i]? = some d → ∃ v, vs[i]? = some v ∧ Rep G μ H d v
  | _, _, _, _, .nil, e => by simp at e
  | _, _, 0, _, .cons h _, e => by simp at e; subst e; exact ⟨_, rfl, h⟩
  | _, _, i + 1, d, .cons _ t, e => by
    obtain ⟨v, h1, h2⟩ := Reps.get (ds := _) i (d := d) t (by simpa using e)
    exact ⟨v, by simpa using h1, h2⟩
theorem Reps.get' : ∀ {ds : List D} {vs : List V} (i : Nat) {v : V}, Reps G μ H ds vs → vs[i]? = some v → ∃ d, ds[i]? = some d ∧ Rep G μ H d v
  | _, _, _, _, .nil, e => by simp at e
  | _, _, 0, _, .cons h _, e => by simp at e; subst e; exact ⟨_, rfl, h⟩
  | _, _, i + 1, v, .cons _ t, e => by
    obtain ⟨d, h1, h2⟩ := Reps.get' (vs := _) i (v := v) t (by simpa using e)
    exact ⟨d, by simpa using h1, h2⟩
theorem Reps.append : ∀ {ds es : List D} {vs ws : List V}, Reps G μ H ds vs → Reps G μ H es ws → Reps G μ H (ds ++ es) (vs ++ ws)
  | _, _, _, _, .nil, s => s
  | _, _, _, _, .cons h t, s => .cons h (Reps.append t s)
theorem Reps.drop : ∀ {ds : List D} {vs : List V} (n : Nat), Reps G μ H ds vs → Reps G μ H (ds.drop n) (vs.drop n)
  | _, _, 0, r => r
  | _, _, _ + 1, .nil => .nil
  | _, _, n + 1, .cons _ t => Reps.drop n t
theorem Reps.take : ∀ {ds : List D} {vs : List V} (n : Nat), Reps G μ H ds vs → Reps G μ H (ds.take n) (vs.take n)
  | _, _, 0, _ => .nil
  | _, _, _ + 1, .nil => .nil
  | _, _, n + 1, .cons h t => .cons h (Reps.take n t)
theorem Reps.set {d : D} {v : V} (r : Rep G μ H d v) : ∀ {ds : List D} {vs : List V} (i : Nat), Reps G μ H ds vs → Reps G μ H (ds.set i d) (vs.set i v)
  | _, _, _, .nil => .nil
  | _, _, 0, .cons _ t => .cons r t
  | _, _, i + 1, .cons h t => .cons h (Reps.set r i t)
theorem Reps.reverse {ds : List D} {vs : List V} (h : Reps G μ H ds vs) : Reps G μ H ds.reverse vs.reverse := by
  induction ds generalizing vs with
  | nil => cases h; exact .nil
  | cons d ds ih =>
    cases h with
    | cons a t => rw [List.reverse_cons, List.reverse_cons]; exact (ih t).append (.cons a .nil)
theorem Reps.ints : ∀ ns : List Int, Reps G μ H (ns.map D.int) (ns.map V.int)
  | [] => .nil
  | i :: r => .cons (.int i) (Reps.ints r)
theorem Reps.strs : ∀ ns : List Str, Reps G μ H (ns.map D.str) (ns.map V.str)
  | [] => .nil
  | i :: r => .cons (.str i) (Reps.strs r)
end

def ORep (G : G0) (μ : List Addr) (H : Hp) (o : O) (a : Addr) : Prop := match o with
  | .lst ds => ∃ vs, H a = some (.lst vs) ∧ Reps G μ H ds vs
/-- a list of the module's own top -/
def KL (K : PySem.W.Frag) (a : Addr) (xs : List V) : Prop :=
  ∃ (o : Obj) (its : Array Value) (n : Nat), K.lookup a = some o ∧ o.cls = .type "list" ∧ o.dict = none ∧ o.data = .seq its n ∧ its.size ≤ sizeLine ∧ Vals xs its.toList
structure StR (G : G0) (μ : List Addr) (st : Sto) (H : Hp) : Prop where
  len : μ.length = st.length
  obj : ∀ (l : Nat) (o : O) (a : Addr), st[l]? = some o → μ[l]? = some a → ORep G μ H o a
  nd : μ.Nodup
  tab : ∀ P ∈ G.Ps, TabG H P
  scr : KL G.K G.sa (G.ns.map V.int) ∨ (Rd H G.sa (.lst (G.ns.map V.int)) ∧ G.sa ∉ μ)
section
variable {G : G0} {μ μ' : List Addr} {st : Sto} {H H' : Hp}
theorem StR.script (S : StR G μ st H) : SqL G.K H G.sa (G.ns.map V.int) := by
  rcases S.scr with h | ⟨h, _⟩
  · exact .inr h
  · exact .inl h
theorem StR.at (S : StR G μ st H) {l : Nat} {o : O} (h : st[l]? = some o) : ∃ a, μ[l]? = some a ∧ ORep G μ H o a := by
  have hl : l < μ.length := by rw [S.len]; exact (List.getElem?_eq_some_iff.mp h).1
  exact ⟨μ[l], by simp [hl], S.obj l o _ h (by simp [hl])⟩
theorem StR.tracked (S : StR G μ st H) {a : Addr} (h : a ∈ μ) : H a ≠ none := by
  obtain ⟨l, hl, e⟩ := List.getElem_of_mem h
  have hl' : l < st.length := by rw [← S.len]; exact hl
  have q := S.obj l st[l] a (by simp [hl']) (by simp [hl, e])
  revert q
  generalize st[l] = o
  cases o with
  | lst ds => intro ⟨vs, h1, _⟩ h2; rw [h2] at h1; cases h1
theorem ORep.ext {o : O} {a : Addr} (e : Ext G μ H μ' H') (hs : ∀ x, H a = some x → H' a = some x) (h : ORep G μ H o a) : ORep G μ' H' o a := by
  cases o with
  | lst ds =>
    obtain ⟨vs, h1, h2⟩ := h
    exact ⟨vs, hs _ h1, h2.ext e⟩
/-- a fresh address is none of ours -/
theorem sqT_new {K : PySem.W.Frag} {p : Addr} {o : HO} (hp : H p = none) {b : Addr} {vs : List V} (h : SqT K H b vs) : SqT K (upd H p o) b vs := by
  rcases h with (h | ⟨ob, h⟩) | h
  · exact .inl (.inl (by rw [upd_ne (ne_of_none h hp)]; exact h))
  · exact .inl (.inr ⟨ob, by rw [upd_ne (ne_of_none h hp)]; exact h⟩)
  · exact .inr h
theorem Ext.new {p : Addr} {o : HO} (hp : H p = none) : Ext G μ H μ (upd H p o) := ⟨⟨[], by simp⟩, fun _ _ h => sqT_new hp h⟩
theorem Ext.newAt {p : Addr} {o : HO} (hp : H p = none) : Ext G μ H (μ ++ [p]) (upd H p o) := ⟨⟨[p], rfl⟩, fun _ _ h => sqT_new hp h⟩
theorem tabG_new {p P : Addr} {o : HO} (hp : H p = none) (h : TabG H P) : TabG (upd H p o) P := by
  obtain ⟨ps, h1, h2⟩ := h
  exact ⟨ps, by rw [upd_ne (ne_of_none h1 hp)]; exact h1, h2⟩
theorem rd_new {p a : Addr} {o u : HO} (hp : H p = none) (h : Rd H a u) : Rd (upd H p o) a u := by
  rcases h with h | ⟨ob, h⟩
  · exact .inl (by rw [upd_ne (ne_of_none h hp)]; exact h)
  · exact .inr ⟨ob, by rw [upd_ne (ne_of_none h hp)]; exact h⟩
theorem rd_ne {p a : Addr} {u : HO} (hp : H p = none) (h : Rd H a u) : a ≠ p := by
  rcases h with h | ⟨ob, h⟩
  · exact ne_of_none h hp
  · exact ne_of_none h hp
/-- something new that no place tells of: a tuple -/
theorem StR.newT (S : StR G μ st H) {p : Addr} {o : HO} (hp : H p = none) : StR G μ st (upd H p o) where
  len := S.len
  obj := fun l ob a h1 h2 => (S.obj l ob a h1 h2).ext (Ext.new hp) fun x hx => by rw [upd_ne (ne_of_none hx hp)]; exact hx
  nd := S.nd
  tab := fun P hP => tabG_new hp (S.tab P hP)
  scr := S.scr.imp (fun h => h) fun h => ⟨rd_new hp h.1, h.2⟩
/-- a new list -/
theorem StR.newL (S : StR G μ st H) {p : Addr} {ds : List D} {vs : List V} (hp : H p = none) (r : Reps G μ H ds vs) : StR G (μ ++ [p]) (st ++ [.lst ds]) (upd H p (.lst vs)) where
  len := by simp [S.len]
  obj := fun l ob a h1 h2 => by
    by_cases hl : l < st.length
    · rw [List.getElem?_append_left hl] at h1
      rw [List.getElem?_append_left (by rw [S.len]; exact hl)] at h2
      exact (S.obj l ob a h1 h2).ext (Ext.newAt hp) fun x hx => by rw [upd_ne (ne_of_none hx hp)]; exact hx
    · rw [List.getElem?_append_right (by omega)] at h1
      rw [List.getElem?_append_right (by rw [S.len]; omega)] at h2
      have e1 : l - st.length = 0 := by
        have := (List.getElem?_eq_some_iff.mp h1).1
        simp at this; omega
      have e2 : l - μ.length = 0 := by rw [S.len]; exact e1
      rw [e1] at h1; rw [e2] at h2
      simp at h1 h2
      subst h1; subst h2
      exact ⟨vs, upd_same, r.ext (Ext.newAt hp)⟩
  nd := by
    rw [List.nodup_append]
    refine ⟨S.nd, by simp, fun a ha b hb => ?_⟩
    simp at hb
    subst hb
    intro e
    subst e
    exact S.tracked ha hp
  tab := fun P hP => tabG_new hp (S.tab P hP)
  scr := S.scr.imp (fun h => h) fun h => ⟨rd_new hp h.1, fun z => by
    rcases List.mem_append.mp z with z | z
    · exact h.2 z
    · simp at z; exact rd_ne hp h.1 z⟩
/-- a list is written -/
theorem sqT_lst {K : PySem.W.Frag} {p : Addr} {xs ys : List V} (hp : H p = some (.lst xs)) {b : Addr} {vs : List V} (h : SqT K H b vs) : SqT K (upd H p (.lst ys)) b vs := by
  rcases h with (h | ⟨ob, h⟩) | h
  · exact .inl (.inl (by rw [upd_ne (ne_of h hp (by intro z; cases z))]; exact h))
  · exact .inl (.inr ⟨ob, by rw [upd_ne (ne_of h hp (by intro z; cases z))]; exact h⟩)
  · exact .inr h
theorem Ext.lst {p : Addr} {xs ys : List V} (hp : H p = some (.lst xs)) : Ext G μ H μ (upd H p (.lst ys)) := ⟨⟨[], by simp⟩, fun _ _ h => sqT_lst hp h⟩
theorem nd_get {μ : List Addr} (hn : μ.Nodup) {i j : Nat} {a : Addr} (h1 : μ[i]? = some a) (h2 : μ[j]? = some a) : i = j := by
  obtain ⟨h1, e1⟩ := List.getElem?_eq_some_iff.mp h1
  obtain ⟨h2, e2⟩ := List.getElem?_eq_some_iff.mp h2
  exact (List.getElem_inj hn).mp (e1.trans e2.symm)
theorem StR.setL (S : StR G μ st H) {l : Nat} {p : Addr} {xs : List V} {ds : List D} {vs : List V} (hl : μ[l]? = some p) (hp : H p = some (.lst xs)) (r : Reps G μ H ds vs) : StR G μ (st.set l (.lst ds)) (upd H p (.lst vs)) where
  len := by simp [S.len]
  obj := fun k ob a h1 h2 => by
    by_cases hk : k = l
    · subst hk
      rw [hl] at h2; cases h2
      have hlt : k < st.length := by rw [← S.len]; exact (List.getElem?_eq_some_iff.mp hl).1
      rw [List.getElem?_set_self hlt] at h1
      cases h1
      exact ⟨vs, upd_same, r.ext (Ext.lst hp)⟩
    · rw [List.getElem?_set_ne (Ne.symm hk)] at h1
      have ne : a ≠ p := fun e => by subst e; exact hk (nd_get S.nd h2 hl)
      exact (S.obj k ob a h1 h2).ext (Ext.lst hp) fun x hx => by rw [upd_ne ne]; exact hx
  nd := S.nd
  tab := fun P hP => by
    obtain ⟨ps, h1, h2⟩ := S.tab P hP
    exact ⟨ps, by rw [upd_ne (ne_of h1 hp (by intro z; cases z))]; exact h1, h2⟩
  scr := S.scr.imp (fun h => h) fun h => by
    have ne : G.sa ≠ p := fun e => h.2 (by rw [e]; exact List.mem_of_getElem? hl)
    refine ⟨?_, h.2⟩
    rcases h.1 with h | ⟨ob, h⟩
    · exact .inl (by rw [upd_ne ne]; exact h)
    · exact .inr ⟨ob, by rw [upd_ne ne]; exact h⟩
/-- a table has grown -/
theorem sqT_tab {K : PySem.W.Frag} {P : Addr} (hP : TabG H P) (t : Tabbed P H H') {b : Addr} {vs : List V} (h : SqT K H b vs) : SqT K H' b vs := by
  obtain ⟨ps, hp, _⟩ := hP
  rcases h with (h | ⟨ob, h⟩) | h
  · exact .inl (.inl (by rw [t.2 b (ne_of h hp (by intro z; cases z))]; exact h))
  · exact .inl (.inr ⟨ob, by rw [t.2 b (ne_of h hp (by intro z; cases z))]; exact h⟩)
  · exact .inr h
theorem Ext.tabbed {P : Addr} (hP : TabG H P) (t : Tabbed P H H') : Ext G μ H μ H' := ⟨⟨[], by simp⟩, fun _ _ h => sqT_tab hP t h⟩
theorem StR.tabbed (S : StR G μ st H) {P : Addr} (hP : TabG H P) (t : Tabbed P H H') : StR G μ st H' where
  len := S.len
  obj := fun l ob a h1 h2 => (S.obj l ob a h1 h2).ext (Ext.tabbed hP t) fun x hx => by
    obtain ⟨ps, hp, _⟩ := hP
    have q := S.obj l ob a h1 h2
    cases ob with
    | lst ds =>
      obtain ⟨vs, e1, _⟩ := q
      rw [t.2 a (ne_of e1 hp (by intro z; cases z))]
      exact hx
  nd := S.nd
  tab := fun Q hQ => by
    by_cases e : Q = P
    · subst e; exact t.1
    · obtain ⟨ps, h1, h2⟩ := S.tab Q hQ
      exact ⟨ps, by rw [t.2 Q e]; exact h1, h2⟩
  scr := S.scr.imp (fun h => h) fun h => by
    obtain ⟨ps, hp, _⟩ := hP
    refine ⟨?_, h.2⟩
    rcases h.1 with h | ⟨ob, h⟩
    · exact .inl (by rw [t.2 _ (ne_of h hp (by intro z; cases z))]; exact h)
    · exact .inr ⟨ob, by rw [t.2 _ (ne_of h hp (by intro z; cases z))]; exact h⟩
end

/-- the slots' values -/
structure EnvR (G : G0) (μ : List Addr) (H : Hp) (ρ : Rho) (σ : L2.St) : Prop where
  len : σ.length = ρ.length
  get : ∀ (i : Nat) (d : D), ρ[i]? = some (some d) → ∃ v, σ[i]? = some (some v) ∧ Rep G μ H d v
theorem EnvR.ext {G : G0} {μ μ' : List Addr} {H H' : Hp} {ρ : Rho} {σ : L2.St} (E : EnvR G μ H ρ σ) (e : Ext G μ H μ' H') : EnvR G μ' H' ρ σ :=
  ⟨E.len, fun i d h => let ⟨v, h1, h2⟩ := E.get i d h; ⟨v, h1, h2.ext e⟩⟩
theorem EnvR.set {G : G0} {μ : List Addr} {H : Hp} {ρ : Rho} {σ : L2.St} (E : EnvR G μ H ρ σ) {i : Nat} {d : D} {v : V} (r : Rep G μ H d v) : EnvR G μ H (ρ.set i (some d)) (σ.set i (some v)) :=
  ⟨by simp [E.len], fun j e h => by
    by_cases hj : j = i
    · subst hj
      have hl : j < ρ.length := by
        have := (List.getElem?_eq_some_iff.mp h).1
        simpa using this
      rw [List.getElem?_set_self hl] at h
      cases h
      exact ⟨v, by rw [List.getElem?_set_self (by rw [E.len]; exact hl)], r⟩
    · rw [List.getElem?_set_ne (Ne.symm hj)] at h
      obtain ⟨w, h1, h2⟩ := E.get j e h
      exact ⟨w, by rw [List.getElem?_set_ne (Ne.symm hj)]; exact h1, h2⟩⟩

/-! ### pieces of Python as functions -/
abbrev FE := Rho → Sto → Option (D × Sto)
abbrev FT := Rho → Sto → Option (Bool × Sto)
abbrev FA := Rho → Sto → Option (List D × Sto)
inductive Fl where
  | nx | rt (d : D) | bk | ct
abbrev FS := Rho → Sto → Option (Fl × Rho × Sto)
abbrev FG := D → Rho → Sto → Option (Rho × Sto)

/-- what is wanted of a value and of what stands behind it -/
def After (G : G0) (μ : List Addr) (H : Hp) (d : D) (st' : Sto) (Q : VK) : Prop := ∀ μ' H' v, Ext G μ H μ' H' → StR G μ' st' H' → Rep G μ' H' d v → Q v H'
def lift (G : G0) (f : FE) : TE := fun σ H Q => ∃ ρ μ st d st', EnvR G μ H ρ σ ∧ StR G μ st H ∧ f ρ st = some (d, st') ∧ After G μ H d st' Q
def liftT (G : G0) (f : FT) : TT := fun σ H Q => ∃ ρ μ st b st', EnvR G μ H ρ σ ∧ StR G μ st H ∧ f ρ st = some (b, st') ∧ ∀ μ' H', Ext G μ H μ' H' → StR G μ' st' H' → Q b H'
def liftA (G : G0) (f : FA) : TA := fun σ H Q => ∃ ρ μ st ds st', EnvR G μ H ρ σ ∧ StR G μ st H ∧ f ρ st = some (ds, st') ∧ ∀ μ' H' vs, Ext G μ H μ' H' → StR G μ' st' H' → Reps G μ' H' ds vs → Q vs H'
def endS (G : G0) (μ' : List Addr) (H' : Hp) (E : Ends) (fl : Fl) (ρ' : Rho) : Prop := match fl with
  | .nx => ∀ σ', EnvR G μ' H' ρ' σ' → E.nx σ' H'
  | .bk => ∀ σ', EnvR G μ' H' ρ' σ' → E.bk σ' H'
  | .ct => ∀ σ', EnvR G μ' H' ρ' σ' → E.ct σ' H'
  | .rt d => ∀ v, Rep G μ' H' d v → E.rt v H'
def liftS (G : G0) (f : FS) : TS := fun E σ H => ∃ ρ μ st fl ρ' st', EnvR G μ H ρ σ ∧ StR G μ st H ∧ f ρ st = some (fl, ρ', st') ∧ ∀ μ' H', Ext G μ H μ' H' → StR G μ' st' H' → endS G μ' H' E fl ρ'
def liftG (G : G0) (f : FG) : TG := fun v σ H Q => ∃ d ρ μ st ρ' st', Rep G μ H d v ∧ EnvR G μ H ρ σ ∧ StR G μ st H ∧ f d ρ st = some (ρ', st') ∧ ∀ μ' H' σ', Ext G μ H μ' H' → StR G μ' st' H' → EnvR G μ' H' ρ' σ' → Q σ' H'

theorem PE.imp {X : Cx} {e : Expr} {t t' : TE} (h : PE X e t) (i : ∀ σ H Q, t' σ H Q → t σ H Q) : PE X e t' := ⟨fun pins s σ H Q I q => h.run pins s σ H Q I (i σ H Q q)⟩
theorem PT.imp {X : Cx} {e : Expr} {t t' : TT} (h : PT X e t) (i : ∀ σ H Q, t' σ H Q → t σ H Q) : PT X e t' := ⟨fun pins s σ H Q I q => h.run pins s σ H Q I (i σ H Q q)⟩
theorem PW.imp {X : Cx} {e : Expr} {t t' : TT} (h : PW X e t) (i : ∀ σ H Q, t' σ H Q → t σ H Q) : PW X e t' := ⟨fun wh pins s σ H Q I q => h.run wh pins s σ H Q I (i σ H Q q)⟩
theorem PA.imp {X : Cx} {e : List Expr} {t t' : TA} (h : PA X e t) (i : ∀ σ H Q, t' σ H Q → t σ H Q) : PA X e t' := ⟨fun pos pins s σ H Q I q => h.run pos pins s σ H Q I (i σ H Q q)⟩
theorem PS.imp {X : Cx} {e : Stmt} {t t' : TS} (h : PS X e t) (i : ∀ E σ H, t' E σ H → t E σ H) : PS X e t' := ⟨fun pins s σ H E I q => h.run pins s σ H E I (i E σ H q)⟩
theorem PSs.imp {X : Cx} {e : List Stmt} {t t' : TS} (h : PSs X e t) (i : ∀ E σ H, t' E σ H → t E σ H) : PSs X e t' := ⟨fun pins s σ H E I q => h.run pins s σ H E I (i E σ H q)⟩
theorem PG.imp {X : Cx} {e : Expr} {t t' : TG} (h : PG X e t) (i : ∀ v σ H Q, t' v σ H Q → t v σ H Q) : PG X e t' := ⟨fun pins s σ H v u Q I r q => h.run pins s σ H v u Q I r (i v σ H Q q)⟩
theorem OpR.imp {X : Cx} {f : Value → Value → Sem Value} {r r' : R2} (h : OpR X f r) (i : ∀ x y H Q, r' x y H Q → r x y H Q) : OpR X f r' := fun pins s σ H x y v u Q I rx ry q => h pins s σ H x y v u Q I rx ry (i x y H Q q)
theorem PI.imp {X : Cx} {tg e : Expr} {t t' : TI} (h : PI X tg e t) (i : ∀ σ H R, t' σ H R → t σ H R) : PI X tg e t' := ⟨fun pins s σ H R I q => h.run pins s σ H R I (i σ H R q)⟩
end DL

set_option Elab.async false
set_option linter.all false
set_option maxRecDepth 100000
set_option maxHeartbeats 1000000
namespace DL
open PySem PySem.Spec PyProof.Rows L2 GxR LG

/-- the context lies over the same written part -/
structure On (G : G0) (X : Cx) : Prop where
  prog : X.prog = G.P
  w : X.w = G.w
  mg : X.mg = G.mg
  base : X.base = G.base
  K : X.K = G.K
  calm : X.calm = true

section
variable {G : G0} {X : Cx} {pos : Pos} {a b c e : Expr} {fa fb fc : FE}
theorem After.trans {μ μ1 : List Addr} {H H1 : Hp} {d : D} {st : Sto} {Q : VK} (x : Ext G μ H μ1 H1) (k : After G μ H d st Q) : After G μ1 H1 d st Q := fun μ' H' v y S R => k μ' H' v (x.trans y) S R

/-! ### values -/
def fC (d : D) : FE := fun _ st => some (d, st)
theorem de_int {i : Int} {j : Nat} : PE X (.Constant (.int i) j pos) (lift G (fC (.int i))) := PE.imp pe_int fun σ H Q ⟨ρ, μ, st, d, st', E, S, e, k⟩ => by cases e; exact k μ H _ .refl S (.int i)
theorem de_bl {i : Bool} {j : Nat} : PE X (.Constant (.bool i) j pos) (lift G (fC (.bl i))) := PE.imp pe_bl fun σ H Q ⟨ρ, μ, st, d, st', E, S, e, k⟩ => by cases e; exact k μ H _ .refl S (.bl i)
theorem de_non {j : Nat} : PE X (.Constant .none j pos) (lift G (fC .non)) := PE.imp pe_non fun σ H Q ⟨ρ, μ, st, d, st', E, S, e, k⟩ => by cases e; exact k μ H _ .refl S .non
theorem de_str {i : Str} {j : Nat} : PE X (.Constant (.str i) j pos) (lift G (fC (.str i))) := PE.imp pe_str fun σ H Q ⟨ρ, μ, st, d, st', E, S, e, k⟩ => by cases e; exact k μ H _ .refl S (.str i)
def fV (i : Nat) : FE := fun ρ st => match ρ[i]? with
  | some (some d) => some (d, st)
  | _ => none
theorem de_var (i : Nat) {x : Str} (hN : X.N[i]? = some x) (hv : Vis X.env.scope x) (hd : (x == ("__debug__" : Str)) = false := by decide) (hcd : (x == ("__classdict__" : Str)) = false := by decide) : PE X (.Name x pos) (lift G (fV i)) :=
  PE.imp (pe_var hN hv hd hcd) fun σ H Q ⟨ρ, μ, st, d, st', E, S, e, k⟩ => by
    unfold fV at e
    split at e
    · rename_i d' h
      cases e
      obtain ⟨v, h1, h2⟩ := E.get i _ h
      exact ⟨v, h1, k μ H v .refl S h2⟩
    · cases e
/-- a module's constant: a number -/
theorem de_gint {x : Str} {i : Int} {t : Tok} (hg : Gl X x) (hm : X.mg x = some (.int i t)) (hd : (x == ("__debug__" : Str)) = false := by decide) : PE X (.Name x pos) (lift G (fC (.int i))) :=
  PE.imp (pe_glob (v := .int i) hg hm ⟨t, rfl⟩ hd) fun σ H Q ⟨ρ, μ, st, d, st', E, S, e, k⟩ => by cases e; exact k μ H _ .refl S (.int i)

/-! ### operators by values -/
def rD (G : G0) (h : D → D → Sto → Option (D × Sto)) : R2 := fun x y H Q => ∃ μ st c d z st', StR G μ st H ∧ Rep G μ H c x ∧ Rep G μ H d y ∧ h c d st = some (z, st') ∧ After G μ H z st' Q
def fOp (h : D → D → Sto → Option (D × Sto)) (fa fb : FE) : FE := fun ρ st => (fa ρ st).bind fun p => (fb ρ p.2).bind fun q => h p.1 q.1 q.2
theorem op_core {h : D → D → Sto → Option (D × Sto)} {σ : L2.St} {H : Hp} {Q : VK} (q : lift G (fOp h fa fb) σ H Q) : tOp (rD G h) (lift G fa) (lift G fb) σ H Q := by
  obtain ⟨ρ, μ, st, d, st', E, S, e, k⟩ := q
  unfold fOp at e
  cases e1 : fa ρ st with
  | none => rw [e1] at e; cases e
  | some p =>
    rw [e1] at e
    simp only [Option.bind_some] at e
    cases e2 : fb ρ p.2 with
    | none => rw [e2] at e; cases e
    | some q =>
      rw [e2] at e
      simp only [Option.bind_some] at e
      exact ⟨ρ, μ, st, p.1, p.2, E, S, e1, fun μ1 H1 v X1 S1 R1 => ⟨ρ, μ1, p.2, q.1, q.2, E.ext X1, S1, e2, fun μ2 H2 w X2 S2 R2 => ⟨μ2, q.2, p.1, q.1, d, st', S2, R1.ext X2, R2, e, (k.trans X1).trans X2⟩⟩⟩
theorem de_op {op : Operator} {h : D → D → Sto → Option (D × Sto)} (ho : OpR X (binaryOp op) (rD G h)) (ha : PE X a (lift G fa)) (hb : PE X b (lift G fb)) : PE X (.BinOp a op b pos) (lift G (fOp h fa fb)) :=
  PE.imp (pe_op ho ha hb) fun _ _ _ => op_core
theorem de_cmp {op : CmpOp} {h : D → D → Sto → Option (D × Sto)} (ho : OpR X (compareOp op) (rD G h)) (ha : PE X a (lift G fa)) (hb : PE X b (lift G fb)) (hm : behindInMarks op b = false) : PE X (.Compare a [op] [b] pos) (lift G (fOp h fa fb)) :=
  PE.imp (pe_cmpR ho ha hb hm) fun _ _ _ => op_core
theorem de_ix {h : D → D → Sto → Option (D × Sto)} (ho : IxR X (rD G h)) (ha : PE X a (lift G fa)) (hb : PE X b (lift G fb)) (hs : PlainIx b) : PE X (.Subscript a b pos) (lift G (fOp h fa fb)) :=
  PE.imp (pe_ix ho ha hb hs) fun _ _ _ => op_core
def fChain (h h' : D → D → Sto → Option (D × Sto)) (fa fb fc : FE) : FE := fun ρ st => (fa ρ st).bind fun p => (fb ρ p.2).bind fun q => (h p.1 q.1 q.2).bind fun r => match r.1 with
  | .bl true => (fc ρ r.2).bind fun z => h' q.1 z.1 z.2
  | .bl false => some (.bl false, r.2)
  | _ => none
theorem de_chain {op op' : CmpOp} {h h' : D → D → Sto → Option (D × Sto)} (ho : OpR X (compareOp op) (rD G h)) (ho' : OpR X (compareOp op') (rD G h')) (ha : PE X a (lift G fa)) (hb : PE X b (lift G fb)) (hc : PE X c (lift G fc))
    (hm : lastMarks [op, op'] [b, c] = false := by with_unfolding_all rfl) : PE X (.Compare a [op, op'] [b, c] pos) (lift G (fChain h h' fa fb fc)) :=
  PE.imp (pe_chain ho ho' ha hb hc hm) fun σ H Q ⟨ρ, μ, st, d, st', E, S, e, k⟩ => by
    unfold fChain at e
    obtain ⟨p, e1, e⟩ := Option.bind_eq_some_iff.mp e
    obtain ⟨q, e2, e⟩ := Option.bind_eq_some_iff.mp e
    obtain ⟨r, e3, e⟩ := Option.bind_eq_some_iff.mp e
    refine ⟨ρ, μ, st, p.1, p.2, E, S, e1, fun μ1 H1 v X1 S1 R1 => ⟨ρ, μ1, p.2, q.1, q.2, E.ext X1, S1, e2, fun μ2 H2 w X2 S2 R2 => ⟨μ2, q.2, p.1, q.1, r.1, r.2, S2, R1.ext X2, R2, e3, fun μ3 H3 u X3 S3 R3 => ?_⟩⟩⟩
    obtain ⟨rd, rs⟩ := r
    cases rd with
    | bl t =>
      cases R3
      refine ⟨t, rfl, ?_⟩
      cases t with
      | true =>
        rw [if_pos rfl]
        obtain ⟨z, e4, e⟩ := Option.bind_eq_some_iff.mp e
        exact ⟨ρ, μ3, rs, z.1, z.2, E.ext (X1.trans (X2.trans X3)), S3, e4, fun μ4 H4 u4 X4 S4 R4 => ⟨μ4, z.2, q.1, z.1, d, st', S4, R2.ext (X3.trans X4), R4, e, (((k.trans X1).trans X2).trans X3).trans X4⟩⟩
      | false =>
        rw [if_neg Bool.false_ne_true]
        cases e
        exact k μ3 H3 _ (X1.trans (X2.trans X3)) S3 (.bl false)
    | non => cases e
    | int _ => cases e
    | str _ => cases e
    | tup _ => cases e
    | ref _ => cases e
    | scr => cases e
    | ty _ => cases e

/-! ### and, or, not, if else -/
def asB : D → Option Bool
  | .bl b => some b
  | _ => none
theorem asB_rep {μ : List Addr} {H : Hp} {d : D} {v : V} {b : Bool} (h : asB d = some b) (r : Rep G μ H d v) : v = .bl b := by
  cases d with
  | bl x => cases h; cases r; rfl
  | _ => cases h
def fAnd (fa fb : FE) : FE := fun ρ st => (fa ρ st).bind fun p => (asB p.1).bind fun k => if k = true then fb ρ p.2 else some (.bl false, p.2)
def fOr (fa fb : FE) : FE := fun ρ st => (fa ρ st).bind fun p => (asB p.1).bind fun k => if k = true then some (.bl true, p.2) else fb ρ p.2
def fNot (fa : FE) : FE := fun ρ st => (fa ρ st).bind fun p => (asB p.1).bind fun k => some (.bl (!k), p.2)
theorem de_one {op : BoolOp} (h : PE X a (lift G fa)) : PE X (.BoolOp op [a] pos) (lift G fa) := pe_one h
theorem de_and {rest : List Expr} (ha : PE X a (lift G fa)) (hb : PE X (.BoolOp .And (b :: rest) pos) (lift G fb)) : PE X (.BoolOp .And (a :: b :: rest) pos) (lift G (fAnd fa fb)) :=
  PE.imp (pe_and ha hb) fun σ H Q ⟨ρ, μ, st, d, st', E, S, e, k⟩ => by
    unfold fAnd at e
    obtain ⟨p, e1, e⟩ := Option.bind_eq_some_iff.mp e
    obtain ⟨t, e2, e⟩ := Option.bind_eq_some_iff.mp e
    refine ⟨ρ, μ, st, p.1, p.2, E, S, e1, fun μ1 H1 v X1 S1 R1 => ⟨t, asB_rep e2 R1, ?_⟩⟩
    cases t with
    | true => rw [if_pos rfl] at e ⊢; exact ⟨ρ, μ1, p.2, d, st', E.ext X1, S1, e, k.trans X1⟩
    | false => rw [if_neg Bool.false_ne_true] at e ⊢; cases e; exact k μ1 H1 _ X1 S1 (.bl false)
theorem de_or {rest : List Expr} (ha : PE X a (lift G fa)) (hb : PE X (.BoolOp .Or (b :: rest) pos) (lift G fb)) : PE X (.BoolOp .Or (a :: b :: rest) pos) (lift G (fOr fa fb)) :=
  PE.imp (pe_or ha hb) fun σ H Q ⟨ρ, μ, st, d, st', E, S, e, k⟩ => by
    unfold fOr at e
    obtain ⟨p, e1, e⟩ := Option.bind_eq_some_iff.mp e
    obtain ⟨t, e2, e⟩ := Option.bind_eq_some_iff.mp e
    refine ⟨ρ, μ, st, p.1, p.2, E, S, e1, fun μ1 H1 v X1 S1 R1 => ⟨t, asB_rep e2 R1, ?_⟩⟩
    cases t with
    | true => rw [if_pos rfl] at e ⊢; cases e; exact k μ1 H1 _ X1 S1 (.bl true)
    | false => rw [if_neg Bool.false_ne_true] at e ⊢; exact ⟨ρ, μ1, p.2, d, st', E.ext X1, S1, e, k.trans X1⟩
theorem de_not (ha : PE X a (lift G fa)) : PE X (.UnaryOp .Not a pos) (lift G (fNot fa)) :=
  PE.imp (pe_not ha) fun σ H Q ⟨ρ, μ, st, d, st', E, S, e, k⟩ => by
    unfold fNot at e
    obtain ⟨p, e1, e⟩ := Option.bind_eq_some_iff.mp e
    obtain ⟨t, e2, e⟩ := Option.bind_eq_some_iff.mp e
    cases e
    exact ⟨ρ, μ, st, p.1, p.2, E, S, e1, fun μ1 H1 v X1 S1 R1 => ⟨t, asB_rep e2 R1, k μ1 H1 _ X1 S1 (.bl _)⟩⟩
/-! tests -/
def fTst (fa : FE) : FT := fun ρ st => (fa ρ st).bind fun p => (asB p.1).bind fun k => some (k, p.2)
theorem dt_val (h : PE X e (lift G fa)) (he : ∀ whole, isTrue e X.env whole = (do let v ← whole; standAt e.pos; holding [v] (truthy v)) := by intro _; rfl) : PT X e (liftT G (fTst fa)) :=
  PT.imp (pt_val h he) fun σ H Q ⟨ρ, μ, st, d, st', E, S, e, k⟩ => by
    unfold fTst at e
    obtain ⟨p, e1, e⟩ := Option.bind_eq_some_iff.mp e
    obtain ⟨t, e2, e⟩ := Option.bind_eq_some_iff.mp e
    cases e
    exact ⟨ρ, μ, st, p.1, p.2, E, S, e1, fun μ1 H1 v X1 S1 R1 => ⟨_, asB_rep e2 R1, k μ1 H1 X1 S1⟩⟩
variable {ta tb : FT}
theorem dt_cmp {op : CmpOp} {h : D → D → Sto → Option (D × Sto)} (ho : OpR X (compareOp op) (rD G h)) (ha : PE X a (lift G fa)) (hb : PE X b (lift G fb)) (hm : behindInMarks op b = false) : PT X (.Compare a [op] [b] pos) (liftT G (fTst (fOp h fa fb))) :=
  PT.imp (pt_cmpR ho ha hb hm) fun σ H Q ⟨ρ, μ, st, d, st', E, S, e, k⟩ => by
    unfold fTst at e
    obtain ⟨p, e1, e⟩ := Option.bind_eq_some_iff.mp e
    obtain ⟨t, e2, e⟩ := Option.bind_eq_some_iff.mp e
    cases e
    exact op_core ⟨ρ, μ, st, p.1, p.2, E, S, e1, fun μ1 H1 v X1 S1 R1 => ⟨_, asB_rep e2 R1, k μ1 H1 X1 S1⟩⟩
theorem chain_core {h h' : D → D → Sto → Option (D × Sto)} {σ : L2.St} {H : Hp} {Q : VK} (q : lift G (fChain h h' fa fb fc) σ H Q) : tChain (rD G h) (rD G h') (lift G fa) (lift G fb) (lift G fc) σ H Q := by
  obtain ⟨ρ, μ, st, d, st', E, S, e, k⟩ := q
  unfold fChain at e
  obtain ⟨p, e1, e⟩ := Option.bind_eq_some_iff.mp e
  obtain ⟨q, e2, e⟩ := Option.bind_eq_some_iff.mp e
  obtain ⟨r, e3, e⟩ := Option.bind_eq_some_iff.mp e
  refine ⟨ρ, μ, st, p.1, p.2, E, S, e1, fun μ1 H1 v X1 S1 R1 => ⟨ρ, μ1, p.2, q.1, q.2, E.ext X1, S1, e2, fun μ2 H2 w X2 S2 R2 => ⟨μ2, q.2, p.1, q.1, r.1, r.2, S2, R1.ext X2, R2, e3, fun μ3 H3 u X3 S3 R3 => ?_⟩⟩⟩
  obtain ⟨rd, rs⟩ := r
  cases rd with
  | bl t =>
    cases R3
    refine ⟨t, rfl, ?_⟩
    cases t with
    | true =>
      rw [if_pos rfl]
      obtain ⟨z, e4, e⟩ := Option.bind_eq_some_iff.mp e
      exact ⟨ρ, μ3, rs, z.1, z.2, E.ext (X1.trans (X2.trans X3)), S3, e4, fun μ4 H4 u4 X4 S4 R4 => ⟨μ4, z.2, q.1, z.1, d, st', S4, R2.ext (X3.trans X4), R4, e, (((k.trans X1).trans X2).trans X3).trans X4⟩⟩
    | false =>
      rw [if_neg Bool.false_ne_true]
      cases e
      exact k μ3 H3 _ (X1.trans (X2.trans X3)) S3 (.bl false)
  | _ => cases e
theorem dt_chain {op op' : CmpOp} {h h' : D → D → Sto → Option (D × Sto)} (ho : OpR X (compareOp op) (rD G h)) (ho' : OpR X (compareOp op') (rD G h')) (ha : PE X a (lift G fa)) (hb : PE X b (lift G fb)) (hc : PE X c (lift G fc))
    (hm : lastMarks [op, op'] [b, c] = false := by with_unfolding_all rfl) : PT X (.Compare a [op, op'] [b, c] pos) (liftT G (fTst (fChain h h' fa fb fc))) :=
  PT.imp (pt_chain ho ho' ha hb hc hm) fun σ H Q ⟨ρ, μ, st, d, st', E, S, e, k⟩ => by
    unfold fTst at e
    obtain ⟨p, e1, e⟩ := Option.bind_eq_some_iff.mp e
    obtain ⟨t, e2, e⟩ := Option.bind_eq_some_iff.mp e
    cases e
    exact chain_core ⟨ρ, μ, st, p.1, p.2, E, S, e1, fun μ1 H1 v X1 S1 R1 => ⟨_, asB_rep e2 R1, k μ1 H1 X1 S1⟩⟩
def fTAnd (ta tb : FT) : FT := fun ρ st => (ta ρ st).bind fun p => if p.1 = true then tb ρ p.2 else some (false, p.2)
def fTOr (ta tb : FT) : FT := fun ρ st => (ta ρ st).bind fun p => if p.1 = true then some (true, p.2) else tb ρ p.2
def fTNot (ta : FT) : FT := fun ρ st => (ta ρ st).bind fun p => some (!p.1, p.2)
theorem dw_and1 (ha : PT X a (liftT G ta)) : PW X (.BoolOp .And [a] pos) (liftT G ta) := pw_and1 ha
theorem dw_or1 (ha : PT X a (liftT G ta)) : PW X (.BoolOp .Or [a] pos) (liftT G ta) := pw_or1 ha
theorem dw_and {rest : List Expr} (ha : PT X a (liftT G ta)) (hb : PW X (.BoolOp .And (b :: rest) pos) (liftT G tb)) : PW X (.BoolOp .And (a :: b :: rest) pos) (liftT G (fTAnd ta tb)) :=
  PW.imp (pw_and ha hb) fun σ H Q ⟨ρ, μ, st, d, st', E, S, e, k⟩ => by
    unfold fTAnd at e
    obtain ⟨p, e1, e⟩ := Option.bind_eq_some_iff.mp e
    refine ⟨ρ, μ, st, p.1, p.2, E, S, e1, fun μ1 H1 X1 S1 => ?_⟩
    cases hp : p.1 with
    | true => rw [hp] at e; rw [if_pos rfl] at e ⊢; exact ⟨ρ, μ1, p.2, d, st', E.ext X1, S1, e, fun μ2 H2 X2 S2 => k μ2 H2 (X1.trans X2) S2⟩
    | false => rw [hp] at e; rw [if_neg Bool.false_ne_true] at e ⊢; cases e; exact k μ1 H1 X1 S1
theorem dw_or {rest : List Expr} (ha : PT X a (liftT G ta)) (hb : PW X (.BoolOp .Or (b :: rest) pos) (liftT G tb)) : PW X (.BoolOp .Or (a :: b :: rest) pos) (liftT G (fTOr ta tb)) :=
  PW.imp (pw_or ha hb) fun σ H Q ⟨ρ, μ, st, d, st', E, S, e, k⟩ => by
    unfold fTOr at e
    obtain ⟨p, e1, e⟩ := Option.bind_eq_some_iff.mp e
    refine ⟨ρ, μ, st, p.1, p.2, E, S, e1, fun μ1 H1 X1 S1 => ?_⟩
    cases hp : p.1 with
    | true => rw [hp] at e; rw [if_pos rfl] at e ⊢; cases e; exact k μ1 H1 X1 S1
    | false => rw [hp] at e; rw [if_neg Bool.false_ne_true] at e ⊢; exact ⟨ρ, μ1, p.2, d, st', E.ext X1, S1, e, fun μ2 H2 X2 S2 => k μ2 H2 (X1.trans X2) S2⟩
theorem dt_not (ha : PT X a (liftT G ta)) : PT X (.UnaryOp .Not a pos) (liftT G (fTNot ta)) :=
  PT.imp (pt_not ha) fun σ H Q ⟨ρ, μ, st, d, st', E, S, e, k⟩ => by
    unfold fTNot at e
    obtain ⟨p, e1, e⟩ := Option.bind_eq_some_iff.mp e
    cases e
    exact ⟨ρ, μ, st, p.1, p.2, E, S, e1, fun μ1 H1 X1 S1 => k μ1 H1 X1 S1⟩
def fIf (ta : FT) (fa fb : FE) : FE := fun ρ st => (ta ρ st).bind fun p => if p.1 = true then fa ρ p.2 else fb ρ p.2
theorem de_if (hc : PT X c (liftT G ta)) (ha : PE X a (lift G fa)) (hb : PE X b (lift G fb)) : PE X (.IfExp c a b pos) (lift G (fIf ta fa fb)) :=
  PE.imp (pe_ifExp hc ha hb) fun σ H Q ⟨ρ, μ, st, d, st', E, S, e, k⟩ => by
    unfold fIf at e
    obtain ⟨p, e1, e⟩ := Option.bind_eq_some_iff.mp e
    refine ⟨ρ, μ, st, p.1, p.2, E, S, e1, fun μ1 H1 X1 S1 => ?_⟩
    cases hp : p.1 with
    | true => rw [hp] at e; rw [if_pos rfl] at e ⊢; exact ⟨ρ, μ1, p.2, d, st', E.ext X1, S1, e, k.trans X1⟩
    | false => rw [hp] at e; rw [if_neg Bool.false_ne_true] at e ⊢; exact ⟨ρ, μ1, p.2, d, st', E.ext X1, S1, e, k.trans X1⟩

/-! ### arguments, displays -/
variable {es : List Expr} {fr : FA}
def fNil : FA := fun _ st => some ([], st)
def fCons (fa : FE) (fr : FA) : FA := fun ρ st => (fa ρ st).bind fun p => (fr ρ p.2).bind fun q => some (p.1 :: q.1, q.2)
theorem da_nil : PA X [] (liftA G fNil) := PA.imp pa_nil fun σ H Q ⟨ρ, μ, st, d, st', E, S, e, k⟩ => by cases e; exact k μ H _ .refl S .nil
theorem da_cons (ha : PE X e (lift G fa)) (hr : PA X es (liftA G fr)) (hs : starEach (e :: es) X.env = (false, eval e X.env) :: starEach es X.env := by rfl) : PA X (e :: es) (liftA G (fCons fa fr)) :=
  PA.imp (pa_cons ha hr hs) fun σ H Q ⟨ρ, μ, st, d, st', E, S, e, k⟩ => by
    unfold fCons at e
    obtain ⟨p, e1, e⟩ := Option.bind_eq_some_iff.mp e
    obtain ⟨q, e2, e⟩ := Option.bind_eq_some_iff.mp e
    cases e
    exact ⟨ρ, μ, st, p.1, p.2, E, S, e1, fun μ1 H1 v X1 S1 R1 => ⟨ρ, μ1, p.2, q.1, q.2, E.ext X1, S1, e2, fun μ2 H2 vs X2 S2 R2 => k μ2 H2 _ (X1.trans X2) S2 (.cons (R1.ext X2) R2)⟩⟩
def fTup (fr : FA) : FE := fun ρ st => (fr ρ st).bind fun p => if p.1.length ≤ sizeLine then some (.tup p.1, p.2) else none
def fLst (fr : FA) : FE := fun ρ st => (fr ρ st).bind fun p => if p.1.length ≤ sizeLine then some (.ref p.2.length, p.2 ++ [.lst p.1]) else none
theorem rep_newL {μ : List Addr} {st : Sto} {H : Hp} {p : Addr} {ds : List D} {vs : List V} (S : StR G μ st H) : Rep G (μ ++ [p]) (upd H p (.lst vs)) (.ref st.length) (.ref p) := .ref (by rw [← S.len]; simp)
theorem de_tup {j : Nat} (h : PA X es (liftA G fr)) : PE X (.Tuple es j pos) (lift G (fTup fr)) :=
  PE.imp (pe_tup h) fun σ H Q ⟨ρ, μ, st, d, st', E, S, e, k⟩ => by
    unfold fTup at e
    obtain ⟨p, e1, e⟩ := Option.bind_eq_some_iff.mp e
    split at e
    · rename_i hz
      cases e
      refine ⟨ρ, μ, st, p.1, p.2, E, S, e1, fun μ1 H1 vs X1 S1 R1 => ⟨by rw [← R1.length]; exact hz, fun q hq => ?_⟩⟩
      exact k μ1 _ _ (X1.trans (Ext.new hq)) (S1.newT hq) (.tup (SqT.of upd_same) (R1.ext (Ext.new hq)))
    · cases e
theorem de_lst (h : PA X es (liftA G fr)) : PE X (.List es pos) (lift G (fLst fr)) :=
  PE.imp (pe_lst h) fun σ H Q ⟨ρ, μ, st, d, st', E, S, e, k⟩ => by
    unfold fLst at e
    obtain ⟨p, e1, e⟩ := Option.bind_eq_some_iff.mp e
    split at e
    · rename_i hz
      cases e
      refine ⟨ρ, μ, st, p.1, p.2, E, S, e1, fun μ1 H1 vs X1 S1 R1 => ⟨by rw [← R1.length]; exact hz, fun q hq => ?_⟩⟩
      exact k _ _ _ (X1.trans (Ext.newAt hq)) (S1.newL hq R1) (rep_newL (ds := p.1) S1)
    · cases e
end
end DL

set_option Elab.async false
set_option linter.all false
set_option maxRecDepth 100000
set_option maxHeartbeats 1000000
namespace DL
open PySem PySem.Spec PyProof.Rows L2 GxR LG

section
variable {G : G0} {X : Cx} {pos : Pos} {a b c e : Expr} {fa fb fc : FE} {ta tb : FT}
/-! ### statements -/
def sSeq (s1 s2 : FS) : FS := fun ρ st => (s1 ρ st).bind fun p => match p.1 with
  | .nx => s2 p.2.1 p.2.2
  | f => some (f, p.2.1, p.2.2)
def sNext : FS := fun ρ st => some (.nx, ρ, st)
def sSet (i : Nat) (fa : FE) : FS := fun ρ st => (fa ρ st).bind fun p => some (.nx, ρ.set i (some p.1), p.2)
def sExpr (fa : FE) : FS := fun ρ st => (fa ρ st).bind fun p => some (.nx, ρ, p.2)
def sRet (fa : FE) : FS := fun ρ st => (fa ρ st).bind fun p => some (.rt p.1, ρ, p.2)
def sRetN : FS := fun ρ st => some (.rt .non, ρ, st)
def sBreak : FS := fun ρ st => some (.bk, ρ, st)
def sCont : FS := fun ρ st => some (.ct, ρ, st)
def sIf (ta : FT) (s1 s2 : FS) : FS := fun ρ st => (ta ρ st).bind fun p => if p.1 = true then s1 ρ p.2 else s2 ρ p.2
variable {st1 : Stmt} {rest body orelse : List Stmt} {s1 s2 : FS}
theorem ds_nil : PSs X [] (liftS G sNext) := PSs.imp pss_nil fun D σ H ⟨ρ, μ, st, fl, ρ', st', E, S, e, k⟩ => by
  cases e
  exact k μ H .refl S σ E
theorem ds_cons (h1 : PS X st1 (liftS G s1)) (h2 : PSs X rest (liftS G s2)) : PSs X (st1 :: rest) (liftS G (sSeq s1 s2)) :=
  PSs.imp (pss_cons h1 h2) fun D σ H ⟨ρ, μ, st, fl, ρ', st', E, S, e, k⟩ => by
    unfold sSeq at e
    obtain ⟨⟨f1, ρ1, sto1⟩, e1, e⟩ := Option.bind_eq_some_iff.mp e
    refine ⟨ρ, μ, st, f1, ρ1, sto1, E, S, e1, fun μ1 H1 X1 S1 => ?_⟩
    cases f1 with
    | nx => exact fun σ1 E1 => ⟨ρ1, μ1, sto1, fl, ρ', st', E1, S1, e, fun μ2 H2 X2 S2 => k μ2 H2 (X1.trans X2) S2⟩
    | rt d => cases e; exact k μ1 H1 X1 S1
    | bk => cases e; exact k μ1 H1 X1 S1
    | ct => cases e; exact k μ1 H1 X1 S1
theorem ds_one (h1 : PS X st1 (liftS G s1)) : PSs X [st1] (liftS G s1) := pss_one h1
theorem ds_set {i : Nat} {x : Str} {pos' : Pos} (hN : X.N.Nodup) (hi : X.N[i]? = some x) (hx : Loc X.env.scope x) (he : PE X e (lift G fa)) (hs : swapsWith e (some (.Name x pos')) pos.line X.env = pure false := by rfl)
    (hf : X.fn x = true ∨ X.env.scope.names.lookup x = some .local := by first | exact .inl rfl | exact .inr rfl | assumption) : PS X (.Assign [.Name x pos'] e pos) (liftS G (sSet i fa)) :=
  PS.imp (ps_set hN hi hx he hs hf) fun D σ H ⟨ρ, μ, st, fl, ρ', st', E, S, e, k⟩ => by
    unfold sSet at e
    obtain ⟨p, e1, e⟩ := Option.bind_eq_some_iff.mp e
    cases e
    exact ⟨ρ, μ, st, p.1, p.2, E, S, e1, fun μ1 H1 v X1 S1 R1 => k μ1 H1 X1 S1 _ ((E.ext X1).set R1)⟩
theorem ds_expr (he : PE X e (lift G fa)) (hs : swapsWith e none pos.line X.env = pure false := by rfl) : PS X (.Expr e pos) (liftS G (sExpr fa)) :=
  PS.imp (ps_expr he hs) fun D σ H ⟨ρ, μ, st, fl, ρ', st', E, S, e, k⟩ => by
    unfold sExpr at e
    obtain ⟨p, e1, e⟩ := Option.bind_eq_some_iff.mp e
    cases e
    exact ⟨ρ, μ, st, p.1, p.2, E, S, e1, fun μ1 H1 v X1 S1 R1 => k μ1 H1 X1 S1 σ (E.ext X1)⟩
theorem ds_ret (he : PE X e (lift G fa)) : PS X (.Return (some e) pos) (liftS G (sRet fa)) :=
  PS.imp (ps_ret he) fun D σ H ⟨ρ, μ, st, fl, ρ', st', E, S, e, k⟩ => by
    unfold sRet at e
    obtain ⟨p, e1, e⟩ := Option.bind_eq_some_iff.mp e
    cases e
    exact ⟨ρ, μ, st, p.1, p.2, E, S, e1, fun μ1 H1 v X1 S1 R1 => k μ1 H1 X1 S1 v R1⟩
theorem ds_if (hc : PT X c (liftT G ta)) (ha : PSs X body (liftS G s1)) (hb : PSs X orelse (liftS G s2)) : PS X (.If c body orelse pos) (liftS G (sIf ta s1 s2)) :=
  PS.imp (ps_if hc ha hb) fun D σ H ⟨ρ, μ, st, fl, ρ', st', E, S, e, k⟩ => by
    unfold sIf at e
    obtain ⟨p, e1, e⟩ := Option.bind_eq_some_iff.mp e
    refine ⟨ρ, μ, st, p.1, p.2, E, S, e1, fun μ1 H1 X1 S1 => ?_⟩
    cases hp : p.1 with
    | true => rw [hp] at e; rw [if_pos rfl] at e ⊢; exact ⟨ρ, μ1, p.2, fl, ρ', st', E.ext X1, S1, e, fun μ2 H2 X2 S2 => k μ2 H2 (X1.trans X2) S2⟩
    | false => rw [hp] at e; rw [if_neg Bool.false_ne_true] at e ⊢; exact ⟨ρ, μ1, p.2, fl, ρ', st', E.ext X1, S1, e, fun μ2 H2 X2 S2 => k μ2 H2 (X1.trans X2) S2⟩
theorem ds_break : PS X (.Break pos) (liftS G sBreak) := PS.imp ps_break fun D σ H ⟨ρ, μ, st, fl, ρ', st', E, S, e, k⟩ => by
  cases e
  exact k μ H .refl S σ E
theorem ds_cont : PS X (.Continue pos) (liftS G sCont) := PS.imp ps_continue fun D σ H ⟨ρ, μ, st, fl, ρ', st', E, S, e, k⟩ => by
  cases e
  exact k μ H .refl S σ E
theorem ds_pass : PS X (.Pass pos) (liftS G sNext) := PS.imp ps_pass fun D σ H ⟨ρ, μ, st, fl, ρ', st', E, S, e, k⟩ => by
  cases e
  exact k μ H .refl S σ E
theorem ds_retN : PS X (.Return none pos) (liftS G sRetN) := PS.imp ps_retN fun D σ H ⟨ρ, μ, st, fl, ρ', st', E, S, e, k⟩ => by
  cases e
  exact k μ H .refl S .non .non

/-! ### targets: a name, or a flat row of names -/
inductive Tg where
  | one (i : Nat) | many (is : List Nat)
def gMany : List Nat → TGs
  | [] => gNil
  | i :: is => gCons (gName i) (gMany is)
def gOf (K : PySem.W.Frag) : Tg → TG
  | .one i => gName i
  | .many is => gTup K is.length (gMany is)
def setM : Rho → List Nat → List D → Rho
  | ρ, i :: is, d :: ds => setM (ρ.set i (some d)) is ds
  | ρ, _, _ => ρ
def tgD : Tg → D → Rho → Option Rho
  | .one i, d, ρ => some (ρ.set i (some d))
  | .many is, .tup ds, ρ => if ds.length = is.length then some (setM ρ is ds) else none
  | .many _, _, _ => none
def Tg.ins : Tg → List Nat
  | .one i => [i]
  | .many is => is
theorem wipe_set_in {vs : List Nat} {i : Nat} (h : i ∈ vs) : ∀ (σ : L2.St) (x : Option V), wipe (σ.set i x) vs = wipe σ vs := by
  induction vs with
  | nil => simp at h
  | cons v vs ih =>
    intro σ x
    unfold wipe
    by_cases hv : i ∈ vs
    · rw [ih hv]
    · have e : i = v := by
        rcases List.mem_cons.mp h with h | h
        · exact h
        · exact absurd h hv
      subst e
      have q : ∀ (us : List Nat) (σ : L2.St), i ∉ us → wipe (σ.set i x) us = (wipe σ us).set i x := by
        intro us
        induction us with
        | nil => intro σ _; rfl
        | cons u us ih2 =>
          intro σ hu
          unfold wipe
          rw [ih2 σ (fun z => hu (List.mem_cons_of_mem _ z))]
          rw [List.set_comm _ _ (fun z => hu (by rw [z]; exact List.mem_cons_self))]
      rw [q vs σ hv, List.set_set]
theorem gMany_ok {μ : List Addr} {H : Hp} {vs' : List Nat} : ∀ (is : List Nat) (ds : List D) (vs : List V) (ρ : Rho) (σ : L2.St) (Q : L2.St → Hp → Prop), Reps G μ H ds vs → EnvR G μ H ρ σ → ds.length = is.length →
    (∀ σ', EnvR G μ H (setM ρ is ds) σ' → ((∀ i ∈ is, i ∈ vs') → wipe σ' vs' = wipe σ vs') → Q σ' H) → gMany is vs σ H Q
  | [], [], _, ρ, σ, Q, .nil, E, _, k => ⟨rfl, k σ E fun _ => rfl⟩
  | i :: is, d :: ds, _, ρ, σ, Q, .cons (v := v) h t, E, hl, k => ⟨v, _, rfl, gMany_ok is ds _ (ρ.set i (some d)) (σ.set i (some v)) Q t (E.set h) (by simpa using hl) fun σ' E' w => k σ' E' fun hi => by
      rw [w fun j hj => hi j (List.mem_cons_of_mem _ hj), wipe_set_in (hi i List.mem_cons_self)]⟩
theorem gOf_ok {μ : List Addr} {H : Hp} {vs' : List Nat} {tg : Tg} {d : D} {v : V} {ρ ρ' : Rho} {σ : L2.St} {Q : L2.St → Hp → Prop} (R : Rep G μ H d v) (E : EnvR G μ H ρ σ) (e : tgD tg d ρ = some ρ')
    (k : ∀ σ', EnvR G μ H ρ' σ' → ((∀ i ∈ tg.ins, i ∈ vs') → wipe σ' vs' = wipe σ vs') → Q σ' H) : gOf G.K tg v σ H Q := by
  cases tg with
  | one i =>
    cases e
    exact k _ (E.set R) fun hi => wipe_set_in (hi i (by simp [Tg.ins])) _ _
  | many is =>
    cases d with
    | tup ds =>
      have e' : (if ds.length = is.length then some (setM ρ is ds) else none) = some ρ' := e
      split at e'
      · rename_i hl
        cases e'
        cases R with
        | tup s r => exact ⟨_, _, rfl, s, by rw [← r.length]; exact hl, gMany_ok is ds _ ρ σ Q r E hl k⟩
      · cases e'
    | _ => cases e
theorem dg_name {i : Nat} {x : Str} (hN : X.N.Nodup) (hi : X.N[i]? = some x) (hx : Loc X.env.scope x) (hf : X.fn x = true ∨ X.env.scope.names.lookup x = some .local := by first | exact .inl rfl | exact .inr rfl | assumption) :
    PG X (.Name x pos) (gOf G.K (.one i)) := pg_name hN hi hx hf
theorem dgs_nil : PGs X [] (gMany []) := pgs_nil
theorem dgs_cons {es : List Expr} {i : Nat} {is : List Nat} {x : Str} (hN : X.N.Nodup) (hi : X.N[i]? = some x) (hx : Loc X.env.scope x) (h2 : PGs X es (gMany is))
    (hf : X.fn x = true ∨ X.env.scope.names.lookup x = some .local := by first | exact .inl rfl | exact .inr rfl | assumption)
    (ha : (assignEach (.Name x pos :: es) X.env).map (·.2) = assign (.Name x pos) X.env :: (assignEach es X.env).map (·.2) := by rfl) : PGs X (.Name x pos :: es) (gMany (i :: is)) := pgs_cons (pg_name hN hi hx hf) h2
theorem dg_tup {es : List Expr} {k : Nat} {is : List Nat} (o : On G X) (h : PGs X es (gMany is)) (hn : (assignEach es X.env).length = is.length := by rfl) (hst : (assignEach es X.env).findIdx? (·.1) = none := by rfl) : PG X (.Tuple es k pos) (gOf G.K (.many is)) := by
  show PG X _ (gTup G.K is.length (gMany is))
  rw [← o.K]
  exact pg_tup o.calm h hn hst
end
end DL

set_option Elab.async false
set_option linter.all false
set_option maxRecDepth 100000
set_option maxHeartbeats 1000000
namespace DL
open PySem PySem.Spec PyProof.Rows L2 GxR LG

section
variable {G : G0} {X : Cx} {pos : Pos} {a b c e tgt : Expr} {fa fb fc : FE} {ta tb : FT}
/-! ### what is walked -/
abbrev Src := List (Nat × List D)
def Intact (s : Src) (st : Sto) : Prop := ∀ p ∈ s, st[p.1]? = some (.lst p.2)
theorem Intact.nil {st : Sto} : Intact [] st := fun _ h => by simp at h
abbrev FI := Rho → Sto → Option (List D × Src × Sto)
/-- J hands out the items, while the source stands -/
def Feeds (G : G0) (J : It) (μ : List Addr) (H : Hp) (items : List D) (src : Src) : Prop := ∀ μ' st' H' (i : Nat), Ext G μ H μ' H' → StR G μ' st' H' → Intact src st' →
  (i < items.length → J.go i H' ∧ ∀ x H'', J.yld i H' x H'' → ∃ d, items[i]? = some d ∧ Rep G μ' H'' d x ∧ StR G μ' st' H'' ∧ Ext G μ' H' μ' H'') ∧ (i = items.length → J.stop i H')
def liftI (G : G0) (f : FI) : TI := fun σ H R => ∃ ρ μ st items src st', EnvR G μ H ρ σ ∧ StR G μ st H ∧ f ρ st = some (items, src, st') ∧ ∀ μ' H' J, Ext G μ H μ' H' → StR G μ' st' H' → Feeds G J μ' H' items src → R J H'
theorem PI.or {w1 w2 : TI} (h1 : PI X tgt e w1) (h2 : PI X tgt e w2) : PI X tgt e (fun σ H R => w1 σ H R ∨ w2 σ H R) := ⟨fun pins s σ H R I h => by
  rcases h with h | h
  · exact h1.run pins s σ H R I h
  · exact h2.run pins s σ H R I h⟩
def signs (x : Str) : List D := x.cps.toList.map fun c => .str ⟨#[c]⟩
def iSeq (fa : FE) : FI := fun ρ st => (fa ρ st).bind fun p => match p.1 with
  | .tup ds => some (ds, [], p.2)
  | .ref l => match p.2[l]? with
    | some (.lst ds) => some (ds, [(l, ds)], p.2)
    | none => none
  | .str x => some (signs x, [], p.2)
  | _ => none
theorem feeds_list {μ : List Addr} {H : Hp} {l : Nat} {a : Addr} {ds : List D} (ha : μ[l]? = some a) : Feeds G (Itl G.K a) μ H ds [(l, ds)] := by
  intro μ' st' H' i x S hi
  have hi' : st'[l]? = some (.lst ds) := hi (l, ds) (by simp)
  obtain ⟨vs, h1, h2⟩ := S.obj l _ a hi' (x.at ha)
  refine ⟨fun hl => ?_, fun hl => ⟨vs, SqL.of h1, by rw [← h2.length, hl]; exact Nat.le_refl _⟩⟩
  have hv : i < vs.length := by rw [← h2.length]; exact hl
  refine ⟨⟨vs, vs[i], SqL.of h1, by simp [hv]⟩, fun y H'' hy => ?_⟩
  obtain ⟨rfl, hy⟩ := hy
  obtain ⟨d, e1, e2⟩ := h2.get' i (hy vs (SqL.of h1))
  exact ⟨d, e1, e2, S, .refl⟩
theorem feeds_tup {μ : List Addr} {H : Hp} {a : Addr} {ds : List D} {vs : List V} (s : SqT G.K H a vs) (r : Reps G μ H ds vs) : Feeds G (Itt G.K a) μ H ds [] := by
  intro μ' st' H' i x S _
  have s' := x.tup _ _ s
  have r' := r.ext x
  refine ⟨fun hl => ?_, fun hl => ⟨vs, s', by rw [← r'.length, hl]; exact Nat.le_refl _⟩⟩
  have hv : i < vs.length := by rw [← r'.length]; exact hl
  refine ⟨⟨vs, vs[i], s', by simp [hv]⟩, fun y H'' hy => ?_⟩
  obtain ⟨rfl, hy⟩ := hy
  obtain ⟨d, e1, e2⟩ := r'.get' i (hy vs s')
  exact ⟨d, e1, e2, S, .refl⟩
theorem feeds_str {μ : List Addr} {H : Hp} {x : Str} : Feeds G (Its x) μ H (signs x) [] := by
  intro μ' st' H' i ex S _
  have len : (signs x).length = x.cps.size := by simp [signs]
  refine ⟨fun hl => ⟨by rw [len] at hl; exact hl, fun y H'' hy => ?_⟩, fun hl => by rw [len] at hl; exact Nat.le_of_eq hl.symm⟩
  obtain ⟨rfl, c, hc, rfl⟩ := hy
  refine ⟨.str ⟨#[c]⟩, ?_, .str _, S, .refl⟩
  unfold signs
  rw [List.getElem?_map, Array.getElem?_toList, hc]
  rfl
theorem di_seq (o : On G X) (h : PE X e (lift G fa)) : PI X tgt e (liftI G (iSeq fa)) := by
  refine PI.imp (PI.or (pi_list h) (PI.or (pi_tup h) (pi_str h))) fun σ H R ⟨ρ, μ, st, items, src, st', E, S, e, k⟩ => ?_
  unfold iSeq at e
  obtain ⟨⟨d, s1⟩, e1, e⟩ := Option.bind_eq_some_iff.mp e
  cases d with
  | tup ds =>
    cases e
    refine .inr (.inl ⟨ρ, μ, st, _, _, E, S, e1, fun μ1 H1 v X1 S1 R1 => ?_⟩)
    cases R1 with
    | tup s r => exact ⟨_, rfl, ⟨_, by rw [o.K]; exact s⟩, k μ1 H1 _ X1 S1 (by rw [o.K]; exact feeds_tup s r)⟩
  | str x =>
    cases e
    refine .inr (.inr ⟨ρ, μ, st, _, _, E, S, e1, fun μ1 H1 v X1 S1 R1 => ?_⟩)
    cases R1
    exact ⟨x, rfl, k μ1 H1 _ X1 S1 feeds_str⟩
  | ref l =>
    simp only at e
    split at e
    · rename_i ds hl
      cases e
      refine .inl ⟨ρ, μ, st, _, _, E, S, e1, fun μ1 H1 v X1 S1 R1 => ?_⟩
      cases R1 with
      | ref ha =>
        obtain ⟨vs, h1, _⟩ := S1.obj l _ _ hl ha
        exact ⟨_, rfl, ⟨vs, SqL.of h1⟩, k μ1 H1 _ X1 S1 (by rw [o.K]; exact feeds_list ha)⟩
    · cases e
  | _ => cases e
/-- range(n), range(a, b) -/
def rangeD (lo : Int) (n : Nat) : List D := (List.range n).map fun i => .int (lo + (i : Nat))
theorem feeds_range {μ : List Addr} {H : Hp} (lo : Int) (n : Nat) : Feeds G (Itr lo n) μ H (rangeD lo n) [] := by
  intro μ' st' H' i ex S _
  have len : (rangeD lo n).length = n := by simp [rangeD]
  refine ⟨fun hl => ⟨by rw [len] at hl; exact hl, fun y H'' hy => ?_⟩, fun hl => by rw [len] at hl; exact Nat.le_of_eq hl.symm⟩
  obtain ⟨rfl, rfl⟩ := hy
  rw [len] at hl
  refine ⟨.int (lo + (i : Nat)), ?_, .int _, S, .refl⟩
  unfold rangeD
  rw [List.getElem?_map, List.getElem?_range hl]
  rfl
variable {fr : FA}
def iRange1 (fr : FA) : FI := fun ρ st => (fr ρ st).bind fun p => match p.1 with
  | [.int j] => if -(2 ^ 62) ≤ j ∧ j < 2 ^ 62 then some (rangeD 0 j.toNat, [], p.2) else none
  | _ => none
def iRange2 (fr : FA) : FI := fun ρ st => (fr ρ st).bind fun p => match p.1 with
  | [.int i, .int j] => if (-(2 ^ 62) ≤ i ∧ i < 2 ^ 62) ∧ -(2 ^ 62) ≤ j ∧ j < 2 ^ 62 then some (rangeD i (j - i).toNat, [], p.2) else none
  | _ => none
theorem di_range1 {p : Pos} (hg : Gl X "range") (hm : X.mg "range" = none) (ha : PA X [a] (liftA G fr)) (hs : starEach [a] X.env = [(false, eval a X.env)] := by rfl) : PI X tgt (.Call (.Name "range" p) [a] [] pos) (liftI G (iRange1 fr)) :=
  PI.imp (pi_range1 hg hm ha hs) fun σ H R ⟨ρ, μ, st, items, src, st', E, S, e, k⟩ => by
    unfold iRange1 at e
    obtain ⟨⟨ds, s1⟩, e1, e⟩ := Option.bind_eq_some_iff.mp e
    refine ⟨ρ, μ, st, ds, s1, E, S, e1, fun μ1 H1 vs X1 S1 R1 => ?_⟩
    simp only at e
    split at e
    · rename_i j
      split at e
      · rename_i hj
        cases e
        cases R1 with
        | cons h t => cases h; cases t; exact ⟨j, rfl, hj.1, hj.2, k μ1 H1 _ X1 S1 (feeds_range 0 _)⟩
      · cases e
    · cases e
theorem di_range2 {p : Pos} (hg : Gl X "range") (hm : X.mg "range" = none) (ha : PA X [a, b] (liftA G fr)) (hs : starEach [a, b] X.env = [(false, eval a X.env), (false, eval b X.env)] := by rfl) (hs2 : starEach [b] X.env = [(false, eval b X.env)] := by rfl) :
    PI X tgt (.Call (.Name "range" p) [a, b] [] pos) (liftI G (iRange2 fr)) :=
  PI.imp (pi_range2 hg hm ha hs hs2) fun σ H R ⟨ρ, μ, st, items, src, st', E, S, e, k⟩ => by
    unfold iRange2 at e
    obtain ⟨⟨ds, s1⟩, e1, e⟩ := Option.bind_eq_some_iff.mp e
    refine ⟨ρ, μ, st, ds, s1, E, S, e1, fun μ1 H1 vs X1 S1 R1 => ?_⟩
    simp only at e
    split at e
    · rename_i i j
      split at e
      · rename_i hj
        cases e
        cases R1 with
        | cons h t => cases h; cases t with
          | cons h t => cases h; cases t; exact ⟨i, j, rfl, ⟨hj.1.1, hj.1.2, hj.2.1, hj.2.2⟩, k μ1 H1 _ X1 S1 (feeds_range i _)⟩
      · cases e
    · cases e

/-! ### for -/
open Classical in
noncomputable def forD (tg : Tg) (b : FS) (src : Src) : List D → Rho → Sto → Option (Fl × Rho × Sto)
  | [], ρ, st => if Intact src st then some (.nx, ρ, st) else none
  | d :: ds, ρ, st => if Intact src st then (tgD tg d ρ).bind fun ρ1 => (b ρ1 st).bind fun q => match q.1 with
      | .nx => forD tg b src ds q.2.1 q.2.2
      | .ct => forD tg b src ds q.2.1 q.2.2
      | .bk => some (.nx, q.2.1, q.2.2)
      | .rt r => some (.rt r, q.2.1, q.2.2)
    else none
noncomputable def sFor (fi : FI) (tg : Tg) (b : FS) : FS := fun ρ st => (fi ρ st).bind fun p => forD tg b p.2.1 p.1 ρ p.2.2
variable {body : List Stmt} {sb : FS} {fi : FI} {iter : Expr} {tg : Tg}
theorem ds_for (hp : PassesOwn (model X.prog X.w) X.A X.env X.xe) (o : On G X) (hi : PI X tgt iter (liftI G fi)) (hg : PG X tgt (gOf G.K tg)) (hb : PSs X body (liftS G sb))
    (hs : ∀ x, foldedSetIterable iter X.env x = pure x := by intro _; rfl) : PS X (.For tgt iter body [] pos) (liftS G (sFor fi tg sb)) :=
  PS.imp (ps_for hp o.calm hi hg hb hs) fun D0 σ H ⟨ρ, μ, st, fl, ρ', st', E, S, e, k⟩ => by
    unfold sFor at e
    obtain ⟨⟨items, src, s1⟩, e1, e⟩ := Option.bind_eq_some_iff.mp e
    refine ⟨ρ, μ, st, items, src, s1, E, S, e1, fun μ1 H1 J X1 S1 F => ?_⟩
    refine ⟨fun i m σ2 H2 => m = items.length - i ∧ i ≤ items.length ∧ ∃ ρ2 μ2 st2, EnvR G μ2 H2 ρ2 σ2 ∧ StR G μ2 st2 H2 ∧ Ext G μ1 H1 μ2 H2 ∧ forD tg sb src (items.drop i) ρ2 st2 = some (fl, ρ', st'),
      ⟨items.length, by simp, Nat.zero_le _, ρ, μ1, s1, E.ext X1, S1, .refl, by simpa using e⟩, ?_⟩
    rintro i m σ2 H2 ⟨rfl, hi2, ρ2, μ2, st2, E2, S2, X2, e2⟩
    by_cases hlt : i < items.length
    · have hd : items.drop i = items[i] :: items.drop (i + 1) := List.drop_eq_getElem_cons hlt
      rw [hd] at e2
      unfold forD at e2
      split at e2
      · rename_i hin
        obtain ⟨ρ3, e3, e2⟩ := Option.bind_eq_some_iff.mp e2
        obtain ⟨⟨f4, ρ4, st4⟩, e4, e2⟩ := Option.bind_eq_some_iff.mp e2
        obtain ⟨go, yl⟩ := (F μ2 st2 H2 i X2 S2 hin).1 hlt
        refine .inr ⟨go, fun σ5 H5 => ∃ ρ5 μ5 st5, EnvR G μ5 H5 ρ5 σ5 ∧ StR G μ5 st5 H5 ∧ Ext G μ1 H1 μ5 H5 ∧ forD tg sb src (items.drop (i + 1)) ρ5 st5 = some (fl, ρ', st'), fun σ5 H5 h5 => ⟨items.length - (i + 1), by omega, rfl, hlt, h5⟩, fun x H3 hy => ?_⟩
        obtain ⟨d, ed, Rd, S3, X3⟩ := yl x H3 hy
        have ed' : d = items[i] := by
          rw [List.getElem?_eq_getElem hlt] at ed
          exact (Option.some.inj ed).symm
        subst ed'
        refine gOf_ok (vs' := []) Rd (E2.ext X3) e3 fun σ6 E6 _ => ?_
        refine ⟨ρ3, μ2, st2, f4, ρ4, st4, E6, S3, e4, fun μ7 H7 X7 S7 => ?_⟩
        have X17 : Ext G μ1 H1 μ7 H7 := X2.trans (X3.trans X7)
        cases f4 with
        | nx => exact fun σ7 E7 => ⟨ρ4, μ7, st4, E7, S7, X17, e2⟩
        | ct => exact fun σ7 E7 => ⟨ρ4, μ7, st4, E7, S7, X17, e2⟩
        | bk => cases e2; exact k μ7 H7 (X1.trans X17) S7
        | rt d => cases e2; exact k μ7 H7 (X1.trans X17) S7
      · cases e2
    · have hi3 : i = items.length := by omega
      rw [hi3, List.drop_length] at e2
      unfold forD at e2
      split at e2
      · rename_i hin
        have stop := (F μ2 _ H2 i X2 S2 hin).2 hi3
        cases e2
        exact .inl ⟨stop, k μ2 H2 (X1.trans X2) S2 σ2 E2⟩
      · cases e2
end
end DL

set_option Elab.async false
set_option linter.all false
set_option maxRecDepth 100000
set_option maxHeartbeats 1000000
namespace DL
open PySem PySem.Spec PyProof.Rows L2 GxR LG RZ

section
variable {G : G0} {X : Cx} {pos : Pos} {a b c e tgt : Expr} {fa fb fc : FE} {ta tb : FT} {fr : FA} {fi : FI} {iter : Expr} {tg : Tg}
/-! ### zip, enumerate -/
def seqOf (d : D) (st : Sto) : Option (Bool × List D) := match d with
  | .tup ds => some (true, ds)
  | .ref l => match st[l]? with
    | some (.lst ds) => some (false, ds)
    | none => none
  | _ => none
def srcOf (d : D) (ds : List D) : Src := match d with
  | .ref l => [(l, ds)]
  | _ => []
def iZipD (fr : FA) : FI := fun ρ st => (fr ρ st).bind fun p => match p.1 with
  | [.ref l, .ref m] => match p.2[l]?, p.2[m]? with
    | some (.lst xs), some (.lst ys) => some (List.zipWith (fun x y => .tup [x, y]) xs ys, [(l, xs), (m, ys)], p.2)
    | _, _ => none
  | [.tup xs, .tup ys] => some (List.zipWith (fun x y => .tup [x, y]) xs ys, [], p.2)
  | _ => none
theorem zip_at {xs ys : List D} {i : Nat} {x y : D} (h1 : xs[i]? = some x) (h2 : ys[i]? = some y) : (List.zipWith (fun x y => D.tup [x, y]) xs ys)[i]? = some (.tup [x, y]) := by
  rw [List.getElem?_zipWith, h1, h2]
theorem feeds_zipL {μ : List Addr} {H : Hp} {l m : Nat} {a b : Addr} {xs ys : List D} (ha : μ[l]? = some a) (hb : μ[m]? = some b) : Feeds G (Itz G.K a b) μ H (List.zipWith (fun x y => D.tup [x, y]) xs ys) [(l, xs), (m, ys)] := by
  intro μ' st' H' i x S hi
  obtain ⟨vs, h1, h2⟩ := S.obj l _ a (hi (l, xs) (by simp)) (x.at ha)
  obtain ⟨ws, g1, g2⟩ := S.obj m _ b (hi (m, ys) (by simp)) (x.at hb)
  have len1 : xs.length = vs.length := h2.length
  have len2 : ys.length = ws.length := g2.length
  rw [List.length_zipWith]
  refine ⟨fun hl => ?_, fun hl => ⟨vs, ws, SqL.of h1, SqL.of g1, by omega⟩⟩
  have hv : i < vs.length := by omega
  have hw : i < ws.length := by omega
  refine ⟨⟨vs, ws, vs[i], ws[i], SqL.of h1, SqL.of g1, by simp [hv], by simp [hw]⟩, fun y H'' hy => ?_⟩
  obtain ⟨T, x1, x2, rfl, nT, rfl, f1, f2⟩ := hy
  obtain ⟨d1, e1, r1⟩ := h2.get' i (f1 vs (SqL.of h1))
  obtain ⟨d2, e2, r2⟩ := g2.get' i (f2 ws (SqL.of g1))
  exact ⟨_, zip_at e1 e2, .tup (SqT.of upd_same) (.cons (r1.ext (Ext.new nT)) (.cons (r2.ext (Ext.new nT)) .nil)), S.newT nT, Ext.new nT⟩
theorem feeds_zipT {μ : List Addr} {H : Hp} {a b : Addr} {xs ys : List D} {vs ws : List V} (s1 : SqT G.K H a vs) (r1 : Reps G μ H xs vs) (s2 : SqT G.K H b ws) (r2 : Reps G μ H ys ws) : Feeds G (ItzT G.K a b) μ H (List.zipWith (fun x y => D.tup [x, y]) xs ys) [] := by
  intro μ' st' H' i x S hi
  have h1 := x.tup _ _ s1
  have g1 := x.tup _ _ s2
  have h2 := r1.ext x
  have g2 := r2.ext x
  have len1 : xs.length = vs.length := h2.length
  have len2 : ys.length = ws.length := g2.length
  rw [List.length_zipWith]
  refine ⟨fun hl => ?_, fun hl => ⟨vs, ws, h1, g1, by omega⟩⟩
  have hv : i < vs.length := by omega
  have hw : i < ws.length := by omega
  refine ⟨⟨vs, ws, vs[i], ws[i], h1, g1, by simp [hv], by simp [hw]⟩, fun y H'' hy => ?_⟩
  obtain ⟨T, x1, x2, rfl, nT, rfl, f1, f2⟩ := hy
  obtain ⟨d1, e1, q1⟩ := h2.get' i (f1 vs h1)
  obtain ⟨d2, e2, q2⟩ := g2.get' i (f2 ws g1)
  exact ⟨_, zip_at e1 e2, .tup (SqT.of upd_same) (.cons (q1.ext (Ext.new nT)) (.cons (q2.ext (Ext.new nT)) .nil)), S.newT nT, Ext.new nT⟩
theorem di_zip {e2 : Expr} {p tpos : Pos} {elts : List Expr} {kk : Nat} (o : On G X) (hg : Gl X "zip") (hm : G.mg "zip" = none) (ha : PA X [e, e2] (liftA G fr))
    (hs : starEach [e, e2] X.env = (false, eval e X.env) :: starEach [e2] X.env := by rfl) (hpl : (backTo pos (starEach [e2] X.env)).any (·.1) = false := by rfl) :
    PI X (.Tuple elts kk tpos) (.Call (.Name "zip" p) [e, e2] [] pos) (liftI G (iZipD fr)) := by
  refine PI.imp (pi_zipA hg (by rw [o.mg]; exact hm) ha hs hpl) fun σ H R ⟨ρ, μ, st, items, src, st', E, S, e, k⟩ => ?_
  unfold iZipD at e
  obtain ⟨⟨ds, s1⟩, e1, e⟩ := Option.bind_eq_some_iff.mp e
  refine ⟨ρ, μ, st, ds, s1, E, S, e1, fun μ1 H1 vs X1 S1 R1 => ?_⟩
  simp only at e
  split at e
  · rename_i l m
    split at e
    · rename_i xs ys hx hy
      cases e
      cases R1 with
      | cons r t => cases r with
        | ref ha => cases t with
          | cons r t => cases r with
            | ref hb =>
              cases t
              obtain ⟨us, u1, _⟩ := S1.obj l _ _ hx ha
              obtain ⟨ws, w1, _⟩ := S1.obj m _ _ hy hb
              exact ⟨_, _, us, ws, rfl, .inl ⟨SqL.of u1, SqL.of w1, k μ1 H1 _ X1 S1 (by rw [o.K]; exact feeds_zipL ha hb)⟩⟩
    · cases e
  · rename_i xs ys
    cases e
    cases R1 with
    | cons r t => cases r with
      | tup s r => cases t with
        | cons r' t => cases r' with
          | tup s' r' =>
            cases t
            exact ⟨_, _, _, _, rfl, .inr ⟨by rw [o.K]; exact s, by rw [o.K]; exact s', k μ1 H1 _ X1 S1 (by rw [o.K]; exact feeds_zipT s r s' r')⟩⟩
  · cases e

/-! ### comprehensions -/
def wipeD (ρ : Rho) : List Nat → Rho
  | [] => ρ
  | v :: vs => (wipeD ρ vs).set v none
theorem wipe_get (σ : L2.St) : ∀ (vs : List Nat) (i : Nat), (wipe σ vs)[i]? = if i ∈ vs then (σ[i]?).map (fun _ => none) else σ[i]?
  | [], i => by simp [wipe]
  | v :: vs, i => by
    unfold wipe
    rw [List.getElem?_set]
    have ih := wipe_get σ vs i
    by_cases h : v = i
    · subst h
      rw [if_pos rfl]
      have hl := wipe_length σ vs
      by_cases hl2 : v < σ.length
      · simp [hl, hl2]
      · simp [hl, hl2]
    · rw [if_neg h, ih]
      by_cases hm : i ∈ vs
      · simp [hm]
      · simp [hm, Ne.symm h]
theorem wipe_idem (σ : L2.St) (vs : List Nat) : wipe (wipe σ vs) vs = wipe σ vs := by
  apply List.ext_getElem?
  intro i
  rw [wipe_get, wipe_get]
  by_cases h : i ∈ vs
  · simp only [h, if_true]
    cases σ[i]? <;> rfl
  · simp [h]
theorem wipeD_length (ρ : Rho) : ∀ vs : List Nat, (wipeD ρ vs).length = ρ.length
  | [] => rfl
  | v :: vs => by unfold wipeD; rw [List.length_set, wipeD_length ρ vs]
theorem wipeD_some {ρ : Rho} {i : Nat} {x : D} : ∀ {vs : List Nat}, (wipeD ρ vs)[i]? = some (some x) → ρ[i]? = some (some x) ∧ i ∉ vs
  | [], h => ⟨h, by simp⟩
  | v :: vs, h => by
    unfold wipeD at h
    rw [List.getElem?_set] at h
    split at h
    · split at h <;> cases h
    · rename_i hne
      obtain ⟨h1, h2⟩ := wipeD_some h
      exact ⟨h1, by simp [h2, Ne.symm hne]⟩
theorem EnvR.wipe {μ : List Addr} {H : Hp} {ρ : Rho} {σ : L2.St} (E : EnvR G μ H ρ σ) (vs : List Nat) : EnvR G μ H (wipeD ρ vs) (L2.wipe σ vs) :=
  ⟨by rw [wipe_length, wipeD_length]; exact E.len, fun i d h => by
    obtain ⟨h1, h2⟩ := wipeD_some h
    obtain ⟨v, q1, q2⟩ := E.get i d h1
    exact ⟨v, by rw [wipe_get, if_neg h2]; exact q1, q2⟩⟩
open Classical in
noncomputable def lcD (tg : Tg) (tt : FT) (fe : FE) (l : Nat) (src : Src) (ρ : Rho) : List D → Sto → Option Sto
  | [], st => if Intact src st then some st else none
  | d :: ds, st => if Intact src st then (tgD tg d ρ).bind fun ρ1 => (tt ρ1 st).bind fun b => if b.1 = true then (fe ρ1 b.2).bind fun y => match y.2[l]? with
        | some (.lst acc) => if acc.length < sizeLine then lcD tg tt fe l src ρ ds (y.2.set l (.lst (acc ++ [y.1]))) else none
        | none => none
      else lcD tg tt fe l src ρ ds b.2
    else none
noncomputable def fLc (fi : FI) (tg : Tg) (tt : FT) (fe : FE) (vs : List Nat) : FE := fun ρ st => (fi ρ st).bind fun p => (lcD tg tt fe p.2.2.length p.2.1 (wipeD ρ vs) p.1 (p.2.2 ++ [.lst []])).bind fun st' => some (.ref p.2.2.length, st')
def fYes : FT := fun _ st => some (true, st)
theorem lc_data {tt : FT} {fe : FE} {vs : List Nat} (hin : ∀ i ∈ tg.ins, i ∈ vs) {σ : L2.St} {H : Hp} {Q : VK} (q : lift G (fLc fi tg tt fe vs) σ H Q) : tLc (liftI G fi) (gOf G.K tg) (liftT G tt) (lift G fe) vs σ H Q := by
  obtain ⟨ρ, μ, st, d, st', E, S, e, k⟩ := q
  unfold fLc at e
  obtain ⟨⟨items, src, s1⟩, e1, e⟩ := Option.bind_eq_some_iff.mp e
  obtain ⟨sf, e2, e⟩ := Option.bind_eq_some_iff.mp e
  obtain ⟨rfl, rfl⟩ : D.ref s1.length = d ∧ sf = st' := by
    have q := Option.some.inj e
    exact ⟨congrArg Prod.fst q, congrArg Prod.snd q⟩
  refine ⟨ρ, μ, st, items, src, s1, E, S, e1, fun μ1 H1 J X1 S1 F Da hD => ?_⟩
  have XD : Ext G μ1 H1 (μ1 ++ [Da]) (upd H1 Da (.lst [])) := Ext.newAt hD
  have atD : (μ1 ++ [Da])[s1.length]? = some Da := by rw [← S1.len]; simp
  refine ⟨fun i m H2 => m = items.length - i ∧ i ≤ items.length ∧ ∃ μ2 st2, StR G μ2 st2 H2 ∧ Ext G (μ1 ++ [Da]) (upd H1 Da (.lst [])) μ2 H2 ∧ lcD tg tt fe s1.length src (wipeD ρ vs) (items.drop i) st2 = some sf,
    ⟨items.length, by simp, Nat.zero_le _, μ1 ++ [Da], _, S1.newL hD .nil, .refl, by simpa using e2⟩, ?_⟩
  rintro i m H2 ⟨rfl, hi2, μ2, st2, S2, X2, e3⟩
  have X12 : Ext G μ1 H1 μ2 H2 := XD.trans X2
  by_cases hlt : i < items.length
  · have hd : items.drop i = items[i] :: items.drop (i + 1) := List.drop_eq_getElem_cons hlt
    rw [hd] at e3
    unfold lcD at e3
    split at e3
    · rename_i hin2
      obtain ⟨ρ3, e4, e3⟩ := Option.bind_eq_some_iff.mp e3
      obtain ⟨⟨tb, s5⟩, e5, e3⟩ := Option.bind_eq_some_iff.mp e3
      obtain ⟨go, yl⟩ := (F μ2 st2 H2 i X12 S2 hin2).1 hlt
      refine .inr ⟨go, fun H5 => ∃ μ5 st5, StR G μ5 st5 H5 ∧ Ext G (μ1 ++ [Da]) (upd H1 Da (.lst [])) μ5 H5 ∧ lcD tg tt fe s1.length src (wipeD ρ vs) (items.drop (i + 1)) st5 = some sf, fun H5 h5 => ⟨items.length - (i + 1), by omega, rfl, hlt, h5⟩, fun x H3 hy => ?_⟩
      obtain ⟨dd, ed, Rd, S3, X3⟩ := yl x H3 hy
      have ed' : dd = items[i] := by
        rw [List.getElem?_eq_getElem hlt] at ed
        exact (Option.some.inj ed).symm
      subst ed'
      have E3 : EnvR G μ2 H3 (wipeD ρ vs) (L2.wipe σ vs) := (E.ext (X1.trans (X12.trans X3))).wipe vs
      refine gOf_ok (vs' := vs) Rd E3 e4 fun σ6 E6 hw => ⟨(hw hin).trans (wipe_idem σ vs), ?_⟩
      refine ⟨ρ3, μ2, st2, tb, s5, E6, S3, e5, fun μ7 H7 X7 S7 => ?_⟩
      cases tb with
      | true =>
        rw [if_pos rfl] at e3 ⊢
        obtain ⟨⟨y, s8⟩, e8, e3⟩ := Option.bind_eq_some_iff.mp e3
        refine ⟨ρ3, μ7, s5, y, s8, E6.ext X7, S7, e8, fun μ9 H9 v X9 S9 R9 => ?_⟩
        simp only at e3
        split at e3
        · rename_i acc hacc
          split at e3
          · rename_i hz
            have XA : Ext G (μ1 ++ [Da]) (upd H1 Da (.lst [])) μ9 H9 := X2.trans (X3.trans (X7.trans X9))
            have hDa := XA.at atD
            obtain ⟨accV, h1, h2⟩ := S9.obj _ _ _ hacc hDa
            refine ⟨accV, h1, by rw [← h2.length]; exact hz, μ9, _, S9.setL hDa h1 (h2.append (.cons R9 .nil)), XA.trans (Ext.lst h1), e3⟩
          · cases e3
        · cases e3
      | false =>
        rw [if_neg Bool.false_ne_true] at e3 ⊢
        exact ⟨μ7, s5, S7, X2.trans (X3.trans X7), e3⟩
    · cases e3
  · have hi3 : i = items.length := by omega
    rw [hi3, List.drop_length] at e3
    unfold lcD at e3
    split at e3
    · rename_i hin2
      have stop := (F μ2 _ H2 i X12 S2 hin2).2 hi3
      cases e3
      exact .inl ⟨stop, k μ2 H2 _ (X1.trans X12) S2 (.ref (X2.at atD))⟩
    · cases e3
theorem tYes_of {σ : L2.St} {H : Hp} {Q : Bool → Hp → Prop} (q : liftT G fYes σ H Q) : tYes σ H Q := by
  obtain ⟨ρ, μ, st, b, st', E, S, e, k⟩ := q
  cases e
  exact k μ H .refl S
theorem dts_nil : PTs X [] (liftT G fYes) := ⟨fun pins s σ H Q I h => pts_nil.run pins s σ H Q I (tYes_of h)⟩
theorem dts_one (h : PT X c (liftT G ta)) : PTs X [c] (liftT G ta) := pts_one h
theorem de_lc {elt : Expr} {ifs : List Expr} {scope : Scope} {own : List (Str × Nat)} {tt : FT} {fe : FE} (o : On G X) (hN : X.N.Nodup) (hi : PI X tgt iter (liftI G fi)) (ok : BlkOk X.N X.env.scope scope own)
    (hg : ∀ (s : Shared) (H : Hp) (C : Addr) (cl : List (Str × Addr)) (fp : List Addr), PG (X.blk s H scope (compEnvC scope cl C X.env) fp) tgt (gOf G.K tg)) (ht : ∀ (s : Shared) (H : Hp) (C : Addr) (cl : List (Str × Addr)) (fp : List Addr), PTs (X.blk s H scope (compEnvC scope cl C X.env) fp) ifs (liftT G tt))
    (he : ∀ (s : Shared) (H : Hp) (C : Addr) (cl : List (Str × Addr)) (fp : List Addr), PE (X.blk s H scope (compEnvC scope cl C X.env) fp) elt (lift G fe)) (hin : ∀ i ∈ tg.ins, i ∈ own.map (·.2) := by decide) (hs : ∀ x, foldedSetIterable iter X.env x = pure x := by intro _; rfl) :
    PE X (.ListComp elt [⟨tgt, iter, ifs, 0⟩] scope pos) (lift G (fLc fi tg tt fe (own.map (·.2)))) :=
  PE.imp (pe_lc o.calm hN hi ok hg ht he hs) fun _ _ _ => lc_data hin
theorem On.blk (o : On G X) {s : Shared} {H : Hp} {scope : Scope} {cenv : Env} {fp : List Addr} : On G (X.blk s H scope cenv fp) := ⟨o.prog, o.w, o.mg, o.base, o.K, o.calm⟩
/-- y = [..] -/
theorem ds_setLc {i : Nat} {y : Str} {py spos : Pos} {elt : Expr} {ifs : List Expr} {scope : Scope} {own : List (Str × Nat)} {tt : FT} {fe : FE} (o : On G X) (hN : X.N.Nodup) (hy : X.N[i]? = some y) (hyl : X.env.scope.names.lookup y = some .local)
    (hsw : swapsWith (.ListComp elt [⟨tgt, iter, ifs, 0⟩] scope pos) (some (.Name y py)) spos.line X.env = pure true) (hi : PI X tgt iter (liftI G fi)) (ok : BlkOk X.N X.env.scope scope own)
    (hg : ∀ (s : Shared) (H : Hp) (C : Addr) (cl : List (Str × Addr)) (fp : List Addr), PG (X.blk s H scope (compEnvC scope cl C X.env) fp) tgt (gOf G.K tg)) (ht : ∀ (s : Shared) (H : Hp) (C : Addr) (cl : List (Str × Addr)) (fp : List Addr), PTs (X.blk s H scope (compEnvC scope cl C X.env) fp) ifs (liftT G tt))
    (he : ∀ (s : Shared) (H : Hp) (C : Addr) (cl : List (Str × Addr)) (fp : List Addr), PE (X.blk s H scope (compEnvC scope cl C X.env) fp) elt (lift G fe)) (hin : ∀ i ∈ tg.ins, i ∈ own.map (·.2) := by decide) (hs : ∀ x, foldedSetIterable iter X.env x = pure x := by intro _; rfl) :
    PS X (.Assign [.Name y py] (.ListComp elt [⟨tgt, iter, ifs, 0⟩] scope pos) spos) (liftS G (sSet i (fLc fi tg tt fe (own.map (·.2))))) :=
  PS.imp (ps_setLc o.calm hN hy hyl hsw hi ok hg ht he hs) fun D0 σ H ⟨ρ, μ, st, fl, ρ', st', E, S, e, k⟩ => by
    unfold sSet at e
    obtain ⟨p, e1, e⟩ := Option.bind_eq_some_iff.mp e
    cases e
    exact lc_data hin ⟨ρ, μ, st, p.1, p.2, E, S, e1, fun μ1 H1 v X1 S1 R1 => k μ1 H1 X1 S1 _ ((E.ext X1).set R1)⟩

/-! ### all(.. for .. in ..) -/
open Classical in
noncomputable def allD (tg : Tg) (fe : FE) (src : Src) : List D → Rho → Sto → Option (Bool × Sto)
  | [], _, st => if Intact src st then some (true, st) else none
  | d :: ds, ρ, st => if Intact src st then (tgD tg d ρ).bind fun ρ1 => (fe ρ1 st).bind fun y => (asB y.1).bind fun b => if b = true then allD tg fe src ds ρ1 y.2 else some (false, y.2) else none
def capD (cap : List (Option Nat)) (ρ : Rho) : Rho := cap.map fun o => o.bind fun j => (ρ[j]?).join
def capS (cap : List (Option Nat)) (σ : L2.St) : L2.St := cap.map fun o => o.bind fun j => (σ[j]?).join
noncomputable def fAllG (fi : FI) (tg : Tg) (fe : FE) (cap : List (Option Nat)) : FE := fun ρ st => (fi ρ st).bind fun p => (allD tg fe p.2.1 p.1 (capD cap ρ) p.2.2).bind fun q => some (.bl q.1, q.2)
theorem On.inner (o : On G X) {scope : Scope} {N : List Str} {k : Nat} {X' : Cx} (h : Inner X scope N k X') : On G X' := ⟨h.prog.trans o.prog, h.w.trans o.w, h.mg.trans o.mg, h.base.trans o.base, h.K.trans o.K, h.calm⟩
theorem de_all {cc P : Addr} {elt : Expr} {p gpos : Pos} {scope : Scope} {fe : FE} {k : Nat} {N : List Str} {cap : List (Option Nat)} (o : On G X) (hP : P ∈ G.Ps)
    (hr : Room (k + 1) X.A) (hg0 : Gl X "all") (hm : G.mg "all" = none) (TB : TabB G.base G.mg cc P) (hcode : X.env.code = .ref cc) (S : GSc X.env scope) (hi : PI X tgt iter (liftI G fi))
    (hcl : cap.length = N.length) (hcap : ∀ (i : Nat) (x : Str) (j : Nat), N[i]? = some x → cap[i]? = some (some j) → scope.names.lookup x = some .free ∧ X.N[j]? = some x ∧ (X.env.kindOf x = some .cell ∨ X.env.kindOf x = some .free))
    (hgt : ∀ X', Inner X scope N k X' → PG X' tgt (gOf G.K tg)) (hel : ∀ X', Inner X scope N k X' → PE X' elt (lift G fe))
    (hs : ∀ v, genFold iter X.env v = pure v := by intro _; rfl)
    (he : starEach [.GeneratorExp elt [⟨tgt, iter, [], 0⟩] scope gpos] X.env = (false, eval (.GeneratorExp elt [⟨tgt, iter, [], 0⟩] scope gpos) X.env) :: starEach [] X.env := by rfl) :
    PE X (.Call (.Name "all" p) [.GeneratorExp elt [⟨tgt, iter, [], 0⟩] scope gpos] [] pos) (lift G (fAllG fi tg fe cap)) := by
  refine PE.imp (pe_allG (P := P) hr hg0 (by rw [o.mg]; exact hm) o.calm (by rw [o.base, o.mg]; exact TB) hcode S hi hgt hel hs he) fun σ H Q ⟨ρ, μ, st, d, st', E, Sx, e, kk⟩ => ?_
  unfold fAllG at e
  obtain ⟨⟨items, src, s1⟩, e1, e⟩ := Option.bind_eq_some_iff.mp e
  obtain ⟨⟨res, sf⟩, e2, e⟩ := Option.bind_eq_some_iff.mp e
  obtain ⟨rfl, rfl⟩ : D.bl res = d ∧ sf = st' := by
    have q := Option.some.inj e
    exact ⟨congrArg Prod.fst q, congrArg Prod.snd q⟩
  refine ⟨ρ, μ, st, items, src, s1, E, Sx, e1, fun μ1 H1 J X1 S1 F => ⟨S1.tab P hP, capS cap σ, ⟨by simp [capS, hcl], fun i x v h1 h2 => ?_⟩, fun H2 tb => ?_⟩⟩
  · unfold capS at h2
    rw [List.getElem?_map] at h2
    cases hc : cap[i]? with
    | none => rw [hc] at h2; cases h2
    | some oj =>
      rw [hc] at h2
      cases oj with
      | none => simp at h2
      | some j =>
        obtain ⟨q1, q2, q3⟩ := hcap i x j h1 hc
        refine ⟨q1, j, q2, ?_, q3⟩
        simp only [Option.map_some, Option.bind_some, Option.some.injEq] at h2
        cases hj : σ[j]? with
        | none => rw [hj] at h2; cases h2
        | some w => rw [hj] at h2; simp at h2; rw [h2]
  · have hT := S1.tab P hP
    have S2 := S1.tabbed hT tb
    have X2 : Ext G μ1 H1 μ1 H2 := Ext.tabbed hT tb
    have E0 : EnvR G μ1 H2 (capD cap ρ) (capS cap σ) := ⟨by simp [capS, capD], fun i dd h => by
      unfold capD at h
      rw [List.getElem?_map] at h
      cases hc : cap[i]? with
      | none => rw [hc] at h; cases h
      | some oj =>
        rw [hc] at h
        cases oj with
        | none => simp at h
        | some j =>
          simp only [Option.map_some, Option.bind_some, Option.some.injEq] at h
          cases hj : ρ[j]? with
          | none => rw [hj] at h; cases h
          | some w =>
            rw [hj] at h
            simp at h
            subst h
            obtain ⟨v, v1, v2⟩ := E.get j dd hj
            refine ⟨v, ?_, v2.ext (X1.trans X2)⟩
            unfold capS
            rw [List.getElem?_map, hc]
            simp [v1]⟩
    refine ⟨fun i m σ3 H3 => m = items.length - i ∧ i ≤ items.length ∧ ∃ ρ3 μ3 st3, EnvR G μ3 H3 ρ3 σ3 ∧ StR G μ3 st3 H3 ∧ Ext G μ1 H1 μ3 H3 ∧ allD tg fe src (items.drop i) ρ3 st3 = some (res, sf),
      ⟨items.length, by simp, Nat.zero_le _, capD cap ρ, μ1, s1, E0, S2, X2, by simpa using e2⟩, ?_⟩
    rintro i m σ3 H3 ⟨rfl, hi2, ρ3, μ3, st3, E3, S3, X3, e3⟩
    by_cases hlt : i < items.length
    · have hd : items.drop i = items[i] :: items.drop (i + 1) := List.drop_eq_getElem_cons hlt
      rw [hd] at e3
      unfold allD at e3
      split at e3
      · rename_i hin
        obtain ⟨ρ4, e4, e3⟩ := Option.bind_eq_some_iff.mp e3
        obtain ⟨⟨y, s5⟩, e5, e3⟩ := Option.bind_eq_some_iff.mp e3
        obtain ⟨t, e6, e3⟩ := Option.bind_eq_some_iff.mp e3
        obtain ⟨go, yl⟩ := (F μ3 st3 H3 i X3 S3 hin).1 hlt
        refine .inr ⟨go, fun x H4 hy => ?_⟩
        obtain ⟨dd, ed, Rd, S4, X4⟩ := yl x H4 hy
        have ed' : dd = items[i] := by
          rw [List.getElem?_eq_getElem hlt] at ed
          exact (Option.some.inj ed).symm
        subst ed'
        refine gOf_ok (vs' := []) Rd (E3.ext X4) e4 fun σ6 E6 _ => ?_
        refine ⟨ρ4, μ3, st3, y, s5, E6, S4, e5, fun μ7 H7 v X7 S7 R7 => ⟨t, asB_rep e6 R7, ?_⟩⟩
        cases t with
        | true =>
          rw [if_pos rfl] at e3 ⊢
          exact ⟨items.length - (i + 1), by omega, rfl, hlt, ρ4, μ7, s5, E6.ext X7, S7, X3.trans (X4.trans X7), e3⟩
        | false =>
          rw [if_neg Bool.false_ne_true] at e3 ⊢
          cases e3
          exact kk μ7 H7 _ (X1.trans (X3.trans (X4.trans X7))) S7 (.bl false)
      · cases e3
    · have hi3 : i = items.length := by omega
      rw [hi3, List.drop_length] at e3
      unfold allD at e3
      split at e3
      · rename_i hin
        have stop := (F μ3 _ H3 i X3 S3 hin).2 hi3
        cases e3
        exact .inl ⟨stop, kk μ3 H3 _ (X1.trans X3) S3 (.bl true)⟩
      · cases e3
end
end DL

set_option Elab.async false
set_option linter.all false
set_option maxRecDepth 100000
set_option maxHeartbeats 1000000
namespace DL
open PySem PySem.Spec PyProof.Rows L2 GxR LG

section
variable {G : G0} {X : Cx} {pos : Pos} {a b c e tgt : Expr} {es : List Expr} {fa fb fc : FE} {ta tb : FT} {fr : FA}
/-! ### calls of built-ins, by values -/
abbrev HA := List D → Sto → Option (D × Sto)
def rDA (G : G0) (h : HA) : List V → Hp → VK → Prop := fun vs H Q => ∃ μ st ds z st', StR G μ st H ∧ Reps G μ H ds vs ∧ h ds st = some (z, st') ∧ After G μ H z st' Q
def fCall (h : HA) (fr : FA) : FE := fun ρ st => (fr ρ st).bind fun p => h p.1 p.2
theorem call_core {h : HA} {σ : L2.St} {H : Hp} {Q : VK} (q : lift G (fCall h fr) σ H Q) : tCB (rDA G h) (liftA G fr) σ H Q := by
  obtain ⟨ρ, μ, st, d, st', E, S, e, k⟩ := q
  unfold fCall at e
  obtain ⟨p, e1, e⟩ := Option.bind_eq_some_iff.mp e
  exact ⟨ρ, μ, st, p.1, p.2, E, S, e1, fun μ1 H1 vs X1 S1 R1 => ⟨μ1, p.2, p.1, d, st', S1, R1, e, k.trans X1⟩⟩
theorem de_callB {id : String} {x : Str} {p : Pos} {h : HA} (o : On G X) (hc : CallR X (.builtin id) (rDA G h)) (hg : Gl X x) (hm : G.mg x = none) (hv : bootBuiltins x = some (.builtin id)) (ha : PA X (e :: es) (liftA G fr)) (hn : x ≠ "__name__" := by decide) (hdb : (x == ("__debug__" : Str)) = false := by decide)
    (he : starEach (e :: es) X.env = (false, eval e X.env) :: starEach es X.env := by rfl) (hpl : (backTo pos (starEach es X.env)).any (·.1) = false := by rfl) : PE X (.Call (.Name x p) (e :: es) [] pos) (lift G (fCall h fr)) :=
  PE.imp (pe_callB hc hg (by rw [o.mg]; exact hm) hv ha hn hdb he hpl) fun _ _ _ => call_core
theorem de_callTy {T : String} {x : Str} {p : Pos} {h : HA} (o : On G X) (hc : CallR X (.type T) (rDA G h)) (hg : Gl X x) (hm : G.mg x = none) (hv : bootBuiltins x = some (.type T)) (ha : PA X (e :: es) (liftA G fr)) (hn : x ≠ "__name__" := by decide) (hdb : (x == ("__debug__" : Str)) = false := by decide)
    (he : starEach (e :: es) X.env = (false, eval e X.env) :: starEach es X.env := by rfl) (hpl : (backTo pos (starEach es X.env)).any (·.1) = false := by rfl) : PE X (.Call (.Name x p) (e :: es) [] pos) (lift G (fCall h fr)) :=
  PE.imp (pe_callTy hc hg (by rw [o.mg]; exact hm) hv ha hn hdb he hpl) fun _ _ _ => call_core
/-- a built-in class as a value -/
theorem de_ty {T : String} {x : Str} (o : On G X) (hg : Gl X x) (hm : G.mg x = none) (hv : bootBuiltins x = some (.type T)) (hn : x ≠ "__name__" := by decide) (hd : (x == ("__debug__" : Str)) = false := by decide) : PE X (.Name x pos) (lift G (fC (.ty T))) :=
  PE.imp (pe_bltn (v := .ty T) hg (by rw [o.mg]; exact hm) hv rfl hn hd) fun σ H Q ⟨ρ, μ, st, d, st', E, S, e, k⟩ => by cases e; exact k μ H _ .refl S (.ty T)

/-! ### the program's own defs -/
def spD (G : G0) (n : Nat) (fn : HA) : Sp := fun vs H Q _ => ∃ μ st ds d st', ds.length = n ∧ StR G μ st H ∧ Reps G μ H ds vs ∧ fn ds st = some (d, st') ∧ After G μ H d st' Q
def fFn (n : Nat) (fn : HA) (fr : FA) : FE := fun ρ st => (fr ρ st).bind fun p => if p.1.length = n then fn p.1 p.2 else none
/-- how a def is called: its promise, and where it stands -/
structure Def (G : G0) (k : Nat) (x : Str) (n : Nat) (fn : HA) : Prop where
  ex : ∃ (f : Addr) (fd : FuncData) (ps : List Str), ps.length = n ∧ FnOk G.P G.w G.K G.mg G.base CX0 k f fd ps (spD G n fn) ∧ G.mg x = some (.ref f) ∧ PySem.W.keepIn G.K (.ref f) = true ∧ Binds G.K fd ps []
theorem Def.mono {j k : Nat} {x : Str} {n : Nat} {fn : HA} (F : Def G j x n fn) (h : j ≤ k) : Def G k x n fn := by
  obtain ⟨f, fd, ps, h1, h2, h3⟩ := F.ex
  exact ⟨f, fd, ps, h1, h2.mono h, h3⟩
theorem de_call {k n : Nat} {x : Str} {fn : HA} {p : Pos} (o : On G X) (F : Def G k x n fn) (hr : Room k X.A) (hg : Gl X x) (ha : PA X (e :: es) (liftA G fr)) (hdb : (x == ("__debug__" : Str)) = false := by decide)
    (he : starEach (e :: es) X.env = (false, eval e X.env) :: starEach es X.env := by rfl) (hpl : (backTo pos (starEach es X.env)).any (·.1) = false := by rfl) : PE X (.Call (.Name x p) (e :: es) [] pos) (lift G (fFn n fn fr)) := by
  obtain ⟨f, fd, ps, hl, F, hm, hk, hb⟩ := F.ex
  have F' : FnOk X.prog X.w X.K X.mg X.base CX0 k f fd ps (spD G n fn) := by rw [o.prog, o.w, o.K, o.mg, o.base]; exact F
  refine PE.imp (pe_call F' hr hg (by rw [o.mg]; exact hm) (by rw [o.K]; exact hk) (by rw [o.K]; exact hb) .nil pass0 ha hdb he hpl) fun σ H Q ⟨ρ, μ, st, d, st', E, S, e, kk⟩ => ?_
  unfold fFn at e
  obtain ⟨p, e1, e⟩ := Option.bind_eq_some_iff.mp e
  split at e
  · rename_i hz
    exact ⟨ρ, μ, st, p.1, p.2, E, S, e1, fun μ1 H1 vs X1 S1 R1 => ⟨μ1, p.2, p.1, d, st', hz, S1, by rw [List.append_nil]; exact R1, e, kk.trans X1⟩⟩
  · cases e
/-- a def's body as a function -/
def runD (N : Nat) (sb : FS) : HA := fun ds st => (sb (ds.map some ++ List.replicate (N - ds.length) none) st).bind fun p => match p.1 with
  | .rt d => some (d, p.2.2)
  | .nx => some (.non, p.2.2)
  | _ => none
theorem env_start {μ : List Addr} {H : Hp} {N : List Str} {ds : List D} {vs : List V} (r : Reps G μ H ds vs) : EnvR G μ H (ds.map some ++ List.replicate (N.length - ds.length) none) (start N vs) := by
  have len := r.length
  refine ⟨by unfold L2.start; simp [len], fun i d h => ?_⟩
  by_cases hi : i < ds.length
  · rw [List.getElem?_append_left (by simpa using hi), List.getElem?_map] at h
    cases hd : ds[i]? with
    | none => rw [hd] at h; cases h
    | some d' =>
      rw [hd] at h
      cases h
      obtain ⟨v, h1, h2⟩ := r.get i hd
      refine ⟨v, ?_, h2⟩
      unfold L2.start
      rw [List.getElem?_append_left (by simp; omega), List.getElem?_map, h1]
      rfl
  · rw [List.getElem?_append_right (by simpa using hi), List.getElem?_replicate] at h
    split at h <;> cases h
/-- the context of a def's body -/
abbrev bodyCx (G : G0) (N : List Str) (qual : Str) (scope : Scope) (f : Addr) (cdv : Value) (A : Around) (outer : List Env) (s : Shared) (H : Hp) : Cx := (cxOf CX0 G.P G.w G.K G.mg G.base N qual scope f cdv A outer s H E0).nox
theorem On.body {N : List Str} {qual : Str} {scope : Scope} {f : Addr} {cdv : Value} {A : Around} {outer : List Env} {s : Shared} {H : Hp} : On G (bodyCx G N qual scope f cdv A outer s H) := ⟨rfl, rfl, rfl, rfl, rfl, rfl⟩
theorem fn_data {k : Nat} {f : Addr} {name qual : Str} {params : Arguments} {body : List Stmt} {scope : Scope} {kV doc pm cdv ct oc : Value} {an od : Option Addr} {osl : Array (Option Value)} {N ps : List Str} {sb : FS}
    (lk : G.K.lookup f = some ⟨oc, od, .func (PySem.W.fnOf name qual params body scope .none kV doc pm an cdv ct), osl⟩) (hcd : PySem.W.codeIn G.K cdv qual = true) (S : FnScope N ps scope)
    (hbody : ∀ (A : Around) (outer : List Env) (s : Shared) (H : Hp), Room k (A.deeper (envOfC qual scope s.heap.objs.size f cdv)) → PSs (bodyCx G N qual scope f cdv A outer s H) body (liftS G sb)) :
    FnOk G.P G.w G.K G.mg G.base CX0 (k + 1) f (PySem.W.fnOf name qual params body scope .none kV doc pm an cdv ct) ps (spD G ps.length (runD N.length sb)) := by
  refine fn_of lk hcd S (fun vs H Q E h => ?_) fun A outer s H vs Q E hr hsp => ?_
  · obtain ⟨μ, st, ds, d, st', hl, _, r, _⟩ := h
    rw [← r.length]; exact hl
  · obtain ⟨μ, st, ds, d, st', hl, Sx, r, e, k2⟩ := hsp
    unfold runD at e
    obtain ⟨⟨fl, ρ', s1⟩, e1, e⟩ := Option.bind_eq_some_iff.mp e
    refine ⟨_, (show PSs (bodyCx G N qual scope f cdv A outer s H) body (liftS G sb) from hbody A outer s H hr).nox, ?_⟩
    refine ⟨_, μ, st, fl, ρ', s1, env_start r, Sx, e1, fun μ1 H1 X1 S1 => ?_⟩
    cases fl with
    | rt dd => cases e; exact fun v Rv => k2 μ1 H1 v X1 S1 Rv
    | nx => cases e; exact fun σ' _ => k2 μ1 H1 .non X1 S1 .non
    | bk => cases e
    | ct => cases e
theorem def_of {k : Nat} {f : Addr} {name qual : Str} {params : Arguments} {body : List Stmt} {scope : Scope} {kV doc pm cdv ct oc : Value} {an od : Option Addr} {osl : Array (Option Value)} {N ps : List Str} {sb : FS}
    (lk : G.K.lookup f = some ⟨oc, od, .func (PySem.W.fnOf name qual params body scope .none kV doc pm an cdv ct), osl⟩) (hcd : PySem.W.codeIn G.K cdv qual = true) (S : FnScope N ps scope)
    (hm : G.mg name = some (.ref f)) (hk : PySem.W.keepIn G.K (.ref f) = true)
    (hb : ∀ us : List Value, us.length = ps.length → bindArgs (PySem.W.fnOf name qual params body scope .none kV doc pm an cdv ct) ⟨us, []⟩ = pure (ps.zip us))
    (hbody : ∀ (A : Around) (outer : List Env) (s : Shared) (H : Hp), Room k (A.deeper (envOfC qual scope s.heap.objs.size f cdv)) → PSs (bodyCx G N qual scope f cdv A outer s H) body (liftS G sb)) : Def G (k + 1) name ps.length (runD N.length sb) :=
  ⟨f, _, ps, rfl, fn_data lk hcd S hbody, hm, hk, .all hb⟩
end
end DL

set_option Elab.async false
set_option linter.all false
set_option maxRecDepth 100000
set_option maxHeartbeats 1000000
/-! truths as numbers -/
namespace DL
open PySem PySem.Spec PyProof.Rows L2 GxR LG
def bI (b : Bool) : Int := if b = true then 1 else 0
theorem neg_bool {prog : Program} {w : World} {A : Around} {E : Value → Shared → Prop} {s : Shared} {b : Bool} {Q : Value → Shared → Prop} (h : Q (.int (-(bI b)) s.toks) { s with toks := s.toks + 1 }) : wpAny (model prog w) A (unaryOp .USub (.bool b)) Q E s :=
  unaryOp_gives (op := .USub) (PySem.typeIs_bool s b) rfl F.slot_bool_neg F.entry_int_neg (F.args_int_neg_1 _) (.of_eq rfl : Gives (Builtin.«int.__neg__» ⟨[.bool b], []⟩) (.int (-(bI b)))) h
section
variable {X : Cx}
theorem op_addB : OpR X (binaryOp .Add) (fun x y H Q => ∃ k j, x = .bl k ∧ y = .int j ∧ Q (.int (bI k + j)) H) := by
  intro pins s σ H x y v u Q I rx ry h
  obtain ⟨k, j, rfl, rfl, q⟩ := h
  obtain ⟨t, rfl⟩ := ry
  cases rx
  exact IntBool.add_bool_int ⟨.int (bI k + j), H, I.tok _, ⟨_, rfl⟩, q⟩
theorem op_subB : OpR X (binaryOp .Sub) (fun x y H Q => ∃ k j, x = .bl k ∧ y = .int j ∧ Q (.int (bI k - j)) H) := by
  intro pins s σ H x y v u Q I rx ry h
  obtain ⟨k, j, rfl, rfl, q⟩ := h
  obtain ⟨t, rfl⟩ := ry
  cases rx
  exact IntBool.sub_bool_int ⟨.int (bI k - j), H, I.tok _, ⟨_, rfl⟩, q⟩
theorem un_negB : UnR X (unaryOp .USub) (fun x H Q => (∃ i, x = .int i ∧ Q (.int (-i)) H) ∨ ∃ k, x = .bl k ∧ Q (.int (-(bI k))) H) := by
  intro pins s σ H x v Q I rx h
  rcases h with ⟨i, rfl, q⟩ | ⟨k, rfl, q⟩
  · exact un_neg pins s σ H _ v Q I rx ⟨i, rfl, q⟩
  · cases rx
    exact neg_bool ⟨.int (-(bI k)), H, I.tok _, ⟨_, rfl⟩, q⟩
def strB (b : Bool) : Str := if b then "True" else "False"
theorem call_strB : CallR X (.type "str") (fun xs H Q => (∃ i, xs = [.int i] ∧ i.natAbs.log2 < 1920 ∧ Q (.str (toString i)) H) ∨ ∃ k, xs = [.bl k] ∧ Q (.str (strB k)) H) := by
  intro pins s σ H xs us Q I r h
  rcases h with h | ⟨k, rfl, q⟩
  · exact call_str_int pins s σ H xs us Q I r h
  · cases r with
    | cons r t =>
      cases t
      cases r
      exact PySem.P.str_of_bool ⟨.str (strB k), H, I.tok _, ⟨_, rfl⟩, q⟩
end
end DL

set_option Elab.async false
set_option linter.all false
set_option maxRecDepth 100000
set_option maxHeartbeats 1000000
namespace DL
open PySem PySem.Spec PyProof.Rows L2 GxR LG

section
variable {G : G0} {X : Cx}
/-! ### arithmetic -/
def addD : D → D → Sto → Option (D × Sto)
  | .int i, .int j, st => some (.int (i + j), st)
  | .str x, .str y, st => if x.length + y.length ≤ sizeLine then some (.str (x ++ y), st) else none
  | .ref l, .ref m, st => match st[l]?, st[m]? with
    | some (.lst xs), some (.lst ys) => if xs.length + ys.length ≤ sizeLine then some (.ref st.length, st ++ [.lst (xs ++ ys)]) else none
    | _, _ => none
  | .tup xs, .tup ys, st => if xs.length + ys.length ≤ sizeLine then some (.tup (xs ++ ys), st) else none
  | .bl b, .int j, st => some (.int (bI b + j), st)
  | _, _, _ => none
theorem do_add (o : On G X) : OpR X (binaryOp .Add) (rD G addD) := by
  refine OpR.imp (op_add.or (op_add_str.or (op_cat.or (op_catA.or op_addB)))) fun x y H Q ⟨μ, st, c, d, z, st', S, Rc, Rd, e, k⟩ => ?_
  unfold addD at e
  split at e
  · cases e; cases Rc; cases Rd
    exact .inl ⟨_, _, rfl, rfl, k μ H _ .refl S (.int _)⟩
  · split at e
    · rename_i hz
      cases e; cases Rc; cases Rd
      exact .inr (.inl ⟨_, _, rfl, rfl, hz, k μ H _ .refl S (.str _)⟩)
    · cases e
  · split at e
    · rename_i hx hy
      split at e
      · rename_i hz
        cases e
        cases Rc with
        | ref ha => cases Rd with
          | ref hb =>
            obtain ⟨us, u1, u2⟩ := S.obj _ _ _ hx ha
            obtain ⟨ws, w1, w2⟩ := S.obj _ _ _ hy hb
            refine .inr (.inr (.inl ⟨_, _, us, ws, rfl, rfl, u1, w1, by rw [← u2.length, ← w2.length]; exact hz, fun p hp => ?_⟩))
            exact k _ _ _ (Ext.newAt hp) (S.newL hp (u2.append w2)) (rep_newL (ds := []) S)
      · cases e
    · cases e
  · split at e
    · rename_i hz
      cases e
      cases Rc with
      | tup s r => cases Rd with
        | tup s' r' =>
          refine .inr (.inr (.inr (.inl ⟨_, _, _, _, rfl, rfl, by rw [o.K]; exact s, by rw [o.K]; exact s', by rw [← r.length, ← r'.length]; exact hz, fun h => ?_, fun _ h => ?_, fun _ _ p hp => ?_⟩)))
          · subst h; cases r; exact k μ H _ .refl S (.tup s' r')
          · subst h; cases r'; rw [List.append_nil] at k; exact k μ H _ .refl S (.tup s r)
          · exact k μ _ _ (Ext.new hp) (S.newT hp) (.tup (SqT.of upd_same) ((r.append r').ext (Ext.new hp)))
    · cases e
  · cases e; cases Rc; cases Rd
    exact .inr (.inr (.inr (.inr ⟨_, _, rfl, rfl, k μ H _ .refl S (.int _)⟩)))
  · cases e
def intOp (f : Int → Int → Option D) : D → D → Sto → Option (D × Sto)
  | .int i, .int j, st => (f i j).map fun d => (d, st)
  | _, _, _ => none
theorem intOp_ok {g : Value → Value → Sem Value} {C : Int → Int → Prop} {h : Int → Int → V} {f : Int → Int → Option D} (ho : OpR X g (rI C h)) (hf : ∀ i j d, f i j = some d → C i j ∧ ∀ μ H, Rep G μ H d (h i j)) : OpR X g (rD G (intOp f)) :=
  OpR.imp ho fun x y H Q ⟨μ, st, c, d, z, st', S, Rc, Rd, e, k⟩ => by
    unfold intOp at e
    split at e
    · rename_i i j
      obtain ⟨dd, e1, e2⟩ := Option.map_eq_some_iff.mp e
      cases e2; cases Rc; cases Rd
      obtain ⟨h1, h2⟩ := hf i j _ e1
      exact ⟨i, j, rfl, rfl, h1, k μ H _ .refl S (h2 μ H)⟩
    · cases e
theorem rI_of0 {g : Value → Value → Sem Value} {h : Int → Int → V} (ho : OpR X g (rI0 h)) : OpR X g (rI (fun _ _ => True) h) := OpR.imp ho fun x y H Q ⟨i, j, a, b, _, q⟩ => ⟨i, j, a, b, q⟩
def subD : D → D → Sto → Option (D × Sto)
  | .int i, .int j, st => some (.int (i - j), st)
  | .bl b, .int j, st => some (.int (bI b - j), st)
  | _, _, _ => none
theorem do_sub : OpR X (binaryOp .Sub) (rD G subD) := by
  refine OpR.imp (op_sub.or op_subB) fun x y H Q ⟨μ, st, c, d, z, st', S, Rc, Rd, e, k⟩ => ?_
  unfold subD at e
  split at e
  · cases e; cases Rc; cases Rd
    exact .inl ⟨_, _, rfl, rfl, k μ H _ .refl S (.int _)⟩
  · cases e; cases Rc; cases Rd
    exact .inr ⟨_, _, rfl, rfl, k μ H _ .refl S (.int _)⟩
  · cases e
/-- together less than a million bits -/
def mulD := intOp fun i j => if i.natAbs.log2 + j.natAbs.log2 < 1000000 then some (.int (i * j)) else none
theorem do_mul : OpR X (binaryOp .Mult) (rD G mulD) := intOp_ok op_mulW fun i j d e => by
  split at e
  · rename_i h; cases e; exact ⟨h, fun _ _ => .int _⟩
  · cases e
def fdivD := intOp fun i j => if 0 < j ∧ j.natAbs.log2 < 9000 then some (.int (i / j)) else none
theorem do_fdiv : OpR X (binaryOp .FloorDiv) (rD G fdivD) := intOp_ok op_fdivW fun i j d e => by
  split at e
  · rename_i h; cases e; exact ⟨h, fun _ _ => .int _⟩
  · cases e
def modD := intOp fun i j => if 0 < j then some (.int (i % j)) else none
theorem do_mod : OpR X (binaryOp .Mod) (rD G modD) := intOp_ok op_mod fun i j d e => by
  split at e
  · rename_i h; cases e; exact ⟨h, fun _ _ => .int _⟩
  · cases e
def powD := intOp fun i j => if 0 ≤ j ∧ j ≤ 1000000 ∧ i.natAbs < 2 ^ 64 then some (.int (i ^ j.toNat)) else none
theorem do_pow : OpR X (binaryOp .Pow) (rD G powD) := intOp_ok op_pow fun i j d e => by
  split at e
  · rename_i h; cases e; exact ⟨h, fun _ _ => .int _⟩
  · cases e
/-! ### order -/
def ordD (f : Int → Int → Bool) (g : List Nat → List Nat → Bool) : D → D → Sto → Option (D × Sto)
  | .int i, .int j, st => some (.bl (f i j), st)
  | .str x, .str y, st => some (.bl (g x.cps.toList y.cps.toList), st)
  | _, _, _ => none
def ltD := ordD (fun i j => decide (i < j)) fun x y => decide (x < y)
def leD := ordD (fun i j => decide (i ≤ j)) fun x y => !decide (y < x)
def gtD := ordD (fun i j => decide (j < i)) fun x y => decide (y < x)
def geD := ordD (fun i j => decide (j ≤ i)) fun x y => !decide (x < y)
theorem ord_ok {op : CmpOp} {f : Int → Int → Bool} {g : List Nat → List Nat → Bool} (h1 : OpR X (compareOp op) (rI0 fun i j => .bl (f i j)))
    (h2 : OpR X (compareOp op) (fun x y H Q => ∃ i j, x = .str i ∧ y = .str j ∧ Q (.bl (g i.cps.toList j.cps.toList)) H)) : OpR X (compareOp op) (rD G (ordD f g)) :=
  OpR.imp (h1.or h2) fun x y H Q ⟨μ, st, c, d, z, st', S, Rc, Rd, e, k⟩ => by
    unfold ordD at e
    split at e
    · cases e; cases Rc; cases Rd
      exact .inl ⟨_, _, rfl, rfl, k μ H _ .refl S (.bl _)⟩
    · cases e; cases Rc; cases Rd
      exact .inr ⟨_, _, rfl, rfl, k μ H _ .refl S (.bl _)⟩
    · cases e
theorem do_lt : OpR X (compareOp .Lt) (rD G ltD) := ord_ok op_lt op_lt_str
theorem do_le : OpR X (compareOp .LtE) (rD G leD) := ord_ok op_le op_le_str
theorem do_gt : OpR X (compareOp .Gt) (rD G gtD) := ord_ok op_gt op_gt_str
theorem do_ge : OpR X (compareOp .GtE) (rD G geD) := ord_ok op_ge op_ge_str
/-! ### == of data -/
mutual
def toPD : Nat → Sto → D → Option PyData
  | _, _, .non => some .none
  | _, _, .bl b => some (.bool b)
  | _, _, .int i => some (.int i)
  | _, _, .str x => some (.str x)
  | 0, _, _ => none
  | n + 1, st, .tup ds => (toPDs n st ds).map .tuple
  | n + 1, st, .ref l => match st[l]? with
    | some (.lst ds) => (toPDs n st ds).map .list
    | none => none
  | _, _, _ => none
def toPDs : Nat → Sto → List D → Option (List PyData)
  | _, _, [] => some []
  | 0, _, _ => none
  | n + 1, st, d :: ds => (toPD n st d).bind fun p => (toPDs n st ds).map fun ps => p :: ps
end
mutual
theorem toPD_ok {μ : List Addr} {H : Hp} : ∀ (n : Nat) (st : Sto) (d : D) (p : PyData) (v : V), StR G μ st H → Rep G μ H d v → toPD n st d = some p → Dp G.K H v p
  | _, _, .non, _, _, _, R, e => by cases R; simp [toPD] at e; subst e; exact .non
  | _, _, .bl b, _, _, _, R, e => by cases R; simp [toPD] at e; subst e; exact .bl b
  | _, _, .int i, _, _, _, R, e => by cases R; simp [toPD] at e; subst e; exact .int i
  | _, _, .str x, _, _, _, R, e => by cases R; simp [toPD] at e; subst e; exact .str x
  | 0, _, .tup _, _, _, _, _, e => by simp [toPD] at e
  | 0, _, .ref _, _, _, _, _, e => by simp [toPD] at e
  | 0, _, .scr, _, _, _, _, e => by simp [toPD] at e
  | 0, _, .ty _, _, _, _, _, e => by simp [toPD] at e
  | n + 1, _, .scr, _, _, _, _, e => by simp [toPD] at e
  | n + 1, _, .ty _, _, _, _, _, e => by simp [toPD] at e
  | n + 1, st, .tup ds, p, v, S, R, e => by
    simp only [toPD] at e
    obtain ⟨ps, e1, e2⟩ := Option.map_eq_some_iff.mp e
    subst e2
    cases R with
    | tup s r => exact .tup s (toPDs_ok n st ds ps _ S r e1)
  | n + 1, st, .ref l, p, v, S, R, e => by
    simp only [toPD] at e
    split at e
    · rename_i ds hl
      obtain ⟨ps, e1, e2⟩ := Option.map_eq_some_iff.mp e
      subst e2
      cases R with
      | ref ha =>
        obtain ⟨vs, h1, h2⟩ := S.obj l _ _ hl ha
        exact .lst (SqL.of h1) (toPDs_ok n st ds ps vs S h2 e1)
    · cases e
theorem toPDs_ok {μ : List Addr} {H : Hp} : ∀ (n : Nat) (st : Sto) (ds : List D) (ps : List PyData) (vs : List V), StR G μ st H → Reps G μ H ds vs → toPDs n st ds = some ps → DpAll G.K H vs ps
  | _, _, [], _, _, _, R, e => by cases R; simp [toPDs] at e; subst e; exact .nil
  | 0, _, _ :: _, _, _, _, _, e => by simp [toPDs] at e
  | n + 1, st, d :: ds, ps, vs, S, R, e => by
    simp only [toPDs] at e
    obtain ⟨p, e1, e⟩ := Option.bind_eq_some_iff.mp e
    obtain ⟨qs, e2, e3⟩ := Option.map_eq_some_iff.mp e
    subst e3
    cases R with
    | cons h t => exact .cons (toPD_ok n st d p _ S h e1) (toPDs_ok n st ds qs _ S t e2)
end
def eqW (neg : Bool) : D → D → Sto → Option (D × Sto) := fun c d st => (toPD 4000 st c).bind fun p => (toPD 4000 st d).bind fun q => if SeqAt.shaped p = true ∧ SeqAt.shaped q = true then some (.bl (if neg = true then !PyData.eqv p q else PyData.eqv p q), st) else none
def eqD := eqW false
def neD := eqW true
theorem do_eq (o : On G X) {k : Nat} (hr : Room k X.A) : OpR X (compareOp .Eq) (rD G eqD) := OpR.imp (op_eqD hr.units) fun x y H Q ⟨μ, st, c, d, z, st', S, Rc, Rd, e, k⟩ => by
  unfold eqD eqW at e
  obtain ⟨p, e1, e⟩ := Option.bind_eq_some_iff.mp e
  obtain ⟨q, e2, e⟩ := Option.bind_eq_some_iff.mp e
  split at e
  · rename_i hs
    cases e
    exact ⟨p, q, by rw [o.K]; exact toPD_ok 4000 _ c p x S Rc e1, by rw [o.K]; exact toPD_ok 4000 _ d q y S Rd e2, hs.1, hs.2, k μ H _ .refl S (.bl _)⟩
  · cases e
theorem do_ne (o : On G X) {k : Nat} (hr : Room k X.A) : OpR X (compareOp .NotEq) (rD G neD) := OpR.imp (op_neD hr.units) fun x y H Q ⟨μ, st, c, d, z, st', S, Rc, Rd, e, k⟩ => by
  unfold neD eqW at e
  obtain ⟨p, e1, e⟩ := Option.bind_eq_some_iff.mp e
  obtain ⟨q, e2, e⟩ := Option.bind_eq_some_iff.mp e
  split at e
  · rename_i hs
    cases e
    exact ⟨p, q, by rw [o.K]; exact toPD_ok 4000 _ c p x S Rc e1, by rw [o.K]; exact toPD_ok 4000 _ d q y S Rd e2, hs.1, hs.2, k μ H _ .refl S (.bl _)⟩
  · cases e
/-! ### x[i] -/
def ixD : D → D → Sto → Option (D × Sto)
  | .tup ds, .int i, st => (atI ds i).map fun d => (d, st)
  | .ref l, .int i, st => match st[l]? with
    | some (.lst ds) => (atI ds i).map fun d => (d, st)
    | none => none
  | .str x, .int i, st => if x.length ≤ sizeLine then (atI x.cps.toList i).map fun c => (.str ⟨#[c]⟩, st) else none
  | _, _, _ => none
theorem atI_reps {μ : List Addr} {H : Hp} {ds : List D} {vs : List V} {i : Int} {d : D} (r : Reps G μ H ds vs) (h : atI ds i = some d) : ∃ v, atI vs i = some v ∧ Rep G μ H d v := by
  unfold atI at h ⊢
  obtain ⟨j, e1, e2⟩ := Option.bind_eq_some_iff.mp h
  obtain ⟨v, h1, h2⟩ := r.get j e2
  exact ⟨v, by rw [← r.length, e1]; exact h1, h2⟩
end
section
variable {G : G0}
theorem IxR.imp {X : Cx} {r r' : R2} (h : IxR X r) (i : ∀ x y H Q, r' x y H Q → r x y H Q) : IxR X r' := fun va sl pins s σ H x y v u Q I rx ry q => h va sl pins s σ H x y v u Q I rx ry (i x y H Q q)
/-- the script's items -/
def ixG (G : G0) : D → D → Sto → Option (D × Sto)
  | .scr, .int i, st => (atI G.ns i).map fun n => (.int n, st)
  | c, d, st => ixD c d st
theorem do_ix {X : Cx} (o : On G X) : IxR X (rD G (ixG G)) := by
  refine IxR.imp ix_seq fun x y H Q ⟨μ, st, c, d, z, st', S, Rc, Rd, e, k⟩ => ?_
  unfold ixG at e
  split at e
  · rename_i i
    obtain ⟨n, e1, e2⟩ := Option.map_eq_some_iff.mp e
    cases e2; cases Rc; cases Rd
    have q := S.script
    refine .inl ⟨_, _, i, .int n, rfl, rfl, by rw [o.K]; exact q, ?_, k μ H _ .refl S (.int n)⟩
    unfold atI at e1 ⊢
    obtain ⟨j, f1, f2⟩ := Option.bind_eq_some_iff.mp e1
    rw [List.length_map, f1]
    show (G.ns.map V.int)[j]? = _
    rw [List.getElem?_map, f2]
    rfl
  · unfold ixD at e
    split at e
    · obtain ⟨dd, e1, e2⟩ := Option.map_eq_some_iff.mp e
      cases e2; cases Rd
      cases Rc with
      | tup s r =>
        obtain ⟨v, h1, h2⟩ := atI_reps r e1
        exact .inr (.inl ⟨_, _, _, v, rfl, rfl, by rw [o.K]; exact s, h1, k μ H _ .refl S h2⟩)
    · split at e
      · rename_i hl
        obtain ⟨dd, e1, e2⟩ := Option.map_eq_some_iff.mp e
        cases e2; cases Rd
        cases Rc with
        | ref ha =>
          obtain ⟨vs, h1, h2⟩ := S.obj _ _ _ hl ha
          obtain ⟨v, g1, g2⟩ := atI_reps h2 e1
          exact .inl ⟨_, _, _, v, rfl, rfl, SqL.of h1, g1, k μ H _ .refl S g2⟩
      · cases e
    · split at e
      · rename_i hz
        obtain ⟨cc, e1, e2⟩ := Option.map_eq_some_iff.mp e
        cases e2; cases Rc; cases Rd
        exact .inr (.inr ⟨_, _, cc, rfl, rfl, hz, e1, k μ H _ .refl S (.str _)⟩)
      · cases e
    · cases e
end
end DL

set_option Elab.async false
set_option linter.all false
set_option maxRecDepth 100000
set_option maxHeartbeats 1000000
namespace DL
open PySem PySem.Spec PyProof.Rows L2 GxR LG

section
variable {G : G0} {X : Cx} {pos : Pos} {a b c e tgt : Expr} {es : List Expr} {fa fb fc : FE} {ta tb : FT} {fr : FA}
theorem CallR.imp {f : Value} {r r' : List V → Hp → VK → Prop} (h : CallR X f r) (i : ∀ xs H Q, r' xs H Q → r xs H Q) : CallR X f r' := fun pins s σ H xs us Q I v q => h pins s σ H xs us Q I v (i xs H Q q)
theorem SlR.imp {r r' : V → Option Int → Option Int → Hp → VK → Prop} (h : SlR X r) (i : ∀ x l u H Q, r' x l u H Q → r x l u H Q) : SlR X r' := fun pins s σ H x v vl vu lo hi sl Q I rx hs pl pu q => h pins s σ H x v vl vu lo hi sl Q I rx hs pl pu (i x lo hi H Q q)
/-! ### -x -/
def fNeg (fa : FE) : FE := fun ρ st => (fa ρ st).bind fun p => match p.1 with
  | .int i => some (.int (-i), p.2)
  | .bl b => some (.int (-(bI b)), p.2)
  | _ => none
theorem de_neg (ha : PE X a (lift G fa)) : PE X (.UnaryOp .USub a pos) (lift G (fNeg fa)) :=
  PE.imp (pe_un un_negB ha) fun σ H Q ⟨ρ, μ, st, d, st', E, S, e, k⟩ => by
    unfold fNeg at e
    obtain ⟨⟨d1, s1⟩, e1, e⟩ := Option.bind_eq_some_iff.mp e
    simp only at e
    split at e
    · cases e
      refine ⟨ρ, μ, st, _, _, E, S, e1, fun μ1 H1 v X1 S1 R1 => ?_⟩
      cases R1
      exact .inl ⟨_, rfl, k μ1 H1 _ X1 S1 (.int _)⟩
    · cases e
      refine ⟨ρ, μ, st, _, _, E, S, e1, fun μ1 H1 v X1 S1 R1 => ?_⟩
      cases R1
      exact .inr ⟨_, rfl, k μ1 H1 _ X1 S1 (.int _)⟩
    · cases e
/-! ### slices -/
def cutD (ds : List D) (lo hi : Option Int) : List D := (ds.drop (HT.sIx ds.length 0 lo)).take (HT.sIx ds.length ds.length hi - HT.sIx ds.length 0 lo)
theorem Reps.cut {μ : List Addr} {H : Hp} {ds : List D} {vs : List V} (r : Reps G μ H ds vs) (lo hi : Option Int) : Reps G μ H (cutD ds lo hi) (cutV vs lo hi) := by
  unfold cutD cutV
  rw [← r.length]
  exact (r.drop _).take _
def sliceD : D → Option Int → Option Int → Sto → Option (D × Sto)
  | .tup ds, lo, hi, st => some (.tup (cutD ds lo hi), st)
  | .ref l, lo, hi, st => match st[l]? with
    | some (.lst ds) => some (.ref st.length, st ++ [.lst (cutD ds lo hi)])
    | none => none
  | .str z, lo, hi, st => if z.length ≤ sizeLine then some (.str (cutS z lo hi), st) else none
  | _, _, _, _ => none
theorem cutD_all {ds : List D} {lo hi : Option Int} (h : HT.sIx ds.length 0 lo = 0 ∧ HT.sIx ds.length ds.length hi = ds.length) : cutD ds lo hi = ds := by
  unfold cutD
  rw [h.1, h.2]
  simp
abbrev FO := Rho → Sto → Option (Option Int × Sto)
def liftO (G : G0) (f : FO) : TO := fun σ H Q => ∃ ρ μ st d st', EnvR G μ H ρ σ ∧ StR G μ st H ∧ f ρ st = some (d, st') ∧ ∀ μ' H', Ext G μ H μ' H' → StR G μ' st' H' → Q d H'
def oNone : FO := fun _ st => some (none, st)
def oSome (fa : FE) : FO := fun ρ st => (fa ρ st).bind fun p => match p.1 with
  | .int i => some (some i, p.2)
  | _ => none
theorem PO.imp {e : Option Expr} {t t' : TO} (h : PO X e t) (i : ∀ σ H Q, t' σ H Q → t σ H Q) : PO X e t' := ⟨fun pins s σ H Q I q => h.run pins s σ H Q I (i σ H Q q)⟩
theorem dp_none : PO X none (liftO G oNone) := PO.imp po_none fun σ H Q ⟨ρ, μ, st, d, st', E, S, e, k⟩ => by cases e; exact k μ H .refl S
theorem dp_some (h : PE X e (lift G fa)) : PO X (some e) (liftO G (oSome fa)) := PO.imp (po_some h) fun σ H Q ⟨ρ, μ, st, d, st', E, S, e, k⟩ => by
  unfold oSome at e
  obtain ⟨⟨d1, s1⟩, e1, e⟩ := Option.bind_eq_some_iff.mp e
  simp only at e
  split at e
  · cases e
    refine ⟨ρ, μ, st, _, _, E, S, e1, fun μ1 H1 v X1 S1 R1 => ?_⟩
    cases R1
    exact ⟨_, rfl, k μ1 H1 X1 S1⟩
  · cases e
def fSl (fa : FE) (fl fu : FO) : FE := fun ρ st => (fa ρ st).bind fun p => (fl ρ p.2).bind fun l => (fu ρ l.2).bind fun u => sliceD p.1 l.1 u.1 u.2
theorem do_slice (o : On G X) : SlR X (fun x lo hi H Q => ∃ μ st d z st', StR G μ st H ∧ Rep G μ H d x ∧ sliceD d lo hi st = some (z, st') ∧ After G μ H z st' Q) := by
  refine SlR.imp (sl_list.or (sl_tupA.or sl_str)) fun x lo hi H Q ⟨μ, st, d, z, st', S, R, e, k⟩ => ?_
  unfold sliceD at e
  split at e
  · cases e
    cases R with
    | tup s r =>
      refine .inr (.inl ⟨_, _, rfl, by rw [o.K]; exact s, fun h => ?_, fun _ p hp => ?_⟩)
      · rw [← r.length] at h
        rw [cutD_all h] at k
        exact k μ H _ .refl S (.tup s r)
      · exact k μ _ _ (Ext.new hp) (S.newT hp) (.tup (SqT.of upd_same) ((r.cut lo hi).ext (Ext.new hp)))
  · split at e
    · rename_i hl
      cases e
      cases R with
      | ref ha =>
        obtain ⟨vs, h1, h2⟩ := S.obj _ _ _ hl ha
        exact .inl ⟨_, vs, rfl, SqL.of h1, fun p hp => k _ _ _ (Ext.newAt hp) (S.newL hp (h2.cut lo hi)) (rep_newL (ds := []) S)⟩
    · cases e
  · split at e
    · rename_i hz
      cases e
      cases R
      exact .inr (.inr ⟨_, rfl, hz, k μ H _ .refl S (.str _)⟩)
    · cases e
  · cases e
theorem de_slice {lo hi : Option Expr} {p2 : Pos} {fl fu : FO} (o : On G X) (he : PE X e (lift G fa)) (hl : PO X lo (liftO G fl)) (hu : PO X hi (liftO G fu)) : PE X (.Subscript e (.Slice lo hi none p2) pos) (lift G (fSl fa fl fu)) :=
  PE.imp (pe_slice (do_slice o) he hl hu) fun σ H Q ⟨ρ, μ, st, d, st', E, S, e, k⟩ => by
    unfold fSl at e
    obtain ⟨p, e1, e⟩ := Option.bind_eq_some_iff.mp e
    obtain ⟨l, e2, e⟩ := Option.bind_eq_some_iff.mp e
    obtain ⟨u, e3, e⟩ := Option.bind_eq_some_iff.mp e
    exact ⟨ρ, μ, st, p.1, p.2, E, S, e1, fun μ1 H1 v X1 S1 R1 => ⟨ρ, μ1, p.2, l.1, l.2, E.ext X1, S1, e2, fun μ2 H2 X2 S2 => ⟨ρ, μ2, l.2, u.1, u.2, E.ext (X1.trans X2), S2, e3, fun μ3 H3 X3 S3 =>
      ⟨μ3, u.2, p.1, d, st', S3, R1.ext (X2.trans X3), e, ((k.trans X1).trans X2).trans X3⟩⟩⟩⟩
/-! ### in, not in -/
def flatD : D → Bool
  | .non => true | .bl _ => true | .int _ => true | .str _ => true
  | _ => false
def eqF (y x : D) : Bool := match y, x with
  | .non, .non => true
  | .bl a, .bl b => a == b
  | .int i, .int j => i == j
  | .str s, .str t => s == t
  | .bl a, .int j => (if a then 1 else 0) == j
  | .int i, .bl b => i == (if b then 1 else 0)
  | _, _ => false
def inW (neg : Bool) : D → D → Sto → Option (D × Sto) := fun c d st => match c, d with
  | .str x, .str z => match x.cps.toList with
    | [ch] => some (.bl (if neg = true then !decide (ch ∈ z.cps.toList) else decide (ch ∈ z.cps.toList)), st)
    | _ => none
  | _, _ => none
theorem str_one {x : Str} {ch : Nat} (h : x.cps.toList = [ch]) : x = ⟨#[ch]⟩ := TL.ext_tl h
theorem do_in : OpR X (compareOp .In) (rD G (inW false)) := OpR.imp op_in_sign fun x y H Q ⟨μ, st, c, d, z, st', S, Rc, Rd, e, k⟩ => by
  unfold inW at e
  split at e
  · split at e
    · rename_i hc
      cases e; cases Rc; cases Rd
      exact ⟨_, _, by rw [str_one hc], rfl, k μ H _ .refl S (.bl _)⟩
    · cases e
  · cases e
theorem do_notin : OpR X (compareOp .NotIn) (rD G (inW true)) := OpR.imp op_notIn_sign fun x y H Q ⟨μ, st, c, d, z, st', S, Rc, Rd, e, k⟩ => by
  unfold inW at e
  split at e
  · split at e
    · rename_i hc
      cases e; cases Rc; cases Rd
      exact ⟨_, _, by rw [str_one hc], rfl, k μ H _ .refl S (.bl _)⟩
    · cases e
  · cases e
/-! ### built-ins -/
def lenD (G : G0) : HA
  | [.tup ds], st => some (.int ds.length, st)
  | [.ref l], st => match st[l]? with
    | some (.lst ds) => some (.int ds.length, st)
    | none => none
  | [.str x], st => if x.length ≤ sizeLine then some (.int x.length, st) else none
  | [.scr], st => some (.int G.ns.length, st)
  | _, _ => none
theorem dc_len (o : On G X) : CallR X (.builtin "len") (rDA G (lenD G)) := by
  refine CallR.imp (call_len_seq.or call_len_str) fun xs H Q ⟨μ, st, ds, z, st', S, R, e, k⟩ => ?_
  unfold lenD at e
  split at e
  · cases e
    cases R with
    | cons r t => cases t; cases r with
      | tup s r => exact .inl ⟨_, _, rfl, .inr (by rw [o.K]; exact s), by rw [← r.length]; exact k μ H _ .refl S (.int _)⟩
  · split at e
    · rename_i hl
      cases e
      cases R with
      | cons r t => cases t; cases r with
        | ref ha =>
          obtain ⟨vs, h1, h2⟩ := S.obj _ _ _ hl ha
          exact .inl ⟨_, vs, rfl, .inl (SqL.of h1), by rw [← h2.length]; exact k μ H _ .refl S (.int _)⟩
    · cases e
  · split at e
    · rename_i hz
      cases e
      cases R with
      | cons r t => cases t; cases r; exact .inr ⟨_, rfl, hz, k μ H _ .refl S (.int _)⟩
    · cases e
  · cases e
    cases R with
    | cons r t => cases t; cases r; exact .inl ⟨_, _, rfl, .inl (by rw [o.K]; exact S.script), by rw [List.length_map]; exact k μ H _ .refl S (.int _)⟩
  · cases e
def tyN (d : D) (st : Sto) : Option String := match d with
  | .non => some "NoneType"
  | .bl _ => some "bool"
  | .int _ => some "int"
  | .str _ => some "str"
  | .tup _ => some "tuple"
  | .ref l => match st[l]? with
    | some (.lst _) => some "list"
    | none => none
  | _ => none
theorem tyN_ok {μ : List Addr} {st : Sto} {H : Hp} {d : D} {v : V} {t : String} (S : StR G μ st H) (R : Rep G μ H d v) (h : tyN d st = some t) : TyX G.K H v (.type t) := by
  cases d with
  | non => cases h; cases R; exact .base .non
  | bl b => cases h; cases R; exact .base (.bl b)
  | int i => cases h; cases R; exact .base (.int i)
  | str x => cases h; cases R; exact .base (.str x)
  | tup ds =>
    cases h
    cases R with
    | tup s r =>
      rcases s with (s | ⟨ob, s⟩) | ⟨ob, its, n, s, c, _⟩
      · exact .base (.tup s)
      · exact .fTuple s
      · exact .kTuple s c
  | ref l =>
    unfold tyN at h
    simp only at h
    split at h
    · rename_i hl
      cases h
      cases R with
      | ref ha =>
        obtain ⟨vs, h1, _⟩ := S.obj _ _ _ hl ha
        exact .base (.lst h1)
    · cases h
  | scr => cases h
  | ty n => cases h
def isiD : HA
  | [x, .ty T], st => (tyN x st).bind fun t => (kitB t T).map fun b => (.bl b, st)
  | _, _ => none
theorem dc_isi (o : On G X) : CallR X (.builtin "isinstance") (rDA G isiD) := by
  refine CallR.imp call_isi fun xs H Q ⟨μ, st, ds, z, st', S, R, e, k⟩ => ?_
  unfold isiD at e
  split at e
  · rename_i x T
    obtain ⟨t, e1, e⟩ := Option.bind_eq_some_iff.mp e
    obtain ⟨b, e2, e3⟩ := Option.map_eq_some_iff.mp e
    cases e3
    cases R with
    | cons r tl => cases tl with
      | cons r2 tl =>
        cases tl; cases r2
        exact ⟨_, _, .type t, .type T, b, rfl, .ty T, by rw [o.K]; exact tyN_ok S r e1, kit_ty e2, k μ H _ .refl S (.bl b)⟩
  · cases e
/-! isinstance(x, (S, T)) -/
def tTys (Ts : List String) : TA := fun _ H Q => Q (Ts.map V.ty) H
theorem dy_nil : PA X [] (tTys []) := pa_nil
theorem dy_cons {T : String} {Ts : List String} {x : Str} (o : On G X) (hg : Gl X x) (hm : G.mg x = none) (hv : bootBuiltins x = some (.type T)) (ht : PA X es (tTys Ts)) (hs : starEach (.Name x pos :: es) X.env = (false, eval (.Name x pos) X.env) :: starEach es X.env := by rfl)
    (hn : x ≠ "__name__" := by decide) (hd : (x == ("__debug__" : Str)) = false := by decide) : PA X (.Name x pos :: es) (tTys (T :: Ts)) := pa_cons (pe_bltn (v := .ty T) hg (by rw [o.mg]; exact hm) hv rfl hn hd) ht hs
def kits (t : String) : List String → Option Bool
  | [] => some false
  | T :: r => (kitB t T).bind fun b => (kits t r).map fun c => b || c
theorem kits_ok {K : PySem.W.Frag} {t : String} : ∀ {Ts : List String} {b : Bool}, kits t Ts = some b → PySem.W.kitAny K (.type t) (Ts.map Value.type) = some b
  | [], b, e => by cases e; exact kitAny_nil
  | T :: r, b, e => by
    unfold kits at e
    obtain ⟨b1, e1, e⟩ := Option.bind_eq_some_iff.mp e
    obtain ⟨b2, e2, e3⟩ := Option.map_eq_some_iff.mp e
    refine kitAny_cons (kit_ty e1) (fun z => ?_) (fun z => by rw [← e3, z]; rfl)
    rw [← e3, z, Bool.false_or]
    exact kits_ok e2
theorem cls_tys : ∀ Ts : List String, Paired ClsV (Ts.map V.ty) (Ts.map Value.type)
  | [] => .nil
  | T :: r => .cons (.ty T) (cls_tys r)
def fIsiT (Ts : List String) (fa : FE) : FE := fun ρ st => (fa ρ st).bind fun p => (tyN p.1 p.2).bind fun t => (kits t Ts).map fun b => (.bl b, p.2)
theorem de_isiT {Ts : List String} {cs : List Expr} {j : Nat} {p q : Pos} (o : On G X) (hg : Gl X "isinstance") (hm : G.mg "isinstance" = none) (ha : PE X a (lift G fa)) (hc : PA X cs (tTys Ts)) (hz : Ts.length ≤ 100 := by decide)
    (he : starEach [a, .Tuple cs j q] X.env = (false, eval a X.env) :: starEach [.Tuple cs j q] X.env := by rfl) (he2 : starEach [.Tuple cs j q] X.env = (false, eval (.Tuple cs j q) X.env) :: starEach [] X.env := by rfl) (hpl : (backTo pos (starEach [.Tuple cs j q] X.env)).any (·.1) = false := by rfl) :
    PE X (.Call (.Name "isinstance" p) [a, .Tuple cs j q] [] pos) (lift G (fIsiT Ts fa)) :=
  PE.imp (pe_callB call_isiT hg (by rw [o.mg]; exact hm) (by decide +kernel) (pa_cons ha (pa_cons (pe_tup hc) pa_nil he2) he) (by decide) (by decide) he hpl) fun σ H Q ⟨ρ, μ, st, d, st', E, S, e, k⟩ => by
    unfold fIsiT at e
    obtain ⟨⟨x, s1⟩, e1, e⟩ := Option.bind_eq_some_iff.mp e
    obtain ⟨t, e2, e⟩ := Option.bind_eq_some_iff.mp e
    obtain ⟨bb, e3, e4⟩ := Option.map_eq_some_iff.mp e
    cases e4
    refine ⟨ρ, μ, st, x, _, E, S, e1, fun μ1 H1 v X1 S1 R1 => ⟨by rw [List.length_map]; exact Nat.le_trans hz (by decide), fun tp htp => ?_⟩⟩
    exact ⟨v, tp, Ts.map V.ty, .type t, Ts.map Value.type, bb, rfl, upd_same, cls_tys Ts, by rw [o.K]; exact tyN_ok (S1.newT htp) (R1.ext (Ext.new htp)) e2, kits_ok e3, k μ1 _ _ (X1.trans (Ext.new htp)) (S1.newT htp) (.bl bb)⟩
/-! numbers -/
def absD : HA
  | [.int i], st => some (.int (if i < 0 then -i else i), st)
  | _, _ => none
theorem dc_abs : CallR X (.builtin "abs") (rDA G absD) := CallR.imp call_abs fun xs H Q ⟨μ, st, ds, z, st', S, R, e, k⟩ => by
  unfold absD at e
  split at e
  · cases e
    cases R with
    | cons r t => cases t; cases r; exact ⟨_, rfl, k μ H _ .refl S (.int _)⟩
  · cases e
def maxD : HA
  | [.int i, .int j], st => some (.int (if j > i then j else i), st)
  | _, _ => none
theorem dc_max (o : On G X) : CallR X (.builtin "max") (rDA G maxD) := CallR.imp (call_max2 o.calm) fun xs H Q ⟨μ, st, ds, z, st', S, R, e, k⟩ => by
  unfold maxD at e
  split at e
  · cases e
    cases R with
    | cons r t => cases r; cases t with
      | cons r t => cases t; cases r; exact ⟨_, _, rfl, k μ H _ .refl S (.int _)⟩
  · cases e
def minD : HA
  | [.int i, .int j], st => some (.int (if j < i then j else i), st)
  | _, _ => none
theorem dc_min (o : On G X) : CallR X (.builtin "min") (rDA G minD) := CallR.imp (call_min2 o.calm) fun xs H Q ⟨μ, st, ds, z, st', S, R, e, k⟩ => by
  unfold minD at e
  split at e
  · cases e
    cases R with
    | cons r t => cases r; cases t with
      | cons r t => cases t; cases r; exact ⟨_, _, rfl, k μ H _ .refl S (.int _)⟩
  · cases e
def strD : HA
  | [.int i], st => if i.natAbs.log2 < 1920 then some (.str (toString i), st) else none
  | [.bl b], st => some (.str (strB b), st)
  | _, _ => none
theorem dc_str : CallR X (.type "str") (rDA G strD) := CallR.imp call_strB fun xs H Q ⟨μ, st, ds, z, st', S, R, e, k⟩ => by
  unfold strD at e
  split at e
  · split at e
    · rename_i hz
      cases e
      cases R with
      | cons r t => cases t; cases r; exact .inl ⟨_, rfl, hz, k μ H _ .refl S (.str _)⟩
    · cases e
  · cases e
    cases R with
    | cons r t => cases t; cases r; exact .inr ⟨_, rfl, k μ H _ .refl S (.str _)⟩
  · cases e
def listD : HA
  | [.tup ds], st => some (.ref st.length, st ++ [.lst ds])
  | [.ref l], st => match st[l]? with
    | some (.lst ds) => some (.ref st.length, st ++ [.lst ds])
    | none => none
  | _, _ => none
theorem dc_list (o : On G X) : CallR X (.type "list") (rDA G listD) := CallR.imp call_list_of fun xs H Q ⟨μ, st, ds, z, st', S, R, e, k⟩ => by
  unfold listD at e
  split at e
  · cases e
    cases R with
    | cons r t => cases t; cases r with
      | tup s r => exact ⟨_, _, rfl, .inr (by rw [o.K]; exact s), fun p hp => k _ _ _ (Ext.newAt hp) (S.newL hp r) (rep_newL (ds := []) S)⟩
  · split at e
    · rename_i hl
      cases e
      cases R with
      | cons r t => cases t; cases r with
        | ref ha =>
          obtain ⟨vs, h1, h2⟩ := S.obj _ _ _ hl ha
          exact ⟨_, vs, rfl, .inl (SqL.of h1), fun p hp => k _ _ _ (Ext.newAt hp) (S.newL hp h2) (rep_newL (ds := []) S)⟩
    · cases e
  · cases e
def tupleD : HA
  | [.tup ds], st => some (.tup ds, st)
  | [.ref l], st => match st[l]? with
    | some (.lst ds) => some (.tup ds, st)
    | none => none
  | _, _ => none
theorem dc_tuple (o : On G X) : CallR X (.type "tuple") (rDA G tupleD) := CallR.imp call_tuple_of fun xs H Q ⟨μ, st, ds, z, st', S, R, e, k⟩ => by
  unfold tupleD at e
  split at e
  · cases e
    cases R with
    | cons r t => cases t; cases r with
      | tup s r => exact ⟨_, _, rfl, .inr ⟨by rw [o.K]; exact s, k μ H _ .refl S (.tup s r)⟩⟩
  · split at e
    · rename_i hl
      cases e
      cases R with
      | cons r t => cases t; cases r with
        | ref ha =>
          obtain ⟨vs, h1, h2⟩ := S.obj _ _ _ hl ha
          exact ⟨_, vs, rfl, .inl ⟨SqL.of h1, fun p hp => k μ _ _ (Ext.new hp) (S.newT hp) (.tup (SqT.of upd_same) (h2.ext (Ext.new hp)))⟩⟩
    · cases e
  · cases e
/-! ### methods -/
def fApp (fo fa : FE) : FE := fun ρ st => (fo ρ st).bind fun p => (fa ρ p.2).bind fun q => match p.1 with
  | .ref l => match p.2[l]?, q.2[l]? with
    | some (.lst _), some (.lst ds) => if ds.length < sizeLine then some (.non, q.2.set l (.lst (ds ++ [q.1]))) else none
    | _, _ => none
  | _ => none
theorem de_append {fo : FE} {apos : Pos} (o : On G X) (ho : PE X b (lift G fo)) (ha : PE X a (lift G fa)) (hst : starEach [a] X.env = (false, eval a X.env) :: starEach [] X.env := by rfl)
    (hb : attributeBase b "append" X.env (eval b X.env) = eval b X.env := by rfl) (hl : (apos.endLine == pos.line) = true := by rfl) (hpl : (backTo pos (starEach [] X.env)).any (·.1) = false := by rfl)
    (hfew : ((backTo pos (starEach [a] X.env)).all (fun x => !x.1) && (backToKw pos (keywordEach [] X.env)).all (fun x => x.1.isSome) && decide ([a].length + ([] : List Keyword).length + (if ([] : List Keyword).isEmpty then 0 else 1) < 30)) = true := by rfl) : PE X (.Call (.Attribute b "append" apos) [a] [] pos) (lift G (fApp fo fa)) :=
  PE.imp (pe_bm PySem.F.plainAttrs_list PySem.F.slot_list_append PySem.F.type_list_append mt_append ho (pa_cons ha pa_nil hst) hb hfew hl hst hpl) fun σ H Q ⟨ρ, μ, st, d, st', E, S, e, k⟩ => by
    unfold fApp at e
    obtain ⟨⟨x, s1⟩, e1, e⟩ := Option.bind_eq_some_iff.mp e
    obtain ⟨⟨y, s2⟩, e2, e⟩ := Option.bind_eq_some_iff.mp e
    simp only at e
    split at e
    · rename_i l
      split at e
      · rename_i d1 ds h1 h2
        split at e
        · rename_i hz
          cases e
          refine ⟨ρ, μ, st, _, s1, E, S, e1, fun μ1 H1 v X1 S1 R1 => ?_⟩
          cases R1 with
          | ref hp =>
            obtain ⟨us, u1, _⟩ := S1.obj _ _ _ h1 hp
            refine ⟨.inl ⟨rfl, _, SqL.of u1⟩, ⟨ρ, μ1, s1, y, s2, E.ext X1, S1, e2, fun μ2 H2 w X2 S2 R2 => ?_⟩⟩
            obtain ⟨ws, w1, w2⟩ := S2.obj _ _ _ h2 (X2.at hp)
            exact ⟨_, ws, w, rfl, rfl, w1, by rw [← w2.length]; exact hz, k μ2 _ _ (X1.trans (X2.trans (Ext.lst w1))) (S2.setL (X2.at hp) w1 (w2.append (.cons R2 .nil))) .non⟩
        · cases e
      · cases e
    · cases e
end
end DL

set_option Elab.async false
set_option linter.all false
set_option maxRecDepth 100000
set_option maxHeartbeats 1000000
namespace DL
open PySem PySem.Spec PyProof.Rows L2 GxR LG

section
variable {G : G0} {X : Cx} {pos : Pos} {a b c e tgt : Expr} {es : List Expr} {fa fb fc : FE} {ta tb : FT} {fr : FA}
/-! ### x.upper() -/
def fUpper (fa : FE) : FE := fun ρ st => (fa ρ st).bind fun p => match p.1 with
  | .str x => if x.length ≤ 5592405 then some (.str (Txt.upper x), p.2) else none
  | _ => none
theorem de_upper {apos : Pos} (ha : PE X a (lift G fa)) (hbase : attributeBase a "upper" X.env (eval a X.env) = eval a X.env := by rfl) (hline : (apos.endLine == pos.line) = true := by rfl) :
    PE X (.Call (.Attribute a "upper" apos) [] [] pos) (lift G (fUpper fa)) :=
  PE.imp (pe_upper ha hbase hline) fun σ H Q ⟨ρ, μ, st, d, st', E, S, e, k⟩ => by
    unfold fUpper at e
    obtain ⟨⟨d1, s1⟩, e1, e⟩ := Option.bind_eq_some_iff.mp e
    simp only at e
    split at e
    · split at e
      · rename_i hz
        cases e
        refine ⟨ρ, μ, st, _, _, E, S, e1, fun μ1 H1 v X1 S1 R1 => ?_⟩
        cases R1
        exact ⟨⟨_, rfl⟩, _, rfl, rfl, hz, k μ1 H1 _ X1 S1 (.str _)⟩
      · cases e
    · cases e
/-! ### a tuple backwards -/
def tRevT (K : PySem.W.Frag) (te : TE) : TE := fun σ H Q => te σ H fun x H1 => ∃ a xs, x = .ref a ∧ SqT K H1 a xs ∧ ∀ p, H1 p = none → Q (.ref p) (upd H1 p (.tup xs.reverse))
/-! ### stores -/
def putIx (d i v : D) (st : Sto) : Option Sto := match d, i with
  | .ref l, .int k => match st[l]? with
    | some (.lst ds) => (ixN ds.length k).map fun j => st.set l (.lst (ds.set j v))
    | none => none
  | _, _ => none
theorem putIx_ok {μ : List Addr} {st st' : Sto} {H : Hp} {d i w : D} {o j v : V} {Q : Hp → Prop} (S : StR G μ st H) (Ro : Rep G μ H d o) (Ri : Rep G μ H i j) (Rv : Rep G μ H w v) (e : putIx d i w st = some st')
    (k : ∀ H', Ext G μ H μ H' → StR G μ st' H' → Q H') : rSetL o j v H Q := by
  unfold putIx at e
  split at e
  · rename_i l kk
    split at e
    · rename_i ds hl
      obtain ⟨jj, e1, e2⟩ := Option.map_eq_some_iff.mp e
      subst e2
      cases Ri
      cases Ro with
      | ref ha =>
        obtain ⟨vs, h1, h2⟩ := S.obj _ _ _ hl ha
        exact ⟨_, vs, kk, jj, rfl, rfl, h1, by rw [← h2.length]; exact e1, k _ (Ext.lst h1) (S.setL ha h1 (h2.set Rv jj))⟩
    · cases e
  · cases e
def sPut (fa fo fi : FE) : FS := fun ρ st => (fa ρ st).bind fun p => (fo ρ p.2).bind fun q => (fi ρ q.2).bind fun r => (putIx q.1 r.1 p.1 r.2).map fun st' => (.nx, ρ, st')
theorem ds_put {fo fi : FE} {p1 : Pos} (he : PE X e (lift G fa)) (ho : PE X a (lift G fo)) (hi : PE X b (lift G fi)) (hg : PG X (.Subscript a b p1) (gSub (lift G fo) (lift G fi) rSetL))
    (hs : swapsWithSole [.Subscript a b p1] e pos.line X.env = pure false := by rfl) (hw : swappedStores [.Subscript a b p1] e X.env = pure none := by rfl) : PS X (.Assign [.Subscript a b p1] e pos) (liftS G (sPut fa fo fi)) :=
  PS.imp (ps_asg he hg hs hw) fun D0 σ H ⟨ρ, μ, st, fl, ρ', st', E, S, e, k⟩ => by
    unfold sPut at e
    obtain ⟨p, e1, e⟩ := Option.bind_eq_some_iff.mp e
    obtain ⟨q, e2, e⟩ := Option.bind_eq_some_iff.mp e
    obtain ⟨r, e3, e⟩ := Option.bind_eq_some_iff.mp e
    obtain ⟨s', e4, e5⟩ := Option.map_eq_some_iff.mp e
    cases e5
    exact ⟨ρ, μ, st, p.1, p.2, E, S, e1, fun μ1 H1 v X1 S1 R1 => ⟨ρ, μ1, p.2, q.1, q.2, E.ext X1, S1, e2, fun μ2 H2 w X2 S2 R2 => ⟨ρ, μ2, q.2, r.1, r.2, E.ext (X1.trans X2), S2, e3, fun μ3 H3 u X3 S3 R3 =>
      putIx_ok S3 (R2.ext X3) R3 (R1.ext (X2.trans X3)) e4 fun H4 X4 S4 => k μ3 H4 (X1.trans (X2.trans (X3.trans X4))) S4 σ (E.ext (X1.trans (X2.trans (X3.trans X4))))⟩⟩⟩
/-- a[i], b[j] = x, y -/
def sPut2 (fr : FA) (fo fi fo' fi' : FE) : FS := fun ρ st => (fr ρ st).bind fun p => match p.1 with
  | [x, y] => (fo ρ p.2).bind fun q => (fi ρ q.2).bind fun r => (putIx q.1 r.1 x r.2).bind fun s1 => (fo' ρ s1).bind fun q' => (fi' ρ q'.2).bind fun r' => (putIx q'.1 r'.1 y r'.2).map fun st' => (.nx, ρ, st')
  | _ => none
theorem ds_put2 {a' b' : Expr} {fo fi fo' fi' : FE} {p1 p2 p3 p4 : Pos} {j1 j2 : Nat} (o : On G X) (he : PA X es (liftA G fr)) (ho : PE X a (lift G fo)) (hi : PE X b (lift G fi)) (ho' : PE X a' (lift G fo')) (hi' : PE X b' (lift G fi'))
    (hg : PG X (.Tuple [.Subscript a b p1, .Subscript a' b' p2] j1 p3) (gTup X.K 2 (gCons (gSub (lift G fo) (lift G fi) rSetL) (gCons (gSub (lift G fo') (lift G fi') rSetL) gNil))))
    (hs : swapsWithSole [.Tuple [.Subscript a b p1, .Subscript a' b' p2] j1 p3] (.Tuple es j2 p4) pos.line X.env = pure false := by rfl) (hw : swappedStores [.Tuple [.Subscript a b p1, .Subscript a' b' p2] j1 p3] (.Tuple es j2 p4) X.env = pure none := by rfl) :
    PS X (.Assign [.Tuple [.Subscript a b p1, .Subscript a' b' p2] j1 p3] (.Tuple es j2 p4) pos) (liftS G (sPut2 fr fo fi fo' fi')) :=
  PS.imp (ps_asg (pe_tup he) hg hs hw) fun D0 σ H ⟨ρ, μ, st, fl, ρ', st', E, S, e, k⟩ => by
    unfold sPut2 at e
    obtain ⟨⟨ds, s0⟩, e1, e⟩ := Option.bind_eq_some_iff.mp e
    simp only at e
    split at e
    · rename_i x y
      obtain ⟨q, e2, e⟩ := Option.bind_eq_some_iff.mp e
      obtain ⟨r, e3, e⟩ := Option.bind_eq_some_iff.mp e
      obtain ⟨s1, e4, e⟩ := Option.bind_eq_some_iff.mp e
      obtain ⟨q', e5, e⟩ := Option.bind_eq_some_iff.mp e
      obtain ⟨r', e6, e⟩ := Option.bind_eq_some_iff.mp e
      obtain ⟨s', e7, e8⟩ := Option.map_eq_some_iff.mp e
      cases e8
      refine ⟨ρ, μ, st, _, s0, E, S, e1, fun μ1 H1 vs X1 S1 R1 => ?_⟩
      cases R1 with
      | @cons _ v1 _ _ Rx t => cases t with
        | @cons _ v2 _ _ Ry t =>
          cases t
          refine ⟨Nat.le_of_lt (small1000 (by simp)), fun p hp => ⟨p, _, rfl, by rw [o.K]; exact SqT.of upd_same, rfl, _, _, rfl, ?_⟩⟩
          have XP : Ext G μ1 H1 μ1 (upd H1 p (.tup [v1, v2])) := Ext.new hp
          have SP := S1.newT (o := .tup [v1, v2]) hp
          refine ⟨ρ, μ1, s0, q.1, q.2, E.ext (X1.trans XP), SP, e2, fun μ2 H2 w X2 S2 R2 => ⟨ρ, μ2, q.2, r.1, r.2, E.ext (X1.trans (XP.trans X2)), S2, e3, fun μ3 H3 u X3 S3 R3 => ?_⟩⟩
          refine putIx_ok S3 (R2.ext X3) R3 (Rx.ext (XP.trans (X2.trans X3))) e4 fun H4 X4 S4 => ?_
          have X14 := XP.trans (X2.trans (X3.trans X4))
          refine ⟨_, _, rfl, ⟨ρ, μ3, s1, q'.1, q'.2, E.ext (X1.trans X14), S4, e5, fun μ5 H5 w' X5 S5 R5 => ⟨ρ, μ5, q'.2, r'.1, r'.2, E.ext (X1.trans (X14.trans X5)), S5, e6, fun μ6 H6 u' X6 S6 R6 => ?_⟩⟩⟩
          refine putIx_ok S6 (R5.ext X6) R6 (Ry.ext (X14.trans (X5.trans X6))) e7 fun H7 X7 S7 => ?_
          have X17 := X14.trans (X5.trans (X6.trans X7))
          exact ⟨rfl, k μ6 H7 (X1.trans X17) S7 σ (E.ext (X1.trans X17))⟩
    · cases e
/-- names in a row, by a tuple's items -/
def sUnp (tg : Tg) (fa : FE) : FS := fun ρ st => (fa ρ st).bind fun p => (tgD tg p.1 ρ).map fun ρ' => (.nx, ρ', p.2)
theorem ds_unp {tg : Tg} (he : PE X e (lift G fa)) (hg : PG X tgt (gOf G.K tg)) (hs : swapsWithSole [tgt] e pos.line X.env = pure false := by rfl) (hw : swappedStores [tgt] e X.env = pure none := by rfl) (h1 : (assignEach [tgt] X.env).map (·.2) = [assign tgt X.env] := by rfl) : PS X (.Assign [tgt] e pos) (liftS G (sUnp tg fa)) :=
  PS.imp (ps_asg he hg hs hw h1) fun D0 σ H ⟨ρ, μ, st, fl, ρ', st', E, S, e, k⟩ => by
    unfold sUnp at e
    obtain ⟨p, e1, e⟩ := Option.bind_eq_some_iff.mp e
    obtain ⟨ρ1, e2, e3⟩ := Option.map_eq_some_iff.mp e
    cases e3
    exact ⟨ρ, μ, st, p.1, p.2, E, S, e1, fun μ1 H1 v X1 S1 R1 => gOf_ok (vs' := []) R1 (E.ext X1) e2 fun σ' E' _ => k μ1 H1 X1 S1 σ' E'⟩
/-- names in a row, each its own value -/
def sPar (is : List Nat) (fr : FA) : FS := fun ρ st => (fr ρ st).bind fun p => if p.1.length = is.length then some (.nx, setM ρ is p.1, p.2) else none
theorem ds_par2 {i j : Nat} {x y : Str} {px py pt : Pos} {kt k2 : Nat} {pt2 : Pos} (o : On G X) (hN : X.N.Nodup) (hi : X.N[i]? = some x) (hj : X.N[j]? = some y) (hij : i ≠ j)
    (hx : X.env.scope.names.lookup x = some .local) (hy : X.env.scope.names.lookup y = some .local) (ha : PA X [a, b] (liftA G fr))
    (hw : swappedStores [.Tuple [.Name x px, .Name y py] kt pt] (.Tuple [a, b] k2 pt2) X.env = pure (some [x, y]) := by rfl)
    (hs : swapsWithSole [.Tuple [.Name x px, .Name y py] kt pt] (.Tuple [a, b] k2 pt2) pos.line X.env = pure false := by rfl) :
    PS X (.Assign [.Tuple [.Name x px, .Name y py] kt pt] (.Tuple [a, b] k2 pt2) pos) (liftS G (sPar [i, j] fr)) :=
  PS.imp (ps_par o.calm hN hi hj hij hx hy ha hw hs) fun D0 σ H ⟨ρ, μ, st, fl, ρ', st', E, S, e, k⟩ => by
    unfold sPar at e
    obtain ⟨⟨ds, s0⟩, e1, e⟩ := Option.bind_eq_some_iff.mp e
    split at e
    · rename_i hl
      cases e
      refine ⟨ρ, μ, st, ds, _, E, S, e1, fun μ1 H1 vs X1 S1 R1 => ?_⟩
      match ds, hl, R1 with
      | [d1, d2], _, .cons r1 (.cons r2 .nil) => exact ⟨_, _, rfl, k μ1 H1 X1 S1 _ (((E.ext X1).set r1).set r2)⟩
    · cases e
theorem ds_par3 {i j l : Nat} {x y z : Str} {px py pz pt : Pos} {kt k2 : Nat} {pt2 : Pos} (o : On G X) (hN : X.N.Nodup) (hi : X.N[i]? = some x) (hj : X.N[j]? = some y) (hl : X.N[l]? = some z) (hij : i ≠ j) (hil : i ≠ l) (hjl : j ≠ l)
    (hx : X.env.scope.names.lookup x = some .local) (hy : X.env.scope.names.lookup y = some .local) (hz : X.env.scope.names.lookup z = some .local) (ha : PA X [a, b, c] (liftA G fr))
    (hw : swappedStores [.Tuple [.Name x px, .Name y py, .Name z pz] kt pt] (.Tuple [a, b, c] k2 pt2) X.env = pure (some [x, y, z]) := by rfl)
    (hs : swapsWithSole [.Tuple [.Name x px, .Name y py, .Name z pz] kt pt] (.Tuple [a, b, c] k2 pt2) pos.line X.env = pure false := by rfl) :
    PS X (.Assign [.Tuple [.Name x px, .Name y py, .Name z pz] kt pt] (.Tuple [a, b, c] k2 pt2) pos) (liftS G (sPar [i, j, l] fr)) :=
  PS.imp (ps_par3 o.calm hN hi hj hl hij hil hjl hx hy hz ha hw hs) fun D0 σ H ⟨ρ, μ, st, fl, ρ', st', E, S, e, k⟩ => by
    unfold sPar at e
    obtain ⟨⟨ds, s0⟩, e1, e⟩ := Option.bind_eq_some_iff.mp e
    split at e
    · rename_i hl
      cases e
      refine ⟨ρ, μ, st, ds, _, E, S, e1, fun μ1 H1 vs X1 S1 R1 => ?_⟩
      match ds, hl, R1 with
      | [d1, d2, d3], _, .cons r1 (.cons r2 (.cons r3 .nil)) => exact ⟨_, _, _, rfl, k μ1 H1 X1 S1 _ ((((E.ext X1).set r1).set r2).set r3)⟩
    · cases e
end
end DL

set_option Elab.async false
set_option linter.all false
set_option maxRecDepth 100000
set_option maxHeartbeats 1000000
/-! t[::-1] of a tuple -/
namespace DV
open PySem PySem.Spec PyProof.Rows L2 HT
section
variable {prog : Program} {w : World} {A : Around} {E : Value → Shared → Prop} {s : Shared}
theorem adjust_back (n : Nat) : Builtin.Slice.sliceAdjust none none (-1) (n : Int) = ((n : Int) - 1, -1) := rfl
theorem places_back (n : Nat) : Builtin.Slice.slicePlaces ((n : Int) - 1) (-1) (-1) = n := by
  unfold Builtin.Slice.slicePlaces
  have h1 : ¬ ((-1 : Int) > 0) := by omega
  rw [if_neg h1]
  have e : -(-1 : Int) = 1 := by omega
  rw [e, Int.ediv_one]
  by_cases hn : n = 0
  · subst hn; rfl
  · rw [if_pos (show ((n : Int) - 1) > -1 by omega)]
    omega
theorem applied_back {sl : Addr} {n : Nat} {t : Tok} {Q : Int × Int × Nat → Shared → Prop} (hs : s.heap.IsSliceOf sl .none .none (.int (-1) t)) (h : Q ((n : Int) - 1, -1, n) s) :
    wpAny (model prog w) A (Builtin.Slice.sliceApplied (.ref sl) (pure (n : Int))) Q E s := by
  obtain ⟨os, hos, hcs, hds⟩ := id hs
  unfold Builtin.Slice.sliceApplied Builtin.Slice.sliceFields
  refine wpAny_bind (wpAny_bind (wpAny_field hos hds (x := .none) rfl (wpAny_bind (wpAny_field hos hds (x := .none) rfl (wpAny_bind (wpAny_field hos hds (x := .int (-1) t) rfl (wpAny_pure ?_)))))))
  refine wpAny_bind (slicePart_ (.int (-1) t) ?_)
  show wpAny _ _ (if ((-1 : Int) == 0) = true then _ else _) _ _ s
  rw [if_neg (by decide)]
  refine wpAny_bind (slicePart_ .none (wpAny_bind (slicePart_ .none (wpAny_bind (wpAny_pure ?_)))))
  show wpAny _ _ (match Builtin.Slice.sliceAdjust none none (-1) (n : Int) with | (lo, hi) => pure (lo, (-1 : Int), Builtin.Slice.slicePlaces lo hi (-1))) _ _ s
  rw [adjust_back n]
  show wpAny _ _ (pure ((n : Int) - 1, (-1 : Int), Builtin.Slice.slicePlaces ((n : Int) - 1) (-1) (-1))) _ _ s
  rw [places_back]
  exact wpAny_pure h
theorem range_pick {α : Type} : ∀ (l : List α) (f : Nat → Option α), (∀ m, m < l.length → f m = l[m]?) → (List.range l.length).filterMap f = l
  | [], f, _ => rfl
  | x :: r, f, h => by
    have h0 : f 0 = some x := h 0 (by simp)
    rw [List.length_cons, List.range_succ_eq_map, List.filterMap_cons, h0, List.filterMap_map]
    have ih := range_pick r (f ∘ Nat.succ) fun m hm => by
      have q := h (m + 1) (by simp; omega)
      simpa using q
    simp only [ih]
theorem pick_back (xs : Array Value) : ((List.range xs.size).filterMap fun (m : Nat) => xs[(((xs.size : Nat) : Int) - 1 + (m : Int) * (-1)).toNat]?).toArray = xs.toList.reverse.toArray := by
  congr 1
  have hl : xs.toList.reverse.length = xs.size := by simp
  have q := range_pick xs.toList.reverse (fun (m : Nat) => xs[(((xs.size : Nat) : Int) - 1 + (m : Int) * (-1)).toNat]?) fun m hm => by
    have hm' : m < xs.size := by rw [← hl]; exact hm
    have e1 : (((xs.size : Nat) : Int) - 1 + (m : Int) * (-1)).toNat = xs.size - 1 - m := by omega
    show xs[(((xs.size : Nat) : Int) - 1 + (m : Int) * (-1)).toNat]? = _
    rw [e1, List.getElem?_reverse (by simpa using hm'), Array.length_toList, Array.getElem?_toList]
  rw [hl] at q
  exact q
theorem getItem_back {t sl : Addr} {items : Array Value} {tk : Tok} {Q : Value → Shared → Prop} (ht : IsTup s.heap t items) (hs : s.heap.IsSliceOf sl .none .none (.int (-1) tk))
    (h : Q (.ref s.heap.objs.size) { s with heap := s.heap.push { cls := .type "tuple", data := .seq items.toList.reverse.toArray } }) (hsz : items.size ≤ sizeLine) : wpAny (model prog w) A (getItem (.ref t) (.ref sl)) Q E s := by
  have htake : sizeOk (.seq items.toList.reverse.toArray) := by
    show items.toList.reverse.toArray.size ≤ sizeLine
    simpa using hsz
  obtain ⟨os, hos, hcs, hds⟩ := id hs
  have hTs : s.TypeIs (.ref sl) "slice" := ⟨os, hos, hcs⟩
  unfold getItem
  try with_reducible refine wpAny_holding ?_
  first | refine wpAny_bind (wpAny_pure ?_) | skip
  refine wpAny_bind (wpAny_sequenceKey ht.typeIs (by decide) ?_)
  refine wpAny_bind (wpAny_callSpecial?_slot (name := Str.ofString "__getitem__") ht.typeIs PyProof.Rows.slot_tuple_getitem
    (wpAny_call_entry PyProof.Rows.slot_tuple_getitem ht.typeIs entry_tuple_getitem ?_ (args_tuple_getitem _ _)))
  show wpAny _ _ (Builtin.Tuple.tupleItemsOf (.ref t) >>= _) _ _ s
  refine wpAny_bind (tupleItemsOf_ ht ?_)
  refine wpAny_bind (wpAny_typeOf hTs ?_)
  rw [if_pos (by decide)]
  refine wpAny_bind (applied_back hs ?_)
  have hno : ¬ ((((items.size : Nat) : Int) - 1 == 0 && (-1 : Int) == 1 && items.size == items.size) = true) := by
    intro q
    rw [Bool.and_eq_true, Bool.and_eq_true] at q
    exact absurd q.1.2 (by decide)
  show wpAny _ _ (if (((items.size : Nat) : Int) - 1 == 0 && (-1 : Int) == 1 && items.size == items.size) = true then _ else _) _ _ s
  rw [if_neg hno, pick_back]
  first
    | exact wpAny_bind (m := Builtin.Tuple.tupleExact _) (wpAny_newObj_type (wpAny_pure ⟨_, rfl, wpAny_pure h⟩) htake)
    | exact wpAny_bind (m := Builtin.Tuple.tupleExact _) (wpAny_newObj_type (wpAny_bind (wpAny_pure (wpAny_pure ⟨_, rfl, wpAny_pure h⟩))) htake)
    | exact wpAny_bind (wpAny_bind (m := Builtin.Tuple.tupleExact _) (wpAny_newObj_type (wpAny_pure (wpAny_pure ⟨_, rfl, wpAny_pure h⟩)) htake))
    | exact wpAny_bind (wpAny_bind (m := Builtin.Tuple.tupleExact _) (wpAny_newObj_type (wpAny_pure ⟨_, rfl, wpAny_pure h⟩) htake))
end
section
variable {X : Cx}
theorem pe_revT {e : Expr} {te : TE} {k : Nat} {p1 p2 p3 pos : Pos} (he : PE X e te) : PE X (.Subscript e (.Slice none none (some (.UnaryOp .USub (.Constant (.int 1) k p1) p2)) p3) pos) (DL.tRevT X.K te) := by
  refine ⟨fun pins s σ H Q I h => ?_⟩
  refine Subscript_ (thn (he.run pins s σ H _ I h) fun v s1 ⟨x, H1, I1, r1, q1⟩ => ?_)
  obtain ⟨a, xs, ex, hx, q⟩ := q1
  subst ex
  cases r1
  have hst : PO X (some (.UnaryOp .USub (.Constant (.int 1) k p1) p2)) (tPart (tUn (rU fun i => .int (-i)) (tC (.int 1)))) := po_some (pe_un un_neg pe_int)
  refine wpAny_Slice (thn (po_none.run pins s1 σ H1 (fun o H2 => o = none ∧ H2 = H1) I1 ⟨rfl, rfl⟩) fun vl s2 ⟨l, H2, I2, pl, el, e2⟩ => ?_)
  subst el e2
  refine thn (po_none.run pins s2 σ H2 (fun o H3 => o = none ∧ H3 = H2) I2 ⟨rfl, rfl⟩) fun vu s3 ⟨u, H3, I3, pu, eu, e3⟩ => ?_
  subst eu e3
  refine thn (hst.run pins s3 σ H3 (fun o H4 => o = some (-1) ∧ H4 = H3) I3 ⟨1, rfl, -1, rfl, rfl, rfl⟩) fun vs s4 ⟨o, H4, I4, ps, eo, e4⟩ => ?_
  subst eo e4
  have I5 : Inv X pins σ H4 { s4 with heap := s4.heap.push { cls := .type "slice", data := .fields #[vl, vu, vs] } } := I4.kept (t' := s4.toks) fun b ob q => Heap.get?_push_of_some _ q
  obtain ⟨its, r, ht, hz⟩ := I5.tuple hx
  have hlen := r.length
  show wpAny (model X.prog X.w) X.A (subscriptTail e (.Slice none none (some (.UnaryOp .USub (.Constant (.int 1) k p1) p2)) p3) (.ref a) (.ref s4.heap.objs.size)) (EP X pins σ Q) X.xe { s4 with heap := s4.heap.push { cls := .type "slice", data := .fields #[vl, vu, vs] } }
  cases pl
  cases pu
  cases ps with
  | int i tk =>
    refine tail_any (ops := [.ref a, .ref s4.heap.objs.size]) ht.typeIs (PyProof.Rows.slot_tuple_getitem.lookup) ?_ (by with_unfolding_all rfl)
    refine getItem_back ht (Heap.IsSliceOf.new _ .none .none _) ?_ (by rw [List.size_toArray]; omega)
    refine ⟨.ref _, _, I5.laid (t' := s4.toks) (o := .tup xs.reverse) (fun b ob q => Heap.get?_push_of_some _ q) (Nat.le_refl _) ?_, rfl, q _ (I5.hok.fresh (Nat.le_refl _))⟩
    exact ⟨by rw [List.length_reverse]; exact hz, _, r.reverse, IsTup.new _ _⟩
end
end DV
namespace DL
open PySem PySem.Spec PyProof.Rows L2 GxR LG
def fRev (fa : FE) : FE := fun ρ st => (fa ρ st).bind fun p => match p.1 with
  | .tup ds => some (.tup ds.reverse, p.2)
  | _ => none
theorem de_rev {G : G0} {X : Cx} {pos : Pos} {e : Expr} {fa : FE} {k : Nat} {p1 p2 p3 : Pos} (o : On G X) (he : PE X e (lift G fa)) : PE X (.Subscript e (.Slice none none (some (.UnaryOp .USub (.Constant (.int 1) k p1) p2)) p3) pos) (lift G (fRev fa)) :=
  PE.imp (DV.pe_revT he) fun σ H Q ⟨ρ, μ, st, d, st', E, S, e, k⟩ => by
    unfold fRev at e
    obtain ⟨⟨d1, s1⟩, e1, e⟩ := Option.bind_eq_some_iff.mp e
    simp only at e
    split at e
    · cases e
      refine ⟨ρ, μ, st, _, _, E, S, e1, fun μ1 H1 v X1 S1 R1 => ?_⟩
      cases R1 with
      | tup s r => exact ⟨_, _, rfl, by rw [o.K]; exact s, fun p hp => k μ1 _ _ (X1.trans (Ext.new hp)) (S1.newT hp) (.tup (SqT.of upd_same) (r.reverse.ext (Ext.new hp)))⟩
    · cases e
end DL

set_option Elab.async false
set_option linter.all false
set_option maxRecDepth 100000
set_option maxHeartbeats 1000000
/-! sets of texts made of a list, and sorted -/
namespace SX
open PySem PySem.Spec PyProof.Rows L2
def tkey (e : Int × Value) : Str := match e.2 with
  | .str k _ => k
  | _ => ⟨#[]⟩
def TEl (w : World) (e : Int × Value) : Prop := ∃ k tk, e.2 = Value.str k tk ∧ e.1 = hashStr w k
def set0 (w : World) : Obj := { cls := .type "set", dict := none, data := .set #[] 0 (.fresh 0 0 (!w.params.followText "set-order")) }
/-- a set whose members are the texts of l -/
structure TRows (w : World) (l : List Str) (es : Array (Int × Value)) (t : SetTable) : Prop where
  el : ∀ e ∈ es.toList, TEl w e
  nd : (es.toList.map tkey).Nodup
  mem : ∀ k, k ∈ es.toList.map tkey ↔ k ∈ l
  few : es.size < scanBound
  fits : t.fits es.size = true
  ris : Ris t.place.toList
  led : w.params.followText "set-order" = true ∨ t.led = true
def TSet (w : World) (h : Heap) (a : Addr) (l : List Str) : Prop := ∃ o es ep t, h.get? a = some o ∧ o.ExactSet ∧ o.data = .set es ep t ∧ TRows w l es t
section
variable {P : Program} {w : World} {h h' : Heap} {a : Addr} {l : List Str}
theorem TSet.keep (R : TSet w h a l) (k : ∀ o, h.get? a = some o → h'.get? a = some o) : TSet w h' a l := by
  obtain ⟨o, es, ep, t, ho, r⟩ := R
  exact ⟨o, es, ep, t, k o ho, r⟩
theorem el_all {r : List (Int × Value)} (g : ∀ e ∈ r, TEl w e) : ElemsOf (strKind P w) r := fun e he => by
  obtain ⟨k, tk, q1, q2⟩ := g e he
  exact ⟨⟨k, by rw [q1]; exact strKind_is P w k tk, q2⟩, by rw [q1] <;> rfl⟩
theorem el_is {e : Int × Value} (g : TEl w e) (k : Str) : (strKind P w).is k e.2 = true ↔ tkey e = k := by
  obtain ⟨k0, tk, q1, _⟩ := g
  constructor
  · intro z
    have z0 : (strKind P w).is k0 e.2 = true := by rw [q1]; exact strKind_is P w k0 tk
    have := (strKind P w).inj _ _ _ z0 z
    unfold tkey; rw [q1]; exact this
  · intro z
    unfold tkey at z; rw [q1] at z
    rw [q1, ← z]; exact strKind_is P w _ tk
theorem el_mem {r : List (Int × Value)} (g : ∀ e ∈ r, TEl w e) (k : Str) : k ∈ r.map tkey ↔ ∃ e ∈ r, (strKind P w).is k e.2 = true := by
  rw [List.mem_map]
  constructor
  · rintro ⟨e, he, q⟩
    exact ⟨e, he, (el_is (g e he) k).2 q⟩
  · rintro ⟨e, he, q⟩
    exact ⟨e, he, (el_is (g e he) k).1 q⟩
theorem TRows.perm {es es' : Array (Int × Value)} {t t' : SetTable} (R : TRows w l es t) (pm : es'.toList.Perm es.toList) (hf : t'.fits es'.size = true) (hr : Ris t'.place.toList) (hl : w.params.followText "set-order" = true ∨ t'.led = true) : TRows w l es' t' where
  el e he := R.el e (pm.mem_iff.mp he)
  nd := (pm.map tkey).nodup_iff.mpr R.nd
  mem k := (pm.map tkey).mem_iff.trans (R.mem k)
  few := by rw [← Array.length_toList, pm.length_eq, Array.length_toList]; exact R.few
  fits := hf
  ris := hr
  led := hl
theorem TRows.push {es es' : Array (Int × Value)} {t t' : SetTable} {k : Str} {tk : Tok} (R : TRows w l es t) (hk : k ∉ es.toList.map tkey) (pm : es'.toList.Perm ((hashStr w k, Value.str k tk) :: es.toList)) (hb : es.size + 1 < scanBound) (hf : t'.fits es'.size = true) (hr : Ris t'.place.toList) (hl : w.params.followText "set-order" = true ∨ t'.led = true) :
    TRows w (k :: l) es' t' where
  el e he := by
    rcases List.mem_cons.mp (pm.mem_iff.mp he) with z | z
    · rw [z]; exact ⟨k, tk, rfl, rfl⟩
    · exact R.el e z
  nd := (pm.map tkey).nodup_iff.mpr (List.nodup_cons.mpr ⟨hk, R.nd⟩)
  mem j := by
    rw [(pm.map tkey).mem_iff]
    show j ∈ k :: es.toList.map tkey ↔ _
    rw [List.mem_cons, List.mem_cons, R.mem j]
  few := by rw [← Array.length_toList, pm.length_eq, List.length_cons, Array.length_toList]; exact hb
  fits := hf
  ris := hr
  led := hl
end
section
variable {P : Program} {w : World} {A : Around} {E : Value → Shared → Prop} {s : Shared} {a : Addr} {l : List Str}
theorem tail_add {g : Bool → Sem Unit} (hg : ∀ (b : Bool) (s₁ : Shared) (Q' : Unit → Shared → Prop), Q' () s₁ → wpAny (model P w) A (g b) Q' E s₁) {o : Obj} {es : Array (Int × Value)} {ep : Nat} {t : SetTable} (hob : s.heap.get? a = some o) (hex : o.ExactSet) (hdt : o.data = .set es ep t)
    {esn : Array (Int × Value)} {tn : SetTable} (R : TRows w l esn tn) {wasDummy : Bool} {K : Option Bool → Shared → Prop} (hK : ∀ h', Heap.SameBut a s.heap h' → TSet w h' a l → K (some true) { s with heap := h' }) :
    wpAny (model P w) A (do
        storeSet a esn tn
        if (!wasDummy && tn.tooFull) = true then do
            g (relayAll tn esn (SetTable.grown esn.size)).2.2
            storeSet a (relayAll tn esn (SetTable.grown esn.size)).1 (relayAll tn esn (SetTable.grown esn.size)).2.1
            pure (some true)
          else pure (some true)) K E s := by
  refine wpAny_bind (wpAny_storeSet_of hob hdt ?_ (fits_of_scanBound R.few))
  have hob1 := store_at (es' := esn) (t' := tn) hob hdt
  have same1 := Heap.SameBut.update s.heap a (Obj.putSet esn tn)
  split
  · have pm := relayAll_perm tn esn (SetTable.grown esn.size)
    have q1 := relayAll_fits tn esn (SetTable.grown esn.size)
    have q2 := relayAll_ris tn esn (SetTable.grown esn.size)
    have q3 := relayAll_led tn esn (SetTable.grown esn.size)
    generalize relayAll tn esn (SetTable.grown esn.size) = Z at pm q1 q2 q3 ⊢
    obtain ⟨esm, tm, gave⟩ := Z
    dsimp only at pm q1 q2 q3 ⊢
    have R2 : TRows w l esm tm := R.perm pm q1 q2 (R.led.imp id fun z => by rw [q3]; exact z)
    refine wpAny_bind (hg _ _ _ ?_)
    refine wpAny_bind (wpAny_storeSet_of hob1 rfl ?_ (fits_of_scanBound R2.few))
    have hob2 := store_at (es' := esm) (t' := tm) hob1 rfl
    exact wpAny_pure (hK _ (same1.trans (Heap.SameBut.update _ a _)) ⟨_, esm, _, tm, hob2, hex, rfl, R2⟩)
  · exact wpAny_pure (hK _ same1 ⟨_, esn, _, tn, hob1, hex, rfl, R⟩)
theorem add_hashed {k : Str} {tk : Tok} {Q : Bool → Shared → Prop} (R : TSet w s.heap a l) (room : l.length + 1 < scanBound) (nl : ∀ es : Array (Int × Value), (es.toList.map tkey).Nodup → (∀ k, k ∈ es.toList.map tkey ↔ k ∈ l) → es.size ≤ l.length)
    (hQ : ∀ b h', Heap.SameBut a s.heap h' → TSet w h' a (k :: l) → Q b { s with heap := h' }) :
    wpAny (model P w) A (setAddHashed a (.str k tk) ((strKind P w).hash k)) Q E s := by
  obtain ⟨o, es, ep, t, hob, hex, hdt, R⟩ := R
  have isk : (strKind P w).is k (.str k tk) = true := strKind_is P w k tk
  have scn : (Value.str k tk).scannable = true := rfl
  have els : ElemsOf (strKind P w) es.toList := el_all R.el
  have hsz : es.size + 1 < scanBound := by have := nl es R.nd R.mem; omega
  unfold setAddHashed setAddHashedIn
  refine wpAny_holding (wpAny_bind (wpAny_setState_of hob hdt R.fits ?_))
  dsimp only
  rw [byScan_of scn R.few els]
  simp only [↓reduceIte]
  unfold setAddByScan
  refine wpAny_bind ?_
  refine wpAny_bind (wpAny_rule ?_)
  refine wpAny_bind (wpAny_setScan_of isk hob hdt R.fits els ?_)
  cases hfi : List.findIdx? (fun e => (strKind P w).is k e.2) es.toList with
  | some j =>
    dsimp only
    obtain ⟨hj, pj, _⟩ := List.findIdx?_eq_some_iff_getElem.mp hfi
    have kin : k ∈ l := (R.mem k).1 ((el_mem (P := P) R.el k).2 ⟨es.toList[j], List.getElem_mem hj, pj⟩)
    refine wpAny_pure (wpAny_pure ?_)
    refine hQ _ s.heap (Heap.SameBut.refl a s.heap) ⟨o, es, ep, t, hob, hex, hdt, R.el, R.nd, fun i => ?_, R.few, R.fits, R.ris, R.led⟩
    rw [R.mem i, List.mem_cons]
    exact ⟨.inr, fun z => z.elim (fun e => e ▸ kin) id⟩
  | none =>
    dsimp only
    have nin : k ∉ es.toList.map tkey := fun z => by
      obtain ⟨e, he, q⟩ := (el_mem (P := P) R.el k).1 z
      have c := List.findIdx?_eq_none_iff.mp hfi e he
      rw [q] at c
      cases c
    have gw : ∀ (b : Bool) {s₁ : Shared} {Q' : Unit → Shared → Prop}, Q' () s₁ → wpAny (model P w) A (match b with | true => rule "set.scan.the-table-gave-way" | false => pure ()) Q' E s₁ :=
      fun b s₁ Q' q => by cases b <;> first | exact wpAny_pure q | exact wpAny_rule q
    have pm := layNew_perm t es ((strKind P w).hash k) (.str k tk)
    have z1 := layNew_fits t es ((strKind P w).hash k) (.str k tk)
    have z2 := layNew_ris t es ((strKind P w).hash k) (.str k tk) R.ris
    have z3 := layNew_led t es ((strKind P w).hash k) (.str k tk)
    generalize layNew t es ((strKind P w).hash k) (.str k tk) = Z at pm z1 z2 z3 ⊢
    obtain ⟨esn, tn, wasDummy, gave⟩ := Z
    dsimp only at pm z1 z2 z3 ⊢
    rw [Array.toList_push] at pm
    have pc : esn.toList.Perm ((hashStr w k, Value.str k tk) :: es.toList) := pm.trans (List.perm_append_singleton _ _)
    have led2 : w.params.followText "set-order" = true ∨ tn.led = true := R.led.imp id fun z => by rw [z3]; exact z
    have R2 : TRows w (k :: l) esn tn := R.push nin pc hsz z1 z2 led2
    refine wpAny_bind (gw _ ?_)
    split
    · refine wpAny_bind ?_
      rw [hashByValue_scannable 8 scn]
      refine wpAny_pure ?_
      refine tail_add (l := k :: l) ?_ hob hex hdt ?_ ?_
      · intro b s₁ Q' q; cases b <;> first | exact wpAny_pure q | exact wpAny_rule q
      · first | exact R2 | (split <;> first | exact R2 | exact R2.perm (List.Perm.refl _) (SetTable.fits_plain_off z1) z2 led2)
      · intro h' sb r; dsimp only; exact wpAny_pure (hQ _ h' sb r)
    · refine wpAny_bind (wpAny_pure ?_)
      simp only [↓reduceIte]
      refine tail_add (l := k :: l) ?_ hob hex hdt R2 ?_
      · intro b s₁ Q' q; cases b <;> first | exact wpAny_pure q | exact wpAny_rule q
      · intro h' sb r; dsimp only; exact wpAny_pure (hQ _ h' sb r)
end
end SX

set_option Elab.async false
set_option linter.all false
set_option maxRecDepth 100000
set_option maxHeartbeats 3200000
namespace SX
open PySem PySem.Spec PyProof.Rows L2
theorem nodup_le {α : Type} [DecidableEq α] : ∀ {ks l : List α}, ks.Nodup → (∀ k ∈ ks, k ∈ l) → ks.length ≤ l.length
  | [], _, _, _ => Nat.zero_le _
  | k :: ks, l, nd, sub => by
    obtain ⟨h1, h2⟩ := List.nodup_cons.mp nd
    have hk : k ∈ l := sub k List.mem_cons_self
    have := nodup_le (l := l.erase k) h2 fun j hj => by
      have hne : j ≠ k := fun e => h1 (e ▸ hj)
      exact (List.mem_erase_of_ne hne).mpr (sub j (List.mem_cons_of_mem _ hj))
    rw [List.length_erase_of_mem hk] at this
    have : 0 < l.length := List.length_pos_of_mem hk
    simp only [List.length_cons]
    omega
section
variable {P : Program} {w : World} {A : Around} {E : Value → Shared → Prop} {s : Shared} {a : Addr}
theorem update_strs {I : Addr} {fp wr : List Addr} {G : Array GenState → Array GenState → Prop} {n : Nat} {Pv : Nat → Value → Prop} {St : Nat → Shared → Prop} {R : Result → Shared → Prop}
    (W : WalksS P w A.in1 I fp wr G n Pv St) (S : Addr) (hSf : S ∉ fp) (ks : List Str) (hn : n = ks.length) (hfew : ks.length < 64) (hval : ∀ i v, Pv i v → ∃ p tk, ks[i]? = some p ∧ v = .str p tk) :
    ∀ (k i : Nat) (s : Shared), n - i = k → i ≤ n → St i s → TSet w s.heap S (ks.take i).reverse →
      (∀ s', Moved (S :: wr) G s s' → TSet w s'.heap S ks.reverse → R (.ok (.ret .none)) s') →
      codeAny (model P w) A (.builtin "set.update.loop" ⟨[.ref S, .ref I], []⟩) R s := by
  have offw : S ∉ wr := fun h => hSf (W.sub _ h)
  have more : ∀ b ∈ wr, b ∈ S :: wr := fun b hb => List.mem_cons_of_mem _ hb
  intro k
  induction k with
  | zero =>
    intro i s hk hi hst T hR
    have hin : i = n := by omega
    subst hin
    refine codeAny_builtin F.entry_set_update_loop ?_
    rw [Around.under_plainId F.plain_set_update_loop _]
    show wpAny _ A.in1 (pyNext (.ref I) >>= _) _ _ s
    refine wpAny_bind (W.done s _ _ hst fun s' hm => ?_)
    show wpAny _ A.in1 (ret Value.none) _ _ s'
    rw [hn, List.take_length] at T
    exact wpAny_pure (hR s' (hm.mono more) (T.keep fun o e => hm.heap S o offw e))
  | succ k ih =>
    intro i s hk hi hst T hR
    have hlt : i < n := by omega
    refine codeAny_builtin F.entry_set_update_loop ?_
    rw [Around.under_plainId F.plain_set_update_loop _]
    show wpAny _ A.in1 (pyNext (.ref I) >>= _) _ _ s
    refine wpAny_bind (W.item i s _ _ hlt hst fun v s' hP hst' hm => ?_)
    obtain ⟨p, tk, hp, rfl⟩ := hval i v hP
    have T' : TSet w s'.heap S (ks.take i).reverse := T.keep fun o e => hm.heap S o offw e
    show wpAny _ A.in1 (holding [Value.str p tk] (setAdd S (.str p tk)) >>= _) _ _ s'
    refine wpAny_bind (wpAny_holding ?_)
    unfold setAdd
    refine wpAny_holding ?_
    refine wpAny_bind ((strKind P w).pyHash (k := p) (strKind_is P w p tk) ?_)
    have hlen : (ks.take i).reverse.length ≤ 64 := by rw [List.length_reverse, List.length_take]; omega
    refine add_hashed (s := { s' with toks := s'.toks + 1 }) T' (by unfold scanBound; omega) (fun es nd mm => ?_) fun b h' hsb T2 => ?_
    · rw [← Array.length_toList, ← List.length_map (f := tkey)]
      exact nodup_le nd fun k hk => (mm k).1 hk
    · have T3 : TSet w h' S (ks.take (i + 1)).reverse := by
        have : (ks.take (i + 1)).reverse = p :: (ks.take i).reverse := by rw [List.take_add_one, hp]; simp
        rw [this]; exact T2
      refine wpAny_pure ⟨plainId_quiet F.plain_set_update_loop _, ih (i + 1) _ (by omega) hlt (W.frame _ s' _ _ hst' (Nat.le_succ _) fun b hb o e => ?_) T3 fun s'' hm'' T4 => ?_⟩
      · rw [hsb.2 b (fun h : b = S => hSf (by rw [← h]; exact hb))]; exact e
      · refine hR s'' (Moved.trans W.gtrans ((hm.mono more).then_heap (Nat.le_succ _) fun b o hb e => ?_) hm'') T4
        rw [hsb.2 b (fun h : b = S => hb (by rw [h]; exact List.mem_cons_self))]; exact e
theorem tset0 {h : Heap} {a : Addr} (ho : h.get? a = some (set0 w)) : TSet w h a [] :=
  ⟨_, #[], 0, _, ho, ⟨rfl, rfl, rfl⟩, rfl, ⟨fun e he => by simp at he, by simp, fun k => by simp, by decide, by rfl, List.Pairwise.nil, by
    show _ ∨ (!w.params.followText "set-order") = true
    cases w.params.followText "set-order"
    · exact .inr rfl
    · exact .inl rfl⟩⟩
theorem strs_at : ∀ {vs : List Value} {ks : List Str}, StrsAre vs ks → ∀ (i : Nat) (v : Value), vs[i]? = some v → ∃ p tk, ks[i]? = some p ∧ v = .str p tk
  | _, _, .nil, i, v, h => by simp at h
  | _, _, .cons k t r, 0, v, h => by simp at h; exact ⟨k, t, by simp, h.symm⟩
  | _, _, .cons k t r, i + 1, v, h => by simpa using strs_at r i v (by simpa using h)
/-- set(xs) -/
theorem call_set_strs {l : Addr} {items : Array Value} (ks : List Str) {Q : Value → Shared → Prop} (hh : A.handled = none) (hl : s.heap.IsList l items) (hit : StrsAre items.toList ks) (hfew : ks.length < 64)
    (h : ∀ (h' : Heap) (tk : Nat), TSet w h' s.heap.objs.size ks.reverse → (∀ b o, s.heap.get? b = some o → h'.get? b = some o) → Q (.ref s.heap.objs.size) { s with heap := h', toks := tk }) :
    wpAny (model P w) A (call (.type "set") [.ref l]) Q E s := by
  have isz : items.size = ks.length := by
    have q := StrsAre.length hit
    rw [Array.length_toList] at q
    exact q
  obtain ⟨c, tl, hmro⟩ := F.called_set.mro
  have made0 := F.called_set.made
  have sub0 := F.called_set.sub
  refine wpAny_call (codeAny_of_tree ?_)
  show wpAny _ _ (callAny (.type "set") _) _ _ _
  refine wpAny_pure ⟨Code.quiet_builtin _ (by decide +kernel), codeAny_builtin F.entry_type_call ?_⟩
  rw [Around.under_plain (weight_type_call_type "set" [.ref l] []) rfl]
  have nt0 := F.called_set.notType
  have cc0 := F.called_set.canCreate
  have tc0 := F.typeCall_set_1 (.ref l)
  repeat (any_goals (first | assumption | wp_step))
  refine codeAny_mono (code_set_led1 (.ref l) (E := E) (Q₁ := fun obj s₁ => obj = .ref s.heap.objs.size ∧ s₁ = { s with heap := s.heap.push (set0 w) }) ⟨rfl, rfl⟩) fun r s₁ hr => ?_
  cases r with
  | error e => exact hr
  | ok fl =>
    cases fl with
    | ret obj =>
      obtain ⟨rfl, rfl⟩ := hr
      have atS : (s.heap.push (set0 w)).get? s.heap.objs.size = some (set0 w) := Heap.get?_push_size _ rfl
      have tyS : Shared.TypeIs { s with heap := s.heap.push (set0 w) } (.ref s.heap.objs.size) "set" := ⟨_, atS, rfl⟩
      have ini1 := F.called_set.init.lookup
      have ini2 := F.called_set.init.bind (.ref s.heap.objs.size)
      repeat (any_goals (first | assumption | wp_step))
      refine codeAny_mono (codeAny_call_builtin (R := wants (fun r s₂ => r = .none ∧ ∃ h' tk, s₂ = { s with heap := h', toks := tk } ∧ TSet w h' s.heap.objs.size ks.reverse ∧ (∀ b o, s.heap.get? b = some o → h'.get? b = some o)) E) F.called_set.init.plain F.entry_set_init (check_set_init_1 tyS ?_)) fun r₂ s₂ hr₂ => ?_
      · obtain ⟨ol, hol, hcl, nl, hdl⟩ := hl
        obtain ⟨ocls, odict, odata, oslots⟩ := ol
        simp only at hcl hdl
        subst hcl; subst hdl
        have atL : (s.heap.push (set0 w)).get? l = some { cls := .type "list", dict := odict, data := .seq items nl, slots := oslots } := Heap.get?_push_of_some _ hol
        have nsub1 := F.sub_list_set
        have nsub2 := F.sub_list_frozenset
        have ndict : (Value.type "list" == Value.type "dict") = false := by decide
        have lst1 : (s.heap.push (set0 w)).IsList l items := ⟨_, atL, rfl, nl, rfl⟩
        unfold Builtin.«set.__init__» noKeywords Builtin.Frozenset.updateFrom
        generalize hPI : pyIter = PI
        wp_walk
        subst hPI
        refine wpAny_pyIter_list lst1 ?_
        refine wpAny_bind (wpAny_runValue ?_)
        have lS : l < s.heap.objs.size := Heap.lt_size hol
        have hh3 : A.in1.in1.in1.handled = none := by simp [hh]
        have neI : l ≠ (s.heap.push (set0 w)).objs.size := by
          rw [Heap.size_push]; exact Nat.ne_of_lt (Nat.lt_succ_of_lt lS)
        have outS : s.heap.objs.size ∉ [(s.heap.push (set0 w)).objs.size, l] := by
          rw [Heap.size_push]; simp only [List.mem_cons, List.mem_singleton, List.not_mem_nil, or_false, not_or]
          exact ⟨Nat.ne_of_lt (Nat.lt_succ_self _), Nat.ne_of_gt lS⟩
        refine update_strs ((Walks.list hh3 _ l neI items).toS) s.heap.objs.size outS ks isz hfew (fun i v hv => strs_at hit i v (by rw [Array.getElem?_toList]; exact hv)) (items.size - 0) 0 _ (by omega) (Nat.zero_le _)
          ⟨⟨_, Heap.get?_push_size _ rfl, rfl, rfl⟩, (lst1.push _)⟩ (tset0 (Heap.get?_push_of_some _ atS)) fun s' hm T => ?_
        obtain ⟨h', g2, d', tk', os'⟩ := s'
        have eg : g2 = s.gens := hm.gens
        have ed : d' = s.drawn := hm.drawn
        have eo : os' = s.os := hm.os
        subst eg; subst ed; subst eo
        show wpAny _ _ _ _ _ _
        refine wpAny_pure ?_
        show wpAny _ _ (ret Value.none) _ _ _
        refine wpAny_pure ⟨rfl, h', tk', rfl, T, fun b o e => ?_⟩
        have hb : b < s.heap.objs.size := Heap.lt_size e
        have n1 : b ≠ s.heap.objs.size := Nat.ne_of_lt hb
        have n2 : b ≠ (s.heap.push (set0 w)).objs.size := by
          rw [Heap.size_push]; exact Nat.ne_of_lt (Nat.lt_succ_of_lt hb)
        exact hm.heap b o (by simp only [List.mem_cons, List.mem_singleton, List.not_mem_nil, or_false, not_or]; exact ⟨n1, n2⟩) (Heap.get?_push_of_some _ (Heap.get?_push_of_some _ e))
      · cases r₂ with
        | error e => exact hr₂
        | ok fl₂ =>
          cases fl₂ with
          | ret r =>
            obtain ⟨rfl, h', tk, rfl, T, kk⟩ := hr₂
            repeat (any_goals (first | assumption | wp_step))
            exact h _ _ T kk
          | _ => exact hr₂.elim
    | _ => exact hr.elim
end
end SX

set_option Elab.async false
set_option linter.all false
set_option maxRecDepth 100000
set_option maxHeartbeats 1000000
namespace SX
open PySem PySem.Spec PyProof.Rows L2
def dd (l : List Str) : List Str := l.foldr (fun x r => if x ∈ r then r else x :: r) []
theorem dd_mem : ∀ (l : List Str) (x : Str), x ∈ dd l ↔ x ∈ l
  | [], x => Iff.rfl
  | y :: l, x => by
    show x ∈ (if y ∈ dd l then dd l else y :: dd l) ↔ _
    have ih := dd_mem l
    split
    · rename_i hy
      rw [ih, List.mem_cons]
      exact ⟨.inr, fun h => h.elim (fun e => e ▸ (ih y).1 hy) id⟩
    · rw [List.mem_cons, List.mem_cons, ih]
theorem dd_nodup : ∀ l : List Str, (dd l).Nodup
  | [] => List.nodup_nil
  | y :: l => by
    show (if y ∈ dd l then dd l else y :: dd l).Nodup
    split
    · exact dd_nodup l
    · rename_i hy; exact List.nodup_cons.mpr ⟨hy, dd_nodup l⟩
theorem dd_len (l : List Str) : (dd l).length ≤ l.length := nodup_le (dd_nodup l) fun k h => (dd_mem l k).1 h
abbrev leS (x y : Str) : Bool := decide (x.cps.toList ≤ y.cps.toList)
def sortSet (l : List Str) : List Str := (dd l).mergeSort leS
theorem leS_tr (a b c : Str) (h1 : leS a b = true) (h2 : leS b c = true) : leS a c = true := by
  simp only [leS, decide_eq_true_eq] at *; exact List.le_trans h1 h2
theorem leS_tot (a b : Str) : (leS a b || leS b a) = true := by
  simp only [leS, Bool.or_eq_true, decide_eq_true_eq]; exact List.le_total _ _
theorem leS_anti {a b : Str} (h1 : leS a b = true) (h2 : leS b a = true) : a = b := by
  simp only [leS, decide_eq_true_eq] at *
  have : a.cps.toList = b.cps.toList := List.le_antisymm h1 h2
  cases a; cases b; simp_all
theorem srt_uniq {α : Type} {le : α → α → Prop} (anti : ∀ a b, le a b → le b a → a = b) : ∀ {l m : List α}, l.Pairwise le → m.Pairwise le → l.Perm m → l = m
  | [], m, _, _, p => (List.nil_perm.mp p).symm
  | x :: l, [], _, _, p => by have := p.length_eq; simp at this
  | x :: l, y :: m, h1, h2, p => by
    obtain ⟨a1, b1⟩ := List.pairwise_cons.mp h1
    obtain ⟨a2, b2⟩ := List.pairwise_cons.mp h2
    have e : x = y := by
      rcases List.mem_cons.mp (p.mem_iff.mp List.mem_cons_self) with z | z
      · exact z
      · rcases List.mem_cons.mp (p.mem_iff.mpr (List.mem_cons_self (a := y) (l := m))) with z' | z'
        · exact z'.symm
        · exact anti _ _ (a1 _ z') (a2 _ z)
    subst e
    rw [srt_uniq anti b1 b2 ((List.perm_cons x).mp p)]
theorem sort_perm {l m : List Str} (p : l.Perm m) : l.mergeSort leS = m.mergeSort leS :=
  srt_uniq (le := fun a b => leS a b = true) (fun a b => leS_anti) (List.pairwise_mergeSort leS_tr leS_tot l) (List.pairwise_mergeSort leS_tr leS_tot m) (((List.mergeSort_perm l leS).trans p).trans (List.mergeSort_perm m leS).symm)
theorem sortSet_of {ks l : List Str} (nd : ks.Nodup) (h : ∀ k, k ∈ ks ↔ k ∈ l) : ks.mergeSort leS = sortSet l :=
  sort_perm ((List.perm_ext_iff_of_nodup nd (dd_nodup l)).mpr fun k => (h k).trans (dd_mem l k).symm)
theorem sortSet_congr {l m : List Str} (h : ∀ k, k ∈ l ↔ k ∈ m) : sortSet l = sortSet m := sortSet_of (dd_nodup l) fun k => (dd_mem l k).trans (h k)
theorem sortSet_len (l : List Str) : (sortSet l).length ≤ l.length := by unfold sortSet; rw [List.length_mergeSort]; exact dd_len l

section
variable {P : Program} {w : World} {A : Around} {E : Value → Shared → Prop} {s : Shared} {a : Addr}
open PySem.W in
theorem each_strs : ∀ {vs : List Value} {ks : List Str}, StrsAre vs ks → EachIs (fun v b => ∃ t, v = Value.str b t) vs ks
  | _, _, .nil => .nil
  | _, _, .cons k t r => .cons ⟨t, rfl⟩ (each_strs r)
open PySem.W in
theorem strs_each : ∀ {vs : List Value} {ks : List Str}, EachIs (fun v b => ∃ t, v = Value.str b t) vs ks → StrsAre vs ks
  | _, _, .nil => .nil
  | _, _, .cons ⟨t, e⟩ r => by rw [e]; exact .cons _ t (strs_each r)
theorem strs_of : ∀ (vs : List Value), (∀ v ∈ vs, ∃ k tk, v = Value.str k tk) → StrsAre vs (vs.map fun v => tkey (0, v))
  | [], _ => .nil
  | v :: vs, h => by
    obtain ⟨k, tk, rfl⟩ := h v List.mem_cons_self
    exact .cons k tk (strs_of vs fun u hu => h u (List.mem_cons_of_mem _ hu))
open PySem.W in
theorem sorted_tset {l : List Str} {Q : Value → Shared → Prop} (R : TSet w s.heap a l) (hh : A.handled = none) (hu : A.units + 10 < cLine) (h64 : l.length < 64)
    (hQ : ∀ s' p (out : Array Value) (c : Nat), (∀ b o, s.heap.get? b = some o → s'.heap.get? b = some o) → s'.gens = s.gens → s'.os = s.os → s.heap.objs.size ≤ p →
      s'.heap.get? p = some (seqObj "list" out c) → StrsAre out.toList (sortSet l) → Q (.ref p) s') :
    wpAny (model P w) A (call (.builtin "sorted") [.ref a]) Q E s := by
  obtain ⟨o, es, ep, t, ho, hex, hd, R⟩ := R
  have hlen : es.toList.length ≤ l.length := by
    have := nodup_le R.nd fun k hk => (R.mem k).1 hk
    rwa [List.length_map] at this
  refine Calls.call_function_entry kind_sorted plain_sorted entry_sorted (args_sorted1 _) ?_
  unfold Builtin.«sorted»
  refine wpAny_bind (m := checkCount "sorted" 1 1 _) (wpAny_pure ?_)
  refine wpAny_bind (collect_set (A := A.in1) hh ⟨o, ho, hex.1, hd⟩ R.fits R.few R.ris R.led fun s1 vs k1 hz g1 o1 pm => ?_)
  have hvl : vs.length ≤ l.length := by rw [pm.length_eq, List.length_map]; exact hlen
  have hS : StrsAre vs (vs.map fun v => tkey (0, v)) := strs_of vs fun v hv => by
    obtain ⟨e, he, q⟩ := List.mem_map.mp (pm.mem_iff.mp hv)
    obtain ⟨k, tk, q1, _⟩ := R.el e he
    exact ⟨k, tk, by rw [← q]; exact q1⟩
  have pk : (vs.map fun v => tkey (0, v)).Perm (es.toList.map tkey) := by
    have q := pm.map fun v => tkey (0, v)
    rw [List.map_map] at q
    exact q
  have sline : l.length ≤ sizeLine := by rw [sizeLine_eq]; omega
  refine wpAny_bind (wpAny_newList ?_ (Nat.le_trans hvl sline))
  have hoL : (s1.heap.push (seqObj "list" vs.toArray 0)).get? s1.heap.objs.size = some (seqObj "list" vs.toArray 0) := Heap.get?_push_size _ rfl
  refine wpAny_bind (wpAny_holding (list_sort_data (A := A.in1) (s := { s1 with heap := s1.heap.push (seqObj "list" vs.toArray 0) }) (enc := PyData.str) hoL (each_strs hS) ((each_strs hS).mono fun v b ⟨t, e⟩ => ⟨[], by rw [e]; exact .str b t, List.not_mem_nil⟩)
    (AllAlike.of fun _ _ => rfl) (Sortable.others fun b => ⟨by simp, fun xs => by simp⟩) (by rw [List.length_map]; exact Nat.le_trans hvl sline)
    (fun b _ => by show A.units + 1 + 1 + 0 < cLine; omega) fun out hol hout => ?_))
  rw [dataLe_str (fun b : Str => b)] at hout
  obtain ⟨c, hc⟩ := sortedHeap_at (vs := vs) (out := List.toArray out) hoL
  refine wpAny_pure ⟨_, rfl, hQ _ s1.heap.objs.size (List.toArray out) c (fun b u e => ?_) g1 o1 hz hc ?_⟩
  · have q := k1 b u e
    have hlt := Heap.lt_size q
    show (sortedHeap (s1.heap.push (seqObj "list" vs.toArray 0)) s1.heap.objs.size vs _).get? b = some u
    rw [sortedHeap_old (Nat.ne_of_lt hlt) (by rw [size_push']; exact Nat.lt_succ_of_lt hlt)]
    exact Heap.get?_push_of_some _ q
  · have e : (vs.map fun v => tkey (0, v)).mergeSort leS = sortSet l := sortSet_of (pk.nodup_iff.mpr R.nd) fun k => pk.mem_iff.trans (R.mem k)
    rw [← e]
    exact strs_each hout
end
end SX

set_option Elab.async false
set_option linter.all false
set_option maxRecDepth 100000
set_option maxHeartbeats 1000000
namespace SX
open PySem PySem.Spec PyProof.Rows L2
def TSetO (w : World) (a : Addr) (l : List Str) : HO := .ext fun h => TSet w h a l
theorem tsetO_new {P : Program} {w : World} {H : Hp} {h : Heap} {a : Addr} {l : List Str} (R : TSet w h a l) : ObjOk P w H h a (TSetO w a l) := by
  have ⟨o, es, ep, t, ho, r⟩ := R
  exact ⟨R, ⟨o, ho⟩, fun h1 h2 p k => TSet.keep p k⟩
theorem strs_of_vals : ∀ {ks : List Str} {us : List Value}, Vals (ks.map V.str) us → StrsAre us ks
  | [], _, .nil => .nil
  | n :: k, _, .cons r t => by
    obtain ⟨tk, rfl⟩ := r
    exact .cons n tk (strs_of_vals t)
theorem vals_of_strs : ∀ {ks : List Str} {us : List Value}, StrsAre us ks → Vals (ks.map V.str) us
  | _, _, .nil => .nil
  | _, _, .cons n tk t => .cons ⟨tk, rfl⟩ (vals_of_strs t)
section
variable {X : Cx}
def rSetOfS (K : PySem.W.Frag) (w : World) : List V → Hp → VK → Prop := fun xs H Q => ∃ (l : Addr) (ks : List Str), xs = [V.ref l] ∧ SqL K H l (ks.map V.str) ∧ ks.length < 64 ∧ ∀ a, H a = none → Q (.ref a) (upd H a (TSetO w a ks.reverse))
theorem cr_setOfS (hc : X.calm = true) : CallR X (.type "set") (rSetOfS X.K X.w) := by
  intro pins s σ H xs us Q I r h
  obtain ⟨l, ks, rfl, hl, hf, q⟩ := h
  rw [Vals.ref1 r]
  obtain ⟨its, rv, pl, hz⟩ := I.list hl
  refine call_set_strs (P := X.prog) (w := X.w) ks (I.ok.hd hc) pl.isList (by simpa using strs_of_vals rv) hf fun h' tk R k => ?_
  exact ⟨.ref s.heap.objs.size, _, I.laid (t' := tk) k (Nat.le_refl _) (tsetO_new R), rfl, q _ (I.hok.fresh (Nat.le_refl _))⟩
def rSortedS (w : World) : List V → Hp → VK → Prop := fun vs H Q => ∃ (a : Addr) (l : List Str), vs = [V.ref a] ∧ H a = some (TSetO w a l) ∧ l.length < 64 ∧ ∀ p, H p = none → Q (.ref p) (upd H p (.lst ((sortSet l).map V.str)))
theorem cr_sortedS (hc : X.calm = true) (hu : X.A.units + 10 < cLine) : CallR X (.builtin "sorted") (rSortedS X.w) := by
  intro pins s σ H vs us Q I r h
  obtain ⟨a, l, rfl, ha, h64, q⟩ := h
  have R : TSet X.w s.heap a l := (I.hok a _ ha).1
  rw [Vals.ref1 r]
  refine sorted_tset R (I.ok.hd hc) hu h64 fun s' p out c k g o hp hg hout => ?_
  have hn : H p = none := I.hok.fresh hp
  have hlen : ((sortSet l).map V.str).length ≤ sizeLine := by rw [List.length_map, sizeLine_eq]; have := sortSet_len l; omega
  have J : Inv X pins σ (upd H p (.lst ((sortSet l).map V.str))) { s with heap := s'.heap, gens := s'.gens, drawn := s'.drawn, toks := s'.toks } :=
    I.call (ch := []) (Un.laid k hp hn) (I.hok.laid k hp ⟨hlen, out.toList, c, vals_of_strs hout, hg⟩) (by rw [g]; exact I.bare) (fun _ z => nomatch z)
  have e : s' = { s with heap := s'.heap, gens := s'.gens, drawn := s'.drawn, toks := s'.toks } := by
    cases s'; cases s; cases o; rfl
  rw [e]
  exact ⟨.ref p, _, J, rfl, q p hn⟩
end
end SX
namespace DL
open PySem PySem.Spec PyProof.Rows L2 GxR LG
def strsD : List D → Option (List Str)
  | [] => some []
  | .str x :: r => (strsD r).map (x :: ·)
  | _ :: _ => none
theorem strsD_eq : ∀ {ds : List D} {xs : List Str}, strsD ds = some xs → ds = xs.map D.str
  | [], xs, h => by cases h; rfl
  | d :: ds, xs, h => by
    cases d with
    | str x =>
      simp only [strsD] at h
      obtain ⟨ys, h1, rfl⟩ := Option.map_eq_some_iff.mp h
      rw [strsD_eq h1]; rfl
    | _ => cases h
theorem strsD_map : ∀ xs : List Str, strsD (xs.map D.str) = some xs
  | [] => rfl
  | x :: xs => by show (strsD (xs.map D.str)).map _ = _; rw [strsD_map xs]; rfl
theorem strs_of_reps {G : G0} {μ : List Addr} {H : Hp} : ∀ {xs : List Str} {vs : List V}, Reps G μ H (xs.map D.str) vs → vs = xs.map V.str
  | [], _, .nil => rfl
  | x :: xs, _, .cons h t => by cases h; rw [strs_of_reps t]; rfl
def fSortSet (fa : FE) : FE := fun ρ st => (fa ρ st).bind fun p => match p.1 with
  | .ref l => match p.2[l]? with
    | some (.lst ds) => (strsD ds).bind fun xs => if xs.length < 64 then some (.ref p.2.length, p.2 ++ [.lst ((SX.sortSet xs).map D.str)]) else none
    | none => none
  | _ => none
theorem de_sortset {G : G0} {X : Cx} {pos : Pos} {e : Expr} {fa : FE} {k : Nat} {p1 p2 p3 : Pos} (o : On G X) (hr : Room k X.A) (g1 : Gl X "sorted") (g2 : Gl X "set") (h1 : G.mg "sorted" = none) (h2 : G.mg "set" = none) (he : PE X e (lift G fa))
    (hs1 : starEach [e] X.env = (false, eval e X.env) :: starEach [] X.env := by rfl) (hs2 : starEach [.Call (.Name "set" p2) [e] [] p3] X.env = (false, eval (.Call (.Name "set" p2) [e] [] p3) X.env) :: starEach [] X.env := by rfl) (hp1 : (backTo p3 (starEach [] X.env)).any (·.1) = false := by rfl) (hp2 : (backTo pos (starEach [] X.env)).any (·.1) = false := by rfl) :
    PE X (.Call (.Name "sorted" p1) [.Call (.Name "set" p2) [e] [] p3] [] pos) (lift G (fSortSet fa)) := by
  have q1 := pe_callTy (p := p2) (pos := p3) (SX.cr_setOfS o.calm) g2 (by rw [o.mg]; exact h2) (by kernel_rfl) (pa_cons he pa_nil hs1) (by decide) (by decide) hs1 hp1
  have q2 := pe_callB (p := p1) (pos := pos) (SX.cr_sortedS o.calm (by have := hr.un; omega)) g1 (by rw [o.mg]; exact h1) (by kernel_rfl) (pa_cons q1 pa_nil hs2) (by decide) (by decide) hs2 hp2
  refine PE.imp q2 fun σ H Q ⟨ρ, μ, st, d, st', E, S, e, kk⟩ => ?_
  unfold fSortSet at e
  obtain ⟨⟨d1, s1⟩, e1, e⟩ := Option.bind_eq_some_iff.mp e
  simp only at e
  split at e
  · split at e
    · rename_i l ds hl
      obtain ⟨xs, ex, e⟩ := Option.bind_eq_some_iff.mp e
      split at e
      · rename_i hz
        cases e
        refine ⟨ρ, μ, st, _, _, E, S, e1, fun μ1 H1 v X1 S1 R1 => ?_⟩
        cases R1 with
        | ref ha =>
          obtain ⟨vs, u1, u2⟩ := S1.obj _ _ _ hl ha
          have u3 := strsD_eq ex
          subst u3
          have u4 := strs_of_reps u2
          subst u4
          refine ⟨_, xs, rfl, SqL.of u1, hz, fun a hna => ⟨a, xs.reverse, rfl, upd_same, by rw [List.length_reverse]; exact hz, fun p hp => ?_⟩⟩
          have es : SX.sortSet xs.reverse = SX.sortSet xs := SX.sortSet_congr fun k => List.mem_reverse
          rw [es]
          have S2 : StR G μ1 s1 (upd H1 a (SX.TSetO X.w a xs.reverse)) := S1.newT hna
          exact kk _ _ _ ((X1.trans (Ext.new hna)).trans (Ext.newAt hp)) (S2.newL hp (Reps.strs _)) (rep_newL (ds := []) S2)
      · cases e
    · cases e
  · cases e
end DL

set_option Elab.async false
set_option linter.all false
set_option maxRecDepth 100000
set_option maxHeartbeats 1000000
namespace DL
open PySem PySem.Spec PyProof.Rows L2 GxR LG

/-- a context with its names and its scope -/
structure Here (G : G0) (X : Cx) (Ns : List Str) (scp : Scope) : Prop where
  on : On G X
  N : X.N = Ns
  sc : X.env.scope = scp
  nd : Ns.Nodup
section
variable {G : G0} {X : Cx} {N : List Str} {sc : Scope} {pos : Pos} {a b c e tgt : Expr} {es : List Expr} {fa fb fc : FE} {ta tb : FT} {fr : FA}
theorem Here.gl (o : Here G X N sc) {x : Str} (h : sc.names.lookup x = some .globalImplicit) : Gl X x := by
  show X.env.scope.names.lookup x = _
  rw [o.sc]; exact h
theorem Here.ix (o : Here G X N sc) {i : Nat} {x : Str} (h : N[i]? = some x) : X.N[i]? = some x := by rw [o.N]; exact h
theorem Here.ndX (o : Here G X N sc) : X.N.Nodup := by rw [o.N]; exact o.nd
theorem x_var (o : Here G X N sc) (i : Nat) {x : Str} (hN : N[i]? = some x := by rfl) (hv : Vis sc x := by first | exact Or.inl rfl | exact Or.inr (Or.inl rfl) | exact Or.inr (Or.inr rfl)) (hd : (x == ("__debug__" : Str)) = false := by decide)
    (hcd : (x == ("__classdict__" : Str)) = false := by decide) : PE X (.Name x pos) (lift G (fV i)) := de_var i (o.ix hN) (by rw [o.sc]; exact hv) hd hcd
theorem x_gint (o : Here G X N sc) {x : Str} {i : Int} (hm : ∃ t, G.mg x = some (.int i t)) (hg : sc.names.lookup x = some .globalImplicit := by rfl) (hd : (x == ("__debug__" : Str)) = false := by decide) : PE X (.Name x pos) (lift G (fC (.int i))) :=
  let ⟨_, hm⟩ := hm; de_gint (o.gl hg) (by rw [o.on.mg]; exact hm) hd
theorem x_ty (o : Here G X N sc) {T : String} {x : Str} (hm : G.mg x = none) (hv : bootBuiltins x = some (.type T)) (hg : sc.names.lookup x = some .globalImplicit := by rfl) (hn : x ≠ "__name__" := by decide) (hd : (x == ("__debug__" : Str)) = false := by decide) : PE X (.Name x pos) (lift G (fC (.ty T))) :=
  de_ty o.on (o.gl hg) hm hv hn hd
theorem x_add (o : Here G X N sc) (ha : PE X a (lift G fa)) (hb : PE X b (lift G fb)) : PE X (.BinOp a .Add b pos) (lift G (fOp addD fa fb)) := de_op (do_add o.on) ha hb
theorem x_sub (o : Here G X N sc) (ha : PE X a (lift G fa)) (hb : PE X b (lift G fb)) : PE X (.BinOp a .Sub b pos) (lift G (fOp subD fa fb)) := de_op do_sub ha hb
theorem x_mul (o : Here G X N sc) (ha : PE X a (lift G fa)) (hb : PE X b (lift G fb)) : PE X (.BinOp a .Mult b pos) (lift G (fOp mulD fa fb)) := de_op do_mul ha hb
theorem x_fdiv (o : Here G X N sc) (ha : PE X a (lift G fa)) (hb : PE X b (lift G fb)) : PE X (.BinOp a .FloorDiv b pos) (lift G (fOp fdivD fa fb)) := de_op do_fdiv ha hb
theorem x_mod (o : Here G X N sc) (ha : PE X a (lift G fa)) (hb : PE X b (lift G fb)) : PE X (.BinOp a .Mod b pos) (lift G (fOp modD fa fb)) := de_op do_mod ha hb
theorem x_pow (o : Here G X N sc) (ha : PE X a (lift G fa)) (hb : PE X b (lift G fb)) : PE X (.BinOp a .Pow b pos) (lift G (fOp powD fa fb)) := de_op do_pow ha hb
theorem x_ix (o : Here G X N sc) (ha : PE X a (lift G fa)) (hb : PE X b (lift G fb)) (hs : PlainIx b := by exact fun _ _ => rfl) : PE X (.Subscript a b pos) (lift G (fOp (ixG G) fa fb)) := de_ix (do_ix o.on) ha hb hs
theorem x_slice (o : Here G X N sc) {lo hi : Option Expr} {p2 : Pos} {fl fu : FO} (he : PE X e (lift G fa)) (hl : PO X lo (liftO G fl)) (hu : PO X hi (liftO G fu)) : PE X (.Subscript e (.Slice lo hi none p2) pos) (lift G (fSl fa fl fu)) := de_slice o.on he hl hu
/-- built-in functions by their names -/
theorem x_bi (o : Here G X N sc) {id : String} {x : Str} {p : Pos} {h : HA} (hc : CallR X (.builtin id) (rDA G h)) (hm : G.mg x = none) (hv : bootBuiltins x = some (.builtin id)) (ha : PA X (e :: es) (liftA G fr)) (hg : sc.names.lookup x = some .globalImplicit := by rfl)
    (hn : x ≠ "__name__" := by decide) (hdb : (x == ("__debug__" : Str)) = false := by decide)
    (he : starEach (e :: es) X.env = (false, eval e X.env) :: starEach es X.env := by rfl) (hpl : (backTo pos (starEach es X.env)).any (·.1) = false := by rfl) : PE X (.Call (.Name x p) (e :: es) [] pos) (lift G (fCall h fr)) := de_callB o.on hc (o.gl hg) hm hv ha hn hdb he hpl
theorem x_bt (o : Here G X N sc) {T : String} {x : Str} {p : Pos} {h : HA} (hc : CallR X (.type T) (rDA G h)) (hm : G.mg x = none) (hv : bootBuiltins x = some (.type T)) (ha : PA X (e :: es) (liftA G fr)) (hg : sc.names.lookup x = some .globalImplicit := by rfl)
    (hn : x ≠ "__name__" := by decide) (hdb : (x == ("__debug__" : Str)) = false := by decide)
    (he : starEach (e :: es) X.env = (false, eval e X.env) :: starEach es X.env := by rfl) (hpl : (backTo pos (starEach es X.env)).any (·.1) = false := by rfl) : PE X (.Call (.Name x p) (e :: es) [] pos) (lift G (fCall h fr)) := de_callTy o.on hc (o.gl hg) hm hv ha hn hdb he hpl
theorem x_call (o : Here G X N sc) {k n : Nat} {x : Str} {fn : HA} {p : Pos} (F : Def G k x n fn) (hr : Room k X.A) (ha : PA X (e :: es) (liftA G fr)) (hg : sc.names.lookup x = some .globalImplicit := by rfl) (hdb : (x == ("__debug__" : Str)) = false := by decide)
    (he : starEach (e :: es) X.env = (false, eval e X.env) :: starEach es X.env := by rfl) (hpl : (backTo pos (starEach es X.env)).any (·.1) = false := by rfl) : PE X (.Call (.Name x p) (e :: es) [] pos) (lift G (fFn n fn fr)) := de_call o.on F hr (o.gl hg) ha hdb he hpl
theorem x_isiT (o : Here G X N sc) {Ts : List String} {cs : List Expr} {j : Nat} {p q : Pos} (hm : G.mg "isinstance" = none) (ha : PE X a (lift G fa)) (hc : PA X cs (tTys Ts)) (hg : sc.names.lookup ("isinstance" : Str) = some NameKind.globalImplicit := by rfl) (hz : Ts.length ≤ 100 := by decide)
    (he : starEach [a, .Tuple cs j q] X.env = (false, eval a X.env) :: starEach [.Tuple cs j q] X.env := by rfl) (he2 : starEach [.Tuple cs j q] X.env = (false, eval (.Tuple cs j q) X.env) :: starEach [] X.env := by rfl) (hpl : (backTo pos (starEach [.Tuple cs j q] X.env)).any (·.1) = false := by rfl) :
    PE X (.Call (.Name "isinstance" p) [a, .Tuple cs j q] [] pos) (lift G (fIsiT Ts fa)) := de_isiT o.on (o.gl hg) hm ha hc hz he he2 hpl
theorem x_tys (o : Here G X N sc) {T : String} {Ts : List String} {x : Str} (hm : G.mg x = none) (hv : bootBuiltins x = some (.type T)) (ht : PA X es (tTys Ts)) (hg : sc.names.lookup x = some .globalImplicit := by rfl) (hs : starEach (.Name x pos :: es) X.env = (false, eval (.Name x pos) X.env) :: starEach es X.env := by rfl)
    (hn : x ≠ "__name__" := by decide) (hd : (x == ("__debug__" : Str)) = false := by decide) : PA X (.Name x pos :: es) (tTys (T :: Ts)) := dy_cons o.on (o.gl hg) hm hv ht hs hn hd
/-! statements -/
theorem x_set (o : Here G X N sc) (i : Nat) {x : Str} {pos' : Pos} (he : PE X e (lift G fa)) (hi : N[i]? = some x := by rfl) (hx : Loc sc x := by first | exact Or.inl rfl | exact Or.inr rfl) (hs : swapsWith e (some (.Name x pos')) pos.line X.env = pure false := by rfl)
    (hf : X.fn x = true ∨ X.env.scope.names.lookup x = some .local := by first | exact .inl rfl | exact .inr rfl | assumption) : PS X (.Assign [.Name x pos'] e pos) (liftS G (sSet i fa)) := ds_set o.ndX (o.ix hi) (by rw [o.sc]; exact hx) he hs hf
theorem x_tg1 (o : Here G X N sc) (i : Nat) {x : Str} (hi : N[i]? = some x := by rfl) (hx : Loc sc x := by first | exact Or.inl rfl | exact Or.inr rfl) (hf : X.fn x = true ∨ sc.names.lookup x = some .local := by first | exact .inr rfl | exact .inl rfl) : PG X (.Name x pos) (gOf G.K (.one i)) :=
  dg_name o.ndX (o.ix hi) (by rw [o.sc]; exact hx) (by rw [o.sc]; exact hf)
theorem x_tgs (o : Here G X N sc) (i : Nat) {is : List Nat} {x : Str} (h2 : PGs X es (gMany is)) (hi : N[i]? = some x := by rfl) (hx : Loc sc x := by first | exact Or.inl rfl | exact Or.inr rfl) (hf : X.fn x = true ∨ sc.names.lookup x = some .local := by first | exact .inr rfl | exact .inl rfl)
    (ha : (assignEach (.Name x pos :: es) X.env).map (·.2) = assign (.Name x pos) X.env :: (assignEach es X.env).map (·.2) := by rfl) : PGs X (.Name x pos :: es) (gMany (i :: is)) := dgs_cons o.ndX (o.ix hi) (by rw [o.sc]; exact hx) h2 (by rw [o.sc]; exact hf) ha
theorem x_tgm (o : Here G X N sc) {k : Nat} {is : List Nat} (h : PGs X es (gMany is)) (hn : (assignEach es X.env).length = is.length := by rfl) (hst : (assignEach es X.env).findIdx? (·.1) = none := by rfl) : PG X (.Tuple es k pos) (gOf G.K (.many is)) := dg_tup o.on h hn hst
theorem x_par2 (o : Here G X N sc) (i j : Nat) {x y : Str} {px py pt : Pos} {kt k2 : Nat} {pt2 : Pos} (ha : PA X [a, b] (liftA G fr)) (hi : N[i]? = some x := by rfl) (hj : N[j]? = some y := by rfl) (hij : i ≠ j := by decide)
    (hx : sc.names.lookup x = some .local := by rfl) (hy : sc.names.lookup y = some .local := by rfl)
    (hw : swappedStores [.Tuple [.Name x px, .Name y py] kt pt] (.Tuple [a, b] k2 pt2) X.env = pure (some [x, y]) := by rfl)
    (hs : swapsWithSole [.Tuple [.Name x px, .Name y py] kt pt] (.Tuple [a, b] k2 pt2) pos.line X.env = pure false := by rfl) :
    PS X (.Assign [.Tuple [.Name x px, .Name y py] kt pt] (.Tuple [a, b] k2 pt2) pos) (liftS G (sPar [i, j] fr)) := ds_par2 o.on o.ndX (o.ix hi) (o.ix hj) hij (by rw [o.sc]; exact hx) (by rw [o.sc]; exact hy) ha hw hs
theorem x_par3 (o : Here G X N sc) (i j l : Nat) {x y z : Str} {px py pz pt : Pos} {kt k2 : Nat} {pt2 : Pos} (ha : PA X [a, b, c] (liftA G fr)) (hi : N[i]? = some x := by rfl) (hj : N[j]? = some y := by rfl) (hl : N[l]? = some z := by rfl) (hij : i ≠ j := by decide) (hil : i ≠ l := by decide) (hjl : j ≠ l := by decide)
    (hx : sc.names.lookup x = some .local := by rfl) (hy : sc.names.lookup y = some .local := by rfl) (hz : sc.names.lookup z = some .local := by rfl)
    (hw : swappedStores [.Tuple [.Name x px, .Name y py, .Name z pz] kt pt] (.Tuple [a, b, c] k2 pt2) X.env = pure (some [x, y, z]) := by rfl)
    (hs : swapsWithSole [.Tuple [.Name x px, .Name y py, .Name z pz] kt pt] (.Tuple [a, b, c] k2 pt2) pos.line X.env = pure false := by rfl) :
    PS X (.Assign [.Tuple [.Name x px, .Name y py, .Name z pz] kt pt] (.Tuple [a, b, c] k2 pt2) pos) (liftS G (sPar [i, j, l] fr)) := ds_par3 o.on o.ndX (o.ix hi) (o.ix hj) (o.ix hl) hij hil hjl (by rw [o.sc]; exact hx) (by rw [o.sc]; exact hy) (by rw [o.sc]; exact hz) ha hw hs
variable {fi : FI} {iter : Expr} {tg : Tg} {body : List Stmt} {sb : FS}
theorem x_for (o : Here G X N sc) (hi : PI X tgt iter (liftI G fi)) (hg : PG X tgt (gOf G.K tg)) (hb : PSs X body (liftS G sb)) (hp : PassesOwn (model X.prog X.w) X.A X.env X.xe := by exact PassesOwn.never)
    (hs : ∀ x, foldedSetIterable iter X.env x = pure x := by intro _; rfl) : PS X (.For tgt iter body [] pos) (liftS G (sFor fi tg sb)) := ds_for hp o.on hi hg hb hs
theorem x_in (o : Here G X N sc) (h : PE X e (lift G fa)) : PI X tgt e (liftI G (iSeq fa)) := di_seq o.on h
theorem x_rng1 (o : Here G X N sc) {p : Pos} (hm : G.mg "range" = none) (ha : PA X [a] (liftA G fr)) (hg : sc.names.lookup ("range" : Str) = some NameKind.globalImplicit := by rfl) (hs : starEach [a] X.env = [(false, eval a X.env)] := by rfl) : PI X tgt (.Call (.Name "range" p) [a] [] pos) (liftI G (iRange1 fr)) := di_range1 (o.gl hg) (by rw [o.on.mg]; exact hm) ha hs
theorem x_rng2 (o : Here G X N sc) {p : Pos} (hm : G.mg "range" = none) (ha : PA X [a, b] (liftA G fr)) (hg : sc.names.lookup ("range" : Str) = some NameKind.globalImplicit := by rfl) (hs : starEach [a, b] X.env = [(false, eval a X.env), (false, eval b X.env)] := by rfl) (hs2 : starEach [b] X.env = [(false, eval b X.env)] := by rfl) :
    PI X tgt (.Call (.Name "range" p) [a, b] [] pos) (liftI G (iRange2 fr)) := di_range2 (o.gl hg) (by rw [o.on.mg]; exact hm) ha hs hs2
theorem x_zip (o : Here G X N sc) {e2 : Expr} {p tpos : Pos} {elts : List Expr} {kk : Nat} (hm : G.mg "zip" = none) (ha : PA X [e, e2] (liftA G fr)) (hg : sc.names.lookup ("zip" : Str) = some NameKind.globalImplicit := by rfl)
    (hs : starEach [e, e2] X.env = (false, eval e X.env) :: starEach [e2] X.env := by rfl) (hpl : (backTo pos (starEach [e2] X.env)).any (·.1) = false := by rfl) : PI X (.Tuple elts kk tpos) (.Call (.Name "zip" p) [e, e2] [] pos) (liftI G (iZipD fr)) := di_zip o.on (o.gl hg) hm ha hs hpl
/-! comprehensions, all -/
def reS (scope sc : Scope) : Scope := { scope with names := scope.names.map fun (n, k) => if (k == NameKind.free && sc.kind == .function && sc.names.lookup n == some .cell) then (n, NameKind.cell) else (n, k) }
theorem Here.blk (o : Here G X N sc) {s : Shared} {H : Hp} {scope : Scope} {cl : List (Str × Addr)} {C : Addr} {fp : List Addr} : Here G (X.blk s H scope (compEnvC scope cl C X.env) fp) N (reS scope sc) := ⟨o.on.blk, o.N, by rw [← o.sc]; rfl, o.nd⟩
theorem x_lc (o : Here G X N sc) {elt : Expr} {ifs : List Expr} {scope : Scope} (own : List (Str × Nat)) {tt : FT} {fe : FE} (hi : PI X tgt iter (liftI G fi))
    (hg : ∀ X', Here G X' N (reS scope sc) → X'.A = X.A → PG X' tgt (gOf G.K tg)) (ht : ∀ X', Here G X' N (reS scope sc) → X'.A = X.A → PTs X' ifs (liftT G tt)) (he : ∀ X', Here G X' N (reS scope sc) → X'.A = X.A → PE X' elt (lift G fe))
    (ok : BlkOk N sc scope own := by exact blkOk_by (by decide +kernel)) (hin : ∀ i ∈ tg.ins, i ∈ own.map (·.2) := by decide) (hs : ∀ x, foldedSetIterable iter X.env x = pure x := by intro _; rfl) :
    PE X (.ListComp elt [⟨tgt, iter, ifs, 0⟩] scope pos) (lift G (fLc fi tg tt fe (own.map (·.2)))) :=
  de_lc o.on o.ndX hi (by rw [o.N, o.sc]; exact ok) (fun _ _ _ _ _ => hg _ o.blk rfl) (fun _ _ _ _ _ => ht _ o.blk rfl) (fun _ _ _ _ _ => he _ o.blk rfl) hin hs
theorem x_setLc (o : Here G X N sc) (i : Nat) {y : Str} {py spos : Pos} {elt : Expr} {ifs : List Expr} {scope : Scope} (own : List (Str × Nat)) {tt : FT} {fe : FE} (hi : PI X tgt iter (liftI G fi))
    (hg : ∀ X', Here G X' N (reS scope sc) → X'.A = X.A → PG X' tgt (gOf G.K tg)) (ht : ∀ X', Here G X' N (reS scope sc) → X'.A = X.A → PTs X' ifs (liftT G tt)) (he : ∀ X', Here G X' N (reS scope sc) → X'.A = X.A → PE X' elt (lift G fe))
    (hsw : swapsWith (.ListComp elt [⟨tgt, iter, ifs, 0⟩] scope pos) (some (.Name y py)) spos.line X.env = pure true := by exact sw_true rfl rfl rfl (by decide +kernel))
    (hy : N[i]? = some y := by rfl) (hyl : sc.names.lookup y = some .local := by rfl)
    (ok : BlkOk N sc scope own := by exact blkOk_by (by decide +kernel)) (hin : ∀ i ∈ tg.ins, i ∈ own.map (·.2) := by decide) (hs : ∀ x, foldedSetIterable iter X.env x = pure x := by intro _; rfl) :
    PS X (.Assign [.Name y py] (.ListComp elt [⟨tgt, iter, ifs, 0⟩] scope pos) spos) (liftS G (sSet i (fLc fi tg tt fe (own.map (·.2))))) :=
  ds_setLc o.on o.ndX (o.ix hy) (by rw [o.sc]; exact hyl) hsw hi (by rw [o.N, o.sc]; exact ok) (fun _ _ _ _ _ => hg _ o.blk rfl) (fun _ _ _ _ _ => ht _ o.blk rfl) (fun _ _ _ _ _ => he _ o.blk rfl) hin hs
/-- the scope of a generator expression, by its names alone -/
def gscB (sc scope : Scope) : Bool := (scope.kind == .function) && !scope.isCoroutine && scope.names.all (fun y => y.2 != .cell) && (scope.names.lookup (".0" : Str) == some NameKind.local) && scope.names.all fun y => y.2 != .free || (sc.names.lookup y.1 == some .cell) || (sc.names.lookup y.1 == some .free)
theorem x_all (o : Here G X N sc) {cc P : Addr} {elt : Expr} {p gpos : Pos} {scope : Scope} {fe : FE} {k : Nat} (N' : List Str) (cap : List (Option Nat)) (hP : P ∈ G.Ps)
    (hr : Room (k + 1) X.A) (hm : G.mg "all" = none) (TB : TabB G.base G.mg cc P) (hcode : X.env.code = .ref cc) (hi : PI X tgt iter (liftI G fi))
    (hgt : ∀ X', Here G X' N' scope → Room k X'.A → PG X' tgt (gOf G.K tg)) (hel : ∀ X', Here G X' N' scope → Room k X'.A → PE X' elt (lift G fe))
    (S : GSc X.env scope) (hnd : N'.Nodup := by decide) (hcl : cap.length = N'.length := by rfl)
    (hcap : ∀ (i : Nat) (x : Str) (j : Nat), N'[i]? = some x → cap[i]? = some (some j) → scope.names.lookup x = some .free ∧ N[j]? = some x ∧ (sc.names.lookup x = some .cell ∨ sc.names.lookup x = some .free))
    (hg : sc.names.lookup ("all" : Str) = some NameKind.globalImplicit := by rfl)
    (hs : ∀ v, genFold iter X.env v = pure v := by intro _; rfl)
    (he : starEach [.GeneratorExp elt [⟨tgt, iter, [], 0⟩] scope gpos] X.env = (false, eval (.GeneratorExp elt [⟨tgt, iter, [], 0⟩] scope gpos) X.env) :: starEach [] X.env := by rfl) :
    PE X (.Call (.Name "all" p) [.GeneratorExp elt [⟨tgt, iter, [], 0⟩] scope gpos] [] pos) (lift G (fAllG fi tg fe cap)) :=
  de_all o.on hP hr (o.gl hg) hm TB hcode S hi hcl (fun i x j h1 h2 => by
    obtain ⟨q1, q2, q3⟩ := hcap i x j h1 h2
    refine ⟨q1, o.ix q2, ?_⟩
    show X.env.scope.names.lookup x = _ ∨ X.env.scope.names.lookup x = _
    rw [o.sc]; exact q3) (fun X' h => hgt X' ⟨o.on.inner h, h.N, h.scope, hnd⟩ h.room) (fun X' h => hel X' ⟨o.on.inner h, h.N, h.scope, hnd⟩ h.room) hs he
end
end DL
namespace DL
open PySem PySem.Spec PyProof.Rows L2 GxR LG
/-- a def of the text as the top has left it -/
structure FnAt (G : G0) (name : Str) (st : Stmt) (cdv : Value) : Prop where
  ex : ∃ (f : Addr) (oc : Value) (od : Option Addr) (kV doc pm : Value) (an : Option Addr) (ct : Value) (osl : Array (Option Value)),
    G.K.lookup f = some ⟨oc, od, .func (PySem.W.fnOf name name (defArgs st) (defBody st) (defScope st) .none kV doc pm an cdv ct), osl⟩ ∧ PySem.W.codeIn G.K cdv name = true ∧ G.mg name = some (.ref f) ∧ PySem.W.keepIn G.K (.ref f) = true
section
variable {G : G0}
theorem def_at {k : Nat} {name : Str} {st : Stmt} {cdv : Value} {N ps : List Str} {sb : FS} (F : FnAt G name st cdv) (S : FnScope N ps (defScope st))
    (hb : ∀ (kV doc pm : Value) (an : Option Addr) (ct : Value) (us : List Value), us.length = ps.length → bindArgs (PySem.W.fnOf name name (defArgs st) (defBody st) (defScope st) .none kV doc pm an cdv ct) ⟨us, []⟩ = pure (ps.zip us))
    (hbody : ∀ (f : Addr) (A : Around) (outer : List Env) (s : Shared) (H : Hp), Here G (bodyCx G N name (defScope st) f cdv A outer s H) N (defScope st) → Room k (bodyCx G N name (defScope st) f cdv A outer s H).A →
      (∀ x : Str, (defScope st).names.lookup x = some .cell → ∃ c, (bodyCx G N name (defScope st) f cdv A outer s H).env.cells.lookup x = some c) → PSs (bodyCx G N name (defScope st) f cdv A outer s H) (defBody st) (liftS G sb)) : Def G (k + 1) name ps.length (runD N.length sb) := by
  obtain ⟨f, oc, od, kV, doc, pm, an, ct, osl, lk, hcd, hm, hk⟩ := F.ex
  refine def_of lk hcd S hm hk (hb kV doc pm an ct) fun A outer s H hr => ?_
  exact hbody f A outer s H ⟨On.body, rfl, rfl, S.nd⟩ hr fun x h => cell_has h
theorem gsc_by {X : Cx} {N : List Str} {sc scope : Scope} (o : Here G X N sc) (hc : ∀ x : Str, sc.names.lookup x = some .cell → ∃ c, X.env.cells.lookup x = some c)
    (h : ((scope.kind == .function) && !scope.isCoroutine && scope.names.all (fun y => y.2 != .cell) && (scope.names.lookup (".0" : Str) == some NameKind.local) && scope.names.all fun y => y.2 != .free || (sc.names.lookup y.1 == some .cell)) = true) : GSc X.env scope := by
  simp only [Bool.and_eq_true, List.all_eq_true] at h
  obtain ⟨⟨⟨⟨h1, h2⟩, h3⟩, h4⟩, h5⟩ := h
  refine ⟨eq_of_beq h1, by simpa using h2, fun y hy => by simpa using h3 y hy, eq_of_beq h4, fun y hy e => ?_⟩
  have q := h5 y hy
  rw [e] at q
  have q2 : (sc.names.lookup y.1 == some NameKind.cell) = true := by simpa using q
  exact hc y.1 (eq_of_beq q2)
end
end DL
namespace DL
open PySem PySem.Spec PyProof.Rows L2 GxR LG
theorem capNone (cap : List (Option Nat)) (h : cap.all (·.isNone) = true) (i j : Nat) : ¬ cap[i]? = some (some j) := fun e => by
  have q := List.all_eq_true.mp h (some j) (List.mem_of_getElem? e)
  cases q
section
variable {G : G0}
theorem def_never {k : Nat} {name : Str} {st : Stmt} {cdv : Value} {N ps : List Str} (F : FnAt G name st cdv) (S : FnScope N ps (defScope st))
    (hb : ∀ (kV doc pm : Value) (an : Option Addr) (ct : Value) (us : List Value), us.length = ps.length → bindArgs (PySem.W.fnOf name name (defArgs st) (defBody st) (defScope st) .none kV doc pm an cdv ct) ⟨us, []⟩ = pure (ps.zip us)) : Def G k name ps.length (fun _ _ => none) := by
  obtain ⟨f, oc, od, kV, doc, pm, an, ct, osl, lk, hcd, hm, hk⟩ := F.ex
  have no : ∀ vs H Q E, ¬ spD G ps.length (fun _ _ => none) vs H Q E := fun vs H Q E h => by
    obtain ⟨μ, st, ds, d, st', _, _, _, e, _⟩ := h
    cases e
  exact ⟨f, _, ps, rfl, ⟨fun vs H Q E h => absurd h (no vs H Q E), fun A outer s H args us vs Q E _ _ _ _ h => absurd h (no vs H Q E)⟩, hm, hk, .all (hb kV doc pm an ct)⟩
/-! a tuple read backwards, the texts of a list in their order -/
section
variable {X : Cx} {N : List Str} {sc : Scope} {pos : Pos} {e : Expr} {fa : FE}
theorem x_rev (o : Here G X N sc) {k : Nat} {p1 p2 p3 : Pos} (he : PE X e (lift G fa)) : PE X (.Subscript e (.Slice none none (some (.UnaryOp .USub (.Constant (.int 1) k p1) p2)) p3) pos) (lift G (fRev fa)) := de_rev o.on he
theorem x_sortset (o : Here G X N sc) {k : Nat} {p1 p2 p3 : Pos} (hr : Room k X.A) (h1 : G.mg "sorted" = none) (h2 : G.mg "set" = none) (he : PE X e (lift G fa)) (hg1 : sc.names.lookup ("sorted" : Str) = some NameKind.globalImplicit := by rfl) (hg2 : sc.names.lookup ("set" : Str) = some NameKind.globalImplicit := by rfl)
    (hs1 : starEach [e] X.env = (false, eval e X.env) :: starEach [] X.env := by rfl) (hs2 : starEach [.Call (.Name "set" p2) [e] [] p3] X.env = (false, eval (.Call (.Name "set" p2) [e] [] p3) X.env) :: starEach [] X.env := by rfl) (hp1 : (backTo p3 (starEach [] X.env)).any (·.1) = false := by rfl) (hp2 : (backTo pos (starEach [] X.env)).any (·.1) = false := by rfl) :
    PE X (.Call (.Name "sorted" p1) [.Call (.Name "set" p2) [e] [] p3] [] pos) (lift G (fSortSet fa)) := de_sortset o.on hr (o.gl hg1) (o.gl hg2) h1 h2 he hs1 hs2 hp1 hp2
end
end
end DL
namespace DL
open PySem PySem.Spec PyProof.Rows L2 GxR LG
theorem fn_at {G : G0} {k : Nat} {f : Addr} {name : Str} {st : Stmt} {kV doc pm cdv ct oc : Value} {an od : Option Addr} {osl : Array (Option Value)} {N ps : List Str} {sb : FS}
    (lk : G.K.lookup f = some ⟨oc, od, .func (PySem.W.fnOf name name (defArgs st) (defBody st) (defScope st) .none kV doc pm an cdv ct), osl⟩) (hcd : PySem.W.codeIn G.K cdv name = true) (S : FnScope N ps (defScope st))
    (hbody : ∀ (f : Addr) (A : Around) (outer : List Env) (s : Shared) (H : Hp), Here G (bodyCx G N name (defScope st) f cdv A outer s H) N (defScope st) → Room k (bodyCx G N name (defScope st) f cdv A outer s H).A →
      (∀ x : Str, (defScope st).names.lookup x = some .cell → ∃ c, (bodyCx G N name (defScope st) f cdv A outer s H).env.cells.lookup x = some c) → PSs (bodyCx G N name (defScope st) f cdv A outer s H) (defBody st) (liftS G sb)) :
    FnOk G.P G.w G.K G.mg G.base CX0 (k + 1) f (PySem.W.fnOf name name (defArgs st) (defBody st) (defScope st) .none kV doc pm an cdv ct) ps (spD G ps.length (runD N.length sb)) :=
  fn_data lk hcd S fun A outer s H hr => hbody f A outer s H ⟨On.body, rfl, rfl, S.nd⟩ hr fun x h => cell_has h
end DL

set_option Elab.async false
set_option linter.all false
set_option maxRecDepth 100000
set_option maxHeartbeats 1000000
/-! the law's end over the data layer -/
namespace DL
open PySem PySem.Spec PyProof.Rows L2 GxR LG
/-- what the law is asked: any script of at most 63 ints, each of at most a million bits -/
def spLaw (K : PySem.W.Frag) (cs : List (Addr × Addr)) : Sp := fun vs H Q _ => ∃ (a : Addr) (ns : List Int), vs = [.ref a] ∧ SqL K H a (ns.map V.int) ∧ ns.length ≤ 63 ∧ (∀ z ∈ ns, Builtin.Int.intBits z ≤ 1048576) ∧ (∀ p ∈ cs, H p.2 = some (.tbl #[])) ∧ ∀ H', Q (.bl true) H'
theorem law_fn {P : Program} {w : World} {K : PySem.W.Frag} {mg : Str → Option Value} {base : Heap} {k : Nat} {fa : Addr} {fd : FuncData} {cs : List (Addr × Addr)}
    (h : ∀ (a : Addr) (ns : List Int), ns.length ≤ 63 → (∀ z ∈ ns, Builtin.Int.intBits z ≤ 1048576) → ∃ fn st', FnOk P w K mg base CX0 k fa fd ["script"] (spD ⟨P, w, mg, base, K, cs.map (·.2), a, ns⟩ 1 fn) ∧ fn [.scr] [] = some (.bl true, st')) :
    FnOk P w K mg base CX0 k fa fd ["script"] (spLaw K cs) := by
  refine ⟨fun vs H Q E hs => ?_, fun A outer s H args us vs Q E hr e0 hb r hs => ?_⟩
  · obtain ⟨a, ns, rfl, _⟩ := hs
    rfl
  · obtain ⟨a, ns, rfl, hS, hl, hbits, ht, q⟩ := hs
    obtain ⟨fn, st', F, e⟩ := h a ns hl hbits
    refine F.run A outer s H args us [.ref a] Q E hr e0 hb r ⟨[], [], [.scr], .bl true, st', rfl, ?_, .cons .scr .nil, e, fun μ' H' v _ _ R => ?_⟩
    · refine ⟨rfl, fun l o b h1 => by simp at h1, List.nodup_nil, fun P hP => ?_, ?_⟩
      · obtain ⟨p, hp, rfl⟩ := List.mem_map.mp hP
        exact ⟨#[], ht p hp, trivial⟩
      · rcases hS with z | z
        · exact .inr ⟨z, by simp⟩
        · exact .inl z
    · cases R
      exact q H'
/-- a def of the head's facts -/
theorem fnAt_of {G : G0} {name : Str} {st : Stmt} {h : Heap} (X : G.K.In h) (Gs : h.Ns mainGlobals G.mg) {fd : FuncData} (F : FunD G.K name name (defArgs st) (defBody st) (defScope st) [] [] (He.ga G.K name) fd) (hg : (He.Fa.glo name).ok G.K = true) : ∃ cdv, FnAt G name st cdv ∧ fd.code = cdv := by
  obtain ⟨oc, od, dV, kV, doc, pm, an, cdv, ct, osl, rfl, lk, hcd, hd, hk⟩ := F.ex
  rcases hd with ⟨_, rfl⟩ | ⟨z, _⟩
  · exact ⟨cdv, ⟨_, oc, od, kV, doc, pm, an, ct, osl, lk, hcd, He.glo_ok X Gs hg, F.kp⟩, rfl⟩
  · exact absurd rfl z
theorem fnAt_tab {G : G0} {name : Str} {st : Stmt} {h : Heap} (X : G.K.In h) (Gs : h.Ns mainGlobals G.mg) {fd : FuncData} (F : FunD G.K name name (defArgs st) (defBody st) (defScope st) [] [] (He.ga G.K name) fd) (hg : (He.Fa.glo name).ok G.K = true) : FnAt G name st (.ref (He.cT G.K (name, none)).1) := by
  obtain ⟨oc, od, dV, kV, doc, pm, an, cdv, ct, osl, rfl, lk, hcd, hd, hk⟩ := F.ex
  rcases hd with ⟨_, rfl⟩ | ⟨z, _⟩
  · obtain ⟨c, rfl⟩ := He.codeIn_ref hcd
    have e : He.codeOf G.K (name, none) = c := He.codeOf_eq lk rfl
    have e2 : (He.cT G.K (name, none)).1 = c := e
    rw [e2]
    exact ⟨_, oc, od, kV, doc, pm, an, ct, osl, lk, hcd, He.glo_ok X Gs hg, F.kp⟩
  · exact absurd rfl z
theorem fn_atD {G : G0} {k : Nat} {f : Addr} {fd : FuncData} {name : Str} {st : Stmt} {N ps : List Str} {sb : FS} (D : FunD G.K name name (defArgs st) (defBody st) (defScope st) [] [] f fd) (S : FnScope N ps (defScope st))
    (hbody : ∀ (cdv : Value) (f : Addr) (A : Around) (outer : List Env) (s : Shared) (H : Hp), Here G (bodyCx G N name (defScope st) f cdv A outer s H) N (defScope st) → Room k (bodyCx G N name (defScope st) f cdv A outer s H).A →
      (∀ x : Str, (defScope st).names.lookup x = some .cell → ∃ c, (bodyCx G N name (defScope st) f cdv A outer s H).env.cells.lookup x = some c) → PSs (bodyCx G N name (defScope st) f cdv A outer s H) (defBody st) (liftS G sb)) :
    FnOk G.P G.w G.K G.mg G.base CX0 (k + 1) f fd ps (spD G ps.length (runD N.length sb)) := by
  obtain ⟨oc, od, dV, kV, doc, pm, an, cdv, ct, osl, rfl, lk, hcd, hd, hk⟩ := D.ex
  rcases hd with ⟨_, rfl⟩ | ⟨z, _⟩
  · exact fn_at lk hcd S (hbody cdv)
  · exact absurd rfl z
theorem tabB_of {base : Heap} {mg : Str → Option Value} {c P : Addr} (t : LamX.TabB base mg c P) : GxR.TabB base mg c P := ⟨t.code, t.bm, t.gP⟩
end DL

set_option Elab.async false
set_option linter.all false
set_option maxRecDepth 100000
set_option maxHeartbeats 4000000
namespace K01
open PySem PySem.Spec PyProof.Rows L2 GxR LG DL
def top (i : Nat) : Stmt := PySem.Challenge.pw_wavehall_k01_airs_and_tunings_told.main.body.getD i (.Pass ⟨0, 0, 0, 0⟩)
/-- the built-ins' names are not taken; the module's numbers -/
structure T0 (G : G0) : Prop where
  b_abs : G.mg "abs" = none
  b_all : G.mg "all" = none
  b_bool : G.mg "bool" = none
  b_int : G.mg "int" = none
  b_isinstance : G.mg "isinstance" = none
  b_len : G.mg "len" = none
  b_list : G.mg "list" = none
  b_max : G.mg "max" = none
  b_min : G.mg "min" = none
  b_range : G.mg "range" = none
  b_set : G.mg "set" = none
  b_sorted : G.mg "sorted" = none
  b_str : G.mg "str" = none
  b_tuple : G.mg "tuple" = none
  b_zip : G.mg "zip" = none
  c_FARTHEST : ∃ t, G.mg "FARTHEST" = some (.int 1000 t)
  c_LAST_BAND : ∃ t, G.mg "LAST_BAND" = some (.int 9 t)
  c_MOST_LEAK : ∃ t, G.mg "MOST_LEAK" = some (.int 1000 t)
  c_MOST_NEED : ∃ t, G.mg "MOST_NEED" = some (.int 1000 t)
  c_MOST_POWER : ∃ t, G.mg "MOST_POWER" = some (.int 1000000 t)
  c_MOST_STATIONS : ∃ t, G.mg "MOST_STATIONS" = some (.int 8 t)
  c_NAME_LENGTH : ∃ t, G.mg "NAME_LENGTH" = some (.int 8 t)
  c_SILENCE : ∃ t, G.mg "SILENCE" = some (.int 0 t)
variable {G : G0}
/-! ### is_number -/
abbrev st_is_number : Stmt := top 2
theorem sc_is_number : FnScope ["thing"] ["thing"] (defScope st_is_number) := ⟨rfl, rfl, rfl, by decide +kernel, rfl, by decide +kernel, by decide +kernel⟩
noncomputable def sb_is_number (G : G0) : FS :=
    (sRet (fAnd (fCall isiD (fCons (fV 0) (fCons (fC (.ty "int")) fNil))) (fNot (fCall isiD (fCons (fV 0) (fCons (fC (.ty "bool")) fNil))))))
noncomputable def fn_is_number (G : G0) : HA := runD 1 (sb_is_number G)
theorem d_is_number {cdv : Value} (T : T0 G) (F : FnAt G "is_number" st_is_number cdv)  : Def G 1 "is_number" 1 (fn_is_number G) :=
  def_at (k := 0) (sb := sb_is_number G) F sc_is_number (fun _ _ _ _ _ us hl => match us, hl with | [_], _ => rfl) fun f A outer s H o hr hcell =>
    (ds_one (ds_ret (de_and (x_bi o (dc_isi o.on) T.b_isinstance (by decide +kernel) (da_cons (x_var o 0) (da_cons (x_ty o T.b_int (by decide +kernel)) da_nil))) (de_one (de_not (x_bi o (dc_isi o.on) T.b_isinstance (by decide +kernel) (da_cons (x_var o 0) (da_cons (x_ty o T.b_bool (by decide +kernel)) da_nil))))))))
/-! ### is_whole -/
abbrev st_is_whole : Stmt := top 3
theorem sc_is_whole : FnScope ["thing", "low", "high"] ["thing", "low", "high"] (defScope st_is_whole) := ⟨rfl, rfl, rfl, by decide +kernel, rfl, by decide +kernel, by decide +kernel⟩
noncomputable def sb_is_whole (G : G0) : FS :=
    (sRet (fAnd (fFn 1 (fn_is_number G) (fCons (fV 0) fNil)) (fChain leD leD (fV 1) (fV 0) (fV 2))))
noncomputable def fn_is_whole (G : G0) : HA := runD 3 (sb_is_whole G)
theorem d_is_whole {cdv : Value} (T : T0 G) (F : FnAt G "is_whole" st_is_whole cdv) (d_is_number : Def G 1 "is_number" 1 (fn_is_number G)) : Def G 2 "is_whole" 3 (fn_is_whole G) :=
  def_at (k := 1) (sb := sb_is_whole G) F sc_is_whole (fun _ _ _ _ _ us hl => match us, hl with | [_, _, _], _ => rfl) fun f A outer s H o hr hcell =>
    (ds_one (ds_ret (de_and (x_call o d_is_number (hr.mono (by decide)) (da_cons (x_var o 0) da_nil)) (de_one (de_chain do_le do_le (x_var o 1) (x_var o 0) (x_var o 2))))))
/-! ### is_name -/
abbrev st_is_name : Stmt := top 4
theorem sc_is_name : FnScope ["thing"] ["thing"] (defScope st_is_name) := ⟨rfl, rfl, rfl, by decide +kernel, rfl, by decide +kernel, by decide +kernel⟩
noncomputable def sb_is_name (G : G0) : FS :=
    (sSeq (sIf (fTOr (fTNot (fTst (fCall isiD (fCons (fV 0) (fCons (fC (.ty "str")) fNil))))) (fTNot (fTst (fChain leD leD (fC (.int 1)) (fCall (lenD G) (fCons (fV 0) fNil)) (fC (.int 8)))))) (sRet (fC (.bl false))) sNext)
    (sRet (fAllG (iSeq (fV 0)) (.one 0) (fChain leD leD (fC (.str "a")) (fV 0) (fC (.str "z"))) [none])))
noncomputable def fn_is_name (G : G0) : HA := runD 1 (sb_is_name G)
theorem d_is_name {cc P : Addr} (hP : P ∈ G.Ps) (hTB : TabB G.base G.mg cc P) (T : T0 G) (F : FnAt G "is_name" st_is_name (.ref cc))  : Def G 2 "is_name" 1 (fn_is_name G) :=
  def_at (k := 1) (sb := sb_is_name G) F sc_is_name (fun _ _ _ _ _ us hl => match us, hl with | [_], _ => rfl) fun f A outer s H o hr hcell =>
    (ds_cons (ds_if (PW.pt (dw_or (dt_not (dt_val (x_bi o (dc_isi o.on) T.b_isinstance (by decide +kernel) (da_cons (x_var o 0) (da_cons (x_ty o T.b_str (by decide +kernel)) da_nil))))) (dw_or1 (dt_not (dt_chain do_le do_le de_int (x_bi o (dc_len o.on) T.b_len (by decide +kernel) (da_cons (x_var o 0) da_nil)) (x_gint o T.c_NAME_LENGTH)))))) (ds_one (ds_ret de_bl)) ds_nil)
    (ds_one (ds_ret (x_all (k := 0) o ["sign"] [none] hP (hr.mono (by decide)) T.b_all hTB rfl (x_in o (x_var o 0)) (fun X' o' hr' => (x_tg1 o' 0)) (fun X' o' hr' => (de_chain do_le do_le de_str (x_var o' 0) de_str)) (gsc_by o hcell (by decide +kernel)) (hcap := (fun i x j h1 h2 => absurd h2 (capNone _ (by decide) i j)))))))
/-! ### is_tuple_of -/
abbrev st_is_tuple_of : Stmt := top 5
theorem sc_is_tuple_of : FnScope ["thing", "many"] ["thing", "many"] (defScope st_is_tuple_of) := ⟨rfl, rfl, rfl, by decide +kernel, rfl, by decide +kernel, by decide +kernel⟩
noncomputable def sb_is_tuple_of (G : G0) : FS :=
    (sRet (fAnd (fCall isiD (fCons (fV 0) (fCons (fC (.ty "tuple")) fNil))) (fOp eqD (fCall (lenD G) (fCons (fV 0) fNil)) (fV 1))))
noncomputable def fn_is_tuple_of (G : G0) : HA := runD 2 (sb_is_tuple_of G)
theorem d_is_tuple_of {cdv : Value} (T : T0 G) (F : FnAt G "is_tuple_of" st_is_tuple_of cdv)  : Def G 1 "is_tuple_of" 2 (fn_is_tuple_of G) :=
  def_at (k := 0) (sb := sb_is_tuple_of G) F sc_is_tuple_of (fun _ _ _ _ _ us hl => match us, hl with | [_, _], _ => rfl) fun f A outer s H o hr hcell =>
    (ds_one (ds_ret (de_and (x_bi o (dc_isi o.on) T.b_isinstance (by decide +kernel) (da_cons (x_var o 0) (da_cons (x_ty o T.b_tuple (by decide +kernel)) da_nil))) (de_one (de_cmp (do_eq (k := 0) o.on (hr.mono (Nat.zero_le _))) (x_bi o (dc_len o.on) T.b_len (by decide +kernel) (da_cons (x_var o 0) da_nil)) (x_var o 1) (nomark _))))))
/-! ### is_rising -/
abbrev st_is_rising : Stmt := top 6
theorem sc_is_rising : FnScope ["things"] ["things"] (defScope st_is_rising) := ⟨rfl, rfl, rfl, by decide +kernel, rfl, by decide +kernel, by decide +kernel⟩
noncomputable def sb_is_rising (G : G0) : FS :=
    (sRet (fAllG (iZipD (fCons (fV 0) (fCons (fSl (fV 0) (oSome (fC (.int 1))) oNone) fNil))) (.many [0, 1]) (fOp ltD (fV 0) (fV 1)) [none, none]))
noncomputable def fn_is_rising (G : G0) : HA := runD 1 (sb_is_rising G)
theorem d_is_rising {cc P : Addr} (hP : P ∈ G.Ps) (hTB : TabB G.base G.mg cc P) (T : T0 G) (F : FnAt G "is_rising" st_is_rising (.ref cc))  : Def G 2 "is_rising" 1 (fn_is_rising G) :=
  def_at (k := 1) (sb := sb_is_rising G) F sc_is_rising (fun _ _ _ _ _ us hl => match us, hl with | [_], _ => rfl) fun f A outer s H o hr hcell =>
    (ds_one (ds_ret (x_all (k := 0) o ["one", "other"] [none, none] hP (hr.mono (by decide)) T.b_all hTB rfl (x_zip o T.b_zip (da_cons (x_var o 0) (da_cons (x_slice o (x_var o 0) (dp_some de_int) dp_none) da_nil))) (fun X' o' hr' => (x_tgm o' (x_tgs o' 0 (x_tgs o' 1 dgs_nil)))) (fun X' o' hr' => (de_cmp do_lt (x_var o' 0) (x_var o' 1) (nomark _))) (gsc_by o hcell (by decide +kernel)) (hcap := (fun i x j h1 h2 => absurd h2 (capNone _ (by decide) i j))))))
/-! ### is_place -/
abbrev st_is_place : Stmt := top 15
theorem sc_is_place : FnScope ["thing"] ["thing"] (defScope st_is_place) := ⟨rfl, rfl, rfl, by decide +kernel, rfl, by decide +kernel, by decide +kernel⟩
noncomputable def sb_is_place (G : G0) : FS :=
    (sRet (fAnd (fFn 2 (fn_is_tuple_of G) (fCons (fV 0) (fCons (fC (.int 2)) fNil))) (fAllG (iSeq (fV 0)) (.one 0) (fFn 3 (fn_is_whole G) (fCons (fV 0) (fCons (fNeg (fC (.int 1000))) (fCons (fC (.int 1000)) fNil)))) [none])))
noncomputable def fn_is_place (G : G0) : HA := runD 1 (sb_is_place G)
theorem d_is_place {cc P : Addr} (hP : P ∈ G.Ps) (hTB : TabB G.base G.mg cc P) (T : T0 G) (F : FnAt G "is_place" st_is_place (.ref cc)) (d_is_tuple_of : Def G 1 "is_tuple_of" 2 (fn_is_tuple_of G)) (d_is_whole : Def G 2 "is_whole" 3 (fn_is_whole G)) : Def G 4 "is_place" 1 (fn_is_place G) :=
  def_at (k := 3) (sb := sb_is_place G) F sc_is_place (fun _ _ _ _ _ us hl => match us, hl with | [_], _ => rfl) fun f A outer s H o hr hcell =>
    (ds_one (ds_ret (de_and (x_call o d_is_tuple_of (hr.mono (by decide)) (da_cons (x_var o 0) (da_cons de_int da_nil))) (de_one (x_all (k := 2) o ["part"] [none] hP (hr.mono (by decide)) T.b_all hTB rfl (x_in o (x_var o 0)) (fun X' o' hr' => (x_tg1 o' 0)) (fun X' o' hr' => (x_call o' d_is_whole (hr'.mono (by decide)) (da_cons (x_var o' 0) (da_cons (de_neg (x_gint o' T.c_FARTHEST)) (da_cons (x_gint o' T.c_FARTHEST) da_nil))))) (gsc_by o hcell (by decide +kernel)) (hcap := (fun i x j h1 h2 => absurd h2 (capNone _ (by decide) i j))))))))
/-! ### is_power -/
abbrev st_is_power : Stmt := top 16
theorem sc_is_power : FnScope ["thing"] ["thing"] (defScope st_is_power) := ⟨rfl, rfl, rfl, by decide +kernel, rfl, by decide +kernel, by decide +kernel⟩
noncomputable def sb_is_power (G : G0) : FS :=
    (sRet (fFn 3 (fn_is_whole G) (fCons (fV 0) (fCons (fC (.int 1)) (fCons (fC (.int 1000000)) fNil)))))
noncomputable def fn_is_power (G : G0) : HA := runD 1 (sb_is_power G)
theorem d_is_power {cdv : Value} (T : T0 G) (F : FnAt G "is_power" st_is_power cdv) (d_is_whole : Def G 2 "is_whole" 3 (fn_is_whole G)) : Def G 3 "is_power" 1 (fn_is_power G) :=
  def_at (k := 2) (sb := sb_is_power G) F sc_is_power (fun _ _ _ _ _ us hl => match us, hl with | [_], _ => rfl) fun f A outer s H o hr hcell =>
    (ds_one (ds_ret (x_call o d_is_whole (hr.mono (by decide)) (da_cons (x_var o 0) (da_cons de_int (da_cons (x_gint o T.c_MOST_POWER) da_nil))))))
/-! ### is_need -/
abbrev st_is_need : Stmt := top 17
theorem sc_is_need : FnScope ["thing"] ["thing"] (defScope st_is_need) := ⟨rfl, rfl, rfl, by decide +kernel, rfl, by decide +kernel, by decide +kernel⟩
noncomputable def sb_is_need (G : G0) : FS :=
    (sRet (fFn 3 (fn_is_whole G) (fCons (fV 0) (fCons (fC (.int 1)) (fCons (fC (.int 1000)) fNil)))))
noncomputable def fn_is_need (G : G0) : HA := runD 1 (sb_is_need G)
theorem d_is_need {cdv : Value} (T : T0 G) (F : FnAt G "is_need" st_is_need cdv) (d_is_whole : Def G 2 "is_whole" 3 (fn_is_whole G)) : Def G 3 "is_need" 1 (fn_is_need G) :=
  def_at (k := 2) (sb := sb_is_need G) F sc_is_need (fun _ _ _ _ _ us hl => match us, hl with | [_], _ => rfl) fun f A outer s H o hr hcell =>
    (ds_one (ds_ret (x_call o d_is_whole (hr.mono (by decide)) (da_cons (x_var o 0) (da_cons de_int (da_cons (x_gint o T.c_MOST_NEED) da_nil))))))
/-! ### is_leak -/
abbrev st_is_leak : Stmt := top 18
theorem sc_is_leak : FnScope ["thing"] ["thing"] (defScope st_is_leak) := ⟨rfl, rfl, rfl, by decide +kernel, rfl, by decide +kernel, by decide +kernel⟩
noncomputable def sb_is_leak (G : G0) : FS :=
    (sRet (fFn 3 (fn_is_whole G) (fCons (fV 0) (fCons (fC (.int 1)) (fCons (fC (.int 1000)) fNil)))))
noncomputable def fn_is_leak (G : G0) : HA := runD 1 (sb_is_leak G)
theorem d_is_leak {cdv : Value} (T : T0 G) (F : FnAt G "is_leak" st_is_leak cdv) (d_is_whole : Def G 2 "is_whole" 3 (fn_is_whole G)) : Def G 3 "is_leak" 1 (fn_is_leak G) :=
  def_at (k := 2) (sb := sb_is_leak G) F sc_is_leak (fun _ _ _ _ _ us hl => match us, hl with | [_], _ => rfl) fun f A outer s H o hr hcell =>
    (ds_one (ds_ret (x_call o d_is_whole (hr.mono (by decide)) (da_cons (x_var o 0) (da_cons de_int (da_cons (x_gint o T.c_MOST_LEAK) da_nil))))))
/-! ### is_station -/
abbrev st_is_station : Stmt := top 19
theorem sc_is_station : FnScope ["thing", "name", "place", "power", "hearer", "need"] ["thing"] (defScope st_is_station) := ⟨rfl, rfl, rfl, by decide +kernel, rfl, by decide +kernel, by decide +kernel⟩
noncomputable def sb_is_station (G : G0) : FS :=
    (sSeq (sIf (fTNot (fTst (fFn 2 (fn_is_tuple_of G) (fCons (fV 0) (fCons (fC (.int 5)) fNil))))) (sRet (fC (.bl false))) sNext)
    (sSeq (sUnp (.many [1, 2, 3, 4, 5]) (fV 0))
    (sRet (fAnd (fFn 1 (fn_is_name G) (fCons (fV 1) fNil)) (fAnd (fFn 1 (fn_is_place G) (fCons (fV 2) fNil)) (fAnd (fFn 1 (fn_is_power G) (fCons (fV 3) fNil)) (fAnd (fFn 1 (fn_is_place G) (fCons (fV 4) fNil)) (fFn 1 (fn_is_need G) (fCons (fV 5) fNil)))))))))
noncomputable def fn_is_station (G : G0) : HA := runD 6 (sb_is_station G)
theorem d_is_station {cdv : Value} (T : T0 G) (F : FnAt G "is_station" st_is_station cdv) (d_is_name : Def G 2 "is_name" 1 (fn_is_name G)) (d_is_need : Def G 3 "is_need" 1 (fn_is_need G)) (d_is_place : Def G 4 "is_place" 1 (fn_is_place G)) (d_is_power : Def G 3 "is_power" 1 (fn_is_power G)) (d_is_tuple_of : Def G 1 "is_tuple_of" 2 (fn_is_tuple_of G)) : Def G 5 "is_station" 1 (fn_is_station G) :=
  def_at (k := 4) (sb := sb_is_station G) F sc_is_station (fun _ _ _ _ _ us hl => match us, hl with | [_], _ => rfl) fun f A outer s H o hr hcell =>
    (ds_cons (ds_if (dt_not (dt_val (x_call o d_is_tuple_of (hr.mono (by decide)) (da_cons (x_var o 0) (da_cons de_int da_nil))))) (ds_one (ds_ret de_bl)) ds_nil)
    (ds_cons (ds_unp (x_var o 0) (x_tgm o (x_tgs o 1 (x_tgs o 2 (x_tgs o 3 (x_tgs o 4 (x_tgs o 5 dgs_nil)))))))
    (ds_one (ds_ret (de_and (x_call o d_is_name (hr.mono (by decide)) (da_cons (x_var o 1) da_nil)) (de_and (x_call o d_is_place (hr.mono (by decide)) (da_cons (x_var o 2) da_nil)) (de_and (x_call o d_is_power (hr.mono (by decide)) (da_cons (x_var o 3) da_nil)) (de_and (x_call o d_is_place (hr.mono (by decide)) (da_cons (x_var o 4) da_nil)) (de_one (x_call o d_is_need (hr.mono (by decide)) (da_cons (x_var o 5) da_nil)))))))))))
/-! ### names_of -/
abbrev st_names_of : Stmt := top 23
theorem sc_names_of : FnScope ["stations", "station"] ["stations"] (defScope st_names_of) := ⟨rfl, rfl, rfl, by decide +kernel, rfl, by decide +kernel, by decide +kernel⟩
noncomputable def sb_names_of (G : G0) : FS :=
    (sRet (fLc (iSeq (fV 0)) (.one 1) fYes (fOp (ixG G) (fV 1) (fC (.int 0))) [1]))
noncomputable def fn_names_of (G : G0) : HA := runD 2 (sb_names_of G)
theorem d_names_of {cdv : Value} (T : T0 G) (F : FnAt G "names_of" st_names_of cdv)  : Def G 1 "names_of" 1 (fn_names_of G) :=
  def_at (k := 0) (sb := sb_names_of G) F sc_names_of (fun _ _ _ _ _ us hl => match us, hl with | [_], _ => rfl) fun f A outer s H o hr hcell =>
    (ds_one (ds_ret (x_lc o [("station", 1)] (x_in o (x_var o 0)) (fun X' o' hA => (x_tg1 o' 1)) (fun X' o' hA => dts_nil) (fun X' o' hA => (x_ix o' (x_var o' 1) de_int)))))
/-! ### are_stations -/
abbrev st_are_stations : Stmt := top 20
theorem sc_are_stations : FnScope ["thing"] ["thing"] (defScope st_are_stations) := ⟨rfl, rfl, rfl, by decide +kernel, rfl, by decide +kernel, by decide +kernel⟩
noncomputable def sb_are_stations (G : G0) : FS :=
    (sSeq (sIf (fTOr (fTNot (fTst (fCall isiD (fCons (fV 0) (fCons (fC (.ty "tuple")) fNil))))) (fTNot (fTst (fChain leD leD (fC (.int 1)) (fCall (lenD G) (fCons (fV 0) fNil)) (fC (.int 8)))))) (sRet (fC (.bl false))) sNext)
    (sRet (fAnd (fAllG (iSeq (fV 0)) (.one 0) (fFn 1 (fn_is_station G) (fCons (fV 0) fNil)) [none]) (fFn 1 (fn_is_rising G) (fCons (fFn 1 (fn_names_of G) (fCons (fV 0) fNil)) fNil)))))
noncomputable def fn_are_stations (G : G0) : HA := runD 1 (sb_are_stations G)
theorem d_are_stations {cc P : Addr} (hP : P ∈ G.Ps) (hTB : TabB G.base G.mg cc P) (T : T0 G) (F : FnAt G "are_stations" st_are_stations (.ref cc)) (d_is_rising : Def G 2 "is_rising" 1 (fn_is_rising G)) (d_is_station : Def G 5 "is_station" 1 (fn_is_station G)) (d_names_of : Def G 1 "names_of" 1 (fn_names_of G)) : Def G 7 "are_stations" 1 (fn_are_stations G) :=
  def_at (k := 6) (sb := sb_are_stations G) F sc_are_stations (fun _ _ _ _ _ us hl => match us, hl with | [_], _ => rfl) fun f A outer s H o hr hcell =>
    (ds_cons (ds_if (PW.pt (dw_or (dt_not (dt_val (x_bi o (dc_isi o.on) T.b_isinstance (by decide +kernel) (da_cons (x_var o 0) (da_cons (x_ty o T.b_tuple (by decide +kernel)) da_nil))))) (dw_or1 (dt_not (dt_chain do_le do_le de_int (x_bi o (dc_len o.on) T.b_len (by decide +kernel) (da_cons (x_var o 0) da_nil)) (x_gint o T.c_MOST_STATIONS)))))) (ds_one (ds_ret de_bl)) ds_nil)
    (ds_one (ds_ret (de_and (x_all (k := 5) o ["part"] [none] hP (hr.mono (by decide)) T.b_all hTB rfl (x_in o (x_var o 0)) (fun X' o' hr' => (x_tg1 o' 0)) (fun X' o' hr' => (x_call o' d_is_station (hr'.mono (by decide)) (da_cons (x_var o' 0) da_nil))) (gsc_by o hcell (by decide +kernel)) (hcap := (fun i x j h1 h2 => absurd h2 (capNone _ (by decide) i j)))) (de_one (x_call o d_is_rising (hr.mono (by decide)) (da_cons (x_call o d_names_of (hr.mono (by decide)) (da_cons (x_var o 0) da_nil)) da_nil)))))))
/-! ### is_air -/
abbrev st_is_air : Stmt := top 21
theorem sc_is_air : FnScope ["thing"] ["thing"] (defScope st_is_air) := ⟨rfl, rfl, rfl, by decide +kernel, rfl, by decide +kernel, by decide +kernel⟩
noncomputable def sb_is_air (G : G0) : FS :=
    (sRet (fAnd (fFn 2 (fn_is_tuple_of G) (fCons (fV 0) (fCons (fC (.int 2)) fNil))) (fAnd (fFn 1 (fn_are_stations G) (fCons (fOp (ixG G) (fV 0) (fC (.int 0))) fNil)) (fFn 1 (fn_is_leak G) (fCons (fOp (ixG G) (fV 0) (fC (.int 1))) fNil)))))
noncomputable def fn_is_air (G : G0) : HA := runD 1 (sb_is_air G)
theorem d_is_air {cdv : Value} (T : T0 G) (F : FnAt G "is_air" st_is_air cdv) (d_are_stations : Def G 7 "are_stations" 1 (fn_are_stations G)) (d_is_leak : Def G 3 "is_leak" 1 (fn_is_leak G)) (d_is_tuple_of : Def G 1 "is_tuple_of" 2 (fn_is_tuple_of G)) : Def G 8 "is_air" 1 (fn_is_air G) :=
  def_at (k := 7) (sb := sb_is_air G) F sc_is_air (fun _ _ _ _ _ us hl => match us, hl with | [_], _ => rfl) fun f A outer s H o hr hcell =>
    (ds_one (ds_ret (de_and (x_call o d_is_tuple_of (hr.mono (by decide)) (da_cons (x_var o 0) (da_cons de_int da_nil))) (de_and (x_call o d_are_stations (hr.mono (by decide)) (da_cons (x_ix o (x_var o 0) de_int) da_nil)) (de_one (x_call o d_is_leak (hr.mono (by decide)) (da_cons (x_ix o (x_var o 0) de_int) da_nil)))))))
/-! ### is_tuning -/
abbrev st_is_tuning : Stmt := top 22
theorem sc_is_tuning : FnScope ["air", "thing", "stations"] ["air", "thing"] (defScope st_is_tuning) := ⟨rfl, rfl, rfl, by decide +kernel, rfl, by decide +kernel, by decide +kernel⟩
noncomputable def sb_is_tuning (G : G0) : FS :=
    (sSeq (sSet 2 (fOp (ixG G) (fV 0) (fC (.int 0))))
    (sRet (fAnd (fFn 2 (fn_is_tuple_of G) (fCons (fV 1) (fCons (fCall (lenD G) (fCons (fV 2) fNil)) fNil))) (fAllG (iSeq (fV 1)) (.one 0) (fFn 3 (fn_is_whole G) (fCons (fV 0) (fCons (fC (.int 0)) (fCons (fC (.int 9)) fNil)))) [none]))))
noncomputable def fn_is_tuning (G : G0) : HA := runD 3 (sb_is_tuning G)
theorem d_is_tuning {cc P : Addr} (hP : P ∈ G.Ps) (hTB : TabB G.base G.mg cc P) (T : T0 G) (F : FnAt G "is_tuning" st_is_tuning (.ref cc)) (d_is_tuple_of : Def G 1 "is_tuple_of" 2 (fn_is_tuple_of G)) (d_is_whole : Def G 2 "is_whole" 3 (fn_is_whole G)) : Def G 4 "is_tuning" 2 (fn_is_tuning G) :=
  def_at (k := 3) (sb := sb_is_tuning G) F sc_is_tuning (fun _ _ _ _ _ us hl => match us, hl with | [_, _], _ => rfl) fun f A outer s H o hr hcell =>
    (ds_cons (x_set o 2 (x_ix o (x_var o 0) de_int))
    (ds_one (ds_ret (de_and (x_call o d_is_tuple_of (hr.mono (by decide)) (da_cons (x_var o 1) (da_cons (x_bi o (dc_len o.on) T.b_len (by decide +kernel) (da_cons (x_var o 2) da_nil)) da_nil))) (de_one (x_all (k := 2) o ["band"] [none] hP (hr.mono (by decide)) T.b_all hTB rfl (x_in o (x_var o 1)) (fun X' o' hr' => (x_tg1 o' 0)) (fun X' o' hr' => (x_call o' d_is_whole (hr'.mono (by decide)) (da_cons (x_var o' 0) (da_cons (x_gint o' T.c_SILENCE) (da_cons (x_gint o' T.c_LAST_BAND) da_nil))))) (gsc_by o hcell (by decide +kernel)) (hcap := (fun i x j h1 h2 => absurd h2 (capNone _ (by decide) i j)))))))))
/-! ### _law_bag -/
abbrev st__law_bag : Stmt := top 25
theorem sc__law_bag : FnScope ["script", "k", "cell"] ["script", "k"] (defScope st__law_bag) := ⟨rfl, rfl, rfl, by decide +kernel, rfl, by decide +kernel, by decide +kernel⟩
noncomputable def sb__law_bag (G : G0) : FS :=
    (sSeq (sSet 2 (fC (.int 0)))
    (sSeq (sIf (fTst (fOp ltD (fV 1) (fCall (lenD G) (fCons (fV 0) fNil)))) (sSet 2 (fCall absD (fCons (fOp (ixG G) (fV 0) (fV 1)) fNil))) sNext)
    (sSeq (sIf (fTst (fOp ltD (fV 2) (fOp powD (fC (.int 10)) (fC (.int 18))))) (sRet (fLst (fCons (fC (.int 0)) (fCons (fOp addD (fC (.int 1)) (fOp modD (fOp addD (fOp mulD (fV 2) (fC (.int 7919))) (fOp mulD (fC (.int 104729)) (fV 1))) (fC (.int 2147483646)))) fNil)))) sNext)
    (sRet (fLst (fCons (fV 2) (fCons (fOp addD (fC (.int 1)) (fOp modD (fOp addD (fV 2) (fV 1)) (fC (.int 2147483646)))) fNil)))))))
noncomputable def fn__law_bag (G : G0) : HA := runD 3 (sb__law_bag G)
theorem d__law_bag {cdv : Value} (T : T0 G) (F : FnAt G "_law_bag" st__law_bag cdv)  : Def G 1 "_law_bag" 2 (fn__law_bag G) :=
  def_at (k := 0) (sb := sb__law_bag G) F sc__law_bag (fun _ _ _ _ _ us hl => match us, hl with | [_, _], _ => rfl) fun f A outer s H o hr hcell =>
    (ds_cons (x_set o 2 de_int)
    (ds_cons (ds_if (dt_cmp do_lt (x_var o 1) (x_bi o (dc_len o.on) T.b_len (by decide +kernel) (da_cons (x_var o 0) da_nil)) (nomark _)) (ds_one (x_set o 2 (x_bi o dc_abs T.b_abs (by decide +kernel) (da_cons (x_ix o (x_var o 0) (x_var o 1)) da_nil)))) ds_nil)
    (ds_cons (ds_if (dt_cmp do_lt (x_var o 2) (x_pow o de_int de_int) (nomark _)) (ds_one (ds_ret (de_lst (da_cons de_int (da_cons (x_add o de_int (x_mod o (x_add o (x_mul o (x_var o 2) de_int) (x_mul o de_int (x_var o 1))) de_int)) da_nil))))) ds_nil)
    (ds_one (ds_ret (de_lst (da_cons (x_var o 2) (da_cons (x_add o de_int (x_mod o (x_add o (x_var o 2) (x_var o 1)) de_int)) da_nil))))))))
/-! ### _law_take -/
abbrev st__law_take : Stmt := top 26
theorem sc__law_take : FnScope ["bag", "many", "found"] ["bag", "many"] (defScope st__law_take) := ⟨rfl, rfl, rfl, by decide +kernel, rfl, by decide +kernel, by decide +kernel⟩
noncomputable def sb__law_take (G : G0) : FS :=
    (sSeq (sIf (fTst (fOp gtD (fOp (ixG G) (fV 0) (fC (.int 0))) (fC (.int 0)))) (sSeq (sSet 2 (fOp modD (fOp (ixG G) (fV 0) (fC (.int 0))) (fV 1)))
    (sSeq (sPut (fOp fdivD (fOp (ixG G) (fV 0) (fC (.int 0))) (fV 1)) (fV 0) (fC (.int 0)))
    (sRet (fV 2)))) sNext)
    (sSeq (sPut (fOp modD (fOp mulD (fOp (ixG G) (fV 0) (fC (.int 1))) (fC (.int 48271))) (fC (.int 2147483647))) (fV 0) (fC (.int 1)))
    (sRet (fOp modD (fOp fdivD (fOp modD (fOp mulD (fOp (ixG G) (fV 0) (fC (.int 1))) (fOp (ixG G) (fV 0) (fC (.int 1)))) (fC (.int 2147483629))) (fC (.int 64))) (fV 1)))))
noncomputable def fn__law_take (G : G0) : HA := runD 3 (sb__law_take G)
theorem d__law_take {cdv : Value} (T : T0 G) (F : FnAt G "_law_take" st__law_take cdv)  : Def G 1 "_law_take" 2 (fn__law_take G) :=
  def_at (k := 0) (sb := sb__law_take G) F sc__law_take (fun _ _ _ _ _ us hl => match us, hl with | [_, _], _ => rfl) fun f A outer s H o hr hcell =>
    (ds_cons (ds_if (dt_cmp do_gt (x_ix o (x_var o 0) de_int) de_int (nomark _)) (ds_cons (x_set o 2 (x_mod o (x_ix o (x_var o 0) de_int) (x_var o 1)))
    (ds_cons (ds_put (x_fdiv o (x_ix o (x_var o 0) de_int) (x_var o 1)) (x_var o 0) de_int (pg_sub (x_var o 0) de_int set_list))
    (ds_one (ds_ret (x_var o 2))))) ds_nil)
    (ds_cons (ds_put (x_mod o (x_mul o (x_ix o (x_var o 0) de_int) de_int) de_int) (x_var o 0) de_int (pg_sub (x_var o 0) de_int set_list))
    (ds_one (ds_ret (x_mod o (x_fdiv o (x_mod o (x_mul o (x_ix o (x_var o 0) de_int) (x_ix o (x_var o 0) de_int)) de_int) de_int) (x_var o 1))))))
/-! ### _law_of -/
abbrev st__law_of : Stmt := top 27
theorem sc__law_of : FnScope ["bag", "some"] ["bag", "some"] (defScope st__law_of) := ⟨rfl, rfl, rfl, by decide +kernel, rfl, by decide +kernel, by decide +kernel⟩
noncomputable def sb__law_of (G : G0) : FS :=
    (sRet (fOp (ixG G) (fV 1) (fFn 2 (fn__law_take G) (fCons (fV 0) (fCons (fCall (lenD G) (fCons (fV 1) fNil)) fNil)))))
noncomputable def fn__law_of (G : G0) : HA := runD 2 (sb__law_of G)
theorem d__law_of {cdv : Value} (T : T0 G) (F : FnAt G "_law_of" st__law_of cdv) (d__law_take : Def G 1 "_law_take" 2 (fn__law_take G)) : Def G 2 "_law_of" 2 (fn__law_of G) :=
  def_at (k := 1) (sb := sb__law_of G) F sc__law_of (fun _ _ _ _ _ us hl => match us, hl with | [_, _], _ => rfl) fun f A outer s H o hr hcell =>
    (ds_one (ds_ret (x_ix o (x_var o 1) (x_call o d__law_take (hr.mono (by decide)) (da_cons (x_var o 0) (da_cons (x_bi o (dc_len o.on) T.b_len (by decide +kernel) (da_cons (x_var o 1) da_nil)) da_nil))))))
/-! ### _law_within -/
abbrev st__law_within : Stmt := top 28
theorem sc__law_within : FnScope ["thing", "least", "most"] ["thing", "least", "most"] (defScope st__law_within) := ⟨rfl, rfl, rfl, by decide +kernel, rfl, by decide +kernel, by decide +kernel⟩
noncomputable def sb__law_within (G : G0) : FS :=
    (sRet (fAnd (fCall isiD (fCons (fV 0) (fCons (fC (.ty "int")) fNil))) (fAnd (fNot (fCall isiD (fCons (fV 0) (fCons (fC (.ty "bool")) fNil)))) (fChain leD leD (fV 1) (fV 0) (fV 2)))))
noncomputable def fn__law_within (G : G0) : HA := runD 3 (sb__law_within G)
theorem d__law_within {cdv : Value} (T : T0 G) (F : FnAt G "_law_within" st__law_within cdv)  : Def G 1 "_law_within" 3 (fn__law_within G) :=
  def_at (k := 0) (sb := sb__law_within G) F sc__law_within (fun _ _ _ _ _ us hl => match us, hl with | [_, _, _], _ => rfl) fun f A outer s H o hr hcell =>
    (ds_one (ds_ret (de_and (x_bi o (dc_isi o.on) T.b_isinstance (by decide +kernel) (da_cons (x_var o 0) (da_cons (x_ty o T.b_int (by decide +kernel)) da_nil))) (de_and (de_not (x_bi o (dc_isi o.on) T.b_isinstance (by decide +kernel) (da_cons (x_var o 0) (da_cons (x_ty o T.b_bool (by decide +kernel)) da_nil)))) (de_one (de_chain do_le do_le (x_var o 1) (x_var o 0) (x_var o 2)))))))
/-! ### _law_is_name -/
abbrev st__law_is_name : Stmt := top 29
theorem sc__law_is_name : FnScope ["thing", "sign"] ["thing"] (defScope st__law_is_name) := ⟨rfl, rfl, rfl, by decide +kernel, rfl, by decide +kernel, by decide +kernel⟩
noncomputable def sb__law_is_name (G : G0) : FS :=
    (sSeq (sIf (fTOr (fTNot (fTst (fCall isiD (fCons (fV 0) (fCons (fC (.ty "str")) fNil))))) (fTNot (fTst (fChain leD leD (fC (.int 1)) (fCall (lenD G) (fCons (fV 0) fNil)) (fC (.int 8)))))) (sRet (fC (.bl false))) sNext)
    (sRet (fOp eqD (fLc (iSeq (fV 0)) (.one 1) (fTst (fOp (inW true) (fV 1) (fC (.str "abcdefghijklmnopqrstuvwxyz")))) (fV 1) [1]) (fLst fNil))))
noncomputable def fn__law_is_name (G : G0) : HA := runD 2 (sb__law_is_name G)
theorem d__law_is_name {cdv : Value} (T : T0 G) (F : FnAt G "_law_is_name" st__law_is_name cdv)  : Def G 1 "_law_is_name" 1 (fn__law_is_name G) :=
  def_at (k := 0) (sb := sb__law_is_name G) F sc__law_is_name (fun _ _ _ _ _ us hl => match us, hl with | [_], _ => rfl) fun f A outer s H o hr hcell =>
    (ds_cons (ds_if (PW.pt (dw_or (dt_not (dt_val (x_bi o (dc_isi o.on) T.b_isinstance (by decide +kernel) (da_cons (x_var o 0) (da_cons (x_ty o T.b_str (by decide +kernel)) da_nil))))) (dw_or1 (dt_not (dt_chain do_le do_le de_int (x_bi o (dc_len o.on) T.b_len (by decide +kernel) (da_cons (x_var o 0) da_nil)) de_int))))) (ds_one (ds_ret de_bl)) ds_nil)
    (ds_one (ds_ret (de_cmp (do_eq (k := 0) o.on (hr.mono (Nat.zero_le _))) (x_lc o [("sign", 1)] (x_in o (x_var o 0)) (fun X' o' hA => (x_tg1 o' 1)) (fun X' o' hA => (dts_one (dt_cmp do_notin (x_var o' 1) de_str (by rfl)))) (fun X' o' hA => (x_var o' 1))) (de_lst da_nil) (nomark _)))))
/-! ### _law_odd -/
abbrev st__law_odd : Stmt := top 31
theorem sc__law_odd : FnScope ["bag", "some"] ["bag"] (defScope st__law_odd) := ⟨rfl, rfl, rfl, by decide +kernel, rfl, by decide +kernel, by decide +kernel⟩
noncomputable def sb__law_odd (G : G0) : FS :=
    (sSeq (sSet 1 (fLst (fCons (fC .non) (fCons (fC (.bl true)) (fCons (fC (.bl false)) (fCons (fC (.int 0)) (fCons (fC (.int 1)) (fCons (fNeg (fC (.int 1))) (fCons (fC (.int 5)) (fCons (fOp powD (fC (.int 10)) (fC (.int 30))) (fCons (fC (.str "")) (fCons (fC (.str "a")) (fCons (fC (.str "shut")) (fCons (fC (.str "bands")) (fCons (fTup fNil) (fCons (fLst fNil) (fCons (fTup (fCons (fC (.int 1)) (fCons (fC (.int 2)) fNil))) (fCons (fTup (fCons (fC .non) fNil)) (fCons (fTup (fCons (fC (.int 0)) (fCons (fC (.int 0)) fNil))) fNil)))))))))))))))))))
    (sSeq (sSet 1 (fOp addD (fV 1) (fLst (fCons (fTup (fCons (fC (.str "a")) (fCons (fTup (fCons (fC (.int 0)) (fCons (fC (.int 0)) fNil))) (fCons (fC (.int 1)) (fCons (fTup (fCons (fC (.int 0)) (fCons (fC (.int 0)) fNil))) (fCons (fC (.int 1)) fNil)))))) (fCons (fTup (fCons (fTup (fCons (fC (.str "a")) (fCons (fTup (fCons (fC (.int 0)) (fCons (fC (.int 0)) fNil))) (fCons (fC (.int 1)) (fCons (fTup (fCons (fC (.int 0)) (fCons (fC (.int 0)) fNil))) (fCons (fC (.int 1)) fNil)))))) fNil)) (fCons (fTup (fCons (fC (.str "shut")) (fCons (fC (.str "ann")) fNil))) fNil))))))
    (sSeq (sSet 1 (fOp addD (fV 1) (fLst (fCons (fTup (fCons (fC (.str "bands")) (fCons (fTup fNil) fNil))) (fCons (fTup (fCons (fTup (fCons (fC (.int 0)) fNil)) (fCons (fC (.int 0)) fNil))) fNil)))))
    (sRet (fOp (ixG G) (fV 1) (fFn 2 (fn__law_take G) (fCons (fV 0) (fCons (fCall (lenD G) (fCons (fV 1) fNil)) fNil))))))))
noncomputable def fn__law_odd (G : G0) : HA := runD 2 (sb__law_odd G)
theorem d__law_odd {cdv : Value} (T : T0 G) (F : FnAt G "_law_odd" st__law_odd cdv) (d__law_take : Def G 1 "_law_take" 2 (fn__law_take G)) : Def G 2 "_law_odd" 1 (fn__law_odd G) :=
  def_at (k := 1) (sb := sb__law_odd G) F sc__law_odd (fun _ _ _ _ _ us hl => match us, hl with | [_], _ => rfl) fun f A outer s H o hr hcell =>
    (ds_cons (x_set o 1 (de_lst (da_cons de_non (da_cons de_bl (da_cons de_bl (da_cons de_int (da_cons de_int (da_cons (de_neg de_int) (da_cons de_int (da_cons (x_pow o de_int de_int) (da_cons de_str (da_cons de_str (da_cons de_str (da_cons de_str (da_cons (de_tup da_nil) (da_cons (de_lst da_nil) (da_cons (de_tup (da_cons de_int (da_cons de_int da_nil))) (da_cons (de_tup (da_cons de_non da_nil)) (da_cons (de_tup (da_cons de_int (da_cons de_int da_nil))) da_nil)))))))))))))))))))
    (ds_cons (x_set o 1 (x_add o (x_var o 1) (de_lst (da_cons (de_tup (da_cons de_str (da_cons (de_tup (da_cons de_int (da_cons de_int da_nil))) (da_cons de_int (da_cons (de_tup (da_cons de_int (da_cons de_int da_nil))) (da_cons de_int da_nil)))))) (da_cons (de_tup (da_cons (de_tup (da_cons de_str (da_cons (de_tup (da_cons de_int (da_cons de_int da_nil))) (da_cons de_int (da_cons (de_tup (da_cons de_int (da_cons de_int da_nil))) (da_cons de_int da_nil)))))) da_nil)) (da_cons (de_tup (da_cons de_str (da_cons de_str da_nil))) da_nil))))))
    (ds_cons (x_set o 1 (x_add o (x_var o 1) (de_lst (da_cons (de_tup (da_cons de_str (da_cons (de_tup da_nil) da_nil))) (da_cons (de_tup (da_cons (de_tup (da_cons de_int da_nil)) (da_cons de_int da_nil))) da_nil)))))
    (ds_one (ds_ret (x_ix o (x_var o 1) (x_call o d__law_take (hr.mono (by decide)) (da_cons (x_var o 0) (da_cons (x_bi o (dc_len o.on) T.b_len (by decide +kernel) (da_cons (x_var o 1) da_nil)) da_nil)))))))))
/-! ### _law_spoilt -/
abbrev st__law_spoilt : Stmt := top 30
theorem sc__law_spoilt : FnScope ["bag", "thing", "kind_so", "rows", "at", "other"] ["bag", "thing"] (defScope st__law_spoilt) := ⟨rfl, rfl, rfl, by decide +kernel, rfl, by decide +kernel, by decide +kernel⟩
noncomputable def sb__law_spoilt (G : G0) (rec : HA) : FS :=
    (sSeq (sSet 2 (fFn 2 (fn__law_take G) (fCons (fV 0) (fCons (fC (.int 9)) fNil))))
    (sSeq (sIf (fTAnd (fTst (fIsiT ["tuple", "list"] (fV 1))) (fTAnd (fTst (fOp gtD (fCall (lenD G) (fCons (fV 1) fNil)) (fC (.int 0)))) (fTst (fOp gtD (fV 2) (fC (.int 0)))))) (sSeq (sSet 3 (fCall listD (fCons (fV 1) fNil)))
    (sSeq (sSet 4 (fFn 2 (fn__law_take G) (fCons (fV 0) (fCons (fCall (lenD G) (fCons (fV 3) fNil)) fNil))))
    (sSeq (sIf (fTst (fOp eqD (fV 2) (fC (.int 1)))) (sSet 3 (fOp addD (fSl (fV 3) oNone (oSome (fV 4))) (fSl (fV 3) (oSome (fOp addD (fV 4) (fC (.int 1)))) oNone))) (sIf (fTst (fOp eqD (fV 2) (fC (.int 2)))) (sSet 3 (fOp addD (fSl (fV 3) oNone (oSome (fOp addD (fV 4) (fC (.int 1))))) (fSl (fV 3) (oSome (fV 4)) oNone))) (sIf (fTst (fOp eqD (fV 2) (fC (.int 3)))) (sSeq (sSet 5 (fFn 2 (fn__law_take G) (fCons (fV 0) (fCons (fCall (lenD G) (fCons (fV 3) fNil)) fNil))))
    (sPut2 (fCons (fOp (ixG G) (fV 3) (fV 5)) (fCons (fOp (ixG G) (fV 3) (fV 4)) fNil)) (fV 3) (fV 4) (fV 3) (fV 5))) (sIf (fTst (fOp eqD (fV 2) (fC (.int 4)))) (sRet (fIf (fTst (fCall isiD (fCons (fV 1) (fCons (fC (.ty "tuple")) fNil)))) (fV 3) (fCall tupleD (fCons (fV 3) fNil)))) (sPut (fFn 2 rec (fCons (fV 0) (fCons (fOp (ixG G) (fV 3) (fV 4)) fNil))) (fV 3) (fV 4))))))
    (sRet (fIf (fTst (fCall isiD (fCons (fV 1) (fCons (fC (.ty "tuple")) fNil)))) (fCall tupleD (fCons (fV 3) fNil)) (fV 3)))))) sNext)
    (sSeq (sIf (fTAnd (fTst (fCall isiD (fCons (fV 1) (fCons (fC (.ty "str")) fNil)))) (fTst (fOp gtD (fV 2) (fC (.int 1))))) (sRet (fOp (ixG G) (fLst (fCons (fOp addD (fV 1) (fC (.str "a"))) (fCons (fSl (fV 1) oNone (oSome (fNeg (fC (.int 1))))) (fCons (fOp addD (fV 1) (fC (.str " "))) (fCons (fUpper (fV 1)) (fCons (fOp addD (fV 1) (fV 1)) (fCons (fOp addD (fC (.str "z")) (fV 1)) (fCons (fC (.str "")) fNil)))))))) (fOp subD (fV 2) (fC (.int 2))))) sNext)
    (sSeq (sIf (fTAnd (fTst (fCall isiD (fCons (fV 1) (fCons (fC (.ty "int")) fNil)))) (fTst (fOp gtD (fV 2) (fC (.int 1))))) (sRet (fOp (ixG G) (fLst (fCons (fOp addD (fV 1) (fC (.int 1))) (fCons (fOp subD (fV 1) (fC (.int 1))) (fCons (fNeg (fV 1)) (fCons (fOp addD (fV 1) (fC (.int 1000))) (fCons (fCall strD (fCons (fV 1) fNil)) (fCons (fOp addD (fV 1) (fC (.int 50))) (fCons (fTup (fCons (fV 1) fNil)) fNil)))))))) (fOp subD (fV 2) (fC (.int 2))))) sNext)
    (sRet (fFn 1 (fn__law_odd G) (fCons (fV 0) fNil)))))))
noncomputable def fn__law_spoilt (G : G0) : Nat → HA
  | 0 => fun _ _ => none
  | n + 1 => runD 6 (sb__law_spoilt G (fn__law_spoilt G n))
theorem s__law_spoilt {cdv : Value} (T : T0 G) (F : FnAt G "_law_spoilt" st__law_spoilt cdv) (d__law_odd : Def G 2 "_law_odd" 1 (fn__law_odd G)) (d__law_take : Def G 1 "_law_take" 2 (fn__law_take G)) (n : Nat) (d_rec : Def G (2 + 1 + n) "_law_spoilt" 2 (fn__law_spoilt G n)) : Def G (2 + 1 + n + 1) "_law_spoilt" 2 (fn__law_spoilt G (n + 1)) :=
  def_at (k := 2 + 1 + n) (sb := sb__law_spoilt G (fn__law_spoilt G n)) F sc__law_spoilt (fun _ _ _ _ _ us hl => match us, hl with | [_, _], _ => rfl) fun f A outer s H o hr hcell => let hrR := hr;
    (ds_cons (x_set o 2 (x_call o d__law_take (hr.mono (by omega)) (da_cons (x_var o 0) (da_cons de_int da_nil))))
    (ds_cons (ds_if (PW.pt (dw_and (dt_val (x_isiT o T.b_isinstance (x_var o 1) (x_tys o T.b_tuple (by decide +kernel) (x_tys o T.b_list (by decide +kernel) dy_nil)))) (dw_and (dt_cmp do_gt (x_bi o (dc_len o.on) T.b_len (by decide +kernel) (da_cons (x_var o 1) da_nil)) de_int (nomark _)) (dw_and1 (dt_cmp do_gt (x_var o 2) de_int (nomark _)))))) (ds_cons (x_set o 3 (x_bt o (dc_list o.on) T.b_list (by decide +kernel) (da_cons (x_var o 1) da_nil)))
    (ds_cons (x_set o 4 (x_call o d__law_take (hr.mono (by omega)) (da_cons (x_var o 0) (da_cons (x_bi o (dc_len o.on) T.b_len (by decide +kernel) (da_cons (x_var o 3) da_nil)) da_nil))))
    (ds_cons (ds_if (dt_cmp (do_eq (k := 0) o.on (hr.mono (Nat.zero_le _))) (x_var o 2) de_int (nomark _)) (ds_one (x_set o 3 (x_add o (x_slice o (x_var o 3) dp_none (dp_some (x_var o 4))) (x_slice o (x_var o 3) (dp_some (x_add o (x_var o 4) de_int)) dp_none)))) (ds_one (ds_if (dt_cmp (do_eq (k := 0) o.on (hr.mono (Nat.zero_le _))) (x_var o 2) de_int (nomark _)) (ds_one (x_set o 3 (x_add o (x_slice o (x_var o 3) dp_none (dp_some (x_add o (x_var o 4) de_int))) (x_slice o (x_var o 3) (dp_some (x_var o 4)) dp_none)))) (ds_one (ds_if (dt_cmp (do_eq (k := 0) o.on (hr.mono (Nat.zero_le _))) (x_var o 2) de_int (nomark _)) (ds_cons (x_set o 5 (x_call o d__law_take (hr.mono (by omega)) (da_cons (x_var o 0) (da_cons (x_bi o (dc_len o.on) T.b_len (by decide +kernel) (da_cons (x_var o 3) da_nil)) da_nil))))
    (ds_one (ds_put2 o.on (da_cons (x_ix o (x_var o 3) (x_var o 5)) (da_cons (x_ix o (x_var o 3) (x_var o 4)) da_nil)) (x_var o 3) (x_var o 4) (x_var o 3) (x_var o 5) (pg_tup o.on.calm (pgs_cons (pg_sub (x_var o 3) (x_var o 4) set_list) (pgs_cons (pg_sub (x_var o 3) (x_var o 5) set_list) pgs_nil)))))) (ds_one (ds_if (dt_cmp (do_eq (k := 0) o.on (hr.mono (Nat.zero_le _))) (x_var o 2) de_int (nomark _)) (ds_one (ds_ret (de_if (dt_val (x_bi o (dc_isi o.on) T.b_isinstance (by decide +kernel) (da_cons (x_var o 1) (da_cons (x_ty o T.b_tuple (by decide +kernel)) da_nil)))) (x_var o 3) (x_bt o (dc_tuple o.on) T.b_tuple (by decide +kernel) (da_cons (x_var o 3) da_nil))))) (ds_one (ds_put (x_call o d_rec hrR (da_cons (x_var o 0) (da_cons (x_ix o (x_var o 3) (x_var o 4)) da_nil))) (x_var o 3) (x_var o 4) (pg_sub (x_var o 3) (x_var o 4) set_list))))))))))
    (ds_one (ds_ret (de_if (dt_val (x_bi o (dc_isi o.on) T.b_isinstance (by decide +kernel) (da_cons (x_var o 1) (da_cons (x_ty o T.b_tuple (by decide +kernel)) da_nil)))) (x_bt o (dc_tuple o.on) T.b_tuple (by decide +kernel) (da_cons (x_var o 3) da_nil)) (x_var o 3))))))) ds_nil)
    (ds_cons (ds_if (PW.pt (dw_and (dt_val (x_bi o (dc_isi o.on) T.b_isinstance (by decide +kernel) (da_cons (x_var o 1) (da_cons (x_ty o T.b_str (by decide +kernel)) da_nil)))) (dw_and1 (dt_cmp do_gt (x_var o 2) de_int (nomark _))))) (ds_one (ds_ret (x_ix o (de_lst (da_cons (x_add o (x_var o 1) de_str) (da_cons (x_slice o (x_var o 1) dp_none (dp_some (de_neg de_int))) (da_cons (x_add o (x_var o 1) de_str) (da_cons (de_upper (x_var o 1)) (da_cons (x_add o (x_var o 1) (x_var o 1)) (da_cons (x_add o de_str (x_var o 1)) (da_cons de_str da_nil)))))))) (x_sub o (x_var o 2) de_int)))) ds_nil)
    (ds_cons (ds_if (PW.pt (dw_and (dt_val (x_bi o (dc_isi o.on) T.b_isinstance (by decide +kernel) (da_cons (x_var o 1) (da_cons (x_ty o T.b_int (by decide +kernel)) da_nil)))) (dw_and1 (dt_cmp do_gt (x_var o 2) de_int (nomark _))))) (ds_one (ds_ret (x_ix o (de_lst (da_cons (x_add o (x_var o 1) de_int) (da_cons (x_sub o (x_var o 1) de_int) (da_cons (de_neg (x_var o 1)) (da_cons (x_add o (x_var o 1) de_int) (da_cons (x_bt o dc_str T.b_str (by decide +kernel) (da_cons (x_var o 1) da_nil)) (da_cons (x_add o (x_var o 1) de_int) (da_cons (de_tup (da_cons (x_var o 1) da_nil)) da_nil)))))))) (x_sub o (x_var o 2) de_int)))) ds_nil)
    (ds_one (ds_ret (x_call o d__law_odd (hr.mono (by omega)) (da_cons (x_var o 0) da_nil))))))))
theorem d__law_spoilt {cdv : Value} (T : T0 G) (F : FnAt G "_law_spoilt" st__law_spoilt cdv) (d__law_odd : Def G 2 "_law_odd" 1 (fn__law_odd G)) (d__law_take : Def G 1 "_law_take" 2 (fn__law_take G)) : ∀ n : Nat, Def G (2 + 1 + n) "_law_spoilt" 2 (fn__law_spoilt G n)
  | 0 => def_never F sc__law_spoilt (fun _ _ _ _ _ us hl => match us, hl with | [_, _], _ => rfl)
  | n + 1 => s__law_spoilt T F d__law_odd d__law_take n (d__law_spoilt T F d__law_odd d__law_take n)
/-! ### _law_stations -/
abbrev st__law_stations : Stmt := top 32
theorem sc__law_stations : FnScope ["bag", "most", "found", "wide", "name", "across", "along", "by", "hearer", "power", "need"] ["bag", "most"] (defScope st__law_stations) := ⟨rfl, rfl, rfl, by decide +kernel, rfl, by decide +kernel, by decide +kernel⟩
noncomputable def sb__law_stations (G : G0) : FS :=
    (sSeq (sSet 2 (fLst fNil))
    (sSeq (sSet 3 (fOp (ixG G) (fLst (fCons (fC (.int 4)) (fCons (fC (.int 12)) (fCons (fC (.int 60)) (fCons (fC (.int 1000)) fNil))))) (fFn 2 (fn__law_take G) (fCons (fV 0) (fCons (fC (.int 4)) fNil)))))
    (sSeq (sFor (iSeq (fSl (fLst (fCons (fC (.str "ann")) (fCons (fC (.str "bo")) (fCons (fC (.str "cy")) (fCons (fC (.str "dee")) (fCons (fC (.str "eli")) (fCons (fC (.str "fay")) (fCons (fC (.str "gus")) (fCons (fC (.str "hal")) fNil))))))))) oNone (oSome (fOp addD (fC (.int 1)) (fFn 2 (fn__law_take G) (fCons (fV 0) (fCons (fV 1) fNil))))))) (.one 4) (sSeq (sPar [5, 6] (fCons (fOp subD (fFn 2 (fn__law_take G) (fCons (fV 0) (fCons (fOp addD (fOp mulD (fC (.int 2)) (fV 3)) (fC (.int 1))) fNil))) (fV 3)) (fCons (fOp subD (fFn 2 (fn__law_take G) (fCons (fV 0) (fCons (fOp addD (fOp mulD (fC (.int 2)) (fV 3)) (fC (.int 1))) fNil))) (fV 3)) fNil)))
    (sSeq (sSet 7 (fOp addD (fC (.int 1)) (fOp fdivD (fV 3) (fC (.int 3)))))
    (sSeq (sSet 8 (fTup (fCons (fCall maxD (fCons (fNeg (fC (.int 1000))) (fCons (fOp subD (fV 5) (fFn 2 (fn__law_take G) (fCons (fV 0) (fCons (fV 7) fNil)))) fNil))) (fCons (fCall minD (fCons (fC (.int 1000)) (fCons (fOp addD (fV 6) (fFn 2 (fn__law_take G) (fCons (fV 0) (fCons (fV 7) fNil)))) fNil))) fNil))))
    (sSeq (sSet 9 (fOp (ixG G) (fLst (fCons (fC (.int 1)) (fCons (fC (.int 100)) (fCons (fOp addD (fC (.int 1)) (fFn 2 (fn__law_take G) (fCons (fV 0) (fCons (fC (.int 1000)) fNil)))) (fCons (fOp addD (fC (.int 1)) (fFn 2 (fn__law_take G) (fCons (fV 0) (fCons (fC (.int 1000000)) fNil)))) fNil))))) (fFn 2 (fn__law_take G) (fCons (fV 0) (fCons (fC (.int 4)) fNil)))))
    (sSeq (sSet 10 (fOp addD (fC (.int 1)) (fFn 2 (fn__law_take G) (fCons (fV 0) (fCons (fOp (ixG G) (fLst (fCons (fC (.int 2)) (fCons (fC (.int 10)) (fCons (fC (.int 1000)) fNil)))) (fFn 2 (fn__law_take G) (fCons (fV 0) (fCons (fC (.int 3)) fNil)))) fNil)))))
    (sExpr (fApp (fV 2) (fTup (fCons (fV 4) (fCons (fTup (fCons (fV 5) (fCons (fV 6) fNil))) (fCons (fV 9) (fCons (fV 8) (fCons (fV 10) fNil))))))))))))))
    (sRet (fCall tupleD (fCons (fV 2) fNil))))))
noncomputable def fn__law_stations (G : G0) : HA := runD 11 (sb__law_stations G)
theorem d__law_stations {cdv : Value} (T : T0 G) (F : FnAt G "_law_stations" st__law_stations cdv) (d__law_take : Def G 1 "_law_take" 2 (fn__law_take G)) : Def G 2 "_law_stations" 2 (fn__law_stations G) :=
  def_at (k := 1) (sb := sb__law_stations G) F sc__law_stations (fun _ _ _ _ _ us hl => match us, hl with | [_, _], _ => rfl) fun f A outer s H o hr hcell =>
    (ds_cons (x_set o 2 (de_lst da_nil))
    (ds_cons (x_set o 3 (x_ix o (de_lst (da_cons de_int (da_cons de_int (da_cons de_int (da_cons de_int da_nil))))) (x_call o d__law_take (hr.mono (by decide)) (da_cons (x_var o 0) (da_cons de_int da_nil)))))
    (ds_cons (x_for o (x_in o (x_slice o (de_lst (da_cons de_str (da_cons de_str (da_cons de_str (da_cons de_str (da_cons de_str (da_cons de_str (da_cons de_str (da_cons de_str da_nil))))))))) dp_none (dp_some (x_add o de_int (x_call o d__law_take (hr.mono (by decide)) (da_cons (x_var o 0) (da_cons (x_var o 1) da_nil))))))) (x_tg1 o 4) (ds_cons (x_par2 o 5 6 (da_cons (x_sub o (x_call o d__law_take (hr.mono (by decide)) (da_cons (x_var o 0) (da_cons (x_add o (x_mul o de_int (x_var o 3)) de_int) da_nil))) (x_var o 3)) (da_cons (x_sub o (x_call o d__law_take (hr.mono (by decide)) (da_cons (x_var o 0) (da_cons (x_add o (x_mul o de_int (x_var o 3)) de_int) da_nil))) (x_var o 3)) da_nil)))
    (ds_cons (x_set o 7 (x_add o de_int (x_fdiv o (x_var o 3) de_int)))
    (ds_cons (x_set o 8 (de_tup (da_cons (x_bi o (dc_max o.on) T.b_max (by decide +kernel) (da_cons (de_neg de_int) (da_cons (x_sub o (x_var o 5) (x_call o d__law_take (hr.mono (by decide)) (da_cons (x_var o 0) (da_cons (x_var o 7) da_nil)))) da_nil))) (da_cons (x_bi o (dc_min o.on) T.b_min (by decide +kernel) (da_cons de_int (da_cons (x_add o (x_var o 6) (x_call o d__law_take (hr.mono (by decide)) (da_cons (x_var o 0) (da_cons (x_var o 7) da_nil)))) da_nil))) da_nil))))
    (ds_cons (x_set o 9 (x_ix o (de_lst (da_cons de_int (da_cons de_int (da_cons (x_add o de_int (x_call o d__law_take (hr.mono (by decide)) (da_cons (x_var o 0) (da_cons de_int da_nil)))) (da_cons (x_add o de_int (x_call o d__law_take (hr.mono (by decide)) (da_cons (x_var o 0) (da_cons de_int da_nil)))) da_nil))))) (x_call o d__law_take (hr.mono (by decide)) (da_cons (x_var o 0) (da_cons de_int da_nil)))))
    (ds_cons (x_set o 10 (x_add o de_int (x_call o d__law_take (hr.mono (by decide)) (da_cons (x_var o 0) (da_cons (x_ix o (de_lst (da_cons de_int (da_cons de_int (da_cons de_int da_nil)))) (x_call o d__law_take (hr.mono (by decide)) (da_cons (x_var o 0) (da_cons de_int da_nil)))) da_nil)))))
    (ds_one (ds_expr (de_append o.on (x_var o 2) (de_tup (da_cons (x_var o 4) (da_cons (de_tup (da_cons (x_var o 5) (da_cons (x_var o 6) da_nil))) (da_cons (x_var o 9) (da_cons (x_var o 8) (da_cons (x_var o 10) da_nil)))))))))))))))
    (ds_one (ds_ret (x_bt o (dc_tuple o.on) T.b_tuple (by decide +kernel) (da_cons (x_var o 2) da_nil)))))))
/-! ### _law_air -/
abbrev st__law_air : Stmt := top 33
theorem sc__law_air : FnScope ["bag", "most"] ["bag", "most"] (defScope st__law_air) := ⟨rfl, rfl, rfl, by decide +kernel, rfl, by decide +kernel, by decide +kernel⟩
noncomputable def sb__law_air (G : G0) : FS :=
    (sRet (fTup (fCons (fFn 2 (fn__law_stations G) (fCons (fV 0) (fCons (fV 1) fNil))) (fCons (fOp (ixG G) (fLst (fCons (fC (.int 1)) (fCons (fC (.int 1000)) (fCons (fOp addD (fC (.int 1)) (fFn 2 (fn__law_take G) (fCons (fV 0) (fCons (fC (.int 50)) fNil)))) fNil)))) (fFn 2 (fn__law_take G) (fCons (fV 0) (fCons (fC (.int 3)) fNil)))) fNil))))
noncomputable def fn__law_air (G : G0) : HA := runD 2 (sb__law_air G)
theorem d__law_air {cdv : Value} (T : T0 G) (F : FnAt G "_law_air" st__law_air cdv) (d__law_stations : Def G 2 "_law_stations" 2 (fn__law_stations G)) (d__law_take : Def G 1 "_law_take" 2 (fn__law_take G)) : Def G 3 "_law_air" 2 (fn__law_air G) :=
  def_at (k := 2) (sb := sb__law_air G) F sc__law_air (fun _ _ _ _ _ us hl => match us, hl with | [_, _], _ => rfl) fun f A outer s H o hr hcell =>
    (ds_one (ds_ret (de_tup (da_cons (x_call o d__law_stations (hr.mono (by decide)) (da_cons (x_var o 0) (da_cons (x_var o 1) da_nil))) (da_cons (x_ix o (de_lst (da_cons de_int (da_cons de_int (da_cons (x_add o de_int (x_call o d__law_take (hr.mono (by decide)) (da_cons (x_var o 0) (da_cons de_int da_nil)))) da_nil)))) (x_call o d__law_take (hr.mono (by decide)) (da_cons (x_var o 0) (da_cons de_int da_nil)))) da_nil)))))
/-! ### _law_tuning -/
abbrev st__law_tuning : Stmt := top 34
theorem sc__law_tuning : FnScope ["bag", "air", "bands", "silent", "found", "station"] ["bag", "air", "bands", "silent"] (defScope st__law_tuning) := ⟨rfl, rfl, rfl, by decide +kernel, rfl, by decide +kernel, by decide +kernel⟩
noncomputable def sb__law_tuning (G : G0) : FS :=
    (sSeq (sSet 4 (fLst fNil))
    (sSeq (sFor (iSeq (fOp (ixG G) (fV 1) (fC (.int 0)))) (.one 5) (sExpr (fApp (fV 4) (fIf (fTAnd (fTst (fV 3)) (fTst (fOp eqD (fFn 2 (fn__law_take G) (fCons (fV 0) (fCons (fC (.int 4)) fNil))) (fC (.int 0))))) (fC (.int 0)) (fOp addD (fC (.int 1)) (fFn 2 (fn__law_take G) (fCons (fV 0) (fCons (fV 2) fNil))))))))
    (sRet (fCall tupleD (fCons (fV 4) fNil)))))
noncomputable def fn__law_tuning (G : G0) : HA := runD 6 (sb__law_tuning G)
theorem d__law_tuning {cdv : Value} (T : T0 G) (F : FnAt G "_law_tuning" st__law_tuning cdv) (d__law_take : Def G 1 "_law_take" 2 (fn__law_take G)) : Def G 2 "_law_tuning" 4 (fn__law_tuning G) :=
  def_at (k := 1) (sb := sb__law_tuning G) F sc__law_tuning (fun _ _ _ _ _ us hl => match us, hl with | [_, _, _, _], _ => rfl) fun f A outer s H o hr hcell =>
    (ds_cons (x_set o 4 (de_lst da_nil))
    (ds_cons (x_for o (x_in o (x_ix o (x_var o 1) de_int)) (x_tg1 o 5) (ds_one (ds_expr (de_append o.on (x_var o 4) (de_if (PW.pt (dw_and (dt_val (x_var o 3)) (dw_and1 (dt_cmp (do_eq (k := 0) o.on (hr.mono (Nat.zero_le _))) (x_call o d__law_take (hr.mono (by decide)) (da_cons (x_var o 0) (da_cons de_int da_nil))) de_int (nomark _))))) de_int (x_add o de_int (x_call o d__law_take (hr.mono (by decide)) (da_cons (x_var o 0) (da_cons (x_var o 2) da_nil)))))))))
    (ds_one (ds_ret (x_bt o (dc_tuple o.on) T.b_tuple (by decide +kernel) (da_cons (x_var o 4) da_nil))))))
/-! ### _law_is_spot -/
abbrev st__law_is_spot : Stmt := top 35
theorem sc__law_is_spot : FnScope ["thing"] ["thing"] (defScope st__law_is_spot) := ⟨rfl, rfl, rfl, by decide +kernel, rfl, by decide +kernel, by decide +kernel⟩
noncomputable def sb__law_is_spot (G : G0) : FS :=
    (sSeq (sIf (fTOr (fTNot (fTst (fCall isiD (fCons (fV 0) (fCons (fC (.ty "tuple")) fNil))))) (fTst (fOp neD (fCall (lenD G) (fCons (fV 0) fNil)) (fC (.int 2))))) (sRet (fC (.bl false))) sNext)
    (sRet (fAnd (fFn 3 (fn__law_within G) (fCons (fOp (ixG G) (fV 0) (fC (.int 0))) (fCons (fNeg (fC (.int 1000))) (fCons (fC (.int 1000)) fNil)))) (fFn 3 (fn__law_within G) (fCons (fOp (ixG G) (fV 0) (fC (.int 1))) (fCons (fNeg (fC (.int 1000))) (fCons (fC (.int 1000)) fNil)))))))
noncomputable def fn__law_is_spot (G : G0) : HA := runD 1 (sb__law_is_spot G)
theorem d__law_is_spot {cdv : Value} (T : T0 G) (F : FnAt G "_law_is_spot" st__law_is_spot cdv) (d__law_within : Def G 1 "_law_within" 3 (fn__law_within G)) : Def G 2 "_law_is_spot" 1 (fn__law_is_spot G) :=
  def_at (k := 1) (sb := sb__law_is_spot G) F sc__law_is_spot (fun _ _ _ _ _ us hl => match us, hl with | [_], _ => rfl) fun f A outer s H o hr hcell =>
    (ds_cons (ds_if (PW.pt (dw_or (dt_not (dt_val (x_bi o (dc_isi o.on) T.b_isinstance (by decide +kernel) (da_cons (x_var o 0) (da_cons (x_ty o T.b_tuple (by decide +kernel)) da_nil))))) (dw_or1 (dt_cmp (do_ne (k := 0) o.on (hr.mono (Nat.zero_le _))) (x_bi o (dc_len o.on) T.b_len (by decide +kernel) (da_cons (x_var o 0) da_nil)) de_int (nomark _))))) (ds_one (ds_ret de_bl)) ds_nil)
    (ds_one (ds_ret (de_and (x_call o d__law_within (hr.mono (by decide)) (da_cons (x_ix o (x_var o 0) de_int) (da_cons (de_neg de_int) (da_cons de_int da_nil)))) (de_one (x_call o d__law_within (hr.mono (by decide)) (da_cons (x_ix o (x_var o 0) de_int) (da_cons (de_neg de_int) (da_cons de_int da_nil)))))))))
/-! ### _law_are_stations -/
abbrev st__law_are_stations : Stmt := top 36
theorem sc__law_are_stations : FnScope ["thing", "one", "names"] ["thing"] (defScope st__law_are_stations) := ⟨rfl, rfl, rfl, by decide +kernel, rfl, by decide +kernel, by decide +kernel⟩
noncomputable def sb__law_are_stations (G : G0) : FS :=
    (sSeq (sIf (fTOr (fTNot (fTst (fCall isiD (fCons (fV 0) (fCons (fC (.ty "tuple")) fNil))))) (fTNot (fTst (fChain leD leD (fC (.int 1)) (fCall (lenD G) (fCons (fV 0) fNil)) (fC (.int 8)))))) (sRet (fC (.bl false))) sNext)
    (sSeq (sFor (iSeq (fV 0)) (.one 1) (sSeq (sIf (fTOr (fTNot (fTst (fCall isiD (fCons (fV 1) (fCons (fC (.ty "tuple")) fNil))))) (fTOr (fTst (fOp neD (fCall (lenD G) (fCons (fV 1) fNil)) (fC (.int 5)))) (fTNot (fTst (fFn 1 (fn__law_is_name G) (fCons (fOp (ixG G) (fV 1) (fC (.int 0))) fNil)))))) (sRet (fC (.bl false))) sNext)
    (sSeq (sIf (fTOr (fTNot (fTst (fFn 1 (fn__law_is_spot G) (fCons (fOp (ixG G) (fV 1) (fC (.int 1))) fNil)))) (fTNot (fTst (fFn 1 (fn__law_is_spot G) (fCons (fOp (ixG G) (fV 1) (fC (.int 3))) fNil))))) (sRet (fC (.bl false))) sNext)
    (sIf (fTOr (fTNot (fTst (fFn 3 (fn__law_within G) (fCons (fOp (ixG G) (fV 1) (fC (.int 2))) (fCons (fC (.int 1)) (fCons (fC (.int 1000000)) fNil)))))) (fTNot (fTst (fFn 3 (fn__law_within G) (fCons (fOp (ixG G) (fV 1) (fC (.int 4))) (fCons (fC (.int 1)) (fCons (fC (.int 1000)) fNil))))))) (sRet (fC (.bl false))) sNext))))
    (sSeq (sSet 2 (fLc (iSeq (fV 0)) (.one 1) fYes (fOp (ixG G) (fV 1) (fC (.int 0))) [1]))
    (sRet (fOp eqD (fV 2) (fSortSet (fV 2)))))))
noncomputable def fn__law_are_stations (G : G0) : HA := runD 3 (sb__law_are_stations G)
theorem d__law_are_stations {cdv : Value} (T : T0 G) (F : FnAt G "_law_are_stations" st__law_are_stations cdv) (d__law_is_name : Def G 1 "_law_is_name" 1 (fn__law_is_name G)) (d__law_is_spot : Def G 2 "_law_is_spot" 1 (fn__law_is_spot G)) (d__law_within : Def G 1 "_law_within" 3 (fn__law_within G)) : Def G 3 "_law_are_stations" 1 (fn__law_are_stations G) :=
  def_at (k := 2) (sb := sb__law_are_stations G) F sc__law_are_stations (fun _ _ _ _ _ us hl => match us, hl with | [_], _ => rfl) fun f A outer s H o hr hcell =>
    (ds_cons (ds_if (PW.pt (dw_or (dt_not (dt_val (x_bi o (dc_isi o.on) T.b_isinstance (by decide +kernel) (da_cons (x_var o 0) (da_cons (x_ty o T.b_tuple (by decide +kernel)) da_nil))))) (dw_or1 (dt_not (dt_chain do_le do_le de_int (x_bi o (dc_len o.on) T.b_len (by decide +kernel) (da_cons (x_var o 0) da_nil)) de_int))))) (ds_one (ds_ret de_bl)) ds_nil)
    (ds_cons (x_for o (x_in o (x_var o 0)) (x_tg1 o 1) (ds_cons (ds_if (PW.pt (dw_or (dt_not (dt_val (x_bi o (dc_isi o.on) T.b_isinstance (by decide +kernel) (da_cons (x_var o 1) (da_cons (x_ty o T.b_tuple (by decide +kernel)) da_nil))))) (dw_or (dt_cmp (do_ne (k := 0) o.on (hr.mono (Nat.zero_le _))) (x_bi o (dc_len o.on) T.b_len (by decide +kernel) (da_cons (x_var o 1) da_nil)) de_int (nomark _)) (dw_or1 (dt_not (dt_val (x_call o d__law_is_name (hr.mono (by decide)) (da_cons (x_ix o (x_var o 1) de_int) da_nil)))))))) (ds_one (ds_ret de_bl)) ds_nil)
    (ds_cons (ds_if (PW.pt (dw_or (dt_not (dt_val (x_call o d__law_is_spot (hr.mono (by decide)) (da_cons (x_ix o (x_var o 1) de_int) da_nil)))) (dw_or1 (dt_not (dt_val (x_call o d__law_is_spot (hr.mono (by decide)) (da_cons (x_ix o (x_var o 1) de_int) da_nil))))))) (ds_one (ds_ret de_bl)) ds_nil)
    (ds_one (ds_if (PW.pt (dw_or (dt_not (dt_val (x_call o d__law_within (hr.mono (by decide)) (da_cons (x_ix o (x_var o 1) de_int) (da_cons de_int (da_cons de_int da_nil)))))) (dw_or1 (dt_not (dt_val (x_call o d__law_within (hr.mono (by decide)) (da_cons (x_ix o (x_var o 1) de_int) (da_cons de_int (da_cons de_int da_nil))))))))) (ds_one (ds_ret de_bl)) ds_nil)))))
    (ds_cons (x_setLc o 2 [("one", 1)] (x_in o (x_var o 0)) (fun X' o' hA => (x_tg1 o' 1)) (fun X' o' hA => dts_nil) (fun X' o' hA => (x_ix o' (x_var o' 1) de_int)))
    (ds_one (ds_ret (de_cmp (do_eq (k := 0) o.on (hr.mono (Nat.zero_le _))) (x_var o 2) (x_sortset (k := 0) o (hr.mono (Nat.zero_le _)) T.b_sorted T.b_set (x_var o 2)) (nomark _)))))))
/-! ### _law_is_tuning -/
abbrev st__law_is_tuning : Stmt := top 37
theorem sc__law_is_tuning : FnScope ["air", "thing", "band"] ["air", "thing"] (defScope st__law_is_tuning) := ⟨rfl, rfl, rfl, by decide +kernel, rfl, by decide +kernel, by decide +kernel⟩
noncomputable def sb__law_is_tuning (G : G0) : FS :=
    (sSeq (sIf (fTOr (fTNot (fTst (fCall isiD (fCons (fV 1) (fCons (fC (.ty "tuple")) fNil))))) (fTst (fOp neD (fCall (lenD G) (fCons (fV 1) fNil)) (fCall (lenD G) (fCons (fOp (ixG G) (fV 0) (fC (.int 0))) fNil))))) (sRet (fC (.bl false))) sNext)
    (sRet (fOp eqD (fLc (iSeq (fV 1)) (.one 2) (fTNot (fTst (fFn 3 (fn__law_within G) (fCons (fV 2) (fCons (fC (.int 0)) (fCons (fC (.int 9)) fNil)))))) (fV 2) [2]) (fLst fNil))))
noncomputable def fn__law_is_tuning (G : G0) : HA := runD 3 (sb__law_is_tuning G)
theorem d__law_is_tuning {cdv : Value} (T : T0 G) (F : FnAt G "_law_is_tuning" st__law_is_tuning cdv) (d__law_within : Def G 1 "_law_within" 3 (fn__law_within G)) : Def G 2 "_law_is_tuning" 2 (fn__law_is_tuning G) :=
  def_at (k := 1) (sb := sb__law_is_tuning G) F sc__law_is_tuning (fun _ _ _ _ _ us hl => match us, hl with | [_, _], _ => rfl) fun f A outer s H o hr hcell =>
    (ds_cons (ds_if (PW.pt (dw_or (dt_not (dt_val (x_bi o (dc_isi o.on) T.b_isinstance (by decide +kernel) (da_cons (x_var o 1) (da_cons (x_ty o T.b_tuple (by decide +kernel)) da_nil))))) (dw_or1 (dt_cmp (do_ne (k := 0) o.on (hr.mono (Nat.zero_le _))) (x_bi o (dc_len o.on) T.b_len (by decide +kernel) (da_cons (x_var o 1) da_nil)) (x_bi o (dc_len o.on) T.b_len (by decide +kernel) (da_cons (x_ix o (x_var o 0) de_int) da_nil)) (nomark _))))) (ds_one (ds_ret de_bl)) ds_nil)
    (ds_one (ds_ret (de_cmp (do_eq (k := 0) o.on (hr.mono (Nat.zero_le _))) (x_lc o [("band", 2)] (x_in o (x_var o 1)) (fun X' o' hA => (x_tg1 o' 2)) (fun X' o' hA => (dts_one (dt_not (dt_val (x_call o' d__law_within (by rw [hA]; exact (hr.mono (by decide))) (da_cons (x_var o' 2) (da_cons de_int (da_cons de_int da_nil)))))))) (fun X' o' hA => (x_var o' 2))) (de_lst da_nil) (nomark _)))))
/-! ### _law_is_air -/
abbrev st__law_is_air : Stmt := top 38
theorem sc__law_is_air : FnScope ["thing"] ["thing"] (defScope st__law_is_air) := ⟨rfl, rfl, rfl, by decide +kernel, rfl, by decide +kernel, by decide +kernel⟩
noncomputable def sb__law_is_air (G : G0) : FS :=
    (sSeq (sIf (fTOr (fTNot (fTst (fCall isiD (fCons (fV 0) (fCons (fC (.ty "tuple")) fNil))))) (fTOr (fTst (fOp neD (fCall (lenD G) (fCons (fV 0) fNil)) (fC (.int 2)))) (fTNot (fTst (fFn 1 (fn__law_are_stations G) (fCons (fOp (ixG G) (fV 0) (fC (.int 0))) fNil)))))) (sRet (fC (.bl false))) sNext)
    (sRet (fFn 3 (fn__law_within G) (fCons (fOp (ixG G) (fV 0) (fC (.int 1))) (fCons (fC (.int 1)) (fCons (fC (.int 1000)) fNil))))))
noncomputable def fn__law_is_air (G : G0) : HA := runD 1 (sb__law_is_air G)
theorem d__law_is_air {cdv : Value} (T : T0 G) (F : FnAt G "_law_is_air" st__law_is_air cdv) (d__law_are_stations : Def G 3 "_law_are_stations" 1 (fn__law_are_stations G)) (d__law_within : Def G 1 "_law_within" 3 (fn__law_within G)) : Def G 4 "_law_is_air" 1 (fn__law_is_air G) :=
  def_at (k := 3) (sb := sb__law_is_air G) F sc__law_is_air (fun _ _ _ _ _ us hl => match us, hl with | [_], _ => rfl) fun f A outer s H o hr hcell =>
    (ds_cons (ds_if (PW.pt (dw_or (dt_not (dt_val (x_bi o (dc_isi o.on) T.b_isinstance (by decide +kernel) (da_cons (x_var o 0) (da_cons (x_ty o T.b_tuple (by decide +kernel)) da_nil))))) (dw_or (dt_cmp (do_ne (k := 0) o.on (hr.mono (Nat.zero_le _))) (x_bi o (dc_len o.on) T.b_len (by decide +kernel) (da_cons (x_var o 0) da_nil)) de_int (nomark _)) (dw_or1 (dt_not (dt_val (x_call o d__law_are_stations (hr.mono (by decide)) (da_cons (x_ix o (x_var o 0) de_int) da_nil)))))))) (ds_one (ds_ret de_bl)) ds_nil)
    (ds_one (ds_ret (x_call o d__law_within (hr.mono (by decide)) (da_cons (x_ix o (x_var o 0) de_int) (da_cons de_int (da_cons de_int da_nil)))))))
/-! ### _law_at_bounds -/
abbrev st__law_at_bounds : Stmt := top 39
theorem sc__law_at_bounds : FnScope ["bag", "place", "power", "need"] ["bag"] (defScope st__law_at_bounds) := ⟨rfl, rfl, rfl, by decide +kernel, rfl, by decide +kernel, by decide +kernel⟩
noncomputable def sb__law_at_bounds (G : G0) : FS :=
    (sSeq (sSet 1 (fTup (fCons (fFn 2 (fn__law_of G) (fCons (fV 0) (fCons (fLst (fCons (fC (.int 1000)) (fCons (fNeg (fC (.int 1000))) (fCons (fC (.int 1001)) (fCons (fNeg (fC (.int 1001))) (fCons (fC (.int 0)) fNil)))))) fNil))) (fCons (fFn 2 (fn__law_of G) (fCons (fV 0) (fCons (fLst (fCons (fC (.int 0)) (fCons (fC (.int 1000)) (fCons (fNeg (fC (.int 1000))) fNil)))) fNil))) fNil))))
    (sSeq (sPar [2, 3] (fCons (fFn 2 (fn__law_of G) (fCons (fV 0) (fCons (fLst (fCons (fC (.int 1)) (fCons (fC (.int 1000000)) (fCons (fC (.int 0)) (fCons (fC (.int 1000001)) fNil))))) fNil))) (fCons (fFn 2 (fn__law_of G) (fCons (fV 0) (fCons (fLst (fCons (fC (.int 1)) (fCons (fC (.int 1000)) (fCons (fC (.int 0)) (fCons (fC (.int 1001)) fNil))))) fNil))) fNil)))
    (sRet (fTup (fCons (fTup (fCons (fC (.str "ann")) (fCons (fV 1) (fCons (fV 2) (fCons (fTup (fCons (fC (.int 0)) (fCons (fFn 2 (fn__law_of G) (fCons (fV 0) (fCons (fLst (fCons (fC (.int 1000)) (fCons (fC (.int 1001)) (fCons (fNeg (fC (.int 1000))) fNil)))) fNil))) fNil))) (fCons (fV 3) fNil)))))) fNil)))))
noncomputable def fn__law_at_bounds (G : G0) : HA := runD 4 (sb__law_at_bounds G)
theorem d__law_at_bounds {cdv : Value} (T : T0 G) (F : FnAt G "_law_at_bounds" st__law_at_bounds cdv) (d__law_of : Def G 2 "_law_of" 2 (fn__law_of G)) : Def G 3 "_law_at_bounds" 1 (fn__law_at_bounds G) :=
  def_at (k := 2) (sb := sb__law_at_bounds G) F sc__law_at_bounds (fun _ _ _ _ _ us hl => match us, hl with | [_], _ => rfl) fun f A outer s H o hr hcell =>
    (ds_cons (x_set o 1 (de_tup (da_cons (x_call o d__law_of (hr.mono (by decide)) (da_cons (x_var o 0) (da_cons (de_lst (da_cons de_int (da_cons (de_neg de_int) (da_cons de_int (da_cons (de_neg de_int) (da_cons de_int da_nil)))))) da_nil))) (da_cons (x_call o d__law_of (hr.mono (by decide)) (da_cons (x_var o 0) (da_cons (de_lst (da_cons de_int (da_cons de_int (da_cons (de_neg de_int) da_nil)))) da_nil))) da_nil))))
    (ds_cons (x_par2 o 2 3 (da_cons (x_call o d__law_of (hr.mono (by decide)) (da_cons (x_var o 0) (da_cons (de_lst (da_cons de_int (da_cons de_int (da_cons de_int (da_cons de_int da_nil))))) da_nil))) (da_cons (x_call o d__law_of (hr.mono (by decide)) (da_cons (x_var o 0) (da_cons (de_lst (da_cons de_int (da_cons de_int (da_cons de_int (da_cons de_int da_nil))))) da_nil))) da_nil)))
    (ds_one (ds_ret (de_tup (da_cons (de_tup (da_cons de_str (da_cons (x_var o 1) (da_cons (x_var o 2) (da_cons (de_tup (da_cons de_int (da_cons (x_call o d__law_of (hr.mono (by decide)) (da_cons (x_var o 0) (da_cons (de_lst (da_cons de_int (da_cons de_int (da_cons (de_neg de_int) da_nil)))) da_nil))) da_nil))) (da_cons (x_var o 3) da_nil)))))) da_nil))))))
/-! ### law -/
abbrev st_law : Stmt := top 40
theorem sc_law : FnScope ["script", "k", "bag", "air", "nine", "stations", "other", "tuning", "thing", "turn", "told", "name", "one"] ["script"] (defScope st_law) := ⟨rfl, rfl, rfl, by decide +kernel, rfl, by decide +kernel, by decide +kernel⟩
noncomputable def sb_law (G : G0) : FS :=
    (sSeq (sFor (iRange1 (fCons (fOp addD (fC (.int 1)) (fCall minD (fCons (fCall (lenD G) (fCons (fV 0) fNil)) (fCons (fC (.int 30)) fNil)))) fNil)) (.one 1) (sSeq (sSet 2 (fFn 2 (fn__law_bag G) (fCons (fV 0) (fCons (fV 1) fNil))))
    (sSeq (sSet 3 (fFn 2 (fn__law_air G) (fCons (fV 2) (fCons (fC (.int 8)) fNil))))
    (sSeq (sSet 4 (fCall tupleD (fCons (fLc (iSeq (fLst (fCons (fC (.str "a")) (fCons (fC (.str "b")) (fCons (fC (.str "c")) (fCons (fC (.str "d")) (fCons (fC (.str "e")) (fCons (fC (.str "f")) (fCons (fC (.str "g")) (fCons (fC (.str "h")) (fCons (fC (.str "i")) fNil))))))))))) (.one 11) fYes (fTup (fCons (fV 11) (fCons (fTup (fCons (fC (.int 0)) (fCons (fC (.int 0)) fNil))) (fCons (fC (.int 1)) (fCons (fTup (fCons (fC (.int 0)) (fCons (fC (.int 0)) fNil))) (fCons (fC (.int 1)) fNil)))))) [11]) fNil)))
    (sSeq (sPar [5, 6, 7] (fCons (fOp (ixG G) (fV 3) (fC (.int 0))) (fCons (fV 3) (fCons (fFn 4 (fn__law_tuning G) (fCons (fV 2) (fCons (fV 3) (fCons (fC (.int 9)) (fCons (fC (.bl true)) fNil))))) fNil))))
    (sSeq (sFor (iSeq (fLst (fCons (fV 4) (fCons (fSl (fV 4) oNone (oSome (fC (.int 8)))) (fCons (fFn 1 (fn__law_at_bounds G) (fCons (fV 2) fNil)) (fCons (fRev (fOp (ixG G) (fV 3) (fC (.int 0)))) (fCons (fOp addD (fOp (ixG G) (fV 3) (fC (.int 0))) (fSl (fOp (ixG G) (fV 3) (fC (.int 0))) (oSome (fNeg (fC (.int 1)))) oNone)) (fCons (fFn 1 (fn__law_odd G) (fCons (fV 2) fNil)) (fCons (fTup fNil) fNil))))))))) (.one 8) (sSeq (sIf (fTOr (fTst (fOp neD (fFn 1 (fn_are_stations G) (fCons (fV 8) fNil)) (fFn 1 (fn__law_are_stations G) (fCons (fV 8) fNil)))) (fTst (fOp neD (fFn 1 (fn_is_air G) (fCons (fTup (fCons (fV 8) (fCons (fC (.int 5)) fNil))) fNil)) (fFn 1 (fn__law_is_air G) (fCons (fTup (fCons (fV 8) (fCons (fC (.int 5)) fNil))) fNil))))) (sRet (fC (.bl false))) sNext)
    (sIf (fTOr (fTst (fOp neD (fFn 2 (fn_is_tuning G) (fCons (fV 3) (fCons (fV 8) fNil))) (fFn 2 (fn__law_is_tuning G) (fCons (fV 3) (fCons (fV 8) fNil))))) (fTst (fOp neD (fFn 1 (fn_is_air G) (fCons (fV 8) fNil)) (fFn 1 (fn__law_is_air G) (fCons (fV 8) fNil))))) (sRet (fC (.bl false))) sNext)))
    (sFor (iRange1 (fCons (fC (.int 6)) fNil)) (.one 9) (sSeq (sSet 10 (fLst (fCons (fFn 1 (fn_are_stations G) (fCons (fV 5) fNil)) (fCons (fFn 1 (fn_is_air G) (fCons (fV 6) fNil)) (fCons (fFn 2 (fn_is_tuning G) (fCons (fV 3) (fCons (fV 7) fNil))) fNil)))))
    (sSeq (sIf (fTst (fOp neD (fV 10) (fLst (fCons (fFn 1 (fn__law_are_stations G) (fCons (fV 5) fNil)) (fCons (fFn 1 (fn__law_is_air G) (fCons (fV 6) fNil)) (fCons (fFn 2 (fn__law_is_tuning G) (fCons (fV 3) (fCons (fV 7) fNil))) fNil)))))) (sRet (fC (.bl false))) sNext)
    (sSeq (sIf (fTst (fOp neD (fLc (iSeq (fV 10)) (.one 12) (fTNot (fTst (fCall isiD (fCons (fV 12) (fCons (fC (.ty "bool")) fNil))))) (fV 12) [12]) (fLst fNil))) (sRet (fC (.bl false))) sNext)
    (sSeq (sPar [5, 6] (fCons (fFn 2 (fn__law_spoilt G 40) (fCons (fV 2) (fCons (fV 5) fNil))) (fCons (fFn 2 (fn__law_spoilt G 40) (fCons (fV 2) (fCons (fV 6) fNil))) fNil)))
    (sSet 7 (fFn 2 (fn__law_spoilt G 40) (fCons (fV 2) (fCons (fV 7) fNil)))))))))))))))
    (sRet (fC (.bl true))))
noncomputable def fn_law (G : G0) : HA := runD 13 (sb_law G)
theorem b_law {cdv : Value} (T : T0 G) (d__law_air : Def G 3 "_law_air" 2 (fn__law_air G)) (d__law_are_stations : Def G 3 "_law_are_stations" 1 (fn__law_are_stations G)) (d__law_at_bounds : Def G 3 "_law_at_bounds" 1 (fn__law_at_bounds G)) (d__law_bag : Def G 1 "_law_bag" 2 (fn__law_bag G)) (d__law_is_air : Def G 4 "_law_is_air" 1 (fn__law_is_air G)) (d__law_is_tuning : Def G 2 "_law_is_tuning" 2 (fn__law_is_tuning G)) (d__law_odd : Def G 2 "_law_odd" 1 (fn__law_odd G)) (d__law_spoilt : Def G 43 "_law_spoilt" 2 (fn__law_spoilt G 40)) (d__law_tuning : Def G 2 "_law_tuning" 4 (fn__law_tuning G)) (d_are_stations : Def G 7 "are_stations" 1 (fn_are_stations G)) (d_is_air : Def G 8 "is_air" 1 (fn_is_air G)) (d_is_tuning : Def G 4 "is_tuning" 2 (fn_is_tuning G)) : ∀ (f : Addr) (A : Around) (outer : List Env) (s : Shared) (H : Hp), Here G (bodyCx G ["script", "k", "bag", "air", "nine", "stations", "other", "tuning", "thing", "turn", "told", "name", "one"] "law" (defScope st_law) f cdv A outer s H) ["script", "k", "bag", "air", "nine", "stations", "other", "tuning", "thing", "turn", "told", "name", "one"] (defScope st_law) → Room 43 (bodyCx G ["script", "k", "bag", "air", "nine", "stations", "other", "tuning", "thing", "turn", "told", "name", "one"] "law" (defScope st_law) f cdv A outer s H).A → (∀ x : Str, (defScope st_law).names.lookup x = some .cell → ∃ c, (bodyCx G ["script", "k", "bag", "air", "nine", "stations", "other", "tuning", "thing", "turn", "told", "name", "one"] "law" (defScope st_law) f cdv A outer s H).env.cells.lookup x = some c) → PSs (bodyCx G ["script", "k", "bag", "air", "nine", "stations", "other", "tuning", "thing", "turn", "told", "name", "one"] "law" (defScope st_law) f cdv A outer s H) (defBody st_law) (liftS G (sb_law G)) :=
  fun f A outer s H o hr hcell =>
    (ds_cons (x_for o (x_rng1 o T.b_range (da_cons (x_add o de_int (x_bi o (dc_min o.on) T.b_min (by decide +kernel) (da_cons (x_bi o (dc_len o.on) T.b_len (by decide +kernel) (da_cons (x_var o 0) da_nil)) (da_cons de_int da_nil)))) da_nil)) (x_tg1 o 1) (ds_cons (x_set o 2 (x_call o d__law_bag (hr.mono (by decide)) (da_cons (x_var o 0) (da_cons (x_var o 1) da_nil))))
    (ds_cons (x_set o 3 (x_call o d__law_air (hr.mono (by decide)) (da_cons (x_var o 2) (da_cons de_int da_nil))))
    (ds_cons (x_set o 4 (x_bt o (dc_tuple o.on) T.b_tuple (by decide +kernel) (da_cons (x_lc o [("name", 11)] (x_in o (de_lst (da_cons de_str (da_cons de_str (da_cons de_str (da_cons de_str (da_cons de_str (da_cons de_str (da_cons de_str (da_cons de_str (da_cons de_str da_nil))))))))))) (fun X' o' hA => (x_tg1 o' 11)) (fun X' o' hA => dts_nil) (fun X' o' hA => (de_tup (da_cons (x_var o' 11) (da_cons (de_tup (da_cons de_int (da_cons de_int da_nil))) (da_cons de_int (da_cons (de_tup (da_cons de_int (da_cons de_int da_nil))) (da_cons de_int da_nil)))))))) da_nil)))
    (ds_cons (x_par3 o 5 6 7 (da_cons (x_ix o (x_var o 3) de_int) (da_cons (x_var o 3) (da_cons (x_call o d__law_tuning (hr.mono (by decide)) (da_cons (x_var o 2) (da_cons (x_var o 3) (da_cons de_int (da_cons de_bl da_nil))))) da_nil))))
    (ds_cons (x_for o (x_in o (de_lst (da_cons (x_var o 4) (da_cons (x_slice o (x_var o 4) dp_none (dp_some de_int)) (da_cons (x_call o d__law_at_bounds (hr.mono (by decide)) (da_cons (x_var o 2) da_nil)) (da_cons (x_rev o (x_ix o (x_var o 3) de_int)) (da_cons (x_add o (x_ix o (x_var o 3) de_int) (x_slice o (x_ix o (x_var o 3) de_int) (dp_some (de_neg de_int)) dp_none)) (da_cons (x_call o d__law_odd (hr.mono (by decide)) (da_cons (x_var o 2) da_nil)) (da_cons (de_tup da_nil) da_nil))))))))) (x_tg1 o 8) (ds_cons (ds_if (PW.pt (dw_or (dt_cmp (do_ne (k := 0) o.on (hr.mono (Nat.zero_le _))) (x_call o d_are_stations (hr.mono (by decide)) (da_cons (x_var o 8) da_nil)) (x_call o d__law_are_stations (hr.mono (by decide)) (da_cons (x_var o 8) da_nil)) (nomark _)) (dw_or1 (dt_cmp (do_ne (k := 0) o.on (hr.mono (Nat.zero_le _))) (x_call o d_is_air (hr.mono (by decide)) (da_cons (de_tup (da_cons (x_var o 8) (da_cons de_int da_nil))) da_nil)) (x_call o d__law_is_air (hr.mono (by decide)) (da_cons (de_tup (da_cons (x_var o 8) (da_cons de_int da_nil))) da_nil)) (nomark _))))) (ds_one (ds_ret de_bl)) ds_nil)
    (ds_one (ds_if (PW.pt (dw_or (dt_cmp (do_ne (k := 0) o.on (hr.mono (Nat.zero_le _))) (x_call o d_is_tuning (hr.mono (by decide)) (da_cons (x_var o 3) (da_cons (x_var o 8) da_nil))) (x_call o d__law_is_tuning (hr.mono (by decide)) (da_cons (x_var o 3) (da_cons (x_var o 8) da_nil))) (nomark _)) (dw_or1 (dt_cmp (do_ne (k := 0) o.on (hr.mono (Nat.zero_le _))) (x_call o d_is_air (hr.mono (by decide)) (da_cons (x_var o 8) da_nil)) (x_call o d__law_is_air (hr.mono (by decide)) (da_cons (x_var o 8) da_nil)) (nomark _))))) (ds_one (ds_ret de_bl)) ds_nil))))
    (ds_one (x_for o (x_rng1 o T.b_range (da_cons de_int da_nil)) (x_tg1 o 9) (ds_cons (x_set o 10 (de_lst (da_cons (x_call o d_are_stations (hr.mono (by decide)) (da_cons (x_var o 5) da_nil)) (da_cons (x_call o d_is_air (hr.mono (by decide)) (da_cons (x_var o 6) da_nil)) (da_cons (x_call o d_is_tuning (hr.mono (by decide)) (da_cons (x_var o 3) (da_cons (x_var o 7) da_nil))) da_nil)))))
    (ds_cons (ds_if (dt_cmp (do_ne (k := 0) o.on (hr.mono (Nat.zero_le _))) (x_var o 10) (de_lst (da_cons (x_call o d__law_are_stations (hr.mono (by decide)) (da_cons (x_var o 5) da_nil)) (da_cons (x_call o d__law_is_air (hr.mono (by decide)) (da_cons (x_var o 6) da_nil)) (da_cons (x_call o d__law_is_tuning (hr.mono (by decide)) (da_cons (x_var o 3) (da_cons (x_var o 7) da_nil))) da_nil)))) (nomark _)) (ds_one (ds_ret de_bl)) ds_nil)
    (ds_cons (ds_if (dt_cmp (do_ne (k := 0) o.on (hr.mono (Nat.zero_le _))) (x_lc o [("one", 12)] (x_in o (x_var o 10)) (fun X' o' hA => (x_tg1 o' 12)) (fun X' o' hA => (dts_one (dt_not (dt_val (x_bi o' (dc_isi o'.on) T.b_isinstance (by decide +kernel) (da_cons (x_var o' 12) (da_cons (x_ty o' T.b_bool (by decide +kernel)) da_nil))))))) (fun X' o' hA => (x_var o' 12))) (de_lst da_nil) (nomark _)) (ds_one (ds_ret de_bl)) ds_nil)
    (ds_cons (x_par2 o 5 6 (da_cons (x_call o d__law_spoilt (hr.mono (by decide)) (da_cons (x_var o 2) (da_cons (x_var o 5) da_nil))) (da_cons (x_call o d__law_spoilt (hr.mono (by decide)) (da_cons (x_var o 2) (da_cons (x_var o 6) da_nil))) da_nil)))
    (ds_one (x_set o 7 (x_call o d__law_spoilt (hr.mono (by decide)) (da_cons (x_var o 2) (da_cons (x_var o 7) da_nil)))))))))))))))))
    (ds_one (ds_ret de_bl)))
end K01

set_option Elab.async false
set_option linter.all false
set_option maxRecDepth 100000
set_option maxHeartbeats 0
namespace K01
open PySem PySem.Spec PyProof.Rows L2 GxR LG DL
def dd_is_number : He.DefD := ⟨("is_number", none), "is_number", "is_number", defArgs st_is_number, defBody st_is_number, defScope st_is_number, [], []⟩
def dd_is_whole : He.DefD := ⟨("is_whole", none), "is_whole", "is_whole", defArgs st_is_whole, defBody st_is_whole, defScope st_is_whole, [], []⟩
def dd_is_name : He.DefD := ⟨("is_name", none), "is_name", "is_name", defArgs st_is_name, defBody st_is_name, defScope st_is_name, [], []⟩
def dd_is_tuple_of : He.DefD := ⟨("is_tuple_of", none), "is_tuple_of", "is_tuple_of", defArgs st_is_tuple_of, defBody st_is_tuple_of, defScope st_is_tuple_of, [], []⟩
def dd_is_rising : He.DefD := ⟨("is_rising", none), "is_rising", "is_rising", defArgs st_is_rising, defBody st_is_rising, defScope st_is_rising, [], []⟩
def dd_is_place : He.DefD := ⟨("is_place", none), "is_place", "is_place", defArgs st_is_place, defBody st_is_place, defScope st_is_place, [], []⟩
def dd_is_power : He.DefD := ⟨("is_power", none), "is_power", "is_power", defArgs st_is_power, defBody st_is_power, defScope st_is_power, [], []⟩
def dd_is_need : He.DefD := ⟨("is_need", none), "is_need", "is_need", defArgs st_is_need, defBody st_is_need, defScope st_is_need, [], []⟩
def dd_is_leak : He.DefD := ⟨("is_leak", none), "is_leak", "is_leak", defArgs st_is_leak, defBody st_is_leak, defScope st_is_leak, [], []⟩
def dd_is_station : He.DefD := ⟨("is_station", none), "is_station", "is_station", defArgs st_is_station, defBody st_is_station, defScope st_is_station, [], []⟩
def dd_names_of : He.DefD := ⟨("names_of", none), "names_of", "names_of", defArgs st_names_of, defBody st_names_of, defScope st_names_of, [], []⟩
def dd_are_stations : He.DefD := ⟨("are_stations", none), "are_stations", "are_stations", defArgs st_are_stations, defBody st_are_stations, defScope st_are_stations, [], []⟩
def dd_is_air : He.DefD := ⟨("is_air", none), "is_air", "is_air", defArgs st_is_air, defBody st_is_air, defScope st_is_air, [], []⟩
def dd_is_tuning : He.DefD := ⟨("is_tuning", none), "is_tuning", "is_tuning", defArgs st_is_tuning, defBody st_is_tuning, defScope st_is_tuning, [], []⟩
def dd__law_bag : He.DefD := ⟨("_law_bag", none), "_law_bag", "_law_bag", defArgs st__law_bag, defBody st__law_bag, defScope st__law_bag, [], []⟩
def dd__law_take : He.DefD := ⟨("_law_take", none), "_law_take", "_law_take", defArgs st__law_take, defBody st__law_take, defScope st__law_take, [], []⟩
def dd__law_of : He.DefD := ⟨("_law_of", none), "_law_of", "_law_of", defArgs st__law_of, defBody st__law_of, defScope st__law_of, [], []⟩
def dd__law_within : He.DefD := ⟨("_law_within", none), "_law_within", "_law_within", defArgs st__law_within, defBody st__law_within, defScope st__law_within, [], []⟩
def dd__law_is_name : He.DefD := ⟨("_law_is_name", none), "_law_is_name", "_law_is_name", defArgs st__law_is_name, defBody st__law_is_name, defScope st__law_is_name, [], []⟩
def dd__law_odd : He.DefD := ⟨("_law_odd", none), "_law_odd", "_law_odd", defArgs st__law_odd, defBody st__law_odd, defScope st__law_odd, [], []⟩
def dd__law_spoilt : He.DefD := ⟨("_law_spoilt", none), "_law_spoilt", "_law_spoilt", defArgs st__law_spoilt, defBody st__law_spoilt, defScope st__law_spoilt, [], []⟩
def dd__law_stations : He.DefD := ⟨("_law_stations", none), "_law_stations", "_law_stations", defArgs st__law_stations, defBody st__law_stations, defScope st__law_stations, [], []⟩
def dd__law_air : He.DefD := ⟨("_law_air", none), "_law_air", "_law_air", defArgs st__law_air, defBody st__law_air, defScope st__law_air, [], []⟩
def dd__law_tuning : He.DefD := ⟨("_law_tuning", none), "_law_tuning", "_law_tuning", defArgs st__law_tuning, defBody st__law_tuning, defScope st__law_tuning, [], []⟩
def dd__law_is_spot : He.DefD := ⟨("_law_is_spot", none), "_law_is_spot", "_law_is_spot", defArgs st__law_is_spot, defBody st__law_is_spot, defScope st__law_is_spot, [], []⟩
def dd__law_are_stations : He.DefD := ⟨("_law_are_stations", none), "_law_are_stations", "_law_are_stations", defArgs st__law_are_stations, defBody st__law_are_stations, defScope st__law_are_stations, [], []⟩
def dd__law_is_tuning : He.DefD := ⟨("_law_is_tuning", none), "_law_is_tuning", "_law_is_tuning", defArgs st__law_is_tuning, defBody st__law_is_tuning, defScope st__law_is_tuning, [], []⟩
def dd__law_is_air : He.DefD := ⟨("_law_is_air", none), "_law_is_air", "_law_is_air", defArgs st__law_is_air, defBody st__law_is_air, defScope st__law_is_air, [], []⟩
def dd__law_at_bounds : He.DefD := ⟨("_law_at_bounds", none), "_law_at_bounds", "_law_at_bounds", defArgs st__law_at_bounds, defBody st__law_at_bounds, defScope st__law_at_bounds, [], []⟩
def dd_law : He.DefD := ⟨("law", none), "law", "law", defArgs st_law, defBody st_law, defScope st_law, [], []⟩
def fnL : List He.DefD := [dd_is_number, dd_is_whole, dd_is_name, dd_is_tuple_of, dd_is_rising, dd_is_place, dd_is_power, dd_is_need, dd_is_leak, dd_is_station, dd_names_of, dd_are_stations, dd_is_air, dd_is_tuning, dd__law_bag, dd__law_take, dd__law_of, dd__law_within, dd__law_is_name, dd__law_odd, dd__law_spoilt, dd__law_stations, dd__law_air, dd__law_tuning, dd__law_is_spot, dd__law_are_stations, dd__law_is_tuning, dd__law_is_air, dd__law_at_bounds, dd_law]
def faL : List He.Fa := [.glo "is_number", .glo "is_whole", .glo "is_name", .glo "is_tuple_of", .glo "is_rising", .glo "is_place", .glo "is_power", .glo "is_need", .glo "is_leak", .glo "is_station", .glo "names_of", .glo "are_stations", .glo "is_air", .glo "is_tuning", .glo "_law_bag", .glo "_law_take", .glo "_law_of", .glo "_law_within", .glo "_law_is_name", .glo "_law_odd", .glo "_law_spoilt", .glo "_law_stations", .glo "_law_air", .glo "_law_tuning", .glo "_law_is_spot", .glo "_law_are_stations", .glo "_law_is_tuning", .glo "_law_is_air", .glo "_law_at_bounds", .glo "law", .free "abs", .free "all", .free "bool", .free "int", .free "isinstance", .free "len", .free "list", .free "max", .free "min", .free "range", .free "set", .free "sorted", .free "str", .free "tuple", .free "zip", .int "FARTHEST" 1000, .int "LAST_BAND" 9, .int "MOST_LEAK" 1000, .int "MOST_NEED" 1000, .int "MOST_POWER" 1000000, .int "MOST_STATIONS" 8, .int "NAME_LENGTH" 8, .int "SILENCE" 0]
def tfL : List He.Defn := [("is_name", none), ("is_rising", none), ("is_place", none), ("are_stations", none), ("is_tuning", none)]
abbrev RR : PySem.W.OpenRow := PySem.W.OpenLaw.row PySem.Challenge.rw_wavehall_k01_airs_and_tunings_told
abbrev hkL : PySem.W.Hook := He.hookX 4 faL fnL [] tfL (fun _ => true)
def obL (s : PySem.W.SharedT) : He.AlX := He.obsX 4 faL fnL [] tfL (fun _ => true) (HandSHeadRun.getT s)
theorem ob_eq (s : PySem.W.SharedT) : obL s = hkL.obs s.abs := He.obsX_eq (HandSHeadRun.getT_eq s)
def looseL : List PySem.Str := (["NAME_LENGTH", "is_number", "is_whole", "is_name", "is_tuple_of", "is_rising", "MOST_STATIONS", "FARTHEST", "MOST_POWER", "MOST_NEED", "MOST_LEAK", "LAST_BAND"] : List PySem.Str) ++ (["SILENCE", "is_place", "is_power", "is_need", "is_leak", "is_station", "are_stations", "is_air", "is_tuning", "names_of", "_law_bag", "_law_take"] : List PySem.Str) ++ (["_law_of", "_law_within", "_law_is_name", "_law_spoilt", "_law_odd", "_law_stations", "_law_air", "_law_tuning", "_law_is_spot", "_law_are_stations", "_law_is_tuning", "_law_is_air"] : List PySem.Str) ++ (["_law_at_bounds"] : List PySem.Str)
theorem runL (w : World) : HandSHeadRun.RunEq RR (PySem.W.view RR.prog [40]) hkL obL 4000 looseL w := by
  intro os
  kernel_rfl
section
variable {G : G0}
theorem facts {h : Heap} {w : World} (X : G.K.In h) (Gs : h.Ns mainGlobals G.mg) (c : He.SaysX faL fnL [] tfL (fun _ => true) w h G.K) (hPs : G.Ps = (tfL.map (He.cT G.K)).map (·.2)) (tb : ∀ p ∈ tfL.map (He.cT G.K), GxR.TabB G.base G.mg p.1 p.2) : T0 G ∧ (
    Def G 3 "_law_air" 2 (fn__law_air G) ∧ Def G 3 "_law_are_stations" 1 (fn__law_are_stations G) ∧ Def G 3 "_law_at_bounds" 1 (fn__law_at_bounds G) ∧ Def G 1 "_law_bag" 2 (fn__law_bag G) ∧ Def G 4 "_law_is_air" 1 (fn__law_is_air G) ∧ Def G 2 "_law_is_tuning" 2 (fn__law_is_tuning G) ∧ Def G 2 "_law_odd" 1 (fn__law_odd G) ∧ Def G 43 "_law_spoilt" 2 (fn__law_spoilt G 40) ∧ Def G 2 "_law_tuning" 4 (fn__law_tuning G) ∧ Def G 7 "are_stations" 1 (fn_are_stations G) ∧ Def G 8 "is_air" 1 (fn_is_air G) ∧ Def G 4 "is_tuning" 2 (fn_is_tuning G)) := by
  have T : T0 G := ⟨He.free_ok X Gs (c.t.d.fact 30 (f := .free "abs") rfl), He.free_ok X Gs (c.t.d.fact 31 (f := .free "all") rfl), He.free_ok X Gs (c.t.d.fact 32 (f := .free "bool") rfl), He.free_ok X Gs (c.t.d.fact 33 (f := .free "int") rfl), He.free_ok X Gs (c.t.d.fact 34 (f := .free "isinstance") rfl), He.free_ok X Gs (c.t.d.fact 35 (f := .free "len") rfl), He.free_ok X Gs (c.t.d.fact 36 (f := .free "list") rfl), He.free_ok X Gs (c.t.d.fact 37 (f := .free "max") rfl), He.free_ok X Gs (c.t.d.fact 38 (f := .free "min") rfl), He.free_ok X Gs (c.t.d.fact 39 (f := .free "range") rfl), He.free_ok X Gs (c.t.d.fact 40 (f := .free "set") rfl), He.free_ok X Gs (c.t.d.fact 41 (f := .free "sorted") rfl), He.free_ok X Gs (c.t.d.fact 42 (f := .free "str") rfl), He.free_ok X Gs (c.t.d.fact 43 (f := .free "tuple") rfl), He.free_ok X Gs (c.t.d.fact 44 (f := .free "zip") rfl), He.int_ok X Gs (c.t.d.fact 45 (f := .int "FARTHEST" 1000) rfl), He.int_ok X Gs (c.t.d.fact 46 (f := .int "LAST_BAND" 9) rfl), He.int_ok X Gs (c.t.d.fact 47 (f := .int "MOST_LEAK" 1000) rfl), He.int_ok X Gs (c.t.d.fact 48 (f := .int "MOST_NEED" 1000) rfl), He.int_ok X Gs (c.t.d.fact 49 (f := .int "MOST_POWER" 1000000) rfl), He.int_ok X Gs (c.t.d.fact 50 (f := .int "MOST_STATIONS" 8) rfl), He.int_ok X Gs (c.t.d.fact 51 (f := .int "NAME_LENGTH" 8) rfl), He.int_ok X Gs (c.t.d.fact 52 (f := .int "SILENCE" 0) rfl)⟩
  obtain ⟨fd_0, D_0⟩ := c.t.d.def_ 0 (d := dd_is_number) rfl
  obtain ⟨_, F_is_number, _⟩ := fnAt_of (st := st_is_number) X Gs D_0 (c.t.d.fact 0 (f := .glo "is_number") rfl)
  have d_is_number := K01.d_is_number T F_is_number 
  obtain ⟨fd_1, D_1⟩ := c.t.d.def_ 1 (d := dd_is_whole) rfl
  obtain ⟨_, F_is_whole, _⟩ := fnAt_of (st := st_is_whole) X Gs D_1 (c.t.d.fact 1 (f := .glo "is_whole") rfl)
  have d_is_whole := K01.d_is_whole T F_is_whole d_is_number
  obtain ⟨fd_2, D_2⟩ := c.t.d.def_ 2 (d := dd_is_name) rfl
  have F_is_name : FnAt G "is_name" st_is_name (.ref (He.cT G.K ("is_name", none)).1) := fnAt_tab (st := st_is_name) X Gs D_2 (c.t.d.fact 2 (f := .glo "is_name") rfl)
  have m_is_name : He.cT G.K ("is_name", none) ∈ tfL.map (He.cT G.K) := List.mem_map.mpr ⟨("is_name", none), by simp [tfL], rfl⟩
  have p_is_name : (He.cT G.K ("is_name", none)).2 ∈ G.Ps := by rw [hPs]; exact List.mem_map.mpr ⟨_, m_is_name, rfl⟩
  have d_is_name := K01.d_is_name p_is_name (tb _ m_is_name) T F_is_name 
  obtain ⟨fd_3, D_3⟩ := c.t.d.def_ 3 (d := dd_is_tuple_of) rfl
  obtain ⟨_, F_is_tuple_of, _⟩ := fnAt_of (st := st_is_tuple_of) X Gs D_3 (c.t.d.fact 3 (f := .glo "is_tuple_of") rfl)
  have d_is_tuple_of := K01.d_is_tuple_of T F_is_tuple_of 
  obtain ⟨fd_4, D_4⟩ := c.t.d.def_ 4 (d := dd_is_rising) rfl
  have F_is_rising : FnAt G "is_rising" st_is_rising (.ref (He.cT G.K ("is_rising", none)).1) := fnAt_tab (st := st_is_rising) X Gs D_4 (c.t.d.fact 4 (f := .glo "is_rising") rfl)
  have m_is_rising : He.cT G.K ("is_rising", none) ∈ tfL.map (He.cT G.K) := List.mem_map.mpr ⟨("is_rising", none), by simp [tfL], rfl⟩
  have p_is_rising : (He.cT G.K ("is_rising", none)).2 ∈ G.Ps := by rw [hPs]; exact List.mem_map.mpr ⟨_, m_is_rising, rfl⟩
  have d_is_rising := K01.d_is_rising p_is_rising (tb _ m_is_rising) T F_is_rising 
  obtain ⟨fd_5, D_5⟩ := c.t.d.def_ 5 (d := dd_is_place) rfl
  have F_is_place : FnAt G "is_place" st_is_place (.ref (He.cT G.K ("is_place", none)).1) := fnAt_tab (st := st_is_place) X Gs D_5 (c.t.d.fact 5 (f := .glo "is_place") rfl)
  have m_is_place : He.cT G.K ("is_place", none) ∈ tfL.map (He.cT G.K) := List.mem_map.mpr ⟨("is_place", none), by simp [tfL], rfl⟩
  have p_is_place : (He.cT G.K ("is_place", none)).2 ∈ G.Ps := by rw [hPs]; exact List.mem_map.mpr ⟨_, m_is_place, rfl⟩
  have d_is_place := K01.d_is_place p_is_place (tb _ m_is_place) T F_is_place d_is_tuple_of d_is_whole
  obtain ⟨fd_6, D_6⟩ := c.t.d.def_ 6 (d := dd_is_power) rfl
  obtain ⟨_, F_is_power, _⟩ := fnAt_of (st := st_is_power) X Gs D_6 (c.t.d.fact 6 (f := .glo "is_power") rfl)
  have d_is_power := K01.d_is_power T F_is_power d_is_whole
  obtain ⟨fd_7, D_7⟩ := c.t.d.def_ 7 (d := dd_is_need) rfl
  obtain ⟨_, F_is_need, _⟩ := fnAt_of (st := st_is_need) X Gs D_7 (c.t.d.fact 7 (f := .glo "is_need") rfl)
  have d_is_need := K01.d_is_need T F_is_need d_is_whole
  obtain ⟨fd_8, D_8⟩ := c.t.d.def_ 8 (d := dd_is_leak) rfl
  obtain ⟨_, F_is_leak, _⟩ := fnAt_of (st := st_is_leak) X Gs D_8 (c.t.d.fact 8 (f := .glo "is_leak") rfl)
  have d_is_leak := K01.d_is_leak T F_is_leak d_is_whole
  obtain ⟨fd_9, D_9⟩ := c.t.d.def_ 9 (d := dd_is_station) rfl
  obtain ⟨_, F_is_station, _⟩ := fnAt_of (st := st_is_station) X Gs D_9 (c.t.d.fact 9 (f := .glo "is_station") rfl)
  have d_is_station := K01.d_is_station T F_is_station d_is_name d_is_need d_is_place d_is_power d_is_tuple_of
  obtain ⟨fd_10, D_10⟩ := c.t.d.def_ 10 (d := dd_names_of) rfl
  obtain ⟨_, F_names_of, _⟩ := fnAt_of (st := st_names_of) X Gs D_10 (c.t.d.fact 10 (f := .glo "names_of") rfl)
  have d_names_of := K01.d_names_of T F_names_of 
  obtain ⟨fd_11, D_11⟩ := c.t.d.def_ 11 (d := dd_are_stations) rfl
  have F_are_stations : FnAt G "are_stations" st_are_stations (.ref (He.cT G.K ("are_stations", none)).1) := fnAt_tab (st := st_are_stations) X Gs D_11 (c.t.d.fact 11 (f := .glo "are_stations") rfl)
  have m_are_stations : He.cT G.K ("are_stations", none) ∈ tfL.map (He.cT G.K) := List.mem_map.mpr ⟨("are_stations", none), by simp [tfL], rfl⟩
  have p_are_stations : (He.cT G.K ("are_stations", none)).2 ∈ G.Ps := by rw [hPs]; exact List.mem_map.mpr ⟨_, m_are_stations, rfl⟩
  have d_are_stations := K01.d_are_stations p_are_stations (tb _ m_are_stations) T F_are_stations d_is_rising d_is_station d_names_of
  obtain ⟨fd_12, D_12⟩ := c.t.d.def_ 12 (d := dd_is_air) rfl
  obtain ⟨_, F_is_air, _⟩ := fnAt_of (st := st_is_air) X Gs D_12 (c.t.d.fact 12 (f := .glo "is_air") rfl)
  have d_is_air := K01.d_is_air T F_is_air d_are_stations d_is_leak d_is_tuple_of
  obtain ⟨fd_13, D_13⟩ := c.t.d.def_ 13 (d := dd_is_tuning) rfl
  have F_is_tuning : FnAt G "is_tuning" st_is_tuning (.ref (He.cT G.K ("is_tuning", none)).1) := fnAt_tab (st := st_is_tuning) X Gs D_13 (c.t.d.fact 13 (f := .glo "is_tuning") rfl)
  have m_is_tuning : He.cT G.K ("is_tuning", none) ∈ tfL.map (He.cT G.K) := List.mem_map.mpr ⟨("is_tuning", none), by simp [tfL], rfl⟩
  have p_is_tuning : (He.cT G.K ("is_tuning", none)).2 ∈ G.Ps := by rw [hPs]; exact List.mem_map.mpr ⟨_, m_is_tuning, rfl⟩
  have d_is_tuning := K01.d_is_tuning p_is_tuning (tb _ m_is_tuning) T F_is_tuning d_is_tuple_of d_is_whole
  obtain ⟨fd_14, D_14⟩ := c.t.d.def_ 14 (d := dd__law_bag) rfl
  obtain ⟨_, F__law_bag, _⟩ := fnAt_of (st := st__law_bag) X Gs D_14 (c.t.d.fact 14 (f := .glo "_law_bag") rfl)
  have d__law_bag := K01.d__law_bag T F__law_bag 
  obtain ⟨fd_15, D_15⟩ := c.t.d.def_ 15 (d := dd__law_take) rfl
  obtain ⟨_, F__law_take, _⟩ := fnAt_of (st := st__law_take) X Gs D_15 (c.t.d.fact 15 (f := .glo "_law_take") rfl)
  have d__law_take := K01.d__law_take T F__law_take 
  obtain ⟨fd_16, D_16⟩ := c.t.d.def_ 16 (d := dd__law_of) rfl
  obtain ⟨_, F__law_of, _⟩ := fnAt_of (st := st__law_of) X Gs D_16 (c.t.d.fact 16 (f := .glo "_law_of") rfl)
  have d__law_of := K01.d__law_of T F__law_of d__law_take
  obtain ⟨fd_17, D_17⟩ := c.t.d.def_ 17 (d := dd__law_within) rfl
  obtain ⟨_, F__law_within, _⟩ := fnAt_of (st := st__law_within) X Gs D_17 (c.t.d.fact 17 (f := .glo "_law_within") rfl)
  have d__law_within := K01.d__law_within T F__law_within 
  obtain ⟨fd_18, D_18⟩ := c.t.d.def_ 18 (d := dd__law_is_name) rfl
  obtain ⟨_, F__law_is_name, _⟩ := fnAt_of (st := st__law_is_name) X Gs D_18 (c.t.d.fact 18 (f := .glo "_law_is_name") rfl)
  have d__law_is_name := K01.d__law_is_name T F__law_is_name 
  obtain ⟨fd_19, D_19⟩ := c.t.d.def_ 19 (d := dd__law_odd) rfl
  obtain ⟨_, F__law_odd, _⟩ := fnAt_of (st := st__law_odd) X Gs D_19 (c.t.d.fact 19 (f := .glo "_law_odd") rfl)
  have d__law_odd := K01.d__law_odd T F__law_odd d__law_take
  obtain ⟨fd_20, D_20⟩ := c.t.d.def_ 20 (d := dd__law_spoilt) rfl
  obtain ⟨_, F__law_spoilt, _⟩ := fnAt_of (st := st__law_spoilt) X Gs D_20 (c.t.d.fact 20 (f := .glo "_law_spoilt") rfl)
  have d__law_spoilt := (K01.d__law_spoilt T F__law_spoilt d__law_odd d__law_take 40)
  obtain ⟨fd_21, D_21⟩ := c.t.d.def_ 21 (d := dd__law_stations) rfl
  obtain ⟨_, F__law_stations, _⟩ := fnAt_of (st := st__law_stations) X Gs D_21 (c.t.d.fact 21 (f := .glo "_law_stations") rfl)
  have d__law_stations := K01.d__law_stations T F__law_stations d__law_take
  obtain ⟨fd_22, D_22⟩ := c.t.d.def_ 22 (d := dd__law_air) rfl
  obtain ⟨_, F__law_air, _⟩ := fnAt_of (st := st__law_air) X Gs D_22 (c.t.d.fact 22 (f := .glo "_law_air") rfl)
  have d__law_air := K01.d__law_air T F__law_air d__law_stations d__law_take
  obtain ⟨fd_23, D_23⟩ := c.t.d.def_ 23 (d := dd__law_tuning) rfl
  obtain ⟨_, F__law_tuning, _⟩ := fnAt_of (st := st__law_tuning) X Gs D_23 (c.t.d.fact 23 (f := .glo "_law_tuning") rfl)
  have d__law_tuning := K01.d__law_tuning T F__law_tuning d__law_take
  obtain ⟨fd_24, D_24⟩ := c.t.d.def_ 24 (d := dd__law_is_spot) rfl
  obtain ⟨_, F__law_is_spot, _⟩ := fnAt_of (st := st__law_is_spot) X Gs D_24 (c.t.d.fact 24 (f := .glo "_law_is_spot") rfl)
  have d__law_is_spot := K01.d__law_is_spot T F__law_is_spot d__law_within
  obtain ⟨fd_25, D_25⟩ := c.t.d.def_ 25 (d := dd__law_are_stations) rfl
  obtain ⟨_, F__law_are_stations, _⟩ := fnAt_of (st := st__law_are_stations) X Gs D_25 (c.t.d.fact 25 (f := .glo "_law_are_stations") rfl)
  have d__law_are_stations := K01.d__law_are_stations T F__law_are_stations d__law_is_name d__law_is_spot d__law_within
  obtain ⟨fd_26, D_26⟩ := c.t.d.def_ 26 (d := dd__law_is_tuning) rfl
  obtain ⟨_, F__law_is_tuning, _⟩ := fnAt_of (st := st__law_is_tuning) X Gs D_26 (c.t.d.fact 26 (f := .glo "_law_is_tuning") rfl)
  have d__law_is_tuning := K01.d__law_is_tuning T F__law_is_tuning d__law_within
  obtain ⟨fd_27, D_27⟩ := c.t.d.def_ 27 (d := dd__law_is_air) rfl
  obtain ⟨_, F__law_is_air, _⟩ := fnAt_of (st := st__law_is_air) X Gs D_27 (c.t.d.fact 27 (f := .glo "_law_is_air") rfl)
  have d__law_is_air := K01.d__law_is_air T F__law_is_air d__law_are_stations d__law_within
  obtain ⟨fd_28, D_28⟩ := c.t.d.def_ 28 (d := dd__law_at_bounds) rfl
  obtain ⟨_, F__law_at_bounds, _⟩ := fnAt_of (st := st__law_at_bounds) X Gs D_28 (c.t.d.fact 28 (f := .glo "_law_at_bounds") rfl)
  have d__law_at_bounds := K01.d__law_at_bounds T F__law_at_bounds d__law_of
  obtain ⟨fd_29, D_29⟩ := c.t.d.def_ 29 (d := dd_law) rfl
  obtain ⟨_, F_law, _⟩ := fnAt_of (st := st_law) X Gs D_29 (c.t.d.fact 29 (f := .glo "law") rfl)
  exact ⟨T, d__law_air, d__law_are_stations, d__law_at_bounds, d__law_bag, d__law_is_air, d__law_is_tuning, d__law_odd, d__law_spoilt, d__law_tuning, d_are_stations, d_is_air, d_is_tuning⟩
end
end K01

set_option Elab.async false
set_option linter.all false
set_option maxRecDepth 100000
set_option maxHeartbeats 400000
namespace K01
open PySem PySem.Spec PyProof.Rows L2 GxR LG DL
theorem lawFn {G : G0} {fd : FuncData} (D : FunD G.K "law" "law" (defArgs st_law) (defBody st_law) (defScope st_law) [] [] (He.ga G.K "law") fd) (T : T0 G) (d__law_air : Def G 3 "_law_air" 2 (fn__law_air G)) (d__law_are_stations : Def G 3 "_law_are_stations" 1 (fn__law_are_stations G)) (d__law_at_bounds : Def G 3 "_law_at_bounds" 1 (fn__law_at_bounds G)) (d__law_bag : Def G 1 "_law_bag" 2 (fn__law_bag G)) (d__law_is_air : Def G 4 "_law_is_air" 1 (fn__law_is_air G)) (d__law_is_tuning : Def G 2 "_law_is_tuning" 2 (fn__law_is_tuning G)) (d__law_odd : Def G 2 "_law_odd" 1 (fn__law_odd G)) (d__law_spoilt : Def G 43 "_law_spoilt" 2 (fn__law_spoilt G 40)) (d__law_tuning : Def G 2 "_law_tuning" 4 (fn__law_tuning G)) (d_are_stations : Def G 7 "are_stations" 1 (fn_are_stations G)) (d_is_air : Def G 8 "is_air" 1 (fn_is_air G)) (d_is_tuning : Def G 4 "is_tuning" 2 (fn_is_tuning G)) : FnOk G.P G.w G.K G.mg G.base CX0 44 (He.ga G.K "law") fd ["script"] (spD G 1 (fn_law G)) := by
  exact fn_atD (G := G) (k := 44 - 1) (name := "law") (st := st_law) (ps := ["script"]) (sb := sb_law G) D sc_law (fun cdv => b_law T d__law_air d__law_are_stations d__law_at_bounds d__law_bag d__law_is_air d__law_is_tuning d__law_odd d__law_spoilt d__law_tuning d_are_stations d_is_air d_is_tuning)
end K01

set_option Elab.async false
set_option linter.all false
set_option maxRecDepth 100000
set_option maxHeartbeats 400000
namespace K01
open PySem PySem.Spec PyProof.Rows L2 GxR LG DL
theorem lawAt {w : World} {K : PySem.W.Frag} {mg : Str → Option Value} {fa : Addr} {h : Heap} (math : ∀ G : G0, G.ns.length ≤ 63 → (∀ z ∈ G.ns, Builtin.Int.intBits z ≤ 1048576) → ∃ st', fn_law G [.scr] [] = some (.bl true, st')) (X : K.In h) (Gs : h.Ns mainGlobals mg) (hmg : mg ("law" : Str) = some (.ref fa))
    (c : He.SaysX faL fnL [] tfL (fun _ => true) w h K) : LamX.LawAtS PySem.Challenge.rw_wavehall_k01_airs_and_tunings_told w K CX0 44 63 "script" mg fa h := by
  have hfact := c.t.d.fact 29 (f := .glo "law") rfl
  obtain ⟨fd, D⟩ := c.t.d.def_ 29 (d := dd_law) rfl
  have e := hmg.symm.trans (He.glo_ok X Gs hfact)
  cases e
  have hb := FunD.bindsA (ps := ["script"]) D fun _ _ _ _ _ _ us hl => match us, hl with | [_], _ => rfl
  refine ⟨fd, tfL.map (He.cT K), spLaw K (tfL.map (He.cT K)), fun p hp => ?_, fun p hp => ?_, fun p hp => ?_, fun s v => hb s [v] rfl, fun H a ns h1 h2 h3 h4 => ⟨a, ns, rfl, h4, h1, h2, h3, fun _ => rfl⟩, fun base kb nb tb => ?_⟩
  · obtain ⟨x, hx, rfl⟩ := List.mem_map.mp hp
    exact c.empty x hx
  · obtain ⟨x, hx, rfl⟩ := List.mem_map.mp hp
    exact c.out x hx
  · obtain ⟨x, hx, rfl⟩ := List.mem_map.mp hp
    exact PySem.W.codeHd_of_K X (c.hd x hx)
  · refine law_fn fun a ns h1 h2 => ?_
    obtain ⟨T, d__law_air, d__law_are_stations, d__law_at_bounds, d__law_bag, d__law_is_air, d__law_is_tuning, d__law_odd, d__law_spoilt, d__law_tuning, d_are_stations, d_is_air, d_is_tuning⟩ := facts (G := (⟨PySem.Challenge.rw_wavehall_k01_airs_and_tunings_told.prog, w, mg, base, K, (tfL.map (He.cT K)).map (fun p : Addr × Addr => p.2), a, ns⟩ : G0)) (h := h) (w := w) X Gs c rfl (fun p hp => tabB_of (tb p hp))
    obtain ⟨st', em⟩ := math (⟨PySem.Challenge.rw_wavehall_k01_airs_and_tunings_told.prog, w, mg, base, K, (tfL.map (He.cT K)).map (fun p : Addr × Addr => p.2), a, ns⟩ : G0) h1 h2
    exact ⟨_, st', lawFn (G := (⟨PySem.Challenge.rw_wavehall_k01_airs_and_tunings_told.prog, w, mg, base, K, (tfL.map (He.cT K)).map (fun p : Addr × Addr => p.2), a, ns⟩ : G0)) D T d__law_air d__law_are_stations d__law_at_bounds d__law_bag d__law_is_air d__law_is_tuning d__law_odd d__law_spoilt d__law_tuning d_are_stations d_is_air d_is_tuning, em⟩
end K01

set_option Elab.async false
set_option linter.all false
set_option maxRecDepth 100000
set_option maxHeartbeats 0
namespace K01
open PySem PySem.Spec PyProof.Rows L2 GxR LG DL
theorem walkL (math : ∀ G : G0, G.ns.length ≤ 63 → (∀ z ∈ G.ns, Builtin.Int.intBits z ≤ 1048576) → ∃ st', fn_law G [.scr] [] = some (.bl true, st')) : PySem.W.WalkO (PySem.W.view RR.prog [40]) looseL (PySem.W.XL (PySem.W.view RR.prog [40]) []) hkL.says RR.toRowW (HandSHeadRun.topDef RR.prog 40) [] (fun f vs => PySem.call f vs) := by
  refine LamX.walk_ofTsE (l := PySem.Challenge.rw_wavehall_k01_airs_and_tunings_told) (n := 63) (k := 44) (x := "script") (CX := fun _ => CX0) rfl (by decide) (by kernel_rfl) ⟨rfl, by decide, by decide⟩ ?F (fun _ _ _ _ _ z => z)
  intro w mg fa h Y G hmg0
  obtain ⟨K, KX, c⟩ := Y
  have hmg : mg ("law" : PySem.Str) = some (.ref fa) := by
    have e : (HandSHeadRun.topDef RR.prog 40).name = ("law" : PySem.Str) := by kernel_rfl
    rw [← e]
    exact hmg0
  exact ⟨K, KX, lawAt math KX G hmg c⟩
theorem holds (math : ∀ G : G0, G.ns.length ≤ 63 → (∀ z ∈ G.ns, Builtin.Int.intBits z ≤ 1048576) → ∃ st', fn_law G [.scr] [] = some (.bl true, st')) : PySem.Challenge.rw_wavehall_k01_airs_and_tunings_told.Holds := by
  w_on; o_law
  refine HandSHeadRun.head_any (r := RR) (q := PySem.W.view RR.prog [40]) (H := hkL) (ob := obL) (M := 4000) (loose := looseL) (d := HandSHeadRun.topDef RR.prog 40) (kwd := []) ob_eq
    (by kernel_rfl) (fun s => by kernel_rfl) runL (by kernel_rfl) (by kernel_rfl) (by kernel_rfl) (by rfl) (by first | assumption | decide +kernel) (by decide +kernel) ⟨rfl, rfl, rfl, rfl, rfl, by decide +kernel⟩ ?hw (walkL math)
  case hw => w_witness2
end K01

set_option Elab.async false
set_option linter.all false
set_option maxRecDepth 100000
set_option maxHeartbeats 1000000
/-! the functions evaluated: one step each -/
namespace DL
open PySem PySem.Spec PyProof.Rows L2 GxR LG
theorem bind_lazy {α β : Type} {x x' : Option α} {f : α → Option β} (h : x = x') : x.bind f = x'.bind f := by rw [h]
section
variable {ρ : Rho} {st : Sto} {fa fb fc : FE} {ta tb : FT} {fr : FA} {s1 s2 : FS} {h h' : D → D → Sto → Option (D × Sto)} {hA : HA} {n : Nat}
@[simp] theorem e_run {N : Nat} {sb : FS} {ds : List D} : runD N sb ds st = (sb (ds.map some ++ List.replicate (N - ds.length) none) st).bind fun p => match p.1 with
  | .rt d => some (d, p.2.2)
  | .nx => some (.non, p.2.2)
  | _ => none := rfl
@[simp] theorem e_seq : sSeq s1 s2 ρ st = (s1 ρ st).bind fun p => match p.1 with
  | .nx => s2 p.2.1 p.2.2
  | f => some (f, p.2.1, p.2.2) := rfl
@[simp] theorem e_next : sNext ρ st = some (.nx, ρ, st) := rfl
@[simp] theorem e_set {i : Nat} : sSet i fa ρ st = (fa ρ st).bind fun p => some (.nx, ρ.set i (some p.1), p.2) := rfl
@[simp] theorem e_expr : sExpr fa ρ st = (fa ρ st).bind fun p => some (.nx, ρ, p.2) := rfl
@[simp] theorem e_ret : sRet fa ρ st = (fa ρ st).bind fun p => some (.rt p.1, ρ, p.2) := rfl
@[simp] theorem e_retN : sRetN ρ st = some (.rt .non, ρ, st) := rfl
@[simp] theorem e_if : sIf ta s1 s2 ρ st = (ta ρ st).bind fun p => if p.1 = true then s1 ρ p.2 else s2 ρ p.2 := rfl
@[simp] theorem e_put {fo fi : FE} : sPut fa fo fi ρ st = (fa ρ st).bind fun p => (fo ρ p.2).bind fun q => (fi ρ q.2).bind fun r => (putIx q.1 r.1 p.1 r.2).bind fun st' => some (.nx, ρ, st') := by
  unfold sPut
  congr; funext p; congr; funext q; congr; funext r
  cases putIx q.1 r.1 p.1 r.2 <;> rfl
@[simp] theorem e_unp {tg : Tg} : sUnp tg fa ρ st = (fa ρ st).bind fun p => (tgD tg p.1 ρ).bind fun ρ' => some (.nx, ρ', p.2) := by
  unfold sUnp
  congr; funext p
  cases tgD tg p.1 ρ <;> rfl
@[simp] theorem e_par {is : List Nat} : sPar is fr ρ st = (fr ρ st).bind fun p => if p.1.length = is.length then some (.nx, setM ρ is p.1, p.2) else none := rfl
@[simp] theorem e_C {d : D} : fC d ρ st = some (d, st) := rfl
@[simp] theorem e_V {i : Nat} : fV i ρ st = match ρ[i]? with
  | some (some d) => some (d, st)
  | _ => none := rfl
@[simp] theorem e_op : fOp h fa fb ρ st = (fa ρ st).bind fun p => (fb ρ p.2).bind fun q => h p.1 q.1 q.2 := rfl
@[simp] theorem e_chain : fChain h h' fa fb fc ρ st = (fa ρ st).bind fun p => (fb ρ p.2).bind fun q => (h p.1 q.1 q.2).bind fun r => match r.1 with
  | .bl true => (fc ρ r.2).bind fun z => h' q.1 z.1 z.2
  | .bl false => some (.bl false, r.2)
  | _ => none := rfl
@[simp] theorem e_asB {b : Bool} : asB (.bl b) = some b := rfl
@[simp] theorem e_and : fAnd fa fb ρ st = (fa ρ st).bind fun p => (asB p.1).bind fun k => if k = true then fb ρ p.2 else some (.bl false, p.2) := rfl
@[simp] theorem e_or : fOr fa fb ρ st = (fa ρ st).bind fun p => (asB p.1).bind fun k => if k = true then some (.bl true, p.2) else fb ρ p.2 := rfl
@[simp] theorem e_not : fNot fa ρ st = (fa ρ st).bind fun p => (asB p.1).bind fun k => some (.bl (!k), p.2) := rfl
@[simp] theorem e_tst : fTst fa ρ st = (fa ρ st).bind fun p => (asB p.1).bind fun k => some (k, p.2) := rfl
@[simp] theorem e_tand : fTAnd ta tb ρ st = (ta ρ st).bind fun p => if p.1 = true then tb ρ p.2 else some (false, p.2) := rfl
@[simp] theorem e_tor : fTOr ta tb ρ st = (ta ρ st).bind fun p => if p.1 = true then some (true, p.2) else tb ρ p.2 := rfl
@[simp] theorem e_tnot : fTNot ta ρ st = (ta ρ st).bind fun p => some (!p.1, p.2) := rfl
@[simp] theorem e_ifx : fIf ta fa fb ρ st = (ta ρ st).bind fun p => if p.1 = true then fa ρ p.2 else fb ρ p.2 := rfl
@[simp] theorem e_nil : fNil ρ st = some ([], st) := rfl
@[simp] theorem e_cons : fCons fa fr ρ st = (fa ρ st).bind fun p => (fr ρ p.2).bind fun q => some (p.1 :: q.1, q.2) := rfl
@[simp] theorem e_tup : fTup fr ρ st = (fr ρ st).bind fun p => if p.1.length ≤ sizeLine then some (.tup p.1, p.2) else none := rfl
@[simp] theorem e_lst : fLst fr ρ st = (fr ρ st).bind fun p => if p.1.length ≤ sizeLine then some (.ref p.2.length, p.2 ++ [.lst p.1]) else none := rfl
@[simp] theorem e_call : fCall hA fr ρ st = (fr ρ st).bind fun p => hA p.1 p.2 := rfl
@[simp] theorem e_fn : fFn n hA fr ρ st = (fr ρ st).bind fun p => if p.1.length = n then hA p.1 p.2 else none := rfl
@[simp] theorem e_neg : fNeg fa ρ st = (fa ρ st).bind fun p => match p.1 with
  | .int i => some (.int (-i), p.2)
  | .bl b => some (.int (-(bI b)), p.2)
  | _ => none := rfl
@[simp] theorem e_sl {fl fu : FO} : fSl fa fl fu ρ st = (fa ρ st).bind fun p => (fl ρ p.2).bind fun l => (fu ρ l.2).bind fun u => sliceD p.1 l.1 u.1 u.2 := rfl
@[simp] theorem e_oN : oNone ρ st = some (none, st) := rfl
@[simp] theorem e_oS : oSome fa ρ st = (fa ρ st).bind fun p => match p.1 with
  | .int i => some (some i, p.2)
  | _ => none := rfl
@[simp] theorem e_isiT {Ts : List String} : fIsiT Ts fa ρ st = (fa ρ st).bind fun p => (tyN p.1 p.2).bind fun t => (kits t Ts).bind fun b => some (.bl b, p.2) := by
  unfold fIsiT
  congr; funext p; congr; funext t
  cases kits t Ts <;> rfl
@[simp] theorem e_app {fo : FE} : fApp fo fa ρ st = (fo ρ st).bind fun p => (fa ρ p.2).bind fun q => match p.1 with
  | .ref l => match p.2[l]?, q.2[l]? with
    | some (.lst _), some (.lst ds) => if ds.length < sizeLine then some (.non, q.2.set l (.lst (ds ++ [q.1]))) else none
    | _, _ => none
  | _ => none := rfl
@[simp] theorem e_upper : fUpper fa ρ st = (fa ρ st).bind fun p => match p.1 with
  | .str x => if x.length ≤ 5592405 then some (.str (Txt.upper x), p.2) else none
  | _ => none := rfl
/-! operators at values -/
variable {i j : Int} {x y : Str} {l m : Nat} {xs ys : List D}
@[simp] theorem e_addI : addD (.int i) (.int j) st = some (.int (i + j), st) := rfl
@[simp] theorem e_subI : subD (.int i) (.int j) st = some (.int (i - j), st) := rfl
@[simp] theorem e_mulI : mulD (.int i) (.int j) st = if i.natAbs.log2 + j.natAbs.log2 < 1000000 then some (.int (i * j), st) else none := by
  show Option.map _ (if _ then _ else _) = _
  split <;> rfl
@[simp] theorem e_fdivI : fdivD (.int i) (.int j) st = if 0 < j ∧ j.natAbs.log2 < 9000 then some (.int (i / j), st) else none := by
  show Option.map _ (if _ then _ else _) = _
  split <;> rfl
@[simp] theorem e_modI : modD (.int i) (.int j) st = if 0 < j then some (.int (i % j), st) else none := by
  show Option.map _ (if _ then _ else _) = _
  split <;> rfl
@[simp] theorem e_powI : powD (.int i) (.int j) st = if 0 ≤ j ∧ j ≤ 1000000 ∧ i.natAbs < 2 ^ 64 then some (.int (i ^ j.toNat), st) else none := by
  show Option.map _ (if _ then _ else _) = _
  split <;> rfl
@[simp] theorem e_ltI : ltD (.int i) (.int j) st = some (.bl (decide (i < j)), st) := rfl
@[simp] theorem e_leI : leD (.int i) (.int j) st = some (.bl (decide (i ≤ j)), st) := rfl
@[simp] theorem e_gtI : gtD (.int i) (.int j) st = some (.bl (decide (j < i)), st) := rfl
@[simp] theorem e_geI : geD (.int i) (.int j) st = some (.bl (decide (j ≤ i)), st) := rfl
@[simp] theorem e_ixT {G : G0} : ixG G (.tup xs) (.int i) st = (atI xs i).bind fun d => some (d, st) := by
  show Option.map _ (atI xs i) = _
  cases atI xs i <;> rfl
theorem e_ixL {G : G0} {ds : List D} (h : st[l]? = some (.lst ds)) : ixG G (.ref l) (.int i) st = (atI ds i).bind fun d => some (d, st) := by
  show (match st[l]? with
    | some (.lst ds) => (atI ds i).map fun d => (d, st)
    | none => none) = _
  rw [h]
  show Option.map _ (atI ds i) = _
  cases atI ds i <;> rfl
theorem e_putL {v : D} {ds : List D} (h : st[l]? = some (.lst ds)) : putIx (.ref l) (.int i) v st = (ixN ds.length i).bind fun j => some (st.set l (.lst (ds.set j v))) := by
  show (match st[l]? with
    | some (.lst ds) => (ixN ds.length i).map fun j => st.set l (.lst (ds.set j v))
    | none => none) = _
  rw [h]
  show Option.map _ (ixN ds.length i) = _
  cases ixN ds.length i <;> rfl
end
@[simp] theorem atI_0 {α : Type} {x : α} {r : List α} : atI (x :: r) 0 = some x := by simp [atI, ixN]
@[simp] theorem atI_1 {α : Type} {x y : α} {r : List α} : atI (x :: y :: r) 1 = some y := by
  have h : (1 : Int) < ((r.length : Int) + 1 + 1) := by omega
  simp [atI, ixN, h]
@[simp] theorem ixN_0 {n : Nat} : ixN (n + 1) 0 = some 0 := by
  have h : (0 : Int) < (n : Int) + 1 := by omega
  simp [ixN, h]
@[simp] theorem ixN_1 {n : Nat} : ixN (n + 1 + 1) 1 = some 1 := by
  have h : (1 : Int) < (n : Int) + 1 + 1 := by omega
  simp [ixN, h]
end DL

set_option Elab.async false
set_option linter.all false
set_option maxRecDepth 100000
set_option maxHeartbeats 1000000
/-! a value is given, and what is known of it -/
namespace DL
open PySem PySem.Spec PyProof.Rows L2 GxR LG
def Ok {α : Type} (x : Option α) (Q : α → Prop) : Prop := ∃ a, x = some a ∧ Q a
section
variable {α β : Type} {x : Option α} {Q R : α → Prop}
theorem Ok.mono (h : Ok x Q) (i : ∀ a, Q a → R a) : Ok x R := let ⟨a, e, q⟩ := h; ⟨a, e, i a q⟩
theorem Ok.pure {a : α} (h : Q a) : Ok (some a) Q := ⟨a, rfl, h⟩
theorem Ok.bind {f : α → Option β} {S : β → Prop} (h : Ok x fun a => Ok (f a) S) : Ok (x.bind f) S := by
  obtain ⟨a, rfl, b, e, s⟩ := h
  exact ⟨b, e, s⟩
theorem Ok.then {f : α → Option β} {S : β → Prop} (h : Ok x Q) (i : ∀ a, Q a → Ok (f a) S) : Ok (x.bind f) S := Ok.bind (h.mono i)
theorem Ok.map {f : α → β} {S : β → Prop} (h : Ok x fun a => S (f a)) : Ok (x.map f) S := by
  obtain ⟨a, rfl, s⟩ := h
  exact ⟨f a, rfl, s⟩
theorem Ok.eq {y : Option α} (h : Ok y Q) (e : x = y) : Ok x Q := by rw [e]; exact h
theorem Ok.and (h : Ok x Q) (h' : Ok x R) : Ok x fun a => Q a ∧ R a := by
  obtain ⟨a, rfl, q⟩ := h
  obtain ⟨b, e, r⟩ := h'
  cases e
  exact ⟨a, rfl, q, r⟩
end
/-- the bag -/
def Bg (lb : Nat) (st : Sto) : Prop := ∃ x y : Int, st[lb]? = some (.lst [.int x, .int y]) ∧ 0 ≤ x ∧ 0 ≤ y ∧ y < 2147483648
/-- but for the bag all that stood stands -/
structure Go (lb : Nat) (st st' : Sto) : Prop where
  bg : Bg lb st'
  keep : ∀ (l : Nat) (o : O), l ≠ lb → st[l]? = some o → st'[l]? = some o
  le : st.length ≤ st'.length
section
variable {lb : Nat} {st st' st'' : Sto}
theorem Go.refl (h : Bg lb st) : Go lb st st := ⟨h, fun _ _ _ e => e, Nat.le_refl _⟩
theorem Go.trans (a : Go lb st st') (b : Go lb st' st'') : Go lb st st'' := ⟨b.bg, fun l o n e => b.keep l o n (a.keep l o n e), Nat.le_trans a.le b.le⟩
theorem at_lt {l : Nat} {o : O} (h : st[l]? = some o) : l < st.length := (List.getElem?_eq_some_iff.mp h).1
theorem Bg.lt (h : Bg lb st) : lb < st.length := let ⟨_, _, h, _⟩ := h; at_lt h
theorem Bg.app (h : Bg lb st) (more : Sto) : Bg lb (st ++ more) := by
  have hl := h.lt
  obtain ⟨x, y, h, r⟩ := h
  exact ⟨x, y, by rw [List.getElem?_append_left hl]; exact h, r⟩
theorem at_app {l : Nat} {o : O} (h : st[l]? = some o) (more : Sto) : (st ++ more)[l]? = some o := by
  rw [List.getElem?_append_left (at_lt h)]; exact h
theorem at_new {o : O} : (st ++ [o])[st.length]? = some o := by simp
theorem Go.app (h : Bg lb st) (more : Sto) : Go lb st (st ++ more) := ⟨h.app more, fun l o _ e => at_app e more, by simp⟩
theorem Go.ne (g : Go lb st st') {l : Nat} {o : O} (n : l ≠ lb) (h : st[l]? = some o) : st'[l]? = some o := g.keep l o n h
end
/-- an expression that may draw -/
def ED (lb : Nat) (ρ : Rho) (f : FE) (P : D → Prop) : Prop := ∀ st, Bg lb st → Ok (f ρ st) fun p => P p.1 ∧ Go lb st p.2
def EA (lb : Nat) (ρ : Rho) (f : FA) (P : List D → Prop) : Prop := ∀ st, Bg lb st → Ok (f ρ st) fun p => P p.1 ∧ Go lb st p.2
def Nn (lo hi : Int) (d : D) : Prop := ∃ i, d = .int i ∧ lo ≤ i ∧ i ≤ hi
section
variable {lb : Nat} {ρ : Rho} {f g : FE} {fr : FA} {P Q R : D → Prop} {A B : List D → Prop} {G : G0}
theorem ED.mono (h : ED lb ρ f P) (i : ∀ d, P d → Q d) : ED lb ρ f Q := fun st b => (h st b).mono fun _ q => ⟨i _ q.1, q.2⟩
theorem EA.mono (h : EA lb ρ fr A) (i : ∀ d, A d → B d) : EA lb ρ fr B := fun st b => (h st b).mono fun _ q => ⟨i _ q.1, q.2⟩
theorem ED.c {d : D} (h : P d) : ED lb ρ (fC d) P := fun st b => ⟨_, rfl, h, .refl b⟩
theorem ED.v {i : Nat} {d : D} (e : ρ[i]? = some (some d)) (h : P d) : ED lb ρ (fV i) P := fun st b => ⟨(d, st), by unfold fV; rw [e], h, .refl b⟩
theorem EA.nil (h : A []) : EA lb ρ fNil A := fun st b => ⟨_, rfl, h, .refl b⟩
theorem EA.cons (h : ED lb ρ f P) (t : EA lb ρ fr A) : EA lb ρ (fCons f fr) (fun ds => ∃ d r, ds = d :: r ∧ P d ∧ A r) := fun st b =>
  (h st b).then fun p q => (t p.2 q.2.bg).then fun r s => .pure ⟨⟨_, _, rfl, q.1, s.1⟩, q.2.trans s.2⟩
theorem EA.all0 : EA lb ρ fNil (fun ds => ds.length = 0 ∧ ∀ d ∈ ds, P d) := .nil ⟨rfl, fun _ h => by cases h⟩
theorem EA.allC {n : Nat} (h : ED lb ρ f P) (t : EA lb ρ fr (fun ds => ds.length = n ∧ ∀ d ∈ ds, P d)) : EA lb ρ (fCons f fr) (fun ds => ds.length = n + 1 ∧ ∀ d ∈ ds, P d) :=
  (EA.cons h t).mono fun ds ⟨d, r, e, p, q1, q2⟩ => by
    subst e
    exact ⟨by simp [q1], fun x hx => by rcases List.mem_cons.mp hx with z | z; exact z ▸ p; exact q2 x z⟩
theorem ED.tup (h : EA lb ρ fr (fun ds => ds.length ≤ sizeLine ∧ P (.tup ds))) : ED lb ρ (fTup fr) P := fun st b =>
  (h st b).then fun p q => by rw [if_pos q.1.1]; exact .pure ⟨q.1.2, q.2⟩
theorem ED.call {h : HA} (a : EA lb ρ fr A) (k : ∀ ds st, A ds → Ok (h ds st) fun p => P p.1 ∧ p.2 = st) : ED lb ρ (fCall h fr) P := fun st b =>
  (a st b).then fun p q => (k p.1 p.2 q.1).mono fun r s => ⟨s.1, by rw [s.2]; exact q.2⟩
theorem ED.op {h : D → D → Sto → Option (D × Sto)} (a : ED lb ρ f P) (c : ED lb ρ g Q) (k : ∀ x y st, P x → Q y → Ok (h x y st) fun p => R p.1 ∧ p.2 = st) : ED lb ρ (fOp h f g) R := fun st b =>
  (a st b).then fun p q => (c p.2 q.2.bg).then fun r s => (k p.1 r.1 r.2 q.1 s.1).mono fun t u => ⟨u.1, by rw [u.2]; exact q.2.trans s.2⟩
theorem ED.fn {n : Nat} {h : HA} (a : EA lb ρ fr A) (k : ∀ ds st, A ds → Bg lb st → ds.length = n ∧ Ok (h ds st) fun p => P p.1 ∧ Go lb st p.2) : ED lb ρ (fFn n h fr) P := fun st b =>
  (a st b).then fun p q => by
    obtain ⟨e, o⟩ := k p.1 p.2 q.1 q.2.bg
    rw [if_pos e]
    exact o.mono fun r s => ⟨s.1, q.2.trans s.2⟩
theorem ED.neg {lo hi : Int} (a : ED lb ρ f (Nn lo hi)) : ED lb ρ (fNeg f) (Nn (-hi) (-lo)) := fun st b => (a st b).then fun p q => by
  obtain ⟨⟨i, e, h1, h2⟩, g⟩ := q
  rw [e]
  exact .pure ⟨⟨_, rfl, by omega, by omega⟩, g⟩
theorem ED.add {l1 h1 l2 h2 lo hi : Int} (a : ED lb ρ f (Nn l1 h1)) (c : ED lb ρ g (Nn l2 h2)) (e1 : lo ≤ l1 + l2 := by decide) (e2 : h1 + h2 ≤ hi := by decide) : ED lb ρ (fOp addD f g) (Nn lo hi) :=
  .op a c fun x y st ⟨i, ei, i1, i2⟩ ⟨j, ej, j1, j2⟩ => by subst ei; subst ej; exact .pure ⟨⟨_, rfl, by omega, by omega⟩, rfl⟩
theorem ED.sub {l1 h1 l2 h2 lo hi : Int} (a : ED lb ρ f (Nn l1 h1)) (c : ED lb ρ g (Nn l2 h2)) (e1 : lo ≤ l1 - h2 := by decide) (e2 : h1 - l2 ≤ hi := by decide) : ED lb ρ (fOp subD f g) (Nn lo hi) :=
  .op a c fun x y st ⟨i, ei, i1, i2⟩ ⟨j, ej, j1, j2⟩ => by subst ei; subst ej; exact ⟨_, e_subI, ⟨_, rfl, by omega, by omega⟩, rfl⟩
theorem ED.n {i lo hi : Int} (h1 : lo ≤ i := by decide) (h2 : i ≤ hi := by decide) : ED lb ρ (fC (.int i)) (Nn lo hi) := .c ⟨i, rfl, h1, h2⟩
theorem ED.x {k : Nat} {i lo hi : Int} (e : ρ[k]? = some (some (.int i))) (h1 : lo ≤ i) (h2 : i ≤ hi) : ED lb ρ (fV k) (Nn lo hi) := .v e ⟨i, rfl, h1, h2⟩
theorem atI_lt {α : Type} {l : List α} {i : Int} (h0 : 0 ≤ i) (h1 : i < l.length) : ∃ x, atI l i = some x ∧ x ∈ l ∧ l[i.toNat]? = some x := by
  have h2 : i.toNat < l.length := by omega
  refine ⟨l[i.toNat], ?_, List.getElem_mem h2, by simp [h2]⟩
  unfold atI ixN
  have e1 : ¬ i < 0 := by omega
  simp [e1, h0, h1, h2]
theorem ED.pick {n : Nat} (a : EA lb ρ fr (fun ds => ds.length = n ∧ ∀ d ∈ ds, P d)) (c : ED lb ρ g (Nn 0 ((n : Int) - 1))) (hn : n ≤ sizeLine := by decide) : ED lb ρ (fOp (ixG G) (fLst fr) g) P := fun st b => by
  refine Ok.then (Q := fun p => ∃ l ds, p.1 = .ref l ∧ l ≠ lb ∧ p.2[l]? = some (.lst ds) ∧ ds.length = n ∧ (∀ d ∈ ds, P d) ∧ Go lb st p.2) ?_ fun p ⟨l, ds, e, nl, hl, hn, hp, g1⟩ => ?_
  · refine (a st b).then fun p ⟨⟨q1, q2⟩, q3⟩ => ?_
    rw [if_pos (by rw [q1]; exact hn)]
    refine .pure ⟨_, _, rfl, ?_, at_new, q1, q2, q3.trans (Go.app q3.bg _)⟩
    have := q3.bg.lt
    omega
  · refine (c p.2 g1.bg).then fun r ⟨⟨i, ei, i1, i2⟩, g2⟩ => ?_
    obtain ⟨x, h1, h2, _⟩ := atI_lt (l := ds) i1 (by omega)
    rw [e, ei, e_ixL (g2.ne nl hl), h1]
    exact .pure ⟨hp x h2, g1.trans g2⟩
end
end DL

set_option Elab.async false
set_option linter.all false
set_option maxRecDepth 100000
set_option maxHeartbeats 1000000
/-! data of some depth, bounded; loops over data -/
namespace DL
open PySem PySem.Spec PyProof.Rows L2 GxR LG
def Dn (st : Sto) (av : Nat → Prop) (g : Nat) : Nat → D → Prop
  | _, .non => True
  | _, .bl _ => True
  | _, .int i => i.natAbs ≤ 10 ^ 30 + 2000 * g
  | _, .str x => x.length ≤ 300 * 4 ^ g ∧ ∀ c ∈ x.cps.toList, c < 128
  | n + 1, .tup ds => ds.length ≤ 20 + g ∧ ∀ d ∈ ds, Dn st av g n d
  | n + 1, .ref l => ¬ av l ∧ ∃ ds, st[l]? = some (.lst ds) ∧ ds.length ≤ 20 + g ∧ ∀ d ∈ ds, Dn st av g n d
  | _, _ => False
section
variable {st st' : Sto} {av av' : Nat → Prop} {g g' n m : Nat} {d : D}
theorem Dn.map (hg : g ≤ g') (hs : ∀ l ds, ¬ av l → st[l]? = some (.lst ds) → ¬ av' l ∧ st'[l]? = some (.lst ds)) : ∀ {n m : Nat} {d : D}, n ≤ m → Dn st av g n d → Dn st' av' g' m d
  | n, m, .non, _, _ => by cases m <;> simp [Dn]
  | n, m, .bl b, _, _ => by cases m <;> simp [Dn]
  | n, m, .int i, _, h => by
    have h : i.natAbs ≤ 10 ^ 30 + 2000 * g := by cases n <;> simpa [Dn] using h
    have : i.natAbs ≤ 10 ^ 30 + 2000 * g' := by omega
    cases m <;> simpa [Dn] using this
  | n, m, .str x, _, h => by
    have h : x.length ≤ 300 * 4 ^ g ∧ ∀ c ∈ x.cps.toList, c < 128 := by cases n <;> simpa [Dn] using h
    have h2 : 4 ^ g ≤ 4 ^ g' := Nat.pow_le_pow_right (by decide) hg
    have : x.length ≤ 300 * 4 ^ g' ∧ ∀ c ∈ x.cps.toList, c < 128 := ⟨by omega, h.2⟩
    cases m <;> simpa [Dn] using this
  | 0, _, .tup ds, _, h => by simp [Dn] at h
  | 0, _, .ref l, _, h => by simp [Dn] at h
  | n + 1, 0, _, h, _ => absurd h (by omega)
  | n + 1, m + 1, .tup ds, hn, h => by
    simp only [Dn] at h ⊢
    exact ⟨by omega, fun d hd => Dn.map hg hs (Nat.le_of_succ_le_succ hn) (h.2 d hd)⟩
  | n + 1, m + 1, .ref l, hn, h => by
    simp only [Dn] at h ⊢
    obtain ⟨h1, ds, h2, h3, h4⟩ := h
    obtain ⟨q1, q2⟩ := hs l ds h1 h2
    exact ⟨q1, ds, q2, by omega, fun d hd => Dn.map hg hs (Nat.le_of_succ_le_succ hn) (h4 d hd)⟩
  | 0, _, .scr, _, h => by simp [Dn] at h
  | n + 1, _, .scr, _, h => by simp [Dn] at h
  | 0, _, .ty _, _, h => by simp [Dn] at h
  | n + 1, _, .ty _, _, h => by simp [Dn] at h
theorem Dn.app (h : Dn st av g n d) (more : Sto) : Dn (st ++ more) av g n d := h.map (Nat.le_refl _) (fun l ds a e => ⟨a, at_app e more⟩) (Nat.le_refl _)
theorem Dn.up (h : Dn st av g n d) (hm : n ≤ m) : Dn st av g m d := h.map (Nat.le_refl _) (fun l ds a e => ⟨a, e⟩) hm
theorem Dn.gen (h : Dn st av g n d) (hg : g ≤ g') : Dn st av g' n d := h.map hg (fun l ds a e => ⟨a, e⟩) (Nat.le_refl _)
theorem Dn.go {lb : Nat} (h : Dn st av g n d) (ha : av lb) (k : Go lb st st') : Dn st' av g n d := h.map (Nat.le_refl _) (fun l ds a e => ⟨a, k.keep l _ (fun z => a (z ▸ ha)) e⟩) (Nat.le_refl _)
/-- what a value is -/
def Ty (st : Sto) : D → Prop
  | .ref l => ∃ ds, st[l]? = some (.lst ds)
  | .scr => False
  | .ty _ => False
  | _ => True
theorem Dn.ty (h : Dn st av g n d) : Ty st d := by
  cases d with
  | ref l =>
    cases n with
    | zero => simp [Dn] at h
    | succ n => simp only [Dn] at h; obtain ⟨_, ds, e, _⟩ := h; exact ⟨ds, e⟩
  | scr => cases n <;> simp [Dn] at h
  | ty t => cases n <;> simp [Dn] at h
  | _ => trivial
theorem Ty.app (h : Ty st d) (more : Sto) : Ty (st ++ more) d := by
  cases d with
  | ref l => obtain ⟨ds, e⟩ := h; exact ⟨ds, at_app e more⟩
  | scr => exact h
  | ty t => exact h
  | _ => trivial
theorem Dn.item {ds : List D} (h : Dn st av g n (.tup ds)) : ds.length ≤ 20 + g ∧ ∃ m, n = m + 1 ∧ ∀ d ∈ ds, Dn st av g m d := by
  cases n with
  | zero => simp [Dn] at h
  | succ n => simp only [Dn] at h; exact ⟨h.1, n, rfl, h.2⟩
theorem Dn.strOk {x : Str} (h : Dn st av g n (.str x)) : x.length ≤ 300 * 4 ^ g ∧ ∀ c ∈ x.cps.toList, c < 128 := by cases n <;> simpa [Dn] using h
/-! as plain data -/
theorem canAll : ∀ {ps : List PyData}, (∀ p ∈ ps, p.canLay0 = true) → PyData.canLayAll0 ps = true
  | [], _ => by simp [PyData.canLayAll0]
  | p :: ps, h => by simp only [PyData.canLayAll0, h p List.mem_cons_self, canAll fun q hq => h q (List.mem_cons_of_mem _ hq), Bool.and_self]
theorem depAll {k : Nat} : ∀ {ps : List PyData}, (∀ p ∈ ps, p.depth ≤ k) → PyData.depthAll ps ≤ k
  | [], _ => by simp [PyData.depthAll]
  | p :: ps, h => by
    have := h p List.mem_cons_self
    have := depAll fun q hq => h q (List.mem_cons_of_mem _ hq)
    simp only [PyData.depthAll]; omega
theorem toPDs_of {f : Nat} {Q : PyData → Prop} : ∀ {ds : List D} {k : Nat}, f + ds.length ≤ k → (∀ d ∈ ds, ∀ k, f ≤ k → ∃ p, toPD k st d = some p ∧ Q p) → ∃ ps, toPDs k st ds = some ps ∧ ps.length = ds.length ∧ ∀ p ∈ ps, Q p
  | [], k, _, _ => ⟨[], by cases k <;> simp [toPDs], rfl, fun p h => by cases h⟩
  | d :: ds, 0, h, _ => by simp at h
  | d :: ds, k + 1, h, i => by
    simp only [List.length_cons] at h
    obtain ⟨p, e1, q1⟩ := i d List.mem_cons_self k (by omega)
    obtain ⟨ps, e2, e3, q2⟩ := toPDs_of (ds := ds) (k := k) (by omega) fun d hd => i d (List.mem_cons_of_mem _ hd)
    exact ⟨p :: ps, by simp [toPDs, e1, e2], by simp [e3], fun x hx => by rcases List.mem_cons.mp hx with z | z; exact z ▸ q1; exact q2 x z⟩
theorem Dn.pd : ∀ {n : Nat} {d : D} {k : Nat}, n * (22 + g) ≤ k → Dn st av g n d → ∃ p, toPD k st d = some p ∧ p.canLay0 = true ∧ p.depth ≤ n
  | n, .non, k, _, _ => ⟨.none, by cases k <;> simp [toPD], by simp [PyData.canLay0], by simp [PyData.depth]⟩
  | n, .bl b, k, _, _ => ⟨.bool b, by cases k <;> simp [toPD], by simp [PyData.canLay0], by simp [PyData.depth]⟩
  | n, .int i, k, _, _ => ⟨.int i, by cases k <;> simp [toPD], by simp [PyData.canLay0], by simp [PyData.depth]⟩
  | n, .str x, k, _, h => ⟨.str x, by cases k <;> simp [toPD], by
      have := h.strOk.2
      simp only [PyData.canLay0, PyData.strOk, Array.all_eq_true, decide_eq_true_eq]
      intro i hi
      have := this x.cps[i] (by simp)
      omega, by simp [PyData.depth]⟩
  | 0, .tup ds, k, _, h => by simp [Dn] at h
  | 0, .ref l, k, _, h => by simp [Dn] at h
  | 0, .scr, k, _, h => by simp [Dn] at h
  | 0, .ty _, k, _, h => by simp [Dn] at h
  | n + 1, .scr, k, _, h => by simp [Dn] at h
  | n + 1, .ty _, k, _, h => by simp [Dn] at h
  | n + 1, .tup ds, k, hk, h => by
    simp only [Dn] at h
    have e : (n + 1) * (22 + g) = n * (22 + g) + (22 + g) := Nat.succ_mul _ _
    obtain ⟨k, rfl⟩ : ∃ j, k = j + 1 := ⟨k - 1, by omega⟩
    obtain ⟨ps, e1, e2, q⟩ := toPDs_of (f := n * (22 + g)) (Q := fun p => p.canLay0 = true ∧ p.depth ≤ n) (ds := ds) (k := k) (by omega) fun d hd k hk => Dn.pd hk (h.2 d hd)
    refine ⟨.tuple ps, by simp [toPD, e1], by simp only [PyData.canLay0]; exact canAll fun p hp => (q p hp).1, ?_⟩
    simp only [PyData.depth]
    have := depAll fun p hp => (q p hp).2
    omega
  | n + 1, .ref l, k, hk, h => by
    simp only [Dn] at h
    obtain ⟨_, ds, hl, hz, h⟩ := h
    have e : (n + 1) * (22 + g) = n * (22 + g) + (22 + g) := Nat.succ_mul _ _
    obtain ⟨k, rfl⟩ : ∃ j, k = j + 1 := ⟨k - 1, by omega⟩
    obtain ⟨ps, e1, e2, q⟩ := toPDs_of (f := n * (22 + g)) (Q := fun p => p.canLay0 = true ∧ p.depth ≤ n) (ds := ds) (k := k) (by omega) fun d hd k hk => Dn.pd hk (h d hd)
    refine ⟨.list ps, by simp [toPD, hl, e1], by simp only [PyData.canLay0]; exact canAll fun p hp => (q p hp).1, ?_⟩
    simp only [PyData.depth]
    have := depAll fun p hp => (q p hp).2
    omega
/-- a list held against the empty list -/
theorem eq_empty {l m : Nat} {ds : List D} (hl : st[l]? = some (.lst ds)) (hm : st[m]? = some (.lst [])) (hn : n ≤ 60) (hg : g ≤ 20) (hd : ds.length ≤ 20 + g) (h : ∀ d ∈ ds, Dn st av g n d) : eqD (.ref l) (.ref m) st = some (.bl ds.isEmpty, st) := by
  have hk : n * (22 + g) ≤ 60 * 42 := Nat.mul_le_mul hn (by omega)
  obtain ⟨ps, e1, e2, q⟩ := toPDs_of (st := st) (f := n * (22 + g)) (Q := fun p => p.canLay0 = true ∧ p.depth ≤ n) (ds := ds) (k := 3999) (by omega) fun d hd k hk => Dn.pd hk (h d hd)
  have a1 : toPD 4000 st (.ref l) = some (.list ps) := by
    show (match st[l]? with
      | some (.lst ds) => (toPDs 3999 st ds).map PyData.list
      | none => none) = _
    rw [hl]; simp only [e1, Option.map_some]
  have a2 : toPD 4000 st (.ref m) = some (.list []) := by
    show (match st[m]? with
      | some (.lst ds) => (toPDs 3999 st ds).map PyData.list
      | none => none) = _
    rw [hm]; rfl
  have s1 : SeqAt.shaped (.list ps) = true := by
    unfold SeqAt.shaped
    have := depAll fun p hp => (q p hp).2
    have c1 : (PyData.list ps).canLay0 = true := by simp only [PyData.canLay0]; exact canAll fun p hp => (q p hp).1
    have c2 : (PyData.list ps).depth ≤ 64 := by simp only [PyData.depth]; omega
    rw [c1, Bool.true_and]
    exact decide_eq_true c2
  have s2 : SeqAt.shaped (.list []) = true := by decide
  unfold eqD eqW
  rw [a1, a2]
  simp only [Option.bind_some, s1, s2, and_self, if_true, Bool.false_eq_true, if_false]
  have : PyData.eqv (.list ps) (.list []) = ds.isEmpty := by
    cases ps with
    | nil => cases ds with
      | nil => rfl
      | cons d ds => simp at e2
    | cons p ps => cases ds with
      | nil => simp at e2
      | cons d ds => rfl
  rw [this]
end
/-! loops -/
theorem Intact.app {src : Src} {st : Sto} (h : Intact src st) (more : Sto) : Intact src (st ++ more) := fun p hp => at_app (h p hp) more
theorem allD_ok {tg : Tg} {fe : FE} {src : Src} {N : Nat} {B : D → Bool} {st0 : Sto} (hi : Intact src st0) : ∀ {items : List D} {ρ : Rho} {st : Sto}, ρ.length = N → (∃ more, st = st0 ++ more) →
    (∀ d ∈ items, ∀ (ρ : Rho) (st : Sto), ρ.length = N → (∃ more, st = st0 ++ more) → ∃ ρ1, tgD tg d ρ = some ρ1 ∧ ρ1.length = N ∧ ∃ more, fe ρ1 st = some (.bl (B d), st ++ more)) → ∃ more, allD tg fe src items ρ st = some (items.all B, st ++ more)
  | [], ρ, st, _, ⟨m0, e0⟩, _ => ⟨[], by unfold allD; rw [if_pos (by rw [e0]; exact hi.app m0)]; simp⟩
  | d :: items, ρ, st, hN, ⟨m0, e0⟩, h => by
    obtain ⟨ρ1, e1, l1, m1, e2⟩ := h d List.mem_cons_self ρ st hN ⟨m0, e0⟩
    unfold allD
    rw [if_pos (by rw [e0]; exact hi.app m0), e1]
    simp only [Option.bind_some, e2, e_asB]
    cases hB : B d with
    | false => exact ⟨m1, by simp [hB]⟩
    | true =>
      obtain ⟨m2, e3⟩ := allD_ok hi (items := items) (ρ := ρ1) (st := st ++ m1) l1 ⟨m0 ++ m1, by rw [e0, List.append_assoc]⟩ fun d hd => h d (List.mem_cons_of_mem _ hd)
      exact ⟨m1 ++ m2, by simp [hB, e3]⟩
theorem lcD_ok {tg : Tg} {tt : FT} {fe : FE} {src : Src} {ρ : Rho} {T : D → Bool} {F : D → D} {st0 : Sto} (hi : Intact src st0) : ∀ {items acc : List D}, acc.length + items.length ≤ sizeLine →
    (∀ d ∈ items, ∃ ρ1, tgD tg d ρ = some ρ1 ∧ ∀ acc, tt ρ1 (st0 ++ [.lst acc]) = some (T d, st0 ++ [.lst acc]) ∧ (T d = true → fe ρ1 (st0 ++ [.lst acc]) = some (F d, st0 ++ [.lst acc]))) →
    lcD tg tt fe st0.length src ρ items (st0 ++ [.lst acc]) = some (st0 ++ [.lst (acc ++ (items.filter T).map F)])
  | [], acc, _, _ => by unfold lcD; rw [if_pos (hi.app _)]; simp
  | d :: items, acc, hz, h => by
    obtain ⟨ρ1, e1, k⟩ := h d List.mem_cons_self
    obtain ⟨k1, k2⟩ := k acc
    simp only [List.length_cons] at hz
    unfold lcD
    rw [if_pos (hi.app _), e1]
    simp only [Option.bind_some, k1]
    cases hT : T d with
    | false =>
      simp only [Bool.false_eq_true, if_false]
      rw [lcD_ok hi (by omega) fun d hd => h d (List.mem_cons_of_mem _ hd)]
      simp [hT]
    | true =>
      simp only [if_true, k2 hT, Option.bind_some, at_new]
      rw [if_pos (by omega)]
      have : (st0 ++ [O.lst acc]).set st0.length (.lst (acc ++ [F d])) = st0 ++ [.lst (acc ++ [F d])] := by simp
      rw [this, lcD_ok hi (by simp; omega) fun d hd => h d (List.mem_cons_of_mem _ hd)]
      simp [hT]
theorem forB_ok {tg : Tg} {b : FS} {src : Src} {I : Rho → Prop} {B : D → Bool} {st0 : Sto} (hi : Intact src st0) : ∀ {items : List D} {ρ : Rho} {st : Sto}, I ρ → (∃ more, st = st0 ++ more) →
    (∀ d ∈ items, ∀ (ρ : Rho) (st : Sto), I ρ → (∃ more, st = st0 ++ more) → ∃ ρ1, tgD tg d ρ = some ρ1 ∧ ∃ ρ2 more, I ρ2 ∧ b ρ1 st = some (if B d = true then .nx else .rt (.bl false), ρ2, st ++ more)) →
    ∃ ρ2 more, I ρ2 ∧ forD tg b src items ρ st = some (if items.all B = true then .nx else .rt (.bl false), ρ2, st ++ more)
  | [], ρ, st, hI, ⟨m0, e0⟩, _ => ⟨ρ, [], hI, by unfold forD; rw [if_pos (by rw [e0]; exact hi.app m0)]; simp⟩
  | d :: items, ρ, st, hI, ⟨m0, e0⟩, h => by
    obtain ⟨ρ1, e1, ρ2, m1, i2, e2⟩ := h d List.mem_cons_self ρ st hI ⟨m0, e0⟩
    unfold forD
    rw [if_pos (by rw [e0]; exact hi.app m0), e1]
    simp only [Option.bind_some, e2]
    cases hB : B d with
    | false => exact ⟨ρ2, m1, i2, by simp [hB]⟩
    | true =>
      obtain ⟨ρ3, m2, i3, e3⟩ := forB_ok hi (items := items) (ρ := ρ2) (st := st ++ m1) i2 ⟨m0 ++ m1, by rw [e0, List.append_assoc]⟩ fun d hd => h d (List.mem_cons_of_mem _ hd)
      exact ⟨ρ3, m1 ++ m2, i3, by simp [hB, e3]⟩
end DL

set_option Elab.async false
set_option linter.all false
set_option maxRecDepth 100000
set_option maxHeartbeats 1000000
/-! kinds asked for -/
namespace DL
open PySem PySem.Spec PyProof.Rows L2 GxR LG
def isIntD : D → Bool
  | .int _ => true
  | .bl _ => true
  | _ => false
def isBlD : D → Bool
  | .bl _ => true
  | _ => false
def isStrD : D → Bool
  | .str _ => true
  | _ => false
def isTupD : D → Bool
  | .tup _ => true
  | _ => false
def isRefD : D → Bool
  | .ref _ => true
  | _ => false
section
variable {st : Sto} {d : D}
theorem tyN_ref {l : Nat} {ds : List D} (h : st[l]? = some (.lst ds)) : tyN (.ref l) st = some "list" := by
  show (match st[l]? with
    | some (.lst _) => some "list"
    | none => none) = _
  rw [h]
theorem kT : kitB "NoneType" "int" = some false ∧ kitB "bool" "int" = some true ∧ kitB "int" "int" = some true ∧ kitB "str" "int" = some false ∧ kitB "tuple" "int" = some false ∧ kitB "list" "int" = some false ∧
    kitB "NoneType" "bool" = some false ∧ kitB "bool" "bool" = some true ∧ kitB "int" "bool" = some false ∧ kitB "str" "bool" = some false ∧ kitB "tuple" "bool" = some false ∧ kitB "list" "bool" = some false ∧
    kitB "NoneType" "str" = some false ∧ kitB "bool" "str" = some false ∧ kitB "int" "str" = some false ∧ kitB "str" "str" = some true ∧ kitB "tuple" "str" = some false ∧ kitB "list" "str" = some false ∧
    kitB "NoneType" "tuple" = some false ∧ kitB "bool" "tuple" = some false ∧ kitB "int" "tuple" = some false ∧ kitB "str" "tuple" = some false ∧ kitB "tuple" "tuple" = some true ∧ kitB "list" "tuple" = some false ∧
    kitB "NoneType" "list" = some false ∧ kitB "bool" "list" = some false ∧ kitB "int" "list" = some false ∧ kitB "str" "list" = some false ∧ kitB "tuple" "list" = some false ∧ kitB "list" "list" = some true := by
  refine ⟨?_, ?_, ?_, ?_, ?_, ?_, ?_, ?_, ?_, ?_, ?_, ?_, ?_, ?_, ?_, ?_, ?_, ?_, ?_, ?_, ?_, ?_, ?_, ?_, ?_, ?_, ?_, ?_, ?_, ?_⟩ <;> decide +kernel
def knD : D → String
  | .non => "NoneType"
  | .bl _ => "bool"
  | .int _ => "int"
  | .str _ => "str"
  | .tup _ => "tuple"
  | .ref _ => "list"
  | _ => ""
theorem tyN_ty (h : Ty st d) : tyN d st = some (knD d) := by
  cases d with
  | ref l => obtain ⟨ds, e⟩ := h; exact tyN_ref e
  | scr => exact h.elim
  | ty t => exact h.elim
  | _ => rfl
theorem isi_of {T : String} {b : Bool} (h : Ty st d) (e : kitB (knD d) T = some b) : isiD [d, .ty T] st = some (.bl b, st) := by
  show ((tyN d st).bind fun t => (kitB t T).map fun b => (D.bl b, st)) = _
  rw [tyN_ty h]
  show (kitB (knD d) T).map _ = _
  rw [e]; rfl
theorem isi_int (h : Ty st d) : isiD [d, .ty "int"] st = some (.bl (isIntD d), st) := isi_of h (by
  cases d with
  | scr => exact h.elim
  | ty t => exact h.elim
  | _ => first | exact kT.1 | exact kT.2.1 | exact kT.2.2.1 | exact kT.2.2.2.1 | exact kT.2.2.2.2.1 | exact kT.2.2.2.2.2.1)
theorem isi_bool (h : Ty st d) : isiD [d, .ty "bool"] st = some (.bl (isBlD d), st) := isi_of h (by
  have q := kT.2.2.2.2.2.2
  cases d with
  | scr => exact h.elim
  | ty t => exact h.elim
  | _ => first | exact q.1 | exact q.2.1 | exact q.2.2.1 | exact q.2.2.2.1 | exact q.2.2.2.2.1 | exact q.2.2.2.2.2.1)
theorem isi_str (h : Ty st d) : isiD [d, .ty "str"] st = some (.bl (isStrD d), st) := isi_of h (by
  have q := kT.2.2.2.2.2.2.2.2.2.2.2.2
  cases d with
  | scr => exact h.elim
  | ty t => exact h.elim
  | _ => first | exact q.1 | exact q.2.1 | exact q.2.2.1 | exact q.2.2.2.1 | exact q.2.2.2.2.1 | exact q.2.2.2.2.2.1)
theorem isi_tuple (h : Ty st d) : isiD [d, .ty "tuple"] st = some (.bl (isTupD d), st) := isi_of h (by
  have q := kT.2.2.2.2.2.2.2.2.2.2.2.2.2.2.2.2.2.2
  cases d with
  | scr => exact h.elim
  | ty t => exact h.elim
  | _ => first | exact q.1 | exact q.2.1 | exact q.2.2.1 | exact q.2.2.2.1 | exact q.2.2.2.2.1 | exact q.2.2.2.2.2.1)
theorem isi_list (h : Ty st d) : isiD [d, .ty "list"] st = some (.bl (isRefD d), st) := isi_of h (by
  have q := kT.2.2.2.2.2.2.2.2.2.2.2.2.2.2.2.2.2.2.2.2.2.2.2.2
  cases d with
  | scr => exact h.elim
  | ty t => exact h.elim
  | _ => first | exact q.1 | exact q.2.1 | exact q.2.2.1 | exact q.2.2.2.1 | exact q.2.2.2.2.1 | exact q.2.2.2.2.2)
theorem kits_tl (h : Ty st d) : kits (knD d) ["tuple", "list"] = some (isTupD d || isRefD d) := by
  have a := isi_tuple h
  have b := isi_list h
  unfold isiD at a b
  simp only [tyN_ty h, Option.bind_some] at a b
  obtain ⟨x, e1, e2⟩ := Option.map_eq_some_iff.mp a
  obtain ⟨y, f1, f2⟩ := Option.map_eq_some_iff.mp b
  cases e2; cases f2
  simp [kits, e1, f1]
/-! numbers within bounds -/
def wholeB (lo hi : Int) : D → Bool
  | .int i => decide (lo ≤ i) && decide (i ≤ hi)
  | _ => false
theorem whole_run {lo hi : Int} (h : Ty st d) : runD 3 (sRet (fAnd (fCall isiD (fCons (fV 0) (fCons (fC (.ty "int")) fNil))) (fAnd (fNot (fCall isiD (fCons (fV 0) (fCons (fC (.ty "bool")) fNil)))) (fChain leD leD (fV 1) (fV 0) (fV 2))))) [d, .int lo, .int hi] st = some (.bl (wholeB lo hi d), st) := by
  cases d with
  | int i =>
    simp [isi_int h, isi_bool h, isIntD, isBlD, wholeB]
    by_cases h1 : lo ≤ i <;> simp [h1]
  | bl b => simp [isi_int h, isi_bool h, isIntD, isBlD, wholeB]
  | scr => exact h.elim
  | ty t => exact h.elim
  | _ => simp [isi_int h, isIntD, wholeB]
/-! rising texts -/
def ltS (x y : Str) : Bool := decide (x.cps.toList < y.cps.toList)
def risB : List Str → Bool
  | x :: y :: r => ltS x y && risB (y :: r)
  | _ => true
theorem ltS_tr {x y z : Str} (h1 : ltS x y = true) (h2 : ltS y z = true) : ltS x z = true := by
  simp only [ltS, decide_eq_true_eq] at *; exact List.lt_trans h1 h2
theorem ris_pw : ∀ xs : List Str, risB xs = true ↔ xs.Pairwise (fun x y => ltS x y = true)
  | [] => by simp [risB]
  | [x] => by simp [risB]
  | x :: y :: r => by
    have ih := ris_pw (y :: r)
    simp only [risB, Bool.and_eq_true, ih, List.pairwise_cons (a := x)]
    constructor
    · rintro ⟨h1, h2⟩
      refine ⟨fun z hz => ?_, h2⟩
      rcases List.mem_cons.mp hz with e | e
      · exact e ▸ h1
      · exact ltS_tr h1 ((List.pairwise_cons.mp h2).1 z e)
    · rintro ⟨h1, h2⟩
      exact ⟨h1 y List.mem_cons_self, h2⟩
theorem lt_le {x y : Str} (h : ltS x y = true) : SX.leS x y = true := by
  simp only [ltS, SX.leS, decide_eq_true_eq] at *; exact List.le_of_lt h
theorem lt_ne {x y : Str} (h : ltS x y = true) : x ≠ y := fun e => by
  subst e
  simp only [ltS, decide_eq_true_eq] at h
  exact List.lt_irrefl _ h
theorem le_lt {x y : Str} (h : SX.leS x y = true) (hn : x ≠ y) : ltS x y = true := by
  by_cases hl : ltS x y = true
  · exact hl
  · have : SX.leS y x = true := by
      simp only [ltS, SX.leS, decide_eq_true_eq] at *
      exact List.not_lt.mp hl
    exact absurd (SX.leS_anti h this) hn
theorem ris_sort (xs : List Str) : risB xs = decide (xs = SX.sortSet xs) := by
  rw [Bool.eq_iff_iff, ris_pw, decide_eq_true_eq]
  constructor
  · intro h
    have nd : xs.Nodup := h.imp fun q => lt_ne q
    have e := SX.sortSet_of (l := xs) nd fun k => Iff.rfl
    rw [← e]
    exact SX.srt_uniq (le := fun a b => SX.leS a b = true) (fun a b => SX.leS_anti) (h.imp fun q => lt_le q) (List.pairwise_mergeSort SX.leS_tr SX.leS_tot xs) (List.mergeSort_perm xs SX.leS).symm
  · intro h
    have s1 : (SX.sortSet xs).Pairwise (fun a b => SX.leS a b = true) := List.pairwise_mergeSort SX.leS_tr SX.leS_tot _
    have s2 : (SX.sortSet xs).Nodup := (List.mergeSort_perm _ _).nodup_iff.mpr (SX.dd_nodup xs)
    rw [← h] at s1 s2
    exact s1.imp₂ (fun a b h1 h2 => le_lt h1 h2) s2
end
end DL

set_option Elab.async false
set_option linter.all false
set_option maxRecDepth 100000
set_option maxHeartbeats 1000000
/-! truths told, with new places at most -/
namespace DL
open PySem PySem.Spec L2 GxR LG
open PyProof.Rows hiding signs
def Pr (x : Option (D × Sto)) (st : Sto) (b : Bool) : Prop := ∃ more, x = some (.bl b, st ++ more)
def PrT (x : Option (Bool × Sto)) (st : Sto) (b : Bool) : Prop := ∃ more, x = some (b, st ++ more)
def PrS (x : Option (Fl × Rho × Sto)) (st : Sto) (b : Bool) : Prop := ∃ ρ' more, x = some (.rt (.bl b), ρ', st ++ more)
section
variable {st : Sto} {ρ : Rho} {fa fb fc : FE} {ta tb : FT} {s : FS} {a b c : Bool} {d : D}
theorem Pr.same {x : Option (D × Sto)} (h : x = some (.bl b, st)) : Pr x st b := ⟨[], by simp [h]⟩
theorem PrT.same {x : Option (Bool × Sto)} (h : x = some (b, st)) : PrT x st b := ⟨[], by simp [h]⟩
theorem Pr.cast {x : Option (D × Sto)} (h : Pr x st b) (e : b = c) : Pr x st c := e ▸ h
theorem PrS.cast {x : Option (Fl × Rho × Sto)} (h : PrS x st b) (e : b = c) : PrS x st c := e ▸ h
theorem pr_and (h1 : Pr (fa ρ st) st a) (h2 : a = true → ∀ more, Pr (fb ρ (st ++ more)) (st ++ more) b) : Pr (fAnd fa fb ρ st) st (a && b) := by
  obtain ⟨m1, e1⟩ := h1
  cases a with
  | false => exact ⟨m1, by simp [e1]⟩
  | true =>
    obtain ⟨m2, e2⟩ := h2 rfl m1
    exact ⟨m1 ++ m2, by simp [e1, e2]⟩
theorem pr_fn {fn : HA} {i : Nat} (e : ρ[i]? = some (some d)) (h : Pr (fn [d] st) st b) : Pr (fFn 1 fn (fCons (fV i) fNil) ρ st) st b := by
  obtain ⟨m, h⟩ := h
  exact ⟨m, by simp [e, h]⟩
theorem pr_fnx {fn : HA} (e : fa ρ st = some (d, st)) (h : Pr (fn [d] st) st b) : Pr (fFn 1 fn (fCons fa fNil) ρ st) st b := by
  obtain ⟨m, h⟩ := h
  exact ⟨m, by simp [e, h]⟩
theorem prt_tst (h : Pr (fa ρ st) st a) : PrT (fTst fa ρ st) st a := by
  obtain ⟨m, h⟩ := h
  exact ⟨m, by simp [h]⟩
theorem prt_not (h : PrT (ta ρ st) st a) : PrT (fTNot ta ρ st) st (!a) := by
  obtain ⟨m, h⟩ := h
  exact ⟨m, by simp [h]⟩
theorem prt_or (h1 : PrT (ta ρ st) st a) (h2 : a = false → ∀ more, PrT (tb ρ (st ++ more)) (st ++ more) b) : PrT (fTOr ta tb ρ st) st (a || b) := by
  obtain ⟨m1, e1⟩ := h1
  cases a with
  | true => exact ⟨m1, by simp [e1]⟩
  | false =>
    obtain ⟨m2, e2⟩ := h2 rfl m1
    exact ⟨m1 ++ m2, by simp [e1, e2]⟩
theorem prs_ret (h : Pr (fa ρ st) st b) : PrS (sRet fa ρ st) st b := by
  obtain ⟨m, h⟩ := h
  exact ⟨ρ, m, by simp [h]⟩
theorem prs_guard (h : PrT (ta ρ st) st c) (k : c = false → ∀ more, PrS (s ρ (st ++ more)) (st ++ more) b) : PrS (sSeq (sIf ta (sRet (fC (.bl false))) sNext) s ρ st) st (!c && b) := by
  obtain ⟨m1, e1⟩ := h
  cases c with
  | true => exact ⟨ρ, m1, by simp [e1]⟩
  | false =>
    obtain ⟨ρ', m2, e2⟩ := k rfl m1
    exact ⟨ρ', m1 ++ m2, by simp [e1, e2]⟩
theorem guard_run (h : PrT (ta ρ st) st c) : ∃ more, sIf ta (sRet (fC (.bl false))) sNext ρ st = some (if c = true then .rt (.bl false) else .nx, ρ, st ++ more) := by
  obtain ⟨m1, e1⟩ := h
  cases c with
  | true => exact ⟨m1, by simp [e1]⟩
  | false => exact ⟨m1, by simp [e1]⟩
theorem pr_run {N : Nat} {ds : List D} (h : PrS (s (ds.map some ++ List.replicate (N - ds.length) none) st) st b) : Pr (runD N s ds st) st b := by
  obtain ⟨ρ', m, e⟩ := h
  exact ⟨m, by simp [e]⟩
theorem eqI {i j : Int} : eqD (.int i) (.int j) st = some (.bl (i == j), st) := by
  unfold eqD eqW
  show (Option.some (PyData.int i)).bind _ = _
  simp only [Option.bind_some]
  show (Option.some (PyData.int j)).bind _ = _
  simp only [Option.bind_some]
  rw [if_pos ⟨rfl, rfl⟩]
  rfl
theorem neI {i j : Int} : neD (.int i) (.int j) st = some (.bl (!(i == j)), st) := by
  unfold neD eqW
  show (Option.some (PyData.int i)).bind _ = _
  simp only [Option.bind_some]
  show (Option.some (PyData.int j)).bind _ = _
  simp only [Option.bind_some]
  rw [if_pos ⟨rfl, rfl⟩]
  rfl
theorem neB {i j : Bool} : neD (.bl i) (.bl j) st = some (.bl (!(i == j)), st) := by
  unfold neD eqW
  show (Option.some (PyData.bool i)).bind _ = _
  simp only [Option.bind_some]
  show (Option.some (PyData.bool j)).bind _ = _
  simp only [Option.bind_some]
  rw [if_pos ⟨rfl, rfl⟩]
  rfl
theorem len_tup {G : G0} {ds : List D} : lenD G [.tup ds] st = some (.int ds.length, st) := rfl
end
end DL

set_option Elab.async false
set_option linter.all false
set_option maxRecDepth 100000
set_option maxHeartbeats 1000000
namespace K01
open PySem PySem.Spec PyProof.Rows L2 GxR LG DL
theorem set_bg {lb : Nat} {st : Sto} {x y x' y' : Int} (h : st[lb]? = some (.lst [.int x, .int y])) (hx : 0 ≤ x') (hy : 0 ≤ y') (hz : y' < 2147483648) : Go lb st (st.set lb (.lst [.int x', .int y'])) :=
  ⟨⟨x', y', by rw [List.getElem?_set_self (at_lt h)], hx, hy, hz⟩, fun l o n e => by rw [List.getElem?_set_ne (Ne.symm n)]; exact e, by simp⟩
theorem log2_small {i : Int} (h0 : 0 ≤ i) (h1 : i < 4294967296) : i.natAbs.log2 < 32 := by
  by_cases hz : i.natAbs = 0
  · rw [hz]; decide
  · exact (Nat.log2_lt hz).mpr (by omega)
theorem take_spec {G : G0} {lb : Nat} {m : Int} (hm : 1 ≤ m) (hm2 : m ≤ 1073741824) {st : Sto} (b : Bg lb st) : Ok (fn__law_take G [.ref lb, .int m] st) fun p => Nn 0 (m - 1) p.1 ∧ Go lb st p.2 := by
  obtain ⟨x, y, h, hx, hy, hz⟩ := b
  have e0 : (0 : Int) < m := by omega
  have em : m.natAbs.log2 < 9000 := by have := log2_small (i := m) (by omega) (by omega); omega
  unfold fn__law_take sb__law_take
  by_cases hp : 0 < x
  · refine ⟨(.int (x % m), st.set lb (.lst [.int (x / m), .int y])), ?_, ⟨_, rfl, Int.emod_nonneg _ (by omega), by have := Int.emod_lt_of_pos x e0; omega⟩, set_bg h (Int.ediv_nonneg hx (by omega)) hy hz⟩
    simp [e_ixL h, hp, e0, em, e_putL h]
  · have q1 := Int.emod_nonneg (y * 48271) (show (2147483647 : Int) ≠ 0 by decide)
    have q2 := Int.emod_lt_of_pos (y * 48271) (show (0 : Int) < 2147483647 by decide)
    have h' : (st.set lb (.lst [.int x, .int (y * 48271 % 2147483647)]))[lb]? = some (.lst [.int x, .int (y * 48271 % 2147483647)]) := by rw [List.getElem?_set_self (at_lt h)]
    have k1 : y.natAbs.log2 < 32 := log2_small hy (by omega)
    have k2 : (y * 48271 % 2147483647).natAbs.log2 < 32 := log2_small q1 (by omega)
    refine ⟨(.int (y * 48271 % 2147483647 * (y * 48271 % 2147483647) % 2147483629 / 64 % m), st.set lb (.lst [.int x, .int (y * 48271 % 2147483647)])), ?_, ⟨_, rfl, Int.emod_nonneg _ (by omega), by have := Int.emod_lt_of_pos (y * 48271 % 2147483647 * (y * 48271 % 2147483647) % 2147483629 / 64) e0; omega⟩, set_bg h hx q1 (by omega)⟩
    have w1 : Nat.log2 48271 < 32 := by decide
    have w2 : Nat.log2 64 < 9000 := by decide
    have l1 : y.natAbs.log2 + Nat.log2 48271 < 1000000 := by omega
    have l2 : (y * 48271 % 2147483647).natAbs.log2 + (y * 48271 % 2147483647).natAbs.log2 < 1000000 := by omega
    simp [e_ixL h, hp, e0, e_putL h, e_ixL h', l1, l2, w2]
end K01

set_option Elab.async false
set_option linter.all false
set_option maxRecDepth 100000
set_option maxHeartbeats 1000000
namespace K01
open PySem PySem.Spec L2 GxR LG DL
open PyProof.Rows hiding signs
section
variable {G : G0} {st : Sto} {av : Nat → Prop} {g n : Nat} {d : D}
theorem number_eq (h : Ty st d) : fn_is_number G [d] st = some (.bl (isIntD d && !isBlD d), st) := by
  unfold fn_is_number sb_is_number
  cases d with
  | int i => simp [isi_int h, isi_bool h, isIntD, isBlD]
  | bl b => simp [isi_int h, isi_bool h, isIntD, isBlD]
  | scr => exact h.elim
  | ty t => exact h.elim
  | _ => simp [isi_int h, isIntD, isBlD]
theorem whole_eq {lo hi : Int} (h : Ty st d) : fn_is_whole G [d, .int lo, .int hi] st = some (.bl (wholeB lo hi d), st) := by
  unfold fn_is_whole sb_is_whole
  have e := number_eq (G := G) h
  cases d with
  | int i =>
    simp [e, isIntD, isBlD, wholeB]
    by_cases h1 : lo ≤ i <;> simp [h1]
  | scr => exact h.elim
  | ty t => exact h.elim
  | _ => simp [e, isIntD, isBlD, wholeB]
theorem within_eq {lo hi : Int} (h : Ty st d) : fn__law_within G [d, .int lo, .int hi] st = some (.bl (wholeB lo hi d), st) := whole_run h
theorem pow_le (hg : g ≤ 7) : 300 * 4 ^ g ≤ 4915200 := by
  have : 4 ^ g ≤ 4 ^ 7 := Nat.pow_le_pow_right (by decide) hg
  have e : 4 ^ 7 = 16384 := by decide
  omega
theorem len_str {x : Str} (h : Dn st av g n (.str x)) (hg : g ≤ 7) : lenD G [.str x] st = some (.int x.length, st) := by
  have := h.strOk.1
  have := pow_le hg
  show (if x.length ≤ sizeLine then some (D.int x.length, st) else none) = _
  rw [if_pos (by rw [sizeLine_eq]; omega)]
def azB (c : Nat) : Bool := decide (97 ≤ c) && decide (c ≤ 122)
def nameB : D → Bool
  | .str x => decide (1 ≤ x.length) && decide (x.length ≤ 8) && x.cps.toList.all azB
  | _ => false
def signB : D → Bool
  | .str x => !decide (x.cps.toList < [97]) && !decide ([122] < x.cps.toList)
  | _ => false
theorem sign_az (c : Nat) : signB (.str ⟨#[c]⟩) = azB c := by
  unfold signB azB
  have h1 : decide (([c] : List Nat) < [97]) = decide (c < 97) := by rw [Bool.eq_iff_iff]; simp [List.cons_lt_cons_iff]
  have h2 : decide (([122] : List Nat) < [c]) = decide (122 < c) := by rw [Bool.eq_iff_iff]; simp [List.cons_lt_cons_iff]
  show (!decide (([c] : List Nat) < [97]) && !decide (([122] : List Nat) < [c])) = _
  rw [h1, h2, Bool.eq_iff_iff]
  simp
theorem signs_all (x : Str) : (signs x).all signB = x.cps.toList.all azB := by
  unfold signs
  rw [List.all_map]
  congr 1
  funext c
  exact sign_az c
theorem mem_signs {x : Str} {d : D} (h : d ∈ signs x) : ∃ c, c ∈ x.cps.toList ∧ d = .str ⟨#[c]⟩ := by
  unfold signs at h
  obtain ⟨c, h1, h2⟩ := List.mem_map.mp h
  exact ⟨c, h1, h2.symm⟩
theorem cps_a : ("a" : Str).cps.toList = [97] := by decide +kernel
theorem cps_z : ("z" : Str).cps.toList = [122] := by decide +kernel
theorem azs : ("abcdefghijklmnopqrstuvwxyz" : Str).cps.toList = [97, 98, 99, 100, 101, 102, 103, 104, 105, 106, 107, 108, 109, 110, 111, 112, 113, 114, 115, 116, 117, 118, 119, 120, 121, 122] := by decide +kernel
theorem mem_az (c : Nat) : decide (c ∈ ("abcdefghijklmnopqrstuvwxyz" : Str).cps.toList) = azB c := by
  rw [azs, Bool.eq_iff_iff]
  unfold azB
  simp only [decide_eq_true_eq, List.mem_cons, List.not_mem_nil, or_false, Bool.and_eq_true]
  omega
theorem name_eq (h : Dn st av g n d) (hg : g ≤ 7) : Pr (fn_is_name G [d] st) st (nameB d) := by
  have ty := h.ty
  cases d with
  | scr => exact ty.elim
  | ty t => exact ty.elim
  | str x =>
    obtain ⟨more, e⟩ := allD_ok (tg := .one 0) (fe := fChain leD leD (fC (.str "a")) (fV 0) (fC (.str "z"))) (src := []) (N := 1) (B := signB) (st0 := st) Intact.nil (items := signs x) (ρ := [none]) (st := st) rfl ⟨[], by simp⟩ fun d hd ρ st hN _ => by
      obtain ⟨c, _, rfl⟩ := mem_signs hd
      refine ⟨ρ.set 0 (some (.str ⟨#[c]⟩)), rfl, by simp [hN], [], ?_⟩
      have e0 : (ρ.set 0 (some (D.str ⟨#[c]⟩)))[0]? = some (some (.str ⟨#[c]⟩)) := by rw [List.getElem?_set_self (by omega)]
      simp only [e_chain, e_C, e_V, e0, Option.bind_some]
      have q1 : leD (.str "a") (.str ⟨#[c]⟩) st = some (.bl (!decide (([c] : List Nat) < [97])), st) := by
        show some (D.bl (!decide (([c] : List Nat) < ("a" : Str).cps.toList)), st) = _
        rw [cps_a]
      have q2 : leD (.str ⟨#[c]⟩) (.str "z") st = some (.bl (!decide (([122] : List Nat) < [c])), st) := by
        show some (D.bl (!decide (("z" : Str).cps.toList < ([c] : List Nat))), st) = _
        rw [cps_z]
      rw [q1]
      simp only [Option.bind_some]
      have sB : signB (.str ⟨#[c]⟩) = (!decide (([c] : List Nat) < [97]) && !decide (([122] : List Nat) < [c])) := rfl
      rw [sB]
      cases hq : !decide (([c] : List Nat) < [97]) with
      | false => simp
      | true => simp [e0, q2]
    by_cases hz : 1 ≤ x.length ∧ x.length ≤ 8
    · have z1 : (1 : Int) ≤ (x.length : Int) := by omega
      have z2 : (x.length : Int) ≤ 8 := by omega
      refine ⟨more, ?_⟩
      have nb : nameB (.str x) = (signs x).all signB := by rw [signs_all]; simp [nameB, hz.1, hz.2]
      rw [nb]
      unfold fn_is_name sb_is_name fAllG
      simp [isi_str ty, isStrD, len_str (G := G) h hg, z1, z2, iSeq, capD, e]
    · refine .same ?_
      unfold fn_is_name sb_is_name
      by_cases z1 : 1 ≤ x.length
      · have z2 : ¬ x.length ≤ 8 := fun z => hz ⟨z1, z⟩
        have y1 : (1 : Int) ≤ (x.length : Int) := by omega
        have y2 : ¬ (x.length : Int) ≤ 8 := by omega
        simp [isi_str ty, isStrD, len_str (G := G) h hg, y1, y2, nameB, z1, z2]
      · have y1 : ¬ (1 : Int) ≤ (x.length : Int) := by omega
        simp [isi_str ty, isStrD, len_str (G := G) h hg, y1, nameB, z1]
  | _ =>
    refine .same ?_
    unfold fn_is_name sb_is_name
    simp [isi_str ty, isStrD, nameB]
theorem dn_sign {x : Str} (h : ∀ c ∈ x.cps.toList, c < 128) {d : D} (hd : d ∈ signs x) : Dn st av g 0 d := by
  obtain ⟨c, hc, rfl⟩ := mem_signs hd
  simp only [Dn]
  refine ⟨?_, ?_⟩
  · show 1 ≤ _
    have : 0 < 4 ^ g := Nat.pow_pos (by decide)
    omega
  · intro c' hc'
    have : c' ∈ [c] := hc'
    rw [List.mem_singleton.mp this]
    exact h c hc
theorem lname_eq (h : Dn st av g n d) (hg : g ≤ 7) : Pr (fn__law_is_name G [d] st) st (nameB d) := by
  have ty := h.ty
  cases d with
  | scr => exact ty.elim
  | ty t => exact ty.elim
  | str x =>
    by_cases hz : 1 ≤ x.length ∧ x.length ≤ 8
    · have z1 : (1 : Int) ≤ (x.length : Int) := by omega
      have z2 : (x.length : Int) ≤ 8 := by omega
      have sl : (signs x).length = x.length := by simp [signs]; rfl
      have e := lcD_ok (tg := .one 1) (tt := fTst (fOp (inW true) (fV 1) (fC (.str "abcdefghijklmnopqrstuvwxyz")))) (fe := fV 1) (src := []) (ρ := [some (.str x), none]) (T := fun d => !signB d) (F := id) (st0 := st) Intact.nil (items := signs x) (acc := []) (by rw [sl, sizeLine_eq]; simp; omega) fun d hd => by
        obtain ⟨c, _, rfl⟩ := mem_signs hd
        refine ⟨[some (.str x), some (.str ⟨#[c]⟩)], rfl, fun acc => ⟨?_, fun _ => by simp⟩⟩
        have q : inW true (.str ⟨#[c]⟩) (.str "abcdefghijklmnopqrstuvwxyz") (st ++ [O.lst acc]) = some (.bl (!decide (c ∈ ("abcdefghijklmnopqrstuvwxyz" : Str).cps.toList)), st ++ [.lst acc]) := rfl
        rw [mem_az] at q
        simp [q, sign_az]
      have q := eq_empty (st := st ++ [.lst ((signs x).filter fun d => !signB d)] ++ [.lst []]) (av := av) (g := g) (n := 0) (l := st.length) (m := st.length + 1) (ds := (signs x).filter fun d => !signB d) (at_app at_new _) (by simp) (by omega) (by omega)
        (by have := List.length_filter_le (fun d => !signB d) (signs x); omega) (fun d hd => dn_sign h.strOk.2 (List.mem_filter.mp hd).1)
      have em : ((signs x).filter fun d => !signB d).isEmpty = (signs x).all signB := by
        rw [Bool.eq_iff_iff, List.isEmpty_iff, List.filter_eq_nil_iff, List.all_eq_true]
        simp
      refine ⟨[.lst ((signs x).filter fun d => !signB d)] ++ [.lst []], ?_⟩
      have nb : nameB (.str x) = (signs x).all signB := by rw [signs_all]; simp [nameB, hz.1, hz.2]
      rw [nb, ← em]
      unfold fn__law_is_name sb__law_is_name fLc
      simp only [List.nil_append, List.map_id_fun, id_eq] at e
      simp [isi_str ty, isStrD, len_str (G := G) h hg, z1, z2, iSeq, wipeD, e]
      simp at q
      simp [q]
    · refine .same ?_
      unfold fn__law_is_name sb__law_is_name
      by_cases z1 : 1 ≤ x.length
      · have z2 : ¬ x.length ≤ 8 := fun z => hz ⟨z1, z⟩
        have y1 : (1 : Int) ≤ (x.length : Int) := by omega
        have y2 : ¬ (x.length : Int) ≤ 8 := by omega
        simp [isi_str ty, isStrD, len_str (G := G) h hg, y1, y2, nameB, z1, z2]
      · have y1 : ¬ (1 : Int) ≤ (x.length : Int) := by omega
        simp [isi_str ty, isStrD, len_str (G := G) h hg, y1, nameB, z1]
  | _ =>
    refine .same ?_
    unfold fn__law_is_name sb__law_is_name
    simp [isi_str ty, isStrD, nameB]
end
end K01

set_option Elab.async false
set_option linter.all false
set_option maxRecDepth 100000
set_option maxHeartbeats 1000000
namespace K01
open PySem PySem.Spec L2 GxR LG DL
open PyProof.Rows hiding signs
section
variable {G : G0} {st : Sto} {av : Nat → Prop} {g n : Nat} {d : D}
def tupOf (k : Int) : D → Bool
  | .tup ds => (ds.length : Int) == k
  | _ => false
theorem tupOf_eq {k : Int} (h : Ty st d) : fn_is_tuple_of G [d, .int k] st = some (.bl (tupOf k d), st) := by
  unfold fn_is_tuple_of sb_is_tuple_of
  cases d with
  | tup ds => simp [isi_tuple h, isTupD, tupOf, len_tup, eqI]
  | scr => exact h.elim
  | ty t => exact h.elim
  | _ => simp [isi_tuple h, isTupD, tupOf]
theorem dn_mem {ds : List D} (h : Dn st av g n (.tup ds)) {d : D} (hd : d ∈ ds) : Dn st av g n d := by
  obtain ⟨_, m, rfl, k⟩ := h.item
  exact (k d hd).up (Nat.le_succ _)
def placeB : D → Bool
  | .tup [a, b] => wholeB (-1000) 1000 a && wholeB (-1000) 1000 b
  | _ => false
theorem len2 {ds : List D} (h : ((ds.length : Int) == 2) = true) : ∃ a b, ds = [a, b] := by
  match ds, h with
  | [a, b], _ => exact ⟨a, b, rfl⟩
  | [], h => simp at h
  | [_], h => simp at h
  | _ :: _ :: _ :: _, h => simp at h; omega
theorem placeB_ne {ds : List D} (h : ((ds.length : Int) == 2) = false) : placeB (.tup ds) = false := by
  match ds, h with
  | [a, b], h => simp at h
  | [], _ => rfl
  | [_], _ => rfl
  | _ :: _ :: _ :: _, _ => rfl
theorem place_eq (h : Dn st av g n d) : Pr (fn_is_place G [d] st) st (placeB d) := by
  have ty := h.ty
  have e1 : tupOf 2 d = true → ∃ a b, d = .tup [a, b] := fun q => by
    cases d with
    | tup ds => obtain ⟨a, b, e⟩ := len2 q; exact ⟨a, b, by rw [e]⟩
    | _ => cases q
  have e2 : tupOf 2 d = false → placeB d = false := fun q => by
    cases d with
    | tup ds => exact placeB_ne q
    | _ => rfl
  unfold fn_is_place sb_is_place
  refine pr_run (prs_ret ?_)
  refine Pr.cast (pr_and (a := tupOf 2 d) (b := placeB d) (.same (by simp [tupOf_eq ty])) fun q more => ?_) (by cases q : tupOf 2 d <;> simp [e2, q])
  obtain ⟨a, b, rfl⟩ := e1 q
  obtain ⟨m, e⟩ := allD_ok (tg := .one 0) (fe := fFn 3 (fn_is_whole G) (fCons (fV 0) (fCons (fNeg (fC (.int 1000))) (fCons (fC (.int 1000)) fNil)))) (src := []) (N := 1) (B := wholeB (-1000) 1000) (st0 := st) Intact.nil (items := [a, b]) (ρ := [none]) (st := st ++ more) rfl ⟨more, rfl⟩ fun d hd ρ st' hN ⟨m2, e2⟩ => by
    refine ⟨ρ.set 0 (some d), rfl, by simp [hN], [], ?_⟩
    have e0 : (ρ.set 0 (some d))[0]? = some (some d) := by rw [List.getElem?_set_self (by omega)]
    have t : Ty st' d := by rw [e2]; exact ((dn_mem h hd).ty).app m2
    simp [e0, whole_eq t]
  refine ⟨m, ?_⟩
  unfold fAllG
  simp [iSeq, capD, e, placeB]
theorem spot_eq (h : Dn st av g n d) : Pr (fn__law_is_spot G [d] st) st (placeB d) := by
  have ty := h.ty
  unfold fn__law_is_spot sb__law_is_spot
  cases d with
  | tup ds =>
    by_cases q : ((ds.length : Int) == 2) = true
    · obtain ⟨a, b, rfl⟩ := len2 q
      have ta : Ty st a := (dn_mem h (by simp)).ty
      have tb : Ty st b := (dn_mem h (by simp)).ty
      refine .same ?_
      simp [isi_tuple ty, isTupD, len_tup, neI, within_eq ta, within_eq tb, placeB]
      cases wholeB (-1000) 1000 a <;> simp
    · have q' : ((ds.length : Int) == 2) = false := by simpa using q
      refine .same ?_
      rw [placeB_ne q']
      simp only [beq_eq_false_iff_ne] at q'
      simp [isi_tuple ty, isTupD, len_tup, neI, q']
  | scr => exact ty.elim
  | ty t => exact ty.elim
  | _ => refine .same ?_; simp [isi_tuple ty, isTupD, placeB]
theorem power_eq (ty : Ty st d) : fn_is_power G [d] st = some (.bl (wholeB 1 1000000 d), st) := by
  unfold fn_is_power sb_is_power; simp [whole_eq ty]
theorem need_eq (ty : Ty st d) : fn_is_need G [d] st = some (.bl (wholeB 1 1000 d), st) := by
  unfold fn_is_need sb_is_need; simp [whole_eq ty]
theorem leak_eq (ty : Ty st d) : fn_is_leak G [d] st = some (.bl (wholeB 1 1000 d), st) := by
  unfold fn_is_leak sb_is_leak; simp [whole_eq ty]
def stationB : D → Bool
  | .tup [a, b, c, e, f] => nameB a && (placeB b && (wholeB 1 1000000 c && (placeB e && wholeB 1 1000 f)))
  | _ => false
theorem len5 {ds : List D} (h : ((ds.length : Int) == 5) = true) : ∃ a b c e f, ds = [a, b, c, e, f] := by
  match ds, h with
  | [a, b, c, e, f], _ => exact ⟨a, b, c, e, f, rfl⟩
  | [], h => simp at h
  | [_], h => simp at h
  | [_, _], h => simp at h
  | [_, _, _], h => simp at h
  | [_, _, _, _], h => simp at h
  | _ :: _ :: _ :: _ :: _ :: _ :: _, h => simp at h; omega
theorem stationB_ne {ds : List D} (h : ((ds.length : Int) == 5) = false) : stationB (.tup ds) = false := by
  match ds, h with
  | [a, b, c, e, f], h => simp at h
  | [], h => rfl
  | [_], h => rfl
  | [_, _], h => rfl
  | [_, _, _], h => rfl
  | [_, _, _, _], h => rfl
  | _ :: _ :: _ :: _ :: _ :: _ :: _, h => rfl
theorem station_eq (h : Dn st av g n d) (hg : g ≤ 7) : Pr (fn_is_station G [d] st) st (stationB d) := by
  have ty := h.ty
  have e1 : tupOf 5 d = true → ∃ a b c e f, d = .tup [a, b, c, e, f] := fun q => by
    cases d with
    | tup ds => obtain ⟨a, b, c, e, f, r⟩ := len5 q; exact ⟨a, b, c, e, f, by rw [r]⟩
    | _ => cases q
  have e2 : tupOf 5 d = false → stationB d = false := fun q => by
    cases d with
    | tup ds => exact stationB_ne q
    | _ => rfl
  unfold fn_is_station sb_is_station
  refine pr_run (PrS.cast (prs_guard (c := !tupOf 5 d) (b := stationB d) (prt_not (prt_tst (.same (by simp [tupOf_eq ty])))) fun q more => ?_) (by cases q : tupOf 5 d <;> simp [e2, q]))
  obtain ⟨a, b, c, e, f, rfl⟩ := e1 (by simpa using q)
  have ha := (dn_mem h (d := a) (by simp)).app more
  have hb := (dn_mem h (d := b) (by simp)).app more
  have hc := (dn_mem h (d := c) (by simp)).app more
  have he := (dn_mem h (d := e) (by simp)).app more
  have hf := (dn_mem h (d := f) (by simp)).app more
  have q2 : PrS (sRet (fAnd (fFn 1 (fn_is_name G) (fCons (fV 1) fNil)) (fAnd (fFn 1 (fn_is_place G) (fCons (fV 2) fNil)) (fAnd (fFn 1 (fn_is_power G) (fCons (fV 3) fNil)) (fAnd (fFn 1 (fn_is_place G) (fCons (fV 4) fNil)) (fFn 1 (fn_is_need G) (fCons (fV 5) fNil)))))) [some (.tup [a, b, c, e, f]), some a, some b, some c, some e, some f] (st ++ more)) (st ++ more) (stationB (.tup [a, b, c, e, f])) :=
    prs_ret (pr_and (pr_fn rfl (name_eq ha hg)) fun _ m1 => pr_and (pr_fn rfl (place_eq (hb.app m1))) fun _ m2 => pr_and (pr_fn rfl (.same (power_eq ((hc.app m1).app m2).ty))) fun _ m3 => pr_and (pr_fn rfl (place_eq (((he.app m1).app m2).app m3))) fun _ m4 => pr_fn rfl (.same (need_eq ((((hf.app m1).app m2).app m3).app m4).ty)))
  obtain ⟨ρ', m, e⟩ := q2
  exact ⟨ρ', m, by simpa [tgD, setM] using e⟩
end
end K01

set_option Elab.async false
set_option linter.all false
set_option maxRecDepth 100000
set_option maxHeartbeats 1000000
namespace K01
open PySem PySem.Spec L2 GxR LG DL
open PyProof.Rows hiding signs cutD
section
variable {G : G0} {st : Sto} {av : Nat → Prop} {g n : Nat} {d : D} {ρ : Rho}
def nmOf : D → Str
  | .tup (.str x :: _) => x
  | _ => ⟨#[]⟩
theorem station_shape (h : stationB d = true) : ∃ x b c e f, d = .tup [.str x, b, c, e, f] ∧ x.cps.toList.all azB = true ∧ x.length ≤ 8 := by
  match d, h with
  | .tup [a, b, c, e, f], h =>
    simp only [stationB, Bool.and_eq_true] at h
    have ha := h.1
    cases a with
    | str x =>
      simp only [nameB, Bool.and_eq_true, decide_eq_true_eq] at ha
      exact ⟨x, b, c, e, f, rfl, ha.2, ha.1.2⟩
    | _ => cases ha
theorem names_lc {ds : List D} (hz : ds.length ≤ 1000) (h : ds.all stationB = true) {k : Nat} {ρ0 : Rho} (hρ : ∀ d, (ρ0.set k (some d))[k]? = some (some d)) :
    lcD (.one k) fYes (fOp (ixG G) (fV k) (fC (.int 0))) st.length [] ρ0 ds (st ++ [.lst []]) = some (st ++ [.lst ((ds.map nmOf).map D.str)]) := by
  have e := lcD_ok (tg := .one k) (tt := fYes) (fe := fOp (ixG G) (fV k) (fC (.int 0))) (src := []) (ρ := ρ0) (T := fun _ => true) (F := fun d => .str (nmOf d)) (st0 := st) Intact.nil (items := ds) (acc := []) (by rw [sizeLine_eq]; simp; omega) fun d hd => by
    obtain ⟨x, b, c, e, f, rfl, _⟩ := station_shape (List.all_eq_true.mp h d hd)
    refine ⟨ρ0.set k (some (.tup [.str x, b, c, e, f])), rfl, fun acc => ⟨rfl, fun _ => ?_⟩⟩
    simp [hρ, nmOf]
  have ft : ds.filter (fun _ => true) = ds := List.filter_eq_self.mpr fun _ _ => rfl
  rw [e, ft]
  simp [Function.comp_def]
theorem names_eq {ds : List D} (hz : ds.length ≤ 1000) (h : ds.all stationB = true) : fn_names_of G [.tup ds] st = some (.ref st.length, st ++ [.lst ((ds.map nmOf).map D.str)]) := by
  have e := names_lc (G := G) (st := st) hz h (k := 1) (ρ0 := [some (.tup ds), none]) (fun d => rfl)
  unfold fn_names_of sb_names_of fLc
  simp [iSeq, wipeD, e]
theorem zip_ris : ∀ xs : List Str, (List.zipWith (fun x y => D.tup [x, y]) (xs.map D.str) ((xs.map D.str).drop 1)).all (fun d => match d with
    | .tup [.str x, .str y] => ltS x y
    | _ => false) = risB xs
  | [] => rfl
  | [x] => rfl
  | x :: y :: r => by
    have ih := zip_ris (y :: r)
    simp only [List.map_cons, List.drop_one, List.tail_cons, List.zipWith_cons_cons, List.all_cons, risB] at ih ⊢
    rw [ih]
theorem rising_eq {l : Nat} {xs : List Str} (hl : st[l]? = some (.lst (xs.map D.str))) : Pr (fn_is_rising G [.ref l] st) st (risB xs) := by
  have cut : cutD (xs.map D.str) (some 1) none = (xs.map D.str).drop 1 := by
    unfold cutD
    have e1 : HT.sIx (xs.map D.str).length 0 (some 1) = min 1 (xs.map D.str).length := HT.sIx_nat _ _ 1
    rw [e1]
    show List.take ((xs.map D.str).length - _) _ = _
    cases xs with
    | nil => rfl
    | cons x r => simp; exact List.take_of_length_le (by simp)
  obtain ⟨m, e⟩ := allD_ok (tg := .many [0, 1]) (fe := fOp ltD (fV 0) (fV 1)) (src := [(l, xs.map D.str), (st.length, (xs.map D.str).drop 1)]) (N := 2) (B := fun d => match d with
    | .tup [.str x, .str y] => ltS x y
    | _ => false) (st0 := st ++ [.lst ((xs.map D.str).drop 1)]) (fun p hp => by
      rcases List.mem_cons.mp hp with z | z
      · subst z; exact at_app hl _
      · rw [List.mem_singleton.mp z]; exact at_new) (items := List.zipWith (fun x y => D.tup [x, y]) (xs.map D.str) ((xs.map D.str).drop 1)) (ρ := [none, none]) (st := st ++ [.lst ((xs.map D.str).drop 1)]) rfl ⟨[], by simp⟩ fun d hd ρ st' hN _ => by
    obtain ⟨x, y, rfl⟩ : ∃ x y : Str, d = .tup [.str x, .str y] := by
      obtain ⟨i, hi, e⟩ := List.getElem_of_mem hd
      rw [List.getElem_zipWith] at e
      simp only [List.getElem_map, List.getElem_drop] at e
      exact ⟨_, _, e.symm⟩
    match ρ, hN with
    | [p, q], _ =>
      refine ⟨[some (.str x), some (.str y)], rfl, rfl, [], ?_⟩
      have : ltD (.str x) (.str y) st' = some (.bl (ltS x y), st') := rfl
      simp [this]
  rw [zip_ris] at e
  refine ⟨[.lst ((xs.map D.str).drop 1)] ++ m, ?_⟩
  unfold fn_is_rising sb_is_rising fAllG
  have sl : sliceD (.ref l) (some 1) none st = some (.ref st.length, st ++ [.lst ((xs.map D.str).drop 1)]) := by
    show (match st[l]? with
      | some (.lst ds) => some (D.ref st.length, st ++ [O.lst (cutD ds (some 1) none)])
      | none => none) = _
    rw [hl]; simp only [cut]
  have z : iZipD (fCons (fV 0) (fCons (fSl (fV 0) (oSome (fC (.int 1))) oNone) fNil)) [some (.ref l)] st = some (List.zipWith (fun x y => D.tup [x, y]) (xs.map D.str) ((xs.map D.str).drop 1), [(l, xs.map D.str), (st.length, (xs.map D.str).drop 1)], st ++ [.lst ((xs.map D.str).drop 1)]) := by
    unfold iZipD
    simp only [e_cons, e_V, e_sl, e_oS, e_oN, e_C, e_nil, Option.bind_some, List.getElem?_cons_zero, sl]
    rw [at_app hl, at_new]
  simp only [e_run, e_ret, List.map_cons, List.map_nil, List.length_cons, List.length_nil]
  show Option.bind (Option.bind (Option.bind (iZipD _ [some (.ref l)] st) _) _) _ = _
  rw [z]
  simp only [Option.bind_some]
  show Option.bind (Option.bind (Option.bind (allD _ _ _ _ [none, none] _) _) _) _ = _
  rw [e]
  simp
def stationsB : D → Bool
  | .tup ds => decide (1 ≤ ds.length) && decide (ds.length ≤ 8) && (ds.all stationB && risB (ds.map nmOf))
  | _ => false
theorem stations_eq (h : Dn st av g n d) (hg : g ≤ 7) : Pr (fn_are_stations G [d] st) st (stationsB d) := by
  have ty := h.ty
  unfold fn_are_stations sb_are_stations
  cases d with
  | scr => exact ty.elim
  | ty t => exact ty.elim
  | tup ds =>
    by_cases hz : 1 ≤ ds.length ∧ ds.length ≤ 8
    · have z1 : (1 : Int) ≤ (ds.length : Int) := by omega
      have z2 : (ds.length : Int) ≤ 8 := by omega
      refine pr_run (PrS.cast (prs_guard (c := false) (b := stationsB (.tup ds)) (.same (by simp [isi_tuple ty, isTupD, len_tup, z1, z2])) fun _ more => prs_ret ?_) (by simp))
      have sb : stationsB (.tup ds) = (ds.all stationB && risB (ds.map nmOf)) := by simp [stationsB, hz.1, hz.2]
      rw [sb]
      refine pr_and ?_ fun q m1 => ?_
      · obtain ⟨m, e⟩ := allD_ok (tg := .one 0) (fe := fFn 1 (fn_is_station G) (fCons (fV 0) fNil)) (src := []) (N := 1) (B := stationB) (st0 := st ++ more) Intact.nil (items := ds) (ρ := [none]) (st := st ++ more) rfl ⟨[], by simp⟩ fun d hd ρ st' hN ⟨m2, e2⟩ => by
          have e0 : (ρ.set 0 (some d))[0]? = some (some d) := by rw [List.getElem?_set_self (by omega)]
          obtain ⟨m3, e3⟩ := station_eq (G := G) (((dn_mem h hd).app more).app m2) hg
          rw [← e2] at e3
          exact ⟨ρ.set 0 (some d), rfl, by simp [hN], m3, by simp [e0, e3]⟩
        refine ⟨m, ?_⟩
        unfold fAllG
        simp only [List.append_assoc] at e
        simp [iSeq, capD, e]
      · obtain ⟨m2, e2⟩ := rising_eq (G := G) (st := (st ++ more ++ m1) ++ [.lst ((ds.map nmOf).map D.str)]) (l := (st ++ more ++ m1).length) (xs := ds.map nmOf) at_new
        have e1 := names_eq (G := G) (st := st ++ more ++ m1) (by omega) q
        refine ⟨[.lst ((ds.map nmOf).map D.str)] ++ m2, ?_⟩
        simp only [e_fn, e_cons, e_V, e_nil, Option.bind_some, List.map_cons, List.map_nil, List.length_cons, List.length_nil, List.cons_append, List.getElem?_cons_zero, if_true, e1, e2]
        simp
    · have nb : stationsB (.tup ds) = false := by
        simp only [stationsB, Bool.and_eq_false_iff, decide_eq_false_iff_not]
        by_cases z : 1 ≤ ds.length
        · exact .inl (.inr fun w => hz ⟨z, w⟩)
        · exact .inl (.inl z)
      rw [nb]
      refine .same ?_
      by_cases z1 : 1 ≤ ds.length
      · have y1 : (1 : Int) ≤ (ds.length : Int) := by omega
        have y2 : ¬ (ds.length : Int) ≤ 8 := by omega
        simp [isi_tuple ty, isTupD, len_tup, y1, y2]
      · have y1 : ¬ (1 : Int) ≤ (ds.length : Int) := by omega
        simp [isi_tuple ty, isTupD, len_tup, y1]
  | _ =>
    refine .same ?_
    simp [isi_tuple ty, isTupD, stationsB]
end
end K01

set_option Elab.async false
set_option linter.all false
set_option maxRecDepth 100000
set_option maxHeartbeats 1000000
namespace K01
open PySem PySem.Spec L2 GxR LG DL
open PyProof.Rows hiding signs cutD
section
variable {G : G0} {st : Sto} {av : Nat → Prop} {g n : Nat} {d : D} {ρ : Rho}
def Gd (x : Option (Fl × Rho × Sto)) (ρ : Rho) (st : Sto) (c : Bool) : Prop := ∃ more, x = some (if c = true then .rt (.bl false) else .nx, ρ, st ++ more)
theorem gd_seq {s1 s2 : FS} {c1 c2 : Bool} (h1 : Gd (s1 ρ st) ρ st c1) (h2 : c1 = false → ∀ more, Gd (s2 ρ (st ++ more)) ρ (st ++ more) c2) : Gd (sSeq s1 s2 ρ st) ρ st (c1 || c2) := by
  obtain ⟨m1, e1⟩ := h1
  cases c1 with
  | true => exact ⟨m1, by simp [e1]⟩
  | false =>
    obtain ⟨m2, e2⟩ := h2 rfl m1
    exact ⟨m1 ++ m2, by cases c2 <;> simp [e1, e2]⟩
theorem ix_at {ds : List D} {i : Int} {j : Nat} {d : D} (e : ρ[j]? = some (some (.tup ds))) (h : atI ds i = some d) : fOp (ixG G) (fV j) (fC (.int i)) ρ st = some (d, st) := by
  simp [e, h]
theorem lbody {ds : List D} (h : Dn st av g n d) (hg : g ≤ 7) : Gd ((sSeq (sIf (fTOr (fTNot (fTst (fCall isiD (fCons (fV 1) (fCons (fC (.ty "tuple")) fNil))))) (fTOr (fTst (fOp neD (fCall (lenD G) (fCons (fV 1) fNil)) (fC (.int 5)))) (fTNot (fTst (fFn 1 (fn__law_is_name G) (fCons (fOp (ixG G) (fV 1) (fC (.int 0))) fNil)))))) (sRet (fC (.bl false))) sNext)
    (sSeq (sIf (fTOr (fTNot (fTst (fFn 1 (fn__law_is_spot G) (fCons (fOp (ixG G) (fV 1) (fC (.int 1))) fNil)))) (fTNot (fTst (fFn 1 (fn__law_is_spot G) (fCons (fOp (ixG G) (fV 1) (fC (.int 3))) fNil))))) (sRet (fC (.bl false))) sNext)
    (sIf (fTOr (fTNot (fTst (fFn 3 (fn__law_within G) (fCons (fOp (ixG G) (fV 1) (fC (.int 2))) (fCons (fC (.int 1)) (fCons (fC (.int 1000000)) fNil)))))) (fTNot (fTst (fFn 3 (fn__law_within G) (fCons (fOp (ixG G) (fV 1) (fC (.int 4))) (fCons (fC (.int 1)) (fCons (fC (.int 1000)) fNil))))))) (sRet (fC (.bl false))) sNext))) [some (.tup ds), some d, none] st) [some (.tup ds), some d, none] st (!stationB d) := by
  have ty := h.ty
  have bad : (stationB d = false) → (PrT (fTOr (fTNot (fTst (fCall isiD (fCons (fV 1) (fCons (fC (.ty "tuple")) fNil))))) (fTOr (fTst (fOp neD (fCall (lenD G) (fCons (fV 1) fNil)) (fC (.int 5)))) (fTNot (fTst (fFn 1 (fn__law_is_name G) (fCons (fOp (ixG G) (fV 1) (fC (.int 0))) fNil))))) [some (.tup ds), some d, none] st) st true) → Gd ((sSeq (sIf (fTOr (fTNot (fTst (fCall isiD (fCons (fV 1) (fCons (fC (.ty "tuple")) fNil))))) (fTOr (fTst (fOp neD (fCall (lenD G) (fCons (fV 1) fNil)) (fC (.int 5)))) (fTNot (fTst (fFn 1 (fn__law_is_name G) (fCons (fOp (ixG G) (fV 1) (fC (.int 0))) fNil)))))) (sRet (fC (.bl false))) sNext)
    (sSeq (sIf (fTOr (fTNot (fTst (fFn 1 (fn__law_is_spot G) (fCons (fOp (ixG G) (fV 1) (fC (.int 1))) fNil)))) (fTNot (fTst (fFn 1 (fn__law_is_spot G) (fCons (fOp (ixG G) (fV 1) (fC (.int 3))) fNil))))) (sRet (fC (.bl false))) sNext)
    (sIf (fTOr (fTNot (fTst (fFn 3 (fn__law_within G) (fCons (fOp (ixG G) (fV 1) (fC (.int 2))) (fCons (fC (.int 1)) (fCons (fC (.int 1000000)) fNil)))))) (fTNot (fTst (fFn 3 (fn__law_within G) (fCons (fOp (ixG G) (fV 1) (fC (.int 4))) (fCons (fC (.int 1)) (fCons (fC (.int 1000)) fNil))))))) (sRet (fC (.bl false))) sNext))) [some (.tup ds), some d, none] st) [some (.tup ds), some d, none] st (!stationB d) := fun hb t => by
      rw [hb]
      have := gd_seq (c2 := false) (guard_run t) (s2 := (sSeq (sIf (fTOr (fTNot (fTst (fFn 1 (fn__law_is_spot G) (fCons (fOp (ixG G) (fV 1) (fC (.int 1))) fNil)))) (fTNot (fTst (fFn 1 (fn__law_is_spot G) (fCons (fOp (ixG G) (fV 1) (fC (.int 3))) fNil))))) (sRet (fC (.bl false))) sNext)
    (sIf (fTOr (fTNot (fTst (fFn 3 (fn__law_within G) (fCons (fOp (ixG G) (fV 1) (fC (.int 2))) (fCons (fC (.int 1)) (fCons (fC (.int 1000000)) fNil)))))) (fTNot (fTst (fFn 3 (fn__law_within G) (fCons (fOp (ixG G) (fV 1) (fC (.int 4))) (fCons (fC (.int 1)) (fCons (fC (.int 1000)) fNil))))))) (sRet (fC (.bl false))) sNext))) (fun z => by cases z)
      exact this
  cases d with
  | scr => exact ty.elim
  | ty t => exact ty.elim
  | tup es =>
    by_cases q : ((es.length : Int) == 5) = true
    · obtain ⟨a, b, c, e, f, rfl⟩ := len5 q
      have ha := dn_mem h (d := a) (by simp)
      have hb := dn_mem h (d := b) (by simp)
      have hc := dn_mem h (d := c) (by simp)
      have he := dn_mem h (d := e) (by simp)
      have hf := dn_mem h (d := f) (by simp)
      have fin : (!stationB (.tup [a, b, c, e, f])) = ((!nameB a) || (((!placeB b) || (!placeB e)) || ((!wholeB 1 1000000 c) || (!wholeB 1 1000 f)))) := by
        simp only [stationB]
        cases nameB a <;> cases placeB b <;> cases placeB e <;> cases wholeB 1 1000000 c <;> cases wholeB 1 1000 f <;> rfl
      rw [fin]
      refine gd_seq (guard_run ?_) fun _ m1 => gd_seq (guard_run (prt_or (prt_not (prt_tst (pr_fnx (ix_at rfl (by simp [atI, ixN])) (spot_eq (hb.app m1))))) fun _ m2 => prt_not (prt_tst (pr_fnx (ix_at rfl (by simp [atI, ixN])) (spot_eq ((he.app m1).app m2)))))) fun _ m3 =>
        guard_run (prt_or (prt_not (prt_tst (.same ?_))) fun _ m4 => prt_not (prt_tst (.same ?_)))
      · have : PrT (fTNot (fTst (fFn 1 (fn__law_is_name G) (fCons (fOp (ixG G) (fV 1) (fC (.int 0))) fNil))) [some (.tup ds), some (.tup [a, b, c, e, f]), none] st) st (!nameB a) := prt_not (prt_tst (pr_fnx (ix_at rfl (by simp)) (lname_eq ha hg)))
        obtain ⟨m, k⟩ := this
        exact ⟨m, by simp only [e_tor, e_tnot, e_tst, e_call, e_cons, e_V, e_C, e_nil, e_op, Option.bind_some, List.getElem?_cons_succ, List.getElem?_cons_zero, isi_tuple ty, isTupD, e_asB, len_tup, neI]; simp at k ⊢; exact k⟩
      · have i2 : fOp (ixG G) (fV 1) (fC (.int 2)) [some (.tup ds), some (.tup [a, b, c, e, f]), none] ((st ++ m1) ++ m3) = some (c, (st ++ m1) ++ m3) := ix_at rfl (by simp [atI, ixN])
        simp only [e_fn, e_cons, e_nil, e_C, i2, Option.bind_some, List.length_cons, List.length_nil, if_true, within_eq ((hc.app m1).app m3).ty]
      · have i4 : fOp (ixG G) (fV 1) (fC (.int 4)) [some (.tup ds), some (.tup [a, b, c, e, f]), none] (((st ++ m1) ++ m3) ++ m4) = some (f, ((st ++ m1) ++ m3) ++ m4) := ix_at rfl (by simp [atI, ixN])
        simp only [e_fn, e_cons, e_nil, e_C, i4, Option.bind_some, List.length_cons, List.length_nil, if_true, within_eq (((hf.app m1).app m3).app m4).ty]
    · have q' : ((es.length : Int) == 5) = false := by simpa using q
      refine bad (stationB_ne q') (.same ?_)
      simp only [beq_eq_false_iff_ne] at q'
      simp [isi_tuple ty, isTupD, len_tup, neI, q']
  | _ => exact bad rfl (.same (by simp [isi_tuple ty, isTupD]))
theorem eqv_strs : ∀ xs ys : List Str, PyData.eqvAll (xs.map PyData.str) (ys.map PyData.str) = decide (xs = ys)
  | [], [] => rfl
  | [], y :: ys => rfl
  | x :: xs, [] => rfl
  | x :: xs, y :: ys => by
    simp only [List.map_cons, PyData.eqvAll, PyData.eqv, eqv_strs xs ys]
    rw [Bool.eq_iff_iff]
    simp
theorem pds_strs : ∀ (xs : List Str) (k : Nat), xs.length ≤ k → toPDs k st (xs.map D.str) = some (xs.map PyData.str)
  | [], k, _ => by cases k <;> simp [toPDs]
  | x :: xs, 0, h => by simp at h
  | x :: xs, k + 1, h => by
    have : toPD k st (.str x) = some (.str x) := by cases k <;> simp [toPD]
    simp [toPDs, this, pds_strs xs k (by simpa using h)]
theorem eq_strs {l m : Nat} {xs ys : List Str} (hl : st[l]? = some (.lst (xs.map D.str))) (hm : st[m]? = some (.lst (ys.map D.str))) (h1 : xs.length ≤ 100) (h2 : ys.length ≤ 100) (k1 : ∀ x ∈ xs, ∀ c ∈ x.cps.toList, c < 128) (k2 : ∀ x ∈ ys, ∀ c ∈ x.cps.toList, c < 128) : eqD (.ref l) (.ref m) st = some (.bl (decide (xs = ys)), st) := by
  have pd : ∀ {l : Nat} {xs : List Str}, st[l]? = some (.lst (xs.map D.str)) → xs.length ≤ 100 → toPD 4000 st (.ref l) = some (.list (xs.map PyData.str)) := fun {l xs} hl h1 => by
    show (match st[l]? with
      | some (.lst ds) => (toPDs 3999 st ds).map PyData.list
      | none => none) = _
    rw [hl]; simp only [pds_strs xs 3999 (by omega), Option.map_some]
  have sh : ∀ {xs : List Str}, (∀ x ∈ xs, ∀ c ∈ x.cps.toList, c < 128) → SeqAt.shaped (.list (xs.map PyData.str)) = true := fun {xs} k => by
    have c1 : (PyData.list (xs.map PyData.str)).canLay0 = true := by
      simp only [PyData.canLay0]
      refine canAll fun p hp => ?_
      obtain ⟨x, hx, rfl⟩ := List.mem_map.mp hp
      simp only [PyData.canLay0, PyData.strOk, Array.all_eq_true, decide_eq_true_eq]
      intro i hi
      have := k x hx x.cps[i] (by simp)
      omega
    have c2 : (PyData.list (xs.map PyData.str)).depth ≤ 64 := by
      simp only [PyData.depth]
      have := depAll (k := 0) (ps := xs.map PyData.str) fun p hp => by
        obtain ⟨x, hx, rfl⟩ := List.mem_map.mp hp
        simp [PyData.depth]
      omega
    unfold SeqAt.shaped
    rw [c1, Bool.true_and]
    exact decide_eq_true c2
  unfold eqD eqW
  rw [pd hl h1, pd hm h2]
  simp only [Option.bind_some, sh k1, sh k2, and_self, if_true, Bool.false_eq_true, if_false, PyData.eqv, eqv_strs]
theorem lstations_eq (h : Dn st av g n d) (hg : g ≤ 7) : Pr (fn__law_are_stations G [d] st) st (stationsB d) := by
  have ty := h.ty
  unfold fn__law_are_stations sb__law_are_stations
  cases d with
  | scr => exact ty.elim
  | ty t => exact ty.elim
  | tup ds =>
    by_cases hz : 1 ≤ ds.length ∧ ds.length ≤ 8
    · have z1 : (1 : Int) ≤ (ds.length : Int) := by omega
      have z2 : (ds.length : Int) ≤ 8 := by omega
      refine pr_run (PrS.cast (prs_guard (c := false) (b := stationsB (.tup ds)) (.same (by simp [isi_tuple ty, isTupD, len_tup, z1, z2])) fun _ more => ?_) (by simp))
      have sb : stationsB (.tup ds) = (ds.all stationB && risB (ds.map nmOf)) := by simp [stationsB, hz.1, hz.2]
      rw [sb]
      obtain ⟨ρ2, m1, ⟨y, rfl⟩, e⟩ := forB_ok (tg := .one 1) (src := []) (I := fun ρ => ∃ y, ρ = [some (.tup ds), y, none]) (B := stationB) (st0 := st ++ more) Intact.nil (items := ds) (ρ := [some (.tup ds), none, none]) (st := st ++ more) ⟨none, rfl⟩ ⟨[], by simp⟩ (fun d hd ρ st' hI ⟨m2, e2⟩ => by
        obtain ⟨y, rfl⟩ := hI
        obtain ⟨m3, e3⟩ := lbody (G := G) (ds := ds) (((dn_mem h hd).app more).app m2) hg
        rw [← e2] at e3
        refine ⟨[some (.tup ds), some d, none], rfl, [some (.tup ds), some d, none], m3, ⟨_, rfl⟩, e3.trans ?_⟩
        cases stationB d <;> rfl)
      have e' : sFor (iSeq (fV 0)) (.one 1) _ [some (.tup ds), none, none] (st ++ more) = _ := e
      cases hq : ds.all stationB with
      | false =>
        rw [hq] at e'
        refine ⟨[some (.tup ds), y, none], m1, ?_⟩
        rw [e_seq]
        show Option.bind (sFor _ _ _ [some (.tup ds), none, none] (st ++ more)) _ = _
        rw [e']
        simp
      | true =>
        rw [hq] at e'
        have e1 := names_lc (G := G) (st := st ++ more ++ m1) (by omega) hq (k := 1) (ρ0 := [some (.tup ds), none, none]) (fun d => rfl)
        have ax : ∀ x ∈ ds.map nmOf, ∀ c ∈ x.cps.toList, c < 128 := fun x hx c hc => by
          obtain ⟨d, hd, rfl⟩ := List.mem_map.mp hx
          obtain ⟨x, _, _, _, _, rfl, ha, _⟩ := station_shape (List.all_eq_true.mp hq d hd)
          have := List.all_eq_true.mp ha c hc
          simp only [azB, Bool.and_eq_true, decide_eq_true_eq] at this
          omega
        have hl : ((st ++ more ++ m1) ++ [O.lst ((ds.map nmOf).map D.str)])[(st ++ more ++ m1).length]? = some (.lst ((ds.map nmOf).map D.str)) := at_new
        have es := eq_strs (st := ((st ++ more ++ m1) ++ [O.lst ((ds.map nmOf).map D.str)]) ++ [.lst ((SX.sortSet (ds.map nmOf)).map D.str)]) (l := (st ++ more ++ m1).length) (m := ((st ++ more ++ m1) ++ [O.lst ((ds.map nmOf).map D.str)]).length) (at_app hl _) at_new (by simp; omega) (by have := SX.sortSet_len (ds.map nmOf); simp at this; omega) ax
          (fun x hx => ax x (by
            have : x ∈ SX.dd (ds.map nmOf) := (List.mergeSort_perm _ _).mem_iff.mp hx
            exact (SX.dd_mem _ _).mp this))
        rw [← ris_sort] at es
        refine ⟨[some (.tup ds), y, some (.ref (st ++ more ++ m1).length)], m1 ++ ([O.lst ((ds.map nmOf).map D.str)] ++ [.lst ((SX.sortSet (ds.map nmOf)).map D.str)]), ?_⟩
        rw [e_seq]
        show Option.bind (sFor _ _ _ [some (.tup ds), none, none] (st ++ more)) _ = _
        rw [e']
        have ss : fSortSet (fV 2) [some (.tup ds), y, some (.ref (st ++ more ++ m1).length)] ((st ++ more ++ m1) ++ [O.lst ((ds.map nmOf).map D.str)]) = some (.ref ((st ++ more ++ m1) ++ [O.lst ((ds.map nmOf).map D.str)]).length, ((st ++ more ++ m1) ++ [O.lst ((ds.map nmOf).map D.str)]) ++ [.lst ((SX.sortSet (ds.map nmOf)).map D.str)]) := by
          unfold fSortSet
          simp only [e_V, List.getElem?_cons_succ, List.getElem?_cons_zero, Option.bind_some, hl, strsD_map]
          rw [if_pos (by simp; omega)]
        have lc : fLc (iSeq (fV 0)) (.one 1) fYes (fOp (ixG G) (fV 1) (fC (.int 0))) [1] [some (.tup ds), y, none] (st ++ more ++ m1) = some (.ref (st ++ more ++ m1).length, (st ++ more ++ m1) ++ [O.lst ((ds.map nmOf).map D.str)]) := by
          unfold fLc
          simp only [iSeq, e_V, List.getElem?_cons_zero, Option.bind_some, wipeD]
          show Option.bind (lcD _ _ _ _ _ [some (.tup ds), none, none] _ _) _ = _
          rw [e1]; rfl
        simp only [Option.bind_some, if_true, e_seq, e_set, lc, e_ret, e_op, e_V]
        show Option.bind (Option.bind (fSortSet (fV 2) [some (.tup ds), y, some (.ref (st ++ more ++ m1).length)] ((st ++ more ++ m1) ++ [O.lst ((ds.map nmOf).map D.str)])) _) _ = _
        rw [ss]
        simp only [Option.bind_some, es]
        simp
    · have nb : stationsB (.tup ds) = false := by
        simp only [stationsB, Bool.and_eq_false_iff, decide_eq_false_iff_not]
        by_cases z : 1 ≤ ds.length
        · exact .inl (.inr fun w => hz ⟨z, w⟩)
        · exact .inl (.inl z)
      rw [nb]
      refine .same ?_
      by_cases z1 : 1 ≤ ds.length
      · have y1 : (1 : Int) ≤ (ds.length : Int) := by omega
        have y2 : ¬ (ds.length : Int) ≤ 8 := by omega
        simp [isi_tuple ty, isTupD, len_tup, y1, y2]
      · have y1 : ¬ (1 : Int) ≤ (ds.length : Int) := by omega
        simp [isi_tuple ty, isTupD, len_tup, y1]
  | _ =>
    refine .same ?_
    simp [isi_tuple ty, isTupD, stationsB]
end
end K01

set_option Elab.async false
set_option linter.all false
set_option maxRecDepth 100000
set_option maxHeartbeats 1000000
namespace K01
open PySem PySem.Spec L2 GxR LG DL
open PyProof.Rows hiding signs cutD
section
variable {G : G0} {st : Sto} {av : Nat → Prop} {g n : Nat} {d : D} {ρ : Rho}
def airB : D → Bool
  | .tup [a, b] => stationsB a && wholeB 1 1000 b
  | _ => false
theorem airB_ne {ds : List D} (h : ((ds.length : Int) == 2) = false) : airB (.tup ds) = false := by
  match ds, h with
  | [a, b], h => simp at h
  | [], _ => rfl
  | [_], _ => rfl
  | _ :: _ :: _ :: _, _ => rfl
theorem air_eq (h : Dn st av g n d) (hg : g ≤ 7) : Pr (fn_is_air G [d] st) st (airB d) := by
  have ty := h.ty
  have e1 : tupOf 2 d = true → ∃ a b, d = .tup [a, b] := fun q => by
    cases d with
    | tup ds => obtain ⟨a, b, e⟩ := len2 q; exact ⟨a, b, by rw [e]⟩
    | _ => cases q
  have e2 : tupOf 2 d = false → airB d = false := fun q => by
    cases d with
    | tup ds => exact airB_ne q
    | _ => rfl
  unfold fn_is_air sb_is_air
  refine pr_run (prs_ret ?_)
  refine Pr.cast (pr_and (a := tupOf 2 d) (b := airB d) (.same (by simp [tupOf_eq ty])) fun q more => ?_) (by cases q : tupOf 2 d <;> simp [e2, q])
  obtain ⟨a, b, rfl⟩ := e1 q
  have ha := (dn_mem h (d := a) (by simp)).app more
  have hb := (dn_mem h (d := b) (by simp)).app more
  exact pr_and (pr_fnx (ix_at rfl (by simp)) (stations_eq ha hg)) fun _ m1 => pr_fnx (ix_at rfl (by simp)) (.same (leak_eq (hb.app m1).ty))
theorem lair_eq (h : Dn st av g n d) (hg : g ≤ 7) : Pr (fn__law_is_air G [d] st) st (airB d) := by
  have ty := h.ty
  unfold fn__law_is_air sb__law_is_air
  cases d with
  | tup ds =>
    by_cases q : ((ds.length : Int) == 2) = true
    · obtain ⟨a, b, rfl⟩ := len2 q
      have ha := dn_mem h (d := a) (by simp)
      have hb := dn_mem h (d := b) (by simp)
      refine pr_run (PrS.cast (prs_guard (c := !stationsB a) (b := wholeB 1 1000 b) ?_ fun _ m1 => prs_ret (.same ?_)) (by simp [airB]))
      · have : PrT (fTNot (fTst (fFn 1 (fn__law_are_stations G) (fCons (fOp (ixG G) (fV 0) (fC (.int 0))) fNil))) [some (.tup [a, b])] st) st (!stationsB a) := prt_not (prt_tst (pr_fnx (ix_at rfl (by simp)) (lstations_eq ha hg)))
        obtain ⟨m, k⟩ := this
        refine ⟨m, ?_⟩
        simp only [e_tnot, e_tst, e_fn, e_cons, e_op, e_V, e_C, e_nil, Option.bind_some, List.getElem?_cons_zero, e_ixT, atI_0] at k
        simp [isi_tuple ty, isTupD, len_tup, neI]
        simpa using k
      · have i1 : fOp (ixG G) (fV 0) (fC (.int 1)) [some (.tup [a, b])] (st ++ m1) = some (b, st ++ m1) := ix_at rfl (by simp)
        simp only [List.map_cons, List.map_nil, List.length_cons, List.length_nil, List.replicate, List.append_nil, e_fn, e_cons, e_nil, e_C, Option.bind_some, Nat.sub_self, i1, if_true, within_eq (hb.app m1).ty]
    · have q' : ((ds.length : Int) == 2) = false := by simpa using q
      refine .same ?_
      rw [airB_ne q']
      simp only [beq_eq_false_iff_ne] at q'
      simp [isi_tuple ty, isTupD, len_tup, neI, q']
  | scr => exact ty.elim
  | ty t => exact ty.elim
  | _ => refine .same ?_; simp [isi_tuple ty, isTupD, airB]
def tunB (k : Nat) : D → Bool
  | .tup ds => ((ds.length : Int) == (k : Int)) && ds.all (wholeB 0 9)
  | _ => false
theorem tuning_eq {ss : List D} {x : D} (h : Dn st av g n d) : Pr (fn_is_tuning G [.tup [.tup ss, x], d] st) st (tunB ss.length d) := by
  have ty := h.ty
  have e2 : tupOf ss.length d = false → tunB ss.length d = false := fun q => by
    cases d with
    | tup ds => simp only [tupOf] at q; simp [tunB, q]
    | _ => rfl
  have q0 : PrS (sRet (fAnd (fFn 2 (fn_is_tuple_of G) (fCons (fV 1) (fCons (fCall (lenD G) (fCons (fV 2) fNil)) fNil))) (fAllG (iSeq (fV 1)) (.one 0) (fFn 3 (fn_is_whole G) (fCons (fV 0) (fCons (fC (.int 0)) (fCons (fC (.int 9)) fNil)))) [none])) [some (.tup [.tup ss, x]), some d, some (.tup ss)] st) st (tunB ss.length d) := by
    refine prs_ret (Pr.cast (pr_and (a := tupOf ss.length d) (b := tunB ss.length d) (.same (by simp [tupOf_eq ty, len_tup])) fun q more => ?_) (by cases q : tupOf ss.length d <;> simp [e2, q]))
    cases d with
    | tup ds =>
      simp only [tupOf] at q
      obtain ⟨m, e⟩ := allD_ok (tg := .one 0) (fe := fFn 3 (fn_is_whole G) (fCons (fV 0) (fCons (fC (.int 0)) (fCons (fC (.int 9)) fNil)))) (src := []) (N := 1) (B := wholeB 0 9) (st0 := st) Intact.nil (items := ds) (ρ := [none]) (st := st ++ more) rfl ⟨more, rfl⟩ fun d hd ρ st' hN ⟨m2, e2⟩ => by
        refine ⟨ρ.set 0 (some d), rfl, by simp [hN], [], ?_⟩
        have e0 : (ρ.set 0 (some d))[0]? = some (some d) := by rw [List.getElem?_set_self (by omega)]
        have t : Ty st' d := by rw [e2]; exact ((dn_mem h hd).ty).app m2
        simp [e0, whole_eq t]
      refine ⟨m, ?_⟩
      unfold fAllG
      simp [iSeq, capD, e, tunB, q]
    | _ => cases q
  unfold fn_is_tuning sb_is_tuning
  refine pr_run ?_
  obtain ⟨ρ', m, e⟩ := q0
  refine ⟨ρ', m, ?_⟩
  rw [e_seq]
  have i0 : sSet 2 (fOp (ixG G) (fV 0) (fC (.int 0))) [some (.tup [.tup ss, x]), some d, none] st = some (.nx, [some (.tup [.tup ss, x]), some d, some (.tup ss)], st) := by simp
  show Option.bind (sSet 2 (fOp (ixG G) (fV 0) (fC (.int 0))) [some (.tup [.tup ss, x]), some d, none] st) _ = _
  rw [i0]
  exact e
theorem ltuning_eq {ss : List D} {x : D} (h : Dn st av g n d) (hg : g ≤ 7) (hn : n ≤ 60) : Pr (fn__law_is_tuning G [.tup [.tup ss, x], d] st) st (tunB ss.length d) := by
  have ty := h.ty
  unfold fn__law_is_tuning sb__law_is_tuning
  cases d with
  | tup ds =>
    by_cases q : ((ds.length : Int) == (ss.length : Int)) = true
    · obtain ⟨hz, k, rfl, hk⟩ := h.item
      refine pr_run (PrS.cast (prs_guard (c := false) (b := tunB ss.length (.tup ds)) (.same (by simp [isi_tuple ty, isTupD, len_tup, neI, q])) fun _ more => prs_ret ?_) (by simp))
      have e := lcD_ok (tg := .one 2) (tt := fTNot (fTst (fFn 3 (fn__law_within G) (fCons (fV 2) (fCons (fC (.int 0)) (fCons (fC (.int 9)) fNil)))))) (fe := fV 2) (src := []) (ρ := [some (.tup [.tup ss, x]), some (.tup ds), none]) (T := fun d => !wholeB 0 9 d) (F := id) (st0 := st ++ more) Intact.nil (items := ds) (acc := []) (by rw [sizeLine_eq]; simp; omega) fun d hd => by
        refine ⟨[some (.tup [.tup ss, x]), some (.tup ds), some d], rfl, fun acc => ⟨?_, fun _ => by simp⟩⟩
        have t : Ty ((st ++ more) ++ [O.lst acc]) d := (((hk d hd).ty).app more).app _
        simp only [e_tnot, e_tst, e_fn, e_cons, e_V, e_C, e_nil, Option.bind_some, List.getElem?_cons_succ, List.getElem?_cons_zero, List.length_cons, List.length_nil, if_true, within_eq t, e_asB]
      have qq := eq_empty (st := (st ++ more) ++ [.lst (ds.filter fun d => !wholeB 0 9 d)] ++ [.lst []]) (av := av) (g := g) (n := k) (l := (st ++ more).length) (m := ((st ++ more) ++ [O.lst (ds.filter fun d => !wholeB 0 9 d)]).length) (ds := ds.filter fun d => !wholeB 0 9 d) (at_app at_new _) at_new (by omega) (by omega)
        (by have := List.length_filter_le (fun d => !wholeB 0 9 d) ds; omega) (fun d hd => (((hk d (List.mem_filter.mp hd).1).app more).app _).app _)
      have em : (ds.filter fun d => !wholeB 0 9 d).isEmpty = ds.all (wholeB 0 9) := by
        rw [Bool.eq_iff_iff, List.isEmpty_iff, List.filter_eq_nil_iff, List.all_eq_true]
        simp
      have nb : tunB ss.length (.tup ds) = ds.all (wholeB 0 9) := by simp only [tunB, q, Bool.true_and]
      rw [nb, ← em]
      refine ⟨[.lst (ds.filter fun d => !wholeB 0 9 d)] ++ [.lst []], ?_⟩
      simp only [List.nil_append, List.map_id_fun, id_eq] at e
      have lc : fLc (iSeq (fV 1)) (.one 2) (fTNot (fTst (fFn 3 (fn__law_within G) (fCons (fV 2) (fCons (fC (.int 0)) (fCons (fC (.int 9)) fNil)))))) (fV 2) [2] [some (.tup [.tup ss, x]), some (.tup ds), none] (st ++ more) = some (.ref (st ++ more).length, (st ++ more) ++ [.lst (ds.filter fun d => !wholeB 0 9 d)]) := by
        unfold fLc
        simp only [iSeq, e_V, List.getElem?_cons_zero, List.getElem?_cons_succ, Option.bind_some, wipeD]
        show Option.bind (lcD _ _ _ _ _ [some (.tup [.tup ss, x]), some (.tup ds), none] _ _) _ = _
        rw [e]; rfl
      show Option.bind (fLc _ _ _ _ _ [some (.tup [.tup ss, x]), some (.tup ds), none] (st ++ more)) _ = _
      rw [lc]
      simp only [Option.bind_some, e_lst, e_nil, List.length_nil, Nat.zero_le, if_true]
      rw [qq]
      simp
    · have q' : ((ds.length : Int) == (ss.length : Int)) = false := by simpa using q
      refine .same ?_
      have nb : tunB ss.length (.tup ds) = false := by simp only [tunB, q', Bool.false_and]
      rw [nb]
      simp only [beq_eq_false_iff_ne] at q'
      simp [isi_tuple ty, isTupD, len_tup, neI, q']
  | scr => exact ty.elim
  | ty t => exact ty.elim
  | _ => refine .same ?_; simp [isi_tuple ty, isTupD, tunB]
end
end K01

set_option Elab.async false
set_option linter.all false
set_option maxRecDepth 100000
set_option maxHeartbeats 1000000
namespace K01
open PySem PySem.Spec L2 GxR LG DL
open PyProof.Rows hiding signs cutD
section
variable {G : G0} {lb : Nat} {ρ : Rho} {f : FE} {st st' : Sto} {av : Nat → Prop} {g n k : Nat} {d : D}
theorem ED.take {i : Nat} {M hi : Int} (hb : ρ[i]? = some (some (.ref lb))) (c : ED lb ρ f (Nn 1 M)) (hM : M ≤ 1073741824 := by decide) (hh : M - 1 ≤ hi := by decide) : ED lb ρ (fFn 2 (fn__law_take G) (fCons (fV i) (fCons f fNil))) (Nn 0 hi) :=
  .fn (.cons (.v (P := (· = .ref lb)) hb rfl) (.cons c (.nil (A := (· = [])) rfl))) fun ds st h b => by
    obtain ⟨d1, r1, rfl, rfl, d2, r2, rfl, ⟨m, rfl, m1, m2⟩, rfl⟩ := h
    exact ⟨rfl, (take_spec m1 (by omega) b).mono fun p ⟨⟨i, e, i1, i2⟩, q⟩ => ⟨⟨i, e, i1, by omega⟩, q⟩⟩
/-- plain data -/
def Pn (n : Nat) (d : D) : Prop := ∀ st av, Dn st av 0 n d
theorem Pn.int {i lo hi : Int} (h : Nn lo hi d) (h1 : -(10 ^ 30) ≤ lo := by decide) (h2 : hi ≤ 10 ^ 30 := by decide) : Pn n d := fun st av => by
  obtain ⟨i, rfl, a, b⟩ := h
  have : i.natAbs ≤ 10 ^ 30 + 2000 * 0 := by omega
  cases n <;> simpa [Dn] using this
theorem Pn.tup {ds : List D} (hz : ds.length ≤ 20) (h : ∀ d ∈ ds, Pn n d) : Pn (n + 1) (.tup ds) := fun st av => by
  simp only [Dn]
  exact ⟨by omega, fun d hd => h d hd st av⟩
theorem Pn.up (h : Pn n d) (hk : n ≤ k) : Pn k d := fun st av => (h st av).up hk
def bS (x : Str) : Bool := decide (x.length ≤ 300) && x.cps.toList.all (fun c => decide (c < 128))
theorem Pn.str {x : Str} (h : bS x = true) : Pn n (.str x) := fun st av => by
  simp only [bS, Bool.and_eq_true, decide_eq_true_eq, List.all_eq_true] at h
  have : x.length ≤ 300 * 4 ^ 0 ∧ ∀ c ∈ x.cps.toList, c < 128 := ⟨by simpa using h.1, h.2⟩
  cases n <;> simpa [Dn] using this
/-- values that may hold places -/
def Lo (av : Nat → Prop) (st : Sto) : Prop := ∀ l, av l → l < st.length
theorem Lo.go (h : Lo av st) (q : Go lb st st') : Lo av st' := fun l a => Nat.lt_of_lt_of_le (h l a) q.le
def EN (lb : Nat) (av : Nat → Prop) (ρ : Rho) (f : FE) (n : Nat) : Prop := ∀ st, Bg lb st → Lo av st → Ok (f ρ st) fun p => Dn p.2 av 0 n p.1 ∧ Go lb st p.2
def EM (lb : Nat) (av : Nat → Prop) (ρ : Rho) (f : FA) (n k : Nat) : Prop := ∀ st, Bg lb st → Lo av st → Ok (f ρ st) fun p => (p.1.length = k ∧ ∀ d ∈ p.1, Dn p.2 av 0 n d) ∧ Go lb st p.2
def LstAt (lb : Nat) (av : Nat → Prop) (n k : Nat) (st : Sto) (d : D) : Prop := ∃ l ds, d = .ref l ∧ l ≠ lb ∧ st[l]? = some (.lst ds) ∧ ds.length = k ∧ ∀ d ∈ ds, Dn st av 0 n d
theorem EN.of (h : ED lb ρ f (Pn n)) : EN lb av ρ f n := fun st b _ => (h st b).mono fun p q => ⟨q.1 _ _, q.2⟩
theorem EM.nil : EM lb av ρ fNil n 0 := fun st b _ => .pure ⟨⟨rfl, fun _ h => by cases h⟩, .refl b⟩
theorem EM.cons {fr : FA} (ha : av lb) (h : EN lb av ρ f n) (t : EM lb av ρ fr n k) : EM lb av ρ (fCons f fr) n (k + 1) := fun st b lo =>
  (h st b lo).then fun p ⟨q1, q2⟩ => (t p.2 q2.bg (lo.go q2)).then fun r ⟨⟨s1, s2⟩, s3⟩ => .pure ⟨⟨by simp [s1], fun d hd => by
    rcases List.mem_cons.mp hd with z | z
    · subst z; exact q1.go ha s3
    · exact s2 d z⟩, q2.trans s3⟩
theorem EN.mt (ha : av lb) : EN lb av ρ (fLst fNil) (n + 1) := fun st b lo => ⟨(.ref st.length, st ++ [.lst []]), rfl, by
  simp only [Dn]
  exact ⟨fun a => absurd (lo _ a) (Nat.lt_irrefl _), [], at_new, by simp, fun _ h => by cases h⟩, Go.app b _⟩
theorem EM.disp {fr : FA} (h : EM lb av ρ fr n k) (hk : k ≤ sizeLine := by decide) : ∀ st, Bg lb st → Lo av st → Ok (fLst fr ρ st) fun p => LstAt lb av n k p.2 p.1 ∧ Go lb st p.2 := fun st b lo =>
  (h st b lo).then fun p ⟨⟨q1, q2⟩, q3⟩ => by
    rw [if_pos (by rw [q1]; exact hk)]
    exact .pure ⟨⟨_, _, rfl, by have := q3.bg.lt; omega, at_new, q1, fun d hd => (q2 d hd).app _⟩, q3.trans (Go.app q3.bg _)⟩
theorem LstAt.go (ha : av lb) (h : LstAt lb av n k st d) (q : Go lb st st') : LstAt lb av n k st' d := by
  obtain ⟨l, ds, e, h1, h2, h3, h4⟩ := h
  exact ⟨l, ds, e, h1, q.ne h1 h2, h3, fun d hd => (h4 d hd).go ha q⟩
theorem lst_add {x y : D} {j : Nat} (b : Bg lb st) (h1 : LstAt lb av n k st x) (h2 : LstAt lb av n j st y) (hz : k + j ≤ sizeLine) : Ok (addD x y st) fun p => LstAt lb av n (k + j) p.2 p.1 ∧ Go lb st p.2 := by
  obtain ⟨l, ds, rfl, a1, a2, a3, a4⟩ := h1
  obtain ⟨m, es, rfl, b1, b2, b3, b4⟩ := h2
  have e : addD (.ref l) (.ref m) st = some (.ref st.length, st ++ [.lst (ds ++ es)]) := by
    show (match st[l]?, st[m]? with
      | some (.lst xs), some (.lst ys) => if xs.length + ys.length ≤ sizeLine then some (D.ref st.length, st ++ [O.lst (xs ++ ys)]) else none
      | _, _ => none) = _
    rw [a2, b2]
    simp only
    rw [if_pos (by omega)]
  refine ⟨_, e, ⟨_, _, rfl, by have := b.lt; omega, at_new, by simp [a3, b3], fun d hd => ?_⟩, Go.app b _⟩
  rcases List.mem_append.mp hd with z | z
  · exact (a4 d z).app _
  · exact (b4 d z).app _
theorem len_ref {l : Nat} {ds : List D} (h : st[l]? = some (.lst ds)) : lenD G [.ref l] st = some (.int ds.length, st) := by
  show (match st[l]? with
    | some (.lst ds) => some (D.int ds.length, st)
    | none => none) = _
  rw [h]
def pnB : Nat → D → Bool
  | _, .non => true
  | _, .bl _ => true
  | _, .int i => decide (i.natAbs ≤ 10 ^ 30)
  | _, .str x => bS x
  | n + 1, .tup ds => decide (ds.length ≤ 20) && ds.all (pnB n)
  | _, _ => false
theorem Pn.by : ∀ {n : Nat} {d : D}, pnB n d = true → Pn n d
  | n, .non, _ => fun _ _ => by cases n <;> simp [Dn]
  | n, .bl b, _ => fun _ _ => by cases n <;> simp [Dn]
  | n, .int i, h => fun _ _ => by
    have h : i.natAbs ≤ 10 ^ 30 := by cases n <;> simpa [pnB] using h
    have : i.natAbs ≤ 10 ^ 30 + 2000 * 0 := by omega
    cases n <;> simpa [Dn] using this
  | n, .str x, h => Pn.str (by cases n <;> simpa [pnB] using h)
  | 0, .tup ds, h => by simp [pnB] at h
  | n + 1, .tup ds, h => by
    simp only [pnB, Bool.and_eq_true, decide_eq_true_eq, List.all_eq_true] at h
    exact Pn.tup h.1 fun d hd => Pn.by (h.2 d hd)
  | 0, .ref l, h => by simp [pnB] at h
  | n + 1, .ref l, h => by simp [pnB] at h
  | 0, .scr, h => by simp [pnB] at h
  | n + 1, .scr, h => by simp [pnB] at h
  | 0, .ty _, h => by simp [pnB] at h
  | n + 1, .ty _, h => by simp [pnB] at h
theorem EN.kk (d : D) (e : ∀ st, f ρ st = some (d, st)) (h : pnB n d = true) : EN lb av ρ f n := fun st b _ => ⟨_, e st, Pn.by h _ _, .refl b⟩
abbrev tA : D := .tup [.str "a", .tup [.int 0, .int 0], .int 1, .tup [.int 0, .int 0], .int 1]
theorem odd_spec (b : Bg lb st) (ha : av lb) (lo : Lo av st) : Ok (fn__law_odd G [.ref lb] st) fun p => Dn p.2 av 0 4 p.1 ∧ Go lb st p.2 := by
  unfold fn__law_odd sb__law_odd
  have e1 : ∀ {ρ : Rho} (st : Sto), Bg lb st → Lo av st → Ok (fLst (fCons (fC .non) (fCons (fC (.bl true)) (fCons (fC (.bl false)) (fCons (fC (.int 0)) (fCons (fC (.int 1)) (fCons (fNeg (fC (.int 1))) (fCons (fC (.int 5)) (fCons (fOp powD (fC (.int 10)) (fC (.int 30))) (fCons (fC (.str "")) (fCons (fC (.str "a")) (fCons (fC (.str "shut")) (fCons (fC (.str "bands")) (fCons (fTup fNil) (fCons (fLst fNil) (fCons (fTup (fCons (fC (.int 1)) (fCons (fC (.int 2)) fNil))) (fCons (fTup (fCons (fC .non) fNil)) (fCons (fTup (fCons (fC (.int 0)) (fCons (fC (.int 0)) fNil))) fNil))))))))))))))))) ρ st) fun p => LstAt lb av 4 17 p.2 p.1 ∧ Go lb st p.2 :=
    EM.disp (.cons ha (.kk _ (fun _ => rfl) (by decide +kernel)) <| .cons ha (.kk _ (fun _ => rfl) (by decide +kernel)) <| .cons ha (.kk _ (fun _ => rfl) (by decide +kernel)) <| .cons ha (.kk _ (fun _ => rfl) (by decide +kernel)) <| .cons ha (.kk _ (fun _ => rfl) (by decide +kernel)) <| .cons ha (.kk _ (fun _ => rfl) (by decide +kernel)) <|
      .cons ha (.kk _ (fun _ => rfl) (by decide +kernel)) <| .cons ha (.kk (.int (10 ^ 30)) (fun _ => by simp) (by decide +kernel)) <| .cons ha (.kk _ (fun _ => rfl) (by decide +kernel)) <| .cons ha (.kk _ (fun _ => rfl) (by decide +kernel)) <| .cons ha (.kk _ (fun _ => rfl) (by decide +kernel)) <| .cons ha (.kk _ (fun _ => rfl) (by decide +kernel)) <|
      .cons ha (.kk (.tup []) (fun _ => by simp) (by decide +kernel)) <| .cons ha (EN.mt ha) <| .cons ha (.kk (.tup [.int 1, .int 2]) (fun _ => by simp [sizeLine_eq]) (by decide +kernel)) <| .cons ha (.kk (.tup [.non]) (fun _ => by simp [sizeLine_eq]) (by decide +kernel)) <| .cons ha (.kk (.tup [.int 0, .int 0]) (fun _ => by simp [sizeLine_eq]) (by decide +kernel)) .nil)
  have e2 : ∀ {ρ : Rho} (st : Sto), Bg lb st → Lo av st → Ok (fLst (fCons (fTup (fCons (fC (.str "a")) (fCons (fTup (fCons (fC (.int 0)) (fCons (fC (.int 0)) fNil))) (fCons (fC (.int 1)) (fCons (fTup (fCons (fC (.int 0)) (fCons (fC (.int 0)) fNil))) (fCons (fC (.int 1)) fNil)))))) (fCons (fTup (fCons (fTup (fCons (fC (.str "a")) (fCons (fTup (fCons (fC (.int 0)) (fCons (fC (.int 0)) fNil))) (fCons (fC (.int 1)) (fCons (fTup (fCons (fC (.int 0)) (fCons (fC (.int 0)) fNil))) (fCons (fC (.int 1)) fNil)))))) fNil)) (fCons (fTup (fCons (fC (.str "shut")) (fCons (fC (.str "ann")) fNil))) fNil))) ρ st) fun p => LstAt lb av 4 3 p.2 p.1 ∧ Go lb st p.2 :=
    EM.disp (.cons ha (.kk tA (fun _ => by simp [sizeLine_eq]) (by decide +kernel)) <| .cons ha (.kk (.tup [tA]) (fun _ => by simp [sizeLine_eq]) (by decide +kernel)) <| .cons ha (.kk (.tup [.str "shut", .str "ann"]) (fun _ => by simp [sizeLine_eq]) (by decide +kernel)) .nil)
  have e3 : ∀ {ρ : Rho} (st : Sto), Bg lb st → Lo av st → Ok (fLst (fCons (fTup (fCons (fC (.str "bands")) (fCons (fTup fNil) fNil))) (fCons (fTup (fCons (fTup (fCons (fC (.int 0)) fNil)) (fCons (fC (.int 0)) fNil))) fNil)) ρ st) fun p => LstAt lb av 4 2 p.2 p.1 ∧ Go lb st p.2 :=
    EM.disp (.cons ha (.kk (.tup [.str "bands", .tup []]) (fun _ => by simp [sizeLine_eq]) (by decide +kernel)) <| .cons ha (.kk (.tup [.tup [.int 0], .int 0]) (fun _ => by simp [sizeLine_eq]) (by decide +kernel)) .nil)
  obtain ⟨⟨x1, s1⟩, q1, l1, g1⟩ := e1 (ρ := [some (.ref lb), none]) st b lo
  obtain ⟨⟨x2, s2⟩, q2, l2, g2⟩ := e2 (ρ := [some (.ref lb), some x1]) s1 g1.bg (lo.go g1)
  obtain ⟨⟨x3, s3⟩, q3, l3, g3⟩ := lst_add g2.bg (l1.go ha g2) l2 (by rw [sizeLine_eq]; omega)
  obtain ⟨⟨x4, s4⟩, q4, l4, g4⟩ := e3 (ρ := [some (.ref lb), some x3]) s3 g3.bg (((lo.go g1).go g2).go g3)
  obtain ⟨⟨x5, s5⟩, q5, l5, g5⟩ := lst_add g4.bg (l3.go ha g4) l4 (by rw [sizeLine_eq]; omega)
  obtain ⟨l, ds, rfl, n5, h5, z5, d5⟩ := l5
  obtain ⟨⟨x6, s6⟩, q6, ⟨i, rfl, i1, i2⟩, g6⟩ := take_spec (G := G) (m := 22) (by decide) (by decide) g5.bg
  obtain ⟨x, a1, a2, _⟩ := atI_lt (l := ds) i1 (by omega)
  have lz : lenD G [.ref l] s5 = some (.int 22, s5) := by rw [len_ref h5, z5]; rfl
  refine ⟨(x, s6), ?_, (d5 x a2).go ha g6, ((((g1.trans g2).trans g3).trans g4).trans g5).trans g6⟩
  simp only [e_run, List.map_cons, List.map_nil, List.length_cons, List.length_nil]
  show Option.bind (sSeq _ _ [some (.ref lb), none] st) _ = _
  rw [e_seq, e_set, q1]
  show Option.bind (sSeq _ _ [some (.ref lb), some x1] s1) _ = _
  rw [e_seq, e_set, e_op]
  simp only [e_V, List.getElem?_cons_succ, List.getElem?_cons_zero, Option.bind_some]
  rw [q2]
  simp only [Option.bind_some]
  rw [q3]
  show Option.bind (sSeq _ _ [some (.ref lb), some x3] s3) _ = _
  rw [e_seq, e_set, e_op]
  simp only [e_V, List.getElem?_cons_succ, List.getElem?_cons_zero, Option.bind_some]
  rw [q4]
  simp only [Option.bind_some]
  rw [q5]
  show Option.bind (sRet _ [some (.ref lb), some (.ref l)] s5) _ = _
  simp only [e_ret, e_op, e_V, e_fn, e_cons, e_nil, e_call, List.getElem?_cons_succ, List.getElem?_cons_zero, Option.bind_some, lz, List.length_cons, List.length_nil, if_true, q6, e_ixL (g6.ne n5 h5), a1]
end
end K01

set_option Elab.async false
set_option linter.all false
set_option maxRecDepth 100000
set_option maxHeartbeats 1000000
namespace K01
open PySem PySem.Spec L2 GxR LG DL
open PyProof.Rows hiding signs cutD
section
variable {G : G0} {lb : Nat} {ρ : Rho} {f : FE} {st st' s : Sto} {av : Nat → Prop} {g n m : Nat} {d : D} {rec : HA}
theorem go_set {r : Nat} {o : O} (q : Go lb st s) (hb : lb < st.length) (h : st.length ≤ r) : Go lb st (s.set r o) := by
  obtain ⟨⟨x, y, e, z⟩, k, le⟩ := q
  refine ⟨⟨x, y, by rw [List.getElem?_set_ne (by omega)]; exact e, z⟩, fun l o' nl e' => ?_, by simpa using le⟩
  have := at_lt e'
  rw [List.getElem?_set_ne (by omega)]
  exact k l o' nl e'
theorem dn_set {r : Nat} {o : O} (h : Dn s (fun l => av l ∨ l = r) g n d) : Dn (s.set r o) av g n d :=
  h.map (Nat.le_refl _) (fun l ds a e => ⟨fun z => a (.inl z), by rw [List.getElem?_set_ne (fun z => a (.inr z.symm))]; exact e⟩) (Nat.le_refl _)
theorem dn_wide {r : Nat} (h : Dn st av g n d) (hr : st.length ≤ r) : Dn st (fun l => av l ∨ l = r) g n d :=
  h.map (Nat.le_refl _) (fun l ds a e => ⟨fun z => z.elim a fun z => by have := at_lt e; omega, e⟩) (Nat.le_refl _)
theorem dn_less {r : Nat} (h : Dn st (fun l => av l ∨ l = r) g n d) : Dn st av g n d := h.map (Nat.le_refl _) (fun l ds a e => ⟨fun z => a (.inl z), e⟩) (Nat.le_refl _)
structure Rows (lb : Nat) (av : Nat → Prop) (g m : Nat) (st s : Sto) (r : Nat) (es : List D) : Prop where
  go : Go lb st s
  fresh : st.length ≤ r
  at' : s[r]? = some (.lst es)
  few : es.length ≤ 21 + g
  all : ∀ e ∈ es, Dn s av (g + 1) m e
theorem Rows.ref {r : Nat} {es : List D} (R : Rows lb av g m st s r es) (lo : Lo av st) : Dn s av (g + 1) (m + 1) (.ref r) := by
  simp only [Dn]
  exact ⟨fun a => by have := lo r a; have := R.fresh; omega, es, R.at', by have := R.few; omega, R.all⟩
theorem Rows.tup {r : Nat} {es : List D} (R : Rows lb av g m st s r es) : Dn s av (g + 1) (m + 1) (.tup es) := by
  simp only [Dn]
  exact ⟨by have := R.few; omega, R.all⟩
theorem tuple_ref {r : Nat} {es : List D} (h : s[r]? = some (.lst es)) : tupleD [.ref r] s = some (.tup es, s) := by
  show (match s[r]? with
    | some (.lst ds) => some (D.tup ds, s)
    | none => none) = _
  rw [h]
theorem slice_ref {r : Nat} {es : List D} {a b : Option Int} (h : s[r]? = some (.lst es)) : sliceD (.ref r) a b s = some (.ref s.length, s ++ [.lst (cutD es a b)]) := by
  show (match s[r]? with
    | some (.lst ds) => some (D.ref s.length, s ++ [O.lst (cutD ds a b)])
    | none => none) = _
  rw [h]
def Ret (lb : Nat) (av : Nat → Prop) (g m : Nat) (st : Sto) (p : Fl × Rho × Sto) : Prop := ∃ x, p.1 = .rt x ∧ Dn p.2.2 av g m x ∧ Go lb st p.2.2
theorem tail_ok {r : Nat} {es : List D} {x2 x4 x5 : Option D} (R : Rows lb av g m st s r es) (lo : Lo av st) (ty : Ty s d) :
    Ok (sRet (fIf (fTst (fCall isiD (fCons (fV 1) (fCons (fC (.ty "tuple")) fNil)))) (fCall tupleD (fCons (fV 3) fNil)) (fV 3)) [some (.ref lb), some d, x2, some (.ref r), x4, x5] s) (Ret lb av (g + 1) (m + 1) st) := by
  cases h : isTupD d with
  | true => exact ⟨(.rt (.tup es), [some (.ref lb), some d, x2, some (.ref r), x4, x5], s), by simp [isi_tuple ty, h, tuple_ref R.at'], _, rfl, R.tup, R.go⟩
  | false => exact ⟨(.rt (.ref r), [some (.ref lb), some d, x2, some (.ref r), x4, x5], s), by simp [isi_tuple ty, h], _, rfl, R.ref lo, R.go⟩
theorem tail4_ok {r : Nat} {es : List D} {x2 x4 x5 : Option D} (R : Rows lb av g m st s r es) (lo : Lo av st) (ty : Ty s d) :
    Ok (sRet (fIf (fTst (fCall isiD (fCons (fV 1) (fCons (fC (.ty "tuple")) fNil)))) (fV 3) (fCall tupleD (fCons (fV 3) fNil))) [some (.ref lb), some d, x2, some (.ref r), x4, x5] s) (Ret lb av (g + 1) (m + 1) st) := by
  cases h : isTupD d with
  | true => exact ⟨(.rt (.ref r), [some (.ref lb), some d, x2, some (.ref r), x4, x5], s), by simp [isi_tuple ty, h], _, rfl, R.ref lo, R.go⟩
  | false => exact ⟨(.rt (.tup es), [some (.ref lb), some d, x2, some (.ref r), x4, x5], s), by simp [isi_tuple ty, h, tuple_ref R.at'], _, rfl, R.tup, R.go⟩
theorem cut_mem {es : List D} {a b : Option Int} {e : D} (h : e ∈ cutD es a b) : e ∈ es := List.mem_of_mem_drop (List.mem_of_mem_take h)
theorem cut_hi {es : List D} {v : Int} (h : 0 ≤ v) : (cutD es none (some v)).length ≤ min v.toNat es.length := by
  unfold cutD
  have e : HT.sIx es.length es.length (some v) = min v.toNat es.length := by
    show (if v < 0 then _ else min v.toNat es.length) = _
    rw [if_neg (by omega)]
  rw [e, HT.sIx_none]
  simp
theorem cut_lo {es : List D} {v : Int} (h : 0 ≤ v) : (cutD es (some v) none).length ≤ es.length - min v.toNat es.length := by
  unfold cutD
  have e : HT.sIx es.length 0 (some v) = min v.toNat es.length := by
    show (if v < 0 then _ else min v.toNat es.length) = _
    rw [if_neg (by omega)]
  rw [e, HT.sIx_none]
  simp
/-- two pieces put together -/
theorem cat_ok {r : Nat} {es : List D} {u v : Int} {x1 x2 x4 x5 : Option D} {fu fv : FE} (R : Rows lb av g m st s r es) (hb : lb < st.length) (hu : 0 ≤ u) (hv : 0 ≤ v) (hz : min u.toNat es.length + (es.length - min v.toNat es.length) ≤ 21 + g) (hsz : es.length ≤ 100)
    (eu : ∀ s, fu [some (.ref lb), x1, x2, some (.ref r), x4, x5] s = some (.int u, s)) (ev : ∀ s, fv [some (.ref lb), x1, x2, some (.ref r), x4, x5] s = some (.int v, s)) :
    Ok (sSet 3 (fOp addD (fSl (fV 3) oNone (oSome fu)) (fSl (fV 3) (oSome fv) oNone)) [some (.ref lb), x1, x2, some (.ref r), x4, x5] s) fun p => p.1 = .nx ∧ ∃ r' es', p.2.1 = [some (.ref lb), x1, x2, some (.ref r'), x4, x5] ∧ Rows lb av g m st p.2.2 r' es' := by
  have h1 := slice_ref (a := none) (b := some u) R.at'
  have h2 : (s ++ [O.lst (cutD es none (some u))])[r]? = some (.lst es) := at_app R.at' _
  have h3 := slice_ref (a := some v) (b := none) h2
  have l1 := cut_hi (es := es) hu
  have l2 := cut_lo (es := es) hv
  have e : addD (.ref s.length) (.ref (s ++ [O.lst (cutD es none (some u))]).length) ((s ++ [O.lst (cutD es none (some u))]) ++ [O.lst (cutD es (some v) none)]) = some (.ref ((s ++ [O.lst (cutD es none (some u))]) ++ [O.lst (cutD es (some v) none)]).length, ((s ++ [O.lst (cutD es none (some u))]) ++ [O.lst (cutD es (some v) none)]) ++ [.lst (cutD es none (some u) ++ cutD es (some v) none)]) := by
    show (match ((s ++ [O.lst (cutD es none (some u))]) ++ [O.lst (cutD es (some v) none)])[s.length]?, ((s ++ [O.lst (cutD es none (some u))]) ++ [O.lst (cutD es (some v) none)])[(s ++ [O.lst (cutD es none (some u))]).length]? with
      | some (.lst xs), some (.lst ys) => if xs.length + ys.length ≤ sizeLine then some (D.ref ((s ++ [O.lst (cutD es none (some u))]) ++ [O.lst (cutD es (some v) none)]).length, ((s ++ [O.lst (cutD es none (some u))]) ++ [O.lst (cutD es (some v) none)]) ++ [O.lst (xs ++ ys)]) else none
      | _, _ => none) = _
    rw [at_app at_new, at_new]
    simp only
    rw [if_pos (by rw [sizeLine_eq]; omega)]
  have gle := R.go.le
  refine ⟨(.nx, [some (.ref lb), x1, x2, some (.ref ((s ++ [O.lst (cutD es none (some u))]) ++ [O.lst (cutD es (some v) none)]).length), x4, x5], ((s ++ [O.lst (cutD es none (some u))]) ++ [O.lst (cutD es (some v) none)]) ++ [.lst (cutD es none (some u) ++ cutD es (some v) none)]), ?_, rfl, _, _, rfl,
    ⟨((R.go.trans (Go.app R.go.bg _)).trans (Go.app (Bg.app R.go.bg _) _)).trans (Go.app ((R.go.bg.app _).app _) _), by simp; omega, at_new, by simp; omega, fun e he => ?_⟩⟩
  · simp only [e_set, e_op, e_sl, e_V, e_oN, e_oS, eu, ev, List.getElem?_cons_succ, List.getElem?_cons_zero, Option.bind_some, h1, h3, e]
    rfl
  · have : e ∈ es := by
      rcases List.mem_append.mp he with z | z <;> exact cut_mem z
    exact (((R.all e this).app _).app _).app _
end
end K01

set_option Elab.async false
set_option linter.all false
set_option maxRecDepth 100000
set_option maxHeartbeats 1000000
namespace K01
open PySem PySem.Spec L2 GxR LG DL
open PyProof.Rows hiding signs cutD
section
variable {G : G0} {lb : Nat} {ρ : Rho} {f : FE} {st st' s : Sto} {av : Nat → Prop} {g n m : Nat} {d : D} {rec : HA}
theorem ixN_lt {k : Nat} {i : Int} (h0 : 0 ≤ i) (h1 : i < k) : ixN k i = some i.toNat := by
  unfold ixN
  simp [h0, h1]
noncomputable def chainS (G : G0) (rec : HA) : FS := sIf (fTst (fOp eqD (fV 2) (fC (.int 1)))) (sSet 3 (fOp addD (fSl (fV 3) oNone (oSome (fV 4))) (fSl (fV 3) (oSome (fOp addD (fV 4) (fC (.int 1)))) oNone))) (sIf (fTst (fOp eqD (fV 2) (fC (.int 2)))) (sSet 3 (fOp addD (fSl (fV 3) oNone (oSome (fOp addD (fV 4) (fC (.int 1))))) (fSl (fV 3) (oSome (fV 4)) oNone))) (sIf (fTst (fOp eqD (fV 2) (fC (.int 3)))) (sSeq (sSet 5 (fFn 2 (fn__law_take G) (fCons (fV 0) (fCons (fCall (lenD G) (fCons (fV 3) fNil)) fNil))))
    (sPut2 (fCons (fOp (ixG G) (fV 3) (fV 5)) (fCons (fOp (ixG G) (fV 3) (fV 4)) fNil)) (fV 3) (fV 4) (fV 3) (fV 5))) (sIf (fTst (fOp eqD (fV 2) (fC (.int 4)))) (sRet (fIf (fTst (fCall isiD (fCons (fV 1) (fCons (fC (.ty "tuple")) fNil)))) (fV 3) (fCall tupleD (fCons (fV 3) fNil)))) (sPut (fFn 2 rec (fCons (fV 0) (fCons (fOp (ixG G) (fV 3) (fV 4)) fNil))) (fV 3) (fV 4)))))
def Cn (lb : Nat) (av : Nat → Prop) (g m : Nat) (st : Sto) (d : D) (k a : Int) (p : Fl × Rho × Sto) : Prop :=
  (p.1 = .nx ∧ ∃ r es y, p.2.1 = [some (.ref lb), some d, some (.int k), some (.ref r), some (.int a), y] ∧ Rows lb av g m st p.2.2 r es) ∨ Ret lb av (g + 1) (m + 1) st p
theorem chain_ok {k a : Int} {r : Nat} {es : List D} (hb : lb < st.length) (lo : Lo av st) (ha : av lb) (R : Rows lb av g (n + 4) st s r es) (ty : Ty s d) (few : es.length ≤ 20 + g) (hg : g ≤ 7) (h5 : ∀ e ∈ es, Dn s (fun l => av l ∨ l = r) g n e)
    (k1 : 1 ≤ k) (a0 : 0 ≤ a) (a1 : a < es.length) (hrec : ∀ (av' : Nat → Prop) (s : Sto) (e : D), Bg lb s → av' lb → Lo av' s → Dn s av' g n e → Ok (rec [.ref lb, e] s) fun p => Dn p.2 av' (g + 1) (n + 4) p.1 ∧ Go lb s p.2) :
    Ok (chainS G rec [some (.ref lb), some d, some (.int k), some (.ref r), some (.int a), none] s) (Cn lb av g (n + 4) st d k a) := by
  have bs : Bg lb s := R.go.bg
  have rl : r ≠ lb := by have := R.fresh; omega
  unfold chainS
  by_cases e1 : k = 1
  · subst e1
    refine Ok.eq ((cat_ok (u := a) (v := a + 1) (fu := fV 4) (fv := fOp addD (fV 4) (fC (.int 1))) (x1 := some d) (x2 := some (.int 1)) (x4 := some (.int a)) (x5 := none) R hb a0 (by omega) (by omega) (by omega) (fun s => by simp) (fun s => by simp)).mono fun p ⟨q1, r', es', q2, q3⟩ => .inl ⟨q1, r', es', none, q2, q3⟩) ?_
    simp [eqI]
  by_cases e2 : k = 2
  · subst e2
    refine Ok.eq ((cat_ok (u := a + 1) (v := a) (fu := fOp addD (fV 4) (fC (.int 1))) (fv := fV 4) (x1 := some d) (x2 := some (.int 2)) (x4 := some (.int a)) (x5 := none) R hb (by omega) (by omega) (by omega) (by omega) (fun s => by simp) (fun s => by simp)).mono fun p ⟨q1, r', es', q2, q3⟩ => .inl ⟨q1, r', es', none, q2, q3⟩) ?_
    simp [eqI]
  by_cases e3 : k = 3
  · subst e3
    obtain ⟨⟨x6, s6⟩, q6, ⟨i, rfl, i1, i2⟩, g6⟩ := take_spec (G := G) (m := (es.length : Int)) (by omega) (by omega) bs
    have r6 := g6.ne rl R.at'
    obtain ⟨x, c1, c2, _⟩ := atI_lt (l := es) i1 (by omega)
    obtain ⟨y, d1, d2, _⟩ := atI_lt (l := es) a0 (by omega)
    have n1 : ixN es.length a = some a.toNat := ixN_lt a0 a1
    have w1 : (s6.set r (O.lst (es.set a.toNat x)))[r]? = some (.lst (es.set a.toNat x)) := by rw [List.getElem?_set_self (at_lt r6)]
    have n2 : ixN (es.set a.toNat x).length i = some i.toNat := by rw [List.length_set]; exact ixN_lt i1 (by omega)
    refine ⟨(.nx, [some (.ref lb), some d, some (.int 3), some (.ref r), some (.int a), some (.int i)], (s6.set r (.lst (es.set a.toNat x))).set r (.lst ((es.set a.toNat x).set i.toNat y))), ?_, .inl ⟨rfl, r, (es.set a.toNat x).set i.toNat y, some (.int i), rfl,
      ⟨go_set (go_set (R.go.trans g6) hb R.fresh) hb R.fresh, R.fresh, by rw [List.getElem?_set_self (by simpa using at_lt r6)], by simp; omega, fun e he => ?_⟩⟩⟩
    · have lz := len_ref (G := G) R.at'
      simp [eqI, lz, q6]
      unfold sPut2
      simp [e_ixL r6, c1, d1, e_putL r6, n1, e_putL w1, ixN_lt (k := es.length) i1 (by omega)]
    · have he : e ∈ es := by
        rcases List.mem_or_eq_of_mem_set he with z | z
        · rcases List.mem_or_eq_of_mem_set z with z | z
          · exact z
          · exact z ▸ c2
        · exact z ▸ d2
      rw [List.set_set]
      exact dn_set ((((h5 e he).gen (Nat.le_succ _)).up (by omega)).go (lb := lb) (.inl ha) g6)
  by_cases e4 : k = 4
  · subst e4
    refine Ok.eq ((tail4_ok R lo ty (x2 := some (.int 4)) (x4 := some (.int a)) (x5 := none)).mono fun p q => .inr q) ?_
    simp [eqI]
  · obtain ⟨y, d1, d2, _⟩ := atI_lt (l := es) a0 (by omega)
    obtain ⟨⟨x6, s6⟩, q6, dx, g6⟩ := hrec (fun l => av l ∨ l = r) s y bs (.inl ha) (fun l z => z.elim (fun z => Nat.lt_of_lt_of_le (lo l z) R.go.le) fun z => z ▸ at_lt R.at') (h5 y d2)
    have r6 := g6.ne rl R.at'
    have n1 : ixN es.length a = some a.toNat := ixN_lt a0 a1
    refine ⟨(.nx, [some (.ref lb), some d, some (.int k), some (.ref r), some (.int a), none], s6.set r (.lst (es.set a.toNat x6))), ?_, .inl ⟨rfl, r, es.set a.toNat x6, none, rfl,
      ⟨go_set (R.go.trans g6) hb R.fresh, R.fresh, by rw [List.getElem?_set_self (at_lt r6)], by simp; omega, fun e he => ?_⟩⟩⟩
    · simp [eqI, e1, e2, e3, e4, e_ixL R.at', d1, q6, e_putL r6, n1]
    · refine dn_set ?_
      rcases List.mem_or_eq_of_mem_set he with z | z
      · exact ((((h5 e z).gen (Nat.le_succ _)).up (by omega)).go (lb := lb) (.inl ha) g6)
      · exact z ▸ dx
def Items (s : Sto) (d : D) (es : List D) : Prop := d = .tup es ∨ ∃ l, d = .ref l ∧ s[l]? = some (.lst es)
theorem items_len {es : List D} (h : Items s d es) : lenD G [d] s = some (.int es.length, s) := by
  rcases h with rfl | ⟨l, rfl, h⟩
  · rfl
  · exact len_ref h
theorem items_list {es : List D} (h : Items s d es) : listD [d] s = some (.ref s.length, s ++ [.lst es]) := by
  rcases h with rfl | ⟨l, rfl, h⟩
  · rfl
  · show (match s[l]? with
      | some (.lst ds) => some (D.ref s.length, s ++ [O.lst ds])
      | none => none) = _
    rw [h]
noncomputable def bodyA (G : G0) (rec : HA) : FS := sSeq (sSet 3 (fCall listD (fCons (fV 1) fNil)))
    (sSeq (sSet 4 (fFn 2 (fn__law_take G) (fCons (fV 0) (fCons (fCall (lenD G) (fCons (fV 3) fNil)) fNil))))
    (sSeq (chainS G rec)
    (sRet (fIf (fTst (fCall isiD (fCons (fV 1) (fCons (fC (.ty "tuple")) fNil)))) (fCall tupleD (fCons (fV 3) fNil)) (fV 3)))))
theorem bodyA_ok {k : Int} {es : List D} (b : Bg lb st) (lo : Lo av st) (ha : av lb) (q1 : Go lb st s) (it : Items s d es) {m : Nat} (hd : Dn st av g m d) (few : es.length ≤ 20 + g) (pos : 0 < es.length) (hg : g ≤ 7) (hes : ∀ e ∈ es, Dn st av g n e) (k1 : 1 ≤ k)
    (hrec : ∀ (av' : Nat → Prop) (s : Sto) (e : D), Bg lb s → av' lb → Lo av' s → Dn s av' g n e → Ok (rec [.ref lb, e] s) fun p => Dn p.2 av' (g + 1) (n + 4) p.1 ∧ Go lb s p.2) :
    Ok (bodyA G rec [some (.ref lb), some d, some (.int k), none, none, none] s) (Ret lb av (g + 1) (n + 5) st) := by
  have hb := b.lt
  have q2 : Go lb st (s ++ [.lst es]) := q1.trans (Go.app q1.bg _)
  have h2 : (s ++ [O.lst es])[s.length]? = some (.lst es) := at_new
  have rl : s.length ≠ lb := by have := q1.le; omega
  obtain ⟨⟨x6, s6⟩, q6, ⟨i, rfl, i1, i2⟩, g6⟩ := take_spec (G := G) (m := (es.length : Int)) (by omega) (by omega) q2.bg
  have r6 := g6.ne rl h2
  have q3 : Go lb st s6 := q2.trans g6
  have w : ∀ e ∈ es, Dn s6 (fun l => av l ∨ l = s.length) g n e := fun e he => (dn_wide (hes e he) q1.le).go (lb := lb) (.inl ha) q3
  have R : Rows lb av g (n + 4) st s6 s.length es := ⟨q3, q1.le, r6, by omega, fun e he => ((dn_less (w e he)).gen (Nat.le_succ _)).up (by omega)⟩
  have ty6 : Ty s6 d := (hd.go ha q3).ty
  unfold bodyA
  have lz := len_ref (G := G) h2
  rw [e_seq]
  have a1 : sSet 3 (fCall listD (fCons (fV 1) fNil)) [some (.ref lb), some d, some (.int k), none, none, none] s = some (.nx, [some (.ref lb), some d, some (.int k), some (.ref s.length), none, none], s ++ [.lst es]) := by simp [items_list it]
  rw [a1]
  show Ok (sSeq _ _ [some (.ref lb), some d, some (.int k), some (.ref s.length), none, none] (s ++ [.lst es])) _
  rw [e_seq]
  have a2 : sSet 4 (fFn 2 (fn__law_take G) (fCons (fV 0) (fCons (fCall (lenD G) (fCons (fV 3) fNil)) fNil))) [some (.ref lb), some d, some (.int k), some (.ref s.length), none, none] (s ++ [.lst es]) = some (.nx, [some (.ref lb), some d, some (.int k), some (.ref s.length), some (.int i), none], s6) := by simp [lz, q6]
  rw [a2]
  show Ok (sSeq _ _ [some (.ref lb), some d, some (.int k), some (.ref s.length), some (.int i), none] s6) _
  rw [e_seq]
  refine (chain_ok (G := G) hb lo ha R ty6 few hg w k1 i1 (by omega) hrec).then fun p hp => ?_
  rcases hp with ⟨e1, r', es', y, e2, R'⟩ | ⟨x, e1, e2, e3⟩
  · rw [e1]
    simp only
    rw [e2]
    exact tail_ok R' lo (hd.go ha R'.go).ty
  · rw [e1]
    exact .pure ⟨x, rfl, e2, e3⟩
end
end K01

set_option Elab.async false
set_option linter.all false
set_option maxRecDepth 100000
set_option maxHeartbeats 1000000
namespace K01
open PySem PySem.Spec L2 GxR LG DL
open PyProof.Rows hiding signs cutD
section
variable {G : G0} {lb : Nat} {ρ : Rho} {f : FE} {st st' s : Sto} {av : Nat → Prop} {g n m : Nat} {d : D} {rec : HA}
def SO (B : Nat) (x : Str) : Prop := x.length ≤ B ∧ ∀ c ∈ x.cps.toList, c < 128
theorem SO.app {A B : Nat} {x y : Str} (h1 : SO A x) (h2 : SO B y) : SO (A + B) (x ++ y) := ⟨by rw [Str.length_append]; exact Nat.add_le_add h1.1 h2.1, fun c hc => by
  rw [Str.cps_append, Array.toList_append] at hc
  rcases List.mem_append.mp hc with z | z
  · exact h1.2 c z
  · exact h2.2 c z⟩
theorem SO.cut {B : Nat} {x : Str} {lo hi : Option Int} (h : SO B x) : SO B (cutS x lo hi) := by
  refine ⟨Nat.le_trans ?_ h.1, fun c hc => h.2 c (List.mem_of_mem_drop (List.mem_of_mem_take (by simpa [cutS] using hc)))⟩
  show (cutS x lo hi).cps.size ≤ x.cps.size
  unfold cutS
  simp
  omega
theorem upper_ascii : ∀ c, c < 128 → ∀ e ∈ Unicode.upperOf c, e < 128 := by
  have : (List.range 128).all (fun c => (Unicode.upperOf c).all fun e => decide (e < 128)) = true := by decide +kernel
  intro c hc e he
  have h := List.all_eq_true.mp this c (List.mem_range.mpr hc)
  exact of_decide_eq_true (List.all_eq_true.mp h e he)
theorem SO.upper {B : Nat} {x : Str} (h : SO B x) : SO (3 * B) (Txt.upper x) := by
  refine ⟨Nat.le_trans (len_upper x) (Nat.mul_le_mul_left _ h.1), fun c hc => ?_⟩
  have hc : c ∈ (x.cps.mapIdx fun _ c => (Unicode.upperOf c).toArray).flatten.toList := hc
  rw [Array.mem_toList_iff, Array.mem_flatten] at hc
  obtain ⟨a, ha, hc⟩ := hc
  obtain ⟨i, hi, e⟩ := Array.mem_mapIdx.mp ha
  subst e
  exact upper_ascii x.cps[i] (h.2 _ (by simp)) c (by simpa using hc)
theorem SO.dn {B : Nat} {x : Str} (h : SO B x) (hB : B ≤ 300 * 4 ^ g) : Dn s av g n (.str x) := by
  have : x.length ≤ 300 * 4 ^ g ∧ ∀ c ∈ x.cps.toList, c < 128 := ⟨Nat.le_trans h.1 hB, h.2⟩
  cases n <;> simpa [Dn] using this
theorem SO.bS {x : Str} (h : bS x = true) : SO 300 x := by
  simp only [K01.bS, Bool.and_eq_true, decide_eq_true_eq, List.all_eq_true] at h
  exact ⟨h.1, h.2⟩
theorem so_short {x : Str} {k : Nat} (h : (decide (x.length ≤ k) && x.cps.toList.all (fun c => decide (c < 128))) = true) : SO k x := by
  simp only [Bool.and_eq_true, decide_eq_true_eq, List.all_eq_true] at h
  exact ⟨h.1, h.2⟩
/-- one of a list that is shown -/
theorem pick_ok {k : Int} {es : List D} {P : D → Prop} {σ : Rho} (b : Bg lb s) {fr : FA} {fk : FE} (ef : fr σ s = some (es, s)) (hz : es.length ≤ 20) (ek : ∀ s, fk σ s = some (.int k, s)) (k0 : 0 ≤ k) (k1 : k < es.length) (hP : ∀ e ∈ es, P e) :
    ∃ x more, sRet (fOp (ixG G) (fLst fr) fk) σ s = some (.rt x, σ, s ++ more) ∧ P x := by
  obtain ⟨x, h1, h2, _⟩ := atI_lt (l := es) k0 k1
  refine ⟨x, [.lst es], ?_, hP x h2⟩
  have h3 : (s ++ [O.lst es])[s.length]? = some (.lst es) := at_new
  have hs : es.length ≤ sizeLine := by rw [sizeLine_eq]; omega
  simp only [e_ret, e_op, e_lst, ef, Option.bind_some, hs, if_true, ek, e_ixL h3, h1]
theorem str_ok {x : Str} {k : Int} {y : Option D} (b : Bg lb s) (h : Dn s av g n (.str x)) (hg : g ≤ 6) (k0 : 2 ≤ k) (k1 : k ≤ 8) :
    ∃ z more, sRet (fOp (ixG G) (fLst (fCons (fOp addD (fV 1) (fC (.str "a"))) (fCons (fSl (fV 1) oNone (oSome (fNeg (fC (.int 1))))) (fCons (fOp addD (fV 1) (fC (.str " "))) (fCons (fUpper (fV 1)) (fCons (fOp addD (fV 1) (fV 1)) (fCons (fOp addD (fC (.str "z")) (fV 1)) (fCons (fC (.str "")) fNil)))))))) (fOp subD (fV 2) (fC (.int 2)))) [some (.ref lb), some (.str x), some (.int k), none, none, none] s = some (.rt z, [some (.ref lb), some (.str x), some (.int k), none, none, none], s ++ more) ∧ ∀ s av n, Dn s av (g + 1) n z := by
  have hx : SO (300 * 4 ^ g) x := h.strOk
  have hB : 300 * 4 ^ g ≤ 4915200 := pow_le (by omega)
  have h1 : 300 * 1 ≤ 300 * 4 ^ g := Nat.mul_le_mul_left _ (Nat.pow_pos (by decide))
  have hq : 300 * 4 ^ (g + 1) = 4 * (300 * 4 ^ g) := by rw [Nat.pow_succ]; omega
  have sa : SO 1 ("a" : Str) := so_short (by decide +kernel)
  have ss : SO 1 (" " : Str) := so_short (by decide +kernel)
  have sz : SO 1 ("z" : Str) := so_short (by decide +kernel)
  have se : SO 1 ("" : Str) := so_short (by decide +kernel)
  generalize 300 * 4 ^ g = B at hx hB h1 hq
  have la := (hx.app sa).1
  have ls := (hx.app ss).1
  have lx := (hx.app hx).1
  have lz := (sz.app hx).1
  simp only [Str.length_append] at la ls lx lz
  have szl : sizeLine = 16777216 := sizeLine_eq
  have ea : addD (.str x) (.str "a") s = some (.str (x ++ "a"), s) := if_pos (by omega)
  have es : addD (.str x) (.str " ") s = some (.str (x ++ " "), s) := if_pos (by omega)
  have ex : addD (.str x) (.str x) s = some (.str (x ++ x), s) := if_pos (by omega)
  have ez : addD (.str "z") (.str x) s = some (.str ("z" ++ x), s) := if_pos (by omega)
  have ec : sliceD (.str x) none (some (-1)) s = some (.str (cutS x none (some (-1))), s) := if_pos (by have := hx.1; omega)
  have lu : x.length ≤ 5592405 := by have := hx.1; omega
  refine pick_ok (k := k - 2) (es := [.str (x ++ "a"), .str (cutS x none (some (-1))), .str (x ++ " "), .str (Txt.upper x), .str (x ++ x), .str ("z" ++ x), .str ""]) (P := fun z => ∀ s av n, Dn s av (g + 1) n z) b ?_ (by simp) (fun s => by simp) (by omega) (by simp; omega) fun e he => ?_
  · simp [ea, es, ex, ez, ec, lu]
  · intro s av n
    simp only [List.mem_cons, List.not_mem_nil, or_false] at he
    rcases he with z | z | z | z | z | z | z <;> subst z
    · exact (hx.app sa).dn (by omega)
    · exact hx.cut.dn (by omega)
    · exact (hx.app ss).dn (by omega)
    · exact hx.upper.dn (by omega)
    · exact (hx.app hx).dn (by omega)
    · exact (sz.app hx).dn (by omega)
    · exact se.dn (by omega)
theorem int_dn {i : Int} (h : i.natAbs ≤ 10 ^ 30 + 2000 * g) : Dn s av g n (.int i) := by cases n <;> simpa [Dn] using h
theorem so_int {i : Int} (h : i.natAbs.log2 < 200) : SO 300 (toString i : String) := by
  refine ⟨?_, fun c hc => ?_⟩
  · show (Str.ofString (toString i)).length ≤ 300
    rw [PySem.ofString_length]
    exact Nat.le_trans (PySem.int_text_length_le (k := 200) (by decide) h) (by decide)
  · have hc : c ∈ (Str.ofString (toString i)).cps.toList := hc
    rw [Str.ofString_eq_toList] at hc
    simp only [List.mem_map] at hc
    obtain ⟨ch, h1, rfl⟩ := hc
    exact PySem.int_ascii i ch h1
theorem num_ok {v : Int} {k : Int} (b : Bg lb s) (hd : d = .int v ∨ ∃ w, d = .bl w ∧ v = bI w) (hv : v.natAbs ≤ 10 ^ 30 + 2000 * g) (hg : g ≤ 6) (k0 : 2 ≤ k) (k1 : k ≤ 8) :
    ∃ z more, sRet (fOp (ixG G) (fLst (fCons (fOp addD (fV 1) (fC (.int 1))) (fCons (fOp subD (fV 1) (fC (.int 1))) (fCons (fNeg (fV 1)) (fCons (fOp addD (fV 1) (fC (.int 1000))) (fCons (fCall strD (fCons (fV 1) fNil)) (fCons (fOp addD (fV 1) (fC (.int 50))) (fCons (fTup (fCons (fV 1) fNil)) fNil)))))))) (fOp subD (fV 2) (fC (.int 2)))) [some (.ref lb), some d, some (.int k), none, none, none] s = some (.rt z, [some (.ref lb), some d, some (.int k), none, none, none], s ++ more) ∧ ∀ s av n, Dn s av (g + 1) (n + 1) z := by
  have lg : v.natAbs.log2 < 200 := by
    by_cases hz : v.natAbs = 0
    · rw [hz]; decide
    · exact (Nat.log2_lt hz).mpr (Nat.lt_of_le_of_lt hv (by
        have : 10 ^ 30 + 2000 * 6 < 2 ^ 200 := by decide
        omega))
  have h1 : 1 ≤ 4 ^ (g + 1) := Nat.pow_pos (by decide)
  obtain ⟨sv, e1, e2⟩ : ∃ sv, strD [d] s = some (.str sv, s) ∧ SO 300 sv := by
    rcases hd with rfl | ⟨w, rfl, rfl⟩
    · exact ⟨toString v, if_pos (by omega), so_int lg⟩
    · exact ⟨strB w, rfl, by cases w <;> exact SO.bS (by decide +kernel)⟩
  have a1 : ∀ j : Int, addD d (.int j) s = some (.int (v + j), s) := fun j => by
    rcases hd with rfl | ⟨w, rfl, rfl⟩ <;> rfl
  have a2 : ∀ j : Int, subD d (.int j) s = some (.int (v - j), s) := fun j => by
    rcases hd with rfl | ⟨w, rfl, rfl⟩ <;> rfl
  have a3 : fNeg (fV 1) [some (.ref lb), some d, some (.int k), none, none, none] s = some (.int (-v), s) := by
    rcases hd with rfl | ⟨w, rfl, rfl⟩ <;> rfl
  have hz : (1 : Nat) ≤ sizeLine := by decide
  refine pick_ok (k := k - 2) (es := [.int (v + 1), .int (v - 1), .int (-v), .int (v + 1000), .str sv, .int (v + 50), .tup [d]]) (P := fun z => ∀ s av n, Dn s av (g + 1) (n + 1) z) b ?_ (by simp) (fun s => by simp) (by omega) (by simp; omega) fun e he => ?_
  · simp only [e_cons, e_op, e_V, e_C, e_nil, e_call, e_tup, List.getElem?_cons_succ, List.getElem?_cons_zero, Option.bind_some, a1, a2, a3, e1, List.length_cons, List.length_nil, Nat.zero_add, hz, if_true]
  · intro s av n
    simp only [List.mem_cons, List.not_mem_nil, or_false] at he
    rcases he with z | z | z | z | z | z | z <;> subst z
    · exact int_dn (by omega)
    · exact int_dn (by omega)
    · exact int_dn (by omega)
    · exact int_dn (by omega)
    · exact e2.dn (by omega)
    · exact int_dn (by omega)
    · simp only [Dn]
      refine ⟨by simp; omega, fun e he => ?_⟩
      simp only [List.mem_cons, List.not_mem_nil, or_false] at he
      subst he
      rcases hd with rfl | ⟨w, rfl, rfl⟩
      · exact int_dn (by omega)
      · cases n <;> simp [Dn]
end
end K01

set_option Elab.async false
set_option linter.all false
set_option maxRecDepth 100000
set_option maxHeartbeats 1000000
namespace K01
open PySem PySem.Spec L2 GxR LG DL
open PyProof.Rows hiding signs cutD
section
variable {G : G0} {lb : Nat} {ρ : Rho} {f : FE} {st st' s : Sto} {av : Nat → Prop} {g n m : Nat} {d : D} {rec : HA}
noncomputable def condA (G : G0) : FT := fTAnd (fTst (fIsiT ["tuple", "list"] (fV 1))) (fTAnd (fTst (fOp gtD (fCall (lenD G) (fCons (fV 1) fNil)) (fC (.int 0)))) (fTst (fOp gtD (fV 2) (fC (.int 0)))))
noncomputable def restA (G : G0) : FS := (sSeq (sIf (fTAnd (fTst (fCall isiD (fCons (fV 1) (fCons (fC (.ty "str")) fNil)))) (fTst (fOp gtD (fV 2) (fC (.int 1))))) (sRet (fOp (ixG G) (fLst (fCons (fOp addD (fV 1) (fC (.str "a"))) (fCons (fSl (fV 1) oNone (oSome (fNeg (fC (.int 1))))) (fCons (fOp addD (fV 1) (fC (.str " "))) (fCons (fUpper (fV 1)) (fCons (fOp addD (fV 1) (fV 1)) (fCons (fOp addD (fC (.str "z")) (fV 1)) (fCons (fC (.str "")) fNil)))))))) (fOp subD (fV 2) (fC (.int 2))))) sNext)
    (sSeq (sIf (fTAnd (fTst (fCall isiD (fCons (fV 1) (fCons (fC (.ty "int")) fNil)))) (fTst (fOp gtD (fV 2) (fC (.int 1))))) (sRet (fOp (ixG G) (fLst (fCons (fOp addD (fV 1) (fC (.int 1))) (fCons (fOp subD (fV 1) (fC (.int 1))) (fCons (fNeg (fV 1)) (fCons (fOp addD (fV 1) (fC (.int 1000))) (fCons (fCall strD (fCons (fV 1) fNil)) (fCons (fOp addD (fV 1) (fC (.int 50))) (fCons (fTup (fCons (fV 1) fNil)) fNil)))))))) (fOp subD (fV 2) (fC (.int 2))))) sNext)
    (sRet (fFn 1 (fn__law_odd G) (fCons (fV 0) fNil)))))
theorem spoilt_form : sb__law_spoilt G rec = sSeq (sSet 2 (fFn 2 (fn__law_take G) (fCons (fV 0) (fCons (fC (.int 9)) fNil)))) (sSeq (sIf (condA G) (bodyA G rec) sNext) (restA G)) := rfl
/-- what is not a row -/
theorem rest_ok {k : Int} (b : Bg lb st) (lo : Lo av st) (ha : av lb) (q : Go lb st s) (h : Dn st av g n d) (hg : g ≤ 6) (k0 : 0 ≤ k) (k1 : k ≤ 8) : Ok (restA G [some (.ref lb), some d, some (.int k), none, none, none] s) (Ret lb av (g + 1) (n + 4) st) := by
  have hs := h.go ha q
  have ty := hs.ty
  obtain ⟨⟨xo, so⟩, qo, dxo, go⟩ := odd_spec (G := G) q.bg ha (lo.go q)
  have odd : Ok (sRet (fFn 1 (fn__law_odd G) (fCons (fV 0) fNil)) [some (.ref lb), some d, some (.int k), none, none, none] s) (Ret lb av (g + 1) (n + 4) st) :=
    ⟨(.rt xo, [some (.ref lb), some d, some (.int k), none, none, none], so), by simp [qo], xo, rfl, (dxo.gen (Nat.zero_le _)).up (by omega), q.trans go⟩
  unfold restA
  by_cases kk : 1 < k
  · cases d with
    | str x =>
      obtain ⟨z, more, e, hz⟩ := str_ok (G := G) q.bg hs hg (k := k) (y := none) (by omega) k1
      refine ⟨(.rt z, [some (.ref lb), some (.str x), some (.int k), none, none, none], s ++ more), ?_, z, rfl, hz _ _ _, q.trans (Go.app q.bg _)⟩
      rw [e_seq, e_if]
      have t : fTAnd (fTst (fCall isiD (fCons (fV 1) (fCons (fC (.ty "str")) fNil)))) (fTst (fOp gtD (fV 2) (fC (.int 1)))) [some (.ref lb), some (.str x), some (.int k), none, none, none] s = some (true, s) := by simp [isi_str ty, isStrD, kk]
      rw [t]
      simp only [Option.bind_some, if_true]
      rw [e]
      rfl
    | scr => exact ty.elim
    | ty t => exact ty.elim
    | int v =>
      obtain ⟨z, more, e, hz⟩ := num_ok (G := G) (d := .int v) (g := g) q.bg (.inl rfl) (by cases n <;> simpa [Dn] using h) hg (k := k) (by omega) k1
      refine ⟨(.rt z, [some (.ref lb), some (.int v), some (.int k), none, none, none], s ++ more), ?_, z, rfl, hz _ _ _, q.trans (Go.app q.bg _)⟩
      rw [e_seq, e_if]
      have t0 : fTAnd (fTst (fCall isiD (fCons (fV 1) (fCons (fC (.ty "str")) fNil)))) (fTst (fOp gtD (fV 2) (fC (.int 1)))) [some (.ref lb), some (.int v), some (.int k), none, none, none] s = some (false, s) := by simp [isi_str ty, isStrD]
      rw [t0]
      simp only [Option.bind_some, Bool.false_eq_true, if_false, e_next]
      rw [e_seq, e_if]
      have t : fTAnd (fTst (fCall isiD (fCons (fV 1) (fCons (fC (.ty "int")) fNil)))) (fTst (fOp gtD (fV 2) (fC (.int 1)))) [some (.ref lb), some (.int v), some (.int k), none, none, none] s = some (true, s) := by simp [isi_int ty, isIntD, kk]
      rw [t]
      simp only [Option.bind_some, if_true]
      rw [e]
      rfl
    | bl v =>
      obtain ⟨z, more, e, hz⟩ := num_ok (G := G) (d := .bl v) (v := bI v) (g := g) q.bg (.inr ⟨v, rfl, rfl⟩) (by cases v <;> simp [bI] <;> omega) hg (k := k) (by omega) k1
      refine ⟨(.rt z, [some (.ref lb), some (.bl v), some (.int k), none, none, none], s ++ more), ?_, z, rfl, hz _ _ _, q.trans (Go.app q.bg _)⟩
      rw [e_seq, e_if]
      have t0 : fTAnd (fTst (fCall isiD (fCons (fV 1) (fCons (fC (.ty "str")) fNil)))) (fTst (fOp gtD (fV 2) (fC (.int 1)))) [some (.ref lb), some (.bl v), some (.int k), none, none, none] s = some (false, s) := by simp [isi_str ty, isStrD]
      rw [t0]
      simp only [Option.bind_some, Bool.false_eq_true, if_false, e_next]
      rw [e_seq, e_if]
      have t : fTAnd (fTst (fCall isiD (fCons (fV 1) (fCons (fC (.ty "int")) fNil)))) (fTst (fOp gtD (fV 2) (fC (.int 1)))) [some (.ref lb), some (.bl v), some (.int k), none, none, none] s = some (true, s) := by simp [isi_int ty, isIntD, kk]
      rw [t]
      simp only [Option.bind_some, if_true]
      rw [e]
      rfl
    | _ =>
      refine odd.eq ?_
      simp [isi_str ty, isi_int ty, isStrD, isIntD]
  · refine odd.eq ?_
    have t0 : fTAnd (fTst (fCall isiD (fCons (fV 1) (fCons (fC (.ty "str")) fNil)))) (fTst (fOp gtD (fV 2) (fC (.int 1)))) [some (.ref lb), some d, some (.int k), none, none, none] s = some (false, s) := by
      cases hq : isStrD d <;> simp [isi_str ty, hq, kk]
    have t1 : fTAnd (fTst (fCall isiD (fCons (fV 1) (fCons (fC (.ty "int")) fNil)))) (fTst (fOp gtD (fV 2) (fC (.int 1)))) [some (.ref lb), some d, some (.int k), none, none, none] s = some (false, s) := by
      cases hq : isIntD d <;> simp [isi_int ty, hq, kk]
    rw [e_seq, e_if, t0]
    simp only [Option.bind_some, Bool.false_eq_true, if_false, e_next]
    rw [e_seq, e_if, t1]
    simp only [Option.bind_some, Bool.false_eq_true, if_false, e_next]
theorem spoilt_spec : ∀ (n fu : Nat), n < fu → ∀ (g : Nat) (av : Nat → Prop) (st : Sto) (d : D), g ≤ 6 → Bg lb st → av lb → Lo av st → Dn st av g n d → Ok (fn__law_spoilt G fu [.ref lb, d] st) fun p => Dn p.2 av (g + 1) (n + 4) p.1 ∧ Go lb st p.2 := by
  intro n
  induction n with
  | zero =>
    intro fu hf g av st d hg b ha lo h
    obtain ⟨fu, rfl⟩ : ∃ j, fu = j + 1 := ⟨fu - 1, by omega⟩
    obtain ⟨⟨x1, s1⟩, q1, ⟨k, rfl, k0, k1⟩, g1⟩ := take_spec (G := G) (m := 9) (by decide) (by decide) b
    have ty := (h.go ha g1).ty
    have nt : isTupD d = false ∧ isRefD d = false := by
      cases d with
      | tup ds => simp [Dn] at h
      | ref l => simp [Dn] at h
      | _ => exact ⟨rfl, rfl⟩
    obtain ⟨p, e, x, e2, dx, gx⟩ := rest_ok (G := G) b lo ha g1 h hg k0 (by omega)
    refine ⟨(x, p.2.2), ?_, dx, gx⟩
    show runD 6 (sb__law_spoilt G (fn__law_spoilt G fu)) [.ref lb, d] st = _
    rw [spoilt_form, e_run]
    show Option.bind (sSeq _ _ [some (.ref lb), some d, none, none, none, none] st) _ = _
    rw [e_seq]
    have a1 : sSet 2 (fFn 2 (fn__law_take G) (fCons (fV 0) (fCons (fC (.int 9)) fNil))) [some (.ref lb), some d, none, none, none, none] st = some (.nx, [some (.ref lb), some d, some (.int k), none, none, none], s1) := by simp [q1]
    rw [a1]
    show Option.bind (sSeq _ _ [some (.ref lb), some d, some (.int k), none, none, none] s1) _ = _
    rw [e_seq, e_if]
    have c : condA G [some (.ref lb), some d, some (.int k), none, none, none] s1 = some (false, s1) := by
      unfold condA
      simp [tyN_ty ty, kits_tl ty, nt.1, nt.2]
    rw [c]
    simp only [Option.bind_some, Bool.false_eq_true, if_false, e_next]
    rw [e]
    obtain ⟨p1, p2⟩ := p
    simp only at e2
    subst e2
    rfl
  | succ n ih =>
    intro fu hf g av st d hg b ha lo h
    obtain ⟨fu, rfl⟩ : ∃ j, fu = j + 1 := ⟨fu - 1, by omega⟩
    obtain ⟨⟨x1, s1⟩, q1, ⟨k, rfl, k0, k1⟩, g1⟩ := take_spec (G := G) (m := 9) (by decide) (by decide) b
    have ty := (h.go ha g1).ty
    have a1 : sSet 2 (fFn 2 (fn__law_take G) (fCons (fV 0) (fCons (fC (.int 9)) fNil))) [some (.ref lb), some d, none, none, none, none] st = some (.nx, [some (.ref lb), some d, some (.int k), none, none, none], s1) := by simp [q1]
    have fin : ∀ {c : Bool}, condA G [some (.ref lb), some d, some (.int k), none, none, none] s1 = some (c, s1) → (c = true → Ok (bodyA G (fn__law_spoilt G fu) [some (.ref lb), some d, some (.int k), none, none, none] s1) (Ret lb av (g + 1) (n + 1 + 4) st)) →
        Ok (fn__law_spoilt G (fu + 1) [.ref lb, d] st) fun p => Dn p.2 av (g + 1) (n + 1 + 4) p.1 ∧ Go lb st p.2 := fun {c} hc hbd => by
      have main : ∃ p, sSeq (sIf (condA G) (bodyA G (fn__law_spoilt G fu)) sNext) (restA G) [some (.ref lb), some d, some (.int k), none, none, none] s1 = some p ∧ Ret lb av (g + 1) (n + 1 + 4) st p := by
        rw [e_seq, e_if, hc]
        simp only [Option.bind_some]
        cases c with
        | true =>
          obtain ⟨p, e, x, e2, r⟩ := hbd rfl
          rw [if_pos rfl, e]
          obtain ⟨p1, p2⟩ := p
          simp only at e2
          subst e2
          exact ⟨_, rfl, x, rfl, r⟩
        | false =>
          simp only [Bool.false_eq_true, if_false, e_next, Option.bind_some]
          exact rest_ok (G := G) b lo ha g1 h hg k0 (by omega)
      obtain ⟨p, e, x, e2, dx, gx⟩ := main
      refine ⟨(x, p.2.2), ?_, dx, gx⟩
      show runD 6 (sb__law_spoilt G (fn__law_spoilt G fu)) [.ref lb, d] st = _
      rw [spoilt_form, e_run]
      show Option.bind (sSeq _ _ [some (.ref lb), some d, none, none, none, none] st) _ = _
      rw [e_seq, a1]
      show Option.bind (sSeq _ _ [some (.ref lb), some d, some (.int k), none, none, none] s1) _ = _
      rw [e]
      obtain ⟨p1, p2⟩ := p
      simp only at e2
      subst e2
      rfl
    have isit : (∃ es, Items st d es ∧ es.length ≤ 20 + g ∧ ∀ e ∈ es, Dn st av g n e) ∨ (isTupD d = false ∧ isRefD d = false) := by
      cases d with
      | tup es => simp only [Dn] at h; exact .inl ⟨es, .inl rfl, h.1, h.2⟩
      | ref l => simp only [Dn] at h; obtain ⟨_, es, e1, e2, e3⟩ := h; exact .inl ⟨es, .inr ⟨l, rfl, e1⟩, e2, e3⟩
      | _ => exact .inr ⟨rfl, rfl⟩
    rcases isit with ⟨es, it, few, hes⟩ | nt
    · have it1 : Items s1 d es := by
        rcases it with z | ⟨l, z, e⟩
        · exact .inl z
        · subst z
          simp only [Dn] at h
          exact .inr ⟨l, rfl, g1.ne (fun z => h.1 (z ▸ ha)) e⟩
      have tr : (isTupD d || isRefD d) = true := by
        rcases it with z | ⟨l, z, e⟩ <;> subst z <;> rfl
      by_cases hc : 0 < es.length ∧ 0 < k
      · refine fin (c := true) ?_ fun _ => bodyA_ok (G := G) b lo ha g1 it1 h few hc.1 (by omega) hes (by omega) fun av' s e bs ha' lo' he => ?_
        · unfold condA
          have z1 : es ≠ [] := fun z => by rw [z] at hc; simp at hc
          simp [tyN_ty ty, kits_tl ty, tr, items_len (G := G) it1, z1, hc.2]
        · exact ih fu (by omega) g av' s e hg bs ha' lo' he
      · refine fin (c := false) ?_ fun z => by cases z
        unfold condA
        by_cases z1 : es = []
        · simp [tyN_ty ty, kits_tl ty, tr, items_len (G := G) it1, z1]
        · have z2 : ¬ 0 < k := fun z => hc ⟨List.length_pos_iff.mpr z1, z⟩
          simp [tyN_ty ty, kits_tl ty, tr, items_len (G := G) it1, z1, z2]
    · refine fin (c := false) ?_ fun z => by cases z
      unfold condA
      simp [tyN_ty ty, kits_tl ty, nt.1, nt.2]
end
end K01

set_option Elab.async false
set_option linter.all false
set_option maxRecDepth 100000
set_option maxHeartbeats 1000000
namespace K01
open PySem PySem.Spec L2 GxR LG DL
open PyProof.Rows hiding signs cutD
section
variable {G : G0} {lb : Nat} {ρ : Rho} {f h : FE} {fr : FA} {t : FS} {st st' s : Sto} {av : Nat → Prop} {g n m k : Nat} {d : D} {P : D → Prop} {Q : Fl × Rho × Sto → Prop}
theorem ok_set {i : Nat} (e : ED lb ρ f P) (b : Bg lb s) (k : ∀ d s', P d → Go lb s s' → Ok (t (ρ.set i (some d)) s') Q) : Ok (sSeq (sSet i f) t ρ s) Q :=
  Ok.bind (Ok.bind ((e s b).mono fun p q => .pure (k p.1 p.2 q.1 q.2)))
theorem ok_ret (e : ED lb ρ f P) (b : Bg lb s) (k : ∀ d s', P d → Go lb s s' → Q (.rt d, ρ, s')) : Ok (sRet f ρ s) Q := Ok.bind ((e s b).mono fun p q => .pure (k p.1 p.2 q.1 q.2))
theorem ok_par2 {i j : Nat} {P' : D → Prop} (e : ED lb ρ f P) (e' : ED lb ρ h P') (b : Bg lb s) (k : ∀ d d' s', P d → P' d' → Go lb s s' → Ok (t ((ρ.set i (some d)).set j (some d')) s') Q) : Ok (sSeq (sPar [i, j] (fCons f (fCons h fNil))) t ρ s) Q := by
  refine Ok.bind (Ok.bind ((EA.cons e (EA.cons e' (.nil (A := (· = [])) rfl)) s b).mono fun p q => ?_))
  obtain ⟨⟨d1, r1, e1, p1, d2, r2, e2, p2, e3⟩, go⟩ := q
  subst e3; subst e2
  rw [e1]
  exact .pure (k d1 d2 p.2 p1 p2 go)
theorem ok_run {N : Nat} {sb : FS} {ds : List D} {R : D × Sto → Prop} (h : Ok (sb (ds.map some ++ List.replicate (N - ds.length) none) st) fun p => ∃ x, p.1 = .rt x ∧ R (x, p.2.2)) : Ok (runD N sb ds st) R :=
  Ok.bind (h.mono fun p q => by
    obtain ⟨x, e, r⟩ := q
    rw [e]
    exact .pure r)
theorem ED.tupn {j : Nat} (a : EA lb ρ fr (fun ds => ds.length = j ∧ ∀ d ∈ ds, Pn k d)) (hj : j ≤ 20 := by decide) : ED lb ρ (fTup fr) (Pn (k + 1)) :=
  .tup (a.mono fun ds q => ⟨by rw [sizeLine_eq]; omega, Pn.tup (by omega) q.2⟩)
theorem ED.pn {lo hi : Int} (a : ED lb ρ f (Nn lo hi)) (h1 : -(10 ^ 30) ≤ lo := by decide) (h2 : hi ≤ 10 ^ 30 := by decide) : ED lb ρ f (Pn k) := a.mono fun d q => Pn.int (i := 0) q h1 h2
theorem ED.ofL {i : Nat} {c : Nat} (hb : ρ[i]? = some (some (.ref lb))) (a : EA lb ρ fr (fun ds => ds.length = c + 1 ∧ ∀ d ∈ ds, P d)) (hn : c + 1 ≤ 100 := by decide) : ED lb ρ (fFn 2 (fn__law_of G) (fCons (fV i) (fCons (fLst fr) fNil))) P := fun st b => by
  obtain ⟨⟨ds, s1⟩, q1, ⟨z, hp⟩, g1⟩ := a st b
  have z : ds.length = c + 1 := z
  have hl : (s1 ++ [O.lst ds])[s1.length]? = some (.lst ds) := at_new
  have g2 : Go lb st (s1 ++ [O.lst ds]) := g1.trans (Go.app g1.bg _)
  obtain ⟨⟨x6, s6⟩, q6, ⟨j, rfl, i1, i2⟩, g6⟩ := take_spec (G := G) (m := (ds.length : Int)) (by omega) (by omega) g2.bg
  obtain ⟨x, a1, a2, _⟩ := atI_lt (l := ds) i1 (by omega)
  have nl : s1.length ≠ lb := by have : lb < s1.length := g1.bg.lt; omega
  have hz : ds.length ≤ sizeLine := by rw [sizeLine_eq]; omega
  refine ⟨(x, s6), ?_, hp x a2, g2.trans g6⟩
  unfold fn__law_of sb__law_of
  simp only [e_fn, e_cons, e_V, hb, e_lst, q1, e_nil, Option.bind_some, hz, if_true, List.length_cons, List.length_nil, e_run, e_ret, e_op, e_call, List.map_cons, List.map_nil, List.cons_append, List.nil_append, List.getElem?_cons_succ, List.getElem?_cons_zero, len_ref (G := G) hl, q6, e_ixL (g6.ne nl hl), a1]
theorem bounds_spec (b : Bg lb st) : Ok (fn__law_at_bounds G [.ref lb] st) fun p => Pn 3 p.1 ∧ Go lb st p.2 := by
  unfold fn__law_at_bounds sb__law_at_bounds
  have i : ∀ {ρ : Rho} {j : Int}, -2000000 ≤ j → j ≤ 2000000 → ED lb ρ (fC (.int j)) (Pn 0) := fun h1 h2 => ED.pn (ED.n h1 h2) (by decide) (by decide)
  have ng : ∀ {ρ : Rho} {j : Int}, -2000000 ≤ j → j ≤ 2000000 → ED lb ρ (fNeg (fC (.int j))) (Pn 0) := fun {ρ j} h1 h2 => ED.pn (ED.neg (ED.n (lo := -2000000) (hi := 2000000) h1 h2)) (by decide) (by decide)
  refine ok_run (ok_set (P := Pn 1) (ED.tupn (.allC (ED.ofL rfl (.allC (i (by decide) (by decide)) (.allC (ng (by decide) (by decide)) (.allC (i (by decide) (by decide)) (.allC (ng (by decide) (by decide)) (.allC (i (by decide) (by decide)) .all0)))))) (.allC (ED.ofL rfl (.allC (i (by decide) (by decide)) (.allC (i (by decide) (by decide)) (.allC (ng (by decide) (by decide)) .all0)))) .all0))) b fun d1 s1 p1 g1 =>
    ok_par2 (P := Pn 0) (P' := Pn 0) (ED.ofL rfl (.allC (i (by decide) (by decide)) (.allC (i (by decide) (by decide)) (.allC (i (by decide) (by decide)) (.allC (i (by decide) (by decide)) .all0))))) (ED.ofL rfl (.allC (i (by decide) (by decide)) (.allC (i (by decide) (by decide)) (.allC (i (by decide) (by decide)) (.allC (i (by decide) (by decide)) .all0))))) g1.bg fun d2 d3 s2 p2 p3 g2 =>
    ok_ret (P := Pn 3) (ED.tupn (.allC (ED.tupn (.allC (.c (.str (by decide +kernel))) (.allC (.v rfl p1) (.allC (.v rfl (p2.up (by decide))) (.allC (ED.tupn (.allC (i (by decide) (by decide)) (.allC (ED.ofL rfl (.allC (i (by decide) (by decide)) (.allC (i (by decide) (by decide)) (.allC (ng (by decide) (by decide)) .all0)))) .all0))) (.allC (.v rfl (p3.up (by decide))) .all0)))))) .all0)) g2.bg fun d s3 pd g3 => ⟨d, rfl, pd, (g1.trans g2).trans g3⟩)
/-- a loop -/
theorem for_ok {tg : Tg} {b : FS} {src : Src} {items : List D} {I : Nat → Rho → Sto → Prop} (hi : ∀ i ρ s, I i ρ s → Intact src s)
    (step : ∀ i d, items[i]? = some d → ∀ ρ s, I i ρ s → ∃ ρ1, tgD tg d ρ = some ρ1 ∧ Ok (b ρ1 s) fun q => q.1 = .nx ∧ I (i + 1) q.2.1 q.2.2) :
    ∀ (j i : Nat) (ρ : Rho) (s : Sto), j = items.length - i → i ≤ items.length → I i ρ s → Ok (forD tg b src (items.drop i) ρ s) fun q => q.1 = .nx ∧ I items.length q.2.1 q.2.2 := by
  intro j
  induction j with
  | zero =>
    intro i ρ s hj hl h
    have : i = items.length := by omega
    subst this
    rw [List.drop_length]
    unfold forD
    rw [if_pos (hi _ _ _ h)]
    exact .pure ⟨rfl, h⟩
  | succ j ih =>
    intro i ρ s hj hl h
    have hlt : i < items.length := by omega
    obtain ⟨ρ1, e1, q⟩ := step i items[i] (by simp [hlt]) ρ s h
    rw [List.drop_eq_getElem_cons hlt]
    unfold forD
    rw [if_pos (hi _ _ _ h), e1]
    refine Ok.bind (.pure (Ok.bind (q.mono fun q ⟨e, i2⟩ => ?_)))
    rw [e]
    exact ih (i + 1) q.2.1 q.2.2 (by omega) (by omega) i2
end
end K01

set_option Elab.async false
set_option linter.all false
set_option maxRecDepth 100000
set_option maxHeartbeats 1000000
namespace K01
open PySem PySem.Spec L2 GxR LG DL
open PyProof.Rows hiding signs cutD
section
variable {G : G0} {lb : Nat} {ρ : Rho} {f h : FE} {fr : FA} {t : FS} {st st' s : Sto} {av : Nat → Prop} {g n m k : Nat} {d : D} {P : D → Prop} {Q : Fl × Rho × Sto → Prop}
/-- a list that grows beside -/
structure Grow (lb lf : Nat) (st s : Sto) (P : D → Prop) (i : Nat) : Prop where
  go : Go lb st s
  new : st.length ≤ lf
  ex : ∃ ds, s[lf]? = some (.lst ds) ∧ ds.length = i ∧ ∀ d ∈ ds, P d
theorem Grow.step {lf i : Nat} (w : Grow lb lf st s P i) (q : Go lb s st') (hb : lb < st.length) : Grow lb lf st st' P i := by
  obtain ⟨ds, e, z⟩ := w.ex
  exact ⟨w.go.trans q, w.new, ds, q.ne (by have := w.new; omega) e, z⟩
theorem app_ok {lf i j : Nat} {ρ : Rho} {e : ED lb ρ f P} (w : Grow lb lf st s P i) (hb : lb < st.length) (hv : ρ[j]? = some (some (.ref lf))) (hi : i ≤ 100) : Ok (sExpr (fApp (fV j) f) ρ s) fun q => q.1 = .nx ∧ q.2.1 = ρ ∧ Grow lb lf st q.2.2 P (i + 1) ∧ ∀ l o, l ≠ lb → l ≠ lf → s[l]? = some o → q.2.2[l]? = some o := by
  obtain ⟨ds, e1, z1, z2⟩ := w.ex
  obtain ⟨⟨x, s1⟩, q1, px, g1⟩ := e s w.go.bg
  have nl : lf ≠ lb := by have := w.new; omega
  have e2 := g1.ne nl e1
  have hz : ds.length < sizeLine := by rw [sizeLine_eq]; omega
  refine ⟨(.nx, ρ, s1.set lf (.lst (ds ++ [x]))), ?_, rfl, rfl, ⟨go_set (w.go.trans g1) hb w.new, w.new, ds ++ [x], by rw [List.getElem?_set_self (at_lt e2)], by simp [z1], fun d hd => ?_⟩, fun l o n1 n2 e => by rw [List.getElem?_set_ne (Ne.symm n2)]; exact g1.ne n1 e⟩
  · simp only [e_expr, e_app, e_V, hv, Option.bind_some, q1, e1]
    have e2' : s1[lf]? = some (.lst ds) := e2
    simp only [e2', hz, if_true, Option.bind_some]
  · rcases List.mem_append.mp hd with z | z
    · exact z2 d z
    · rw [List.mem_singleton.mp z]; exact px
theorem ok_last {s1 s2 : FS} {ρ' : Rho} {Q' : Fl × Rho × Sto → Prop} (h1 : Ok (s1 ρ s) fun q => q.1 = .nx ∧ Q' q) (h2 : ∀ q, q.1 = .nx → Q' q → Ok (s2 q.2.1 q.2.2) Q) : Ok (sSeq s1 s2 ρ s) Q :=
  Ok.bind (h1.mono fun q ⟨e, z⟩ => by
    rw [e]
    exact h2 q e z)
def nmsD : List D := [.str "ann", .str "bo", .str "cy", .str "dee", .str "eli", .str "fay", .str "gus", .str "hal"]
noncomputable def bodyS (G : G0) : FS := (sSeq (sPar [5, 6] (fCons (fOp subD (fFn 2 (fn__law_take G) (fCons (fV 0) (fCons (fOp addD (fOp mulD (fC (.int 2)) (fV 3)) (fC (.int 1))) fNil))) (fV 3)) (fCons (fOp subD (fFn 2 (fn__law_take G) (fCons (fV 0) (fCons (fOp addD (fOp mulD (fC (.int 2)) (fV 3)) (fC (.int 1))) fNil))) (fV 3)) fNil)))
    (sSeq (sSet 7 (fOp addD (fC (.int 1)) (fOp fdivD (fV 3) (fC (.int 3)))))
    (sSeq (sSet 8 (fTup (fCons (fCall maxD (fCons (fNeg (fC (.int 1000))) (fCons (fOp subD (fV 5) (fFn 2 (fn__law_take G) (fCons (fV 0) (fCons (fV 7) fNil)))) fNil))) (fCons (fCall minD (fCons (fC (.int 1000)) (fCons (fOp addD (fV 6) (fFn 2 (fn__law_take G) (fCons (fV 0) (fCons (fV 7) fNil)))) fNil))) fNil))))
    (sSeq (sSet 9 (fOp (ixG G) (fLst (fCons (fC (.int 1)) (fCons (fC (.int 100)) (fCons (fOp addD (fC (.int 1)) (fFn 2 (fn__law_take G) (fCons (fV 0) (fCons (fC (.int 1000)) fNil)))) (fCons (fOp addD (fC (.int 1)) (fFn 2 (fn__law_take G) (fCons (fV 0) (fCons (fC (.int 1000000)) fNil)))) fNil))))) (fFn 2 (fn__law_take G) (fCons (fV 0) (fCons (fC (.int 4)) fNil)))))
    (sSeq (sSet 10 (fOp addD (fC (.int 1)) (fFn 2 (fn__law_take G) (fCons (fV 0) (fCons (fOp (ixG G) (fLst (fCons (fC (.int 2)) (fCons (fC (.int 10)) (fCons (fC (.int 1000)) fNil)))) (fFn 2 (fn__law_take G) (fCons (fV 0) (fCons (fC (.int 3)) fNil)))) fNil)))))
    (sExpr (fApp (fV 2) (fTup (fCons (fV 4) (fCons (fTup (fCons (fV 5) (fCons (fV 6) fNil))) (fCons (fV 9) (fCons (fV 8) (fCons (fV 10) fNil)))))))))))))
theorem ED.mul2 {hi : Int} (a : ED lb ρ f (Nn 1 hi)) (hh : hi ≤ 1000000) : ED lb ρ (fOp mulD (fC (.int 2)) f) (Nn 2 (2 * hi)) := .op (.c (P := (· = .int 2)) rfl) a fun x y st ex ⟨j, ej, j1, j2⟩ => by
  subst ex; subst ej
  have := log2_small (i := j) (by omega) (by omega)
  have w : (2 : Int).natAbs.log2 < 32 := by decide
  exact ⟨(.int (2 * j), st), by rw [e_mulI, if_pos (by omega)], ⟨_, rfl, by omega, by omega⟩, rfl⟩
theorem ED.div3 {hi : Int} (a : ED lb ρ f (Nn 1 hi)) : ED lb ρ (fOp fdivD f (fC (.int 3))) (Nn 0 hi) := .op a (.c (P := (· = .int 3)) rfl) fun x y st ⟨j, ej, j1, j2⟩ ey => by
  subst ey; subst ej
  exact ⟨(.int (j / 3), st), by rw [e_fdivI, if_pos ⟨by decide, by decide⟩], ⟨_, rfl, by omega, by omega⟩, rfl⟩
theorem ED.mx {l1 h1 l2 h2 : Int} (a : ED lb ρ f (Nn l1 h1)) (c : ED lb ρ h (Nn l2 h2)) : ED lb ρ (fCall maxD (fCons f (fCons h fNil))) (fun d => ∃ i, d = .int i ∧ ((l1 ≤ i ∧ i ≤ h1) ∨ (l2 ≤ i ∧ i ≤ h2))) :=
  .call (.cons a (.cons c (.nil (A := (· = [])) rfl))) fun ds st q => by
    obtain ⟨_, _, rfl, ⟨i, rfl, i1, i2⟩, _, _, rfl, ⟨j, rfl, j1, j2⟩, rfl⟩ := q
    refine ⟨_, rfl, ⟨_, rfl, ?_⟩, rfl⟩
    split
    · exact .inr ⟨j1, j2⟩
    · exact .inl ⟨i1, i2⟩
theorem ED.mn {l1 h1 l2 h2 : Int} (a : ED lb ρ f (Nn l1 h1)) (c : ED lb ρ h (Nn l2 h2)) : ED lb ρ (fCall minD (fCons f (fCons h fNil))) (fun d => ∃ i, d = .int i ∧ ((l1 ≤ i ∧ i ≤ h1) ∨ (l2 ≤ i ∧ i ≤ h2))) :=
  .call (.cons a (.cons c (.nil (A := (· = [])) rfl))) fun ds st q => by
    obtain ⟨_, _, rfl, ⟨i, rfl, i1, i2⟩, _, _, rfl, ⟨j, rfl, j1, j2⟩, rfl⟩ := q
    refine ⟨_, rfl, ⟨_, rfl, ?_⟩, rfl⟩
    split
    · exact .inr ⟨j1, j2⟩
    · exact .inl ⟨i1, i2⟩
theorem bodyS_ok {lf i : Nat} {nm : Str} {w : Int} {x1 x5 x6 x7 x8 x9 x10 : Option D} (W : Grow lb lf st s (Pn 2) i) (hb : lb < st.length) (hi : i ≤ 100) (hn : bS nm = true) (w1 : 1 ≤ w) (w2 : w ≤ 1000) :
    Ok (bodyS G [some (.ref lb), x1, some (.ref lf), some (.int w), some (.str nm), x5, x6, x7, x8, x9, x10] s) fun q => q.1 = .nx ∧ (∃ x4 x5 x6 x7 x8 x9 x10, q.2.1 = [some (.ref lb), x1, some (.ref lf), some (.int w), x4, x5, x6, x7, x8, x9, x10]) ∧ Grow lb lf st q.2.2 (Pn 2) (i + 1) ∧ ∀ l o, l ≠ lb → l ≠ lf → s[l]? = some o → q.2.2[l]? = some o := by
  have vw : ∀ {ρ : Rho}, ρ[3]? = some (some (.int w)) → ED lb ρ (fV 3) (Nn 1 1000) := fun e => .x e w1 w2
  unfold bodyS
  refine ok_par2 (P := Nn (-1000) 2000) (P' := Nn (-1000) 2000) (ED.sub (ED.take (M := 2001) (hi := 2000) rfl (ED.add (l1 := 2) (h1 := 2000) (ED.mul2 (hi := 1000) (vw rfl) (by decide)) (ED.n (lo := 1) (hi := 1)))) (vw rfl)) (ED.sub (ED.take (M := 2001) (hi := 2000) rfl (ED.add (l1 := 2) (h1 := 2000) (ED.mul2 (hi := 1000) (vw rfl) (by decide)) (ED.n (lo := 1) (hi := 1)))) (vw rfl)) W.go.bg fun a b s1 pa pb g1 => ?_
  refine ok_set (P := Nn 1 1001) (ED.add (ED.n (lo := 1) (hi := 1)) (ED.div3 (hi := 1000) (vw rfl))) g1.bg fun c s2 pc g2 => ?_
  obtain ⟨a, rfl, a1, a2⟩ := pa
  obtain ⟨b, rfl, b1, b2⟩ := pb
  obtain ⟨c, rfl, c1, c2⟩ := pc
  have tk : ∀ {ρ : Rho}, ρ[0]? = some (some (.ref lb)) → ρ[7]? = some (some (.int c)) → ED lb ρ (fFn 2 (fn__law_take G) (fCons (fV 0) (fCons (fV 7) fNil))) (Nn 0 1000) := fun e1 e2 => ED.take (M := 1001) e1 (.x e2 c1 c2)
  have pi : ∀ {d : D}, (∃ i, d = .int i ∧ ((-1000 ≤ i ∧ i ≤ 1000) ∨ (-5000 ≤ i ∧ i ≤ 5000))) → Pn 0 d := fun ⟨i, e, z⟩ => Pn.int (i := 0) (lo := -5000) (hi := 5000) ⟨i, e, by omega, by omega⟩ (by decide) (by decide)
  refine ok_set (P := Pn 1) (ED.tupn (.allC ((ED.mx (l1 := -1000) (h1 := 1000) (l2 := -5000) (h2 := 5000) ((ED.neg (ED.n (lo := 1000) (hi := 1000))).mono fun d ⟨i, e, z1, z2⟩ => ⟨i, e, by omega, by omega⟩) (ED.sub (l1 := -1000) (h1 := 2000) (.x rfl a1 a2) (tk rfl rfl))).mono fun d q => pi q) (.allC ((ED.mn (l1 := -1000) (h1 := 1000) (l2 := -5000) (h2 := 5000) (ED.n) (ED.add (l1 := -1000) (h1 := 2000) (.x rfl b1 b2) (tk rfl rfl))).mono fun d q => pi q) .all0))) g2.bg fun d8 s3 p8 g3 => ?_
  refine ok_set (P := Pn 0) (ED.pn (ED.pick (P := Nn 1 1000000) (.allC ED.n (.allC ED.n (.allC (ED.add (ED.n (lo := 1) (hi := 1)) (ED.take (M := 1000) (hi := 999) rfl (ED.n))) (.allC (ED.add (ED.n (lo := 1) (hi := 1)) (ED.take (M := 1000000) (hi := 999999) rfl (ED.n))) .all0)))) (ED.take (M := 4) rfl ED.n))) g3.bg fun d9 s4 p9 g4 => ?_
  refine ok_set (P := Pn 0) (ED.pn (lo := 1) (hi := 1000) (ED.add (ED.n (lo := 1) (hi := 1)) (ED.take (M := 1000) (hi := 999) rfl (ED.pick (P := Nn 1 1000) (.allC ED.n (.allC ED.n (.allC ED.n .all0))) (ED.take (M := 3) rfl ED.n))))) g4.bg fun d10 s5 p10 g5 => ?_
  have gg := (((g1.trans g2).trans g3).trans g4).trans g5
  have i0 : ∀ {j lo hi : Int}, lo ≤ j → j ≤ hi → -(10 ^ 30) ≤ lo → hi ≤ 10 ^ 30 → Pn 0 (.int j) := fun {j lo hi} h1 h2 h3 h4 => Pn.int (i := 0) ⟨j, rfl, h1, h2⟩ h3 h4
  refine (app_ok (e := ED.tupn (k := 1) (.allC (.v rfl (.str hn)) (.allC (ED.tupn (k := 0) (.allC (.v rfl (i0 a1 a2 (by decide) (by decide))) (.allC (.v rfl (i0 b1 b2 (by decide) (by decide))) .all0))) (.allC (.v rfl (p9.up (by decide))) (.allC (.v rfl p8) (.allC (.v rfl (p10.up (by decide))) .all0)))))) (W.step gg hb) hb rfl hi).mono fun q ⟨e1, e2, e3, e4⟩ => ⟨e1, ?_, e3, fun l o n1 n2 e => e4 l o n1 n2 (gg.ne n1 e)⟩
  rw [e2]
  exact ⟨_, _, _, _, _, _, _, rfl⟩
end
end K01

set_option Elab.async false
set_option linter.all false
set_option maxRecDepth 100000
set_option maxHeartbeats 1000000
namespace K01
open PySem PySem.Spec L2 GxR LG DL
open PyProof.Rows hiding signs cutD
section
variable {G : G0} {lb : Nat} {ρ : Rho} {f h : FE} {fr : FA} {t : FS} {st st' s : Sto} {av : Nat → Prop} {g n m k : Nat} {d : D} {P : D → Prop} {Q : Fl × Rho × Sto → Prop}
def TupOf (P : D → Prop) (d : D) : Prop := ∃ ss, d = .tup ss ∧ ss.length ≤ 8 ∧ ∀ d ∈ ss, P d
theorem nms_ok {e : D} (h : e ∈ nmsD) : ∃ x, e = .str x ∧ bS x = true := by
  simp only [nmsD, List.mem_cons, List.not_mem_nil, or_false] at h
  rcases h with z | z | z | z | z | z | z | z <;> subst z <;> exact ⟨_, rfl, by decide +kernel⟩
theorem stations_spec {most : Int} (b : Bg lb st) (m1 : 1 ≤ most) (m2 : most ≤ 8) : Ok (fn__law_stations G [.ref lb, .int most] st) fun p => TupOf (Pn 2) p.1 ∧ Go lb st p.2 := by
  unfold fn__law_stations
  refine ok_run ?_
  have hb := b.lt
  have g1 : Go lb st (st ++ [O.lst []]) := Go.app b _
  show Ok (sSeq (sSet 2 (fLst fNil)) _ [some (.ref lb), some (.int most), none, none, none, none, none, none, none, none, none] st) _
  rw [e_seq]
  have a1 : sSet 2 (fLst fNil) [some (.ref lb), some (.int most), none, none, none, none, none, none, none, none, none] st = some (.nx, [some (.ref lb), some (.int most), some (.ref st.length), none, none, none, none, none, none, none, none], st ++ [.lst []]) := by simp
  rw [a1]
  show Ok (sSeq (sSet 3 _) _ [some (.ref lb), some (.int most), some (.ref st.length), none, none, none, none, none, none, none, none] (st ++ [.lst []])) _
  refine ok_set (P := Nn 1 1000) (ED.pick (.allC ED.n (.allC ED.n (.allC ED.n (.allC ED.n .all0)))) (ED.take (M := 4) rfl ED.n)) g1.bg fun w s2 pw g2 => ?_
  obtain ⟨w, rfl, w1, w2⟩ := pw
  have W2 : Grow lb st.length st s2 (Pn 2) 0 := (Grow.mk g1 (Nat.le_refl _) ⟨[], at_new, rfl, fun _ h => by cases h⟩ : Grow lb st.length st (st ++ [O.lst []]) (Pn 2) 0).step g2 hb
  show Ok (sSeq (sFor _ _ (bodyS G)) _ [some (.ref lb), some (.int most), some (.ref st.length), some (.int w), none, none, none, none, none, none, none] s2) _
  obtain ⟨⟨x6, s6⟩, q6, ⟨i, rfl, i1, i2⟩, g6⟩ := take_spec (G := G) (m := most) m1 (by omega) (Bg.app g2.bg [O.lst nmsD])
  have hl6 : s6[s2.length]? = some (.lst nmsD) := g6.ne (by have := g2.bg.lt; omega) at_new
  have sl := slice_ref (a := none) (b := some (1 + i)) hl6
  have g3 : Go lb s2 (s6 ++ [O.lst (cutD nmsD none (some (1 + i)))]) := ((Go.app g2.bg [O.lst nmsD]).trans g6).trans (Go.app g6.bg _)
  have it : iSeq (fSl (fLst (fCons (fC (.str "ann")) (fCons (fC (.str "bo")) (fCons (fC (.str "cy")) (fCons (fC (.str "dee")) (fCons (fC (.str "eli")) (fCons (fC (.str "fay")) (fCons (fC (.str "gus")) (fCons (fC (.str "hal")) fNil))))))))) oNone (oSome (fOp addD (fC (.int 1)) (fFn 2 (fn__law_take G) (fCons (fV 0) (fCons (fV 1) fNil)))))) [some (.ref lb), some (.int most), some (.ref st.length), some (.int w), none, none, none, none, none, none, none] s2 = some (cutD nmsD none (some (1 + i)), [(s6.length, cutD nmsD none (some (1 + i)))], s6 ++ [O.lst (cutD nmsD none (some (1 + i)))]) := by
    unfold iSeq
    have l8 : (8 : Nat) ≤ sizeLine := by decide
    have dl : fLst (fCons (fC (.str "ann")) (fCons (fC (.str "bo")) (fCons (fC (.str "cy")) (fCons (fC (.str "dee")) (fCons (fC (.str "eli")) (fCons (fC (.str "fay")) (fCons (fC (.str "gus")) (fCons (fC (.str "hal")) fNil)))))))) [some (.ref lb), some (.int most), some (.ref st.length), some (.int w), none, none, none, none, none, none, none] s2 = some (.ref s2.length, s2 ++ [.lst nmsD]) := by
      simp only [e_lst, e_cons, e_C, e_nil, Option.bind_some, List.length_cons, List.length_nil, Nat.zero_add, Nat.reduceAdd, l8, if_true]
      rfl
    simp only [e_sl, dl, e_oN, e_oS, e_op, e_C, e_fn, e_cons, e_V, e_nil, List.getElem?_cons_succ, List.getElem?_cons_zero, Option.bind_some, List.length_cons, List.length_nil, if_true, q6, e_addI, sl, at_new]
  have lc : (cutD nmsD none (some (1 + i))).length ≤ 8 := Nat.le_trans (cut_hi (by omega)) (Nat.le_trans (Nat.min_le_right _ _) (by decide))
  have W3 := W2.step g3 hb
  have ne1 : s6.length ≠ lb := by have := (Bg.lt g6.bg : lb < s6.length); omega
  have ne2 : s6.length ≠ st.length := by
    obtain ⟨ds, e, _⟩ := W2.ex
    have : st.length < s6.length := at_lt (g6.ne (by have := hb; omega) (at_app e [O.lst nmsD]))
    omega
  have key := for_ok (tg := .one 4) (b := bodyS G) (src := [(s6.length, cutD nmsD none (some (1 + i)))]) (items := cutD nmsD none (some (1 + i)))
    (I := fun j ρ s => j ≤ 8 ∧ (∃ x4 x5 x6 x7 x8 x9 x10, ρ = [some (.ref lb), some (.int most), some (.ref st.length), some (.int w), x4, x5, x6, x7, x8, x9, x10]) ∧ Grow lb st.length st s (Pn 2) j ∧ s[s6.length]? = some (.lst (cutD nmsD none (some (1 + i)))))
    (fun j ρ s h p hp => by rw [List.mem_singleton.mp hp]; exact h.2.2.2)
    (fun j d hd ρ s ⟨j8, ⟨x4, x5, x6, x7, x8, x9, x10, hρ⟩, W, hs⟩ => by
      subst hρ
      obtain ⟨x, rfl, hx⟩ := nms_ok (cut_mem (List.mem_of_getElem? hd))
      have hj : j < (cutD nmsD none (some (1 + i))).length := (List.getElem?_eq_some_iff.mp hd).1
      refine ⟨_, rfl, (bodyS_ok (G := G) (x1 := some (.int most)) (x5 := x5) (x6 := x6) (x7 := x7) (x8 := x8) (x9 := x9) (x10 := x10) W hb (by omega) hx w1 w2).mono fun q ⟨e1, e2, e3, e4⟩ => ⟨e1, by omega, e2, e3, e4 _ _ ne1 ne2 hs⟩⟩)
    _ 0 [some (.ref lb), some (.int most), some (.ref st.length), some (.int w), none, none, none, none, none, none, none] (s6 ++ [O.lst (cutD nmsD none (some (1 + i)))]) rfl (Nat.zero_le _) ⟨by omega, ⟨_, _, _, _, _, _, _, rfl⟩, W3, at_new⟩
  rw [List.drop_zero] at key
  refine ok_last (ρ' := []) (Q' := fun q => (∃ x4 x5 x6 x7 x8 x9 x10, q.2.1 = [some (.ref lb), some (.int most), some (.ref st.length), some (.int w), x4, x5, x6, x7, x8, x9, x10]) ∧ Grow lb st.length st q.2.2 (Pn 2) (cutD nmsD none (some (1 + i))).length) ?_ fun q _ ⟨⟨x4, x5, x6, x7, x8, x9, x10, hρ⟩, W⟩ => ?_
  · unfold sFor
    refine Ok.bind ⟨_, it, key.mono fun q z => ⟨z.1, z.2.2.1, z.2.2.2.1⟩⟩
  · rw [hρ]
    obtain ⟨ds, e, z1, z2⟩ := W.ex
    exact ⟨(.rt (.tup ds), [some (.ref lb), some (.int most), some (.ref st.length), some (.int w), x4, x5, x6, x7, x8, x9, x10], q.2.2), by simp [tuple_ref e], .tup ds, rfl, ⟨ds, rfl, by omega, z2⟩, W.go⟩
def AirD (d : D) : Prop := ∃ ss x, d = .tup [.tup ss, .int x] ∧ ss.length ≤ 8 ∧ (∀ d ∈ ss, Pn 2 d) ∧ 1 ≤ x ∧ x ≤ 1000
theorem air_spec (b : Bg lb st) : Ok (fn__law_air G [.ref lb, .int 8] st) fun p => AirD p.1 ∧ Go lb st p.2 := by
  unfold fn__law_air sb__law_air
  refine ok_run (ok_ret (P := AirD) ?_ b fun d s' pd g => ⟨d, rfl, pd, g⟩)
  refine .tup ((EA.cons (P := TupOf (Pn 2)) (.fn (.cons (.v (P := (· = .ref lb)) rfl rfl) (.cons (.v (P := (· = .int 8)) rfl rfl) (.nil (A := (· = [])) rfl))) fun ds s q b => ?_) (EA.cons (P := Nn 1 1000) (ED.pick (.allC ED.n (.allC ED.n (.allC (ED.add (ED.n (lo := 1) (hi := 1)) (ED.take (M := 50) (hi := 49) rfl ED.n)) .all0))) (ED.take (M := 3) rfl ED.n)) (.nil (A := (· = [])) rfl))).mono fun ds q => ?_)
  · obtain ⟨_, _, rfl, rfl, _, _, rfl, rfl, rfl⟩ := q
    exact ⟨rfl, stations_spec b (by decide) (by decide)⟩
  · obtain ⟨_, _, rfl, ⟨ss, rfl, z1, z2⟩, _, _, rfl, ⟨x, rfl, x1, x2⟩, rfl⟩ := q
    exact ⟨by rw [sizeLine_eq]; simp, ss, x, rfl, z1, z2, x1, x2⟩
theorem tuning_spec {ss : List D} {x : D} (b : Bg lb st) (hz : ss.length ≤ 8) : Ok (fn__law_tuning G [.ref lb, .tup [.tup ss, x], .int 9, .bl true] st) fun p => Pn 1 p.1 ∧ Go lb st p.2 := by
  unfold fn__law_tuning sb__law_tuning
  refine ok_run ?_
  have hb := b.lt
  have g1 : Go lb st (st ++ [O.lst []]) := Go.app b _
  show Ok (sSeq (sSet 4 (fLst fNil)) _ [some (.ref lb), some (.tup [.tup ss, x]), some (.int 9), some (.bl true), none, none] st) _
  rw [e_seq]
  have a1 : sSet 4 (fLst fNil) [some (.ref lb), some (.tup [.tup ss, x]), some (.int 9), some (.bl true), none, none] st = some (.nx, [some (.ref lb), some (.tup [.tup ss, x]), some (.int 9), some (.bl true), some (.ref st.length), none], st ++ [.lst []]) := by simp
  rw [a1]
  show Ok (sSeq (sFor _ _ _) _ [some (.ref lb), some (.tup [.tup ss, x]), some (.int 9), some (.bl true), some (.ref st.length), none] (st ++ [.lst []])) _
  have W1 : Grow lb st.length st (st ++ [O.lst []]) (Pn 0) 0 := ⟨g1, Nat.le_refl _, ⟨[], at_new, rfl, fun _ h => by cases h⟩⟩
  have el : ∀ {ρ : Rho}, ρ[0]? = some (some (.ref lb)) → ρ[2]? = some (some (.int 9)) → ρ[3]? = some (some (.bl true)) → ED lb ρ (fIf (fTAnd (fTst (fV 3)) (fTst (fOp eqD (fFn 2 (fn__law_take G) (fCons (fV 0) (fCons (fC (.int 4)) fNil))) (fC (.int 0))))) (fC (.int 0)) (fOp addD (fC (.int 1)) (fFn 2 (fn__law_take G) (fCons (fV 0) (fCons (fV 2) fNil))))) (Pn 0) := fun {ρ} e0 e2 e3 st b => by
    obtain ⟨⟨x6, s6⟩, q6, ⟨i, rfl, i1, i2⟩, g6⟩ := take_spec (G := G) (m := 4) (by decide) (by decide) b
    have c : fTAnd (fTst (fV 3)) (fTst (fOp eqD (fFn 2 (fn__law_take G) (fCons (fV 0) (fCons (fC (.int 4)) fNil))) (fC (.int 0)))) ρ st = some (i == 0, s6) := by
      simp only [e_tand, e_tst, e_V, e3, Option.bind_some, e_asB, if_true, e_op, e_fn, e_cons, e0, e_C, e_nil, List.length_cons, List.length_nil, q6, eqI]
    have tl : ED lb ρ (fOp addD (fC (.int 1)) (fFn 2 (fn__law_take G) (fCons (fV 0) (fCons (fV 2) fNil)))) (Pn 0) := ED.pn (lo := 1) (hi := 9) (ED.add (ED.n (lo := 1) (hi := 1)) (ED.take (M := 9) (hi := 8) e0 (.x e2 (by decide) (by decide))))
    rw [e_ifx, c]
    simp only [Option.bind_some]
    cases i == 0 with
    | true => exact ⟨(.int 0, s6), rfl, Pn.by (d := .int 0) (by decide +kernel), g6⟩
    | false =>
      simp only [Bool.false_eq_true, if_false]
      exact (tl s6 g6.bg).mono fun p q => ⟨q.1, g6.trans q.2⟩
  have key := for_ok (tg := .one 5) (b := sExpr (fApp (fV 4) (fIf (fTAnd (fTst (fV 3)) (fTst (fOp eqD (fFn 2 (fn__law_take G) (fCons (fV 0) (fCons (fC (.int 4)) fNil))) (fC (.int 0))))) (fC (.int 0)) (fOp addD (fC (.int 1)) (fFn 2 (fn__law_take G) (fCons (fV 0) (fCons (fV 2) fNil))))))) (src := []) (items := ss)
    (I := fun j ρ s => (∃ x5, ρ = [some (.ref lb), some (.tup [.tup ss, x]), some (.int 9), some (.bl true), some (.ref st.length), x5]) ∧ Grow lb st.length st s (Pn 0) j ∧ j ≤ 8)
    (fun j ρ s h p hp => by cases hp)
    (fun j d hd ρ s ⟨⟨x5, hρ⟩, W, hj⟩ => by
      subst hρ
      have hj2 : j < ss.length := (List.getElem?_eq_some_iff.mp hd).1
      refine ⟨_, rfl, (app_ok (e := el rfl rfl rfl) W hb rfl (by omega)).mono fun q ⟨e1, e2, e3, e4⟩ => ⟨e1, ⟨_, e2⟩, e3, by omega⟩⟩)
    _ 0 [some (.ref lb), some (.tup [.tup ss, x]), some (.int 9), some (.bl true), some (.ref st.length), none] (st ++ [.lst []]) rfl (Nat.zero_le _) ⟨⟨_, rfl⟩, W1, by omega⟩
  rw [List.drop_zero] at key
  have it : iSeq (fOp (ixG G) (fV 1) (fC (.int 0))) [some (.ref lb), some (.tup [.tup ss, x]), some (.int 9), some (.bl true), some (.ref st.length), none] (st ++ [.lst []]) = some (ss, [], st ++ [.lst []]) := by
    unfold iSeq
    simp
  refine ok_last (ρ' := []) (Q' := fun q => (∃ x5, q.2.1 = [some (.ref lb), some (.tup [.tup ss, x]), some (.int 9), some (.bl true), some (.ref st.length), x5]) ∧ Grow lb st.length st q.2.2 (Pn 0) ss.length) ?_ fun q _ ⟨⟨x5, hρ⟩, W⟩ => ?_
  · unfold sFor
    exact Ok.bind ⟨_, it, key.mono fun q z => ⟨z.1, z.2.1, z.2.2.1⟩⟩
  · rw [hρ]
    obtain ⟨ds, e, z1, z2⟩ := W.ex
    exact ⟨(.rt (.tup ds), [some (.ref lb), some (.tup [.tup ss, x]), some (.int 9), some (.bl true), some (.ref st.length), x5], q.2.2), by simp [tuple_ref e], .tup ds, rfl, Pn.tup (by omega) z2, W.go⟩
end
end K01

set_option Elab.async false
set_option linter.all false
set_option maxRecDepth 100000
set_option maxHeartbeats 1000000
namespace K01
open PySem PySem.Spec L2 GxR LG DL
open PyProof.Rows hiding signs cutD
section
variable {G : G0} {lb : Nat} {ρ : Rho} {f h : FE} {fr : FA} {t : FS} {st st' s : Sto} {av : Nat → Prop} {g n m : Nat} {d : D} {P : D → Prop} {Q : Fl × Rho × Sto → Prop}
theorem log2_mid {i : Int} (h0 : 0 ≤ i) (h1 : i < 1000000000000000000) : i.natAbs.log2 < 64 := by
  by_cases hz : i.natAbs = 0
  · rw [hz]; decide
  · exact (Nat.log2_lt hz).mpr (by omega)
theorem bag_new {x y : Int} (hx : 0 ≤ x) (hy : 0 ≤ y) (hz : y < 2147483648) : Bg st.length (st ++ [.lst [.int x, .int y]]) := ⟨x, y, at_new, hx, hy, hz⟩
theorem bag_spec {k : Int} (k0 : 0 ≤ k) (k1 : k ≤ 30) : Ok (fn__law_bag G [.scr, .int k] st) fun p => p.1 = .ref st.length ∧ ∃ o, p.2 = st ++ [o] ∧ Bg st.length p.2 := by
  unfold fn__law_bag sb__law_bag
  have tl : ∀ {c : Int}, 0 ≤ c → Ok (sSeq (sIf (fTst (fOp ltD (fV 2) (fOp powD (fC (.int 10)) (fC (.int 18))))) (sRet (fLst (fCons (fC (.int 0)) (fCons (fOp addD (fC (.int 1)) (fOp modD (fOp addD (fOp mulD (fV 2) (fC (.int 7919))) (fOp mulD (fC (.int 104729)) (fV 1))) (fC (.int 2147483646)))) fNil)))) sNext)
    (sRet (fLst (fCons (fV 2) (fCons (fOp addD (fC (.int 1)) (fOp modD (fOp addD (fV 2) (fV 1)) (fC (.int 2147483646)))) fNil)))) [some .scr, some (.int k), some (.int c)] st) fun p => ∃ x, p.1 = .rt x ∧ (x = .ref st.length ∧ ∃ o, p.2.2 = st ++ [o] ∧ Bg st.length p.2.2) := fun {c} hc => by
    have l2 : (2 : Nat) ≤ sizeLine := by decide
    by_cases hs : c < 1000000000000000000
    · have q := log2_mid hc hs
      have w1 : Nat.log2 7919 < 64 := by decide
      have w2 : Nat.log2 104729 < 64 := by decide
      have w3 := log2_small (i := k) k0 (by omega)
      have m1 : c.natAbs.log2 + Nat.log2 7919 < 1000000 := by omega
      have m2 : Nat.log2 104729 + k.natAbs.log2 < 1000000 := by omega
      have r1 := Int.emod_nonneg (c * 7919 + 104729 * k) (show (2147483646 : Int) ≠ 0 by decide)
      have r2 := Int.emod_lt_of_pos (c * 7919 + 104729 * k) (show (0 : Int) < 2147483646 by decide)
      refine ⟨(.rt (.ref st.length), [some .scr, some (.int k), some (.int c)], st ++ [.lst [.int 0, .int (1 + (c * 7919 + 104729 * k) % 2147483646)]]), ?_, _, rfl, rfl, _, rfl, bag_new (by decide) (by omega) (by omega)⟩
      simp [hs, m1, m2, l2]
    · have r1 := Int.emod_nonneg (c + k) (show (2147483646 : Int) ≠ 0 by decide)
      have r2 := Int.emod_lt_of_pos (c + k) (show (0 : Int) < 2147483646 by decide)
      refine ⟨(.rt (.ref st.length), [some .scr, some (.int k), some (.int c)], st ++ [.lst [.int c, .int (1 + (c + k) % 2147483646)]]), ?_, _, rfl, rfl, _, rfl, bag_new hc (by omega) (by omega)⟩
      simp [hs, l2]
  refine ok_run ?_
  have ls : lenD G [.scr] st = some (.int G.ns.length, st) := rfl
  by_cases hk : k < G.ns.length
  · obtain ⟨z, a1, _, _⟩ := atI_lt (l := G.ns) k0 hk
    have ix : ixG G .scr (.int k) st = some (.int z, st) := by
      show Option.map _ (atI G.ns k) = _
      rw [a1]; rfl
    refine Ok.eq (tl (c := if z < 0 then -z else z) (by split <;> omega)) ?_
    have ab : absD [.int z] st = some (.int (if z < 0 then -z else z), st) := rfl
    generalize (if z < 0 then -z else z) = c at ab
    simp only [List.map_cons, List.map_nil, List.length_cons, List.length_nil, List.cons_append, List.nil_append]
    rw [e_seq]
    show Option.bind (sSet 2 (fC (.int 0)) [some .scr, some (.int k), none] st) _ = _
    have s1 : sSet 2 (fC (.int 0)) [some .scr, some (.int k), none] st = some (.nx, [some .scr, some (.int k), some (.int 0)], st) := rfl
    rw [s1]
    show sSeq _ _ [some .scr, some (.int k), some (.int 0)] st = _
    rw [e_seq]
    have s2 : sIf (fTst (fOp ltD (fV 1) (fCall (lenD G) (fCons (fV 0) fNil)))) (sSet 2 (fCall absD (fCons (fOp (ixG G) (fV 0) (fV 1)) fNil))) sNext [some .scr, some (.int k), some (.int 0)] st = some (.nx, [some .scr, some (.int k), some (.int c)], st) := by simp [ls, hk, ix, ab]
    rw [s2]
    rfl
  · refine Ok.eq (tl (c := 0) (by decide)) ?_
    simp only [List.map_cons, List.map_nil, List.length_cons, List.length_nil, List.cons_append, List.nil_append]
    rw [e_seq]
    show Option.bind (sSet 2 (fC (.int 0)) [some .scr, some (.int k), none] st) _ = _
    have s1 : sSet 2 (fC (.int 0)) [some .scr, some (.int k), none] st = some (.nx, [some .scr, some (.int k), some (.int 0)], st) := rfl
    rw [s1]
    show sSeq _ _ [some .scr, some (.int k), some (.int 0)] st = _
    rw [e_seq]
    have s2 : sIf (fTst (fOp ltD (fV 1) (fCall (lenD G) (fCons (fV 0) fNil)))) (sSet 2 (fCall absD (fCons (fOp (ixG G) (fV 0) (fV 1)) fNil))) sNext [some .scr, some (.int k), some (.int 0)] st = some (.nx, [some .scr, some (.int k), some (.int 0)], st) := by simp [ls, hk]
    rw [s2]
    rfl
end
end K01

set_option Elab.async false
set_option linter.all false
set_option maxRecDepth 100000
set_option maxHeartbeats 1000000
namespace K01
open PySem PySem.Spec L2 GxR LG DL
open PyProof.Rows hiding signs cutD
section
variable {G : G0} {lb : Nat} {ρ : Rho} {f h : FE} {fa fb : FE} {fr : FA} {t : FS} {st st' s : Sto} {av : Nat → Prop} {g n m : Nat} {d e : D} {P : D → Prop} {Q : Fl × Rho × Sto → Prop} {b c : Bool}
theorem ne_same (h1 : Pr (fa ρ s) s b) (h2 : ∀ more, Pr (fb ρ (s ++ more)) (s ++ more) b) : PrT (fTst (fOp neD fa fb) ρ s) s false := by
  obtain ⟨m1, e1⟩ := h1
  obtain ⟨m2, e2⟩ := h2 m1
  exact ⟨m1 ++ m2, by simp [e1, e2, neB]⟩
theorem pr_fn2 {fn : HA} {i j : Nat} (e1 : ρ[i]? = some (some d)) (e2 : ρ[j]? = some (some e)) (h : Pr (fn [d, e] s) s b) : Pr (fFn 2 fn (fCons (fV i) (fCons (fV j) fNil)) ρ s) s b := by
  obtain ⟨m, h⟩ := h
  exact ⟨m, by simp [e1, e2, h]⟩
noncomputable def bodyT (G : G0) : FS := (sSeq (sIf (fTOr (fTst (fOp neD (fFn 1 (fn_are_stations G) (fCons (fV 8) fNil)) (fFn 1 (fn__law_are_stations G) (fCons (fV 8) fNil)))) (fTst (fOp neD (fFn 1 (fn_is_air G) (fCons (fTup (fCons (fV 8) (fCons (fC (.int 5)) fNil))) fNil)) (fFn 1 (fn__law_is_air G) (fCons (fTup (fCons (fV 8) (fCons (fC (.int 5)) fNil))) fNil))))) (sRet (fC (.bl false))) sNext)
    (sIf (fTOr (fTst (fOp neD (fFn 2 (fn_is_tuning G) (fCons (fV 3) (fCons (fV 8) fNil))) (fFn 2 (fn__law_is_tuning G) (fCons (fV 3) (fCons (fV 8) fNil))))) (fTst (fOp neD (fFn 1 (fn_is_air G) (fCons (fV 8) fNil)) (fFn 1 (fn__law_is_air G) (fCons (fV 8) fNil))))) (sRet (fC (.bl false))) sNext))
theorem bodyT_ok {ss : List D} {x : D} (h3 : ρ[3]? = some (some (.tup [.tup ss, x]))) (h8 : ρ[8]? = some (some d)) (h : Dn s av g n d) (hg : g ≤ 7) (hn : n ≤ 50) : Gd (bodyT G ρ s) ρ s false := by
  have tp : ∀ s, fTup (fCons (fV 8) (fCons (fC (.int 5)) fNil)) ρ s = some (.tup [d, .int 5], s) := fun s => by
    have l2 : (2 : Nat) ≤ sizeLine := by decide
    simp [h8, l2]
  have ht : Dn s av g (n + 1) (.tup [d, .int 5]) := by
    simp only [Dn]
    refine ⟨by simp; omega, fun e he => ?_⟩
    simp only [List.mem_cons, List.not_mem_nil, or_false] at he
    rcases he with z | z <;> subst z
    · exact h
    · exact int_dn (by have : (5 : Int).natAbs = 5 := rfl; omega)
  unfold bodyT
  refine gd_seq (c1 := false) (c2 := false) (guard_run (prt_or (a := false) (b := false) (ne_same (pr_fn h8 (stations_eq h hg)) fun m => pr_fn h8 (lstations_eq (h.app m) hg)) fun _ m => ne_same (pr_fnx (tp _) (air_eq (ht.app m) hg)) fun m2 => pr_fnx (tp _) (lair_eq ((ht.app m).app m2) hg))) fun _ m =>
    guard_run (prt_or (a := false) (b := false) (ne_same (pr_fn2 h3 h8 (tuning_eq (h.app m))) fun m2 => pr_fn2 h3 h8 (ltuning_eq ((h.app m).app m2) hg (by omega))) fun _ m2 => ne_same (pr_fn h8 (air_eq ((h.app m).app m2) hg)) fun m3 => pr_fn h8 (lair_eq (((h.app m).app m2).app m3) hg))
/-- three truths in a list -/
theorem three_ok {f1 f2 f3 : FE} {b1 b2 b3 : Bool} (h1 : Pr (f1 ρ s) s b1) (h2 : ∀ more, Pr (f2 ρ (s ++ more)) (s ++ more) b2) (h3 : ∀ more, Pr (f3 ρ (s ++ more)) (s ++ more) b3) :
    ∃ more, fLst (fCons f1 (fCons f2 (fCons f3 fNil))) ρ s = some (.ref (s ++ more).length, (s ++ more) ++ [.lst [.bl b1, .bl b2, .bl b3]]) := by
  obtain ⟨m1, e1⟩ := h1
  obtain ⟨m2, e2⟩ := h2 m1
  obtain ⟨m3, e3⟩ := h3 (m1 ++ m2)
  have l3 : (3 : Nat) ≤ sizeLine := by decide
  rw [← List.append_assoc] at e3
  refine ⟨m1 ++ m2 ++ m3, ?_⟩
  simp only [e_lst, e_cons, e_nil, e1, e2, e3, Option.bind_some, List.length_cons, List.length_nil, Nat.zero_add, Nat.reduceAdd, l3, if_true]
  simp [List.append_assoc]
theorem pd_list {l : Nat} {ds : List D} {ps : List PyData} (hl : s[l]? = some (.lst ds)) (e : toPDs 3999 s ds = some ps) : toPD 4000 s (.ref l) = some (.list ps) := by
  show (match s[l]? with
    | some (.lst ds) => (toPDs 3999 s ds).map PyData.list
    | none => none) = _
  rw [hl]; simp only [e, Option.map_some]
theorem ne_three {l m : Nat} {b1 b2 b3 : Bool} (hl : s[l]? = some (.lst [.bl b1, .bl b2, .bl b3])) (hm : s[m]? = some (.lst [.bl b1, .bl b2, .bl b3])) : neD (.ref l) (.ref m) s = some (.bl false, s) := by
  have e : toPDs 3999 s [.bl b1, .bl b2, .bl b3] = some [.bool b1, .bool b2, .bool b3] := by simp [toPDs, toPD]
  unfold neD eqW
  rw [pd_list hl e, pd_list hm e]
  simp only [Option.bind_some]
  have sh : SeqAt.shaped (.list [.bool b1, .bool b2, .bool b3]) = true := by cases b1 <;> cases b2 <;> cases b3 <;> decide
  rw [if_pos ⟨sh, sh⟩]
  cases b1 <;> cases b2 <;> cases b3 <;> rfl
theorem ne_none {l m : Nat} (hl : s[l]? = some (.lst [])) (hm : s[m]? = some (.lst [])) : neD (.ref l) (.ref m) s = some (.bl false, s) := by
  have e : toPDs 3999 s [] = some [] := by simp [toPDs]
  unfold neD eqW
  rw [pd_list hl e, pd_list hm e]
  rfl
abbrev mkR (x1 x2 x3 x4 x5 x6 x7 x8 x9 x10 x11 x12 : Option D) : Rho := [some .scr, x1, x2, x3, x4, x5, x6, x7, x8, x9, x10, x11, x12]
noncomputable def bodyU (G : G0) : FS := (sSeq (sSet 10 (fLst (fCons (fFn 1 (fn_are_stations G) (fCons (fV 5) fNil)) (fCons (fFn 1 (fn_is_air G) (fCons (fV 6) fNil)) (fCons (fFn 2 (fn_is_tuning G) (fCons (fV 3) (fCons (fV 7) fNil))) fNil)))))
    (sSeq (sIf (fTst (fOp neD (fV 10) (fLst (fCons (fFn 1 (fn__law_are_stations G) (fCons (fV 5) fNil)) (fCons (fFn 1 (fn__law_is_air G) (fCons (fV 6) fNil)) (fCons (fFn 2 (fn__law_is_tuning G) (fCons (fV 3) (fCons (fV 7) fNil))) fNil)))))) (sRet (fC (.bl false))) sNext)
    (sSeq (sIf (fTst (fOp neD (fLc (iSeq (fV 10)) (.one 12) (fTNot (fTst (fCall isiD (fCons (fV 12) (fCons (fC (.ty "bool")) fNil))))) (fV 12) [12]) (fLst fNil))) (sRet (fC (.bl false))) sNext)
    (sSeq (sPar [5, 6] (fCons (fFn 2 (fn__law_spoilt G 40) (fCons (fV 2) (fCons (fV 5) fNil))) (fCons (fFn 2 (fn__law_spoilt G 40) (fCons (fV 2) (fCons (fV 6) fNil))) fNil)))
    (sSet 7 (fFn 2 (fn__law_spoilt G 40) (fCons (fV 2) (fCons (fV 7) fNil))))))))
theorem bodyU_ok {ss : List D} {x a5 a6 a7 : D} {x1 x4 x8 x9 x10 x11 x12 : Option D} (bg : Bg lb s) (ha : av lb) (lo : Lo av s) (h5 : Dn s av g n a5) (h6 : Dn s av g n a6) (h7 : Dn s av g n a7) (hg : g ≤ 6) (hn : n < 40) :
    Ok (bodyU G (mkR x1 (some (.ref lb)) (some (.tup [.tup ss, x])) x4 (some a5) (some a6) (some a7) x8 x9 x10 x11 x12) s) fun q => q.1 = .nx ∧ (∃ b5 b6 b7 y10 y12, q.2.1 = mkR x1 (some (.ref lb)) (some (.tup [.tup ss, x])) x4 (some b5) (some b6) (some b7) x8 x9 y10 x11 y12 ∧ Dn q.2.2 av (g + 1) (n + 4) b5 ∧ Dn q.2.2 av (g + 1) (n + 4) b6 ∧ Dn q.2.2 av (g + 1) (n + 4) b7) ∧ Go lb s q.2.2 := by
  unfold bodyU
  obtain ⟨m1, e1⟩ := three_ok (ρ := mkR x1 (some (.ref lb)) (some (.tup [.tup ss, x])) x4 (some a5) (some a6) (some a7) x8 x9 x10 x11 x12) (s := s) (pr_fn (i := 5) rfl (stations_eq (G := G) h5 (by omega))) (fun m => pr_fn (i := 6) rfl (air_eq (G := G) (h6.app m) (by omega))) (fun m => pr_fn2 (i := 3) (j := 7) rfl rfl (tuning_eq (G := G) (h7.app m)))
  generalize hb1 : stationsB a5 = b1 at e1
  generalize hb2 : airB a6 = b2 at e1
  generalize hb3 : tunB ss.length a7 = b3 at e1
  let s1 : Sto := (s ++ m1) ++ [.lst [.bl b1, .bl b2, .bl b3]]
  have d1 : ∀ {d : D}, Dn s av g n d → Dn s1 av g n d := fun h => (h.app _).app _
  obtain ⟨m2, e2⟩ := three_ok (ρ := mkR x1 (some (.ref lb)) (some (.tup [.tup ss, x])) x4 (some a5) (some a6) (some a7) x8 x9 (some (.ref (s ++ m1).length)) x11 x12) (s := s1) (pr_fn (i := 5) rfl (lstations_eq (G := G) (d1 h5) (by omega))) (fun m => pr_fn (i := 6) rfl (lair_eq (G := G) ((d1 h6).app m) (by omega))) (fun m => pr_fn2 (i := 3) (j := 7) rfl rfl (ltuning_eq (G := G) ((d1 h7).app m) (by omega) (by omega)))
  rw [hb1, hb2, hb3] at e2
  have l1 : s1[(s ++ m1).length]? = some (.lst [.bl b1, .bl b2, .bl b3]) := at_new
  let s2 : Sto := (s1 ++ m2) ++ [.lst [.bl b1, .bl b2, .bl b3]]
  have l2 : s2[(s ++ m1).length]? = some (.lst [.bl b1, .bl b2, .bl b3]) := at_app (at_app l1 _) _
  have n1 : neD (.ref (s ++ m1).length) (.ref (s1 ++ m2).length) s2 = some (.bl false, s2) := ne_three l2 at_new
  have lc : fLc (iSeq (fV 10)) (.one 12) (fTNot (fTst (fCall isiD (fCons (fV 12) (fCons (fC (.ty "bool")) fNil))))) (fV 12) [12] (mkR x1 (some (.ref lb)) (some (.tup [.tup ss, x])) x4 (some a5) (some a6) (some a7) x8 x9 (some (.ref (s ++ m1).length)) x11 x12) s2 = some (.ref s2.length, s2 ++ [.lst []]) := by
    have e := lcD_ok (tg := .one 12) (tt := fTNot (fTst (fCall isiD (fCons (fV 12) (fCons (fC (.ty "bool")) fNil))))) (fe := fV 12) (src := [((s ++ m1).length, [.bl b1, .bl b2, .bl b3])]) (ρ := mkR x1 (some (.ref lb)) (some (.tup [.tup ss, x])) x4 (some a5) (some a6) (some a7) x8 x9 (some (.ref (s ++ m1).length)) x11 none) (T := fun _ => false) (F := id) (st0 := s2) (fun p hp => by rw [List.mem_singleton.mp hp]; exact l2) (items := [.bl b1, .bl b2, .bl b3]) (acc := []) (by rw [sizeLine_eq]; simp) fun d hd => by
      obtain ⟨bb, rfl⟩ : ∃ bb, d = .bl bb := by
        simp only [List.mem_cons, List.not_mem_nil, or_false] at hd
        rcases hd with z | z | z <;> exact ⟨_, z⟩
      refine ⟨mkR x1 (some (.ref lb)) (some (.tup [.tup ss, x])) x4 (some a5) (some a6) (some a7) x8 x9 (some (.ref (s ++ m1).length)) x11 (some (.bl bb)), rfl, fun acc => ⟨?_, fun z => by cases z⟩⟩
      have ib := isi_bool (st := s2 ++ [O.lst acc]) (d := .bl bb) trivial
      simp [ib, isBlD]
    unfold fLc
    have it : iSeq (fV 10) (mkR x1 (some (.ref lb)) (some (.tup [.tup ss, x])) x4 (some a5) (some a6) (some a7) x8 x9 (some (.ref (s ++ m1).length)) x11 x12) s2 = some ([.bl b1, .bl b2, .bl b3], [((s ++ m1).length, [.bl b1, .bl b2, .bl b3])], s2) := by
      unfold iSeq
      show (match s2[(s ++ m1).length]? with
        | some (.lst ds) => some (ds, [((s ++ m1).length, ds)], s2)
        | none => none) = _
      rw [l2]
    rw [it]
    show Option.bind (lcD _ _ _ _ _ (mkR x1 (some (.ref lb)) (some (.tup [.tup ss, x])) x4 (some a5) (some a6) (some a7) x8 x9 (some (.ref (s ++ m1).length)) x11 none) _ _) _ = _
    rw [e]
    rfl
  let s4 : Sto := (s2 ++ [.lst []]) ++ [.lst []]
  have n2 : neD (.ref s2.length) (.ref (s2 ++ [O.lst []]).length) s4 = some (.bl false, s4) := ne_none (at_app at_new _) at_new
  have g4 : Go lb s s4 := by
    have : s4 = s ++ (m1 ++ [O.lst [.bl b1, .bl b2, .bl b3]] ++ m2 ++ [O.lst [.bl b1, .bl b2, .bl b3]] ++ [O.lst []] ++ [O.lst []]) := by simp [s4, s2, s1]
    rw [this]; exact Go.app bg _
  obtain ⟨⟨y5, s5⟩, q5, z5, g5⟩ := spoilt_spec (G := G) (lb := lb) n 40 hn g av s4 a5 hg g4.bg ha (lo.go g4) (h5.go ha g4)
  obtain ⟨⟨y6, s6⟩, q6, z6, g6⟩ := spoilt_spec (G := G) (lb := lb) n 40 hn g av s5 a6 hg g5.bg ha ((lo.go g4).go g5) (h6.go ha (g4.trans g5))
  obtain ⟨⟨y7, s7⟩, q7, z7, g7⟩ := spoilt_spec (G := G) (lb := lb) n 40 hn g av s6 a7 hg g6.bg ha (((lo.go g4).go g5).go g6) (h7.go ha ((g4.trans g5).trans g6))
  refine ⟨(.nx, mkR x1 (some (.ref lb)) (some (.tup [.tup ss, x])) x4 (some y5) (some y6) (some y7) x8 x9 (some (.ref (s ++ m1).length)) x11 x12, s7), ?_, rfl, ⟨y5, y6, y7, some (.ref (s ++ m1).length), x12, rfl, z5.go ha (g6.trans g7), z6.go ha g7, z7⟩, ((g4.trans g5).trans g6).trans g7⟩
  rw [e_seq, e_set, e1]
  show sSeq _ _ (mkR x1 (some (.ref lb)) (some (.tup [.tup ss, x])) x4 (some a5) (some a6) (some a7) x8 x9 (some (.ref (s ++ m1).length)) x11 x12) s1 = _
  have t1 : sIf (fTst (fOp neD (fV 10) (fLst (fCons (fFn 1 (fn__law_are_stations G) (fCons (fV 5) fNil)) (fCons (fFn 1 (fn__law_is_air G) (fCons (fV 6) fNil)) (fCons (fFn 2 (fn__law_is_tuning G) (fCons (fV 3) (fCons (fV 7) fNil))) fNil)))))) (sRet (fC (.bl false))) sNext (mkR x1 (some (.ref lb)) (some (.tup [.tup ss, x])) x4 (some a5) (some a6) (some a7) x8 x9 (some (.ref (s ++ m1).length)) x11 x12) s1 = some (.nx, mkR x1 (some (.ref lb)) (some (.tup [.tup ss, x])) x4 (some a5) (some a6) (some a7) x8 x9 (some (.ref (s ++ m1).length)) x11 x12, s2) := by
    rw [e_if, e_tst, e_op]
    show Option.bind (Option.bind (Option.bind (fLst _ _ s1) fun q => neD (.ref (s ++ m1).length) q.1 q.2) _) _ = _
    rw [e2]
    show Option.bind (Option.bind (neD (.ref (s ++ m1).length) (.ref (s1 ++ m2).length) s2) _) _ = _
    rw [n1]
    rfl
  rw [e_seq, t1]
  show sSeq _ _ (mkR x1 (some (.ref lb)) (some (.tup [.tup ss, x])) x4 (some a5) (some a6) (some a7) x8 x9 (some (.ref (s ++ m1).length)) x11 x12) s2 = _
  have t2 : sIf (fTst (fOp neD (fLc (iSeq (fV 10)) (.one 12) (fTNot (fTst (fCall isiD (fCons (fV 12) (fCons (fC (.ty "bool")) fNil))))) (fV 12) [12]) (fLst fNil))) (sRet (fC (.bl false))) sNext (mkR x1 (some (.ref lb)) (some (.tup [.tup ss, x])) x4 (some a5) (some a6) (some a7) x8 x9 (some (.ref (s ++ m1).length)) x11 x12) s2 = some (.nx, mkR x1 (some (.ref lb)) (some (.tup [.tup ss, x])) x4 (some a5) (some a6) (some a7) x8 x9 (some (.ref (s ++ m1).length)) x11 x12, s4) := by
    rw [e_if, e_tst, e_op, lc]
    show Option.bind (Option.bind (neD (.ref s2.length) (.ref (s2 ++ [O.lst []]).length) s4) _) _ = _
    rw [n2]
    rfl
  rw [e_seq, t2]
  show sSeq _ _ (mkR x1 (some (.ref lb)) (some (.tup [.tup ss, x])) x4 (some a5) (some a6) (some a7) x8 x9 (some (.ref (s ++ m1).length)) x11 x12) s4 = _
  have t3 : sPar [5, 6] (fCons (fFn 2 (fn__law_spoilt G 40) (fCons (fV 2) (fCons (fV 5) fNil))) (fCons (fFn 2 (fn__law_spoilt G 40) (fCons (fV 2) (fCons (fV 6) fNil))) fNil)) (mkR x1 (some (.ref lb)) (some (.tup [.tup ss, x])) x4 (some a5) (some a6) (some a7) x8 x9 (some (.ref (s ++ m1).length)) x11 x12) s4 = some (.nx, mkR x1 (some (.ref lb)) (some (.tup [.tup ss, x])) x4 (some y5) (some y6) (some a7) x8 x9 (some (.ref (s ++ m1).length)) x11 x12, s6) := by
    simp only [e_par, e_cons, e_fn, e_V, e_nil, mkR, List.getElem?_cons_succ, List.getElem?_cons_zero, Option.bind_some, List.length_cons, List.length_nil, if_true, q5, q6]
    rfl
  have t4 : sSet 7 (fFn 2 (fn__law_spoilt G 40) (fCons (fV 2) (fCons (fV 7) fNil))) (mkR x1 (some (.ref lb)) (some (.tup [.tup ss, x])) x4 (some y5) (some y6) (some a7) x8 x9 (some (.ref (s ++ m1).length)) x11 x12) s6 = some (.nx, mkR x1 (some (.ref lb)) (some (.tup [.tup ss, x])) x4 (some y5) (some y6) (some y7) x8 x9 (some (.ref (s ++ m1).length)) x11 x12, s7) := by
    simp only [e_set, e_fn, e_cons, e_V, e_nil, mkR, List.getElem?_cons_succ, List.getElem?_cons_zero, Option.bind_some, List.length_cons, List.length_nil, if_true, q7]
    rfl
  rw [e_seq, t3]
  exact t4
end
end K01

set_option Elab.async false
set_option linter.all false
set_option maxRecDepth 100000
set_option maxHeartbeats 1000000
namespace K01
open PySem PySem.Spec L2 GxR LG DL
open PyProof.Rows hiding signs cutD
section
variable {G : G0} {lb : Nat} {ρ : Rho} {f h : FE} {fa fb : FE} {fr : FA} {t : FS} {st st' s : Sto} {av : Nat → Prop} {g n m : Nat} {d e : D} {P : D → Prop} {Q : Fl × Rho × Sto → Prop} {b c : Bool}
def abcD : List D := [.str "a", .str "b", .str "c", .str "d", .str "e", .str "f", .str "g", .str "h", .str "i"]
def stD (d : D) : D := .tup [d, .tup [.int 0, .int 0], .int 1, .tup [.int 0, .int 0], .int 1]
def nineD : D := .tup (abcD.map stD)
noncomputable def fNine : FE := (fCall tupleD (fCons (fLc (iSeq (fLst (fCons (fC (.str "a")) (fCons (fC (.str "b")) (fCons (fC (.str "c")) (fCons (fC (.str "d")) (fCons (fC (.str "e")) (fCons (fC (.str "f")) (fCons (fC (.str "g")) (fCons (fC (.str "h")) (fCons (fC (.str "i")) fNil))))))))))) (.one 11) fYes (fTup (fCons (fV 11) (fCons (fTup (fCons (fC (.int 0)) (fCons (fC (.int 0)) fNil))) (fCons (fC (.int 1)) (fCons (fTup (fCons (fC (.int 0)) (fCons (fC (.int 0)) fNil))) (fCons (fC (.int 1)) fNil)))))) [11]) fNil))
theorem nine_eq {x1 x2 x3 x4 x5 x6 x7 x8 x9 x10 x11 x12 : Option D} : ∃ more, fNine (mkR x1 x2 x3 x4 x5 x6 x7 x8 x9 x10 x11 x12) s = some (nineD, s ++ more) := by
  have l9 : (9 : Nat) ≤ sizeLine := by decide
  have l5 : (5 : Nat) ≤ sizeLine := by decide
  have l2 : (2 : Nat) ≤ sizeLine := by decide
  have dl : fLst (fCons (fC (.str "a")) (fCons (fC (.str "b")) (fCons (fC (.str "c")) (fCons (fC (.str "d")) (fCons (fC (.str "e")) (fCons (fC (.str "f")) (fCons (fC (.str "g")) (fCons (fC (.str "h")) (fCons (fC (.str "i")) fNil))))))))) (mkR x1 x2 x3 x4 x5 x6 x7 x8 x9 x10 x11 x12) s = some (.ref s.length, s ++ [.lst abcD]) := by
    simp only [e_lst, e_cons, e_C, e_nil, Option.bind_some, List.length_cons, List.length_nil, Nat.zero_add, Nat.reduceAdd, l9, if_true]
    rfl
  have hl : (s ++ [O.lst abcD])[s.length]? = some (.lst abcD) := at_new
  have e := lcD_ok (tg := .one 11) (tt := fYes) (fe := fTup (fCons (fV 11) (fCons (fTup (fCons (fC (.int 0)) (fCons (fC (.int 0)) fNil))) (fCons (fC (.int 1)) (fCons (fTup (fCons (fC (.int 0)) (fCons (fC (.int 0)) fNil))) (fCons (fC (.int 1)) fNil)))))) (src := [(s.length, abcD)]) (ρ := mkR x1 x2 x3 x4 x5 x6 x7 x8 x9 x10 none x12) (T := fun _ => true) (F := stD) (st0 := s ++ [O.lst abcD]) (fun p hp => by rw [List.mem_singleton.mp hp]; exact hl) (items := abcD) (acc := []) (by rw [sizeLine_eq]; simp [abcD]) fun d hd => by
    refine ⟨mkR x1 x2 x3 x4 x5 x6 x7 x8 x9 x10 (some d) x12, rfl, fun acc => ⟨rfl, fun _ => ?_⟩⟩
    simp only [e_tup, e_cons, e_V, e_C, e_nil, mkR, List.getElem?_cons_succ, List.getElem?_cons_zero, Option.bind_some, List.length_cons, List.length_nil, Nat.zero_add, Nat.reduceAdd, l2, l5, if_true]
    rfl
  have it : iSeq (fLst (fCons (fC (.str "a")) (fCons (fC (.str "b")) (fCons (fC (.str "c")) (fCons (fC (.str "d")) (fCons (fC (.str "e")) (fCons (fC (.str "f")) (fCons (fC (.str "g")) (fCons (fC (.str "h")) (fCons (fC (.str "i")) fNil)))))))))) (mkR x1 x2 x3 x4 x5 x6 x7 x8 x9 x10 x11 x12) s = some (abcD, [(s.length, abcD)], s ++ [.lst abcD]) := by
    unfold iSeq
    rw [dl]
    show (match (s ++ [O.lst abcD])[s.length]? with
      | some (.lst ds) => some (ds, [(s.length, ds)], s ++ [O.lst abcD])
      | none => none) = _
    rw [hl]
  have ft : abcD.filter (fun _ => true) = abcD := List.filter_eq_self.mpr fun _ _ => rfl
  rw [ft] at e
  refine ⟨[.lst abcD] ++ [.lst (abcD.map stD)], ?_⟩
  unfold fNine fLc
  rw [e_call, e_cons, it]
  show Option.bind (Option.bind (Option.bind (lcD _ _ _ _ _ (mkR x1 x2 x3 x4 x5 x6 x7 x8 x9 x10 none x12) _ _) _) _) _ = _
  rw [e]
  have tr := tuple_ref (s := (s ++ [O.lst abcD]) ++ [O.lst (abcD.map stD)]) (r := (s ++ [O.lst abcD]).length) (es := abcD.map stD) at_new
  show tupleD [.ref (s ++ [O.lst abcD]).length] ((s ++ [O.lst abcD]) ++ [O.lst ([] ++ abcD.map stD)]) = _
  rw [List.nil_append, tr]
  simp [nineD]
theorem nine_pn : Pn 4 nineD := Pn.by (by decide +kernel)
noncomputable def fSeven (G : G0) : FA := (fCons (fV 4) (fCons (fSl (fV 4) oNone (oSome (fC (.int 8)))) (fCons (fFn 1 (fn__law_at_bounds G) (fCons (fV 2) fNil)) (fCons (fRev (fOp (ixG G) (fV 3) (fC (.int 0)))) (fCons (fOp addD (fOp (ixG G) (fV 3) (fC (.int 0))) (fSl (fOp (ixG G) (fV 3) (fC (.int 0))) (oSome (fNeg (fC (.int 1)))) oNone)) (fCons (fFn 1 (fn__law_odd G) (fCons (fV 2) fNil)) (fCons (fTup fNil) fNil)))))))
theorem seven_ok {ss : List D} {x : D} {x1 x5 x6 x7 x8 x9 x10 x11 x12 : Option D} (bg : Bg lb s) (ha : av lb) (lo : Lo av s) (hz : ss.length ≤ 8) (hs : ∀ d ∈ ss, Pn 2 d) :
    Ok (fSeven G (mkR x1 (some (.ref lb)) (some (.tup [.tup ss, x])) (some nineD) x5 x6 x7 x8 x9 x10 x11 x12) s) fun p => (p.1.length = 7 ∧ ∀ d ∈ p.1, Dn p.2 av 0 4 d) ∧ Go lb s p.2 := by
  have ix : ∀ s, fOp (ixG G) (fV 3) (fC (.int 0)) (mkR x1 (some (.ref lb)) (some (.tup [.tup ss, x])) (some nineD) x5 x6 x7 x8 x9 x10 x11 x12) s = some (.tup ss, s) := fun s => by simp
  have pk : ∀ {es : List D}, es.length ≤ 20 → (∀ d ∈ es, d ∈ ss) → Pn 4 (.tup es) := fun {es} h1 h2 => Pn.tup h1 fun d hd => (hs d (h2 d hd)).up (by decide)
  unfold fSeven
  refine EM.cons ha (n := 4) (EN.of (.v rfl nine_pn)) (EM.cons ha (fun s b _ => ⟨(.tup (cutD (abcD.map stD) none (some 8)), s), by rfl, ?_, .refl b⟩) (EM.cons ha (fun s b _ => ?_) (EM.cons ha (fun s b _ => ⟨(.tup ss.reverse, s), ?_, ?_, .refl b⟩) (EM.cons ha (fun s b _ => ⟨(.tup (ss ++ cutD ss (some (-1)) none), s), ?_, ?_, .refl b⟩) (EM.cons ha (fun s b lo => ?_) (EM.cons ha (EN.of (.tup (.nil ⟨by rw [sizeLine_eq]; simp, Pn.tup (n := 3) (by simp) fun _ h => by cases h⟩))) .nil)))))) s bg lo
  · have : Pn 4 (.tup (cutD (abcD.map stD) none (some 8))) := Pn.tup (Nat.le_trans (cut_hi (by decide)) (by decide)) fun d hd => by
      have hd := cut_mem hd
      have q : ∀ d ∈ abcD.map stD, pnB 3 d = true := List.all_eq_true.mp (by decide +kernel : (abcD.map stD).all (pnB 3) = true)
      exact Pn.by (q d hd)
    exact this _ _
  · obtain ⟨⟨y, s1⟩, q1, p1, g1⟩ := bounds_spec (G := G) b
    exact ⟨(y, s1), by simp [q1], (p1.up (by decide)) _ _, g1⟩
  · unfold fRev
    rw [ix]
    rfl
  · exact (pk (by simpa using Nat.le_trans hz (by decide)) fun d hd => List.mem_reverse.mp hd) _ _
  · have lz : ss.length + (cutD ss (some (-1)) none).length ≤ sizeLine := by
      have : (cutD ss (some (-1)) none).length ≤ ss.length := by unfold cutD; simp; omega
      rw [sizeLine_eq]; omega
    rw [e_op, ix]
    simp only [Option.bind_some, e_sl, ix, e_oS, e_neg, e_C, e_oN]
    exact if_pos lz
  · have lz : (cutD ss (some (-1)) none).length ≤ ss.length := by unfold cutD; simp; omega
    refine (pk (by simp; omega) fun d hd => ?_) _ _
    rcases List.mem_append.mp hd with z | z
    · exact z
    · exact cut_mem z
  · obtain ⟨⟨y, s1⟩, q1, p1, g1⟩ := odd_spec (G := G) b ha lo
    exact ⟨(y, s1), by simp [q1], p1, g1⟩
end
end K01

set_option Elab.async false
set_option linter.all false
set_option maxRecDepth 100000
set_option maxHeartbeats 1000000
namespace K01
open PySem PySem.Spec L2 GxR LG DL
open PyProof.Rows hiding signs cutD
section
variable {G : G0} {s : Sto}
noncomputable def bodyL (G : G0) : FS := (sSeq (sSet 2 (fFn 2 (fn__law_bag G) (fCons (fV 0) (fCons (fV 1) fNil))))
    (sSeq (sSet 3 (fFn 2 (fn__law_air G) (fCons (fV 2) (fCons (fC (.int 8)) fNil))))
    (sSeq (sSet 4 fNine)
    (sSeq (sPar [5, 6, 7] (fCons (fOp (ixG G) (fV 3) (fC (.int 0))) (fCons (fV 3) (fCons (fFn 4 (fn__law_tuning G) (fCons (fV 2) (fCons (fV 3) (fCons (fC (.int 9)) (fCons (fC (.bl true)) fNil))))) fNil))))
    (sSeq (sFor (iSeq (fLst (fSeven G))) (.one 8) (bodyT G))
    (sFor (iRange1 (fCons (fC (.int 6)) fNil)) (.one 9) (bodyU G)))))))
theorem law_form : sb_law G = sSeq (sFor (iRange1 (fCons (fOp addD (fC (.int 1)) (fCall minD (fCons (fCall (lenD G) (fCons (fV 0) fNil)) (fCons (fC (.int 30)) fNil)))) fNil)) (.one 1) (bodyL G)) (sRet (fC (.bl true))) := rfl
theorem bodyL_ok {k : Int} {x2 x3 x4 x5 x6 x7 x8 x9 x10 x11 x12 : Option D} (k0 : 0 ≤ k) (k1 : k ≤ 30) :
    Ok (bodyL G (mkR (some (.int k)) x2 x3 x4 x5 x6 x7 x8 x9 x10 x11 x12) s) fun q => q.1 = .nx ∧ ∃ x1 x2 x3 x4 x5 x6 x7 x8 x9 x10 x11 x12, q.2.1 = mkR x1 x2 x3 x4 x5 x6 x7 x8 x9 x10 x11 x12 := by
  obtain ⟨⟨y1, s1⟩, q1, e1, o, e2, b1⟩ := bag_spec (G := G) (st := s) k0 k1
  simp only at e1 e2 b1
  subst e1
  obtain ⟨⟨y2, s2⟩, q2, ⟨ss, x, e3, hz, hs, hx1, hx2⟩, g2⟩ := air_spec (G := G) b1
  simp only at e3 g2
  subst e3
  obtain ⟨m3, q3⟩ := nine_eq (s := s2) (x1 := some (.int k)) (x2 := some (.ref s.length)) (x3 := some (.tup [.tup ss, .int x])) (x4 := x4) (x5 := x5) (x6 := x6) (x7 := x7) (x8 := x8) (x9 := x9) (x10 := x10) (x11 := x11) (x12 := x12)
  have b3 : Bg s.length (s2 ++ m3) := g2.bg.app m3
  obtain ⟨⟨y4, s4⟩, q4, p4, g4⟩ := tuning_spec (G := G) (x := .int x) b3 hz
  simp only at p4 g4
  have ps : Pn 3 (.tup ss) := Pn.tup (by omega) hs
  have pa : Pn 4 (.tup [.tup ss, .int x]) := Pn.tup (by simp) fun d hd => by
    simp only [List.mem_cons, List.not_mem_nil, or_false] at hd
    rcases hd with z | z <;> subst z
    · exact ps
    · exact Pn.int (i := 0) (lo := 1) (hi := 1000) ⟨x, rfl, hx1, hx2⟩ (by decide) (by decide)
  have lo4 : Lo (· = s.length) s4 := fun l z => by subst z; exact g4.bg.lt
  obtain ⟨⟨ds, s5⟩, q5, ⟨z5, d5⟩, g5⟩ := seven_ok (G := G) (lb := s.length) (av := (· = s.length)) (s := s4) (ss := ss) (x := .int x) (x1 := some (.int k)) (x5 := some (.tup ss)) (x6 := some (.tup [.tup ss, .int x])) (x7 := some y4) (x8 := x8) (x9 := x9) (x10 := x10) (x11 := x11) (x12 := x12) g4.bg rfl lo4 hz hs
  simp only at z5 d5 g5
  unfold bodyL
  rw [e_seq]
  have t1 : sSet 2 (fFn 2 (fn__law_bag G) (fCons (fV 0) (fCons (fV 1) fNil))) (mkR (some (.int k)) x2 x3 x4 x5 x6 x7 x8 x9 x10 x11 x12) s = some (.nx, mkR (some (.int k)) (some (.ref s.length)) x3 x4 x5 x6 x7 x8 x9 x10 x11 x12, s1) := by
    simp only [e_set, e_fn, e_cons, e_V, e_nil, mkR, List.getElem?_cons_succ, List.getElem?_cons_zero, Option.bind_some, List.length_cons, List.length_nil, if_true, q1]
    rfl
  rw [t1]
  show Ok (sSeq _ _ (mkR (some (.int k)) (some (.ref s.length)) x3 x4 x5 x6 x7 x8 x9 x10 x11 x12) s1) _
  rw [e_seq]
  have t2 : sSet 3 (fFn 2 (fn__law_air G) (fCons (fV 2) (fCons (fC (.int 8)) fNil))) (mkR (some (.int k)) (some (.ref s.length)) x3 x4 x5 x6 x7 x8 x9 x10 x11 x12) s1 = some (.nx, mkR (some (.int k)) (some (.ref s.length)) (some (.tup [.tup ss, .int x])) x4 x5 x6 x7 x8 x9 x10 x11 x12, s2) := by
    simp only [e_set, e_fn, e_cons, e_V, e_C, e_nil, mkR, List.getElem?_cons_succ, List.getElem?_cons_zero, Option.bind_some, List.length_cons, List.length_nil, if_true, q2]
    rfl
  rw [t2]
  show Ok (sSeq _ _ (mkR (some (.int k)) (some (.ref s.length)) (some (.tup [.tup ss, .int x])) x4 x5 x6 x7 x8 x9 x10 x11 x12) s2) _
  rw [e_seq, e_set, q3]
  show Ok (sSeq _ _ (mkR (some (.int k)) (some (.ref s.length)) (some (.tup [.tup ss, .int x])) (some nineD) x5 x6 x7 x8 x9 x10 x11 x12) (s2 ++ m3)) _
  rw [e_seq]
  have t4 : sPar [5, 6, 7] (fCons (fOp (ixG G) (fV 3) (fC (.int 0))) (fCons (fV 3) (fCons (fFn 4 (fn__law_tuning G) (fCons (fV 2) (fCons (fV 3) (fCons (fC (.int 9)) (fCons (fC (.bl true)) fNil))))) fNil))) (mkR (some (.int k)) (some (.ref s.length)) (some (.tup [.tup ss, .int x])) (some nineD) x5 x6 x7 x8 x9 x10 x11 x12) (s2 ++ m3) = some (.nx, mkR (some (.int k)) (some (.ref s.length)) (some (.tup [.tup ss, .int x])) (some nineD) (some (.tup ss)) (some (.tup [.tup ss, .int x])) (some y4) x8 x9 x10 x11 x12, s4) := by
    simp only [e_par, e_fn, e_cons, e_V, e_C, e_nil, e_op, mkR, List.getElem?_cons_succ, List.getElem?_cons_zero, Option.bind_some, List.length_cons, List.length_nil, if_true, e_ixT, atI_0, q4]
    rfl
  rw [t4]
  show Ok (sSeq _ _ (mkR (some (.int k)) (some (.ref s.length)) (some (.tup [.tup ss, .int x])) (some nineD) (some (.tup ss)) (some (.tup [.tup ss, .int x])) (some y4) x8 x9 x10 x11 x12) s4) _
  have hl : (s5 ++ [O.lst ds])[s5.length]? = some (.lst ds) := at_new
  have it : iSeq (fLst (fSeven G)) (mkR (some (.int k)) (some (.ref s.length)) (some (.tup [.tup ss, .int x])) (some nineD) (some (.tup ss)) (some (.tup [.tup ss, .int x])) (some y4) x8 x9 x10 x11 x12) s4 = some (ds, [(s5.length, ds)], s5 ++ [O.lst ds]) := by
    unfold iSeq
    have l7 : ds.length ≤ sizeLine := by rw [z5]; decide
    rw [e_lst, q5]
    simp only [Option.bind_some, l7, if_true]
    rw [hl]
  have key := for_ok (tg := .one 8) (b := bodyT G) (src := [(s5.length, ds)]) (items := ds)
    (I := fun _ ρ s' => (∃ x8, ρ = mkR (some (.int k)) (some (.ref s.length)) (some (.tup [.tup ss, .int x])) (some nineD) (some (.tup ss)) (some (.tup [.tup ss, .int x])) (some y4) x8 x9 x10 x11 x12) ∧ ∃ more, s' = (s5 ++ [O.lst ds]) ++ more)
    (fun j ρ s' h p hp => by
      obtain ⟨_, more, rfl⟩ := h
      rw [List.mem_singleton.mp hp]
      exact at_app hl more)
    (fun j d hd ρ s' ⟨⟨x8, hρ⟩, more, hs'⟩ => by
      subst hρ; subst hs'
      have dd : Dn ((s5 ++ [O.lst ds]) ++ more) (· = s.length) 0 4 d := ((d5 d (List.mem_of_getElem? hd)).app _).app _
      obtain ⟨m2, e⟩ := bodyT_ok (G := G) (ρ := mkR (some (.int k)) (some (.ref s.length)) (some (.tup [.tup ss, .int x])) (some nineD) (some (.tup ss)) (some (.tup [.tup ss, .int x])) (some y4) (some d) x9 x10 x11 x12) (ss := ss) (x := .int x) rfl rfl dd (by decide) (by decide)
      exact ⟨_, rfl, ⟨_, e, rfl, ⟨_, rfl⟩, more ++ m2, by simp⟩⟩)
    _ 0 (mkR (some (.int k)) (some (.ref s.length)) (some (.tup [.tup ss, .int x])) (some nineD) (some (.tup ss)) (some (.tup [.tup ss, .int x])) (some y4) x8 x9 x10 x11 x12) (s5 ++ [O.lst ds]) rfl (Nat.zero_le _) ⟨⟨_, rfl⟩, [], by simp⟩
  rw [List.drop_zero] at key
  refine ok_last (ρ' := []) (Q' := fun q => (∃ x8, q.2.1 = mkR (some (.int k)) (some (.ref s.length)) (some (.tup [.tup ss, .int x])) (some nineD) (some (.tup ss)) (some (.tup [.tup ss, .int x])) (some y4) x8 x9 x10 x11 x12) ∧ ∃ more, q.2.2 = (s5 ++ [O.lst ds]) ++ more) ?_ fun q _ ⟨⟨x8, hρ⟩, more, hs'⟩ => ?_
  · unfold sFor
    exact Ok.bind ⟨_, it, key⟩
  · rw [hρ, hs']
    have g6 : Go s.length s4 ((s5 ++ [O.lst ds]) ++ more) := (g5.trans (Go.app g5.bg _)).trans (Go.app (Bg.app g5.bg _) _)
    have it2 : iRange1 (fCons (fC (.int 6)) fNil) (mkR (some (.int k)) (some (.ref s.length)) (some (.tup [.tup ss, .int x])) (some nineD) (some (.tup ss)) (some (.tup [.tup ss, .int x])) (some y4) x8 x9 x10 x11 x12) ((s5 ++ [O.lst ds]) ++ more) = some (rangeD 0 6, [], (s5 ++ [O.lst ds]) ++ more) := by
      unfold iRange1
      simp
    have key2 := for_ok (tg := .one 9) (b := bodyU G) (src := []) (items := rangeD 0 6)
      (I := fun j ρ s' => (∃ b5 b6 b7 x9 x10 x12, ρ = mkR (some (.int k)) (some (.ref s.length)) (some (.tup [.tup ss, .int x])) (some nineD) (some b5) (some b6) (some b7) x8 x9 x10 x11 x12 ∧ Dn s' (· = s.length) j (4 + 4 * j) b5 ∧ Dn s' (· = s.length) j (4 + 4 * j) b6 ∧ Dn s' (· = s.length) j (4 + 4 * j) b7) ∧ Bg s.length s')
      (fun j ρ s' h p hp => by cases hp)
      (fun j d hd ρ s' ⟨⟨b5, b6, b7, x9, x10, x12, hρ, h5, h6, h7⟩, bg⟩ => by
        subst hρ
        have hj : j < 6 := by
          have := (List.getElem?_eq_some_iff.mp hd).1
          simpa [rangeD] using this
        refine ⟨_, rfl, (bodyU_ok (G := G) (lb := s.length) (av := (· = s.length)) (g := j) (n := 4 + 4 * j) (ss := ss) (x := .int x) (x1 := some (.int k)) (x4 := some nineD) (x8 := x8) (x9 := some d) (x10 := x10) (x11 := x11) (x12 := x12) bg rfl (fun l z => by subst z; exact bg.lt) h5 h6 h7 (by omega) (by omega)).mono fun q ⟨e1, ⟨c5, c6, c7, y10, y12, e2, i5, i6, i7⟩, gq⟩ => ⟨e1, ⟨c5, c6, c7, some d, y10, y12, e2, ?_, ?_, ?_⟩, gq.bg⟩⟩
        · exact i5.up (by omega)
        · exact i6.up (by omega)
        · exact i7.up (by omega))
      _ 0 (mkR (some (.int k)) (some (.ref s.length)) (some (.tup [.tup ss, .int x])) (some nineD) (some (.tup ss)) (some (.tup [.tup ss, .int x])) (some y4) x8 x9 x10 x11 x12) ((s5 ++ [O.lst ds]) ++ more) rfl (Nat.zero_le _) ⟨⟨_, _, _, x9, x10, x12, rfl, (ps.up (by decide)) _ _, pa _ _, (p4.up (by decide)) _ _⟩, g6.bg⟩
    rw [List.drop_zero] at key2
    unfold sFor
    exact Ok.bind ⟨_, it2, key2.mono fun q ⟨e1, ⟨b5, b6, b7, x9, x10, x12, e2, _⟩, _⟩ => ⟨e1, _, _, _, _, _, _, _, _, _, _, _, _, e2⟩⟩
theorem math (G : G0) (hz : G.ns.length ≤ 63) : ∃ st', fn_law G [.scr] [] = some (.bl true, st') := by
  have key : Ok (sb_law G (mkR none none none none none none none none none none none none) []) fun q => q.1 = .rt (.bl true) := by
    rw [law_form]
    have ls : ∀ st, lenD G [.scr] st = some (.int G.ns.length, st) := fun _ => rfl
    obtain ⟨c, hc, c0, c1⟩ : ∃ c : Int, minD [.int G.ns.length, .int 30] ([] : Sto) = some (.int c, []) ∧ 0 ≤ c ∧ c ≤ 30 := by
      refine ⟨if (30 : Int) < G.ns.length then 30 else G.ns.length, rfl, ?_, ?_⟩ <;> split <;> omega
    have it : iRange1 (fCons (fOp addD (fC (.int 1)) (fCall minD (fCons (fCall (lenD G) (fCons (fV 0) fNil)) (fCons (fC (.int 30)) fNil)))) fNil) (mkR none none none none none none none none none none none none) [] = some (rangeD 0 (1 + c).toNat, [], []) := by
      unfold iRange1
      simp only [e_cons, e_op, e_C, e_call, e_V, e_nil, mkR, List.getElem?_cons_zero, Option.bind_some, ls, hc, e_addI]
      rw [if_pos ⟨by omega, by omega⟩]
    have lp := for_ok (tg := .one 1) (b := bodyL G) (src := []) (items := rangeD 0 (1 + c).toNat)
      (I := fun _ ρ _ => ∃ x1 x2 x3 x4 x5 x6 x7 x8 x9 x10 x11 x12, ρ = mkR x1 x2 x3 x4 x5 x6 x7 x8 x9 x10 x11 x12)
      (fun j ρ s' h p hp => by cases hp)
      (fun j d hd ρ s' ⟨x1, x2, x3, x4, x5, x6, x7, x8, x9, x10, x11, x12, hρ⟩ => by
        subst hρ
        obtain ⟨hj, ej⟩ := List.getElem?_eq_some_iff.mp hd
        have hj : j < (1 + c).toNat := by simpa [rangeD] using hj
        have ed : d = .int (0 + (j : Nat)) := by rw [← ej]; simp [rangeD]
        subst ed
        exact ⟨_, rfl, bodyL_ok (G := G) (by omega) (by omega)⟩)
      _ 0 (mkR none none none none none none none none none none none none) [] rfl (Nat.zero_le _) ⟨_, _, _, _, _, _, _, _, _, _, _, _, rfl⟩
    rw [List.drop_zero] at lp
    refine ok_last (ρ' := []) (Q' := fun _ => True) ?_ fun q _ _ => ⟨_, rfl, rfl⟩
    unfold sFor
    exact Ok.bind ⟨_, it, lp.mono fun q z => ⟨z.1, trivial⟩⟩
  obtain ⟨⟨p1, p2, p3⟩, e, e2⟩ := key
  simp only at e2
  subst e2
  refine ⟨p3, ?_⟩
  unfold fn_law
  rw [e_run]
  show Option.bind (sb_law G (mkR none none none none none none none none none none none none) []) _ = _
  rw [e]
  rfl
end
end K01

theorem PySem.Challenge.cw_wavehall_k01_airs_and_tunings_told_holds : PySem.Challenge.rw_wavehall_k01_airs_and_tunings_told.Holds := by
  exact K01.holds fun G hz _ => K01.math G hz
