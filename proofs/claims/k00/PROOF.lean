import PyProof.Rows.All
import Wide.All
import OpenK.AllK
import Wide.FinOn
import PySem.Challenge.RW_sevenpoints_k00_errors_made_by_hand
import HandS.ForMost
import HandS.ForExc
import HandS.HeadHook1
import HandS.ExcInit
import HandS.TupAny
import HandS.Style
import HandS.ExcOwn
import HandS.IsInst
import HandS.Dict
import HandS.Zip
import HandS.ExcIs
import HandS.ExcField
import HandS.ExcValue
import HandS.RaiseMore
import HandS.HeadHook4
import HandS.HeadEnd
import HandS.Defaults
import KE.KStateDown
import Lean
import HandS.Head0
import HandS.Head1
import HandS.Head2
import PyProof.StrLawsRepr
import PyProof.ReprLen

section
set_option Elab.async false
set_option linter.all false
set_option maxRecDepth 100000
noncomputable section
namespace Ow
open PySem PySem.Spec L2 PyProof.Rows

/-! ## a def where nothing is being shown (no guard stands) -/
structure FnG (P : Program) (w : World) (K : PySem.W.Frag) (mg : Str → Option Value) (base : Heap) (CX : CXT) (k : Nat) (f : Addr) (fd : FuncData) (ps : List Str) (sp : Sp) : Prop where
  len : ∀ vs H Q E, sp vs H Q E → vs.length = ps.length
  go : ∀ (A : Around) (outer : List Env) (s : Shared) (H : Hp) (args : Args) (us : List Value) (vs : List V) (Q : VK) (E : XK), A.guards = some [] → Room k A → Env0 P w K mg base A outer s H → BindsTo s fd args (ps.zip us) → Vals vs us → sp vs H Q E →
    codeAny (model P w) A (.call (.ref f) args) (CR CX outer P w H s Q E) s
section
variable {P : Program} {w : World} {K : PySem.W.Frag} {mg : Str → Option Value} {base : Heap} {CX : CXT} {k : Nat} {f : Addr} {fd : FuncData} {ps : List Str} {sp : Sp}
theorem FnG.ofOk (F : FnOk P w K mg base CX k f fd ps sp) : FnG P w K mg base CX k f fd ps sp := ⟨F.len, fun A outer s H args us vs Q E _ => F.run A outer s H args us vs Q E⟩
theorem FnG.up {j : Nat} (F : FnG P w K mg base CX j f fd ps sp) (h : j ≤ k) : FnG P w K mg base CX k f fd ps sp := ⟨F.len, fun A outer s H args us vs Q E g r => F.go A outer s H args us vs Q E g (r.mono h)⟩
theorem FnG.weaker {sp' : Sp} (F : FnG P w K mg base CX k f fd ps sp) (h : ∀ vs H Q E, sp' vs H Q E → sp vs H Q E) : FnG P w K mg base CX k f fd ps sp' :=
  ⟨fun vs H Q E q => F.len vs H Q E (h _ _ _ _ q), fun A outer s H args us vs Q E g r e b v q => F.go A outer s H args us vs Q E g r e b v (h _ _ _ _ q)⟩
theorem guards_make {A : Around} {C : Addr} {us : List Value} {kw : List (Str × Value)} (h : A.guards = some []) : (A.under (.builtin "type.__call__" ⟨.ref C :: us, kw⟩)).guards = some [] := by
  have e : (Code.builtin "type.__call__" ⟨.ref C :: us, kw⟩).guards = [] := by
    have z : (Code.builtin "type.__call__" ⟨.ref C :: us, kw⟩).isGuard = false := by
      show guardIds.contains "type.__call__" = false
      decide +kernel
    unfold Code.guards
    rw [z]
    rfl
  show pushGuards (Code.builtin "type.__call__" ⟨.ref C :: us, kw⟩).guards A.guards = some []
  rw [e]
  exact h
theorem guards_deeper {A : Around} {env : Env} (h : A.guards = some []) : (A.deeper env).guards = some [] := h
/-- a def by its body's walk, the guards told -/
theorem FnG.made {name qual : Str} {params : Arguments} {body : List Stmt} {scope : Scope} {dV kV doc pm cdv ct oc : Value} {an od : Option Addr} {osl : Array (Option Value)} {N : List Str}
    (at_ : K.lookup f = some ⟨oc, od, .func (PySem.W.fnOf name qual params body scope dV kV doc pm an cdv ct), osl⟩) (code : PySem.W.codeIn K cdv qual = true) (S : FnScope N ps scope) (len : ∀ vs H Q E, sp vs H Q E → vs.length = ps.length)
    (walk : ∀ (A : Around) (outer : List Env) (s : Shared) (H : Hp) (vs : List V) (Q : VK) (E : XK), A.guards = some [] → Room k (A.deeper (envOfC qual scope s.heap.objs.size f cdv)) → sp vs H Q E →
      ∃ t, PSs (cxOf CX P w K mg base N qual scope f cdv A outer s H E) body t ∧ t { nx := fun _ H' => Q .non H', rt := Q } (L2.start N vs) H) :
    FnG P w K mg base CX (k + 1) f (PySem.W.fnOf name qual params body scope dV kV doc pm an cdv ct) ps sp where
  len := len
  go := by
    intro A outer s H args us vs Q E g room e0 binds rel want
    have keeps : ∀ b o, base.get? b = some o → s.heap.get? b = some o := fun b o e => (e0.bs b o e).1
    have KX : K.In s.heap := e0.mod.kin.keeps keeps
    have noLim : s.heap.NoLimit := e0.mod.nolimit.keeps keeps
    have kinds : ∀ y ∈ ps.zip us, scope.names.lookup y.1 = some .local ∨ (scope.names.lookup y.1 = some .cell ∧ ((cellsFrom (s.heap.objs.size + 1) scope.names []).lookup y.1).isSome = true) := by
      rintro ⟨n, v⟩ hy
      exact (S.par n (List.of_mem_zip hy).1).imp_right fun q => ⟨q, PySem.W.cellsFrom_some _ _ _ (.inl q)⟩
    refine codeAny_call_function room.depth (KX _ _ at_) rfl S.co S.gen rfl (PySem.W.codeRec_of KX code) (binds _ _ _ _ (wpAny_newFunctionEnv_cells S.kind kinds fun env he s1 x => ?_))
    subst he
    obtain ⟨t, walks, reads⟩ := walk A outer s H vs Q E g (room.deeper _) want
    have I := inv_start (CX := CX) (E := E) S room.hd e0 (len _ _ _ _ want) rel x
    refine ⟨noLim.keeps x.toInCall.keep, codeAny_func (wpAny_mono (walks.run [] s1 _ H _ I reads) (fun fl s' done => ?_) fun _ _ z => z)⟩
    match fl, done with
    | .ret u, ⟨v, _, H', J, rv, q⟩ => exact (⟨v, H', J.os, J.bare, J.base, J.hok, rv, q⟩ : CE outer P w H s Q u s')
    | .next, ⟨_, H', J, q⟩ => exact (⟨V.non, H', J.os, J.bare, J.base, J.hok, rfl, q⟩ : CE outer P w H s Q Value.none s')
    | .brk, ⟨_, _, _, q⟩ => exact q.elim
    | .cont, ⟨_, _, _, q⟩ => exact q.elim
theorem Fun.okG {x qual : Str} {st : Stmt} {N : List Str} (F : Fun K x qual st f fd) (S : FnScope N ps (defScope st)) (len : ∀ vs H Q E, sp vs H Q E → vs.length = ps.length)
    (hbody : ∀ (cdv : Value) (A : Around) (outer : List Env) (s : Shared) (H : Hp) (vs : List V) (Q : VK) (E : XK), A.guards = some [] → Room k (A.deeper (envOfC qual (defScope st) s.heap.objs.size f cdv)) → sp vs H Q E →
      ∃ t, PSs (cxOf CX P w K mg base N qual (defScope st) f cdv A outer s H E) (defBody st) t ∧ t { nx := fun _ H' => Q .non H', rt := Q } (L2.start N vs) H) : FnG P w K mg base CX (k + 1) f fd ps sp := by
  obtain ⟨oc, od, kV, doc, pm, an, cdv, ct, osl, rfl, lk, hcd⟩ := F.ex
  exact FnG.made lk hcd S len fun A outer s H vs Q E g hr hsp => hbody cdv A outer s H vs Q E g hr hsp
end
section
variable {X : Cx} {CX : CXT} {k : Nat} {f C : Addr} {fd : FuncData} {ps : List Str} {sp : Sp} {E : L2.St → XK} {x : Str} {p pos : Pos} {e : Expr} {es : List Expr} {t : TA}
/-- what came of a call -/
def Came (X : Cx) (pins : List (Addr × Obj)) (σ : L2.St) (Q : VK) (r : Result) (s' : Shared) : Prop := match r with
  | .error e => X.xe e s'
  | .ok (.ret u) => EP X pins σ Q u s'
  | .ok _ => False
theorem behind {pins : List (Addr × Obj)} {σ : L2.St} {H : Hp} {s s' : Shared} {Q : VK} {E' : XK} {r : Result} (I : Inv X pins σ H s) (hx : ∀ e, CX X.stack H s E' e s' → X.xe e s') (hq : CR CX X.stack X.prog X.w H s Q E' r s') :
    Came X pins σ Q r s' := by
  match r, hq with
  | .error e, hq => exact hx e hq
  | .ok (.ret u), hq => exact I.after hq
  | .ok .next, hq => exact hq
  | .ok .brk, hq => exact hq
  | .ok .cont, hq => exact hq
theorem run_G {pins : List (Addr × Obj)} {σ : L2.St} {H : Hp} {s : Shared} {Q : VK} {us : List Value} {vs : List V} (F : FnG X.prog X.w X.K X.mg X.base CX k f fd ps sp) (g : X.A.guards = some []) (hr : Room k X.A) (hb : Binds X.K fd ps []) (hx : PassesAt CX X σ (E σ))
    (I : Inv X pins σ H s) (r : Vals vs us) (h : sp vs H Q (E σ)) : wpAny (model X.prog X.w) X.A (call (.ref f) us) (EP X pins σ Q) X.xe s := by
  have b := hb s us I.kIn (by rw [List.append_nil, ← r.length]; exact F.len _ _ _ _ h)
  rw [List.append_nil] at b
  refine wpAny_call (codeAny_mono (F.go X.A X.stack s H _ us vs Q (E σ) g hr I.env0 b r h) fun r s' hq => ?_)
  have z := behind I (fun e c => hx pins H s e s' I c) hq
  clear hq
  match r, z with
  | .error e, z => exact z
  | .ok (.ret u), z => exact z
/-- f(e, ..) -/
theorem pe_G (F : FnG X.prog X.w X.K X.mg X.base CX k f fd ps sp) (g : X.A.guards = some []) (hr : Room k X.A) (hg : Gl X x) (hm : X.mg x = some (.ref f)) (hk : PySem.W.keepIn X.K (.ref f) = true) (hb : Binds X.K fd ps []) (hx : ∀ σ, PassesAt CX X σ (E σ))
    (ha : PA X (e :: es) t) (hdb : (x == ("__debug__" : Str)) = false := by decide) (he : starEach (e :: es) X.env = (false, eval e X.env) :: starEach es X.env := by rfl) (hpl : (backTo pos (starEach es X.env)).any (·.1) = false := by rfl) :
    PE X (.Call (.Name x p) (e :: es) [] pos) (tCallS sp E t) :=
  ⟨fun pins s σ H Q I h => wpAny_Call_Name_kw (ld_glob I hg hm (PySem.W.callWith_K (h₀ := X.base) I.ok.mod.kin hk (thn (ha.run pos pins s σ H _ I h) fun us s1 ⟨vs, H1, I1, r, q⟩ => ⟨I1.kIn, run_G F g hr hb (hx σ) I1 r q⟩) he hpl) hdb)⟩
/-- C(e, ..) -/
def tMakeG (C : Addr) (sp : Sp) (E : L2.St → XK) (t : TA) : TE := fun σ H Q => t σ H fun vs H1 => ∀ x dx, H1 x = none → H1 dx = none → dx ≠ x → sp (.ref x :: vs) (upd (upd H1 dx (.own x)) x (.ins C dx [])) (fun v H2 => v = .non ∧ Q (.ref x) H2) (E σ)
theorem run_makeG {pins : List (Addr × Obj)} {σ : L2.St} {H : Hp} {s : Shared} {Q : VK} {us : List Value} {vs : List V} (M : Mk X.K C f) (F : FnG X.prog X.w X.K X.mg X.base CX k f fd ps sp) (g : X.A.guards = some []) (hr : Room (k + 1) X.A) (hb : Binds X.K fd ps [])
    (hx : PassesAt CX X σ (E σ)) (I : Inv X pins σ H s) (r : Vals vs us)
    (h : ∀ x dx, H x = none → H dx = none → dx ≠ x → sp (.ref x :: vs) (upd (upd H dx (.own x)) x (.ins C dx [])) (fun v H2 => v = .non ∧ Q (.ref x) H2) (E σ)) :
    wpAny (model X.prog X.w) X.A (call (.ref C) us) (EP X pins σ Q) X.xe s := by
  have want := h (s.heap.objs.size + 1) s.heap.objs.size (I.hok.fresh (Nat.le_succ _)) (I.hok.fresh (Nat.le_refl _)) (Nat.ne_of_lt (Nat.lt_succ_self _))
  have I2 := Inv.made (C := C) I
  have rel : Vals (V.ref (s.heap.objs.size + 1) :: vs) (Value.ref (s.heap.objs.size + 1) :: us) := .cons rfl r
  have b := hb _ (Value.ref (s.heap.objs.size + 1) :: us) I2.kIn (by rw [List.append_nil, ← rel.length]; exact F.len _ _ _ _ want)
  rw [List.append_nil] at b
  refine wpAny_call (make_map (f := f) I.kIn M.makes M.init (beq_iff_eq.mp M.fn) (codeAny_mono (F.go _ X.stack _ _ _ _ _ _ (E σ) (guards_make g) (hr.make C us []) (I2.env0.make C us []) b rel want) fun r s' hq => ?_))
  have z := behind I2 (fun e c => hx pins _ _ e s' I2 c) hq
  clear hq
  match r, z with
  | .error e, z => exact z
  | .ok (.ret u), ⟨v, H', I3, rv, ev, q3⟩ =>
    subst ev
    exact ⟨rv, ⟨V.ref (s.heap.objs.size + 1), H', I3, rfl, q3⟩⟩
theorem pe_makeG (M : Mk X.K C f) (F : FnG X.prog X.w X.K X.mg X.base CX k f fd ps sp) (g : X.A.guards = some []) (hr : Room (k + 1) X.A) (hg : Gl X x) (hm : X.mg x = some (.ref C)) (hb : Binds X.K fd ps []) (hx : ∀ σ, PassesAt CX X σ (E σ))
    (ha : PA X (e :: es) t) (hdb : (x == ("__debug__" : Str)) = false := by decide) (he : starEach (e :: es) X.env = (false, eval e X.env) :: starEach es X.env := by rfl) (hpl : (backTo pos (starEach es X.env)).any (·.1) = false := by rfl) :
    PE X (.Call (.Name x p) (e :: es) [] pos) (tMakeG C sp E t) :=
  ⟨fun pins s σ H Q I h => wpAny_Call_Name_kw (ld_glob I hg hm (PySem.W.callWith_K (h₀ := X.base) I.ok.mod.kin M.kp (thn (ha.run pos pins s σ H _ I h) fun us s1 ⟨vs, H1, I1, r, q⟩ => ⟨I1.kIn, run_makeG M F g hr hb (hx σ) I1 r q⟩) he hpl) hdb)⟩
end
/-! ## the law's call -/
section
variable {P : Program} {w : World} {K : PySem.W.Frag} {mg mb : Str → Option Value} {CX : CXT} {k : Nat} {fa a : Addr} {fd : FuncData} {x : Str} {sp : Sp} {s₁ : Shared} {vs : List Value} {ns : List Int}
/-- from a heap in which at most the script is tracked -/
theorem law_from (H : Hp) (KX : K.In s₁.heap) (hns : s₁.heap.Ns mainGlobals mg) (hb : s₁.heap.Ns builtinsNs mb) (hbb : ∀ x : Str, x ≠ "__name__" → mb x = bootBuiltins x) (hlim : s₁.heap.NoLimit) (hg : s₁.gens = #[])
    (ha : s₁.heap.get? a = some { cls := .type "list", data := .seq vs.toArray }) (hr : Room k callerA)
    (F : ∀ base : Heap, K.In base → base.Ns mainGlobals mg → FnG P w K mg base CX k fa fd [x] sp) (hbind : ∀ (s : Shared) (u : Value), BindsTo s fd ⟨[u], []⟩ [(x, u)])
    (hO : Only H) (hsp : sp [.ref a] H (fun v _ => v = .bl true) fun _ _ _ => False) (hCX : ∀ e s', CX [] H s₁ (fun _ _ _ => False) e s' → False)
    (hok : HOk P w H s₁.heap) (hA : ∀ b, H b ≠ none → b = a) (hK : H a ≠ none → K.lookup a = none) :
    codeAny (model P w) callerA (.call (.ref fa) ⟨[.ref a], []⟩) (fun r s' => r = .ok (.ret (.bool true)) ∧ OldK s₁.heap s'.heap ∧ s'.os = s₁.os ∧ AllBare s'.gens) s₁ := by
  -- what is tracked is no dict, and nothing of the written part
  have noDict : ∀ {b : Addr} {o : Obj} {es : Array DictEntry} {ep : Nat}, s₁.heap.get? b = some o → o.data = .dict es ep → H b = none := fun {b o es ep} e d =>
    Classical.byContradiction fun n => by
      obtain rfl := hA b n
      rw [ha] at e
      cases e
      cases (show Data.seq vs.toArray _ = Data.dict es ep from d)
  have nsBase : ∀ {b : Addr} {m : Str → Option Value}, s₁.heap.Ns b m → (hidT s₁.heap H).Ns b m := fun {b m} ⟨o, es, ep, e, d, r⟩ => ⟨o, es, ep, hidT_get e (noDict e d), d, r⟩
  have kBase : K.In (hidT s₁.heap H) := fun b o e => hidT_get (KX b o e) (Classical.byContradiction fun n => by
    have eb := hA b n
    rw [eb] at n e
    rw [hK n] at e
    cases e)
  have md : Mod K mg (hidT s₁.heap H) := ⟨kBase, nsBase hns, ⟨mb, nsBase hb, hbb⟩, let ⟨mc, h1, h2⟩ := hlim; ⟨mc, nsBase h1, h2⟩⟩
  have e0 : Env0 P w K mg (hidT s₁.heap H) callerA [] s₁ H := ⟨rfl, md, fun b o e => of_hidT e, Nat.le_of_eq (hidT_size _ _), trivial, fun b hb => absurd (show b ∈ ([] : List Addr) from hb) (by simp), hok, .of_eq hg⟩
  refine codeAny_mono ((F _ kBase (nsBase hns)).go callerA [] s₁ H ⟨[.ref a], []⟩ [.ref a] [.ref a] _ _ rfl hr e0 (hbind s₁ (.ref a)) (.cons rfl .nil) hsp) fun r s' h => ?_
  match r, h with
  | .error e, h => exact (hCX e s' h).elim
  | .ok .next, h => exact False.elim h
  | .ok .brk, h => exact False.elim h
  | .ok .cont, h => exact False.elim h
  | .ok (.ret u), ⟨v, H', os, bare, un, hok', rv, q⟩ =>
    cases (show v = .bl true from q)
    cases (show u = Value.bool true from rv)
    refine ⟨rfl, OldK.of_keep fun b o e => ?_, os, bare⟩
    by_cases n : H b = none
    · exact un.keep b o e n (fun z => absurd (show b ∈ ([] : List Addr) from z) (by simp)) (by simp)
    · rcases hO b with z | ⟨ob, xs, z⟩
      · exact absurd z n
      · have e1 := (hok b _ z).1
        rw [e] at e1
        rw [Option.some.inj e1]
        exact (hok' b _ (un.frzs b ob _ z)).1
theorem law_G (KX : K.In s₁.heap) (hns : s₁.heap.Ns mainGlobals mg) (hb : s₁.heap.Ns builtinsNs mb) (hbb : ∀ x : Str, x ≠ "__name__" → mb x = bootBuiltins x) (hlim : s₁.heap.NoLimit) (hg : s₁.gens = #[])
    (ha : s₁.heap.get? a = some { cls := .type "list", data := .seq vs.toArray }) (hi : IntsAre vs ns) (hl : ns.length ≤ sizeLine) (hr : Room k callerA)
    (F : ∀ base : Heap, K.In base → base.Ns mainGlobals mg → FnG P w K mg base CX k fa fd [x] sp) (hbind : ∀ (s : Shared) (u : Value), BindsTo s fd ⟨[u], []⟩ [(x, u)])
    (hsp : ∀ H : Hp, Only H → SqL K H a (ns.map V.int) → sp [.ref a] H (fun v _ => v = .bl true) fun _ _ _ => False) (hCX : ∀ H e s', CX [] H s₁ (fun _ _ _ => False) e s' → False) :
    codeAny (model P w) callerA (.call (.ref fa) ⟨[.ref a], []⟩) (fun r s' => r = .ok (.ret (.bool true)) ∧ OldK s₁.heap s'.heap ∧ s'.os = s₁.os ∧ AllBare s'.gens) s₁ := by
  have rel := vals_ints hi
  cases hk : K.lookup a with
  | some o =>
    have e := KX a o hk
    rw [ha] at e
    cases e
    have only : Only (fun _ => none) := fun _ => .inl rfl
    exact law_from (fun _ => none) KX hns hb hbb hlim hg ha hr F hbind only (hsp _ only (.inr ⟨_, vs.toArray, _, hk, rfl, rfl, rfl, by rw [List.size_toArray, hi.length]; exact hl, by simpa using rel⟩)) (hCX _)
      (fun b u z => by cases (show (none : Option HO) = some u from z)) (fun b z => absurd rfl z) fun z => absurd rfl z
  | none =>
    let Hs : Hp := fun b => if b = a then some (.frz { cls := .type "list", data := .seq vs.toArray } (.lst (ns.map V.int))) else none
    have at_ : Hs a = some (.frz { cls := .type "list", data := .seq vs.toArray } (.lst (ns.map V.int))) := if_pos rfl
    have off : ∀ {b : Addr}, b ≠ a → Hs b = none := fun n => if_neg n
    have only : Only Hs := fun b => by
      by_cases e : b = a
      · exact .inr ⟨_, _, by rw [e]; exact at_⟩
      · exact .inl (off e)
    refine law_from Hs KX hns hb hbb hlim hg ha hr F hbind only (hsp _ only (.inl (.inr ⟨_, at_⟩))) (hCX _) (fun b u z => ?_) (fun b z => Classical.byContradiction fun n => z (off n)) fun _ => hk
    by_cases e : b = a
    · subst e
      rw [at_] at z
      cases z
      exact ⟨ha, by rw [List.length_map]; exact hl, vs, _, rel, ha⟩
    · rw [off e] at z
      cases z
end
/-- the goal that k_head leaves -/
theorem walk_G {l : PySem.W.OpenLaw} {n k : Nat} {q : Program} {loose : List Str} {XP : (Str → Option Value) → Heap → Prop} {YP : World → Heap → Prop} {d : DefRec} {K : Params → PySem.W.Frag} {CX : World → CXT} {sp : World → Sp} {x : Str}
    (hn : l.most = some n) (hn2 : n ≤ sizeLine) (hdf : d.params.defaults = []) (hr : Room k callerA) (hY : ∀ (w : World) (h : Heap), YP w h → (K w.params).In h)
    (F : ∀ (w : World) (mg : Str → Option Value) (fa : Addr) (h : Heap), (K w.params).In h → h.Ns mainGlobals mg → mg d.name = some (.ref fa) → ∃ fd : FuncData, (∀ (s : Shared) (u : Value), BindsTo s fd ⟨[u], []⟩ [(x, u)]) ∧
        ∀ base : Heap, (K w.params).In base → base.Ns mainGlobals mg → FnG l.prog w (K w.params) mg base (CX w) k fa fd [x] (sp w))
    (hsp : ∀ (w : World) (H : Hp) (a : Addr) (ns : List Int), ns.length ≤ n → Only H → SqL (K w.params) H a (ns.map V.int) → sp w [.ref a] H (fun v _ => v = .bl true) fun _ _ _ => False)
    (hCX : ∀ (w : World) (H : Hp) (s : Shared) (e : Value) (s' : Shared), CX w [] H s (fun _ _ _ => False) e s' → False) : PySem.W.WalkO q loose XP YP l.row.toRowW d [] (fun f vs => PySem.call f vs) :=
  Att.attach_call hn hdf fun w s₀ s₁ mg mb fa o pm cd doc a vs ns G Y ho hd hcd hmg hobj hints hlen hg => by
    obtain ⟨fd, bnd, go⟩ := F w mg fa _ (hY w _ Y) G.T.g hmg
    exact law_G (hY w _ Y) G.T.g G.T.b G.T.builtins G.T.nolimit hg hobj hints (Nat.le_trans hlen hn2) hr go bnd (fun H only seq => hsp w H a ns hlen only seq) fun H e s' => hCX w H s₁ e s'
end Ow

end
end

section
set_option Elab.async false
set_option linter.all false
set_option maxRecDepth 100000
noncomputable section
namespace Ow
open PySem PySem.Spec L2

/-! values as pure data -/
inductive D where
  | non | bl (b : Bool) | int (i : Int) | str (s : Str)
  | tup (xs : List D) | lst (xs : List D) | scr (xs : List Int)
  | dic (kvs : List (Key × D))
  | obj (c : Str) (fs : List (Str × D))
  | err (c : Str) (fs : List (Str × D))

abbrev Fr := PySem.W.Frag
abbrev cA (K : Fr) (c : Str) : Addr := He.ga K c
/-- an exception object of the text's own class, its fields as they were set -/
def ErrAt (K : Fr) (H : Hp) (c : Str) (a : Addr) (ws : List (Str × V)) : Prop :=
  (ws = [] ∧ H a = some (exo a (cA K c) none)) ∨ ∃ dx us, H a = some (exo a (cA K c) (some dx)) ∧ H dx = some (exd dx us) ∧ ∀ f, us.lookup f = ws.lookup f
theorem ErrAt.same {K : Fr} {H H' : Hp} (s : Same H H') {c : Str} {a : Addr} {ws : List (Str × V)} (h : ErrAt K H c a ws) : ErrAt K H' c a ws := by
  rcases h with ⟨e, h⟩ | ⟨dx, us, h1, h2, h3⟩
  · exact .inl ⟨e, s _ _ h⟩
  · exact .inr ⟨dx, us, s _ _ h1, s _ _ h2, h3⟩

mutual
def RV (K : Fr) (H : Hp) : D → V → Prop
  | .non, v => v = .non
  | .bl b, v => v = .bl b
  | .int i, v => v = .int i
  | .str s, v => v = .str s
  | .tup ds, v => ∃ a vs, v = .ref a ∧ SqT K H a vs ∧ RVs K H ds vs
  | .lst ds, v => ∃ a vs, v = .ref a ∧ H a = some (.lst vs) ∧ RVs K H ds vs
  | .scr ns, v => ∃ a, v = .ref a ∧ SqL K H a (ns.map V.int)
  | .dic kvs, v => ∃ a ws, v = .ref a ∧ H a = some (.dK ws) ∧ RVk K H kvs ws
  | .obj c fs, v => ∃ a dx ws, v = .ref a ∧ H a = some (.ins (cA K c) dx ws) ∧ RVf K H fs ws
  | .err c fs, v => ∃ a ws, v = .ref a ∧ ErrAt K H c a ws ∧ RVf K H fs ws
def RVs (K : Fr) (H : Hp) : List D → List V → Prop
  | [], vs => vs = []
  | d :: ds, vs => ∃ v r, vs = v :: r ∧ RV K H d v ∧ RVs K H ds r
def RVk (K : Fr) (H : Hp) : List (Key × D) → List (Key × V) → Prop
  | [], vs => vs = []
  | (k, d) :: ds, vs => ∃ v r, vs = (k, v) :: r ∧ RV K H d v ∧ RVk K H ds r
def RVf (K : Fr) (H : Hp) : List (Str × D) → List (Str × V) → Prop
  | [], vs => vs = []
  | (k, d) :: ds, vs => ∃ v r, vs = (k, v) :: r ∧ RV K H d v ∧ RVf K H ds r
end

section
variable {K : Fr} {H H' : Hp}
theorem Same.sqt (s : Same H H') {a : Addr} {xs : List V} (h : SqT K H a xs) : SqT K H' a xs := by
  rcases h with h | h
  · rcases h with h | ⟨o, h⟩
    · exact .inl (.inl (s _ _ h))
    · exact .inl (.inr ⟨o, s _ _ h⟩)
  · exact .inr h
mutual
theorem RV.same (s : Same H H') : ∀ {d : D} {v : V}, RV K H d v → RV K H' d v
  | .non, _, h => h
  | .bl _, _, h => h
  | .int _, _, h => h
  | .str _, _, h => h
  | .tup ds, v, h => by
    obtain ⟨a, vs, e, h1, h2⟩ := h
    exact ⟨a, vs, e, Ow.Same.sqt s h1, RVs.same s h2⟩
  | .lst ds, v, h => by
    obtain ⟨a, vs, e, h1, h2⟩ := h
    exact ⟨a, vs, e, s _ _ h1, RVs.same s h2⟩
  | .scr ns, v, h => by
    obtain ⟨a, e, h1⟩ := h
    exact ⟨a, e, L2.Same.seq s h1⟩
  | .dic kvs, v, h => by
    obtain ⟨a, vs, e, h1, h2⟩ := h
    exact ⟨a, vs, e, s _ _ h1, RVk.same s h2⟩
  | .obj c fs, v, h => by
    obtain ⟨a, dx, vs, e, h1, h2⟩ := h
    exact ⟨a, dx, vs, e, s _ _ h1, RVf.same s h2⟩
  | .err c fs, v, h => by
    obtain ⟨a, vs, e, h1, h2⟩ := h
    exact ⟨a, vs, e, h1.same s, RVf.same s h2⟩
theorem RVs.same (s : Same H H') : ∀ {ds : List D} {vs : List V}, RVs K H ds vs → RVs K H' ds vs
  | [], _, h => h
  | d :: ds, vs, h => by
    obtain ⟨v, r, e, h1, h2⟩ := h
    exact ⟨v, r, e, RV.same s h1, RVs.same s h2⟩
theorem RVk.same (s : Same H H') : ∀ {ds : List (Key × D)} {vs : List (Key × V)}, RVk K H ds vs → RVk K H' ds vs
  | [], _, h => h
  | (k, d) :: ds, vs, h => by
    obtain ⟨v, r, e, h1, h2⟩ := h
    exact ⟨v, r, e, RV.same s h1, RVk.same s h2⟩
theorem RVf.same (s : Same H H') : ∀ {ds : List (Str × D)} {vs : List (Str × V)}, RVf K H ds vs → RVf K H' ds vs
  | [], _, h => h
  | (k, d) :: ds, vs, h => by
    obtain ⟨v, r, e, h1, h2⟩ := h
    exact ⟨v, r, e, RV.same s h1, RVf.same s h2⟩
end
theorem RVs.length : ∀ {ds : List D} {vs : List V}, RVs K H ds vs → ds.length = vs.length
  | [], _, h => by rw [show _ = [] from h]; rfl
  | d :: ds, vs, h => by
    obtain ⟨v, r, rfl, h1, h2⟩ := h
    rw [List.length_cons, List.length_cons, RVs.length h2]
theorem RVs.app : ∀ {ds es : List D} {vs ws : List V}, RVs K H ds vs → RVs K H es ws → RVs K H (ds ++ es) (vs ++ ws)
  | [], _, _, _, h, g => by rw [show _ = [] from h]; exact g
  | d :: ds, es, vs, ws, h, g => by
    obtain ⟨v, r, rfl, h1, h2⟩ := h
    exact ⟨v, r ++ ws, rfl, h1, RVs.app h2 g⟩
theorem RVs.get : ∀ {ds : List D} {vs : List V} {i : Nat} {d : D}, RVs K H ds vs → ds[i]? = some d → ∃ v, vs[i]? = some v ∧ RV K H d v
  | [], _, _, _, _, e => by simp at e
  | d :: ds, vs, 0, _, h, e => by
    obtain ⟨v, r, rfl, h1, h2⟩ := h
    simp at e
    subst e
    exact ⟨v, by simp, h1⟩
  | d :: ds, vs, i + 1, _, h, e => by
    obtain ⟨v, r, rfl, h1, h2⟩ := h
    simp at e
    obtain ⟨u, q1, q2⟩ := RVs.get h2 e
    exact ⟨u, by simpa using q1, q2⟩
theorem RVs.take (n : Nat) : ∀ {ds : List D} {vs : List V}, RVs K H ds vs → RVs K H (ds.take n) (vs.take n) := by
  induction n with
  | zero => intro ds vs h; simp [RVs]
  | succ n ih =>
    intro ds vs h
    cases ds with
    | nil => rw [show vs = [] from h]; simp [RVs]
    | cons d ds =>
      obtain ⟨v, r, rfl, h1, h2⟩ := h
      exact ⟨v, r.take n, by simp, h1, ih h2⟩
theorem RVs.drop (n : Nat) : ∀ {ds : List D} {vs : List V}, RVs K H ds vs → RVs K H (ds.drop n) (vs.drop n) := by
  induction n with
  | zero => intro ds vs h; simpa using h
  | succ n ih =>
    intro ds vs h
    cases ds with
    | nil => rw [show vs = [] from h]; simp [RVs]
    | cons d ds =>
      obtain ⟨v, r, rfl, h1, h2⟩ := h
      simpa using ih h2
theorem RVs.rev : ∀ {ds : List D} {vs : List V}, RVs K H ds vs → RVs K H ds.reverse vs.reverse
  | [], _, h => by rw [show _ = [] from h]; simp [RVs]
  | d :: ds, vs, h => by
    obtain ⟨v, r, rfl, h1, h2⟩ := h
    rw [List.reverse_cons, List.reverse_cons]
    exact RVs.app (RVs.rev h2) ⟨v, [], rfl, h1, rfl⟩
theorem RVs.one {d : D} {v : V} (h : RV K H d v) : RVs K H [d] [v] := ⟨v, [], rfl, h, rfl⟩
theorem RVs.set {d : D} {v : V} (h : RV K H d v) : ∀ {ds : List D} {vs : List V} (i : Nat), RVs K H ds vs → RVs K H (ds.set i d) (vs.set i v)
  | [], _, i, g => by rw [show _ = [] from g]; simp [RVs]
  | e :: ds, vs, 0, g => by
    obtain ⟨u, r, rfl, h1, h2⟩ := g
    exact ⟨v, r, rfl, h, h2⟩
  | e :: ds, vs, i + 1, g => by
    obtain ⟨u, r, rfl, h1, h2⟩ := g
    exact ⟨u, r.set i v, rfl, h1, RVs.set h i h2⟩
theorem RVs.ints : ∀ (ns : List Int), RVs K H (ns.map D.int) (ns.map V.int)
  | [] => rfl
  | n :: ns => ⟨_, _, rfl, rfl, RVs.ints ns⟩
end

/-! what is hands off -/
open Classical in
def res (H : Hp) (O : Addr → Prop) : Hp := fun a => if O a then none else H a
theorem res_some {H : Hp} {O : Addr → Prop} {a : Addr} {o : HO} : res H O a = some o ↔ (¬ O a ∧ H a = some o) := by
  unfold res
  by_cases h : O a <;> simp [h]
theorem res_same {H : Hp} {O : Addr → Prop} : Same (res H O) H := fun a o h => (res_some.mp h).2

inductive Slot where
  | un | sh (d : D) | ow (d : D) | ln (d : D)
inductive EV where
  | sh (d : D) | pl (i : Nat) | fr (d : D)

/-- content of a mutable thing at an address: what stands there, its parts shared -/
def CtR (K : Fr) (H Hs : Hp) (d : D) (a : Addr) : Prop := match d with
  | .lst ds => ∃ vs, H a = some (.lst vs) ∧ RVs K Hs ds vs
  | .dic kvs => ∃ ws, H a = some (.dK ws) ∧ RVk K Hs kvs ws
  | .obj c fs => ∃ dx ws, H a = some (.ins (cA K c) dx ws) ∧ RVf K Hs fs ws
  | _ => False

/-- the entry of a def -/
structure Ent where
  K : Fr
  H0 : Hp
  O0 : Addr → Prop
  M0 : Addr → Prop
  s0 : L2.St

def SlR (T : Ent) (H : Hp) (O : Addr → Prop) : Slot → Option (Option V) → Prop
  | .un, _ => True
  | .sh d, x => ∃ v, x = some (some v) ∧ RV T.K (res H O) d v
  | .ow d, x => ∃ a, x = some (some (.ref a)) ∧ O a ∧ T.H0 a = none ∧ CtR T.K H (res H O) d a
  | .ln d, x => ∃ a, x = some (some (.ref a)) ∧ T.M0 a ∧ CtR T.K H (res H O) d a

def Slot.own : Slot → Bool
  | .ow _ => true | .ln _ => true | _ => false

structure StR (T : Ent) (ε : List Slot) (σ : St) (H : Hp) (O : Addr → Prop) : Prop where
  len : ε.length = σ.length
  old : ∀ a, T.O0 a → O a
  mm : ∀ a, T.M0 a → T.O0 a
  trk0 : ∀ a, T.O0 a → T.H0 a ≠ none
  trk : ∀ a, O a → H a ≠ none
  new : ∀ a, O a → T.O0 a ∨ T.H0 a = none
  frame : ∀ a o, T.H0 a = some o → ¬ T.M0 a → H a = some o
  slot : ∀ (i : Nat) (s : Slot), ε[i]? = some s → SlR T H O s σ[i]?
  dist : ∀ (i j : Nat) (a : Addr) (s t : Slot), ε[i]? = some s → ε[j]? = some t → s.own = true → t.own = true → σ[i]? = some (some (.ref a)) → σ[j]? = some (some (.ref a)) → i = j
  lns : ∀ (i : Nat) (d : D), ε[i]? = some (.ln d) → σ[i]? = T.s0[i]?

def Own (ε : List Slot) (σ : St) (a : Addr) : Prop := ∃ (i : Nat) (s : Slot), ε[i]? = some s ∧ s.own = true ∧ σ[i]? = some (some (.ref a))
def EvR (T : Ent) (ε : List Slot) (σ : St) (H : Hp) (O : Addr → Prop) : EV → V → Prop
  | .sh d, v => RV T.K (res H O) d v
  | .pl i, v => σ[i]? = some (some v) ∧ ∃ s, ε[i]? = some s ∧ s.own = true
  | .fr d, v => ∃ a, v = .ref a ∧ O a ∧ T.H0 a = none ∧ CtR T.K H (res H O) d a ∧ ¬ Own ε σ a
/-- from one state to a later one of the same frame -/
structure Step (ε : List Slot) (σ : St) (H : Hp) (O : Addr → Prop) (H' : Hp) (O' : Addr → Prop) : Prop where
  keep : ∀ a o, H a = some o → ¬ Own ε σ a → H' a = some o
  news : ∀ a, O' a → O a ∨ H a = none
  lose : ∀ a, O a → O' a ∨ Own ε σ a
  stay : ∀ a, H a ≠ none → H' a ≠ none
def Sub (ε ε' : List Slot) : Prop := ∀ (i : Nat) (s : Slot), ε'[i]? = some s → s.own = true → ∃ t, ε[i]? = some t ∧ t.own = true

def Slot.cont : Slot → Option D
  | .ow d => some d | .ln d => some d | .sh d => some d | .un => none
def cont (ε : List Slot) : EV → Option D
  | .sh d => some d
  | .pl i => match ε[i]? with
    | some (.ow d) => some d
    | some (.ln d) => some d
    | _ => none
  | .fr d => some d

/-- the top of a value by the whole heap, its parts shared -/
def TopV (K : Fr) (H Hs : Hp) (d : D) (v : V) : Prop := match d with
  | .non => v = .non
  | .bl b => v = .bl b
  | .int i => v = .int i
  | .str s => v = .str s
  | .tup ds => ∃ a vs, v = .ref a ∧ SqT K Hs a vs ∧ RVs K Hs ds vs
  | .lst ds => ∃ a vs, v = .ref a ∧ H a = some (.lst vs) ∧ RVs K Hs ds vs
  | .scr ns => ∃ a, v = .ref a ∧ SqL K Hs a (ns.map V.int)
  | .dic kvs => ∃ a ws, v = .ref a ∧ H a = some (.dK ws) ∧ RVk K Hs kvs ws
  | .obj c fs => ∃ a dx ws, v = .ref a ∧ H a = some (.ins (cA K c) dx ws) ∧ RVf K Hs fs ws
  | .err c fs => ∃ a ws, v = .ref a ∧ ErrAt K Hs c a ws ∧ RVf K Hs fs ws

theorem RV.top {K : Fr} {H Hs : Hp} (s : Same Hs H) {d : D} {v : V} (h : RV K Hs d v) : TopV K H Hs d v := by
  cases d with
  | lst ds => obtain ⟨a, vs, e, h1, h2⟩ := h; exact ⟨a, vs, e, s _ _ h1, h2⟩
  | dic kvs => obtain ⟨a, vs, e, h1, h2⟩ := h; exact ⟨a, vs, e, s _ _ h1, h2⟩
  | obj c fs => obtain ⟨a, dx, vs, e, h1, h2⟩ := h; exact ⟨a, dx, vs, e, s _ _ h1, h2⟩
  | _ => exact h
theorem TopV.rv {K : Fr} {H Hs : Hp} (s : Same Hs H) {d : D} {v : V} (h : TopV K H Hs d v) : RV K H d v := by
  cases d with
  | tup ds => obtain ⟨a, vs, e, h1, h2⟩ := h; exact ⟨a, vs, e, Ow.Same.sqt s h1, RVs.same s h2⟩
  | lst ds => obtain ⟨a, vs, e, h1, h2⟩ := h; exact ⟨a, vs, e, h1, RVs.same s h2⟩
  | scr ns => obtain ⟨a, e, h1⟩ := h; exact ⟨a, e, L2.Same.seq s h1⟩
  | dic kvs => obtain ⟨a, vs, e, h1, h2⟩ := h; exact ⟨a, vs, e, h1, RVk.same s h2⟩
  | obj c fs => obtain ⟨a, dx, vs, e, h1, h2⟩ := h; exact ⟨a, dx, vs, e, h1, RVf.same s h2⟩
  | err c fs => obtain ⟨a, vs, e, h1, h2⟩ := h; exact ⟨a, vs, e, h1.same s, RVf.same s h2⟩
  | _ => exact h
theorem CtR.top {K : Fr} {H Hs : Hp} {d : D} {a : Addr} (h : CtR K H Hs d a) : TopV K H Hs d (.ref a) := by
  cases d with
  | lst ds => obtain ⟨vs, h1, h2⟩ := h; exact ⟨a, vs, rfl, h1, h2⟩
  | dic kvs => obtain ⟨ws, h1, h2⟩ := h; exact ⟨a, ws, rfl, h1, h2⟩
  | obj c fs => obtain ⟨dx, ws, h1, h2⟩ := h; exact ⟨a, dx, ws, rfl, h1, h2⟩
  | _ => exact h.elim

section
variable {T : Ent} {ε : List Slot} {σ : St} {H H' : Hp} {O O' : Addr → Prop}
theorem EvR.top (S : StR T ε σ H O) {x : EV} {v : V} {d : D} (h : EvR T ε σ H O x v) (e : cont ε x = some d) : TopV T.K H (res H O) d v := by
  cases x with
  | sh d' =>
    have q : d' = d := by simpa [cont] using e
    subst q
    exact RV.top res_same h
  | pl i =>
    obtain ⟨h1, s, h2, h3⟩ := h
    have q := S.slot i s h2
    cases s with
    | un => cases h3
    | sh _ => cases h3
    | ow d' =>
      have z : d' = d := by simpa [cont, h2] using e
      subst z
      obtain ⟨a, q1, q2, q3, q4⟩ := q
      rw [h1] at q1
      cases q1
      exact q4.top
    | ln d' =>
      have z : d' = d := by simpa [cont, h2] using e
      subst z
      obtain ⟨a, q1, q2, q4⟩ := q
      rw [h1] at q1
      cases q1
      exact q4.top
  | fr d' =>
    have q : d' = d := by simpa [cont] using e
    subst q
    obtain ⟨a, rfl, _, _, h, _⟩ := h
    exact h.top
theorem CtR.same (s : Same (res H O) (res H' O')) {d : D} {a : Addr} {K : Fr} (e : ∀ o, H a = some o → H' a = some o) (h : CtR K H (res H O) d a) : CtR K H' (res H' O') d a := by
  cases d with
  | lst ds => obtain ⟨vs, h1, h2⟩ := h; exact ⟨vs, e _ h1, RVs.same s h2⟩
  | dic kvs => obtain ⟨ws, h1, h2⟩ := h; exact ⟨ws, e _ h1, RVk.same s h2⟩
  | obj c fs => obtain ⟨dx, ws, h1, h2⟩ := h; exact ⟨dx, ws, e _ h1, RVf.same s h2⟩
  | _ => exact h.elim

theorem Sub.refl (ε : List Slot) : Sub ε ε := fun i s h o => ⟨s, h, o⟩
theorem Sub.trans {a b c : List Slot} (h : Sub a b) (g : Sub b c) : Sub a c := fun i s e o => by
  obtain ⟨t, e1, o1⟩ := g i s e o
  exact h i t e1 o1
theorem Own.sub {ε ε' : List Slot} (h : Sub ε ε') {a : Addr} (o : Own ε' σ a) : Own ε σ a := by
  obtain ⟨i, s, e, so, q⟩ := o
  obtain ⟨t, e1, o1⟩ := h i s e so
  exact ⟨i, t, e1, o1, q⟩
theorem StR.ownO (S : StR T ε σ H O) {a : Addr} (h : Own ε σ a) : O a := by
  obtain ⟨i, s, e, so, q⟩ := h
  have z := S.slot i s e
  cases s with
  | un => cases so
  | sh _ => cases so
  | ow d =>
    obtain ⟨b, q1, q2, _⟩ := z
    rw [q] at q1
    cases q1
    exact q2
  | ln d =>
    obtain ⟨b, q1, q2, _⟩ := z
    rw [q] at q1
    cases q1
    exact S.old _ (S.mm _ q2)
theorem Step.same (S : StR T ε σ H O) (h : Step ε σ H O H' O') : Same (res H O) (res H' O') := fun a o e => by
  obtain ⟨n, e⟩ := res_some.mp e
  refine res_some.mpr ⟨fun q => ?_, h.keep a o e fun w => n (S.ownO w)⟩
  rcases h.news a q with z | z
  · exact n z
  · rw [z] at e
    cases e
theorem Step.refl (ε : List Slot) (σ : St) (H : Hp) (O : Addr → Prop) : Step ε σ H O H O := ⟨fun _ _ h _ => h, fun _ h => .inl h, fun _ h => .inl h, fun _ h => h⟩
theorem Step.trans {ε' : List Slot} {H'' : Hp} {O'' : Addr → Prop} (S : StR T ε σ H O) (u : Sub ε ε') (h : Step ε σ H O H' O') (g : Step ε' σ H' O' H'' O'') : Step ε σ H O H'' O'' := by
  refine ⟨fun a o e n => g.keep a o (h.keep a o e n) fun w => n (w.sub u), fun a q => ?_, fun a q => ?_, fun a q => g.stay a (h.stay a q)⟩
  · rcases g.news a q with z | z
    · exact h.news a z
    · by_cases hw : Own ε σ a
      · exact .inl (S.ownO hw)
      · cases e : H a with
        | none => exact .inr rfl
        | some o =>
          rw [h.keep a o e hw] at z
          cases z
  · rcases h.lose a q with z | z
    · rcases g.lose a z with y | y
      · exact .inl y
      · exact .inr (y.sub u)
    · exact .inr z
theorem EvR.step {ε' : List Slot} (S : StR T ε σ H O) (u : Sub ε ε') (h : Step ε σ H O H' O') {x : EV} {v : V} (e : EvR T ε σ H O x v) (hc : (cont ε' x).isSome = true) : EvR T ε' σ H' O' x v := by
  cases x with
  | sh d => exact RV.same (h.same S) e
  | pl i =>
    obtain ⟨e1, _⟩ := e
    refine ⟨e1, ?_⟩
    cases q : ε'[i]? with
    | none => simp [cont, q] at hc
    | some s =>
      refine ⟨s, rfl, ?_⟩
      cases s with
      | un => simp [cont, q] at hc
      | sh _ => simp [cont, q] at hc
      | ow _ => rfl
      | ln _ => rfl
  | fr d =>
    obtain ⟨a, rfl, h1, h2, h3, h4⟩ := e
    exact ⟨a, rfl, (h.lose a h1).elim id (fun w => absurd w h4), h2, CtR.same (h.same S) (fun o q => h.keep a o q h4) h3, fun w => h4 (w.sub u)⟩
end
end Ow

end
end

section
set_option Elab.async false
set_option linter.all false
set_option maxRecDepth 100000
noncomputable section
namespace Ow
open PySem PySem.Spec L2

/-! ## the text, stripped, and what it evaluates to -/
inductive R (α : Type) where
  | ok (a : α) (e : List Slot)
  | exc (c : Str) (fs : List (Str × D)) (e : List Slot)
  | stuck
def R.bind {α β : Type} (r : R α) (f : α → List Slot → R β) : R β := match r with
  | .ok a e => f a e
  | .exc c fs e => .exc c fs e
  | .stuck => .stuck
def ofO {α : Type} (o : Option α) (e : List Slot) : R α := match o with
  | some a => .ok a e
  | none => .stuck

/-- what a call hands back: the value, what the lent things are behind it -/
inductive CR where
  | ok (d : D) (fin : List Slot)
  | new (d : D) (fin : List Slot)
  | exc (c : Str) (fs : List (Str × D)) (fin : List Slot)
  | stuck

inductive Tgt where
  | nm (i : Nat) | tp (is : List Nat)
inductive ItK where
  | seq | rng1 | rng2 | enm | zip

/-- the built-ins that are called -/
inductive Blt where
  | len | int | str | abs | min | max | tuple | list | sorted | sum | all | any | repr | ord | bool | sortset | lenset
  | join | split | get | index | count | bitlen | startswith | replace | rfind
  deriving DecidableEq

inductive E where
  | var (i : Nat)
  | mv (i : Nat)
  | c (d : D)
  | un (o : UnaryOp) (a : E)
  | bin (o : Operator) (a b : E)
  | cmp (o : CmpOp) (a b : E)
  | chain (o o' : CmpOp) (a b c : E)
  | and (a b : E) | or (a b : E) | not (a : E)
  | ite (c a b : E)
  | tup (es : List E)
  | lst (es : List E)
  | dct (kvs : List (Key × E))
  | idx (a i : E)
  | dget (a i : E)
  | slc (a lo hi : E)
  | rev (a : E)
  | att (a : E) (f : Str) (cs : List Str)
  | isi (a : E) (cs ts : List Str)
  | blt (f : Blt) (es : List E)
  | mth (m : Blt) (a : E) (es : List E)
  | app (i : Nat) (a : E)
  | call (f : Str) (es : List E)
  | callN (f : Str) (es : List E)
  | make (c : Str) (f : Str) (es : List E)
  | err (c : Str) (fs : List Str) (es : List E)
  | attE (a : E) (f : Str) (cs : List Str)
  | isiE (a : E) (t : Str) (cs : List (Str × Bool))
  | comp (k : ItK) (src : List E) (tg : Tgt) (vs : List Nat) (ifs : List E) (elt : E)
  | lend (a : E)

/-! ### operators on data -/
mutual
def toPy : D → Option PyData
  | .non => some .none
  | .bl b => some (.bool b)
  | .int i => some (.int i)
  | .str s => some (.str s)
  | .tup xs => (toPys xs).map .tuple
  | .lst xs => (toPys xs).map .list
  | .scr _ => none
  | .dic _ => none
  | .obj _ _ => none
  | .err _ _ => none
def toPys : List D → Option (List PyData)
  | [] => some []
  | x :: xs => match toPy x, toPys xs with
    | some p, some ps => some (p :: ps)
    | _, _ => none
end
def eqD (x y : D) : Option Bool := match toPy x, toPy y with
  | some p, some q => if SeqAt.shaped p = true ∧ SeqAt.shaped q = true then some (PyData.eqv p q) else none
  | _, _ => none

open Classical in
def binD (o : Operator) (x y : D) : Option D := match o, x, y with
  | .Add, .int i, .int j => some (.int (i + j))
  | .Add, .str a, .str b => if a.length + b.length ≤ sizeLine then some (.str (a ++ b)) else none
  | .Add, .lst a, .lst b => if a.length + b.length ≤ sizeLine then some (.lst (a ++ b)) else none
  | .Add, .tup a, .tup b => if a.length + b.length ≤ sizeLine then some (.tup (a ++ b)) else none
  | .Sub, .int i, .int j => some (.int (i - j))
  | .Mult, .int i, .int j => if CMul i j then some (.int (i * j)) else none
  | .Mult, .lst a, .int k => if -(2 ^ 63) ≤ k ∧ k < 2 ^ 63 ∧ a.length * k.toNat ≤ sizeLine then some (.lst (List.replicate k.toNat a).flatten) else none
  | .FloorDiv, .int i, .int j => if CDiv i j then some (.int (i / j)) else none
  | .Mod, .int i, .int j => if 0 < j then some (.int (i % j)) else none
  | .Pow, .int i, .int j => if CPow i j then some (.int (i ^ j.toNat)) else none
  | .LShift, .int i, .int j => if CPow i j then some (.int (i * 2 ^ j.toNat)) else none
  | .RShift, .int i, .int j => if 0 ≤ j then some (.int (i / 2 ^ j.toNat)) else none
  | .BitAnd, .int i, .int j => some (.int (Builtin.bitAnd i j))
  | .BitOr, .int i, .int j => some (.int (Builtin.bitOr i j))
  | .BitXor, .int i, .int j => some (.int (Builtin.bitXor i j))
  | _, _, _ => none
def unD (o : UnaryOp) (x : D) : Option D := match o, x with
  | .USub, .int i => some (.int (-i))
  | .Invert, .int i => some (.int (Builtin.bitNot i))
  | _, _ => none

def flatD : D → Option V
  | .non => some .non
  | .bl b => some (.bl b)
  | .int i => some (.int i)
  | .str s => some (.str s)
  | _ => none
def flatDs : List D → Option (List V)
  | [] => some []
  | x :: xs => match flatD x, flatDs xs with
    | some p, some ps => some (p :: ps)
    | _, _ => none
def inD (x y : D) : Option Bool := match x, y with
  | .str a, .str b => some (!(Builtin.Str.occurrences b a 0 b.length 1).isEmpty)
  | x, .lst ys => match flatD x, flatDs ys with
    | some u, some us => some (inV u us)
    | _, _ => none
  | x, .tup ys => match flatD x, flatDs ys with
    | some u, some us => some (inV u us)
    | _, _ => none
  | _, _ => none
def cmpD (o : CmpOp) (x y : D) : Option Bool := match o, x, y with
  | .Eq, x, y => eqD x y
  | .NotEq, x, y => (eqD x y).map (!·)
  | .Lt, .int i, .int j => some (decide (i < j))
  | .LtE, .int i, .int j => some (decide (i ≤ j))
  | .Gt, .int i, .int j => some (decide (j < i))
  | .GtE, .int i, .int j => some (decide (j ≤ i))
  | .In, x, y => inD x y
  | .NotIn, x, y => (inD x y).map (!·)
  | .Is, .bl a, .bl b => some (decide (a = b))
  | .IsNot, .bl a, .bl b => some (!decide (a = b))
  | .Is, x, .non => (match x with | .non => some true | _ => some false)
  | .IsNot, x, .non => (match x with | .non => some false | _ => some true)
  | _, _, _ => none

def idxD (x i : D) : Option D := match x, i with
  | .lst xs, .int i => atI xs i
  | .tup xs, .int i => atI xs i
  | .str s, .int i => if s.length ≤ sizeLine then (atI s.cps.toList i).map fun c => .str ⟨#[c]⟩ else none
  | _, _ => none
def valD (kvs : List (Key × D)) (k : Key) : Option D := (kvs.find? fun kv => decide (kv.1 = k)).map (·.2)
def putD (kvs : List (Key × D)) (k : Key) (v : D) : List (Key × D) :=
  if (kvs.any fun kv => decide (kv.1 = k)) = true then kvs.map (fun kv => if kv.1 = k then (kv.1, v) else kv) else kvs ++ [(k, v)]
def getD (x k : D) : Option D := match x, k with
  | .dic kvs, .str s => valD kvs (.inr s)
  | .dic kvs, .int s => valD kvs (.inl s)
  | _, _ => none
def truD (x : D) : Option Bool := match x with
  | .non => some false
  | .bl b => some b
  | .int i => some (i != 0)
  | .str s => if s.length ≤ sizeLine then some (s.length != 0) else none
  | .lst xs => some (!xs.isEmpty)
  | .tup xs => some (!xs.isEmpty)
  | _ => none
def optI (x : D) : Option (Option Int) := match x with
  | .non => some none
  | .int i => some (some i)
  | _ => none
def lenD (x : D) : Option D := match x with
  | .lst xs => some (.int xs.length)
  | .tup xs => some (.int xs.length)
  | .scr xs => some (.int xs.length)
  | .str s => if s.length ≤ sizeLine then some (.int s.length) else none
  | .dic kvs => some (.int kvs.length)
  | _ => none

def cutD (xs : List D) (lo hi : Option Int) : List D := (xs.drop (HT.sIx xs.length 0 lo)).take (HT.sIx xs.length xs.length hi - HT.sIx xs.length 0 lo)
def slcD (l h : Option Int) (x : D) : Option D := match x with
  | .lst xs => some (.lst (cutD xs l h))
  | .tup xs => some (.tup (cutD xs l h))
  | _ => none
def prtD (e : E) (d : Option D) : Option (Option Int) := match e, d with
  | .c .non, _ => some none
  | _, some (.int i) => some (some i)
  | _, _ => none
def revD (x : D) : Option D := match x with
  | .lst xs => some (.lst xs.reverse)
  | _ => none
def attD (f : Str) (cs : List Str) (x : D) : Option D := match x with
  | .obj c fs => if c ∈ cs then fs.lookup f else none
  | _ => none
/-! ### pieces of the evaluator -/
def out1 (f : D → Option D) (r : R EV) : R EV := r.bind fun x e => match (cont e x).bind f with
  | some d => .ok (.sh d) e
  | none => .stuck
def out2 (f : D → D → Option D) (x y : EV) (e : List Slot) : R EV := match cont e x, cont e y with
  | some p, some q => (match f p q with
    | some d => .ok (.sh d) e
    | none => .stuck)
  | _, _ => .stuck
def shs : List EV → Option (List D)
  | [] => some []
  | .sh d :: xs => (shs xs).map (d :: ·)
  | _ :: _ => none
def conts (e : List Slot) : List EV → Option (List D)
  | [] => some []
  | x :: xs => match cont e x, conts e xs with
    | some d, some ds => some (d :: ds)
    | _, _ => none
def setAll : List Nat → List D → List Slot → List Slot
  | i :: is, d :: ds, e => setAll is ds (e.set i (.sh d))
  | _, _, e => e
def bindT (t : Tgt) (d : D) (e : List Slot) : Option (List Slot) := match t, d with
  | .nm i, d => if i < e.length then some (e.set i (.sh d)) else none
  | .tp is, .tup ds => if is.length = ds.length ∧ is.all (fun i => decide (i < e.length)) = true then some (setAll is ds e) else none
  | _, _ => none
def wipeE (e : List Slot) : List Nat → List Slot
  | [] => e
  | v :: vs => (wipeE e vs).set v .un
/-- the block's own slots as they stood outside -/
def backE (e o : List Slot) : List Nat → List Slot
  | [] => e
  | v :: vs => (backE e o vs).set v (o.getD v .un)
def ownsAny (e : List Slot) (vs : List Nat) : Bool := vs.any fun v => match e[v]? with
  | some s => s.own
  | none => false
def rngI (a b : Int) : List D := (List.range (b - a).toNat).map fun k => .int (a + (k : Nat))
def enmD : Nat → List D → List D
  | _, [] => []
  | k, d :: ds => .tup [.int (k : Int), d] :: enmD (k + 1) ds
def zipD : List D → List D → List D
  | x :: xs, y :: ys => .tup [x, y] :: zipD xs ys
  | _, _ => []
def itemsOf (k : ItK) (xs : List D) : Option (List D) := match k, xs with
  | .seq, [.lst ds] => some ds
  | .seq, [.tup ds] => some ds
  | .seq, [.scr ns] => some (ns.map .int)
  | .seq, [.str s] => some (s.cps.toList.map fun c => .str ⟨#[c]⟩)
  | .rng1, [.int n] => if -(2 ^ 62) ≤ n ∧ n < 2 ^ 62 then some (rngI 0 n) else none
  | .rng2, [.int a, .int b] => if -(2 ^ 62) ≤ a ∧ a < 2 ^ 62 ∧ -(2 ^ 62) ≤ b ∧ b < 2 ^ 62 then some (rngI a b) else none
  | .enm, [.lst ds] => some (enmD 0 ds)
  | .zip, [.lst a, .lst b] => some (zipD a b)
  | .zip, [.tup a, .tup b] => some (zipD a b)
  | _, _ => none
def loopC (turn : D → List Slot → R (Option D)) : List D → List D → List Slot → R (List D)
  | [], acc, e => .ok acc e
  | d :: ds, acc, e => match turn d e with
    | .ok none e' => loopC turn ds acc e'
    | .ok (some y) e' => if acc.length < sizeLine then loopC turn ds (acc ++ [y]) e' else .stuck
    | _ => .stuck
def upCt (e : List Slot) (i : Nat) (d : D) : List Slot := match e[i]? with
  | some (.ow _) => e.set i (.ow d)
  | some (.ln _) => e.set i (.ln d)
  | _ => e
/-- arguments as a callee gets them -/
def toSlot (e : List Slot) : EV → Option Slot
  | .sh d => some (.sh d)
  | .pl i => (cont e (.pl i)).map .ln
  | .fr d => some (.ln d)
def toSlots (e : List Slot) : List EV → Option (List Slot)
  | [] => some []
  | x :: xs => match toSlot e x, toSlots e xs with
    | some s, some ss => some (s :: ss)
    | _, _ => none
def plOf : EV → Option Nat
  | .pl i => some i
  | _ => none
def isFr : EV → Bool
  | .fr _ => true
  | _ => false
def isLend : E → Bool
  | .lend _ => true
  | _ => false
open Classical in
def argsOk (xs : List EV) : Bool := decide ((xs.filterMap plOf).Nodup) && decide ((xs.filter isFr).length ≤ 1)
/-- what the lent things are behind the call -/
def giveBack : List EV → List Slot → List Slot → List Slot
  | .pl i :: xs, .ln d :: ss, e => giveBack xs ss (upCt e i d)
  | _ :: xs, _ :: ss, e => giveBack xs ss e
  | _, _, e => e
def isiD (d : D) (t : Str) : Bool := match d with
  | .non => false
  | .bl _ => decide (t = "bool") || decide (t = "int")
  | .int _ => decide (t = "int")
  | .str _ => decide (t = "str")
  | .tup _ => decide (t = "tuple")
  | .lst _ => decide (t = "list")
  | .scr _ => decide (t = "list")
  | .dic _ => decide (t = "dict")
  | .obj c _ => decide (t = c)
  | .err c _ => decide (t = c)

def tru1 (x : EV) (e : List Slot) : R Bool := match (cont e x).bind truD with
  | some k => .ok k e
  | none => .stuck
def isiO (cs ts : List Str) (d : D) : Option D := match d with
  | .err _ _ => none
  | .obj c _ => if c ∈ cs then some (.bl (ts.any (isiD d))) else none
  | d => some (.bl (ts.any (isiD d)))
/-- a field of an exception object -/
def attEO (f : Str) (cs : List Str) (x : D) : Option D := match x with
  | .err c fs => if c ∈ cs then fs.lookup f else none
  | _ => none
/-- isinstance of exception objects: what is true of each class -/
def isiEO (cs : List (Str × Bool)) (x : D) : Option D := match x with
  | .err c _ => (cs.lookup c).map .bl
  | _ => none
def prtR (se : E) (r : R EV) : R (Option Int) := r.bind fun y e => match prtD se (cont e y) with
  | some o => .ok o e
  | none => .stuck
section
variable (B : Blt → List D → Option D) (F : Str → List Slot → CR)
def callE (f : Str) (xs : List EV) (e : List Slot) : R EV := if argsOk xs = true then (match toSlots e xs with
  | some ss => (match F f ss with
    | .ok d fin => .ok (.sh d) (giveBack xs fin e)
    | .new d fin => .ok (.sh d) (giveBack xs fin e)
    | .exc c fs fin => .exc c fs (giveBack xs fin e)
    | .stuck => .stuck)
  | none => .stuck) else .stuck
def callNE (f : Str) (xs : List EV) (e : List Slot) : R EV := if argsOk xs = true then (match toSlots e xs with
  | some ss => (match F f ss with
    | .new d fin => .ok (.sh d) (giveBack xs fin e)
    | .exc c fs fin => .exc c fs (giveBack xs fin e)
    | _ => .stuck)
  | none => .stuck) else .stuck
def makeE (c f : Str) (xs : List EV) (e : List Slot) : R EV := if argsOk (.fr (.obj c []) :: xs) = true then (match toSlots e xs with
  | some ss => (match F f (.ln (.obj c []) :: ss) with
    | .ok .non (.ln (.obj c' fs) :: fin) => if c' = c then .ok (.sh (.obj c fs)) (giveBack xs fin e) else .stuck
    | .exc c fs (_ :: fin) => .exc c fs (giveBack xs fin e)
    | _ => .stuck)
  | none => .stuck) else .stuck
mutual
def ev : E → List Slot → R EV
  | .var i, e => (match e[i]? with
    | some (.sh d) => .ok (.sh d) e
    | some (.ow _) => .ok (.pl i) e
    | some (.ln _) => .ok (.pl i) e
    | _ => .stuck)
  | .mv i, e => (match e[i]? with
    | some (.sh d) => .ok (.sh d) e
    | some (.ow d) => .ok (.sh d) (e.set i (.sh d))
    | _ => .stuck)
  | .c d, e => .ok (.sh d) e
  | .un o a, e => out1 (unD o) (ev a e)
  | .bin o a b, e => (ev a e).bind fun x e => (ev b e).bind fun y e => out2 (binD o) x y e
  | .cmp o a b, e => (ev a e).bind fun x e => (ev b e).bind fun y e => out2 (fun p q => (cmpD o p q).map .bl) x y e
  | .chain o o' a b c, e => (ev a e).bind fun x e => (ev b e).bind fun y e => match cont e x, cont e y with
    | some p, some q => (match cmpD o p q with
      | some true => (ev c e).bind fun z e => out2 (fun p q => (cmpD o' p q).map .bl) y z e
      | some false => .ok (.sh (.bl false)) e
      | none => .stuck)
    | _, _ => .stuck
  | .and a b, e => (ev a e).bind fun x e => match x with
    | .sh (.bl true) => ev b e
    | .sh (.bl false) => .ok (.sh (.bl false)) e
    | _ => .stuck
  | .or a b, e => (ev a e).bind fun x e => match x with
    | .sh (.bl false) => ev b e
    | .sh (.bl true) => .ok (.sh (.bl true)) e
    | _ => .stuck
  | .not a, e => (ev a e).bind fun x e => match x with
    | .sh (.bl b) => .ok (.sh (.bl (!b))) e
    | _ => .stuck
  | .ite c a b, e => (evT c e).bind fun k e => if k = true then ev a e else ev b e
  | .tup es, e => (evs es e).bind fun xs e => match shs xs with
    | some ds => if ds.length ≤ sizeLine then .ok (.sh (.tup ds)) e else .stuck
    | none => .stuck
  | .lst es, e => (evs es e).bind fun xs e => match shs xs with
    | some ds => if ds.length ≤ sizeLine then .ok (.sh (.lst ds)) e else .stuck
    | none => .stuck
  | .dct kvs, e => (evks kvs e).bind fun ds e => if ds.length ≤ 15 ∧ (ds.map (·.1)).Nodup then .ok (.sh (.dic ds)) e else .stuck
  | .idx a i, e => (ev a e).bind fun x e => (ev i e).bind fun y e => out2 idxD x y e
  | .dget a i, e => (ev a e).bind fun x e => (ev i e).bind fun y e => out2 getD x y e
  | .slc a lo hi, e => (ev a e).bind fun x e => (prtR lo (ev lo e)).bind fun l e => (prtR hi (ev hi e)).bind fun u e => out1 (slcD l u) (.ok x e)
  | .rev a, e => out1 revD (ev a e)
  | .att a f cs, e => out1 (attD f cs) (ev a e)
  | .isi a cs ts, e => out1 (isiO cs ts) (ev a e)
  | .blt f es, e => (evs es e).bind fun xs e => match conts e xs with
    | some ds => (match B f ds with
      | some d => .ok (.sh d) e
      | none => .stuck)
    | none => .stuck
  | .mth m a es, e => (ev a e).bind fun x e => (evs es e).bind fun xs e => match conts e (x :: xs) with
    | some ds => (match B m ds with
      | some d => .ok (.sh d) e
      | none => .stuck)
    | none => .stuck
  | .app i a, e => (match cont e (.pl i) with
    | some (.lst _) => (ev a e).bind fun x e => (match x, cont e (.pl i) with
      | .sh d, some (.lst ds) => if ds.length < sizeLine then .ok (.sh .non) (upCt e i (.lst (ds ++ [d]))) else .stuck
      | _, _ => .stuck)
    | _ => .stuck)
  | .call f es, e => (evs es e).bind fun xs e => callE F f xs e
  | .callN f es, e => (evs es e).bind fun xs e => callNE F f xs e
  | .make c f es, e => (evs es e).bind fun xs e => makeE F c f xs e
  | .err c fs es, e => (evs es e).bind fun xs e => match shs xs with
    | some ds => if ds.length = fs.length then .ok (.sh (.err c (fs.zip ds))) e else .stuck
    | none => .stuck
  | .attE a f cs, e => out1 (attEO f cs) (ev a e)
  | .isiE a t cs, e => out1 (isiEO cs) (ev a e)
  | .comp k src tg vs ifs elt, e => (evs src e).bind fun xs e => match (shs xs).bind (itemsOf k) with
    | some ds => if ownsAny e vs = true then .stuck else (loopC (fun d e => match bindT tg d (wipeE e vs) with
      | some e1 => (match evIfs ifs e1 with
        | .ok true e2 => (match ev elt e2 with
          | .ok (.sh y) e3 => .ok (some y) (backE e3 e vs)
          | _ => .stuck)
        | .ok false e2 => .ok none (backE e2 e vs)
        | _ => .stuck)
      | none => .stuck) ds [] e).bind fun ys e => .ok (.sh (.lst ys)) e
    | none => .stuck
  | .lend a, e => (ev a e).bind fun x e => match x with
    | .sh (.lst ds) => .ok (.fr (.lst ds)) e
    | .sh (.dic ds) => .ok (.fr (.dic ds)) e
    | _ => .stuck
def evT : E → List Slot → R Bool
  | .and a b, e => (evT a e).bind fun k e => if k = true then evT b e else .ok false e
  | .or a b, e => (evT a e).bind fun k e => if k = true then .ok true e else evT b e
  | .not a, e => (evT a e).bind fun k e => .ok (!k) e
  | a, e => (ev a e).bind tru1
def evs : List E → List Slot → R (List EV)
  | [], e => .ok [] e
  | a :: as, e => (ev a e).bind fun x e => if isFr x = true ∧ isLend a = false then .stuck else (evs as e).bind fun xs e => .ok (x :: xs) e
def evks : List (Key × E) → List Slot → R (List (Key × D))
  | [], e => .ok [] e
  | (k, a) :: as, e => (ev a e).bind fun x e => match x with
    | .sh d => (evks as e).bind fun xs e => .ok ((k, d) :: xs) e
    | _ => .stuck
def evIfs : List E → List Slot → R Bool
  | [], e => .ok true e
  | a :: as, e => (evT a e).bind fun k e => if k = true then evIfs as e else .ok false e
end
end
end Ow

end
end

section
set_option Elab.async false
set_option linter.all false
set_option maxRecDepth 100000
noncomputable section
namespace Ow
open PySem PySem.Spec L2

/-! ## what is wanted of an evaluation -/
section
variable {α β : Type} {T : Ent} {W : WX} {ε ε' : List Slot} {σ : St} {H H' : Hp} {O O' : Addr → Prop}
/-- an exception's fields, by its own dict -/
def ExR (K : Fr) (Hs H : Hp) (fs : List (Str × D)) (dx : Addr) : Prop := ∃ ws, H dx = some (.xd ws) ∧ ∀ p ∈ fs, ∃ v, ws.lookup p.1 = some v ∧ RV K Hs p.2 v
def Wp (T : Ent) (W : WX) (ε : List Slot) (σ : St) (H : Hp) (O : Addr → Prop) (r : R α) (k : α → List Slot → Hp → (Addr → Prop) → Prop) : Prop := match r with
  | .ok a ε' => ∀ H' O', StR T ε' σ H' O' → Sub ε ε' → Step ε σ H O H' O' → k a ε' H' O'
  | .exc c fs ε' => ∀ dx H' O', StR T ε' σ H' O' → Sub ε ε' → Step ε σ H O H' O' → ExR T.K (res H' O') H' fs dx → W (.ref (cA T.K c)) (some dx) σ H'
  | .stuck => False
theorem Wp.mono {r : R α} {k k' : α → List Slot → Hp → (Addr → Prop) → Prop} (h : Wp T W ε σ H O r k)
    (f : ∀ a ε' H' O', StR T ε' σ H' O' → Sub ε ε' → Step ε σ H O H' O' → k a ε' H' O' → k' a ε' H' O') : Wp T W ε σ H O r k' := by
  cases r with
  | ok a e => exact fun H' O' S u st => f a e H' O' S u st (h H' O' S u st)
  | exc c fs e => exact h
  | stuck => exact h
theorem Wp.bind {r : R α} {f : α → List Slot → R β} {k : β → List Slot → Hp → (Addr → Prop) → Prop} (S0 : StR T ε σ H O) (h : Wp T W ε σ H O (r.bind f) k) :
    Wp T W ε σ H O r (fun a ε' H' O' => Wp T W ε' σ H' O' (f a ε') k) := by
  cases r with
  | ok a e =>
    intro H' O' S u st
    show Wp T W e σ H' O' (f a e) k
    have h' : Wp T W ε σ H O (f a e) k := h
    revert h'
    cases f a e with
    | ok b e2 => exact fun h' H2 O2 S2 u2 st2 => h' H2 O2 S2 (u.trans u2) (st.trans S0 u st2)
    | exc c fs e2 => exact fun h' dx H2 O2 S2 u2 st2 => h' dx H2 O2 S2 (u.trans u2) (st.trans S0 u st2)
    | stuck => exact fun h' => h'
  | exc c fs e => exact h
  | stuck => exact h
theorem Wp.ok {a : α} {k : α → List Slot → Hp → (Addr → Prop) → Prop} (S : StR T ε σ H O) (h : Wp T W ε σ H O (.ok a ε) k) : k a ε H O := h H O S (Sub.refl _) (Step.refl _ _ _ _)
/-- behind new things -/
theorem StR.grow (S : StR T ε σ H O) (g : Same H H') : StR T ε σ H' O := by
  have hs : Same (res H O) (res H' O) := fun a o e => by
    obtain ⟨n, e⟩ := res_some.mp e
    exact res_some.mpr ⟨n, g _ _ e⟩
  refine ⟨S.len, S.old, S.mm, S.trk0, fun a h q => ?_, S.new, fun a o e n => g _ _ (S.frame a o e n), fun i s e => ?_, S.dist, S.lns⟩
  · cases z : H a with
    | none => exact S.trk a h z
    | some o => rw [g _ _ z] at q; cases q
  · have q := S.slot i s e
    cases s with
    | un => exact q
    | sh d =>
      obtain ⟨v, h1, h2⟩ := q
      exact ⟨v, h1, RV.same hs h2⟩
    | ow d =>
      obtain ⟨a, h1, h2, h3, h4⟩ := q
      exact ⟨a, h1, h2, h3, CtR.same hs (fun o => g a o) h4⟩
    | ln d =>
      obtain ⟨a, h1, h2, h4⟩ := q
      exact ⟨a, h1, h2, CtR.same hs (fun o => g a o) h4⟩
theorem same_stay (g : Same H H') {a : Addr} (h : H a ≠ none) : H' a ≠ none := fun q => by
  cases e : H a with
  | none => exact h e
  | some o => rw [g a o e] at q; cases q
theorem Step.grow (g : Same H H') : Step ε σ H O H' O := ⟨fun a o h _ => g a o h, fun a h => .inl h, fun a h => .inl h, fun a h => same_stay g h⟩
theorem same_upd {p : Addr} {o : HO} (h : H p = none) : Same H (upd H p o) := fun b u q => by rw [upd_ne (ne_of_none q h)]; exact q
theorem Same.refl (H : Hp) : Same H H := fun _ _ h => h
/-- a new thing is no one's -/
theorem StR.fresh (S : StR T ε σ H O) {p : Addr} (h : H p = none) : ¬ O p := fun q => S.trk p q h
theorem StR.fresh0 (S : StR T ε σ H O) {p : Addr} (h : H p = none) : T.H0 p = none := by
  cases e : T.H0 p with
  | none => rfl
  | some o =>
    by_cases m : T.M0 p
    · exact absurd h (S.trk p (S.old _ (S.mm _ m)))
    · rw [S.frame p o e m] at h; cases h
theorem res_upd {p : Addr} {o : HO} (h : ¬ O p) : res (upd H p o) O p = some o := res_some.mpr ⟨h, upd_same⟩
end

/-- an expression's reading by what it evaluates to -/
def SE (T : Ent) (W : WX) (B : Blt → List D → Option D) (F : Str → List Slot → CR) (se : E) : TE := fun σ H Q => ∃ ε O, StR T ε σ H O ∧
  Wp T W ε σ H O (ev B F se ε) fun x ε' H' O' => ∀ v, EvR T ε' σ H' O' x v → Q v H'
def ST (T : Ent) (W : WX) (B : Blt → List D → Option D) (F : Str → List Slot → CR) (se : E) : TT := fun σ H Q => ∃ ε O, StR T ε σ H O ∧
  Wp T W ε σ H O (evT B F se ε) fun k ε' H' O' => Q k H'
def EvRs (T : Ent) (ε : List Slot) (σ : St) (H : Hp) (O : Addr → Prop) : List EV → List V → Prop
  | [], vs => vs = []
  | x :: xs, vs => ∃ v r, vs = v :: r ∧ EvR T ε σ H O x v ∧ EvRs T ε σ H O xs r
/-- arguments: those whose places are still there hold; what is lent was not there ahead (Hs) -/
def EvOk (T : Ent) (ε : List Slot) (σ : St) (Hs H : Hp) (O : Addr → Prop) : List EV → List V → Prop
  | [], vs => vs = []
  | x :: xs, vs => ∃ v r, vs = v :: r ∧ ((cont ε x).isSome = true → EvR T ε σ H O x v) ∧ (∀ d a, x = .fr d → v = .ref a → Hs a = none) ∧ EvOk T ε σ Hs H O xs r
def SA (T : Ent) (W : WX) (B : Blt → List D → Option D) (F : Str → List Slot → CR) (es : List E) : TA := fun σ H Q => ∃ ε O, StR T ε σ H O ∧
  Wp T W ε σ H O (evs B F es ε) fun xs ε' H' O' => ∀ vs, EvOk T ε' σ H H' O' xs vs → Q vs H'

theorem _root_.L2.PE.imp {X : Cx} {e : Expr} {t t' : TE} (h : PE X e t) (f : ∀ σ H Q, t' σ H Q → t σ H Q) : PE X e t' := ⟨fun pins s σ H Q I q => h.run pins s σ H Q I (f σ H Q q)⟩
theorem _root_.L2.PT.imp {X : Cx} {e : Expr} {t t' : TT} (h : PT X e t) (f : ∀ σ H Q, t' σ H Q → t σ H Q) : PT X e t' := ⟨fun pins s σ H Q I q => h.run pins s σ H Q I (f σ H Q q)⟩
theorem _root_.L2.PW.imp {X : Cx} {e : Expr} {t t' : TT} (h : PW X e t) (f : ∀ σ H Q, t' σ H Q → t σ H Q) : PW X e t' := ⟨fun wh pins s σ H Q I q => h.run wh pins s σ H Q I (f σ H Q q)⟩
theorem _root_.L2.PA.imp {X : Cx} {e : List Expr} {t t' : TA} (h : PA X e t) (f : ∀ σ H Q, t' σ H Q → t σ H Q) : PA X e t' := ⟨fun pos pins s σ H Q I q => h.run pos pins s σ H Q I (f σ H Q q)⟩
theorem _root_.L2.PS.imp {X : Cx} {e : Stmt} {t t' : TS} (h : PS X e t) (f : ∀ D σ H, t' D σ H → t D σ H) : PS X e t' := ⟨fun pins s σ H D I q => h.run pins s σ H D I (f D σ H q)⟩
theorem _root_.L2.PSs.imp {X : Cx} {e : List Stmt} {t t' : TS} (h : PSs X e t) (f : ∀ D σ H, t' D σ H → t D σ H) : PSs X e t' := ⟨fun pins s σ H D I q => h.run pins s σ H D I (f D σ H q)⟩

section
variable {X : Cx} {T : Ent} {W : WX} {B : Blt → List D → Option D} {F : Str → List Slot → CR} {a b c : Expr} {sa sb sc : E} {pos : Pos}
variable {ε ε' : List Slot} {σ : St} {H H' : Hp} {O O' : Addr → Prop}

/-! ### one and two operands -/
/-- what a two-place operation does, said of data -/
def OpS (K : Fr) (f : D → D → Option D) (r : R2) : Prop := ∀ (H : Hp) (O : Addr → Prop) (p q d : D) (v w : V) (Q : VK), (∀ a, O a → H a ≠ none) → f p q = some d → TopV K H (res H O) p v → TopV K H (res H O) q w →
  (∀ v' H', Same H H' → RV K (res H' O) d v' → Q v' H') → r v w H Q
def UnS (K : Fr) (f : D → Option D) (r : V → Hp → VK → Prop) : Prop := ∀ (H : Hp) (O : Addr → Prop) (p d : D) (v : V) (Q : VK), (∀ a, O a → H a ≠ none) → f p = some d → TopV K H (res H O) p v →
  (∀ v' H', Same H H' → RV K (res H' O) d v' → Q v' H') → r v H Q
theorem bind_some {α β : Type} {o : Option α} {f : α → Option β} {d : β} (h : o.bind f = some d) : ∃ a, o = some a ∧ f a = some d := by
  cases o with
  | none => cases h
  | some a => exact ⟨a, rfl, h⟩
theorem out1_wp {f : D → Option D} {x : EV} {k : EV → List Slot → Hp → (Addr → Prop) → Prop} (h : Wp T W ε σ H O (out1 f (.ok x ε)) k) :
    ∃ p d, cont ε x = some p ∧ f p = some d ∧ Wp T W ε σ H O (.ok (.sh d) ε) k := by
  have h' : Wp T W ε σ H O (match (cont ε x).bind f with
    | some d => R.ok (EV.sh d) ε
    | none => .stuck) k := h
  cases e : cont ε x with
  | none => rw [e] at h'; exact h'.elim
  | some p =>
    rw [e] at h'
    cases e2 : f p with
    | none => rw [Option.bind_some, e2] at h'; exact h'.elim
    | some d => rw [Option.bind_some, e2] at h'; exact ⟨p, d, rfl, e2, h'⟩
theorem out2_wp {f : D → D → Option D} {x y : EV} {k : EV → List Slot → Hp → (Addr → Prop) → Prop} (h : Wp T W ε σ H O (out2 f x y ε) k) :
    ∃ p q d, cont ε x = some p ∧ cont ε y = some q ∧ f p q = some d ∧ Wp T W ε σ H O (.ok (.sh d) ε) k := by
  unfold out2 at h
  cases e : cont ε x with
  | none => rw [e] at h; exact h.elim
  | some p =>
    cases e2 : cont ε y with
    | none => rw [e, e2] at h; exact h.elim
    | some q =>
      rw [e, e2] at h
      cases e3 : f p q with
      | none => simp only [e3] at h; exact h.elim
      | some d => simp only [e3] at h; exact ⟨p, q, d, rfl, rfl, e3, h⟩
theorem done_wp {d : D} {Q : VK} (S : StR T ε σ H O) (h : Wp T W ε σ H O (.ok (.sh d) ε) fun x ε' H' O' => ∀ v, EvR T ε' σ H' O' x v → Q v H') :
    ∀ v' H', Same H H' → RV T.K (res H' O) d v' → Q v' H' := fun v' H' g r => h H' O (S.grow g) (Sub.refl _) (Step.grow g) v' r
theorem two_rd {o : D → D → Option D} {r : R2} (hr : OpS T.K o r) (h : ∃ ε O, StR T ε σ H O ∧ Wp T W ε σ H O ((ev B F sa ε).bind fun x e => (ev B F sb e).bind fun y e => out2 o x y e) fun x ε' H' O' => ∀ v, EvR T ε' σ H' O' x v → Q v H') :
    tOp r (SE T W B F sa) (SE T W B F sb) σ H Q := by
  obtain ⟨ε, O, S, h⟩ := h
  refine ⟨ε, O, S, (h.bind S).mono fun x ε1 H1 O1 S1 u1 st1 h1 v hv => ?_⟩
  refine ⟨ε1, O1, S1, (h1.bind S1).mono fun y ε2 H2 O2 S2 u2 st2 h2 w hw => ?_⟩
  obtain ⟨p, q, d, e1, e2, e3, h3⟩ := out2_wp h2
  have hv2 := hv.step S1 u2 st2 (by rw [e1]; rfl)
  exact hr H2 O2 p q d v w Q S2.trk e3 (hv2.top S2 e1) (hw.top S2 e2) (done_wp S2 h3)
theorem m_bin {op : Operator} {r : R2} (ho : OpR X (binaryOp op) r) (hr : OpS T.K (binD op) r) (ha : PE X a (SE T W B F sa)) (hb : PE X b (SE T W B F sb)) : PE X (.BinOp a op b pos) (SE T W B F (.bin op sa sb)) :=
  (pe_op ho ha hb).imp fun σ H Q h => two_rd hr (by simpa only [SE, ev] using h)
theorem m_cmp {op : CmpOp} {r : R2} (ho : OpR X (compareOp op) r) (hr : OpS T.K (fun p q => (cmpD op p q).map .bl) r) (ha : PE X a (SE T W B F sa)) (hb : PE X b (SE T W B F sb)) (hm : behindInMarks op b = false) : PE X (.Compare a [op] [b] pos) (SE T W B F (.cmp op sa sb)) :=
  (pe_cmpR ho ha hb hm).imp fun σ H Q h => two_rd hr (by simpa only [SE, ev] using h)
theorem m_ix {r : R2} (ho : IxR X r) (hr : OpS T.K idxD r) (ha : PE X a (SE T W B F sa)) (hb : PE X b (SE T W B F sb)) (hs : PlainIx b) : PE X (.Subscript a b pos) (SE T W B F (.idx sa sb)) :=
  (pe_ix ho ha hb hs).imp fun σ H Q h => two_rd hr (by simpa only [SE, ev] using h)
theorem one_rd {o : D → Option D} {r : V → Hp → VK → Prop} (hr : UnS T.K o r) (h : ∃ ε O, StR T ε σ H O ∧ Wp T W ε σ H O (out1 o (ev B F sa ε)) fun x ε' H' O' => ∀ v, EvR T ε' σ H' O' x v → Q v H') :
    tUn r (SE T W B F sa) σ H Q := by
  obtain ⟨ε, O, S, h⟩ := h
  refine ⟨ε, O, S, (h.bind S).mono fun x ε1 H1 O1 S1 u1 st1 h1 v hv => ?_⟩
  obtain ⟨p, d, e1, e3, h3⟩ := out1_wp h1
  exact hr H1 O1 p d v Q S1.trk e3 (hv.top S1 e1) (done_wp S1 h3)
theorem m_un {op : UnaryOp} {r : V → Hp → VK → Prop} (ho : UnR X (unaryOp op) r) (hr : UnS T.K (unD op) r) (ha : PE X a (SE T W B F sa)) : PE X (.UnaryOp op a pos) (SE T W B F (.un op sa)) :=
  (pe_un ho ha).imp fun σ H Q h => one_rd hr (by simpa only [SE, ev] using h)
end
end Ow

end
end

section
set_option Elab.async false
set_option linter.all false
set_option maxRecDepth 100000
noncomputable section
namespace Ow
open PySem PySem.Spec L2
section
variable {X : Cx} {T : Ent} {W : WX} {B : Blt → List D → Option D} {F : Str → List Slot → CR} {a b c e : Expr} {es : List Expr} {sa sb sc : E} {ss : List E} {pos : Pos}
variable {ε ε' : List Slot} {σ : St} {H H' : Hp} {O O' : Addr → Prop}

/-! ### names, constants -/
theorem m_var {i : Nat} {x : Str} (hN : X.N[i]? = some x) (hv : Vis X.env.scope x) (hd : (x == ("__debug__" : Str)) = false := by decide) (hcd : (x == ("__classdict__" : Str)) = false := by decide) : PE X (.Name x pos) (SE T W B F (.var i)) :=
  (pe_var hN hv hd hcd).imp fun σ H Q h => by
    obtain ⟨ε, O, S, h⟩ := h
    rw [ev] at h
    cases e : ε[i]? with
    | none => rw [e] at h; exact h.elim
    | some s =>
      rw [e] at h
      have q := S.slot i s e
      cases s with
      | un => exact h.elim
      | sh d =>
        obtain ⟨v, h1, h2⟩ := q
        exact ⟨v, h1, Wp.ok S h v h2⟩
      | ow d =>
        obtain ⟨p, h1, h2⟩ := q
        exact ⟨.ref p, h1, Wp.ok S h _ ⟨h1, _, e, rfl⟩⟩
      | ln d =>
        obtain ⟨p, h1, h2⟩ := q
        exact ⟨.ref p, h1, Wp.ok S h _ ⟨h1, _, e, rfl⟩⟩
/-- an owned thing becomes shared -/
theorem StR.letGo {i : Nat} {d : D} {p : Addr} (S : StR T ε σ H O) (e : ε[i]? = some (.ow d)) (hp : σ[i]? = some (some (.ref p))) :
    StR T (ε.set i (.sh d)) σ H (fun a => O a ∧ a ≠ p) ∧ RV T.K (res H fun a => O a ∧ a ≠ p) d (.ref p) := by
  have q := S.slot i _ e
  obtain ⟨p', h1, h2, h3, h4⟩ := q
  rw [hp] at h1
  obtain rfl : p = p' := by simpa using h1
  have up : Same (res H O) (res H fun a => O a ∧ a ≠ p) := fun a o z => by
    obtain ⟨n, z⟩ := res_some.mp z
    exact res_some.mpr ⟨fun w => n w.1, z⟩
  have lt : i < ε.length := (List.getElem?_eq_some_iff.mp e).1
  have rv : RV T.K (res H fun a => O a ∧ a ≠ p) d (.ref p) := by
    cases d with
    | lst ds => obtain ⟨vs, g1, g2⟩ := h4; exact ⟨p, vs, rfl, res_some.mpr ⟨fun w => w.2 rfl, g1⟩, RVs.same up g2⟩
    | dic ds => obtain ⟨vs, g1, g2⟩ := h4; exact ⟨p, vs, rfl, res_some.mpr ⟨fun w => w.2 rfl, g1⟩, RVk.same up g2⟩
    | obj c ds => obtain ⟨dx, vs, g1, g2⟩ := h4; exact ⟨p, dx, vs, rfl, res_some.mpr ⟨fun w => w.2 rfl, g1⟩, RVf.same up g2⟩
    | _ => exact h4.elim
  refine ⟨⟨by rw [List.length_set]; exact S.len, fun a h => ⟨S.old a h, fun w => ?_⟩, S.mm, S.trk0, fun a h => S.trk a h.1, fun a h => S.new a h.1, S.frame, fun j s ej => ?_, fun j k a s t ej ek hs ht g1 g2 => ?_, fun j d' ej => ?_⟩, rv⟩
  · subst w
    exact absurd h3 (S.trk0 _ h)
  · by_cases hj : j = i
    · subst hj
      rw [List.getElem?_set_self lt] at ej
      cases ej
      exact ⟨_, hp, rv⟩
    · rw [List.getElem?_set_ne (Ne.symm hj)] at ej
      have q := S.slot j s ej
      cases s with
      | un => exact q
      | sh d' => obtain ⟨v, g1, g2⟩ := q; exact ⟨v, g1, RV.same up g2⟩
      | ow d' =>
        obtain ⟨a, g1, g2, g3, g4⟩ := q
        refine ⟨a, g1, ⟨g2, fun w => ?_⟩, g3, CtR.same up (fun _ z => z) g4⟩
        subst w
        exact hj (S.dist j i a _ _ ej e rfl rfl g1 hp)
      | ln d' =>
        obtain ⟨a, g1, g2, g4⟩ := q
        exact ⟨a, g1, g2, CtR.same up (fun _ z => z) g4⟩
  · have nj : ∀ {j : Nat} {s : Slot}, (ε.set i (.sh d))[j]? = some s → s.own = true → ε[j]? = some s := fun {j s} ej hs => by
      by_cases hj : j = i
      · subst hj
        rw [List.getElem?_set_self lt] at ej
        cases ej
        cases hs
      · rw [List.getElem?_set_ne (Ne.symm hj)] at ej
        exact ej
    exact S.dist j k a s t (nj ej hs) (nj ek ht) hs ht g1 g2
  · by_cases hj : j = i
    · subst hj
      rw [List.getElem?_set_self lt] at ej
      cases ej
    · rw [List.getElem?_set_ne (Ne.symm hj)] at ej
      exact S.lns j d' ej
theorem m_mv {i : Nat} {x : Str} (hN : X.N[i]? = some x) (hv : Vis X.env.scope x) (hd : (x == ("__debug__" : Str)) = false := by decide) (hcd : (x == ("__classdict__" : Str)) = false := by decide) : PE X (.Name x pos) (SE T W B F (.mv i)) :=
  (pe_var hN hv hd hcd).imp fun σ H Q h => by
    obtain ⟨ε, O, S, h⟩ := h
    rw [ev] at h
    cases e : ε[i]? with
    | none => rw [e] at h; exact h.elim
    | some s =>
      rw [e] at h
      have q := S.slot i s e
      cases s with
      | un => exact h.elim
      | sh d =>
        obtain ⟨v, h1, h2⟩ := q
        exact ⟨v, h1, Wp.ok S h v h2⟩
      | ow d =>
        obtain ⟨p, h1, h2, h3, h4⟩ := q
        obtain ⟨S', rv⟩ := S.letGo e h1
        refine ⟨.ref p, h1, h H _ S' (fun j s ej hs => ?_) ⟨fun _ _ z _ => z, fun a z => .inl z.1, fun a z => ?_, fun _ z => z⟩ _ rv⟩
        · have lt : i < ε.length := (List.getElem?_eq_some_iff.mp e).1
          by_cases hj : j = i
          · subst hj
            rw [List.getElem?_set_self lt] at ej
            cases ej
            cases hs
          · rw [List.getElem?_set_ne (Ne.symm hj)] at ej
            exact ⟨s, ej, hs⟩
        · by_cases ha : a = p
          · subst ha
            exact .inr ⟨i, _, e, rfl, h1⟩
          · exact .inl ⟨z, ha⟩
      | ln d => exact h.elim
theorem m_const {d : D} {v : V} (hp : PE X e (tC v)) (hr : ∀ H, RV T.K H d v) : PE X e (SE T W B F (.c d)) :=
  hp.imp fun σ H Q h => by
    obtain ⟨ε, O, S, h⟩ := h
    rw [ev] at h
    exact Wp.ok S h v (hr _)
theorem m_int {i : Int} {j} : PE X (.Constant (.int i) j pos) (SE T W B F (.c (.int i))) := m_const pe_int fun _ => rfl
theorem m_bl {i : Bool} {j} : PE X (.Constant (.bool i) j pos) (SE T W B F (.c (.bl i))) := m_const pe_bl fun _ => rfl
theorem m_non {j} : PE X (.Constant .none j pos) (SE T W B F (.c .non)) := m_const pe_non fun _ => rfl
theorem m_str {i : Str} {j} : PE X (.Constant (.str i) j pos) (SE T W B F (.c (.str i))) := m_const pe_str fun _ => rfl

/-! ### argument lists -/
theorem EvOk.step {ε' : List Slot} {Hs Hs' : Hp} (S : StR T ε σ H O) (u : Sub ε ε') (st : Step ε σ H O H' O') (hs : ∀ a, Hs' a ≠ none → Hs a ≠ none) : ∀ {xs : List EV} {vs : List V}, EvOk T ε σ Hs H O xs vs → EvOk T ε' σ Hs' H' O' xs vs
  | [], _, h => h
  | x :: xs, vs, h => by
    obtain ⟨v, r, rfl, h1, h3, h2⟩ := h
    refine ⟨v, r, rfl, fun hc => ?_, fun d a ex ev => Classical.byContradiction fun n => hs a n (h3 d a ex ev), EvOk.step S u st hs h2⟩
    refine EvR.step S u st (h1 ?_) hc
    cases x with
    | sh d => rfl
    | fr d => rfl
    | pl i =>
      cases q : ε'[i]? with
      | none => simp [cont, q] at hc
      | some s =>
        have hs : s.own = true := by
          cases s with
          | un => simp [cont, q] at hc
          | sh _ => simp [cont, q] at hc
          | ow _ => rfl
          | ln _ => rfl
        obtain ⟨t, g1, g2⟩ := u i s q hs
        cases t with
        | un => cases g2
        | sh _ => cases g2
        | ow d => simp [cont, g1]
        | ln d => simp [cont, g1]
theorem m_nil : PA X [] (SA T W B F []) := pa_nil.imp fun σ H Q h => by
  obtain ⟨ε, O, S, h⟩ := h
  rw [evs] at h
  exact Wp.ok S h [] rfl
theorem EvOk.mono {Hs Hs' : Hp} (hs : ∀ a, Hs' a ≠ none → Hs a ≠ none) : ∀ {xs : List EV} {vs : List V}, EvOk T ε σ Hs H O xs vs → EvOk T ε σ Hs' H O xs vs
  | [], _, h => h
  | x :: xs, vs, h => by
    obtain ⟨v, r, rfl, h1, h3, h2⟩ := h
    exact ⟨v, r, rfl, h1, fun d a ex ev => Classical.byContradiction fun n => hs a n (h3 d a ex ev), EvOk.mono hs h2⟩
theorem m_cons (ha : PE X e (SE T W B F sa)) (hr : PA X es (SA T W B F ss)) (hn : isLend sa = false := by rfl) (hs : starEach (e :: es) X.env = (false, eval e X.env) :: starEach es X.env := by rfl) : PA X (e :: es) (SA T W B F (sa :: ss)) :=
  (pa_cons ha hr hs).imp fun σ H Q h => by
    obtain ⟨ε, O, S, h⟩ := h
    rw [evs] at h
    refine ⟨ε, O, S, (h.bind S).mono fun x ε1 H1 O1 S1 u1 st1 h1 v hv => ?_⟩
    by_cases hf : isFr x = true ∧ isLend sa = false
    · rw [if_pos hf] at h1
      exact h1.elim
    · rw [if_neg hf] at h1
      refine ⟨ε1, O1, S1, (h1.bind S1).mono fun xs ε2 H2 O2 S2 u2 st2 h2 vs hvs => ?_⟩
      refine Wp.ok S2 h2 (v :: vs) ⟨v, vs, rfl, fun hc => hv.step S1 u2 st2 hc, fun d a ex => ?_, hvs.mono st1.stay⟩
      subst ex
      exact absurd ⟨rfl, hn⟩ hf
theorem shs_rv {Hs : Hp} {K : Fr} : ∀ {xs : List EV} {ds : List D} {vs : List V}, shs xs = some ds → EvOk T ε σ Hs H O xs vs → RVs T.K (res H O) ds vs
  | [], ds, vs, h, g => by
    cases h
    exact g
  | .sh d :: xs, ds, vs, h, g => by
    obtain ⟨v, r, rfl, g1, _, g2⟩ := g
    cases e : shs xs with
    | none => simp [shs, e] at h
    | some ds' =>
      simp [shs, e] at h
      subst h
      exact ⟨v, r, rfl, g1 rfl, shs_rv (K := K) e g2⟩
  | .pl i :: xs, ds, vs, h, g => by cases h
  | .fr d :: xs, ds, vs, h, g => by cases h
theorem m_tup {x1} (h : PA X es (SA T W B F ss)) : PE X (.Tuple es x1 pos) (SE T W B F (.tup ss)) := (pe_tup h).imp fun σ H Q h => by
  obtain ⟨ε, O, S, h⟩ := h
  rw [ev] at h
  refine ⟨ε, O, S, (h.bind S).mono fun xs ε1 H1 O1 S1 u1 st1 h1 vs hvs => ?_⟩
  cases e : shs xs with
  | none => rw [e] at h1; exact h1.elim
  | some ds =>
    rw [e] at h1
    dsimp only at h1
    have rv := shs_rv (K := T.K) e hvs
    by_cases hl : ds.length ≤ sizeLine
    · rw [if_pos hl] at h1
      refine ⟨by rw [← rv.length]; exact hl, fun p hp => done_wp S1 h1 _ _ (same_upd hp) ⟨p, vs, rfl, .inl (.inl (res_upd (S1.fresh hp))), RVs.same (fun a o z => ?_) rv⟩⟩
      obtain ⟨n, z⟩ := res_some.mp z
      exact res_some.mpr ⟨n, same_upd hp _ _ z⟩
    · rw [if_neg hl] at h1
      exact h1.elim
/-! ### a thing that is made: wholly one's own -/
/-- p is new, no one's, and holds d -/
structure New (T : Ent) (ε : List Slot) (σ : St) (H H' : Hp) (O : Addr → Prop) (d : D) (p : Addr) : Prop where
  nh : H p = none
  same : Same H H'
  ct : CtR T.K H' (res H O) d p
def SN (T : Ent) (W : WX) (B : Blt → List D → Option D) (F : Str → List Slot → CR) (se : E) : TE := fun σ H Q => ∃ ε O, StR T ε σ H O ∧
  Wp T W ε σ H O (ev B F se ε) fun x ε' H' O' => ∀ d p H'', x = .sh d → New T ε' σ H' H'' O' d p → Q (.ref p) H''
theorem res_grow (g : Same H H') : Same (res H O) (res H' O) := fun a o e => by
  obtain ⟨n, e⟩ := res_some.mp e
  exact res_some.mpr ⟨n, g _ _ e⟩
theorem New.rv {d : D} {p : Addr} (S : StR T ε σ H O) (n : New T ε σ H H' O d p) : RV T.K (res H' O) d (.ref p) := by
  obtain ⟨nh, g, ct⟩ := n
  have np : ¬ O p := S.fresh nh
  cases d with
  | lst ds => obtain ⟨vs, g1, g2⟩ := ct; exact ⟨p, vs, rfl, res_some.mpr ⟨np, g1⟩, RVs.same (res_grow g) g2⟩
  | dic ds => obtain ⟨vs, g1, g2⟩ := ct; exact ⟨p, vs, rfl, res_some.mpr ⟨np, g1⟩, RVk.same (res_grow g) g2⟩
  | obj c ds => obtain ⟨dx, vs, g1, g2⟩ := ct; exact ⟨p, dx, vs, rfl, res_some.mpr ⟨np, g1⟩, RVf.same (res_grow g) g2⟩
  | _ => exact ct.elim
/-- a made thing as a shared value -/
theorem m_made (h : PE X e (SN T W B F sa)) : PE X e (SE T W B F sa) := h.imp fun σ H Q h => by
  obtain ⟨ε, O, S, h⟩ := h
  refine ⟨ε, O, S, ?_⟩
  revert h
  cases ev B F sa ε with
  | ok x ε1 =>
    intro h H1 O1 S1 u1 st1 d p H2 hx n
    subst hx
    exact h H2 O1 (S1.grow n.same) u1 (st1.trans S u1 (Step.grow n.same)) _ (n.rv S1)
  | exc c fs ε1 => exact fun h => h
  | stuck => exact fun h => h
theorem n_lst (h : PA X es (SA T W B F ss)) : PE X (.List es pos) (SN T W B F (.lst ss)) := (pe_lst h).imp fun σ H Q h => by
  obtain ⟨ε, O, S, h⟩ := h
  rw [ev] at h
  refine ⟨ε, O, S, (h.bind S).mono fun xs ε1 H1 O1 S1 u1 st1 h1 vs hvs => ?_⟩
  cases e : shs xs with
  | none => rw [e] at h1; exact h1.elim
  | some ds =>
    rw [e] at h1
    dsimp only at h1
    have rv := shs_rv (K := T.K) e hvs
    by_cases hl : ds.length ≤ sizeLine
    · rw [if_pos hl] at h1
      refine ⟨by rw [← rv.length]; exact hl, fun p hp => Wp.ok S1 h1 _ p _ rfl ⟨hp, same_upd hp, vs, upd_same, rv⟩⟩
    · rw [if_neg hl] at h1
      exact h1.elim
theorem m_lst (h : PA X es (SA T W B F ss)) : PE X (.List es pos) (SE T W B F (.lst ss)) := m_made (n_lst h)

/-! ### and, or, not, if .. else, tests -/
theorem m_one {op} (h : PE X a (SE T W B F sa)) : PE X (.BoolOp op [a] pos) (SE T W B F sa) := pe_one h
theorem m_and {rest : List Expr} (ha : PE X a (SE T W B F sa)) (hb : PE X (.BoolOp .And (b :: rest) pos) (SE T W B F sb)) : PE X (.BoolOp .And (a :: b :: rest) pos) (SE T W B F (.and sa sb)) := (pe_and ha hb).imp fun σ H Q h => by
  obtain ⟨ε, O, S, h⟩ := h
  rw [ev] at h
  refine ⟨ε, O, S, (h.bind S).mono fun x ε1 H1 O1 S1 u1 st1 h1 v hv => ?_⟩
  cases x with
  | pl i => exact h1.elim
  | fr d => exact h1.elim
  | sh d =>
    cases d with
    | bl k =>
      obtain rfl : v = .bl k := hv
      cases k with
      | true => exact ⟨true, rfl, (if_pos rfl).mpr ⟨ε1, O1, S1, h1⟩⟩
      | false => exact ⟨false, rfl, (if_neg (by decide)).mpr (Wp.ok S1 h1 _ rfl)⟩
    | _ => exact h1.elim
theorem m_or {rest : List Expr} (ha : PE X a (SE T W B F sa)) (hb : PE X (.BoolOp .Or (b :: rest) pos) (SE T W B F sb)) : PE X (.BoolOp .Or (a :: b :: rest) pos) (SE T W B F (.or sa sb)) := (pe_or ha hb).imp fun σ H Q h => by
  obtain ⟨ε, O, S, h⟩ := h
  rw [ev] at h
  refine ⟨ε, O, S, (h.bind S).mono fun x ε1 H1 O1 S1 u1 st1 h1 v hv => ?_⟩
  cases x with
  | pl i => exact h1.elim
  | fr d => exact h1.elim
  | sh d =>
    cases d with
    | bl k =>
      obtain rfl : v = .bl k := hv
      cases k with
      | true => exact ⟨true, rfl, (if_pos rfl).mpr (Wp.ok S1 h1 _ rfl)⟩
      | false => exact ⟨false, rfl, (if_neg (by decide)).mpr ⟨ε1, O1, S1, h1⟩⟩
    | _ => exact h1.elim
theorem m_not (ha : PE X a (SE T W B F sa)) : PE X (.UnaryOp .Not a pos) (SE T W B F (.not sa)) := (pe_not ha).imp fun σ H Q h => by
  obtain ⟨ε, O, S, h⟩ := h
  rw [ev] at h
  refine ⟨ε, O, S, (h.bind S).mono fun x ε1 H1 O1 S1 u1 st1 h1 v hv => ?_⟩
  cases x with
  | pl i => exact h1.elim
  | fr d => exact h1.elim
  | sh d =>
    cases d with
    | bl k =>
      obtain rfl : v = .bl k := hv
      exact ⟨k, rfl, Wp.ok S1 h1 _ rfl⟩
    | _ => exact h1.elim
theorem m_ite (hc : PT X c (ST T W B F sc)) (ha : PE X a (SE T W B F sa)) (hb : PE X b (SE T W B F sb)) : PE X (.IfExp c a b pos) (SE T W B F (.ite sc sa sb)) := (pe_ifExp hc ha hb).imp fun σ H Q h => by
  obtain ⟨ε, O, S, h⟩ := h
  rw [ev] at h
  refine ⟨ε, O, S, (h.bind S).mono fun k ε1 H1 O1 S1 u1 st1 h1 => ?_⟩
  cases k with
  | true => exact (if_pos rfl).mpr ⟨ε1, O1, S1, by rw [if_pos rfl] at h1; exact h1⟩
  | false => exact (if_neg (by decide)).mpr ⟨ε1, O1, S1, by rw [if_neg (by decide)] at h1; exact h1⟩
/-- the plain words of a test -/
def plainT : E → Bool
  | .and _ _ => false | .or _ _ => false | .not _ => false | _ => true
theorem evT_plain {e : E} (h : plainT e = true) : evT B F e ε = (ev B F e ε).bind tru1 := by
  cases e <;> first | (cases h; done) | simp only [evT]
theorem truV_of {K : Fr} {d : D} {k : Bool} {v : V} (h : truD d = some k) (t : TopV K H (res H O) d v) : TruV K v H k := by
  cases d with
  | non =>
    obtain rfl : v = .non := t
    cases h
    rfl
  | bl b =>
    obtain rfl : v = .bl b := t
    cases h
    rfl
  | int i =>
    obtain rfl : v = .int i := t
    cases h
    rfl
  | str s =>
    obtain rfl : v = .str s := t
    unfold truD at h
    by_cases hl : s.length ≤ sizeLine
    · simp only [hl, if_true] at h
      refine ⟨hl, ?_⟩
      rw [← Option.some.inj h]
      cases s.length <;> rfl
    · simp [hl] at h
  | tup ds =>
    obtain ⟨p, vs, rfl, h1, h2⟩ := t
    cases h
    refine .inr (.inl ⟨vs, Ow.Same.sqt res_same h1, ?_⟩)
    have := h2.length
    cases ds <;> cases vs <;> simp_all
  | lst ds =>
    obtain ⟨p, vs, rfl, h1, h2⟩ := t
    cases h
    refine .inl ⟨vs, SqL.of h1, ?_⟩
    have := h2.length
    cases ds <;> cases vs <;> simp_all
  | _ => cases h
theorem t_plain (ha : PE X a (SE T W B F sa)) (hp : plainT sa = true) (he : ∀ whole, isTrue a X.env whole = (do let v ← whole; standAt a.pos; holding [v] (truthy v))) (hK : X.K = T.K) : PT X a (ST T W B F sa) := (pt_truth ha he).imp fun σ H Q h => by
  obtain ⟨ε, O, S, h⟩ := h
  rw [evT_plain hp] at h
  refine ⟨ε, O, S, (h.bind S).mono fun x ε1 H1 O1 S1 u1 st1 h1 v hv => ?_⟩
  cases e1 : cont ε1 x with
  | none => unfold tru1 at h1; rw [e1] at h1; exact h1.elim
  | some d =>
    unfold tru1 at h1
    rw [e1] at h1
    cases e2 : truD d with
    | none => rw [Option.bind_some, e2] at h1; exact h1.elim
    | some k =>
      rw [Option.bind_some, e2] at h1
      exact ⟨k, by rw [hK]; exact truV_of e2 (hv.top S1 e1), Wp.ok S1 h1⟩
theorem t_not (ha : PT X a (ST T W B F sa)) : PT X (.UnaryOp .Not a pos) (ST T W B F (.not sa)) := (pt_not ha).imp fun σ H Q h => by
  obtain ⟨ε, O, S, h⟩ := h
  rw [evT] at h
  exact ⟨ε, O, S, (h.bind S).mono fun x ε1 H1 O1 S1 u1 st1 h1 => Wp.ok S1 h1⟩
def SWt (T : Ent) (W : WX) (B : Blt → List D → Option D) (F : Str → List Slot → CR) (se : E) : TT := ST T W B F se
theorem w_and1 (ha : PT X a (ST T W B F sa)) : PW X (.BoolOp .And [a] pos) (ST T W B F sa) := pw_and1 ha
theorem w_or1 (ha : PT X a (ST T W B F sa)) : PW X (.BoolOp .Or [a] pos) (ST T W B F sa) := pw_or1 ha
theorem w_and {rest : List Expr} (ha : PT X a (ST T W B F sa)) (hb : PW X (.BoolOp .And (b :: rest) pos) (ST T W B F sb)) : PW X (.BoolOp .And (a :: b :: rest) pos) (ST T W B F (.and sa sb)) := (pw_and ha hb).imp fun σ H Q h => by
  obtain ⟨ε, O, S, h⟩ := h
  rw [evT] at h
  refine ⟨ε, O, S, (h.bind S).mono fun k ε1 H1 O1 S1 u1 st1 h1 => ?_⟩
  cases k with
  | true => exact (if_pos rfl).mpr ⟨ε1, O1, S1, by rw [if_pos rfl] at h1; exact h1⟩
  | false => exact (if_neg (by decide)).mpr (Wp.ok S1 (by rw [if_neg (by decide)] at h1; exact h1))
theorem w_or {rest : List Expr} (ha : PT X a (ST T W B F sa)) (hb : PW X (.BoolOp .Or (b :: rest) pos) (ST T W B F sb)) : PW X (.BoolOp .Or (a :: b :: rest) pos) (ST T W B F (.or sa sb)) := (pw_or ha hb).imp fun σ H Q h => by
  obtain ⟨ε, O, S, h⟩ := h
  rw [evT] at h
  refine ⟨ε, O, S, (h.bind S).mono fun k ε1 H1 O1 S1 u1 st1 h1 => ?_⟩
  cases k with
  | true => exact (if_pos rfl).mpr (Wp.ok S1 (by rw [if_pos rfl] at h1; exact h1))
  | false => exact (if_neg (by decide)).mpr ⟨ε1, O1, S1, by rw [if_neg (by decide)] at h1; exact h1⟩
end
end Ow

end
end

section
set_option Elab.async false
set_option linter.all false
set_option maxRecDepth 100000
noncomputable section
namespace Ow
open PySem PySem.Spec L2
section
variable {X : Cx} {T : Ent} {W : WX} {B : Blt → List D → Option D} {F : Str → List Slot → CR} {a b c e : Expr} {es : List Expr} {sa sb sc : E} {ss : List E} {pos : Pos}
variable {ε ε' : List Slot} {σ : St} {H H' : Hp} {O O' : Addr → Prop}

/-! ### what is made is lent -/
def addO (O : Addr → Prop) (p : Addr) : Addr → Prop := fun a => O a ∨ a = p
theorem res_add {p : Addr} (hp : H p = none) (g : Same H H') : Same (res H O) (res H' (addO O p)) := fun a o e => by
  obtain ⟨n, e⟩ := res_some.mp e
  refine res_some.mpr ⟨fun q => ?_, g _ _ e⟩
  rcases q with q | q
  · exact n q
  · rw [q, hp] at e
    cases e
theorem StR.add {p : Addr} (S : StR T ε σ H O) (hp : H p = none) (g : Same H H') (hq : H' p ≠ none) : StR T ε σ H' (addO O p) := by
  have rs := res_add (O := O) hp g
  refine ⟨S.len, fun a h => .inl (S.old a h), S.mm, S.trk0, fun a h => ?_, fun a h => ?_, fun a o e n => g _ _ (S.frame a o e n), fun i s e => ?_, S.dist, S.lns⟩
  · rcases h with h | h
    · exact same_stay g (S.trk a h)
    · rw [h]
      exact hq
  · rcases h with h | h
    · exact S.new a h
    · rw [h]
      exact .inr (S.fresh0 hp)
  · have q := S.slot i s e
    cases s with
    | un => exact q
    | sh d => obtain ⟨v, h1, h2⟩ := q; exact ⟨v, h1, RV.same rs h2⟩
    | ow d => obtain ⟨a, h1, h2, h3, h4⟩ := q; exact ⟨a, h1, .inl h2, h3, CtR.same rs (fun o => g a o) h4⟩
    | ln d => obtain ⟨a, h1, h2, h4⟩ := q; exact ⟨a, h1, h2, CtR.same rs (fun o => g a o) h4⟩
theorem Step.add {p : Addr} (hp : H p = none) (g : Same H H') : Step ε σ H O H' (addO O p) :=
  ⟨fun a o h _ => g a o h, fun a h => by
    rcases h with h | h
    · exact .inl h
    · exact .inr (by rw [h]; exact hp), fun a h => .inl (.inl h), fun a h => same_stay g h⟩
theorem CtR.some {d : D} {p : Addr} {K : Fr} {Hs : Hp} (h : CtR K H Hs d p) : H p ≠ none := fun q => by
  cases d with
  | lst ds => obtain ⟨vs, g1, g2⟩ := h; rw [q] at g1; cases g1
  | dic ds => obtain ⟨vs, g1, g2⟩ := h; rw [q] at g1; cases g1
  | obj c ds => obtain ⟨dx, vs, g1, g2⟩ := h; rw [q] at g1; cases g1
  | _ => exact h.elim
theorem CtR.sub {d : D} {p : Addr} {K : Fr} {Hs Hs' : Hp} (g : Same Hs Hs') (h : CtR K H Hs d p) : CtR K H Hs' d p := by
  cases d with
  | lst ds => obtain ⟨vs, g1, g2⟩ := h; exact ⟨vs, g1, RVs.same g g2⟩
  | dic ds => obtain ⟨vs, g1, g2⟩ := h; exact ⟨vs, g1, RVk.same g g2⟩
  | obj c ds => obtain ⟨dx, vs, g1, g2⟩ := h; exact ⟨dx, vs, g1, RVf.same g g2⟩
  | _ => exact h.elim
theorem StR.notOwn (S : StR T ε σ H O) {p : Addr} (hp : H p = none) : ¬ Own ε σ p := fun w => S.trk p (S.ownO w) hp
theorem m_consL (ha : PE X e (SN T W B F sa)) (hr : PA X es (SA T W B F ss)) (hs : starEach (e :: es) X.env = (false, eval e X.env) :: starEach es X.env := by rfl) : PA X (e :: es) (SA T W B F (.lend sa :: ss)) :=
  (pa_cons ha hr hs).imp fun σ H Q h => by
    obtain ⟨ε, O, S, h⟩ := h
    rw [evs, ev] at h
    have h := h.bind S
    refine ⟨ε, O, S, (h.bind S).mono fun x ε1 H1 O1 S1 u1 st1 h1 d p H2 hx n => ?_⟩
    subst hx
    have S2 := S1.add n.nh n.same n.ct.some
    have st2 : Step ε σ H O H2 (addO O1 p) := st1.trans S u1 (Step.add n.nh n.same)
    have fr : ∀ d', d' = d → EvR T ε1 σ H2 (addO O1 p) (.fr d') (.ref p) := fun d' ed => by
      subst ed
      exact ⟨p, rfl, .inr rfl, S1.fresh0 n.nh, n.ct.sub (res_add n.nh n.same), S1.notOwn n.nh⟩
    have hn : H p = none := Classical.byContradiction fun q => st1.stay p q n.nh
    have go : ∀ d', d' = d → Wp T W ε1 σ H1 O1 (if isFr (EV.fr d') = true ∧ isLend (E.lend sa) = false then .stuck else (evs B F ss ε1).bind fun xs e => .ok (EV.fr d' :: xs) e) (fun xs ε' H' O' => ∀ vs, EvOk T ε' σ H H' O' xs vs → Q vs H') → SA T W B F ss σ H2 fun vs H3 => Q (V.ref p :: vs) H3 := fun d' ed g' => by
      rw [if_neg (fun z => by have z2 : true = false := z.2; cases z2)] at g'
      refine ⟨ε1, addO O1 p, S2, ?_⟩
      revert g'
      cases evs B F ss ε1 with
      | ok xs ε2 =>
        intro g' H3 O3 S3 u3 st3 vs hvs
        have st3' : Step ε1 σ H1 O1 H3 O3 := (Step.add n.nh n.same).trans S1 (Sub.refl _) st3
        refine g' H3 O3 S3 u3 st3' (V.ref p :: vs) ⟨_, vs, rfl, fun hc => (fr d' ed).step S2 u3 st3 hc, fun d2 a _ ea => ?_, hvs.mono fun a q => same_stay n.same (st1.stay a q)⟩
        cases ea
        exact hn
      | exc c fs ε2 => exact fun g' dx H3 O3 S3 u3 st3 => g' dx H3 O3 S3 u3 ((Step.add n.nh n.same).trans S1 (Sub.refl _) st3)
      | stuck => exact fun g' => g'
    cases d with
    | lst ds => exact go _ rfl (Wp.ok S1 h1)
    | dic ds => exact go _ rfl (Wp.ok S1 h1)
    | _ => exact h1.elim
end
end Ow

end
end

section
set_option Elab.async false
set_option linter.all false
set_option maxRecDepth 100000
noncomputable section
namespace Ow
open PySem PySem.Spec L2

/-! ## calls of the text's own defs -/
def Lent (ss : List Slot) (vs : List V) (a : Addr) : Prop := ∃ (i : Nat) (d : D), ss[i]? = some (.ln d) ∧ vs[i]? = some (.ref a)
structure CallPre (K : Fr) (H : Hp) (O : Addr → Prop) (ss : List Slot) (vs : List V) : Prop where
  trk : ∀ a, O a → H a ≠ none
  len : ss.length = vs.length
  sh : ∀ (i : Nat) (d : D), ss[i]? = some (.sh d) → ∃ v, vs[i]? = some v ∧ RV K (res H O) d v
  ln : ∀ (i : Nat) (d : D), ss[i]? = some (.ln d) → ∃ a, vs[i]? = some (.ref a) ∧ O a ∧ CtR K H (res H O) d a
  kind : ∀ (i : Nat) (s : Slot), ss[i]? = some s → (∃ d, s = .sh d) ∨ ∃ d, s = .ln d
  dist : ∀ (i j : Nat) (d d' : D) (a : Addr), ss[i]? = some (.ln d) → ss[j]? = some (.ln d') → vs[i]? = some (.ref a) → vs[j]? = some (.ref a) → i = j
structure Kept (H H' : Hp) (M : Addr → Prop) : Prop where
  keep : ∀ a o, H a = some o → ¬ M a → H' a = some o
  stay : ∀ a, H a ≠ none → H' a ≠ none
def FinR (K : Fr) (H' : Hp) (O : Addr → Prop) (ss : List Slot) (vs : List V) (fin : List Slot) : Prop :=
  fin.length = ss.length ∧ ∀ (i : Nat) (d : D), ss[i]? = some (.ln d) → ∃ d' a, fin[i]? = some (.ln d') ∧ vs[i]? = some (.ref a) ∧ CtR K H' (res H' O) d' a
/-- the promise of the def f, by what it evaluates to -/
def SpC (K : Fr) (r : List Slot → CR) : Sp := fun vs H Q E => ∃ O ss, CallPre K H O ss vs ∧ match r ss with
  | .ok d fin => ∀ v H', Kept H H' (Lent ss vs) → RV K (res H' O) d v → FinR K H' O ss vs fin → Q v H'
  | .new d fin => ∀ p Hx H', Kept H Hx (Lent ss vs) → FinR K Hx O ss vs fin → Hx p = none → Same Hx H' → CtR K H' (res Hx O) d p → Q (.ref p) H'
  | .exc c fs fin => ∀ dx H', Kept H H' (Lent ss vs) → ExR K (res H' O) H' fs dx → FinR K H' O ss vs fin → E (.ref (cA K c)) (some dx) H'
  | .stuck => False
def SpF (K : Fr) (F : Str → List Slot → CR) (n : Nat) (f : Str) : Sp := fun vs H Q E => vs.length = n ∧ SpC K (F f) vs H Q E

section
variable {X : Cx} {T : Ent} {W : WX} {B : Blt → List D → Option D} {F : Str → List Slot → CR} {a b c e : Expr} {es : List Expr} {sa sb sc : E} {ss : List E} {pos : Pos}
variable {ε ε' : List Slot} {σ : St} {H H' Hs : Hp} {O O' : Addr → Prop}

theorem toSlots_len : ∀ {xs : List EV} {ss : List Slot}, toSlots ε xs = some ss → ss.length = xs.length
  | [], ss, h => by cases h; rfl
  | x :: xs, ss, h => by
    unfold toSlots at h
    cases e1 : toSlot ε x with
    | none => rw [e1] at h; cases h
    | some s =>
      cases e2 : toSlots ε xs with
      | none => rw [e1, e2] at h; cases h
      | some r =>
        rw [e1, e2] at h
        cases h
        simp [toSlots_len e2]
theorem toSlots_get : ∀ {xs : List EV} {ss : List Slot} {i : Nat} {s : Slot}, toSlots ε xs = some ss → ss[i]? = some s → ∃ x, xs[i]? = some x ∧ toSlot ε x = some s
  | [], ss, i, s, h, g => by cases h; simp at g
  | x :: xs, ss, i, s, h, g => by
    unfold toSlots at h
    cases e1 : toSlot ε x with
    | none => rw [e1] at h; cases h
    | some s0 =>
      cases e2 : toSlots ε xs with
      | none => rw [e1, e2] at h; cases h
      | some r =>
        rw [e1, e2] at h
        cases h
        cases i with
        | zero =>
          have : s0 = s := by simpa using g
          subst this
          exact ⟨x, by simp, e1⟩
        | succ i =>
          obtain ⟨y, g1, g2⟩ := toSlots_get (i := i) (s := s) e2 (by simpa using g)
          exact ⟨y, by simpa using g1, g2⟩
theorem EvOk.len : ∀ {xs : List EV} {vs : List V}, EvOk T ε σ Hs H O xs vs → vs.length = xs.length
  | [], _, h => by rw [show _ = [] from h]; rfl
  | x :: xs, vs, h => by
    obtain ⟨v, r, rfl, _, _, h2⟩ := h
    simp [h2.len]
theorem EvOk.get : ∀ {xs : List EV} {vs : List V} {i : Nat} {x : EV}, EvOk T ε σ Hs H O xs vs → xs[i]? = some x → ∃ v, vs[i]? = some v ∧ ((cont ε x).isSome = true → EvR T ε σ H O x v) ∧ ∀ d a, x = .fr d → v = .ref a → Hs a = none
  | [], _, i, x, h, g => by simp at g
  | y :: xs, vs, i, x, h, g => by
    obtain ⟨v, r, rfl, h1, h3, h2⟩ := h
    cases i with
    | zero =>
      have : y = x := by simpa using g
      subst this
      exact ⟨v, by simp, h1, h3⟩
    | succ i =>
      obtain ⟨w, q1, q2⟩ := h2.get (i := i) (x := x) (by simpa using g)
      exact ⟨w, by simpa using q1, q2⟩
theorem toSlot_cont {x : EV} {s : Slot} (h : toSlot ε x = some s) : (cont ε x).isSome = true := by
  cases x with
  | sh d => rfl
  | fr d => rfl
  | pl i =>
    have h' : (cont ε (.pl i)).map Slot.ln = some s := h
    cases e : cont ε (.pl i) with
    | none => rw [e] at h'; cases h'
    | some d => rfl
theorem pl_inj : ∀ {xs : List EV} {i j k : Nat}, (xs.filterMap plOf).Nodup → xs[i]? = some (.pl k) → xs[j]? = some (.pl k) → i = j
  | [], i, j, k, h, g1, g2 => by simp at g1
  | x :: xs, i, j, k, h, g1, g2 => by
    have mem : ∀ {m : Nat}, xs[m]? = some (.pl k) → k ∈ xs.filterMap plOf := fun {m} g => List.mem_filterMap.mpr ⟨.pl k, List.mem_of_getElem? g, rfl⟩
    have nd : (xs.filterMap plOf).Nodup := by
      cases x with
      | pl l => exact (List.nodup_cons.mp (show (l :: xs.filterMap plOf).Nodup from h)).2
      | sh _ => exact h
      | fr _ => exact h
    cases i with
    | zero =>
      have ex : x = .pl k := by simpa using g1
      subst ex
      cases j with
      | zero => rfl
      | succ j => exact absurd (mem (m := j) (by simpa using g2)) (List.nodup_cons.mp (show (k :: xs.filterMap plOf).Nodup from h)).1
    | succ i =>
      cases j with
      | zero =>
        have ex : x = .pl k := by simpa using g2
        subst ex
        exact absurd (mem (m := i) (by simpa using g1)) (List.nodup_cons.mp (show (k :: xs.filterMap plOf).Nodup from h)).1
      | succ j => rw [pl_inj (i := i) (j := j) nd (by simpa using g1) (by simpa using g2)]
theorem fr_one : ∀ {xs : List EV} {i j : Nat} {d d' : D}, (xs.filter isFr).length ≤ 1 → xs[i]? = some (.fr d) → xs[j]? = some (.fr d') → i = j
  | [], i, j, d, d', h, g1, g2 => by simp at g1
  | x :: xs, i, j, d, d', h, g1, g2 => by
    have mem : ∀ {m : Nat} {d : D}, xs[m]? = some (.fr d) → 0 < (xs.filter isFr).length := fun {m d} g => List.length_pos_iff_exists_mem.mpr ⟨.fr d, List.mem_filter.mpr ⟨List.mem_of_getElem? g, rfl⟩⟩
    cases i with
    | zero =>
      have ex : x = .fr d := by simpa using g1
      subst ex
      cases j with
      | zero => rfl
      | succ j =>
        have := mem (m := j) (d := d') (by simpa using g2)
        have h2 : (xs.filter isFr).length + 1 ≤ 1 := h
        omega
    | succ i =>
      cases j with
      | zero =>
        have ex : x = .fr d' := by simpa using g2
        subst ex
        have := mem (m := i) (d := d) (by simpa using g1)
        have h2 : (xs.filter isFr).length + 1 ≤ 1 := h
        omega
      | succ j =>
        have : (xs.filter isFr).length ≤ 1 := by
          cases x with
          | fr d0 =>
            have h2 : (xs.filter isFr).length + 1 ≤ 1 := h
            omega
          | sh _ => exact h
          | pl _ => exact h
        rw [fr_one (i := i) (j := j) this (by simpa using g1) (by simpa using g2)]
theorem argsOk_iff {xs : List EV} (h : argsOk xs = true) : (xs.filterMap plOf).Nodup ∧ (xs.filter isFr).length ≤ 1 := by
  unfold argsOk at h
  simpa using h
/-- what stands behind a lent argument -/
theorem lent_of {x : EV} {v : V} {d : D} (S : StR T ε σ H O) (r : EvR T ε σ H O x v) (h : toSlot ε x = some (.ln d)) :
    ∃ p, v = .ref p ∧ O p ∧ CtR T.K H (res H O) d p ∧ ((∃ k s, x = .pl k ∧ ε[k]? = some s ∧ s.own = true ∧ σ[k]? = some (some (.ref p))) ∨ (∃ d', x = .fr d') ∧ ¬ Own ε σ p) := by
  cases x with
  | sh d' => cases h
  | fr d' =>
    obtain ⟨p, rfl, h1, h2, h3, h4⟩ := r
    cases h
    exact ⟨p, rfl, h1, h3, .inr ⟨⟨_, rfl⟩, h4⟩⟩
  | pl k =>
    obtain ⟨g1, s, g2, g3⟩ := r
    have q := S.slot k s g2
    cases s with
    | un => cases g3
    | sh _ => cases g3
    | ow d' =>
      have ed : d' = d := by
        have h' : (cont ε (.pl k)).map Slot.ln = some (.ln d) := h
        simpa [cont, g2] using h'
      subst ed
      obtain ⟨p, q1, q2, q3, q4⟩ := q
      rw [g1] at q1
      cases q1
      exact ⟨p, rfl, q2, q4, .inl ⟨k, _, rfl, g2, rfl, g1⟩⟩
    | ln d' =>
      have ed : d' = d := by
        have h' : (cont ε (.pl k)).map Slot.ln = some (.ln d) := h
        simpa [cont, g2] using h'
      subst ed
      obtain ⟨p, q1, q2, q4⟩ := q
      rw [g1] at q1
      cases q1
      exact ⟨p, rfl, S.old _ (S.mm _ q2), q4, .inl ⟨k, _, rfl, g2, rfl, g1⟩⟩
theorem call_pre {xs : List EV} {vs : List V} {ss : List Slot} (S : StR T ε σ H O) (ok : argsOk xs = true) (r : EvOk T ε σ Hs H O xs vs) (h : toSlots ε xs = some ss) : CallPre T.K H O ss vs := by
  obtain ⟨ok1, ok2⟩ := argsOk_iff ok
  have lent : ∀ (i : Nat) (d : D), ss[i]? = some (.ln d) → ∃ x p, xs[i]? = some x ∧ vs[i]? = some (.ref p) ∧ O p ∧ CtR T.K H (res H O) d p ∧ ((∃ k s, x = .pl k ∧ ε[k]? = some s ∧ s.own = true ∧ σ[k]? = some (some (.ref p))) ∨ (∃ d', x = .fr d') ∧ ¬ Own ε σ p) := fun i d e => by
    obtain ⟨x, e1, e2⟩ := toSlots_get h e
    obtain ⟨v, q1, q2, _⟩ := r.get e1
    obtain ⟨p, rfl, z⟩ := lent_of S (q2 (toSlot_cont e2)) e2
    exact ⟨x, p, e1, q1, z⟩
  refine ⟨S.trk, by rw [toSlots_len h, r.len], fun i d e => ?_, fun i d e => ?_, fun i s e => ?_, fun i j d d' p ei ej gi gj => ?_⟩
  · obtain ⟨x, e1, e2⟩ := toSlots_get h e
    obtain ⟨v, q1, q2, _⟩ := r.get e1
    have r2 := q2 (toSlot_cont e2)
    cases x with
    | sh d' => cases e2; exact ⟨v, q1, r2⟩
    | fr d' => cases e2
    | pl k =>
      have h' : (cont ε (.pl k)).map Slot.ln = some (.sh d) := e2
      cases e3 : cont ε (.pl k) with
      | none => rw [e3] at h'; cases h'
      | some d' => rw [e3] at h'; cases h'
  · obtain ⟨x, p, _, q1, q2, q3, _⟩ := lent i d e
    exact ⟨p, q1, q2, q3⟩
  · obtain ⟨x, e1, e2⟩ := toSlots_get h e
    cases x with
    | sh d' => cases e2; exact .inl ⟨_, rfl⟩
    | fr d' => cases e2; exact .inr ⟨_, rfl⟩
    | pl k =>
      have h' : (cont ε (.pl k)).map Slot.ln = some s := e2
      cases e3 : cont ε (.pl k) with
      | none => rw [e3] at h'; cases h'
      | some d' => rw [e3] at h'; cases h'; exact .inr ⟨_, rfl⟩
  · obtain ⟨x, p1, x1, v1, _, _, w1⟩ := lent i d ei
    obtain ⟨y, p2, x2, v2, _, _, w2⟩ := lent j d' ej
    rw [gi] at v1
    cases v1
    rw [gj] at v2
    cases v2
    rcases w1 with ⟨k, s, rfl, k1, k2, k3⟩ | ⟨⟨d1, rfl⟩, n1⟩
    · rcases w2 with ⟨l, t, rfl, l1, l2, l3⟩ | ⟨⟨d2, rfl⟩, n2⟩
      · obtain rfl := S.dist k l p s t k1 l1 k2 l2 k3 l3
        exact pl_inj ok1 x1 x2
      · exact absurd ⟨k, s, k1, k2, k3⟩ n2
    · rcases w2 with ⟨l, t, rfl, l1, l2, l3⟩ | ⟨⟨d2, rfl⟩, n2⟩
      · exact absurd ⟨l, t, l1, l2, l3⟩ n1
      · exact fr_one ok2 x1 x2

/-! ### what is given back -/
def Slot.isLn : Slot → Bool
  | .ln _ => true
  | _ => false
def Like (ε e : List Slot) : Prop := e.length = ε.length ∧ ∀ (j : Nat) (s : Slot), e[j]? = some s → ∃ t, ε[j]? = some t ∧ s.own = t.own ∧ (s.own = false → s = t) ∧ s.isLn = t.isLn
theorem Like.refl (ε : List Slot) : Like ε ε := ⟨rfl, fun j s h => ⟨s, h, rfl, fun _ => rfl, rfl⟩⟩
theorem upCt_get {e : List Slot} {i j : Nat} {d : D} {s : Slot} (h : (upCt e i d)[j]? = some s) : (j ≠ i ∧ e[j]? = some s) ∨ (j = i ∧ ∃ t, e[i]? = some t ∧ ((t.own = false ∧ s = t) ∨ (∃ d0, t = .ow d0 ∧ s = .ow d) ∨ ∃ d0, t = .ln d0 ∧ s = .ln d)) := by
  by_cases hj : j = i
  · subst hj
    refine .inr ⟨rfl, ?_⟩
    unfold upCt at h
    cases e1 : e[j]? with
    | none => rw [e1] at h; simp only at h; rw [e1] at h; cases h
    | some t =>
      have lt : j < e.length := (List.getElem?_eq_some_iff.mp e1).1
      refine ⟨t, rfl, ?_⟩
      cases t with
      | un => rw [e1] at h; simp only at h; rw [e1] at h; cases h; exact .inl ⟨rfl, rfl⟩
      | sh d0 => rw [e1] at h; simp only at h; rw [e1] at h; cases h; exact .inl ⟨rfl, rfl⟩
      | ow d0 => rw [e1] at h; simp only at h; rw [List.getElem?_set_self lt] at h; cases h; exact .inr (.inl ⟨d0, rfl, rfl⟩)
      | ln d0 => rw [e1] at h; simp only at h; rw [List.getElem?_set_self lt] at h; cases h; exact .inr (.inr ⟨d0, rfl, rfl⟩)
  · refine .inl ⟨hj, ?_⟩
    unfold upCt at h
    split at h
    · rw [List.getElem?_set_ne (Ne.symm hj)] at h; exact h
    · rw [List.getElem?_set_ne (Ne.symm hj)] at h; exact h
    · exact h
theorem upCt_len {e : List Slot} {i : Nat} {d : D} : (upCt e i d).length = e.length := by
  unfold upCt
  split <;> simp
theorem Like.up {e : List Slot} {i : Nat} {d : D} (h : Like ε e) : Like ε (upCt e i d) := by
  refine ⟨by rw [upCt_len]; exact h.1, fun j s g => ?_⟩
  rcases upCt_get g with ⟨_, g⟩ | ⟨rfl, t, g1, g2⟩
  · exact h.2 j s g
  · obtain ⟨u, h1, h2, h3, h4⟩ := h.2 j t g1
    rcases g2 with ⟨g3, rfl⟩ | ⟨d0, rfl, rfl⟩ | ⟨d0, rfl, rfl⟩
    · exact ⟨u, h1, h2, h3, h4⟩
    · exact ⟨u, h1, h2, (fun z => by cases z), h4⟩
    · exact ⟨u, h1, h2, (fun z => by cases z), h4⟩
theorem Like.sub {e : List Slot} (h : Like ε e) : Sub ε e := fun i s g o => by
  obtain ⟨t, h1, h2, _⟩ := h.2 i s g
  exact ⟨t, h1, by rw [← h2]; exact o⟩
/-- the state with other contents -/
theorem StR.like {e : List Slot} (S : StR T ε σ H O) (l : Like ε e) (trk : ∀ a, O a → H' a ≠ none) (fr : ∀ a o, T.H0 a = some o → ¬ T.M0 a → H' a = some o) (sl : ∀ (j : Nat) (s : Slot), e[j]? = some s → SlR T H' O s σ[j]?) : StR T e σ H' O :=
  ⟨by rw [l.1]; exact S.len, S.old, S.mm, S.trk0, trk, S.new, fr, sl, fun i j a s t ei ej hs ht gi gj => by
    obtain ⟨s', e1, o1, _⟩ := l.2 i s ei
    obtain ⟨t', e2, o2, _⟩ := l.2 j t ej
    exact S.dist i j a s' t' e1 e2 (by rw [← o1]; exact hs) (by rw [← o2]; exact ht) gi gj, fun i d ei => by
    obtain ⟨s', e1, _, _, o4⟩ := l.2 i _ ei
    cases s' with
    | ln d' => exact S.lns i d' e1
    | un => cases o4
    | sh _ => cases o4
    | ow _ => cases o4⟩
/-- one lent thing is back -/
def BackR (T : Ent) (ε : List Slot) (σ : St) (H' : Hp) (O : Addr → Prop) : List EV → List Slot → Prop
  | [], _ => True
  | x :: xs, [] => False
  | x :: xs, f :: fs => (∀ k, x = .pl k → ∃ d p t, f = .ln d ∧ ε[k]? = some t ∧ t.own = true ∧ σ[k]? = some (some (.ref p)) ∧ CtR T.K H' (res H' O) d p) ∧ BackR T ε σ H' O xs fs
theorem give_ok (S : StR T ε σ H O) : ∀ (xs : List EV) (fin e : List Slot), BackR T ε σ H' O xs fin → Like ε e → (∀ (j : Nat) (s : Slot), e[j]? = some s → EV.pl j ∈ xs ∨ SlR T H' O s σ[j]?) →
    Like ε (giveBack xs fin e) ∧ ∀ (j : Nat) (s : Slot), (giveBack xs fin e)[j]? = some s → SlR T H' O s σ[j]?
  | [], fin, e, _, l, h => by
    have eq : giveBack [] fin e = e := by cases fin <;> rfl
    rw [eq]
    exact ⟨l, fun j s g => (h j s g).elim (fun z => by cases z) id⟩
  | .sh d :: xs, f :: fs, e, b, l, h => by
    have eq : giveBack (.sh d :: xs) (f :: fs) e = giveBack xs fs e := rfl
    rw [eq]
    exact give_ok S xs fs e b.2 l fun j s g => (h j s g).imp_left fun z => by simpa using z
  | .fr d :: xs, f :: fs, e, b, l, h => by
    have eq : giveBack (.fr d :: xs) (f :: fs) e = giveBack xs fs e := rfl
    rw [eq]
    exact give_ok S xs fs e b.2 l fun j s g => (h j s g).imp_left fun z => by simpa using z
  | .pl k :: xs, f :: fs, e, b, l, h => by
    obtain ⟨d, p, t, rfl, g1, g2, g3, g4⟩ := b.1 k rfl
    have eq : giveBack (.pl k :: xs) (.ln d :: fs) e = giveBack xs fs (upCt e k d) := rfl
    rw [eq]
    refine give_ok S xs fs _ b.2 l.up fun j s g => ?_
    rcases upCt_get g with ⟨nj, g⟩ | ⟨rfl, u, q1, q2⟩
    · rcases h j s g with z | z
      · rcases List.mem_cons.mp z with z | z
        · cases z
          exact absurd rfl nj
        · exact .inl z
      · exact .inr z
    · refine .inr ?_
      obtain ⟨t', r1, r2, r3, r4⟩ := l.2 j u q1
      rw [g1] at r1
      cases r1
      have qs := S.slot j t g1
      rcases q2 with ⟨q3, _⟩ | ⟨d0, rfl, rfl⟩ | ⟨d0, rfl, rfl⟩
      · rw [q3, g2] at r2
        cases r2
      · cases t with
        | ow d1 =>
          obtain ⟨p', z1, z2, z3, z4⟩ := qs
          rw [g3] at z1
          cases z1
          exact ⟨p, g3, z2, z3, g4⟩
        | un => cases g2
        | sh _ => cases g2
        | ln _ => cases r4
      · cases t with
        | ln d1 =>
          obtain ⟨p', z1, z2, z4⟩ := qs
          rw [g3] at z1
          cases z1
          exact ⟨p, g3, z2, g4⟩
        | un => cases g2
        | sh _ => cases g2
        | ow _ => cases r4
end
end Ow

end
end

section
set_option Elab.async false
set_option linter.all false
set_option maxRecDepth 100000
noncomputable section
namespace Ow
open PySem PySem.Spec L2
section
variable {X : Cx} {T : Ent} {W : WX} {B : Blt → List D → Option D} {F : Str → List Slot → CR} {a b c e : Expr} {es : List Expr} {sa sb sc : E} {ss : List E} {pos : Pos}
variable {ε ε' ε1 : List Slot} {σ : St} {H H' Hs H1 : Hp} {O O' O1 : Addr → Prop}

theorem FinR.tail {K : Fr} {s f : Slot} {ss fin : List Slot} {v : V} {vs : List V} (h : FinR K H' O (s :: ss) (v :: vs) (f :: fin)) : FinR K H' O ss vs fin :=
  ⟨by simpa using h.1, fun i d g => by
    obtain ⟨d', p, g1, g2, g3⟩ := h.2 (i + 1) d (by simpa using g)
    exact ⟨d', p, by simpa using g1, by simpa using g2, g3⟩⟩
theorem back_of : ∀ {xs : List EV} {vs : List V} {ss fin : List Slot}, EvOk T ε σ Hs H O xs vs → toSlots ε xs = some ss → FinR T.K H' O' ss vs fin → BackR T ε σ H' O' xs fin
  | [], vs, ss, fin, _, _, _ => by cases fin <;> trivial
  | x :: xs, vs, ss, fin, r, h, g => by
    obtain ⟨v, vr, rfl, r1, _, r2⟩ := r
    unfold toSlots at h
    cases e1 : toSlot ε x with
    | none => rw [e1] at h; cases h
    | some s =>
      cases e2 : toSlots ε xs with
      | none => rw [e1, e2] at h; cases h
      | some sr =>
        rw [e1, e2] at h
        cases h
        cases fin with
        | nil => have := g.1; simp at this
        | cons f fs =>
          refine ⟨fun k ex => ?_, back_of r2 e2 g.tail⟩
          subst ex
          have h' : (cont ε (.pl k)).map Slot.ln = some s := e1
          cases e3 : cont ε (.pl k) with
          | none => rw [e3] at h'; cases h'
          | some d =>
            rw [e3] at h'
            have es : s = .ln d := (Option.some.inj h').symm
            subst es
            obtain ⟨d', p, g1, g2, g3⟩ := g.2 0 d (by simp)
            obtain ⟨q1, t, q2, q3⟩ := r1 (by rw [e3]; rfl)
            have ev : v = .ref p := by simpa using g2
            subst ev
            exact ⟨d', p, t, by simpa using g1, q2, q3, q1, g3⟩
/-- behind a call -/
theorem call_post {xs : List EV} {vs : List V} {ss fin : List Slot} (S : StR T ε σ H O) (S1 : StR T ε1 σ H1 O1) (u1 : Sub ε ε1) (st1 : Step ε σ H O H1 O1) (r : EvOk T ε1 σ H H1 O1 xs vs) (h : toSlots ε1 xs = some ss)
    (k : Kept H1 H' (Lent ss vs)) (g : FinR T.K H' O1 ss vs fin) : StR T (giveBack xs fin ε1) σ H' O1 ∧ Sub ε (giveBack xs fin ε1) ∧ Step ε σ H O H' O1 := by
  -- who is lent
  have lent : ∀ p, Lent ss vs p → Own ε1 σ p ∧ (∃ i, EV.pl i ∈ xs ∧ σ[i]? = some (some (.ref p))) ∨ (¬ Own ε1 σ p ∧ O1 p ∧ H p = none) := fun p ⟨i, d, g1, g2⟩ => by
    obtain ⟨x, e1, e2⟩ := toSlots_get h g1
    obtain ⟨v, q1, q2, q3⟩ := r.get e1
    obtain ⟨p', ev, o1, _, w⟩ := lent_of S1 (q2 (toSlot_cont e2)) e2
    rw [g2] at q1
    cases q1
    cases ev
    rcases w with ⟨j, s, rfl, j1, j2, j3⟩ | ⟨⟨d', rfl⟩, n⟩
    · exact .inl ⟨⟨j, s, j1, j2, j3⟩, j, List.mem_of_getElem? e1, j3⟩
    · exact .inr ⟨n, o1, q3 _ _ rfl rfl⟩
  have same1 : Same (res H1 O1) (res H' O1) := fun p o z => by
    obtain ⟨n, z⟩ := res_some.mp z
    refine res_some.mpr ⟨n, k.keep p o z fun w => ?_⟩
    rcases lent p w with ⟨q, _⟩ | ⟨_, q, _⟩
    · exact n (S1.ownO q)
    · exact n q
  have trk : ∀ p, O1 p → H' p ≠ none := fun p q => k.stay p (S1.trk p q)
  have slots : ∀ (j : Nat) (s : Slot), ε1[j]? = some s → EV.pl j ∈ xs ∨ SlR T H' O1 s σ[j]? := fun j s e => by
    have q := S1.slot j s e
    by_cases hm : EV.pl j ∈ xs
    · exact .inl hm
    · refine .inr ?_
      have nl : ∀ p, s.own = true → σ[j]? = some (some (.ref p)) → ¬ Lent ss vs p := fun p ho hp w => by
        rcases lent p w with ⟨_, i, m, hi⟩ | ⟨n, _⟩
        · obtain ⟨m', em⟩ := List.mem_iff_getElem?.mp m
          obtain ⟨v, q1, q2, _⟩ := r.get em
          cases hc : cont ε1 (.pl i) with
          | none =>
            -- then toSlots fails
            obtain ⟨lt, _⟩ := List.getElem?_eq_some_iff.mp em
            have : ∀ {ys : List EV} {ts : List Slot} {n : Nat}, toSlots ε1 ys = some ts → ys[n]? = some (.pl i) → False := by
              intro ys
              induction ys with
              | nil => intro ts n _ z; simp at z
              | cons y ys ih =>
                intro ts n z1 z2
                unfold toSlots at z1
                cases y1 : toSlot ε1 y with
                | none => rw [y1] at z1; cases z1
                | some y2 =>
                  cases y3 : toSlots ε1 ys with
                  | none => rw [y1, y3] at z1; cases z1
                  | some y4 =>
                    cases n with
                    | zero =>
                      have : y = .pl i := by simpa using z2
                      subst this
                      have y1' : (cont ε1 (.pl i)).map Slot.ln = some y2 := y1
                      rw [hc] at y1'
                      cases y1'
                    | succ n => exact ih (n := n) y3 (by simpa using z2)
            exact this h em
          | some d =>
            obtain ⟨z1, t, z2, z3⟩ := q2 (by rw [hc]; rfl)
            have : i = j := S1.dist i j p t s z2 e z3 ho hi hp
            subst this
            exact hm m
        · exact n ⟨j, s, e, ho, hp⟩
      cases s with
      | un => exact q
      | sh d => obtain ⟨v, h1, h2⟩ := q; exact ⟨v, h1, RV.same same1 h2⟩
      | ow d =>
        obtain ⟨p, h1, h2, h3, h4⟩ := q
        exact ⟨p, h1, h2, h3, CtR.same same1 (fun o z => k.keep p o z (nl p rfl h1)) h4⟩
      | ln d =>
        obtain ⟨p, h1, h2, h4⟩ := q
        exact ⟨p, h1, h2, CtR.same same1 (fun o z => k.keep p o z (nl p rfl h1)) h4⟩
  obtain ⟨l, sl⟩ := give_ok S1 xs fin ε1 (back_of r h g) (Like.refl _) slots
  have fr : ∀ p o, T.H0 p = some o → ¬ T.M0 p → H' p = some o := fun p o e n => by
    refine k.keep p o (S1.frame p o e n) fun w => ?_
    rcases lent p w with ⟨⟨j, s, j1, j2, j3⟩, _⟩ | ⟨_, o1, hn⟩
    · have q := S1.slot j s j1
      cases s with
      | un => cases j2
      | sh _ => cases j2
      | ow d =>
        obtain ⟨p', h1, h2, h3, _⟩ := q
        rw [j3] at h1
        cases h1
        rw [h3] at e
        cases e
      | ln d =>
        obtain ⟨p', h1, h2, _⟩ := q
        rw [j3] at h1
        cases h1
        exact n h2
    · have := S.frame p o e n
      rw [hn] at this
      cases this
  refine ⟨S1.like l trk fr sl, u1.trans l.sub, ⟨fun p o e n => ?_, st1.news, st1.lose, fun p e => k.stay p (st1.stay p e)⟩⟩
  refine k.keep p o (st1.keep p o e n) fun w => ?_
  rcases lent p w with ⟨q, _⟩ | ⟨_, _, hn⟩
  · exact n (q.sub u1)
  · rw [hn] at e
    cases e

theorem m_call {k : Nat} {f : Addr} {fd : FuncData} {ps : List Str} {x : Str} {p : Pos} (Fk : FnG X.prog X.w X.K X.mg X.base (L2.CX X.prog X.w) k f fd ps (SpF T.K F ps.length x)) (g : X.A.guards = some []) (hr : Room k X.A) (hg : Gl X x) (hm : X.mg x = some (.ref f))
    (hk : PySem.W.keepIn X.K (.ref f) = true) (hb : Binds X.K fd ps []) (tk : Takes X W) (har : ∀ ss, F x ss ≠ .stuck → ss.length = ps.length) (ha : PA X (e :: es) (SA T W B F ss)) (hdb : (x == ("__debug__" : Str)) = false := by decide)
    (he : starEach (e :: es) X.env = (false, eval e X.env) :: starEach es X.env := by rfl) (hpl : (backTo pos (starEach es X.env)).any (·.1) = false := by rfl) :
    PE X (.Call (.Name x p) (e :: es) [] pos) (SE T W B F (.call x ss)) := by
  refine (pe_G (E := WE W) Fk g hr hg hm hk hb (fun σ => passAt tk σ) ha hdb he hpl).imp fun σ H Q h => ?_
  obtain ⟨ε, O, S, h⟩ := h
  rw [ev] at h
  refine ⟨ε, O, S, ?_⟩
  revert h
  cases evs B F ss ε with
  | exc c fs ε1 => exact fun h => h
  | stuck => exact fun h => h
  | ok xs ε1 =>
    intro h H1 O1 S1 u1 st1 vs hvs
    have h : Wp T W ε σ H O (callE F x xs ε1) _ := h
    unfold callE at h
    by_cases ok : argsOk xs = true
    · rw [if_pos ok] at h
      cases et : toSlots ε1 xs with
      | none => rw [et] at h; exact h.elim
      | some sl =>
        rw [et] at h
        dsimp only at h
        have pre := call_pre S1 ok hvs et
        have hl : vs.length = ps.length := by
          rw [hvs.len, ← toSlots_len et]
          refine har sl fun q => ?_
          rw [q] at h
          exact h.elim
        refine ⟨hl, O1, sl, pre, ?_⟩
        · revert h
          cases F x sl with
          | stuck => exact fun h => h
          | ok d fin =>
            intro h v H' kp rv fn
            obtain ⟨S', u', st'⟩ := call_post S S1 u1 st1 hvs et kp fn
            exact h H' O1 S' u' st' v rv
          | new d fin =>
            intro h p Hx H' kp fn hp sm ct
            obtain ⟨S', u', st'⟩ := call_post S S1 u1 st1 hvs et kp fn
            have nw : New T (giveBack xs fin ε1) σ Hx H' O1 d p := ⟨hp, sm, ct⟩
            exact h H' O1 (S'.grow sm) u' (st'.trans S u' (Step.grow sm)) _ (nw.rv S')
          | exc c fs fin =>
            intro h dx H' kp ex fn
            obtain ⟨S', u', st'⟩ := call_post S S1 u1 st1 hvs et kp fn
            exact h dx H' O1 S' u' st' ex
    · rw [if_neg ok] at h
      exact h.elim
/-- a call that hands back a new thing -/
theorem n_call {k : Nat} {f : Addr} {fd : FuncData} {ps : List Str} {x : Str} {p : Pos} (Fk : FnG X.prog X.w X.K X.mg X.base (L2.CX X.prog X.w) k f fd ps (SpF T.K F ps.length x)) (g : X.A.guards = some []) (hr : Room k X.A) (hg : Gl X x) (hm : X.mg x = some (.ref f))
    (hk : PySem.W.keepIn X.K (.ref f) = true) (hb : Binds X.K fd ps []) (tk : Takes X W) (har : ∀ ss, F x ss ≠ .stuck → ss.length = ps.length) (ha : PA X (e :: es) (SA T W B F ss)) (hdb : (x == ("__debug__" : Str)) = false := by decide)
    (he : starEach (e :: es) X.env = (false, eval e X.env) :: starEach es X.env := by rfl) (hpl : (backTo pos (starEach es X.env)).any (·.1) = false := by rfl) :
    PE X (.Call (.Name x p) (e :: es) [] pos) (SN T W B F (.callN x ss)) := by
  refine (pe_G (E := WE W) Fk g hr hg hm hk hb (fun σ => passAt tk σ) ha hdb he hpl).imp fun σ H Q h => ?_
  obtain ⟨ε, O, S, h⟩ := h
  rw [ev] at h
  refine ⟨ε, O, S, ?_⟩
  revert h
  cases evs B F ss ε with
  | exc c fs ε1 => exact fun h => h
  | stuck => exact fun h => h
  | ok xs ε1 =>
    intro h H1 O1 S1 u1 st1 vs hvs
    have h : Wp T W ε σ H O (callNE F x xs ε1) _ := h
    unfold callNE at h
    by_cases ok : argsOk xs = true
    · rw [if_pos ok] at h
      cases et : toSlots ε1 xs with
      | none => rw [et] at h; exact h.elim
      | some sl =>
        rw [et] at h
        dsimp only at h
        have hl : vs.length = ps.length := by
          rw [hvs.len, ← toSlots_len et]
          refine har sl fun q => ?_
          rw [q] at h
          exact h.elim
        refine ⟨hl, O1, sl, call_pre S1 ok hvs et, ?_⟩
        revert h
        cases F x sl with
        | stuck => exact fun h => h
        | ok d fin => exact fun h => h.elim
        | new d fin =>
          intro h p Hx H' kp fn hp sm ct
          obtain ⟨S', u', st'⟩ := call_post S S1 u1 st1 hvs et kp fn
          exact h Hx O1 S' u' st' d p H' rfl ⟨hp, sm, ct⟩
        | exc c fs fin =>
          intro h dx H' kp ex fn
          obtain ⟨S', u', st'⟩ := call_post S S1 u1 st1 hvs et kp fn
          exact h dx H' O1 S' u' st' ex
    · rw [if_neg ok] at h
      exact h.elim
end
end Ow

end
end

section
set_option Elab.async false
set_option linter.all false
set_option maxRecDepth 100000
noncomputable section
namespace Ow
open PySem PySem.Spec L2

/-! ## the operators -/
section
variable {X : Cx} {T : Ent} {W : WX} {B : Blt → List D → Option D} {F : Str → List Slot → CR} {a b c e : Expr} {es : List Expr} {sa sb sc : E} {ss : List E} {pos : Pos} {K : Fr}
variable {ε ε' : List Slot} {σ : St} {H H' Hs : Hp} {O O' : Addr → Prop}

theorem new_rv {p : Addr} {o : HO} (trk : ∀ a, O a → H a ≠ none) (hp : H p = none) : ¬ O p ∧ Same H (upd H p o) ∧ Same (res H O) (res (upd H p o) O) ∧ res (upd H p o) O p = some o :=
  ⟨fun q => trk p q hp, same_upd hp, res_grow (same_upd hp), res_upd fun q => trk p q hp⟩
theorem ops_add : OpS K (binD .Add) (fun x y H Q => rI0 (fun i j => .int (i + j)) x y H Q ∨ (∃ i j, x = .str i ∧ y = .str j ∧ i.length + j.length ≤ sizeLine ∧ Q (.str (i ++ j)) H) ∨ rCat x y H Q ∨ rCatA K x y H Q) := by
  intro H O p q d v w Q trk e tp tq k
  cases p with
  | int i =>
    cases q with
    | int j =>
      cases e
      exact .inl ⟨i, j, tp, tq, k _ _ (Same.refl H) rfl⟩
    | _ => cases e
  | str i =>
    cases q with
    | str j =>
      unfold binD at e
      by_cases hl : i.length + j.length ≤ sizeLine
      · simp only [hl, if_true] at e
        cases e
        exact .inr (.inl ⟨i, j, tp, tq, hl, k _ _ (Same.refl H) rfl⟩)
      · simp [hl] at e
    | _ => cases e
  | lst xs =>
    cases q with
    | lst ys =>
      unfold binD at e
      by_cases hl : xs.length + ys.length ≤ sizeLine
      · simp only [hl, if_true] at e
        cases e
        obtain ⟨a, vs, rfl, h1, h2⟩ := tp
        obtain ⟨b, ws, rfl, g1, g2⟩ := tq
        refine .inr (.inr (.inl ⟨a, b, vs, ws, rfl, rfl, h1, g1, by rw [← h2.length, ← g2.length]; exact hl, fun n hn => ?_⟩))
        obtain ⟨z1, z2, z3, z4⟩ := new_rv (o := .lst (vs ++ ws)) trk hn
        exact k _ _ z2 ⟨n, _, rfl, z4, RVs.same z3 (RVs.app h2 g2)⟩
      · simp [hl] at e
    | _ => cases e
  | tup xs =>
    cases q with
    | tup ys =>
      unfold binD at e
      by_cases hl : xs.length + ys.length ≤ sizeLine
      · simp only [hl, if_true] at e
        cases e
        obtain ⟨a, vs, rfl, h1, h2⟩ := tp
        obtain ⟨b, ws, rfl, g1, g2⟩ := tq
        have lv := h2.length
        have lw := g2.length
        have nil : ∀ {ds : List D} {us : List V}, RVs K (res H O) ds us → us = [] → ds = [] := fun r z => by
          have := r.length
          rw [z] at this
          exact List.eq_nil_of_length_eq_zero this
        refine .inr (.inr (.inr ⟨a, b, vs, ws, rfl, rfl, Ow.Same.sqt res_same h1, Ow.Same.sqt res_same g1, by rw [← lv, ← lw]; exact hl, fun z => ?_, fun z1 z => ?_, fun _ _ n hn => ?_⟩))
        · have z0 := nil h2 z
          subst z0
          exact k _ _ (Same.refl H) ⟨b, ws, rfl, g1, g2⟩
        · have z0 := nil g2 z
          subst z0
          rw [List.append_nil] at k
          exact k _ _ (Same.refl H) ⟨a, vs, rfl, h1, h2⟩
        · obtain ⟨z1, z2, z3, z4⟩ := new_rv (o := .tup (vs ++ ws)) trk hn
          exact k _ _ z2 ⟨n, _, rfl, .inl (.inl z4), RVs.same z3 (RVs.app h2 g2)⟩
      · simp [hl] at e
    | _ => cases e
  | _ => cases e <;> rfl

theorem or_add : OpR X (binaryOp .Add) (fun x y H Q => rI0 (fun i j => .int (i + j)) x y H Q ∨ (∃ i j, x = .str i ∧ y = .str j ∧ i.length + j.length ≤ sizeLine ∧ Q (.str (i ++ j)) H) ∨ rCat x y H Q ∨ rCatA X.K x y H Q) :=
  op_add.or (op_add_str.or (op_cat.or op_catA))
theorem m_add (hK : X.K = T.K) (ha : PE X a (SE T W B F sa)) (hb : PE X b (SE T W B F sb)) : PE X (.BinOp a .Add b pos) (SE T W B F (.bin .Add sa sb)) := m_bin or_add (by rw [hK]; exact ops_add) ha hb
theorem ops_sub : OpS K (binD .Sub) (rI0 fun i j => .int (i - j)) := by
  intro H O p q d v w Q trk e tp tq k
  cases p with
  | int i => cases q with
    | int j => cases e; exact ⟨i, j, tp, tq, k _ _ (Same.refl H) rfl⟩
    | _ => cases e
  | _ => cases e <;> rfl
theorem m_sub (ha : PE X a (SE T W B F sa)) (hb : PE X b (SE T W B F sb)) : PE X (.BinOp a .Sub b pos) (SE T W B F (.bin .Sub sa sb)) := m_bin op_sub ops_sub ha hb
/-- two ints under a condition -/
theorem ops_int {o : Operator} {C : Int → Int → Prop} {g : Int → Int → Int} (hC : ∀ p q d, binD o p q = some d → ∃ i j, p = .int i ∧ q = .int j ∧ C i j ∧ d = .int (g i j)) : OpS K (binD o) (rI C fun i j => .int (g i j)) := by
  intro H O p q d v w Q trk e tp tq k
  obtain ⟨i, j, rfl, rfl, c, rfl⟩ := hC p q d e
  exact ⟨i, j, tp, tq, c, k _ _ (Same.refl H) rfl⟩
theorem ops_int0 {o : Operator} {g : Int → Int → Int} (hC : ∀ p q d, binD o p q = some d → ∃ i j, p = .int i ∧ q = .int j ∧ d = .int (g i j)) : OpS K (binD o) (rI0 fun i j => .int (g i j)) := by
  intro H O p q d v w Q trk e tp tq k
  obtain ⟨i, j, rfl, rfl, rfl⟩ := hC p q d e
  exact ⟨i, j, tp, tq, k _ _ (Same.refl H) rfl⟩
local macro_rules | `(tactic| walk_at "ow int") => `(tactic| (
  intro p q d e
  cases p <;> cases q <;> first | (cases e; done) | (unfold binD at e; dsimp only at e; split at e <;> first | (cases e; done) | (cases e; exact ⟨_, _, rfl, rfl, by assumption, rfl⟩))))
theorem m_fdiv (ha : PE X a (SE T W B F sa)) (hb : PE X b (SE T W B F sb)) : PE X (.BinOp a .FloorDiv b pos) (SE T W B F (.bin .FloorDiv sa sb)) := m_bin op_fdiv (ops_int (by walk_at "ow int")) ha hb
theorem m_mod (ha : PE X a (SE T W B F sa)) (hb : PE X b (SE T W B F sb)) : PE X (.BinOp a .Mod b pos) (SE T W B F (.bin .Mod sa sb)) := m_bin op_mod (ops_int (by walk_at "ow int")) ha hb
theorem m_pow (ha : PE X a (SE T W B F sa)) (hb : PE X b (SE T W B F sb)) : PE X (.BinOp a .Pow b pos) (SE T W B F (.bin .Pow sa sb)) := m_bin op_pow (ops_int (by walk_at "ow int")) ha hb
theorem m_shl (ha : PE X a (SE T W B F sa)) (hb : PE X b (SE T W B F sb)) : PE X (.BinOp a .LShift b pos) (SE T W B F (.bin .LShift sa sb)) := m_bin op_shl (ops_int (by walk_at "ow int")) ha hb
theorem m_shr (ha : PE X a (SE T W B F sa)) (hb : PE X b (SE T W B F sb)) : PE X (.BinOp a .RShift b pos) (SE T W B F (.bin .RShift sa sb)) := m_bin op_shr (ops_int (by walk_at "ow int")) ha hb
theorem ops_mul : OpS K (binD .Mult) (fun x y H Q => rI CMul (fun i j => .int (i * j)) x y H Q ∨ rRep x y H Q) := by
  intro H O p q d v w Q trk e tp tq k
  cases p with
  | int i => cases q with
    | int j =>
      unfold binD at e
      by_cases hl : CMul i j
      · simp only [hl, if_true] at e
        cases e
        exact .inl ⟨i, j, tp, tq, hl, k _ _ (Same.refl H) rfl⟩
      · simp [hl] at e
    | _ => cases e
  | lst xs => cases q with
    | int j =>
      unfold binD at e
      by_cases hl : -(2 ^ 63) ≤ j ∧ j < 2 ^ 63 ∧ xs.length * j.toNat ≤ sizeLine
      · dsimp only at e
        rw [if_pos hl] at e
        cases e
        obtain ⟨a, vs, rfl, h1, h2⟩ := tp
        refine .inr ⟨a, j, vs, rfl, tq, h1, hl.1, hl.2.1, by rw [← h2.length]; exact hl.2.2, fun n hn => ?_⟩
        obtain ⟨z1, z2, z3, z4⟩ := new_rv (o := .lst (List.replicate j.toNat vs).flatten) trk hn
        have rep : ∀ m : Nat, RVs K (res H O) (List.replicate m xs).flatten (List.replicate m vs).flatten := fun m => by
          induction m with
          | zero => exact rfl
          | succ m ih =>
            rw [List.replicate_succ, List.replicate_succ, List.flatten_cons, List.flatten_cons]
            exact RVs.app h2 ih
        exact k _ _ z2 ⟨n, _, rfl, z4, RVs.same z3 (rep _)⟩
      · dsimp only at e
        rw [if_neg hl] at e
        cases e
    | _ => cases e
  | _ => cases e <;> rfl
theorem m_mul (ha : PE X a (SE T W B F sa)) (hb : PE X b (SE T W B F sb)) : PE X (.BinOp a .Mult b pos) (SE T W B F (.bin .Mult sa sb)) := m_bin (op_mul.or op_rep) ops_mul ha hb
local macro_rules | `(tactic| walk_at "ow int0") => `(tactic| (
  intro p q d e
  cases p <;> cases q <;> first | (cases e; done) | (cases e; exact ⟨_, _, rfl, rfl, rfl⟩)))
theorem m_band (ha : PE X a (SE T W B F sa)) (hb : PE X b (SE T W B F sb)) : PE X (.BinOp a .BitAnd b pos) (SE T W B F (.bin .BitAnd sa sb)) := m_bin op_and (ops_int0 (by walk_at "ow int0")) ha hb
theorem m_bor (ha : PE X a (SE T W B F sa)) (hb : PE X b (SE T W B F sb)) : PE X (.BinOp a .BitOr b pos) (SE T W B F (.bin .BitOr sa sb)) := m_bin op_or (ops_int0 (by walk_at "ow int0")) ha hb
theorem m_bxor (ha : PE X a (SE T W B F sa)) (hb : PE X b (SE T W B F sb)) : PE X (.BinOp a .BitXor b pos) (SE T W B F (.bin .BitXor sa sb)) := m_bin op_xor (ops_int0 (by walk_at "ow int0")) ha hb
theorem uns_neg : UnS K (unD .USub) (rU fun i => .int (-i)) := by
  intro H O p d v Q trk e tp k
  cases p with
  | int i => cases e; exact ⟨i, tp, k _ _ (Same.refl H) rfl⟩
  | _ => cases e
theorem uns_inv : UnS K (unD .Invert) (rU fun i => .int (Builtin.bitNot i)) := by
  intro H O p d v Q trk e tp k
  cases p with
  | int i => cases e; exact ⟨i, tp, k _ _ (Same.refl H) rfl⟩
  | _ => cases e
theorem m_neg (ha : PE X a (SE T W B F sa)) : PE X (.UnaryOp .USub a pos) (SE T W B F (.un .USub sa)) := m_un un_neg uns_neg ha
theorem m_inv (ha : PE X a (SE T W B F sa)) : PE X (.UnaryOp .Invert a pos) (SE T W B F (.un .Invert sa)) := m_un un_inv uns_inv ha

/-! ### comparisons -/
mutual
theorem RV.dp {H : Hp} : ∀ {d : D} {v : V} {p : PyData}, RV K H d v → toPy d = some p → Dp K H v p
  | .non, v, p, h, e => by cases e; rw [show v = _ from h]; exact .non
  | .bl b, v, p, h, e => by cases e; rw [show v = _ from h]; exact .bl b
  | .int i, v, p, h, e => by cases e; rw [show v = _ from h]; exact .int i
  | .str s, v, p, h, e => by cases e; rw [show v = _ from h]; exact .str s
  | .tup ds, v, p, h, e => by
    obtain ⟨a, vs, rfl, h1, h2⟩ := h
    unfold toPy at e
    cases e2 : toPys ds with
    | none => rw [e2] at e; cases e
    | some ps => rw [e2] at e; cases e; exact .tup h1 (RVs.dp h2 e2)
  | .lst ds, v, p, h, e => by
    obtain ⟨a, vs, rfl, h1, h2⟩ := h
    unfold toPy at e
    cases e2 : toPys ds with
    | none => rw [e2] at e; cases e
    | some ps => rw [e2] at e; cases e; exact .lst (SqL.of h1) (RVs.dp h2 e2)
  | .scr _, _, _, _, e => by cases e
  | .dic _, _, _, _, e => by cases e
  | .obj _ _, _, _, _, e => by cases e
theorem RVs.dp {H : Hp} : ∀ {ds : List D} {vs : List V} {ps : List PyData}, RVs K H ds vs → toPys ds = some ps → DpAll K H vs ps
  | [], vs, ps, h, e => by cases e; rw [show vs = [] from h]; exact .nil
  | d :: ds, vs, ps, h, e => by
    obtain ⟨v, r, rfl, h1, h2⟩ := h
    unfold toPys at e
    cases e1 : toPy d with
    | none => rw [e1] at e; cases e
    | some p =>
      cases e2 : toPys ds with
      | none => rw [e1, e2] at e; cases e
      | some qs => rw [e1, e2] at e; cases e; exact .cons (RV.dp h1 e1) (RVs.dp h2 e2)
end
theorem eqD_some {x y : D} {k : Bool} (h : eqD x y = some k) : ∃ p q, toPy x = some p ∧ toPy y = some q ∧ SeqAt.shaped p = true ∧ SeqAt.shaped q = true ∧ k = PyData.eqv p q := by
  unfold eqD at h
  cases e1 : toPy x with
  | none => rw [e1] at h; cases h
  | some p =>
    cases e2 : toPy y with
    | none => rw [e1, e2] at h; cases h
    | some q =>
      rw [e1, e2] at h
      dsimp only at h
      by_cases c : SeqAt.shaped p = true ∧ SeqAt.shaped q = true
      · rw [if_pos c] at h
        cases h
        exact ⟨p, q, rfl, rfl, c.1, c.2, rfl⟩
      · rw [if_neg c] at h
        cases h
theorem map_some' {α β : Type} {o : Option α} {f : α → β} {d : β} (h : o.map f = some d) : ∃ a, o = some a ∧ d = f a := by
  cases o with
  | none => cases h
  | some a => cases h; exact ⟨a, rfl, rfl⟩
theorem ops_eq : OpS K (fun p q => (cmpD .Eq p q).map .bl) (rEqD K) := by
  intro H O p q d v w Q trk e tp tq k
  obtain ⟨c, e1, rfl⟩ := map_some' e
  obtain ⟨x, y, e2, e3, s1, s2, rfl⟩ := eqD_some e1
  exact ⟨x, y, (tp.rv res_same).dp e2, (tq.rv res_same).dp e3, s1, s2, k _ _ (Same.refl H) rfl⟩
theorem ops_ne : OpS K (fun p q => (cmpD .NotEq p q).map .bl) (rNeD K) := by
  intro H O p q d v w Q trk e tp tq k
  obtain ⟨c, e1, rfl⟩ := map_some' e
  obtain ⟨c', e1', rfl⟩ := map_some' e1
  obtain ⟨x, y, e2, e3, s1, s2, rfl⟩ := eqD_some e1'
  exact ⟨x, y, (tp.rv res_same).dp e2, (tq.rv res_same).dp e3, s1, s2, k _ _ (Same.refl H) rfl⟩
theorem m_eq (hK : X.K = T.K) (hu : X.A.units + 64 < cLine) (ha : PE X a (SE T W B F sa)) (hb : PE X b (SE T W B F sb)) (hm : behindInMarks .Eq b = false) : PE X (.Compare a [.Eq] [b] pos) (SE T W B F (.cmp .Eq sa sb)) := m_cmp (op_eqD hu) (by rw [hK]; exact ops_eq) ha hb hm
theorem m_ne (hK : X.K = T.K) (hu : X.A.units + 64 < cLine) (ha : PE X a (SE T W B F sa)) (hb : PE X b (SE T W B F sb)) (hm : behindInMarks .NotEq b = false) : PE X (.Compare a [.NotEq] [b] pos) (SE T W B F (.cmp .NotEq sa sb)) := m_cmp (op_neD hu) (by rw [hK]; exact ops_ne) ha hb hm
theorem ops_cmpI {o : CmpOp} {g : Int → Int → Bool} (hC : ∀ p q k, cmpD o p q = some k → ∃ i j, p = .int i ∧ q = .int j ∧ k = g i j) : OpS K (fun p q => (cmpD o p q).map .bl) (rI0 fun i j => .bl (g i j)) := by
  intro H O p q d v w Q trk e tp tq k
  obtain ⟨c, e1, rfl⟩ := map_some' e
  obtain ⟨i, j, rfl, rfl, rfl⟩ := hC p q c e1
  exact ⟨i, j, tp, tq, k _ _ (Same.refl H) rfl⟩
theorem ops_lt : OpS K (fun p q => (cmpD .Lt p q).map .bl) (rI0 fun i j => .bl (decide (i < j))) := ops_cmpI (by walk_at "ow int0")
theorem ops_le : OpS K (fun p q => (cmpD .LtE p q).map .bl) (rI0 fun i j => .bl (decide (i ≤ j))) := ops_cmpI (by walk_at "ow int0")
theorem ops_gt : OpS K (fun p q => (cmpD .Gt p q).map .bl) (rI0 fun i j => .bl (decide (j < i))) := ops_cmpI (by walk_at "ow int0")
theorem ops_ge : OpS K (fun p q => (cmpD .GtE p q).map .bl) (rI0 fun i j => .bl (decide (j ≤ i))) := ops_cmpI (by walk_at "ow int0")
theorem m_lt (ha : PE X a (SE T W B F sa)) (hb : PE X b (SE T W B F sb)) (hm : behindInMarks .Lt b = false) : PE X (.Compare a [.Lt] [b] pos) (SE T W B F (.cmp .Lt sa sb)) := m_cmp op_lt ops_lt ha hb hm
theorem m_le (ha : PE X a (SE T W B F sa)) (hb : PE X b (SE T W B F sb)) (hm : behindInMarks .LtE b = false) : PE X (.Compare a [.LtE] [b] pos) (SE T W B F (.cmp .LtE sa sb)) := m_cmp op_le ops_le ha hb hm
theorem m_gt (ha : PE X a (SE T W B F sa)) (hb : PE X b (SE T W B F sb)) (hm : behindInMarks .Gt b = false) : PE X (.Compare a [.Gt] [b] pos) (SE T W B F (.cmp .Gt sa sb)) := m_cmp op_gt ops_gt ha hb hm
theorem m_ge (ha : PE X a (SE T W B F sa)) (hb : PE X b (SE T W B F sb)) (hm : behindInMarks .GtE b = false) : PE X (.Compare a [.GtE] [b] pos) (SE T W B F (.cmp .GtE sa sb)) := m_cmp op_ge ops_ge ha hb hm
theorem flat_top {x : D} {u v : V} {Hs : Hp} (h : flatD x = some u) (t : TopV K H Hs x v) : v = u ∧ flatV u = true := by
  cases x <;> first | (cases h; exact ⟨t, rfl⟩) | cases h
theorem flats_rv {Hs : Hp} : ∀ {xs : List D} {us vs : List V}, flatDs xs = some us → RVs K Hs xs vs → vs = us ∧ us.all flatV = true
  | [], us, vs, h, r => by cases h; exact ⟨r, rfl⟩
  | x :: xs, us, vs, h, r => by
    obtain ⟨v, r', rfl, h1, h2⟩ := r
    unfold flatDs at h
    cases e1 : flatD x with
    | none => rw [e1] at h; cases h
    | some u =>
      cases e2 : flatDs xs with
      | none => rw [e1, e2] at h; cases h
      | some us' =>
        rw [e1, e2] at h
        cases h
        obtain ⟨rfl, f1⟩ := flat_top (K := K) (Hs := Hs) (H := Hs) e1 (RV.top (fun _ _ z => z) h1)
        obtain ⟨rfl, f2⟩ := flats_rv e2 h2
        exact ⟨rfl, by simp [f1, f2]⟩
abbrev rInStr : R2 := fun x y H Q => ∃ i j, x = .str i ∧ y = .str j ∧ Q (.bl (!(Builtin.Str.occurrences j i 0 j.length 1).isEmpty)) H
abbrev rNotInStr : R2 := fun x y H Q => ∃ i j, x = .str i ∧ y = .str j ∧ Q (.bl (!(!(Builtin.Str.occurrences j i 0 j.length 1).isEmpty))) H
theorem inD_rd {p q : D} {c : Bool} {v w : V} (e : inD p q = some c) (tp : TopV K H (res H O) p v) (tq : TopV K H (res H O) q w) :
    (∃ i j, v = .str i ∧ w = .str j ∧ c = !(Builtin.Str.occurrences j i 0 j.length 1).isEmpty) ∨ ∃ pp xs, w = .ref pp ∧ (SqL K H pp xs ∨ SqT K H pp xs) ∧ flatV v = true ∧ xs.all flatV = true ∧ c = inV v xs := by
  have seq : ∀ ys : List D, (match flatD p, flatDs ys with
      | some u, some us => some (inV u us)
      | _, _ => none) = some c → ∀ ws, RVs K (res H O) ys ws → flatV v = true ∧ ws.all flatV = true ∧ c = inV v ws := fun ys e ws r => by
    cases e1 : flatD p with
    | none => rw [e1] at e; cases e
    | some u =>
      cases e2 : flatDs ys with
      | none => rw [e1, e2] at e; cases e
      | some us =>
        rw [e1, e2] at e
        cases e
        obtain ⟨rfl, f1⟩ := flat_top e1 tp
        obtain ⟨rfl, f2⟩ := flats_rv e2 r
        exact ⟨f1, f2, rfl⟩
  cases q with
  | str j =>
    cases p with
    | str i => cases e; exact .inl ⟨i, j, tp, tq, rfl⟩
    | _ => cases e
  | lst ys =>
    obtain ⟨b, ws, rfl, h1, h2⟩ := tq
    have e' : (match flatD p, flatDs ys with
      | some u, some us => some (inV u us)
      | _, _ => none) = some c := by cases p <;> exact e
    obtain ⟨f1, f2, f3⟩ := seq ys e' ws h2
    exact .inr ⟨b, ws, rfl, .inl (SqL.of h1), f1, f2, f3⟩
  | tup ys =>
    obtain ⟨b, ws, rfl, h1, h2⟩ := tq
    have e' : (match flatD p, flatDs ys with
      | some u, some us => some (inV u us)
      | _, _ => none) = some c := by cases p <;> exact e
    obtain ⟨f1, f2, f3⟩ := seq ys e' ws h2
    exact .inr ⟨b, ws, rfl, .inr (Ow.Same.sqt res_same h1), f1, f2, f3⟩
  | _ => cases p <;> cases e
theorem ops_in : OpS K (fun p q => (cmpD .In p q).map .bl) (fun x y H Q => rInStr x y H Q ∨ rIn K false x y H Q) := by
  intro H O p q d v w Q trk e tp tq k
  obtain ⟨c, e1, rfl⟩ := map_some' e
  rcases inD_rd (K := K) (H := H) (O := O) e1 tp tq with ⟨i, j, rfl, rfl, rfl⟩ | ⟨pp, xs, rfl, h1, h2, h3, rfl⟩
  · exact .inl ⟨i, j, rfl, rfl, k _ _ (Same.refl H) rfl⟩
  · exact .inr ⟨pp, xs, rfl, h1, h2, h3, k _ _ (Same.refl H) rfl⟩
theorem ops_nin : OpS K (fun p q => (cmpD .NotIn p q).map .bl) (fun x y H Q => rNotInStr x y H Q ∨ rIn K true x y H Q) := by
  intro H O p q d v w Q trk e tp tq k
  obtain ⟨c, e1, rfl⟩ := map_some' e
  obtain ⟨c', e1', rfl⟩ := map_some' e1
  rcases inD_rd (K := K) (H := H) (O := O) e1' tp tq with ⟨i, j, rfl, rfl, rfl⟩ | ⟨pp, xs, rfl, h1, h2, h3, rfl⟩
  · exact .inl ⟨i, j, rfl, rfl, k _ _ (Same.refl H) rfl⟩
  · exact .inr ⟨pp, xs, rfl, h1, h2, h3, k _ _ (Same.refl H) rfl⟩
theorem m_in (hK : X.K = T.K) (ha : PE X a (SE T W B F sa)) (hb : PE X b (SE T W B F sb)) (hm : behindInMarks .In b = false) : PE X (.Compare a [.In] [b] pos) (SE T W B F (.cmp .In sa sb)) := m_cmp (op_in_str.or op_in_seq) (by rw [hK]; exact ops_in) ha hb hm
theorem m_nin (hK : X.K = T.K) (ha : PE X a (SE T W B F sa)) (hb : PE X b (SE T W B F sb)) (hm : behindInMarks .NotIn b = false) : PE X (.Compare a [.NotIn] [b] pos) (SE T W B F (.cmp .NotIn sa sb)) := m_cmp (op_notin_str.or op_notIn_seq) (by rw [hK]; exact ops_nin) ha hb hm
theorem ops_is : OpS K (fun p q => (cmpD .Is p q).map .bl) (fun x y H Q => rIsB x y H Q ∨ (y = .non ∧ Q (.bl (decide (x = .non))) H)) := by
  intro H O p q d v w Q trk e tp tq k
  obtain ⟨c, e1, rfl⟩ := map_some' e
  cases q with
  | bl b => cases p with
    | bl a => cases e1; exact .inl ⟨a, b, tp, tq, k _ _ (Same.refl H) rfl⟩
    | _ => cases e1
  | non =>
    refine .inr ⟨tq, ?_⟩
    have : decide (v = V.non) = c := by
      cases p with
      | non => cases e1; rw [show v = V.non from tp]; rfl
      | bl x => cases e1; rw [show v = _ from tp]; rfl
      | int x => cases e1; rw [show v = _ from tp]; rfl
      | str x => cases e1; rw [show v = _ from tp]; rfl
      | tup x => cases e1; obtain ⟨_, _, rfl, _⟩ := tp; rfl
      | lst x => cases e1; obtain ⟨_, _, rfl, _⟩ := tp; rfl
      | scr x => cases e1; obtain ⟨_, rfl, _⟩ := tp; rfl
      | dic x => cases e1; obtain ⟨_, _, rfl, _⟩ := tp; rfl
      | obj x y => cases e1; obtain ⟨_, _, _, rfl, _⟩ := tp; rfl
      | err x y => cases e1; obtain ⟨_, _, rfl, _⟩ := tp; rfl
    rw [this]
    exact k _ _ (Same.refl H) rfl
  | _ => cases p <;> cases e1
theorem ops_isnot : OpS K (fun p q => (cmpD .IsNot p q).map .bl) (fun x y H Q => rNotB x y H Q ∨ (y = .non ∧ Q (.bl (!decide (x = .non))) H)) := by
  intro H O p q d v w Q trk e tp tq k
  obtain ⟨c, e1, rfl⟩ := map_some' e
  cases q with
  | bl b => cases p with
    | bl a => cases e1; exact .inl ⟨a, b, tp, tq, k _ _ (Same.refl H) rfl⟩
    | _ => cases e1
  | non =>
    refine .inr ⟨tq, ?_⟩
    have : (!decide (v = V.non)) = c := by
      cases p with
      | non => cases e1; rw [show v = V.non from tp]; rfl
      | bl x => cases e1; rw [show v = _ from tp]; rfl
      | int x => cases e1; rw [show v = _ from tp]; rfl
      | str x => cases e1; rw [show v = _ from tp]; rfl
      | tup x => cases e1; obtain ⟨_, _, rfl, _⟩ := tp; rfl
      | lst x => cases e1; obtain ⟨_, _, rfl, _⟩ := tp; rfl
      | scr x => cases e1; obtain ⟨_, rfl, _⟩ := tp; rfl
      | dic x => cases e1; obtain ⟨_, _, rfl, _⟩ := tp; rfl
      | obj x y => cases e1; obtain ⟨_, _, _, rfl, _⟩ := tp; rfl
      | err x y => cases e1; obtain ⟨_, _, rfl, _⟩ := tp; rfl
    rw [this]
    exact k _ _ (Same.refl H) rfl
  | _ => cases p <;> cases e1
theorem m_is (ha : PE X a (SE T W B F sa)) (hb : PE X b (SE T W B F sb)) (hm : behindInMarks .Is b = false) : PE X (.Compare a [.Is] [b] pos) (SE T W B F (.cmp .Is sa sb)) := m_cmp (op_isBl.or op_isN) ops_is ha hb hm
theorem m_isnot (ha : PE X a (SE T W B F sa)) (hb : PE X b (SE T W B F sb)) (hm : behindInMarks .IsNot b = false) : PE X (.Compare a [.IsNot] [b] pos) (SE T W B F (.cmp .IsNot sa sb)) := m_cmp (op_notBl.or op_notN) ops_isnot ha hb hm
end
end Ow

end
end

section
set_option Elab.async false
set_option linter.all false
set_option maxRecDepth 100000
noncomputable section
namespace Ow
open PySem PySem.Spec L2

section
variable {X : Cx} {T : Ent} {W : WX} {B : Blt → List D → Option D} {F : Str → List Slot → CR} {a b c e : Expr} {es : List Expr} {sa sb sc : E} {ss : List E} {pos : Pos} {K : Fr}
variable {ε ε' : List Slot} {σ : St} {H H' Hs : Hp} {O O' : Addr → Prop}

/-! ### subscripts -/
theorem atI_rv {xs : List D} {vs : List V} {i : Int} {d : D} {Hs : Hp} (r : RVs K Hs xs vs) (e : atI xs i = some d) : ∃ v, atI vs i = some v ∧ RV K Hs d v := by
  unfold atI at *
  rw [← r.length]
  obtain ⟨j, e1, e2⟩ := bind_some e
  rw [e1]
  exact r.get e2
theorem ops_ix : OpS K idxD (rIx K) := by
  intro H O p q d v w Q trk e tp tq k
  cases p with
  | lst xs => cases q with
    | int i =>
      obtain ⟨p, vs, rfl, h1, h2⟩ := tp
      obtain ⟨u, g1, g2⟩ := atI_rv h2 e
      exact .inl ⟨p, vs, i, u, rfl, tq, SqL.of h1, g1, k _ _ (Same.refl H) g2⟩
    | _ => cases e
  | tup xs => cases q with
    | int i =>
      obtain ⟨p, vs, rfl, h1, h2⟩ := tp
      obtain ⟨u, g1, g2⟩ := atI_rv h2 e
      exact .inr (.inl ⟨p, vs, i, u, rfl, tq, Ow.Same.sqt res_same h1, g1, k _ _ (Same.refl H) g2⟩)
    | _ => cases e
  | str z => cases q with
    | int i =>
      unfold idxD at e
      by_cases hl : z.length ≤ sizeLine
      · simp only [hl, if_true] at e
        obtain ⟨c, e1, rfl⟩ := map_some' e
        exact .inr (.inr ⟨z, i, c, tp, tq, hl, e1, k _ _ (Same.refl H) rfl⟩)
      · simp [hl] at e
    | _ => cases e
  | _ => cases q <;> cases e
theorem m_idx (hK : X.K = T.K) (ha : PE X a (SE T W B F sa)) (hb : PE X b (SE T W B F sb)) (hs : PlainIx b) : PE X (.Subscript a b pos) (SE T W B F (.idx sa sb)) := m_ix ix_seq (by rw [hK]; exact ops_ix) ha hb hs
theorem find_rv {Hs : Hp} {k : Key} : ∀ {kvs : List (Key × D)} {ws : List (Key × V)} {d : D}, RVk K Hs kvs ws → valD kvs k = some d → ∃ v, valV ws k = some v ∧ RV K Hs d v
  | [], ws, d, r, e => by cases e
  | (k', x) :: kvs, ws, d, r, e => by
    obtain ⟨v, r', rfl, h1, h2⟩ := r
    by_cases hk : k' = k
    · subst hk
      have : x = d := by simpa [valD] using e
      subst this
      exact ⟨v, by simp [valV], h1⟩
    · have e' : valD kvs k = some d := by simpa [valD, List.find?_cons, hk] using e
      obtain ⟨u, g1, g2⟩ := find_rv h2 e'
      exact ⟨u, by simpa [valV, List.find?_cons, hk] using g1, g2⟩
theorem getD_rd {p q d : D} {v w : V} (e : getD p q = some d) (tp : TopV K H (res H O) p v) (tq : TopV K H (res H O) q w) : ∃ a u, v = .ref a ∧ DGet H a w (some u) ∧ RV K (res H O) d u := by
  cases p with
  | dic kvs => cases q with
    | str s =>
      obtain ⟨a, ws, rfl, h1, h2⟩ := tp
      obtain ⟨u, g1, g2⟩ := find_rv h2 e
      obtain rfl : w = .str s := tq
      exact ⟨a, u, rfl, .inl ⟨ws, .inr s, .inl h1, rfl, g1.symm⟩, g2⟩
    | int s =>
      obtain ⟨a, ws, rfl, h1, h2⟩ := tp
      obtain ⟨u, g1, g2⟩ := find_rv h2 e
      obtain rfl : w = .int s := tq
      exact ⟨a, u, rfl, .inl ⟨ws, .inl s, .inl h1, rfl, g1.symm⟩, g2⟩
    | _ => cases e
  | _ => cases q <;> cases e
theorem m_dget (hu : X.A.units + 1 < cLine) (ha : PE X a (SE T W B F sa)) (hb : PE X b (SE T W B F sb)) (hs : ∀ ov iv, subscripted b false ov iv = operate [ov, iv] (getItem ov iv)) : PE X (.Subscript a b pos) (SE T W B F (.dget sa sb)) := (pe_dget hu ha hb hs).imp fun σ H Q h => by
  obtain ⟨ε, O, S, h⟩ := h
  rw [ev] at h
  refine ⟨ε, O, S, (h.bind S).mono fun x ε1 H1 O1 S1 u1 st1 h1 v hv => ?_⟩
  refine ⟨ε1, O1, S1, (h1.bind S1).mono fun y ε2 H2 O2 S2 u2 st2 h2 w hw => ?_⟩
  obtain ⟨p, q, d, e1, e2, e3, h3⟩ := out2_wp h2
  have hv2 := hv.step S1 u2 st2 (by rw [e1]; rfl)
  obtain ⟨a, u, rfl, g1, g2⟩ := getD_rd (K := T.K) (H := H2) (O := O2) e3 (hv2.top S2 e1) (hw.top S2 e2)
  exact ⟨a, u, rfl, g1, Wp.ok S2 h3 u g2⟩

/-! ### attributes -/
theorem look_rv {Hs : Hp} {f : Str} : ∀ {fs : List (Str × D)} {ws : List (Str × V)} {d : D}, RVf K Hs fs ws → fs.lookup f = some d → ∃ v, ws.lookup f = some v ∧ RV K Hs d v
  | [], ws, d, r, e => by cases e
  | (k', x) :: kvs, ws, d, r, e => by
    obtain ⟨v, r', rfl, h1, h2⟩ := r
    by_cases hk : f = k'
    · subst hk
      have : x = d := by simpa [List.lookup] using e
      subst this
      exact ⟨v, by simp [List.lookup], h1⟩
    · have hb : (f == k') = false := by simpa using hk
      have e' : kvs.lookup f = some d := by simpa [List.lookup, hb] using e
      obtain ⟨u, g1, g2⟩ := look_rv h2 e'
      exact ⟨u, by simpa [List.lookup, hb] using g1, g2⟩
theorem m_att {f : Str} (hK : X.K = T.K) {cs : List Str} (hC : ∀ c ∈ cs, Cls T.K (cA T.K c) ∧ NoAttr T.K (cA T.K c) f) (ha : PE X a (SE T W B F sa)) (hb : attributeBase a f X.env (eval a X.env) = eval a X.env) : PE X (.Attribute a f pos) (SE T W B F (.att sa f cs)) := (pe_fld ha hb).imp fun σ H Q h => by
  obtain ⟨ε, O, S, h⟩ := h
  rw [ev] at h
  refine ⟨ε, O, S, (h.bind S).mono fun x ε1 H1 O1 S1 u1 st1 h1 v hv => ?_⟩
  obtain ⟨p, d, e1, e3, h3⟩ := out1_wp h1
  have t := hv.top S1 e1
  cases p with
  | obj c fs =>
    obtain ⟨a, dx, ws, rfl, g1, g2⟩ := t
    unfold attD at e3
    by_cases hc : c ∈ cs
    · simp only [hc, if_true] at e3
      obtain ⟨u, l1, l2⟩ := look_rv g2 e3
      obtain ⟨k1, k2⟩ := hC c hc
      exact ⟨a, _, dx, ws, u, rfl, g1, by rw [hK]; exact k1, by rw [hK]; exact k2, l1, Wp.ok S1 h3 u l2⟩
    · simp [hc] at e3
  | _ => cases e3

/-! ### slices -/

theorem _root_.L2.PO.imp {e : Option Expr} {t t' : TO} (h : PO X e t) (f : ∀ σ H Q, t' σ H Q → t σ H Q) : PO X e t' := ⟨fun pins s σ H Q I q => h.run pins s σ H Q I (f σ H Q q)⟩
/-- an end of a slice, left out or an int -/
def SO (T : Ent) (W : WX) (B : Blt → List D → Option D) (F : Str → List Slot → CR) (se : E) : TO := fun σ H Q => ∃ ε O, StR T ε σ H O ∧
  Wp T W ε σ H O (prtR se (ev B F se ε)) fun o ε' H' O' => Q o H'
theorem o_none : PO X none (SO T W B F (.c .non)) := po_none.imp fun σ H Q h => by
  obtain ⟨ε, O, S, h⟩ := h
  rw [ev] at h
  exact Wp.ok S h
theorem cut_rv {Hs : Hp} {xs : List D} {vs : List V} {lo hi : Option Int} (r : RVs K Hs xs vs) : RVs K Hs (cutD xs lo hi) (cutV vs lo hi) := by
  unfold cutD cutV
  rw [r.length]
  exact RVs.take _ (RVs.drop _ r)
theorem prt_some {se : E} {d : Option D} {o : Option Int} (hn : se ≠ .c .non) (h : prtD se d = some o) : ∃ i, d = some (.int i) ∧ o = some i := by
  unfold prtD at h
  split at h
  · exact absurd rfl hn
  · cases h; exact ⟨_, rfl, rfl⟩
  · cases h
theorem o_some (ha : PE X e (SE T W B F sa)) (hn : sa ≠ .c .non) : PO X (some e) (SO T W B F sa) := (po_some ha).imp fun σ H Q h => by
  obtain ⟨ε, O, S, h⟩ := h
  refine ⟨ε, O, S, (h.bind S).mono fun x ε1 H1 O1 S1 u1 st1 h1 v hv => ?_⟩
  cases e1 : prtD sa (cont ε1 x) with
  | none => rw [e1] at h1; exact h1.elim
  | some o =>
    rw [e1] at h1
    obtain ⟨i, e2, rfl⟩ := prt_some hn e1
    exact ⟨i, hv.top S1 e2, Wp.ok S1 h1⟩
theorem m_slc {lo hi : Option Expr} {sl sh : E} {p2 : Pos} (hK : X.K = T.K) (ha : PE X a (SE T W B F sa)) (hl : PO X lo (SO T W B F sl)) (hh : PO X hi (SO T W B F sh)) : PE X (.Subscript a (.Slice lo hi none p2) pos) (SE T W B F (.slc sa sl sh)) :=
  (pe_slice (sl_list.or sl_tupA) ha hl hh).imp fun σ H Q h => by
    obtain ⟨ε, O, S, h⟩ := h
    rw [ev] at h
    refine ⟨ε, O, S, (h.bind S).mono fun x ε1 H1 O1 S1 u1 st1 h1 v hv => ?_⟩
    refine ⟨ε1, O1, S1, (h1.bind S1).mono fun l ε2 H2 O2 S2 u2 st2 h2 => ?_⟩
    refine ⟨ε2, O2, S2, (h2.bind S2).mono fun u ε3 H3 O3 S3 u3 st3 h3 => ?_⟩
    obtain ⟨p, d, e1, e3, h4⟩ := out1_wp h3
    have tp := (hv.step S1 (u2.trans u3) (st2.trans S1 u2 st3) (by rw [e1]; rfl)).top S3 e1
    cases p with
    | lst xs =>
      cases e3
      obtain ⟨p, vs, rfl, g1, g2⟩ := tp
      refine .inl ⟨p, vs, rfl, SqL.of g1, fun n hn => ?_⟩
      obtain ⟨z1, z2, z3, z4⟩ := new_rv (o := .lst (cutV vs l u)) S3.trk hn
      exact done_wp S3 h4 _ _ z2 ⟨n, _, rfl, z4, RVs.same z3 (cut_rv g2)⟩
    | tup xs =>
      cases e3
      obtain ⟨p, vs, rfl, g1, g2⟩ := tp
      refine .inr ⟨p, vs, rfl, by rw [hK]; exact Ow.Same.sqt res_same g1, fun w => ?_, fun w n hn => ?_⟩
      · have e : cutD xs l u = xs := by
          unfold cutD
          rw [g2.length, w.1, w.2]
          simp [← g2.length]
        refine Wp.ok S3 h4 _ ?_
        rw [e]
        exact ⟨p, vs, rfl, g1, g2⟩
      · obtain ⟨z1, z2, z3, z4⟩ := new_rv (o := .tup (cutV vs l u)) S3.trk hn
        exact done_wp S3 h4 _ _ z2 ⟨n, _, rfl, .inl (.inl z4), RVs.same z3 (cut_rv g2)⟩
    | _ => cases e3
theorem m_rev {k : Nat} {p1 p2 p3 : Pos} (ha : PE X a (SE T W B F sa)) : PE X (.Subscript a (.Slice none none (some (.UnaryOp .USub (.Constant (.int 1) k p1) p2)) p3) pos) (SE T W B F (.rev sa)) := (pe_revL ha).imp fun σ H Q h => by
  obtain ⟨ε, O, S, h⟩ := h
  rw [ev] at h
  refine ⟨ε, O, S, (h.bind S).mono fun x ε1 H1 O1 S1 u1 st1 h1 v hv => ?_⟩
  obtain ⟨p, d, e1, e3, h4⟩ := out1_wp h1
  have tp := hv.top S1 e1
  cases p with
  | lst xs =>
    cases e3
    obtain ⟨p, vs, rfl, g1, g2⟩ := tp
    refine ⟨p, vs, rfl, SqL.of g1, fun n hn => ?_⟩
    obtain ⟨z1, z2, z3, z4⟩ := new_rv (o := .lst vs.reverse) S1.trk hn
    exact done_wp S1 h4 _ _ z2 ⟨n, _, rfl, z4, RVs.same z3 (RVs.rev g2)⟩
  | _ => cases e3

/-! ### built-ins -/
def TopVs (K : Fr) (H Hs : Hp) : List D → List V → Prop
  | [], vs => vs = []
  | d :: ds, vs => ∃ v r, vs = v :: r ∧ TopV K H Hs d v ∧ TopVs K H Hs ds r
theorem tops_of (S : StR T ε σ H O) : ∀ {xs : List EV} {vs : List V} {ds : List D}, EvOk T ε σ Hs H O xs vs → conts ε xs = some ds → TopVs T.K H (res H O) ds vs
  | [], vs, ds, r, e => by cases e; exact r
  | x :: xs, vs, ds, r, e => by
    obtain ⟨v, r', rfl, h1, _, h2⟩ := r
    unfold conts at e
    cases e1 : cont ε x with
    | none => rw [e1] at e; cases e
    | some d =>
      cases e2 : conts ε xs with
      | none => rw [e1, e2] at e; cases e
      | some ds' =>
        rw [e1, e2] at e
        cases e
        exact ⟨v, r', rfl, (h1 (by rw [e1]; rfl)).top S e1, tops_of S h2 e2⟩
def CallS (K : Fr) (f : List D → Option D) (r : List V → Hp → VK → Prop) : Prop := ∀ (H : Hp) (O : Addr → Prop) (ds : List D) (d : D) (vs : List V) (Q : VK), (∀ a, O a → H a ≠ none) → f ds = some d → TopVs K H (res H O) ds vs →
  (∀ v' H', Same H H' → RV K (res H' O) d v' → Q v' H') → r vs H Q
theorem blt_rd {f : Blt} {r : List V → Hp → VK → Prop} (hr : CallS T.K (B f) r) (h : SE T W B F (.blt f ss) σ H Q) : tCB r (SA T W B F ss) σ H Q := by
  obtain ⟨ε, O, S, h⟩ := h
  rw [ev] at h
  refine ⟨ε, O, S, (h.bind S).mono fun xs ε1 H1 O1 S1 u1 st1 h1 vs hvs => ?_⟩
  cases e1 : conts ε1 xs with
  | none => rw [e1] at h1; exact h1.elim
  | some ds =>
    rw [e1] at h1
    cases e2 : B f ds with
    | none => simp only [e2] at h1; exact h1.elim
    | some d =>
      simp only [e2] at h1
      exact hr H1 O1 ds d vs Q S1.trk e2 (tops_of S1 hvs e1) (done_wp S1 h1)
theorem m_blt {f : Blt} {x : Str} {p : Pos} {id : String} {r : List V → Hp → VK → Prop} (hc : CallR X (.builtin id) r) (hr : CallS T.K (B f) r) (hg : Gl X x) (hm : X.mg x = none) (hv : bootBuiltins x = some (.builtin id)) (ha : PA X (e :: es) (SA T W B F ss)) (hn : x ≠ "__name__" := by decide) (hdb : (x == ("__debug__" : Str)) = false := by decide)
    (he : starEach (e :: es) X.env = (false, eval e X.env) :: starEach es X.env := by rfl) (hpl : (backTo pos (starEach es X.env)).any (·.1) = false := by rfl) : PE X (.Call (.Name x p) (e :: es) [] pos) (SE T W B F (.blt f ss)) :=
  (pe_callB hc hg hm hv ha hn hdb he hpl).imp fun σ H Q h => blt_rd hr h
theorem m_bty {f : Blt} {x : Str} {p : Pos} {id : String} {r : List V → Hp → VK → Prop} (hc : CallR X (.type id) r) (hr : CallS T.K (B f) r) (hg : Gl X x) (hm : X.mg x = none) (hv : bootBuiltins x = some (.type id)) (ha : PA X (e :: es) (SA T W B F ss)) (hn : x ≠ "__name__" := by decide) (hdb : (x == ("__debug__" : Str)) = false := by decide)
    (he : starEach (e :: es) X.env = (false, eval e X.env) :: starEach es X.env := by rfl) (hpl : (backTo pos (starEach es X.env)).any (·.1) = false := by rfl) : PE X (.Call (.Name x p) (e :: es) [] pos) (SE T W B F (.blt f ss)) :=
  (pe_callTy hc hg hm hv ha hn hdb he hpl).imp fun σ H Q h => blt_rd hr h
end
end Ow

end
end

section
set_option Elab.async false
set_option linter.all false
set_option maxRecDepth 100000
noncomputable section
namespace Ow
open PySem PySem.Spec L2

/-! ## statements -/
inductive Out where
  | nx | bk | ct | rt (d : D) | rn (d : D)
inductive S where
  | asg (t : Tgt) (e : E)
  | own (i : Nat) (e : E)
  | par (is : List Nat) (es : List E)
  | setK (i : Nat) (k v : E)
  | setL (i : Nat) (k v : E)
  | setA (i : Nat) (f : Str) (cs : List Str) (v : E)
  | aug (i : Nat) (o : Operator) (e : E)
  | ex (e : E)
  | ret (e : E)
  | retN (e : E)
  | retT (i : Nat)
  | ife (c : E) (a b : List S)
  | loop (k : ItK) (src : List E) (t : Tgt) (b : List S)
  | whl (c : E) (b : List S)
  | brk | cnt | pass
def loopF (turn : D → List Slot → R Out) : List D → List Slot → R Out
  | [], e => .ok .nx e
  | d :: ds, e => match turn d e with
    | .ok .nx e' => loopF turn ds e'
    | .ok .ct e' => loopF turn ds e'
    | .ok .bk e' => .ok .nx e'
    | .ok (.rt d) e' => .ok (.rt d) e'
    | .ok (.rn d) e' => .ok (.rn d) e'
    | .exc c fs e' => .exc c fs e'
    | .stuck => .stuck
def loopW (test : List Slot → R Bool) (turn : List Slot → R Out) : Nat → List Slot → R Out
  | 0, _ => .stuck
  | n + 1, e => match test e with
    | .ok true e1 => (match turn e1 with
      | .ok .nx e' => loopW test turn n e'
      | .ok .ct e' => loopW test turn n e'
      | .ok .bk e' => .ok .nx e'
      | .ok (.rt d) e' => .ok (.rt d) e'
      | .ok (.rn d) e' => .ok (.rn d) e'
      | .exc c fs e' => .exc c fs e'
      | .stuck => .stuck)
    | .ok false e1 => .ok .nx e1
    | .exc c fs e' => .exc c fs e'
    | .stuck => .stuck
def seqO (r : R Out) (k : List Slot → R Out) : R Out := match r with
  | .ok .nx e => k e
  | .ok o e => .ok o e
  | .exc c fs e => .exc c fs e
  | .stuck => .stuck
def augD (o : Operator) (p q : Int) : Option Int := match o with
  | .Add => some (p + q)
  | .Sub => some (p - q)
  | _ => none
def putFD (f : Str) (v : D) : List (Str × D) → List (Str × D)
  | [] => [(f, v)]
  | (g, x) :: r => if g = f then (g, v) :: r else (g, x) :: putFD f v r
section
variable (B : Blt → List D → Option D) (F : Str → List Slot → CR) (wf : Nat)
mutual
def evS : S → List Slot → R Out
  | .asg t a, e => (ev B F a e).bind fun x e => match x with
    | .sh d => (match bindT t d e with
      | some e' => .ok .nx e'
      | none => .stuck)
    | _ => .stuck
  | .own i a, e => (ev B F a e).bind fun x e => match x with
    | .sh d => if i < e.length then .ok .nx (e.set i (.ow d)) else .stuck
    | _ => .stuck
  | .par is es, e => (evs B F es e).bind fun xs e => match shs xs with
    | some ds => if is.length = ds.length ∧ is.all (fun i => decide (i < e.length)) = true then .ok .nx (setAll is ds e) else .stuck
    | none => .stuck
  | .setK i k v, e => (ev B F v e).bind fun x e => (match cont e (.pl i) with
    | some _ => (ev B F k e).bind fun y e => (match x, y, cont e (.pl i) with
      | .sh d, .sh (.str z), some (.dic kvs) => if kvs.length < sizeLine then .ok .nx (upCt e i (.dic (putD kvs (.inr z) d))) else .stuck
      | .sh d, .sh (.int z), some (.dic kvs) => if kvs.length < sizeLine then .ok .nx (upCt e i (.dic (putD kvs (.inl z) d))) else .stuck
      | _, _, _ => .stuck)
    | none => .stuck)
  | .setL i k v, e => (ev B F v e).bind fun x e => (match cont e (.pl i) with
    | some _ => (ev B F k e).bind fun y e => (match x, y, cont e (.pl i) with
      | .sh d, .sh (.int z), some (.lst ds) => (match ixN ds.length z with
        | some j => .ok .nx (upCt e i (.lst (ds.set j d)))
        | none => .stuck)
      | _, _, _ => .stuck)
    | none => .stuck)
  | .setA i f cs v, e => (ev B F v e).bind fun x e => (match x, cont e (.pl i) with
    | .sh d, some (.obj c fs) => if c ∈ cs ∧ fs.length < 900 then .ok .nx (upCt e i (.obj c (putFD f d fs))) else .stuck
    | _, _ => .stuck)
  | .aug i o a, e => (match e[i]? with
    | some (.sh (.int p)) => (ev B F a e).bind fun x e => (match cont e x, e[i]? with
      | some (.int q), some _ => (match augD o p q with
        | some r => .ok .nx (e.set i (.sh (.int r)))
        | none => .stuck)
      | _, _ => .stuck)
    | _ => .stuck)
  | .ex a, e => (ev B F a e).bind fun _ e => .ok .nx e
  | .ret a, e => (ev B F a e).bind fun x e => match x with
    | .sh d => .ok (.rt d) e
    | _ => .stuck
  | .retN a, e => (ev B F a e).bind fun x e => match x with
    | .sh d => .ok (.rn d) e
    | _ => .stuck
  | .retT i, e => (match e[i]? with
    | some (.ow d) => .ok (.rn d) (e.set i .un)
    | _ => .stuck)
  | .ife c a b, e => (evT B F c e).bind fun k e => if k = true then evB a e else evB b e
  | .loop k src t b, e => (evs B F src e).bind fun xs e => match (shs xs).bind (itemsOf k) with
    | some ds => loopF (fun d e => match bindT t d e with
      | some e' => evB b e'
      | none => .stuck) ds e
    | none => .stuck
  | .whl c b, e => loopW (fun e => evT B F c e) (fun e => evB b e) wf e
  | .brk, e => .ok .bk e
  | .cnt, e => .ok .ct e
  | .pass, e => .ok .nx e
def evB : List S → List Slot → R Out
  | [], e => .ok .nx e
  | s :: ss, e => seqO (evS s e) fun e => evB ss e
end
end

section
variable {X : Cx} {T : Ent} {W : WX} {B : Blt → List D → Option D} {F : Str → List Slot → CR} {wf : Nat} {a b c e : Expr} {es : List Expr} {sa sb sc : E} {ss : List E} {pos : Pos} {K : Fr}
variable {ε ε' : List Slot} {σ σ' : St} {H H' Hs : Hp} {O O' : Addr → Prop} {D : Ends}

def WpS (T : Ent) (W : WX) (D : Ends) (H : Hp) (O : Addr → Prop) (r : R Out) : Prop := match r with
  | .ok .nx ε' => ∀ σ' H' O', StR T ε' σ' H' O' → Same (res H O) (res H' O') → D.nx σ' H'
  | .ok .bk ε' => ∀ σ' H' O', StR T ε' σ' H' O' → Same (res H O) (res H' O') → D.bk σ' H'
  | .ok .ct ε' => ∀ σ' H' O', StR T ε' σ' H' O' → Same (res H O) (res H' O') → D.ct σ' H'
  | .ok (.rt d) ε' => ∀ v σ' H' O', StR T ε' σ' H' O' → Same (res H O) (res H' O') → RV T.K (res H' O') d v → D.rt v H'
  | .ok (.rn d) ε' => ∀ p σ' Hx H' O', StR T ε' σ' Hx O' → Same (res H O) (res Hx O') → New T ε' σ' Hx H' O' d p → D.rt (.ref p) H'
  | .exc c fs ε' => ∀ dx σ' H' O', StR T ε' σ' H' O' → Same (res H O) (res H' O') → ExR T.K (res H' O') H' fs dx → W (.ref (cA T.K c)) (some dx) σ' H'
  | .stuck => False
def SS (T : Ent) (W : WX) (B : Blt → List Ow.D → Option Ow.D) (F : Str → List Slot → CR) (wf : Nat) (s : S) : TS := fun D σ H => ∃ ε O, StR T ε σ H O ∧ WpS T W D H O (evS B F wf s ε)
def SB (T : Ent) (W : WX) (B : Blt → List Ow.D → Option Ow.D) (F : Str → List Slot → CR) (wf : Nat) (s : List S) : TS := fun D σ H => ∃ ε O, StR T ε σ H O ∧ WpS T W D H O (evB B F wf s ε)
theorem Same.trans' {H1 H2 H3 : Hp} (a : Same H1 H2) (b : Same H2 H3) : Same H1 H3 := fun x o h => b x o (a x o h)
theorem WpS.later {H1 : Hp} {O1 : Addr → Prop} {r : R Out} (g : Same (res H O) (res H1 O1)) (h : WpS T W D H O r) : WpS T W D H1 O1 r := by
  cases r with
  | ok o e =>
    cases o with
    | nx => exact fun σ' H' O' S s => h σ' H' O' S (Same.trans' g s)
    | bk => exact fun σ' H' O' S s => h σ' H' O' S (Same.trans' g s)
    | ct => exact fun σ' H' O' S s => h σ' H' O' S (Same.trans' g s)
    | rt d => exact fun v σ' H' O' S s => h v σ' H' O' S (Same.trans' g s)
    | rn d => exact fun p σ' Hx H' O' S s => h p σ' Hx H' O' S (Same.trans' g s)
  | exc c fs e => exact fun dx σ' H' O' S s => h dx σ' H' O' S (Same.trans' g s)
  | stuck => exact h
/-- an expression, then a statement's end -/
theorem WpS.bind {α : Type} {r : R α} {f : α → List Slot → R Out} (S : StR T ε σ H O) (h : WpS T W D H O (r.bind f)) : Wp T W ε σ H O r (fun a ε' H' O' => WpS T W D H' O' (f a ε')) := by
  cases r with
  | ok a e => exact fun H' O' S' u st => WpS.later (st.same S) h
  | exc c fs e => exact fun dx H' O' S' u st => h dx σ H' O' S' (st.same S)
  | stuck => exact h
theorem WpS.seq {r : R Out} {k : List Slot → R Out} {t : TS} (h : WpS T W D H O (seqO r k)) (f : ∀ ε' σ' H' O', StR T ε' σ' H' O' → WpS T W D H' O' (k ε') → t D σ' H') : WpS T W { D with nx := t D } H O r := by
  cases r with
  | ok o e =>
    cases o with
    | nx => exact fun σ' H' O' S s => f e σ' H' O' S (WpS.later s h)
    | bk => exact h
    | ct => exact h
    | rt d => exact h
    | rn d => exact h
  | exc c fs e => exact h
  | stuck => exact h
theorem s_nil : PSs X [] (SB T W B F wf []) := pss_nil.imp fun D σ H h => by
  obtain ⟨ε, O, S, h⟩ := h
  rw [evB] at h
  exact h σ H O S fun _ _ z => z
theorem s_cons {st : Stmt} {sts : List Stmt} {s : Ow.S} {r : List Ow.S} (h1 : PS X st (SS T W B F wf s)) (h2 : PSs X sts (SB T W B F wf r)) : PSs X (st :: sts) (SB T W B F wf (s :: r)) := (pss_cons h1 h2).imp fun D σ H h => by
  obtain ⟨ε, O, S, h⟩ := h
  rw [evB] at h
  exact ⟨ε, O, S, h.seq fun ε' σ' H' O' S' h' => ⟨ε', O', S', h'⟩⟩
theorem s_pass : PS X (.Pass pos) (SS T W B F wf .pass) := ps_pass.imp fun D σ H h => by
  obtain ⟨ε, O, S, h⟩ := h
  rw [evS] at h
  exact h σ H O S fun _ _ z => z
theorem s_brk : PS X (.Break pos) (SS T W B F wf .brk) := ps_break.imp fun D σ H h => by
  obtain ⟨ε, O, S, h⟩ := h
  rw [evS] at h
  exact h σ H O S fun _ _ z => z
theorem s_cnt : PS X (.Continue pos) (SS T W B F wf .cnt) := ps_continue.imp fun D σ H h => by
  obtain ⟨ε, O, S, h⟩ := h
  rw [evS] at h
  exact h σ H O S fun _ _ z => z
theorem s_ex (ha : PE X a (SE T W B F sa)) (hs : swapsWith a none pos.line X.env = pure false := by rfl) : PS X (.Expr a pos) (SS T W B F wf (.ex sa)) := (ps_expr ha hs).imp fun D σ H h => by
  obtain ⟨ε, O, S, h⟩ := h
  rw [evS] at h
  exact ⟨ε, O, S, (h.bind S).mono fun x ε1 H1 O1 S1 u1 st1 h1 v hv => h1 σ H1 O1 S1 fun _ _ z => z⟩
theorem s_ret (ha : PE X a (SE T W B F sa)) : PS X (.Return (some a) pos) (SS T W B F wf (.ret sa)) := (ps_ret ha).imp fun D σ H h => by
  obtain ⟨ε, O, S, h⟩ := h
  rw [evS] at h
  refine ⟨ε, O, S, (h.bind S).mono fun x ε1 H1 O1 S1 u1 st1 h1 v hv => ?_⟩
  cases x with
  | sh d => exact h1 v σ H1 O1 S1 (fun _ _ z => z) hv
  | _ => exact h1.elim
theorem s_retN (ha : PE X a (SN T W B F sa)) : PS X (.Return (some a) pos) (SS T W B F wf (.retN sa)) := (ps_ret ha).imp fun D σ H h => by
  obtain ⟨ε, O, S, h⟩ := h
  rw [evS] at h
  refine ⟨ε, O, S, (h.bind S).mono fun x ε1 H1 O1 S1 u1 st1 h1 d p H2 hx n => ?_⟩
  subst hx
  exact h1 p σ H1 H2 O1 S1 (fun _ _ z => z) n
theorem s_if {p q : List Stmt} {sp sq : List Ow.S} (hc : PT X c (ST T W B F sc)) (hp : PSs X p (SB T W B F wf sp)) (hq : PSs X q (SB T W B F wf sq)) : PS X (.If c p q pos) (SS T W B F wf (.ife sc sp sq)) := (ps_if hc hp hq).imp fun D σ H h => by
  obtain ⟨ε, O, S, h⟩ := h
  rw [evS] at h
  refine ⟨ε, O, S, (h.bind S).mono fun k ε1 H1 O1 S1 u1 st1 h1 => ?_⟩
  cases k with
  | true => exact (if_pos rfl).mpr ⟨ε1, O1, S1, by rw [if_pos rfl] at h1; exact h1⟩
  | false => exact (if_neg (by decide)).mpr ⟨ε1, O1, S1, by rw [if_neg (by decide)] at h1; exact h1⟩

/-! ### names are bound -/
theorem StR.bind {i : Nat} {d : Ow.D} {v : V} (S : StR T ε σ H O) (r : RV T.K (res H O) d v) : StR T (ε.set i (.sh d)) (σ.set i (some v)) H O := by
  refine ⟨by rw [List.length_set, List.length_set]; exact S.len, S.old, S.mm, S.trk0, S.trk, S.new, S.frame, fun j s ej => ?_, fun j k a s t ej ek hs ht g1 g2 => ?_, fun j d' ej => ?_⟩
  · by_cases hj : i = j
    · subst hj
      have lt : i < (ε.set i (.sh d)).length := (List.getElem?_eq_some_iff.mp ej).1
      rw [List.length_set] at lt
      rw [List.getElem?_set_self lt] at ej
      cases ej
      exact ⟨v, List.getElem?_set_self (by rw [← S.len]; exact lt), r⟩
    · rw [List.getElem?_set_ne hj] at ej
      rw [List.getElem?_set_ne hj]
      exact S.slot j s ej
  · have nj : ∀ {j : Nat} {s : Slot} {w : V}, (ε.set i (.sh d))[j]? = some s → s.own = true → ε[j]? = some s ∧ (σ.set i (some v))[j]? = σ[j]? := fun {j s w} ej hs => by
      by_cases hj : i = j
      · subst hj
        have lt : i < (ε.set i (.sh d)).length := (List.getElem?_eq_some_iff.mp ej).1
        rw [List.length_set] at lt
        rw [List.getElem?_set_self lt] at ej
        cases ej
        cases hs
      · rw [List.getElem?_set_ne hj] at ej
        exact ⟨ej, List.getElem?_set_ne hj⟩
    obtain ⟨e1, e2⟩ := nj (w := v) ej hs
    obtain ⟨e3, e4⟩ := nj (w := v) ek ht
    rw [e2] at g1
    rw [e4] at g2
    exact S.dist j k a s t e1 e3 hs ht g1 g2
  · by_cases hj : i = j
    · subst hj
      have lt : i < (ε.set i (.sh d)).length := (List.getElem?_eq_some_iff.mp ej).1
      rw [List.length_set] at lt
      rw [List.getElem?_set_self lt] at ej
      cases ej
    · rw [List.getElem?_set_ne hj] at ej
      rw [List.getElem?_set_ne hj]
      exact S.lns j d' ej
/-- a target's reading -/
def tgIx : Tgt → List Nat
  | .nm i => [i]
  | .tp is => is
/-- σ' is σ but at these slots -/
def Off (is : List Nat) (σ σ' : St) : Prop := ∀ j, j ∉ is → σ'[j]? = σ[j]?
def SG (T : Ent) (t : Tgt) : TG := fun v σ H Q => ∃ ε O d, StR T ε σ H O ∧ RV T.K (res H O) d v ∧ ∃ ε', bindT t d ε = some ε' ∧ ∀ σ', StR T ε' σ' H O → Off (tgIx t) σ σ' → Q σ' H
theorem _root_.L2.PG.imp {e : Expr} {t t' : TG} (h : PG X e t) (f : ∀ v σ H Q, t' v σ H Q → t v σ H Q) : PG X e t' := ⟨fun pins s σ H x u Q I r q => h.run pins s σ H x u Q I r (f x σ H Q q)⟩
theorem g_nm {i : Nat} {x : Expr} (h : PG X x (gName i)) : PG X x (SG T (.nm i)) := h.imp fun v σ H Q q => by
  obtain ⟨ε, O, d, S, r, ε', e, k⟩ := q
  unfold bindT at e
  by_cases hl : i < ε.length
  · simp only [hl, if_true] at e
    cases e
    exact k _ (S.bind r) fun j hj => List.getElem?_set_ne fun z => hj (by rw [← z]; exact List.mem_cons_self)
  · simp [hl] at e
def setVs : List Nat → List V → St → St
  | i :: is, v :: vs, σ => setVs is vs (σ.set i (some v))
  | _, _, σ => σ
theorem off_setVs : ∀ (is : List Nat) (vs : List V) (σ : St), Off is σ (setVs is vs σ)
  | i :: is, v :: vs, σ => fun j hj => by
    have h1 := off_setVs is vs (σ.set i (some v)) j fun z => hj (List.mem_cons_of_mem _ z)
    show (setVs is vs (σ.set i (some v)))[j]? = σ[j]?
    rw [h1]
    exact List.getElem?_set_ne fun z => hj (by rw [← z]; exact List.mem_cons_self)
  | [], _, _ => fun _ _ => rfl
  | _ :: _, [], _ => fun _ _ => rfl
theorem StR.bindAll : ∀ {is : List Nat} {ds : List Ow.D} {vs : List V} {ε : List Slot} {σ : St}, StR T ε σ H O → RVs T.K (res H O) ds vs → is.length = ds.length → StR T (setAll is ds ε) (setVs is vs σ) H O
  | [], [], vs, ε, σ, S, r, _ => by
    rw [show vs = [] from r]
    exact S
  | i :: is, d :: ds, vs, ε, σ, S, r, l => by
    obtain ⟨v, r', rfl, h1, h2⟩ := r
    exact StR.bindAll (is := is) (ds := ds) (vs := r') (S.bind h1) h2 (by simpa using l)
  | [], _ :: _, _, _, _, _, _, l => by simp at l
  | _ :: _, [], _, _, _, _, _, l => by simp at l
/-- names in a row -/
def SGs (is : List Nat) : TGs := fun vs σ H Q => vs.length = is.length ∧ Q (setVs is vs σ) H
theorem _root_.L2.PGs.imp {e : List Expr} {t t' : TGs} (h : PGs X e t) (f : ∀ v σ H Q, t' v σ H Q → t v σ H Q) : PGs X e t' := ⟨fun pins s σ H x u Q I r q => h.run pins s σ H x u Q I r (f x σ H Q q)⟩
theorem gs_nil : PGs X [] (SGs []) := pgs_nil.imp fun vs σ H Q q => by
  have e : vs = [] := List.eq_nil_of_length_eq_zero q.1
  subst e
  exact ⟨rfl, q.2⟩
theorem gs_cons {i : Nat} {is : List Nat} {x : Expr} {xs : List Expr} (h1 : PG X x (gName i)) (h2 : PGs X xs (SGs is)) (hx : ((assignEach (x :: xs) X.env).map (·.2)) = assign x X.env :: (assignEach xs X.env).map (·.2) := by rfl) : PGs X (x :: xs) (SGs (i :: is)) := (pgs_cons h1 h2 hx).imp fun vs σ H Q q => by
  obtain ⟨l, q⟩ := q
  cases vs with
  | nil => simp at l
  | cons v vs => exact ⟨v, vs, rfl, by simpa using l, q⟩
theorem g_tp {is : List Nat} {xs : List Expr} {k : Nat} (hK : X.K = T.K) (hc : X.calm = true) (h : PGs X xs (SGs is)) (hn : (assignEach xs X.env).length = is.length := by rfl) (hst : (assignEach xs X.env).findIdx? (·.1) = none := by rfl) : PG X (.Tuple xs k pos) (SG T (.tp is)) := (pg_tup hc h hn hst).imp fun v σ H Q q => by
  obtain ⟨ε, O, d, S, r, ε', e, k⟩ := q
  cases d with
  | tup ds =>
    unfold bindT at e
    by_cases hl : is.length = ds.length ∧ is.all (fun i => decide (i < ε.length)) = true
    · dsimp only at e
      rw [if_pos hl] at e
      cases e
      obtain ⟨a, vs, rfl, h1, h2⟩ := r
      exact ⟨a, vs, rfl, by rw [hK]; exact Ow.Same.sqt res_same h1, by rw [← h2.length]; exact hl.1.symm, by rw [← h2.length]; exact hl.1.symm, k _ (S.bindAll h2 hl.1) (off_setVs _ _ _)⟩
    · dsimp only at e
      rw [if_neg hl] at e
      cases e
  | _ => cases e
theorem s_asg {tg : Expr} {t : Tgt} (ha : PE X a (SE T W B F sa)) (hg : PG X tg (SG T t)) (hs : swapsWithSole [tg] a pos.line X.env = pure false := by rfl) (hw : swappedStores [tg] a X.env = pure none := by rfl) (h1 : (assignEach [tg] X.env).map (·.2) = [assign tg X.env] := by rfl) : PS X (.Assign [tg] a pos) (SS T W B F wf (.asg t sa)) := (ps_asg ha hg hs hw h1).imp fun D σ H h => by
  obtain ⟨ε, O, S, h⟩ := h
  rw [evS] at h
  refine ⟨ε, O, S, (h.bind S).mono fun x ε1 H1 O1 S1 u1 st1 h1 v hv => ?_⟩
  cases x with
  | sh d =>
    dsimp only at h1
    cases e : bindT t d ε1 with
    | none => rw [e] at h1; exact h1.elim
    | some ε2 =>
      rw [e] at h1
      exact ⟨ε1, O1, d, S1, hv, ε2, e, fun σ' S' _ => h1 σ' H1 O1 S' fun _ _ z => z⟩
  | _ => exact h1.elim
/-- x = e, a name -/
theorem s_set {i : Nat} {x : Str} {p' : Pos} (ha : PE X a (SE T W B F sa)) (hN : X.N.Nodup) (hi : X.N[i]? = some x) (hx : Loc X.env.scope x) (hs : swapsWith a (some (.Name x p')) pos.line X.env = pure false := by rfl) (hf : X.fn x = true ∨ X.env.scope.names.lookup x = some .local := by first | exact .inl rfl | exact .inr rfl | assumption) :
    PS X (.Assign [.Name x p'] a pos) (SS T W B F wf (.asg (.nm i) sa)) := (ps_set hN hi hx ha hs hf).imp fun D σ H h => by
  obtain ⟨ε, O, S, h⟩ := h
  rw [evS] at h
  refine ⟨ε, O, S, (h.bind S).mono fun x ε1 H1 O1 S1 u1 st1 h1 v hv => ?_⟩
  cases x with
  | sh d =>
    dsimp only at h1
    unfold bindT at h1
    by_cases hl : i < ε1.length
    · simp only [hl, if_true] at h1
      exact h1 _ H1 O1 (S1.bind hv) fun _ _ z => z
    · simp [hl] at h1
      exact h1.elim
  | _ => exact h1.elim
/-- a thing is made and kept as one's own -/
theorem StR.keep {i : Nat} {d : Ow.D} {p : Addr} (S : StR T ε σ H O) (n : New T ε σ H H' O d p) : StR T (ε.set i (.ow d)) (σ.set i (some (.ref p))) H' (addO O p) := by
  have S' := S.add n.nh n.same n.ct.some
  have np : ¬ Own ε σ p := S.notOwn n.nh
  refine ⟨by rw [List.length_set, List.length_set]; exact S.len, S'.old, S'.mm, S'.trk0, S'.trk, S'.new, S'.frame, fun j s ej => ?_, fun j k a s t ej ek hs ht g1 g2 => ?_, fun j d' ej => ?_⟩
  · by_cases hj : i = j
    · subst hj
      have lt : i < (ε.set i (.ow d)).length := (List.getElem?_eq_some_iff.mp ej).1
      rw [List.length_set] at lt
      rw [List.getElem?_set_self lt] at ej
      cases ej
      exact ⟨p, List.getElem?_set_self (by rw [← S.len]; exact lt), .inr rfl, S.fresh0 n.nh, n.ct.sub (res_add n.nh n.same)⟩
    · rw [List.getElem?_set_ne hj] at ej
      rw [List.getElem?_set_ne hj]
      exact S'.slot j s ej
  · have cs : ∀ {j : Nat} {s : Slot}, (ε.set i (.ow d))[j]? = some s → s.own = true → (σ.set i (some (.ref p)))[j]? = some (some (.ref a)) → (j = i ∧ a = p) ∨ (j ≠ i ∧ ε[j]? = some s ∧ σ[j]? = some (some (.ref a))) := fun {j s} ej hs g => by
      by_cases hj : i = j
      · subst hj
        have lt : i < (ε.set i (.ow d)).length := (List.getElem?_eq_some_iff.mp ej).1
        rw [List.length_set] at lt
        rw [List.getElem?_set_self (by rw [← S.len]; exact lt)] at g
        cases g
        exact .inl ⟨rfl, rfl⟩
      · rw [List.getElem?_set_ne hj] at ej
        rw [List.getElem?_set_ne hj] at g
        exact .inr ⟨fun e => hj e.symm, ej, g⟩
    rcases cs ej hs g1 with ⟨rfl, rfl⟩ | ⟨n1, e1, q1⟩
    · rcases cs ek ht g2 with ⟨rfl, _⟩ | ⟨n2, e2, q2⟩
      · rfl
      · exact absurd ⟨k, t, e2, ht, q2⟩ np
    · rcases cs ek ht g2 with ⟨rfl, rfl⟩ | ⟨n2, e2, q2⟩
      · exact absurd ⟨j, s, e1, hs, q1⟩ np
      · exact S.dist j k a s t e1 e2 hs ht q1 q2
  · by_cases hj : i = j
    · subst hj
      have lt : i < (ε.set i (.ow d)).length := (List.getElem?_eq_some_iff.mp ej).1
      rw [List.length_set] at lt
      rw [List.getElem?_set_self lt] at ej
      cases ej
    · rw [List.getElem?_set_ne hj] at ej
      rw [List.getElem?_set_ne hj]
      exact S.lns j d' ej
theorem own_end {i : Nat} {x : EV} (h : WpS T W D H O (match x with
      | .sh d => if i < ε.length then .ok .nx (ε.set i (.ow d)) else .stuck
      | _ => .stuck)) (S : StR T ε σ H O) {d : Ow.D} {p : Addr} (hx : x = .sh d) (n : New T ε σ H H' O d p) : D.nx (σ.set i (some (.ref p))) H' := by
  subst hx
  dsimp only at h
  by_cases hl : i < ε.length
  · rw [if_pos hl] at h
    exact h _ H' _ (S.keep n) (res_add n.nh n.same)
  · rw [if_neg hl] at h
    exact h.elim
theorem s_own {i : Nat} {x : Str} {p' : Pos} (ha : PE X a (SN T W B F sa)) (hN : X.N.Nodup) (hi : X.N[i]? = some x) (hx : Loc X.env.scope x) (hs : swapsWith a (some (.Name x p')) pos.line X.env = pure false := by rfl) (hf : X.fn x = true ∨ X.env.scope.names.lookup x = some .local := by first | exact .inl rfl | exact .inr rfl | assumption) :
    PS X (.Assign [.Name x p'] a pos) (SS T W B F wf (.own i sa)) := (ps_set hN hi hx ha hs hf).imp fun D σ H h => by
  obtain ⟨ε, O, S, h⟩ := h
  rw [evS] at h
  exact ⟨ε, O, S, (h.bind S).mono fun x ε1 H1 O1 S1 u1 st1 h1 d p H2 hx n => own_end h1 S1 hx n⟩
end
end Ow

end
end

section
set_option Elab.async false
set_option linter.all false
set_option maxRecDepth 100000
noncomputable section
namespace Ow
open PySem PySem.Spec L2
section
variable {X : Cx} {T : Ent} {W : WX} {B : Blt → List D → Option D} {F : Str → List Slot → CR} {wf : Nat} {a b c e : Expr} {es : List Expr} {sa sb sc : E} {ss : List E} {pos : Pos} {K : Fr}
variable {ε ε' : List Slot} {σ σ' : St} {H H' Hs : Hp} {O O' : Addr → Prop} {D : Ends}

/-! ## stores -/
/-- where an owned slot's thing stands -/
theorem own_at {i : Nat} {s : Slot} (S : StR T ε σ H O) (e : ε[i]? = some s) (o : s.own = true) : ∃ d p, cont ε (.pl i) = some d ∧ σ[i]? = some (some (.ref p)) ∧ O p ∧ CtR T.K H (res H O) d p ∧ (T.H0 p = none ∨ T.M0 p) := by
  have q := S.slot i s e
  cases s with
  | un => cases o
  | sh _ => cases o
  | ow d => obtain ⟨p, h1, h2, h3, h4⟩ := q; exact ⟨d, p, by simp [cont, e], h1, h2, h4, .inl h3⟩
  | ln d => obtain ⟨p, h1, h2, h4⟩ := q; exact ⟨d, p, by simp [cont, e], h1, S.old _ (S.mm _ h2), h4, .inr h2⟩
theorem res_put {p : Addr} {o : HO} (h : O p) : res (upd H p o) O = res H O := by
  funext b
  unfold res
  by_cases hb : O b
  · rw [if_pos hb, if_pos hb]
  · rw [if_neg hb, if_neg hb, upd_ne (fun z => hb (by rw [z]; exact h))]
theorem StR.put {i : Nat} {s : Slot} {p : Addr} {o : HO} {d : Ow.D} (S : StR T ε σ H O) (e : ε[i]? = some s) (ho : s.own = true) (hp : σ[i]? = some (some (.ref p))) (ct : CtR T.K (upd H p o) (res H O) d p) :
    StR T (upCt ε i d) σ (upd H p o) O := by
  obtain ⟨d0, p', _, hp', Op, _, hm⟩ := own_at S e ho
  rw [hp] at hp'
  cases hp'
  have re := res_put (H := H) (o := o) Op
  refine S.like (Like.up (Like.refl ε)) (fun b hb q => ?_) (fun b u hb nb => ?_) fun j t g => ?_
  · by_cases hbp : b = p
    · rw [hbp, upd_same] at q; cases q
    · rw [upd_ne hbp] at q; exact S.trk b hb q
  · have : b ≠ p := fun z => by
      rw [z] at hb nb
      rcases hm with hm | hm
      · rw [hm] at hb; cases hb
      · exact nb hm
    rw [upd_ne this]
    exact S.frame b u hb nb
  · rcases upCt_get g with ⟨nj, g⟩ | ⟨rfl, t0, q1, q2⟩
    · have q := S.slot j t g
      have ne : ∀ {b : Addr}, t.own = true → σ[j]? = some (some (.ref b)) → b ≠ p := fun {b} hto hb z => by
        rw [z] at hb
        exact nj (S.dist j i p t s g e hto ho hb hp)
      cases t with
      | un => exact q
      | sh d1 => obtain ⟨v, h1, h2⟩ := q; exact ⟨v, h1, by rw [re]; exact h2⟩
      | ow d1 => obtain ⟨b, h1, h2, h3, h4⟩ := q; exact ⟨b, h1, h2, h3, CtR.same (by rw [re]; exact fun _ _ z => z) (fun u z => by rw [upd_ne (ne rfl h1)]; exact z) h4⟩
      | ln d1 => obtain ⟨b, h1, h2, h4⟩ := q; exact ⟨b, h1, h2, CtR.same (by rw [re]; exact fun _ _ z => z) (fun u z => by rw [upd_ne (ne rfl h1)]; exact z) h4⟩
    · rw [e] at q1
      cases q1
      have q := S.slot j s e
      have ct' : CtR T.K (upd H p o) (res (upd H p o) O) d p := by rw [re]; exact ct
      rcases q2 with ⟨q3, _⟩ | ⟨d1, rfl, rfl⟩ | ⟨d1, rfl, rfl⟩
      · rw [ho] at q3; cases q3
      · obtain ⟨b, h1, h2, h3, _⟩ := q
        rw [hp] at h1
        cases h1
        exact ⟨p, hp, h2, h3, ct'⟩
      · obtain ⟨b, h1, h2, _⟩ := q
        rw [hp] at h1
        cases h1
        exact ⟨p, hp, h2, ct'⟩
theorem Step.put {i : Nat} {s : Slot} {p : Addr} {o : HO} (S : StR T ε σ H O) (e : ε[i]? = some s) (ho : s.own = true) (hp : σ[i]? = some (some (.ref p))) : Step ε σ H O (upd H p o) O :=
  ⟨fun b u h n => by rw [upd_ne (fun z => n (by rw [z]; exact ⟨i, s, e, ho, hp⟩))]; exact h, fun b h => .inl h, fun b h => .inl h, fun b h q => by
    by_cases hb : b = p
    · rw [hb, upd_same] at q; cases q
    · rw [upd_ne hb] at q; exact h q⟩
theorem own_of {i : Nat} {d : Ow.D} (S : StR T ε σ H O) (e : cont ε (.pl i) = some d) : ∃ s p, ε[i]? = some s ∧ s.own = true ∧ σ[i]? = some (some (.ref p)) ∧ O p ∧ CtR T.K H (res H O) d p := by
  cases q : ε[i]? with
  | none => simp [cont, q] at e
  | some s =>
    have ho : s.own = true := by cases s <;> first | rfl | simp [cont, q] at e
    obtain ⟨d', p, c, hp, Op, ct, _⟩ := own_at S q ho
    rw [c] at e
    cases e
    exact ⟨s, p, rfl, ho, hp, Op, ct⟩
/-- x.append(e), x an owned list -/
theorem m_app {i : Nat} {x : Str} {p apos cpos : Pos} (hN : X.N[i]? = some x) (hv : Vis X.env.scope x) (ha : PE X a (SE T W B F sa)) (hd : (x == ("__debug__" : Str)) = false := by decide) (hcd : (x == ("__classdict__" : Str)) = false := by decide)
    (hbase : attributeBase (.Name x p) "append" X.env (eval (.Name x p) X.env) = eval (.Name x p) X.env := by rfl)
    (hfew : ((backTo cpos (starEach [a] X.env)).all (fun x => !x.1) && (backToKw cpos (keywordEach [] X.env)).all (fun x => x.1.isSome)
      && decide ([a].length + ([] : List Keyword).length + (if ([] : List Keyword).isEmpty then 0 else 1) < 30)) = true := by rfl)
    (hline : (apos.endLine == cpos.line) = true := by rfl) (hs : starEach [a] X.env = (false, eval a X.env) :: starEach [] X.env := by rfl) (hplain : (backTo cpos (starEach [] X.env)).any (·.1) = false := by rfl) :
    PE X (.Call (.Attribute (.Name x p) "append" apos) [a] [] cpos) (SE T W B F (.app i sa)) :=
  (pe_bm PySem.F.plainAttrs_list PySem.F.slot_list_append PySem.F.type_list_append mt_append (pe_var hN hv hd hcd) (pa_cons ha pa_nil hs) hbase hfew hline hs hplain).imp fun σ H Q h => by
    obtain ⟨ε, O, S, h⟩ := h
    rw [ev] at h
    cases e : cont ε (.pl i) with
    | none => rw [e] at h; exact h.elim
    | some d0 =>
      rw [e] at h
      obtain ⟨s, p, e0, ho, hp, Op, ct⟩ := own_of S e
      cases d0 with
      | lst ds0 =>
        obtain ⟨vs0, c1, _⟩ := ct
        refine ⟨_, hp, .inl ⟨rfl, _, SqL.of c1⟩, ε, O, S, (h.bind S).mono fun x ε1 H1 O1 S1 u1 st1 h1 v hv => ?_⟩
        cases x with
        | sh d =>
          cases e1 : cont ε1 (.pl i) with
          | none => rw [e1] at h1; exact h1.elim
          | some d1 =>
            rw [e1] at h1
            cases d1 with
            | lst ds =>
              have h1 : Wp T W ε1 σ H1 O1 (if ds.length < sizeLine then R.ok (EV.sh .non) (upCt ε1 i (.lst (ds ++ [d]))) else .stuck) _ := h1
              obtain ⟨s1, p1, e2, ho1, hp1, Op1, vs, g1, g2⟩ := own_of S1 e1
              rw [hp] at hp1
              cases hp1
              by_cases hl : ds.length < sizeLine
              · rw [if_pos hl] at h1
                refine ⟨p, vs, v, rfl, rfl, g1, by rw [← g2.length]; exact hl, ?_⟩
                have rr := res_put (H := H1) (o := .lst (vs ++ [v])) Op1
                have ct' : CtR T.K (upd H1 p (.lst (vs ++ [v]))) (res H1 O1) (.lst (ds ++ [d])) p := ⟨_, upd_same, RVs.app g2 (RVs.one hv)⟩
                exact h1 _ O1 (S1.put e2 ho1 hp ct') (Like.up (Like.refl ε1)).sub (Step.put S1 e2 ho1 hp) .non rfl
              · rw [if_neg hl] at h1
                exact h1.elim
            | _ => exact h1.elim
        | _ => exact h1.elim
      | _ => exact h.elim
theorem put_rv {Hs : Hp} {k : Key} {d : Ow.D} {v : V} (r : RV K Hs d v) : ∀ {kvs : List (Key × Ow.D)} {ws : List (Key × V)}, RVk K Hs kvs ws → RVk K Hs (putD kvs k d) (putK ws k v) := by
  have any : ∀ {kvs : List (Key × Ow.D)} {ws : List (Key × V)}, RVk K Hs kvs ws → (ws.any fun kv => decide (kv.1 = k)) = (kvs.any fun kv => decide (kv.1 = k)) := by
    intro kvs
    induction kvs with
    | nil => intro ws h; rw [show ws = [] from h]; rfl
    | cons x kvs ih =>
      obtain ⟨k', y⟩ := x
      intro ws h
      obtain ⟨v, r', rfl, h1, h2⟩ := h
      simp [ih h2]
  have mp : ∀ {kvs : List (Key × Ow.D)} {ws : List (Key × V)}, RVk K Hs kvs ws → RVk K Hs (kvs.map fun kv => if kv.1 = k then (kv.1, d) else kv) (ws.map fun kv => if kv.1 = k then (kv.1, v) else kv) := by
    intro kvs
    induction kvs with
    | nil => intro ws h; rw [show ws = [] from h]; rfl
    | cons x kvs ih =>
      obtain ⟨k', y⟩ := x
      intro ws h
      obtain ⟨u, r', rfl, h1, h2⟩ := h
      by_cases hk : k' = k
      · simp only [List.map_cons, hk, if_true]
        exact ⟨v, _, rfl, r, ih h2⟩
      · simp only [List.map_cons, hk, if_false]
        exact ⟨u, _, rfl, h1, ih h2⟩
  have app : ∀ {kvs : List (Key × Ow.D)} {ws : List (Key × V)}, RVk K Hs kvs ws → RVk K Hs (kvs ++ [(k, d)]) (ws ++ [(k, v)]) := by
    intro kvs
    induction kvs with
    | nil => intro ws h; rw [show ws = [] from h]; exact ⟨v, [], rfl, r, rfl⟩
    | cons x kvs ih =>
      obtain ⟨k', y⟩ := x
      intro ws h
      obtain ⟨u, r', rfl, h1, h2⟩ := h
      exact ⟨u, _, rfl, h1, ih h2⟩
  intro kvs ws h
  unfold putD putK
  rw [any h]
  by_cases hc : (kvs.any fun kv => decide (kv.1 = k)) = true
  · rw [if_pos hc, if_pos hc]
    exact mp h
  · rw [if_neg hc, if_neg hc]
    exact app h
theorem RVk.length {Hs : Hp} : ∀ {kvs : List (Key × Ow.D)} {ws : List (Key × V)}, RVk K Hs kvs ws → kvs.length = ws.length
  | [], ws, h => by rw [show ws = [] from h]; rfl
  | (k, d) :: kvs, ws, h => by
    obtain ⟨v, r, rfl, _, h2⟩ := h
    simp [h2.length]
theorem RVf.length {Hs : Hp} : ∀ {kvs : List (Str × Ow.D)} {ws : List (Str × V)}, RVf K Hs kvs ws → kvs.length = ws.length
  | [], ws, h => by rw [show ws = [] from h]; rfl
  | (k, d) :: kvs, ws, h => by
    obtain ⟨v, r, rfl, _, h2⟩ := h
    simp [h2.length]
theorem s_setK {i : Nat} {x : Str} {p p' : Pos} (hu : X.A.units + 1 < cLine) (hN : X.N[i]? = some x) (hv : Vis X.env.scope x) (hk : PE X b (SE T W B F sb)) (ha : PE X a (SE T W B F sa)) (hs : swapsWith a (some (.Subscript (.Name x p) b p')) pos.line X.env = pure false := by rfl) (hd : (x == ("__debug__" : Str)) = false := by decide) (hcd : (x == ("__classdict__" : Str)) = false := by decide) :
    PS X (.Assign [.Subscript (.Name x p) b p'] a pos) (SS T W B F wf (.setK i sb sa)) := (ps_dput hu (pe_var hN hv hd hcd) hk ha hs).imp fun D σ H h => by
  obtain ⟨ε, O, S, h⟩ := h
  rw [evS] at h
  refine ⟨ε, O, S, (h.bind S).mono fun x ε1 H1 O1 S1 u1 st1 h1 v hv => ?_⟩
  cases e : cont ε1 (.pl i) with
  | none => rw [e] at h1; exact h1.elim
  | some d0 =>
    rw [e] at h1
    dsimp only at h1
    obtain ⟨s, p, e0, ho, hp, Op, ct⟩ := own_of S1 e
    refine ⟨_, hp, ε1, O1, S1, (h1.bind S1).mono fun y ε2 H2 O2 S2 u2 st2 h2 w hw => ?_⟩
    have hv2 : ∀ d, x = .sh d → RV T.K (res H2 O2) d v := fun d ex => by
      subst ex
      exact RV.same (st2.same S1) hv
    have fin : ∀ (k : Key) (d : Ow.D) (kvs : List (Key × Ow.D)), x = .sh d → w = kV k → cont ε2 (.pl i) = some (.dic kvs) → WpS T W D H2 O2 (if kvs.length < sizeLine then .ok .nx (upCt ε2 i (.dic (putD kvs k d))) else .stuck) →
        ∃ a H4, V.ref p = .ref a ∧ DPut H2 a w v H4 ∧ D.nx σ H4 := fun k d kvs ex ew ec g => by
      obtain ⟨s1, p1, e2, ho1, hp1, Op1, ws, g1, g2⟩ := own_of S2 ec
      rw [hp] at hp1
      cases hp1
      by_cases hl : kvs.length < sizeLine
      · rw [if_pos hl] at g
        have ct' : CtR T.K (upd H2 p (.dK (putK ws k v))) (res H2 O2) (.dic (putD kvs k d)) p := ⟨_, upd_same, put_rv (hv2 d ex) g2⟩
        refine ⟨p, _, rfl, .inl ⟨ws, k, g1, ew, by rw [← g2.length]; exact hl, rfl⟩, ?_⟩
        exact g σ _ O2 (S2.put e2 ho1 hp ct') (by rw [res_put Op1]; exact fun _ _ z => z)
      · rw [if_neg hl] at g
        exact g.elim
    cases x with
    | sh d =>
      cases y with
      | sh dy =>
        cases e2 : cont ε2 (.pl i) with
        | none => rw [e2] at h2; cases dy <;> exact h2.elim
        | some d1 =>
          rw [e2] at h2
          cases dy with
          | str z =>
            cases d1 with
            | dic kvs => exact fin (.inr z) d kvs rfl hw e2 h2
            | _ => exact h2.elim
          | int z =>
            cases d1 with
            | dic kvs => exact fin (.inl z) d kvs rfl hw e2 h2
            | _ => exact h2.elim
          | _ => exact h2.elim
      | _ => exact h2.elim
    | _ => exact h2.elim
theorem s_setL {i : Nat} {x : Str} {p p' : Pos} (hN : X.N[i]? = some x) (hv : Vis X.env.scope x) (hk : PE X b (SE T W B F sb)) (ha : PE X a (SE T W B F sa))
    (hg : ∀ {t u : TE}, PE X (.Name x p) t → PE X b u → PG X (.Subscript (.Name x p) b p') (gSub t u rSetL))
    (hs : swapsWithSole [.Subscript (.Name x p) b p'] a pos.line X.env = pure false := by rfl) (hw : swappedStores [.Subscript (.Name x p) b p'] a X.env = pure none := by rfl) (h1 : (assignEach [.Subscript (.Name x p) b p'] X.env).map (·.2) = [assign (.Subscript (.Name x p) b p') X.env] := by rfl) (hd : (x == ("__debug__" : Str)) = false := by decide) (hcd : (x == ("__classdict__" : Str)) = false := by decide) :
    PS X (.Assign [.Subscript (.Name x p) b p'] a pos) (SS T W B F wf (.setL i sb sa)) := (ps_asg ha (hg (pe_var hN hv hd hcd) hk) hs hw h1).imp fun D σ H h => by
  obtain ⟨ε, O, S, h⟩ := h
  rw [evS] at h
  refine ⟨ε, O, S, (h.bind S).mono fun x ε1 H1 O1 S1 u1 st1 h1 v hv => ?_⟩
  cases e : cont ε1 (.pl i) with
  | none => rw [e] at h1; exact h1.elim
  | some d0 =>
    rw [e] at h1
    dsimp only at h1
    obtain ⟨s, p, e0, ho, hp, Op, ct⟩ := own_of S1 e
    refine ⟨_, hp, ε1, O1, S1, (h1.bind S1).mono fun y ε2 H2 O2 S2 u2 st2 h2 w hw => ?_⟩
    cases x with
    | sh d =>
      cases y with
      | sh dy =>
        cases dy with
        | int z =>
          cases e2 : cont ε2 (.pl i) with
          | none => rw [e2] at h2; exact h2.elim
          | some d1 =>
            rw [e2] at h2
            cases d1 with
            | lst ds =>
              dsimp only at h2
              obtain ⟨s1, p1, e3, ho1, hp1, Op1, ws, g1, g2⟩ := own_of S2 e2
              rw [hp] at hp1
              cases hp1
              cases e4 : ixN ds.length z with
              | none => rw [e4] at h2; exact h2.elim
              | some j =>
                rw [e4] at h2
                dsimp only at h2
                have ct' : CtR T.K (upd H2 p (.lst (ws.set j v))) (res H2 O2) (.lst (ds.set j d)) p := ⟨_, upd_same, RVs.set (RV.same (st2.same S1) hv) j g2⟩
                refine ⟨p, ws, z, j, rfl, hw, g1, by rw [← g2.length]; exact e4, ?_⟩
                exact h2 σ _ O2 (S2.put e3 ho1 hp ct') (by rw [res_put Op1]; exact fun _ _ z => z)
            | _ => exact h2.elim
        | _ => exact h2.elim
      | _ => exact h2.elim
    | _ => exact h2.elim
theorem putF_rv {Hs : Hp} {f : Str} {d : Ow.D} {v : V} (r : RV K Hs d v) : ∀ {fs : List (Str × Ow.D)} {ws : List (Str × V)}, RVf K Hs fs ws → RVf K Hs (putFD f d fs) (putF f v ws)
  | [], ws, h => by rw [show ws = [] from h]; exact ⟨v, [], rfl, r, rfl⟩
  | (g, x) :: fs, ws, h => by
    obtain ⟨u, r', rfl, h1, h2⟩ := h
    show RVf K Hs (if g = f then (g, d) :: fs else (g, x) :: putFD f d fs) (if g = f then (g, v) :: r' else (g, u) :: putF f v r')
    by_cases hg : g = f
    · rw [if_pos hg, if_pos hg]
      exact ⟨v, r', rfl, r, h2⟩
    · rw [if_neg hg, if_neg hg]
      exact ⟨u, _, rfl, h1, putF_rv r h2⟩
theorem s_setA {i : Nat} {x f : Str} {p p' : Pos} {cs : List Str} (hK : X.K = T.K) (hC : ∀ c ∈ cs, Cls T.K (cA T.K c) ∧ NoAttr T.K (cA T.K c) f) (hN : X.N[i]? = some x) (hv : Vis X.env.scope x) (ha : PE X a (SE T W B F sa))
    (hs : swapsWith a (some (.Attribute (.Name x p) f p')) pos.line X.env = pure false := by rfl) (hd : (x == ("__debug__" : Str)) = false := by decide) (hcd : (x == ("__classdict__" : Str)) = false := by decide) :
    PS X (.Assign [.Attribute (.Name x p) f p'] a pos) (SS T W B F wf (.setA i f cs sa)) := (ps_fld (pe_var hN hv hd hcd) ha hs).imp fun D σ H h => by
  obtain ⟨ε, O, S, h⟩ := h
  rw [evS] at h
  refine ⟨ε, O, S, (h.bind S).mono fun x ε1 H1 O1 S1 u1 st1 h1 v hv => ?_⟩
  cases x with
  | sh d =>
    cases e : cont ε1 (.pl i) with
    | none => rw [e] at h1; exact h1.elim
    | some d0 =>
      rw [e] at h1
      cases d0 with
      | obj c fs =>
        dsimp only at h1
        by_cases hc : c ∈ cs ∧ fs.length < 900
        · rw [if_pos hc] at h1
          obtain ⟨s, p, e0, ho, hp, Op, dx, ws, g1, g2⟩ := own_of S1 e
          obtain ⟨k1, k2⟩ := hC c hc.1
          have ct' : CtR T.K (upd H1 p (.ins (cA T.K c) dx (putF f v ws))) (res H1 O1) (.obj c (putFD f d fs)) p := ⟨dx, _, upd_same, putF_rv hv g2⟩
          exact ⟨_, hp, p, _, dx, ws, rfl, g1, by rw [hK]; exact k1, by rw [hK]; exact k2, by rw [← g2.length]; omega, h1 σ _ O1 (S1.put e0 ho hp ct') (by rw [res_put Op]; exact fun _ _ z => z)⟩
        · rw [if_neg hc] at h1
          exact h1.elim
      | _ => exact h1.elim
  | _ => exact h1.elim
end
end Ow

end
end

section
set_option Elab.async false
set_option linter.all false
set_option maxRecDepth 100000
noncomputable section
namespace Ow
open PySem PySem.Spec L2

/-! ## loops -/
section
variable {X : Cx} {T : Ent} {W : WX} {B : Blt → List D → Option D} {F : Str → List Slot → CR} {wf : Nat} {a b c e tg : Expr} {es : List Expr} {sa sb sc : E} {ss : List E} {pos : Pos} {K : Fr}
variable {ε ε' : List Slot} {σ σ' : St} {H H' Hs : Hp} {O O' : Addr → Prop} {D : Ends}

/-- the iterator hands out these data, wherever what is shared stands as it stood -/
def Feeds (K : Fr) (J : It) (ds : List Ow.D) (Hs : Hp) : Prop := ∀ (i : Nat) (H : Hp) (O : Addr → Prop), (∀ a, O a → H a ≠ none) → Same Hs (res H O) →
  (ds.length ≤ i → J.stop i H) ∧ ∀ d, ds[i]? = some d → J.go i H ∧ ∀ x H', J.yld i H x H' → Same H H' ∧ RV K (res H' O) d x
/-- what is walked -/
def SI (T : Ent) (W : WX) (B : Blt → List Ow.D → Option Ow.D) (F : Str → List Slot → CR) (k : ItK) (src : List E) : TI := fun σ H R => ∃ ε O, StR T ε σ H O ∧
  Wp T W ε σ H O (evs B F src ε) fun xs ε' H' O' => ∃ ds, (shs xs).bind (itemsOf k) = some ds ∧ ∀ J, Feeds T.K J ds (res H' O') → R J H'
theorem _root_.L2.PI.imp {X : Cx} {tg e : Expr} {t t' : TI} (h : PI X tg e t) (f : ∀ σ H R, t' σ H R → t σ H R) : PI X tg e t' := ⟨fun pins s σ H R I q => h.run pins s σ H R I (f σ H R q)⟩
theorem loopF_nil {t : Ow.D → List Slot → R Out} : loopF t [] ε = .ok .nx ε := rfl
theorem WpS.ends {D1 D2 : Ends} {r : R Out} (hn : ∀ ε' σ' H' O', StR T ε' σ' H' O' → Same (res H O) (res H' O') → D1.nx σ' H' → D2.nx σ' H') : True := trivial
theorem m_for {k : ItK} {t : Tgt} {iter : Expr} {body : List Stmt} {sbd : List S} (hp : PassesOwn (model X.prog X.w) X.A X.env X.xe) (hc : X.calm = true) (hi : PI X tg iter (SI T W B F k ss)) (hg : PG X tg (SG T t)) (hb : PSs X body (SB T W B F wf sbd))
    (hs : ∀ x, foldedSetIterable iter X.env x = pure x := by intro _; rfl) : PS X (.For tg iter body [] pos) (SS T W B F wf (.loop k ss t sbd)) := (ps_for hp hc hi hg hb hs).imp fun D σ H h => by
  obtain ⟨ε, O, S, h⟩ := h
  rw [evS] at h
  refine ⟨ε, O, S, (h.bind S).mono fun xs ε1 H1 O1 S1 u1 st1 h1 => ?_⟩
  cases eds : (shs xs).bind (itemsOf k) with
  | none => rw [eds] at h1; exact h1.elim
  | some ds =>
    rw [eds] at h1
    dsimp only at h1
    refine ⟨ds, rfl, fun J fd => ?_⟩
    -- the invariant
    refine ⟨fun i m σ' H' => m = ds.length - i ∧ i ≤ ds.length ∧ ∃ ε' O', StR T ε' σ' H' O' ∧ Same (res H1 O1) (res H' O') ∧ WpS T W D H' O' (loopF (fun d e => match bindT t d e with
      | some e' => evB B F wf sbd e'
      | none => .stuck) (ds.drop i) ε'), ⟨_, rfl, Nat.zero_le _, ε1, O1, S1, (fun _ _ z => z), h1⟩, ?_⟩
    rintro i m σ' H' ⟨rfl, hi', ε', O', S', g', w'⟩
    obtain ⟨f1, f2⟩ := fd i H' O' S'.trk g'
    by_cases hl : i < ds.length
    · obtain ⟨d, ed⟩ : ∃ d, ds[i]? = some d := ⟨ds[i], List.getElem?_eq_getElem hl⟩
      obtain ⟨go, yl⟩ := f2 d ed
      have edr : ds.drop i = d :: ds.drop (i + 1) := by
        rw [List.drop_eq_getElem_cons hl]
        rw [List.getElem?_eq_getElem hl] at ed
        cases ed
        rfl
      rw [edr] at w'
      refine .inr ⟨go, fun σ2 H2 => i + 1 ≤ ds.length ∧ ∃ ε2 O2, StR T ε2 σ2 H2 O2 ∧ Same (res H1 O1) (res H2 O2) ∧ WpS T W D H2 O2 (loopF (fun d e => match bindT t d e with
        | some e' => evB B F wf sbd e'
        | none => .stuck) (ds.drop (i + 1)) ε2), fun σ2 H2 z => ⟨ds.length - (i + 1), by omega, rfl, z⟩, fun x H2 y => ?_⟩
      obtain ⟨gs, rv⟩ := yl x H2 y
      have S2 := S'.grow gs
      have sm2 : Same (res H' O') (res H2 O') := (Step.grow (ε := ε') (σ := σ') (O := O') gs).same S'
      unfold loopF at w'
      cases eb : bindT t d ε' with
      | none => rw [eb] at w'; exact w'.elim
      | some ε2 =>
        rw [eb] at w'
        dsimp only at w'
        refine ⟨ε', O', d, S2, rv, ε2, eb, fun σ3 S3 _ => ⟨ε2, O', S3, ?_⟩⟩
        revert w'
        cases evB B F wf sbd ε2 with
        | stuck => exact fun z => z
        | exc c fs e5 => exact fun z => WpS.later (r := .exc c fs e5) sm2 z
        | ok o e5 =>
          cases o with
          | nx => exact fun z σ4 H4 O4 S4 g4 => ⟨hl, e5, O4, S4, Same.trans' g' (Same.trans' sm2 g4), WpS.later (Same.trans' sm2 g4) z⟩
          | ct => exact fun z σ4 H4 O4 S4 g4 => ⟨hl, e5, O4, S4, Same.trans' g' (Same.trans' sm2 g4), WpS.later (Same.trans' sm2 g4) z⟩
          | bk => exact fun z σ4 H4 O4 S4 g4 => z σ4 H4 O4 S4 (Same.trans' sm2 g4)
          | rt d' => exact fun z v σ4 H4 O4 S4 g4 r4 => z v σ4 H4 O4 S4 (Same.trans' sm2 g4) r4
          | rn d' => exact fun z p σ4 Hx H4 O4 S4 g4 n4 => z p σ4 Hx H4 O4 S4 (Same.trans' sm2 g4) n4
    · refine .inl ⟨f1 (by omega), ?_⟩
      rw [List.drop_eq_nil_of_le (by omega)] at w'
      exact w' σ' H' O' S' fun _ _ z => z

/-! ### while -/
theorem m_while {body : List Stmt} {sbd : List S} (hp : PassesOwn (model X.prog X.w) X.A X.env X.xe) (hc : PT X c (ST T W B F sc)) (hb : PSs X body (SB T W B F wf sbd)) : PS X (.While c body [] pos) (SS T W B F wf (.whl sc sbd)) := (ps_while hp hc hb).imp fun D σ H h => by
  obtain ⟨ε, O, S, h⟩ := h
  rw [evS] at h
  refine ⟨fun m σ' H' => ∃ ε' O', StR T ε' σ' H' O' ∧ WpS T W D H' O' (loopW (fun e => evT B F sc e) (fun e => evB B F wf sbd e) m ε'), ⟨wf, ε, O, S, h⟩, ?_⟩
  rintro m σ' H' ⟨ε', O', S', w'⟩
  cases m with
  | zero => exact w'.elim
  | succ n =>
    unfold loopW at w'
    refine ⟨ε', O', S', ?_⟩
    revert w'
    cases evT B F sc ε' with
    | stuck => exact fun z => z.elim
    | exc c fs e1 => exact fun z dx H2 O2 S2 u2 st2 => z dx σ' H2 O2 S2 (st2.same S')
    | ok k e1 =>
      intro z H2 O2 S2 u2 st2
      have sm2 := st2.same S'
      cases k with
      | false => exact (if_neg (by decide)).mpr (z σ' H2 O2 S2 sm2)
      | true =>
        refine (if_pos rfl).mpr ⟨fun σ3 H3 => ∃ ε3 O3, StR T ε3 σ3 H3 O3 ∧ WpS T W D H3 O3 (loopW (fun e => evT B F sc e) (fun e => evB B F wf sbd e) n ε3), fun σ3 H3 q => ⟨n, Nat.lt_succ_self n, q⟩, e1, O2, S2, ?_⟩
        dsimp only at z
        revert z
        cases evB B F wf sbd e1 with
        | stuck => exact fun z => z
        | exc c fs e5 => exact fun z => WpS.later (r := .exc c fs e5) sm2 z
        | ok o e5 =>
          cases o with
          | nx => exact fun z σ4 H4 O4 S4 g4 => ⟨e5, O4, S4, WpS.later (Same.trans' sm2 g4) z⟩
          | ct => exact fun z σ4 H4 O4 S4 g4 => ⟨e5, O4, S4, WpS.later (Same.trans' sm2 g4) z⟩
          | bk => exact fun z σ4 H4 O4 S4 g4 => z σ4 H4 O4 S4 (Same.trans' sm2 g4)
          | rt d' => exact fun z v σ4 H4 O4 S4 g4 r4 => z v σ4 H4 O4 S4 (Same.trans' sm2 g4) r4
          | rn d' => exact fun z p σ4 Hx H4 O4 S4 g4 n4 => z p σ4 Hx H4 O4 S4 (Same.trans' sm2 g4) n4
end
end Ow

end
end

section
set_option Elab.async false
set_option linter.all false
set_option maxRecDepth 100000
noncomputable section
namespace Ow
open PySem PySem.Spec L2

/-! ## what is walked -/
section
variable {X : Cx} {T : Ent} {W : WX} {B : Blt → List D → Option D} {F : Str → List Slot → CR} {wf : Nat} {a b c e tg : Expr} {es : List Expr} {sa sb sc : E} {ss : List E} {pos : Pos} {K : Fr}
variable {ε ε' : List Slot} {σ σ' : St} {H H' Hs : Hp} {O O' : Addr → Prop} {D : Ends}

theorem _root_.L2.PI.or {t t' : TI} (h : PI X tg e t) (h' : PI X tg e t') : PI X tg e (fun σ H R => t σ H R ∨ t' σ H R) := ⟨fun pins s σ H R I q => q.elim (h.run pins s σ H R I) (h'.run pins s σ H R I)⟩
theorem feeds_list {p : Addr} {vs : List V} {ds : List Ow.D} (h : Hs p = some (.lst vs)) (r : RVs K Hs ds vs) : Feeds K (Itl K p) ds Hs := fun i H O trk g => by
  have e : H p = some (.lst vs) := res_same _ _ (g _ _ h)
  refine ⟨fun hl => ⟨vs, SqL.of e, by rw [← r.length]; exact hl⟩, fun d ed => ?_⟩
  obtain ⟨v, ev, rv⟩ := r.get ed
  refine ⟨⟨vs, v, SqL.of e, ev⟩, fun x H2 y => ?_⟩
  obtain ⟨rfl, y⟩ := y
  have ex := y vs (SqL.of e)
  rw [ev] at ex
  cases ex
  exact ⟨fun _ _ z => z, RV.same g rv⟩
theorem feeds_tup {p : Addr} {vs : List V} {ds : List Ow.D} (h : SqT K Hs p vs) (r : RVs K Hs ds vs) : Feeds K (Itt K p) ds Hs := fun i H O trk g => by
  have e : SqT K H p vs := Ow.Same.sqt res_same (Ow.Same.sqt g h)
  refine ⟨fun hl => ⟨vs, e, by rw [← r.length]; exact hl⟩, fun d ed => ?_⟩
  obtain ⟨v, ev, rv⟩ := r.get ed
  refine ⟨⟨vs, v, e, ev⟩, fun x H2 y => ?_⟩
  obtain ⟨rfl, y⟩ := y
  have ex := y vs e
  rw [ev] at ex
  cases ex
  exact ⟨fun _ _ z => z, RV.same g rv⟩
theorem feeds_scr {p : Addr} {ns : List Int} (h : SqL K Hs p (ns.map V.int)) : Feeds K (Itl K p) (ns.map .int) Hs := fun i H O trk g => by
  have e : SqL K H p (ns.map V.int) := L2.Same.seq res_same (L2.Same.seq g h)
  refine ⟨fun hl => ⟨_, e, by simpa using hl⟩, fun d ed => ?_⟩
  obtain ⟨v, ev, rv⟩ := (RVs.ints (K := K) (H := Hs) ns).get ed
  refine ⟨⟨_, v, e, ev⟩, fun x H2 y => ?_⟩
  obtain ⟨rfl, y⟩ := y
  have ex := y _ e
  rw [ev] at ex
  cases ex
  exact ⟨fun _ _ z => z, RV.same g rv⟩
theorem feeds_str {z : Str} : Feeds K (Its z) (z.cps.toList.map fun c => .str ⟨#[c]⟩) Hs := fun i H O trk g => by
  refine ⟨fun hl => (by simpa using hl : z.cps.size ≤ i), fun d ed => ?_⟩
  rw [List.getElem?_map] at ed
  cases ec : z.cps.toList[i]? with
  | none => rw [ec] at ed; cases ed
  | some c =>
    rw [ec] at ed
    cases ed
    have hl : i < z.cps.size := by
      have := (List.getElem?_eq_some_iff.mp ec).1
      simpa using this
    refine ⟨hl, fun x H2 y => ?_⟩
    obtain ⟨rfl, c', e', rfl⟩ := y
    have e2 : z.cps.toList[i]? = some c' := by simpa using e'
    rw [ec] at e2
    cases e2
    exact ⟨fun _ _ z => z, rfl⟩
theorem evs_one {ε : List Slot} : evs B F [sa] ε = (ev B F sa ε).bind fun x e => if isFr x = true ∧ isLend sa = false then .stuck else .ok [x] e := by
  rw [evs]
  congr 1
  funext x e
  rw [evs]
  rfl
/-- a shared thing, walked -/
theorem i_seq (hK : X.K = T.K) (ha : PE X e (SE T W B F sa)) : PI X tg e (SI T W B F .seq [sa]) := ((pi_list ha).or ((pi_tup ha).or (pi_str ha))).imp fun σ H Rr h => by
  obtain ⟨ε, O, S, h⟩ := h
  rw [evs_one] at h
  rw [hK]
  cases ee : ev B F sa ε with
  | stuck => rw [ee] at h; exact h.elim
  | exc c fs e1 => rw [ee] at h; exact .inl ⟨ε, O, S, by rw [ee]; exact h⟩
  | ok x e1 =>
    rw [ee] at h
    by_cases hf : isFr x = true ∧ isLend sa = false
    · have h : Wp T W ε σ H O (if isFr x = true ∧ isLend sa = false then R.stuck else .ok [x] e1) _ := h
      rw [if_pos hf] at h
      exact h.elim
    · have h : Wp T W ε σ H O (if isFr x = true ∧ isLend sa = false then R.stuck else .ok [x] e1) _ := h
      rw [if_neg hf] at h
      have bad : ((shs [x]).bind (itemsOf .seq) = none) → iList T.K (SE T W B F sa) σ H Rr := fun z => ⟨ε, O, S, by
        rw [ee]
        intro H' O' S' u st v hv
        obtain ⟨ds, e, _⟩ := h H' O' S' u st
        rw [z] at e
        cases e⟩
      cases x with
      | pl i => exact .inl (bad rfl)
      | fr d => exact .inl (bad rfl)
      | sh d =>
        cases d with
        | lst ds =>
          refine .inl ⟨ε, O, S, ?_⟩
          rw [ee]
          intro H' O' S' u st v hv
          obtain ⟨ds', e, k⟩ := h H' O' S' u st
          cases e
          obtain ⟨p, vs, rfl, h1, h2⟩ := hv
          exact ⟨p, rfl, ⟨vs, SqL.of (res_same _ _ h1)⟩, k _ (feeds_list h1 h2)⟩
        | scr ns =>
          refine .inl ⟨ε, O, S, ?_⟩
          rw [ee]
          intro H' O' S' u st v hv
          obtain ⟨ds', e, k⟩ := h H' O' S' u st
          cases e
          obtain ⟨p, rfl, h1⟩ := hv
          exact ⟨p, rfl, ⟨_, L2.Same.seq res_same h1⟩, k _ (feeds_scr h1)⟩
        | tup ds =>
          refine .inr (.inl ⟨ε, O, S, ?_⟩)
          rw [ee]
          intro H' O' S' u st v hv
          obtain ⟨ds', e, k⟩ := h H' O' S' u st
          cases e
          obtain ⟨p, vs, rfl, h1, h2⟩ := hv
          exact ⟨p, rfl, ⟨vs, Ow.Same.sqt res_same h1⟩, k _ (feeds_tup h1 h2)⟩
        | str z =>
          refine .inr (.inr ⟨ε, O, S, ?_⟩)
          rw [ee]
          intro H' O' S' u st v hv
          obtain ⟨ds', e, k⟩ := h H' O' S' u st
          cases e
          cases hv
          exact ⟨z, rfl, k _ feeds_str⟩
        | _ => exact .inl (bad rfl)
theorem shs_bind {xs : List EV} {k : ItK} {ds : List Ow.D} (h : (shs xs).bind (itemsOf k) = some ds) : ∃ qs, shs xs = some qs ∧ itemsOf k qs = some ds := by
  cases e : shs xs with
  | none => rw [e] at h; cases h
  | some qs => rw [e] at h; exact ⟨qs, rfl, h⟩
theorem feeds_rng {lo hi : Int} : Feeds K (Itr lo (hi - lo).toNat) (rngI lo hi) Hs := fun i H O trk g => by
  unfold rngI
  refine ⟨fun hl => (by simpa using hl : (hi - lo).toNat ≤ i), fun d ed => ?_⟩
  rw [List.getElem?_map] at ed
  by_cases hl : i < (hi - lo).toNat
  · rw [List.getElem?_range hl] at ed
    cases ed
    refine ⟨hl, fun x H2 y => ?_⟩
    obtain ⟨rfl, rfl⟩ := y
    exact ⟨fun _ _ z => z, rfl⟩
  · rw [List.getElem?_eq_none (by simpa using hl)] at ed
    cases ed
theorem rv_int {K : Fr} {Hs : Hp} {i : Int} {v : V} (h : RV K Hs (.int i) v) : v = .int i := h
theorem shs_vals {Hs : Hp} {xs : List EV} {ds : List Ow.D} {vs : List V} (h : shs xs = some ds) (r : EvOk T ε σ Hs H O xs vs) : RVs T.K (res H O) ds vs := shs_rv (K := T.K) h r
theorem i_rng1 {p : Pos} (hg : Gl X "range") (hm : X.mg "range" = none) (ha : PA X [a] (SA T W B F [sa])) (hs : starEach [a] X.env = [(false, eval a X.env)] := by rfl) : PI X tg (.Call (.Name "range" p) [a] [] pos) (SI T W B F .rng1 [sa]) := (pi_range1 hg hm ha hs).imp fun σ H Rr h => by
  obtain ⟨ε, O, S, h⟩ := h
  refine ⟨ε, O, S, h.mono fun xs ε1 H1 O1 S1 u1 st1 h1 vs hvs => ?_⟩
  obtain ⟨ds, e, k⟩ := h1
  obtain ⟨qs, e1, e2⟩ := shs_bind e
  have r := shs_rv (K := T.K) e1 hvs
  match qs, e2 with
  | [.int n], e2 =>
    have e2 : (if -(2 ^ 62) ≤ n ∧ n < 2 ^ 62 then some (rngI 0 n) else none) = some ds := e2
    by_cases hn : -(2 ^ 62) ≤ n ∧ n < 2 ^ 62
    · rw [if_pos hn] at e2
      cases e2
      obtain ⟨v, rr, rfl, h1, h2⟩ := r
      cases h1
      cases (show rr = [] from h2)
      refine ⟨n, rfl, hn.1, hn.2, ?_⟩
      have := k (Itr 0 (n - 0).toNat) feeds_rng
      simpa using this
    · rw [if_neg hn] at e2
      cases e2
theorem i_rng2 {p : Pos} (hg : Gl X "range") (hm : X.mg "range" = none) (ha : PA X [a, b] (SA T W B F [sa, sb])) (hs : starEach [a, b] X.env = [(false, eval a X.env), (false, eval b X.env)] := by rfl) (hs2 : starEach [b] X.env = [(false, eval b X.env)] := by rfl) :
    PI X tg (.Call (.Name "range" p) [a, b] [] pos) (SI T W B F .rng2 [sa, sb]) := (pi_range2 hg hm ha hs hs2).imp fun σ H Rr h => by
  obtain ⟨ε, O, S, h⟩ := h
  refine ⟨ε, O, S, h.mono fun xs ε1 H1 O1 S1 u1 st1 h1 vs hvs => ?_⟩
  obtain ⟨ds, e, k⟩ := h1
  obtain ⟨qs, e1, e2⟩ := shs_bind e
  have r := shs_rv (K := T.K) e1 hvs
  match qs, e2 with
  | [.int n, .int m], e2 =>
    have e2 : (if -(2 ^ 62) ≤ n ∧ n < 2 ^ 62 ∧ -(2 ^ 62) ≤ m ∧ m < 2 ^ 62 then some (rngI n m) else none) = some ds := e2
    by_cases hn : -(2 ^ 62) ≤ n ∧ n < 2 ^ 62 ∧ -(2 ^ 62) ≤ m ∧ m < 2 ^ 62
    · rw [if_pos hn] at e2
      cases e2
      obtain ⟨v, rr, rfl, h1, h2⟩ := r
      obtain ⟨w, rr2, rfl, h3, h4⟩ := h2
      cases h1
      cases h3
      cases (show rr2 = [] from h4)
      exact ⟨n, m, rfl, hn, k _ feeds_rng⟩
    · rw [if_neg hn] at e2
      cases e2
theorem enmD_get : ∀ {ds : List Ow.D} {k i : Nat} {d : Ow.D}, (enmD k ds)[i]? = some d → ∃ x, ds[i]? = some x ∧ d = .tup [.int ((k + i : Nat) : Int), x]
  | [], k, i, d, h => by simp [enmD] at h
  | y :: ds, k, 0, d, h => by
    have : Ow.D.tup [.int (k : Int), y] = d := by simpa [enmD] using h
    exact ⟨y, by simp, by rw [← this]; simp⟩
  | y :: ds, k, i + 1, d, h => by
    have h' : (enmD (k + 1) ds)[i]? = some d := by simpa [enmD] using h
    obtain ⟨x, e1, e2⟩ := enmD_get h'
    exact ⟨x, by simpa using e1, by rw [e2]; congr 3; omega⟩
theorem enmD_len : ∀ {ds : List Ow.D} {k : Nat}, (enmD k ds).length = ds.length
  | [], _ => rfl
  | _ :: ds, k => by simp [enmD, enmD_len (ds := ds)]
theorem feeds_enum {p : Addr} {vs : List V} {ds : List Ow.D} (h : Hs p = some (.lst vs)) (r : RVs K Hs ds vs) : Feeds K (Ite K p) (enmD 0 ds) Hs := fun i H O trk g => by
  have e : H p = some (.lst vs) := res_same _ _ (g _ _ h)
  refine ⟨fun hl => ⟨vs, SqL.of e, by rw [← r.length]; rw [enmD_len] at hl; exact hl⟩, fun d ed => ?_⟩
  obtain ⟨x, ex, rfl⟩ := enmD_get ed
  obtain ⟨v, ev, rv⟩ := r.get ex
  refine ⟨⟨vs, v, SqL.of e, ev⟩, fun y H2 q => ?_⟩
  obtain ⟨t, w, rfl, ht, rfl, q⟩ := q
  have ew := q vs (SqL.of e)
  rw [ev] at ew
  cases ew
  have no : ¬ O t := fun z => trk t z ht
  have rs : Same (res H O) (res (upd H t (.tup [.int (i : Nat), v])) O) := fun b o z => by
    obtain ⟨n, z⟩ := res_some.mp z
    exact res_some.mpr ⟨n, same_upd ht b o z⟩
  refine ⟨same_upd ht, t, [.int (i : Nat), v], rfl, SqT.of (res_upd no), .int (i : Nat), [v], rfl, ?_, v, [], rfl, RV.same rs (RV.same g rv), rfl⟩
  show V.int (i : Nat) = V.int ((0 + i : Nat) : Int)
  rw [Nat.zero_add]
theorem i_enm {p tpos : Pos} {elts : List Expr} {kk : Nat} (hK : X.K = T.K) (hg : Gl X "enumerate") (hm : X.mg "enumerate" = none) (ha : PA X [a] (SA T W B F [sa])) (hs : starEach [a] X.env = [(false, eval a X.env)] := by rfl) :
    PI X (.Tuple elts kk tpos) (.Call (.Name "enumerate" p) [a] [] pos) (SI T W B F .enm [sa]) := (pi_enum hg hm ha hs).imp fun σ H Rr h => by
  obtain ⟨ε, O, S, h⟩ := h
  rw [hK]
  refine ⟨ε, O, S, h.mono fun xs ε1 H1 O1 S1 u1 st1 h1 vs hvs => ?_⟩
  obtain ⟨ds, e, k⟩ := h1
  obtain ⟨qs, e1, e2⟩ := shs_bind e
  have r := shs_rv (K := T.K) e1 hvs
  match qs, e2 with
  | [.lst ds], e2 =>
    cases e2
    obtain ⟨v, rr, rfl, h1, h2⟩ := r
    obtain ⟨q, ws, rfl, g1, g2⟩ := h1
    cases (show rr = [] from h2)
    exact ⟨q, ws, rfl, SqL.of (res_same _ _ g1), k _ (feeds_enum g1 g2)⟩
theorem zipD_get : ∀ {xs ys : List Ow.D} {i : Nat} {d : Ow.D}, (zipD xs ys)[i]? = some d → ∃ x y, xs[i]? = some x ∧ ys[i]? = some y ∧ d = .tup [x, y]
  | x :: xs, y :: ys, 0, d, h => by
    have : Ow.D.tup [x, y] = d := by simpa [zipD] using h
    exact ⟨x, y, by simp, by simp, this.symm⟩
  | x :: xs, y :: ys, i + 1, d, h => by
    obtain ⟨a, b, e1, e2, e3⟩ := zipD_get (xs := xs) (ys := ys) (i := i) (d := d) (by simpa [zipD] using h)
    exact ⟨a, b, by simpa using e1, by simpa using e2, e3⟩
  | [], _, _, _, h => by simp [zipD] at h
  | _ :: _, [], _, _, h => by simp [zipD] at h
theorem zipD_len : ∀ {xs ys : List Ow.D}, (zipD xs ys).length = min xs.length ys.length
  | x :: xs, y :: ys => by simp [zipD, zipD_len (xs := xs) (ys := ys)]
  | [], _ => by simp [zipD]
  | _ :: _, [] => by simp [zipD]
theorem pair_new {t : Addr} {u v : V} {d d' : Ow.D} (trk : ∀ a, O a → H a ≠ none) (ht : H t = none) (r1 : RV K (res H O) d u) (r2 : RV K (res H O) d' v) : RV K (res (upd H t (.tup [u, v])) O) (.tup [d, d']) (.ref t) := by
  have no : ¬ O t := fun z => trk t z ht
  have rs : Same (res H O) (res (upd H t (.tup [u, v])) O) := fun b o z => by
    obtain ⟨n, z⟩ := res_some.mp z
    exact res_some.mpr ⟨n, same_upd ht b o z⟩
  exact ⟨t, [u, v], rfl, SqT.of (res_upd no), u, [v], rfl, RV.same rs r1, v, [], rfl, RV.same rs r2, rfl⟩
theorem feeds_zipL {p q : Addr} {vs ws : List V} {ds es : List Ow.D} (h : Hs p = some (.lst vs)) (h' : Hs q = some (.lst ws)) (r : RVs K Hs ds vs) (r' : RVs K Hs es ws) : Feeds K (Itz K p q) (zipD ds es) Hs := fun i H O trk g => by
  have e : H p = some (.lst vs) := res_same _ _ (g _ _ h)
  have e' : H q = some (.lst ws) := res_same _ _ (g _ _ h')
  refine ⟨fun hl => ⟨vs, ws, SqL.of e, SqL.of e', by rw [← r.length, ← r'.length]; rw [zipD_len] at hl; omega⟩, fun d ed => ?_⟩
  obtain ⟨x, y, ex, ey, rfl⟩ := zipD_get ed
  obtain ⟨v, ev, rv⟩ := r.get ex
  obtain ⟨w, ew, rw'⟩ := r'.get ey
  refine ⟨⟨vs, ws, v, w, SqL.of e, SqL.of e', ev, ew⟩, fun z H2 y => ?_⟩
  obtain ⟨t, v', w', rfl, ht, rfl, y1, y2⟩ := y
  have q1 := y1 vs (SqL.of e)
  have q2 := y2 ws (SqL.of e')
  rw [ev] at q1
  rw [ew] at q2
  cases q1
  cases q2
  exact ⟨same_upd ht, pair_new trk ht (RV.same g rv) (RV.same g rw')⟩
theorem feeds_zipT {p q : Addr} {vs ws : List V} {ds es : List Ow.D} (h : SqT K Hs p vs) (h' : SqT K Hs q ws) (r : RVs K Hs ds vs) (r' : RVs K Hs es ws) : Feeds K (RZ.ItzT K p q) (zipD ds es) Hs := fun i H O trk g => by
  have e : SqT K H p vs := Ow.Same.sqt res_same (Ow.Same.sqt g h)
  have e' : SqT K H q ws := Ow.Same.sqt res_same (Ow.Same.sqt g h')
  refine ⟨fun hl => ⟨vs, ws, e, e', by rw [← r.length, ← r'.length]; rw [zipD_len] at hl; omega⟩, fun d ed => ?_⟩
  obtain ⟨x, y, ex, ey, rfl⟩ := zipD_get ed
  obtain ⟨v, ev, rv⟩ := r.get ex
  obtain ⟨w, ew, rw'⟩ := r'.get ey
  refine ⟨⟨vs, ws, v, w, e, e', ev, ew⟩, fun z H2 y => ?_⟩
  obtain ⟨t, v', w', rfl, ht, rfl, y1, y2⟩ := y
  have q1 := y1 vs e
  have q2 := y2 ws e'
  rw [ev] at q1
  rw [ew] at q2
  cases q1
  cases q2
  exact ⟨same_upd ht, pair_new trk ht (RV.same g rv) (RV.same g rw')⟩
theorem i_zip {p tpos : Pos} {elts : List Expr} {kk : Nat} (hK : X.K = T.K) (hg : Gl X "zip") (hm : X.mg "zip" = none) (ha : PA X [a, b] (SA T W B F [sa, sb]))
    (hs : starEach [a, b] X.env = (false, eval a X.env) :: starEach [b] X.env := by rfl) (hpl : (backTo pos (starEach [b] X.env)).any (·.1) = false := by rfl) :
    PI X (.Tuple elts kk tpos) (.Call (.Name "zip" p) [a, b] [] pos) (SI T W B F .zip [sa, sb]) := (RZ.pi_zipA hg hm ha hs hpl).imp fun σ H Rr h => by
  obtain ⟨ε, O, S, h⟩ := h
  rw [hK]
  refine ⟨ε, O, S, h.mono fun xs ε1 H1 O1 S1 u1 st1 h1 vs hvs => ?_⟩
  obtain ⟨ds, e, k⟩ := h1
  obtain ⟨qs, e1, e2⟩ := shs_bind e
  have r := shs_rv (K := T.K) e1 hvs
  match qs, e2 with
  | [.lst xs, .lst ys], e2 =>
    cases e2
    obtain ⟨v, rr, rfl, h1, h2⟩ := r
    obtain ⟨w, rr2, rfl, h3, h4⟩ := h2
    obtain ⟨q, ws, rfl, g1, g2⟩ := h1
    obtain ⟨q', ws', rfl, g1', g2'⟩ := h3
    cases (show rr2 = [] from h4)
    exact ⟨q, q', ws, ws', rfl, .inl ⟨SqL.of (res_same _ _ g1), SqL.of (res_same _ _ g1'), k _ (feeds_zipL g1 g1' g2 g2')⟩⟩
  | [.tup xs, .tup ys], e2 =>
    cases e2
    obtain ⟨v, rr, rfl, h1, h2⟩ := r
    obtain ⟨w, rr2, rfl, h3, h4⟩ := h2
    obtain ⟨q, ws, rfl, g1, g2⟩ := h1
    obtain ⟨q', ws', rfl, g1', g2'⟩ := h3
    cases (show rr2 = [] from h4)
    exact ⟨q, q', ws, ws', rfl, .inr ⟨Ow.Same.sqt res_same g1, Ow.Same.sqt res_same g1', k _ (feeds_zipT g1 g1' g2 g2')⟩⟩
end
end Ow

end
end

section
set_option Elab.async false
set_option linter.all false
set_option maxRecDepth 100000
noncomputable section
namespace Ow
open PySem PySem.Spec L2

/-! ## list comprehensions -/
section
variable {X : Cx} {T : Ent} {W : WX} {B : Blt → List D → Option D} {F : Str → List Slot → CR} {wf : Nat} {a b c e tg : Expr} {es : List Expr} {sa sb sc : E} {ss : List E} {pos : Pos} {K : Fr}
variable {ε ε' : List Slot} {σ σ' : St} {H H' Hs : Hp} {O O' : Addr → Prop} {D : Ends}

abbrev W0 : WX := fun _ _ _ _ => False
theorem wipe_off : ∀ {vs : List Nat} {σ : St}, Off vs σ (wipe σ vs)
  | [], _ => fun _ _ => rfl
  | v :: vs, σ => fun j hj => by
    show ((wipe σ vs).set v none)[j]? = σ[j]?
    rw [List.getElem?_set_ne fun z => hj (by rw [← z]; exact List.mem_cons_self)]
    exact wipe_off j fun z => hj (List.mem_cons_of_mem _ z)
theorem wipe_at : ∀ {vs : List Nat} {σ : St} {j : Nat}, j ∈ vs → j < σ.length → (wipe σ vs)[j]? = some none
  | v :: vs, σ, j, h, l => by
    show ((wipe σ vs).set v none)[j]? = some none
    by_cases hj : v = j
    · subst hj
      exact List.getElem?_set_self (by rw [wipe_length]; exact l)
    · rw [List.getElem?_set_ne hj]
      exact wipe_at ((List.mem_cons.mp h).elim (fun z => absurd z.symm hj) id) l
theorem wipe_eq {vs : List Nat} {σ σ' : St} (hl : σ'.length = σ.length) (h : Off vs σ σ') : wipe σ' vs = wipe σ vs := by
  refine List.ext_getElem? fun j => ?_
  by_cases hj : j ∈ vs
  · by_cases l : j < σ.length
    · rw [wipe_at hj l, wipe_at hj (by rw [hl]; exact l)]
    · rw [List.getElem?_eq_none (by rw [wipe_length]; omega), List.getElem?_eq_none (by rw [wipe_length]; omega)]
  · rw [wipe_off j hj, wipe_off j hj, h j hj]
theorem wipeE_len : ∀ {vs : List Nat} {e : List Slot}, (wipeE e vs).length = e.length
  | [], _ => rfl
  | v :: vs, e => by
    show ((wipeE e vs).set v .un).length = e.length
    rw [List.length_set, wipeE_len]
theorem wipeE_some : ∀ {vs : List Nat} {e : List Slot} {j : Nat} {s : Slot}, (wipeE e vs)[j]? = some s → s = .un ∨ (j ∉ vs ∧ e[j]? = some s)
  | [], _, _, _, h => .inr ⟨by simp, h⟩
  | v :: vs, e, j, s, h => by
    have h : ((wipeE e vs).set v .un)[j]? = some s := h
    by_cases hj : v = j
    · subst hj
      have lt : v < ((wipeE e vs).set v .un).length := (List.getElem?_eq_some_iff.mp h).1
      rw [List.length_set] at lt
      rw [List.getElem?_set_self lt] at h
      cases h
      exact .inl rfl
    · rw [List.getElem?_set_ne hj] at h
      rcases wipeE_some h with q | ⟨q, q2⟩
      · exact .inl q
      · exact .inr ⟨fun z => (List.mem_cons.mp z).elim (fun y => hj y.symm) q, q2⟩
theorem backE_len : ∀ {vs : List Nat} {e o : List Slot}, (backE e o vs).length = e.length
  | [], _, _ => rfl
  | v :: vs, e, o => by
    show ((backE e o vs).set v _).length = e.length
    rw [List.length_set, backE_len]
theorem backE_some : ∀ {vs : List Nat} {e o : List Slot} {j : Nat} {s : Slot}, (backE e o vs)[j]? = some s → (j ∈ vs ∧ (s = .un ∨ o[j]? = some s)) ∨ (j ∉ vs ∧ e[j]? = some s)
  | [], _, _, _, _, h => .inr ⟨by simp, h⟩
  | v :: vs, e, o, j, s, h => by
    have h : ((backE e o vs).set v (o.getD v .un))[j]? = some s := h
    by_cases hj : v = j
    · subst hj
      have lt : v < ((backE e o vs).set v (o.getD v .un)).length := (List.getElem?_eq_some_iff.mp h).1
      rw [List.length_set] at lt
      rw [List.getElem?_set_self lt] at h
      refine .inl ⟨List.mem_cons_self, ?_⟩
      rw [List.getD_eq_getElem?_getD] at h
      cases q : o[v]? with
      | none => rw [q] at h; cases h; exact .inl rfl
      | some t => rw [q] at h; cases h; exact .inr rfl
    · rw [List.getElem?_set_ne hj] at h
      rcases backE_some h with ⟨q, q2⟩ | ⟨q, q2⟩
      · exact .inl ⟨List.mem_cons_of_mem _ q, q2⟩
      · exact .inr ⟨fun z => (List.mem_cons.mp z).elim (fun y => hj y.symm) q, q2⟩
theorem owns_none {vs : List Nat} {e : List Slot} (h : ¬ ownsAny e vs = true) {j : Nat} {s : Slot} (hj : j ∈ vs) (hs : e[j]? = some s) : s.own = false := by
  cases q : s.own with
  | false => rfl
  | true =>
    refine absurd ?_ h
    unfold ownsAny
    exact List.any_eq_true.mpr ⟨j, hj, by rw [hs]; exact q⟩
/-- fewer slots are read -/
theorem StR.wiped {vs : List Nat} (S : StR T ε σ H O) : StR T (wipeE ε vs) (wipe σ vs) H O := by
  have key : ∀ {j : Nat} {s : Slot}, (wipeE ε vs)[j]? = some s → s = .un ∨ (ε[j]? = some s ∧ (wipe σ vs)[j]? = σ[j]?) := fun {j s} h => by
    rcases wipeE_some h with q | ⟨q, q2⟩
    · exact .inl q
    · exact .inr ⟨q2, wipe_off j q⟩
  refine ⟨by rw [wipeE_len, wipe_length]; exact S.len, S.old, S.mm, S.trk0, S.trk, S.new, S.frame, fun j s ej => ?_, fun i j p s t ei ej hs ht g1 g2 => ?_, fun i d ei => ?_⟩
  · rcases key ej with rfl | ⟨q1, q2⟩
    · exact trivial
    · rw [q2]
      exact S.slot j s q1
  · rcases key ei with rfl | ⟨a1, a2⟩
    · cases hs
    · rcases key ej with rfl | ⟨b1, b2⟩
      · cases ht
      · rw [a2] at g1
        rw [b2] at g2
        exact S.dist i j p s t a1 b1 hs ht g1 g2
  · rcases key ei with q | ⟨a1, a2⟩
    · cases q
    · rw [a2]
      exact S.lns i d a1
/-- the block's own slots as they stood -/
theorem StR.backed {vs : List Nat} {σ2 : St} (S : StR T ε σ H O) (ow : ¬ ownsAny ε vs = true) (g : Same (res H O) (res H' O')) (S' : StR T ε' σ2 H' O') (hl : σ2.length = σ.length) (off : Off vs σ σ2) : StR T (backE ε' ε vs) σ H' O' := by
  have key : ∀ {j : Nat} {s : Slot}, (backE ε' ε vs)[j]? = some s → (s = .un ∨ (j ∈ vs ∧ ε[j]? = some s)) ∨ (ε'[j]? = some s ∧ σ2[j]? = σ[j]?) := fun {j s} h => by
    rcases backE_some h with ⟨q, q2⟩ | ⟨q, q2⟩
    · exact .inl (q2.imp_right fun z => ⟨q, z⟩)
    · exact .inr ⟨q2, off j q⟩
  refine ⟨by rw [backE_len, S'.len, hl], S'.old, S'.mm, S'.trk0, S'.trk, S'.new, S'.frame, fun j s ej => ?_, fun i j p s t ei ej hs ht g1 g2 => ?_, fun i d ei => ?_⟩
  · rcases key ej with (rfl | ⟨q0, q1⟩) | ⟨q1, q2⟩
    · exact trivial
    · have no := owns_none ow q0 q1
      have z := S.slot j s q1
      cases s with
      | un => exact trivial
      | sh d => obtain ⟨v, z1, z2⟩ := z; exact ⟨v, z1, RV.same g z2⟩
      | ow d => cases no
      | ln d => cases no
    · rw [← q2]
      exact S'.slot j s q1
  · have own : ∀ {j : Nat} {s : Slot}, (backE ε' ε vs)[j]? = some s → s.own = true → ε'[j]? = some s ∧ σ2[j]? = σ[j]? := fun {j s} ej hs => by
      rcases key ej with (rfl | ⟨q0, q1⟩) | q
      · cases hs
      · rw [owns_none ow q0 q1] at hs
        cases hs
      · exact q
    obtain ⟨a1, a2⟩ := own ei hs
    obtain ⟨b1, b2⟩ := own ej ht
    rw [← a2] at g1
    rw [← b2] at g2
    exact S'.dist i j p s t a1 b1 hs ht g1 g2
  · rcases key ei with (q | ⟨q0, q1⟩) | ⟨a1, a2⟩
    · cases q
    · have no := owns_none ow q0 q1
      cases no
    · rw [← a2]
      exact S'.lns i d a1
/-- a made list that no slot owns yet -/
def hide (H : Hp) (D : Addr) : Hp := fun a => if a = D then none else H a
def rem (O : Addr → Prop) (D : Addr) : Addr → Prop := fun a => O a ∧ a ≠ D
theorem hide_ne {D a : Addr} (h : a ≠ D) : hide H D a = H a := if_neg h
theorem hide_at {D : Addr} : hide H D D = none := if_pos rfl
theorem hide_same {D : Addr} : Same (hide H D) H := fun a o h => by
  by_cases e : a = D
  · subst e
    rw [hide_at] at h
    cases h
  · rw [hide_ne e] at h
    exact h
theorem res_hide {D : Addr} (h : O D) : res (hide H D) (rem O D) = res H O := by
  funext a
  by_cases e : a = D
  · subst e
    have h1 : ¬ rem O a a := fun z => z.2 rfl
    unfold res
    rw [if_neg h1, if_pos h, hide_at]
  · unfold res
    by_cases ho : O a
    · rw [if_pos ho, if_pos (show rem O D a from ⟨ho, e⟩)]
    · rw [if_neg ho, if_neg (show ¬ rem O D a from fun z => ho z.1), hide_ne e]
theorem CtR.at {d : Ow.D} {p : Addr} (he : H' p = H p) (hr : res H' O' = res H O) (h : CtR K H (res H O) d p) : CtR K H' (res H' O') d p := by
  rw [hr]
  cases d with
  | lst ds => obtain ⟨vs, g1, g2⟩ := h; exact ⟨vs, by rw [he]; exact g1, g2⟩
  | dic ds => obtain ⟨vs, g1, g2⟩ := h; exact ⟨vs, by rw [he]; exact g1, g2⟩
  | obj c ds => obtain ⟨dx, vs, g1, g2⟩ := h; exact ⟨dx, vs, by rw [he]; exact g1, g2⟩
  | _ => exact h.elim
theorem Own.ne {D p : Addr} (no : ¬ Own ε σ D) {j : Nat} {s : Slot} (e : ε[j]? = some s) (ho : s.own = true) (hp : σ[j]? = some (some (.ref p))) : p ≠ D := fun z => by
  subst z
  exact no ⟨j, s, e, ho, hp⟩
/-- what is no one's may change, or be put away -/
theorem StR.aside {D : Addr} (S : StR T ε σ H O) (hD : O D) (h0 : T.H0 D = none) (no : ¬ Own ε σ D) (he : ∀ a, a ≠ D → H' a = H a) (hr : res H' O' = res H O) (trk : ∀ a, O' a → H' a ≠ none) (old : ∀ a, T.O0 a → O' a) (hO : ∀ a, a ≠ D → (O' a ↔ O a)) : StR T ε σ H' O' := by
  have nD : ∀ {a : Addr} {o : HO}, T.H0 a = some o → a ≠ D := fun {a o} h z => by
    subst z
    rw [h0] at h
    cases h
  refine ⟨S.len, old, S.mm, S.trk0, trk, fun a h => ?_, fun a o h n => ?_, fun j s e => ?_, S.dist, S.lns⟩
  · by_cases z : a = D
    · exact .inr (by rw [z]; exact h0)
    · exact S.new a ((hO a z).mp h)
  · rw [he a (nD h)]
    exact S.frame a o h n
  · have q := S.slot j s e
    cases s with
    | un => exact trivial
    | sh d => obtain ⟨v, q1, q2⟩ := q; exact ⟨v, q1, by rw [hr]; exact q2⟩
    | ow d =>
      obtain ⟨p, q1, q2, q3, q4⟩ := q
      have np := Own.ne no e rfl q1
      exact ⟨p, q1, (hO p np).mpr q2, q3, q4.at (he p np) hr⟩
    | ln d =>
      obtain ⟨p, q1, q2, q4⟩ := q
      have np := Own.ne no e rfl q1
      exact ⟨p, q1, q2, q4.at (he p np) hr⟩
theorem res_touch {D : Addr} {o : HO} (h : O D) : res (upd H D o) O = res H O := res_put h
/-- tests in a row -/
def STs (T : Ent) (W : WX) (B : Blt → List Ow.D → Option Ow.D) (F : Str → List Slot → CR) (es : List E) : TT := fun σ H Q => ∃ ε O, StR T ε σ H O ∧
  Wp T W ε σ H O (evIfs B F es ε) fun k ε' H' O' => Q k H'
theorem _root_.L2.PTs.imp {X : Cx} {e : List Expr} {t t' : TT} (h : PTs X e t) (f : ∀ σ H Q, t' σ H Q → t σ H Q) : PTs X e t' := ⟨fun pins s σ H Q I q => h.run pins s σ H Q I (f σ H Q q)⟩
theorem ts_nil : PTs X [] (STs T W B F []) := pts_nil.imp fun σ H Q h => by
  obtain ⟨ε, O, S, h⟩ := h
  rw [evIfs] at h
  exact h.ok S
theorem ts_one (hc : PT X c (ST T W B F sc)) : PTs X [c] (STs T W B F [sc]) := (pts_one hc).imp fun σ H Q h => by
  obtain ⟨ε, O, S, h⟩ := h
  refine ⟨ε, O, S, ?_⟩
  have e : evIfs B F [sc] ε = evT B F sc ε := by
    rw [evIfs]
    cases evT B F sc ε with
    | ok k e1 =>
      show (if k = true then evIfs B F [] e1 else .ok false e1) = .ok k e1
      cases k with
      | true => rw [if_pos rfl, evIfs]
      | false => rw [if_neg (by decide)]
    | exc c fs e1 => rfl
    | stuck => rfl
  rw [e] at h
  exact h
theorem bindT_some {t : Tgt} {d : Ow.D} {e1 : List Slot} (h : bindT t d ε = some e1) : ∀ (j : Nat) (s : Slot), e1[j]? = some s → (∃ d', s = .sh d') ∨ ε[j]? = some s := by
  have setA : ∀ (is : List Nat) (ds : List Ow.D) (ε : List Slot) (j : Nat) (s : Slot), (setAll is ds ε)[j]? = some s → (∃ d', s = .sh d') ∨ ε[j]? = some s := by
    intro is
    induction is with
    | nil => intro ds ε j s q; exact .inr q
    | cons i is ih =>
      intro ds ε j s q
      cases ds with
      | nil => exact .inr q
      | cons d ds =>
        rcases ih ds (ε.set i (.sh d)) j s q with z | z
        · exact .inl z
        · by_cases hj : i = j
          · subst hj
            have lt : i < (ε.set i (.sh d)).length := (List.getElem?_eq_some_iff.mp z).1
            rw [List.length_set] at lt
            rw [List.getElem?_set_self lt] at z
            cases z
            exact .inl ⟨_, rfl⟩
          · rw [List.getElem?_set_ne hj] at z
            exact .inr z
  cases t with
  | nm i =>
    intro j s q
    unfold bindT at h
    by_cases hl : i < ε.length
    · simp only [hl, if_true] at h
      cases h
      exact setA [i] [d] ε j s q
    · simp [hl] at h
  | tp is =>
    intro j s q
    cases d with
    | tup ds =>
      unfold bindT at h
      by_cases hl : is.length = ds.length ∧ is.all (fun i => decide (i < ε.length)) = true
      · dsimp only at h
        rw [if_pos hl] at h
        cases h
        exact setA is ds ε j s q
      · dsimp only at h
        rw [if_neg hl] at h
        cases h
    | _ => cases h
end
end Ow

end
end

section
set_option Elab.async false
set_option linter.all false
set_option maxRecDepth 100000
noncomputable section
namespace Ow
open PySem PySem.Spec L2
section
variable {X : Cx} {T : Ent} {W : WX} {B : Blt → List D → Option D} {F : Str → List Slot → CR} {wf : Nat} {a b c e : Expr} {es : List Expr} {sa sb sc : E} {ss : List E} {pos : Pos} {K : Fr}
variable {ε ε' : List Slot} {σ σ' : St} {H H' Hs : Hp} {O O' : Addr → Prop} {D : Ends}

/-- a turn of a comprehension, said of data -/
def turnC (B : Blt → List Ow.D → Option Ow.D) (F : Str → List Slot → CR) (t : Tgt) (vs : List Nat) (ifs : List E) (elt : E) (d : Ow.D) (e : List Slot) : R (Option Ow.D) := match bindT t d (wipeE e vs) with
  | some e1 => (match evIfs B F ifs e1 with
    | .ok true e2 => (match ev B F elt e2 with
      | .ok (.sh y) e3 => .ok (some y) (backE e3 e vs)
      | _ => .stuck)
    | .ok false e2 => .ok none (backE e2 e vs)
    | _ => .stuck)
  | none => .stuck
theorem ev_comp {k : ItK} {t : Tgt} {vs : List Nat} {ifs : List E} {elt : E} : ev B F (.comp k ss t vs ifs elt) ε = (evs B F ss ε).bind fun xs e => match (shs xs).bind (itemsOf k) with
    | some ds => if ownsAny e vs = true then .stuck else (loopC (turnC B F t vs ifs elt) ds [] e).bind fun ys e => .ok (.sh (.lst ys)) e
    | none => .stuck := by
  rw [ev]
  rfl
theorem StR.len_eq {σ2 : St} {ε2 : List Slot} (S : StR T ε σ H O) (S2 : StR T ε2 σ2 H' O') (h : ε2.length = ε.length) : σ2.length = σ.length := by
  rw [← S.len, ← S2.len, h]
theorem setAll_len : ∀ {is : List Nat} {ds : List Ow.D} {ε : List Slot}, (setAll is ds ε).length = ε.length
  | [], _, _ => rfl
  | _ :: _, [], _ => rfl
  | i :: is, d :: ds, ε => by
    show (setAll is ds (ε.set i (.sh d))).length = ε.length
    rw [setAll_len, List.length_set]
theorem bindT_len {t : Tgt} {d : Ow.D} {e1 : List Slot} (h : bindT t d ε = some e1) : e1.length = ε.length := by
  cases t with
  | nm i =>
    unfold bindT at h
    by_cases hl : i < ε.length
    · simp only [hl, if_true] at h
      cases h
      exact List.length_set
    · simp [hl] at h
  | tp is =>
    cases d with
    | tup ds =>
      unfold bindT at h
      by_cases hl : is.length = ds.length ∧ is.all (fun i => decide (i < ε.length)) = true
      · dsimp only at h
        rw [if_pos hl] at h
        cases h
        exact setAll_len
      · dsimp only at h
        rw [if_neg hl] at h
        cases h
    | _ => cases h
/-- what holds of the loop between two turns -/
structure CompI (T : Ent) (σ : St) (D : Addr) (ε1 : List Slot) (H1 : Hp) (O1 : Addr → Prop) (e : List Slot) (H : Hp) (O : Addr → Prop) (ad : List Ow.D) : Prop where
  S : StR T e σ H O
  oD : O D
  h0 : T.H0 D = none
  no : ¬ Own e σ D
  ls : ∃ acc, H D = some (.lst acc) ∧ RVs T.K (res H O) ad acc
  sm : Same (res H1 O1) (res H O)
  sub : Sub ε1 e
  st : Step ε1 σ H1 O1 (hide H D) (rem O D)
theorem CompI.start {Dp : Addr} (S : StR T ε σ H O) (hD : H Dp = none) : CompI T σ Dp ε H O ε (upd H Dp (.lst [])) (addO O Dp) [] := by
  have g : Same H (upd H Dp (.lst [])) := same_upd hD
  have nO : ¬ O Dp := S.fresh hD
  refine ⟨S.add hD g (by rw [upd_same]; exact fun z => by cases z), .inr rfl, S.fresh0 hD, S.notOwn hD, ⟨[], upd_same, rfl⟩, res_add hD g, Sub.refl _, ?_⟩
  have e1 : hide (upd H Dp (.lst [])) Dp = H := by
    funext a
    by_cases e : a = Dp
    · subst e; rw [hide_at, hD]
    · rw [hide_ne e, upd_ne e]
  have e2 : rem (addO O Dp) Dp = O := by
    funext a
    refine propext ⟨fun z => z.1.elim id fun y => absurd y z.2, fun z => ⟨.inl z, fun y => nO (by rw [← y]; exact z)⟩⟩
  rw [e1, e2]
  exact Step.refl _ _ _ _
/-- the step of a turn, from within it -/
theorem CompI.next {Dp : Addr} {ε1 e e3 : List Slot} {H1 H2 H3 : Hp} {O1 O3 : Addr → Prop} {ad : List Ow.D} {σ2 : St} {e1 : List Slot} {vs : List Nat} (I : CompI T σ Dp ε1 H1 O1 e H O ad) (S1 : StR T ε1 σ H1 O1) (ow : ¬ ownsAny e vs = true) (gs : Same H H2) (S2 : StR T e1 σ2 H2 O) (off : Off vs σ σ2) (el : e1.length = e.length)
    (sl : ∀ (j : Nat) (s : Slot), e1[j]? = some s → s.own = true → j ∉ vs ∧ e[j]? = some s)
    (S3 : StR T e3 σ2 H3 O3) (u3 : Sub e1 e3) (st3 : Step e1 σ2 H2 O H3 O3) : CompI T σ Dp ε1 H1 O1 (backE e3 e vs) H3 O3 ad ∧ (∀ o, H Dp = some o → H3 Dp = some o) := by
  have ownL : ∀ {p : Addr}, Own e1 σ2 p → Own e σ p := fun {p} ⟨j, s, q1, q2, q3⟩ => by
    obtain ⟨n, z⟩ := sl j s q1 q2
    exact ⟨j, s, z, q2, by rw [← off j n]; exact q3⟩
  have nD : ¬ Own e1 σ2 Dp := fun z => I.no (ownL z)
  have keepD : ∀ o, H Dp = some o → H3 Dp = some o := fun o z => st3.keep _ _ (gs _ _ z) nD
  have oD3 : O3 Dp := (st3.lose _ I.oD).elim id fun z => absurd z nD
  have sm1 : Same (res H O) (res H2 O) := fun a o z => by
    obtain ⟨n, z⟩ := res_some.mp z
    exact res_some.mpr ⟨n, gs _ _ z⟩
  have sm2 : Same (res H O) (res H3 O3) := Same.trans' sm1 (st3.same S2)
  have hl : σ2.length = σ.length := by
    rw [← S2.len, ← I.S.len, el]
  have back : ∀ (j : Nat) (s : Slot), (backE e3 e vs)[j]? = some s → s.own = true → ∃ t, e[j]? = some t ∧ t.own = true := fun j s q ho => by
    rcases backE_some q with ⟨q1, q2⟩ | ⟨q1, q2⟩
    · rcases q2 with rfl | q2
      · cases ho
      · exact ⟨s, q2, ho⟩
    · obtain ⟨t, t1, t2⟩ := u3 j s q2 ho
      obtain ⟨_, t3⟩ := sl j t t1 t2
      exact ⟨t, t3, t2⟩
  have sub2 : Sub e (backE e3 e vs) := back
  obtain ⟨acc, a1, a2⟩ := I.ls
  refine ⟨⟨I.S.backed ow sm2 S3 hl off, oD3, I.h0, fun z => I.no (z.sub sub2), ⟨acc, keepD _ a1, RVs.same sm2 a2⟩, Same.trans' I.sm sm2, I.sub.trans sub2, ?_⟩, keepD⟩
  refine Step.trans S1 I.sub I.st ⟨fun a o h n => ?_, fun a h => ?_, fun a h => ?_, fun a h => ?_⟩
  · by_cases ea : a = Dp
    · subst ea
      rw [hide_at] at h
      cases h
    · rw [hide_ne ea] at h
      rw [hide_ne ea]
      exact st3.keep a o (gs _ _ h) fun z => n (ownL z)
  · obtain ⟨h, ea⟩ := h
    rcases st3.news a h with z | z
    · exact .inl ⟨z, ea⟩
    · refine .inr ?_
      rw [hide_ne ea]
      cases q : H a with
      | none => rfl
      | some o => rw [gs _ _ q] at z; cases z
  · obtain ⟨h, ea⟩ := h
    exact (st3.lose a h).imp (fun z => ⟨z, ea⟩) ownL
  · by_cases ea : a = Dp
    · subst ea
      exact absurd hide_at h
    · rw [hide_ne ea] at h
      rw [hide_ne ea]
      exact st3.stay a (same_stay gs h)
/-- one more item -/
theorem CompI.push {Dp : Addr} {ε1 e : List Slot} {H1 : Hp} {O1 : Addr → Prop} {ad : List Ow.D} {acc : List V} {d : Ow.D} {v : V} (I : CompI T σ Dp ε1 H1 O1 e H O ad) (ha : H Dp = some (.lst acc)) (r : RV T.K (res H O) d v) :
    CompI T σ Dp ε1 H1 O1 e (upd H Dp (.lst (acc ++ [v]))) O (ad ++ [d]) := by
  have hr : res (upd H Dp (.lst (acc ++ [v]))) O = res H O := res_touch I.oD
  obtain ⟨acc', a1, a2⟩ := I.ls
  rw [ha] at a1
  cases a1
  have hh : hide (upd H Dp (.lst (acc ++ [v]))) Dp = hide H Dp := by
    funext a
    by_cases e : a = Dp
    · subst e; rw [hide_at, hide_at]
    · rw [hide_ne e, hide_ne e, upd_ne e]
  refine ⟨I.S.aside I.oD I.h0 I.no (fun a n => upd_ne n) hr (fun a h => ?_) I.S.old fun _ _ => Iff.rfl, I.oD, I.h0, I.no, ⟨acc ++ [v], upd_same, ?_⟩, by rw [hr]; exact I.sm, I.sub, by rw [hh]; exact I.st⟩
  · by_cases e : a = Dp
    · subst e; rw [upd_same]; exact fun z => by cases z
    · rw [upd_ne e]; exact I.S.trk a h
  · rw [hr]
    exact RVs.app a2 (RVs.one r)
/-- behind the last turn -/
theorem CompI.fin {Dp : Addr} {ε1 e : List Slot} {H1 : Hp} {O1 : Addr → Prop} {ad : List Ow.D} (I : CompI T σ Dp ε1 H1 O1 e H O ad) : StR T e σ (hide H Dp) (rem O Dp) ∧ New T e σ (hide H Dp) H (rem O Dp) (.lst ad) Dp := by
  obtain ⟨acc, a1, a2⟩ := I.ls
  refine ⟨I.S.aside I.oD I.h0 I.no (fun a n => hide_ne n) (res_hide I.oD) (fun a h => ?_) (fun a h => ⟨I.S.old a h, fun z => ?_⟩) (fun a n => ⟨fun z => z.1, fun z => ⟨z, n⟩⟩), ⟨hide_at, hide_same, acc, a1, ?_⟩⟩
  · rw [hide_ne h.2]; exact I.S.trk a h.1
  · subst z
    exact absurd I.h0 (I.S.trk0 _ h)
  · rw [res_hide I.oD]
    exact a2
/-- a comprehension's reading -/
theorem comp_rd {k : ItK} {t : Tgt} {se : E} {sifs : List E} {vs : List Nat} {Q : VK} (ht : ∀ i ∈ tgIx t, i ∈ vs) (h : SN T W B F (.comp k ss t vs sifs se) σ H Q) : tLc (SI T W B F k ss) (SG T t) (STs T W0 B F sifs) (SE T W0 B F se) vs σ H Q := by

  obtain ⟨ε, O, S, h⟩ := h
  rw [ev_comp] at h
  refine ⟨ε, O, S, (h.bind S).mono fun xs ε1 H1 O1 S1 u1 st1 h1 => ?_⟩
  cases eds : (shs xs).bind (itemsOf k) with
  | none => rw [eds] at h1; exact h1.elim
  | some ds =>
    rw [eds] at h1
    dsimp only at h1
    by_cases ow : ownsAny ε1 vs = true
    · rw [if_pos ow] at h1; exact h1.elim
    · rw [if_neg ow] at h1
      refine ⟨ds, rfl, fun J fd Dp hD => ?_⟩
      refine ⟨fun i m H' => m = ds.length - i ∧ i ≤ ds.length ∧ ∃ e' O' ad, CompI T σ Dp ε1 H1 O1 e' H' O' ad ∧
        Wp T W ε1 σ H1 O1 ((loopC (turnC B F t vs sifs se) (ds.drop i) ad e').bind fun ys e => R.ok (EV.sh (Ow.D.lst ys)) e) (fun x ε' H' O' => ∀ d p H'', x = EV.sh d → New T ε' σ H' H'' O' d p → Q (.ref p) H''), ⟨_, rfl, Nat.zero_le _, ε1, _, [], CompI.start S1 hD, h1⟩, ?_⟩
      rintro i m H' ⟨rfl, hi', e', O', ad, I, w'⟩
      have ow' : ¬ ownsAny e' vs = true := fun z => by
        refine ow ?_
        unfold ownsAny at z ⊢
        obtain ⟨j, j1, j2⟩ := List.any_eq_true.mp z
        refine List.any_eq_true.mpr ⟨j, j1, ?_⟩
        cases q : e'[j]? with
        | none => rw [q] at j2; cases j2
        | some s =>
          rw [q] at j2
          obtain ⟨t, t1, t2⟩ := I.sub j s q j2
          rw [t1]
          exact t2
      obtain ⟨f1, f2⟩ := fd i H' O' I.S.trk I.sm
      by_cases hl : i < ds.length
      · obtain ⟨d, ed⟩ : ∃ d, ds[i]? = some d := ⟨ds[i], List.getElem?_eq_getElem hl⟩
        obtain ⟨go, yl⟩ := f2 d ed
        have edr : ds.drop i = d :: ds.drop (i + 1) := by
          rw [List.drop_eq_getElem_cons hl]
          rw [List.getElem?_eq_getElem hl] at ed
          cases ed
          rfl
        rw [edr] at w'
        refine .inr ⟨go, fun H2 => i + 1 ≤ ds.length ∧ ∃ e2 O2 ad2, CompI T σ Dp ε1 H1 O1 e2 H2 O2 ad2 ∧
          Wp T W ε1 σ H1 O1 ((loopC (turnC B F t vs sifs se) (ds.drop (i + 1)) ad2 e2).bind fun ys e => R.ok (EV.sh (Ow.D.lst ys)) e) (fun x ε' H' O' => ∀ d p H'', x = EV.sh d → New T ε' σ H' H'' O' d p → Q (.ref p) H''), fun H2 z => ⟨ds.length - (i + 1), by omega, rfl, z⟩, fun x H2 y => ?_⟩
        obtain ⟨gs, rv⟩ := yl x H2 y
        have S2 := I.S.grow gs
        unfold loopC at w'
        have S2w : StR T (wipeE e' vs) (wipe σ vs) H2 O' := S2.wiped
        cases eb : bindT t d (wipeE e' vs) with
        | none =>
          have : turnC B F t vs sifs se d e' = .stuck := by unfold turnC; rw [eb]
          rw [this] at w'
          exact w'.elim
        | some e1 =>
          have te : turnC B F t vs sifs se d e' = (match evIfs B F sifs e1 with
            | .ok true e2 => (match ev B F se e2 with
              | .ok (.sh y) e3 => .ok (some y) (backE e3 e' vs)
              | _ => .stuck)
            | .ok false e2 => .ok none (backE e2 e' vs)
            | _ => .stuck) := by unfold turnC; rw [eb]
          rw [te] at w'
          have el : e1.length = e'.length := by rw [bindT_len eb, wipeE_len]
          refine ⟨wipeE e' vs, O', d, S2w, rv, e1, eb, fun σ2 S2b offt => ?_⟩
          have off : Off vs σ σ2 := fun j hj => by
            rw [offt j fun z => hj (ht j z)]
            exact wipe_off j hj
          have hl2 : σ2.length = σ.length := by rw [← S2b.len, ← I.S.len, el]
          have sl : ∀ (j : Nat) (s : Slot), e1[j]? = some s → s.own = true → j ∉ vs ∧ e'[j]? = some s := fun j s q ho => by
            rcases bindT_some eb j s q with ⟨d', rfl⟩ | q
            · cases ho
            · rcases wipeE_some q with rfl | q
              · cases ho
              · exact q
          refine ⟨wipe_eq hl2 off, e1, O', S2b, ?_⟩
          revert w'
          cases ei : evIfs B F sifs e1 with
          | stuck => exact fun z => z.elim
          | exc c fs e2 => exact fun z => z.elim
          | ok b e2 =>
            intro w' H3 O3 S3 u3 st3
            cases b with
            | false =>
              refine (if_neg (by decide)).mpr ⟨hl, _, O3, ad, (I.next S1 ow' gs S2b off el sl S3 u3 st3).1, w'⟩
            | true =>
              refine (if_pos rfl).mpr ⟨e2, O3, S3, ?_⟩
              dsimp only at w'
              revert w'
              cases ev B F se e2 with
              | stuck => exact fun z => z.elim
              | exc c fs e3 => exact fun z => z.elim
              | ok x e3 =>
                cases x with
                | pl _ => exact fun z => z.elim
                | fr _ => exact fun z => z.elim
                | sh y =>
                  intro w' H4 O4 S4 u4 st4 v hv
                  obtain ⟨I4, kp⟩ := I.next S1 ow' gs S2b off el sl S4 (u3.trans u4) (Step.trans S2b u3 st3 st4)
                  obtain ⟨acc, a1, a2⟩ := I4.ls
                  dsimp only at w'
                  have al : ad.length = acc.length := a2.length
                  by_cases hz : ad.length < sizeLine
                  · rw [if_pos hz] at w'
                    exact ⟨acc, a1, by rw [← al]; exact hz, hl, _, O4, ad ++ [y], I4.push a1 hv, w'⟩
                  · rw [if_neg hz] at w'
                    exact w'.elim
      · refine .inl ⟨f1 (by omega), ?_⟩
        rw [List.drop_eq_nil_of_le (by omega)] at w'
        obtain ⟨Sf, nw⟩ := I.fin
        exact w' _ _ Sf I.sub I.st _ _ _ rfl nw
theorem n_comp {k : ItK} {t : Tgt} {elt tg iter : Expr} {ifs : List Expr} {scope : Scope} {own : List (Str × Nat)} {se : E} {sifs : List E}
    (hc : X.calm = true) (hN : X.N.Nodup) (hi : PI X tg iter (SI T W B F k ss)) (ok : BlkOk X.N X.env.scope scope own) (ht : ∀ i ∈ tgIx t, i ∈ own.map (·.2))
    (hg : ∀ (s : Shared) (H : Hp) (C : Addr) (cl : List (Str × Addr)) (fp : List Addr), PG (X.blk s H scope (compEnvC scope cl C X.env) fp) tg (SG T t))
    (hf : ∀ (s : Shared) (H : Hp) (C : Addr) (cl : List (Str × Addr)) (fp : List Addr), PTs (X.blk s H scope (compEnvC scope cl C X.env) fp) ifs (STs T W0 B F sifs))
    (he : ∀ (s : Shared) (H : Hp) (C : Addr) (cl : List (Str × Addr)) (fp : List Addr), PE (X.blk s H scope (compEnvC scope cl C X.env) fp) elt (SE T W0 B F se))
    (hs : ∀ x, foldedSetIterable iter X.env x = pure x := by intro _; rfl) :
    PE X (.ListComp elt [⟨tg, iter, ifs, 0⟩] scope pos) (SN T W B F (.comp k ss t (own.map (·.2)) sifs se)) := (pe_lc hc hN hi ok hg hf he hs).imp fun σ H Q h => comp_rd ht h
/-- name = [..], one's own -/
theorem s_ownC {i : Nat} {y : Str} {py spos : Pos} {k : ItK} {t : Tgt} {elt tg iter : Expr} {ifs : List Expr} {scope : Scope} {own : List (Str × Nat)} {se : E} {sifs : List E} {wf : Nat}
    (hc : X.calm = true) (hN : X.N.Nodup) (hy : X.N[i]? = some y) (hyl : X.env.scope.names.lookup y = some .local) (hsw : swapsWith (.ListComp elt [⟨tg, iter, ifs, 0⟩] scope pos) (some (.Name y py)) spos.line X.env = pure true)
    (hi : PI X tg iter (SI T W B F k ss)) (ok : BlkOk X.N X.env.scope scope own) (ht : ∀ i ∈ tgIx t, i ∈ own.map (·.2))
    (hg : ∀ (s : Shared) (H : Hp) (C : Addr) (cl : List (Str × Addr)) (fp : List Addr), PG (X.blk s H scope (compEnvC scope cl C X.env) fp) tg (SG T t))
    (hf : ∀ (s : Shared) (H : Hp) (C : Addr) (cl : List (Str × Addr)) (fp : List Addr), PTs (X.blk s H scope (compEnvC scope cl C X.env) fp) ifs (STs T W0 B F sifs))
    (he : ∀ (s : Shared) (H : Hp) (C : Addr) (cl : List (Str × Addr)) (fp : List Addr), PE (X.blk s H scope (compEnvC scope cl C X.env) fp) elt (SE T W0 B F se))
    (hs : ∀ x, foldedSetIterable iter X.env x = pure x := by intro _; rfl) :
    PS X (.Assign [.Name y py] (.ListComp elt [⟨tg, iter, ifs, 0⟩] scope pos) spos) (SS T W B F wf (.own i (.comp k ss t (own.map (·.2)) sifs se))) := (ps_setLc hc hN hy hyl hsw hi ok hg hf he hs).imp fun D σ H h => by
  obtain ⟨ε, O, S, h⟩ := h
  rw [evS] at h
  exact comp_rd ht ⟨ε, O, S, (h.bind S).mono fun x ε1 H1 O1 S1 u1 st1 h1 d p H2 hx n => own_end h1 S1 hx n⟩
/-- name = [..], anyone's -/
theorem s_setC {i : Nat} {y : Str} {py spos : Pos} {k : ItK} {t : Tgt} {elt tg iter : Expr} {ifs : List Expr} {scope : Scope} {own : List (Str × Nat)} {se : E} {sifs : List E} {wf : Nat}
    (hc : X.calm = true) (hN : X.N.Nodup) (hy : X.N[i]? = some y) (hyl : X.env.scope.names.lookup y = some .local) (hsw : swapsWith (.ListComp elt [⟨tg, iter, ifs, 0⟩] scope pos) (some (.Name y py)) spos.line X.env = pure true)
    (hi : PI X tg iter (SI T W B F k ss)) (ok : BlkOk X.N X.env.scope scope own) (ht : ∀ i ∈ tgIx t, i ∈ own.map (·.2))
    (hg : ∀ (s : Shared) (H : Hp) (C : Addr) (cl : List (Str × Addr)) (fp : List Addr), PG (X.blk s H scope (compEnvC scope cl C X.env) fp) tg (SG T t))
    (hf : ∀ (s : Shared) (H : Hp) (C : Addr) (cl : List (Str × Addr)) (fp : List Addr), PTs (X.blk s H scope (compEnvC scope cl C X.env) fp) ifs (STs T W0 B F sifs))
    (he : ∀ (s : Shared) (H : Hp) (C : Addr) (cl : List (Str × Addr)) (fp : List Addr), PE (X.blk s H scope (compEnvC scope cl C X.env) fp) elt (SE T W0 B F se))
    (hs : ∀ x, foldedSetIterable iter X.env x = pure x := by intro _; rfl) :
    PS X (.Assign [.Name y py] (.ListComp elt [⟨tg, iter, ifs, 0⟩] scope pos) spos) (SS T W B F wf (.asg (.nm i) (.comp k ss t (own.map (·.2)) sifs se))) := (ps_setLc hc hN hy hyl hsw hi ok hg hf he hs).imp fun D σ H h => by
  obtain ⟨ε, O, S, h⟩ := h
  rw [evS] at h
  refine comp_rd ht ⟨ε, O, S, (h.bind S).mono fun x ε1 H1 O1 S1 u1 st1 h1 d p H2 hx n => ?_⟩
  subst hx
  dsimp only at h1
  unfold bindT at h1
  by_cases hl : i < ε1.length
  · simp only [hl, if_true] at h1
    exact h1 _ H2 O1 ((S1.grow n.same).bind (n.rv S1)) (res_grow n.same)
  · simp [hl] at h1
    exact h1.elim
end
end Ow

end
end

section
set_option Elab.async false
set_option linter.all false
set_option maxRecDepth 100000
noncomputable section
namespace Ow
open PySem PySem.Spec L2 PyProof.Rows

/-! ## a def by its body -/
/-- what was lent is still lent -/
def lnKept : List Slot → List Slot → Bool
  | [], _ => true
  | _ :: _, [] => false
  | .ln _ :: ss, .ln _ :: es => lnKept ss es
  | .ln _ :: _, _ :: _ => false
  | _ :: ss, _ :: es => lnKept ss es
def finC (ss : List Slot) (r : R Out) : CR := match r with
  | .ok .nx e => if lnKept ss e = true then .ok .non (e.take ss.length) else .stuck
  | .ok (.rt d) e => if lnKept ss e = true then .ok d (e.take ss.length) else .stuck
  | .ok (.rn d) e => if lnKept ss e = true then .new d (e.take ss.length) else .stuck
  | .exc c fs e => if lnKept ss e = true then .exc c fs (e.take ss.length) else .stuck
  | _ => .stuck
def runDef (B : Blt → List D → Option D) (F : Str → List Slot → CR) (wf : Nat) (nN : Nat) (body : List S) (ss : List Slot) : CR :=
  finC ss (evB B F wf body (ss ++ List.replicate (nN - ss.length) .un))

theorem lnKept_get : ∀ {ss es : List Slot}, lnKept ss es = true → ss.length ≤ es.length ∧ ∀ (i : Nat) (d : D), ss[i]? = some (.ln d) → ∃ d', es[i]? = some (.ln d')
  | [], es, _ => ⟨Nat.zero_le _, fun i d h => by simp at h⟩
  | s :: ss, [], h => by cases s <;> cases h
  | s :: ss, e :: es, h => by
    have go : ∀ (hs : lnKept ss es = true) (h0 : ∀ d, s = .ln d → ∃ d', e = .ln d'), (s :: ss).length ≤ (e :: es).length ∧ ∀ (i : Nat) (d : D), (s :: ss)[i]? = some (.ln d) → ∃ d', (e :: es)[i]? = some (.ln d') := fun hs h0 => by
      obtain ⟨l, k⟩ := lnKept_get hs
      refine ⟨by simpa using l, fun i d q => ?_⟩
      cases i with
      | zero =>
        have : s = .ln d := by simpa using q
        obtain ⟨d', e1⟩ := h0 d this
        exact ⟨d', by simp [e1]⟩
      | succ i => exact (by simpa using k i d (by simpa using q))
    cases s with
    | ln d0 =>
      cases e with
      | ln d1 => exact go h fun d _ => ⟨d1, rfl⟩
      | un => cases h
      | sh _ => cases h
      | ow _ => cases h
    | un => exact go (by cases e <;> exact h) fun d z => by cases z
    | sh _ => exact go (by cases e <;> exact h) fun d z => by cases z
    | ow _ => exact go (by cases e <;> exact h) fun d z => by cases z

section
variable {P : Program} {w : World} {K : Fr} {mg : Str → Option Value} {base : Heap} {B : Blt → List D → Option D} {F : Str → List Slot → CR} {wf : Nat}
def entOf (K : Fr) (H : Hp) (O : Addr → Prop) (ss : List Slot) (vs : List V) (N : List Str) : Ent := ⟨K, H, O, Lent ss vs, L2.start N vs⟩
theorem start_get {N : List Str} {vs : List V} {i : Nat} {v : V} (h : vs[i]? = some v) : (L2.start N vs)[i]? = some (some v) := by
  unfold L2.start
  have lt : i < vs.length := (List.getElem?_eq_some_iff.mp h).1
  rw [List.getElem?_append_left (by simpa using lt), List.getElem?_map, h]
  rfl
theorem entry {N : List Str} {H : Hp} {O : Addr → Prop} {ss : List Slot} {vs : List V} (c : CallPre K H O ss vs) : StR (entOf K H O ss vs N) (ss ++ List.replicate (N.length - ss.length) .un) (L2.start N vs) H O := by
  have get : ∀ {i : Nat} {s : Slot}, (ss ++ List.replicate (N.length - ss.length) Slot.un)[i]? = some s → s = .un ∨ ss[i]? = some s := fun {i s} h => by
    by_cases l : i < ss.length
    · rw [List.getElem?_append_left l] at h
      exact .inr h
    · rw [List.getElem?_append_right (by omega)] at h
      exact .inl (List.eq_of_mem_replicate (List.mem_of_getElem? h))
  have lnt : ∀ {i : Nat} {d : D}, ss[i]? = some (.ln d) → ∃ a, vs[i]? = some (.ref a) ∧ Lent ss vs a := fun {i d} h => by
    obtain ⟨a, h1, _⟩ := c.ln i d h
    exact ⟨a, h1, i, d, h, h1⟩
  refine ⟨?_, fun a h => h, fun a ⟨i, d, h1, h2⟩ => ?_, c.trk, c.trk, fun a h => .inl h, fun a o h _ => h, fun i s h => ?_, fun i j a s t hi hj hs ht g1 g2 => ?_, fun i d h => rfl⟩
  · unfold L2.start
    simp only [List.length_append, List.length_replicate, List.length_map, c.len]
  · obtain ⟨b, g1, g2, _⟩ := c.ln i d h1
    rw [h2] at g1
    cases g1
    exact g2
  · rcases get h with rfl | h
    · exact trivial
    · rcases c.kind i s h with ⟨d, rfl⟩ | ⟨d, rfl⟩
      · obtain ⟨v, h1, h2⟩ := c.sh i d h
        exact ⟨v, start_get h1, h2⟩
      · obtain ⟨a, h1, h2, h3⟩ := c.ln i d h
        exact ⟨a, start_get h1, ⟨i, d, h, h1⟩, h3⟩
  · rcases get hi with rfl | hi
    · cases hs
    · rcases get hj with rfl | hj
      · cases ht
      · rcases c.kind i s hi with ⟨d, rfl⟩ | ⟨d, rfl⟩
        · cases hs
        · rcases c.kind j t hj with ⟨d', rfl⟩ | ⟨d', rfl⟩
          · cases ht
          · obtain ⟨a1, h1, _⟩ := c.ln i d hi
            obtain ⟨a2, h2, _⟩ := c.ln j d' hj
            rw [start_get h1] at g1
            rw [start_get h2] at g2
            cases g1
            cases g2
            exact c.dist i j d d' a hi hj h1 h2
theorem exit {N : List Str} {H H' : Hp} {O O' : Addr → Prop} {ss e : List Slot} {vs : List V} {σ' : L2.St} (c : CallPre K H O ss vs) (S : StR (entOf K H O ss vs N) e σ' H' O') (l : lnKept ss e = true) : Kept H H' (Lent ss vs) ∧ Same (res H' O') (res H' O) ∧ FinR K H' O ss vs (e.take ss.length) := by
  have sm : Same (res H' O') (res H' O) := fun a o z => by
    obtain ⟨n, z⟩ := res_some.mp z
    exact res_some.mpr ⟨fun q => n (S.old a q), z⟩
  obtain ⟨l1, l2⟩ := lnKept_get l
  refine ⟨⟨S.frame, fun a h => ?_⟩, sm, by rw [List.length_take]; omega, fun i d h => ?_⟩
  · cases q : H a with
    | none => exact absurd q h
    | some o =>
      by_cases m : Lent ss vs a
      · exact S.trk a (S.old a (S.mm a m))
      · rw [S.frame a o q m]
        exact fun z => by cases z
  · obtain ⟨d', e1⟩ := l2 i d h
    have lt : i < ss.length := (List.getElem?_eq_some_iff.mp h).1
    obtain ⟨a, g1, g2, g3⟩ := S.slot i _ e1
    have g0 := S.lns i d' e1
    obtain ⟨a', h1, _⟩ := c.ln i d h
    rw [g1, show (entOf K H O ss vs N).s0[i]? = (L2.start N vs)[i]? from rfl, start_get h1] at g0
    cases g0
    exact ⟨d', a, by rw [List.getElem?_take_of_lt lt]; exact e1, h1, g3.sub sm⟩
/-- THE RULE for a def, whatever tells of it -/
theorem def_core {qual : Str} {sbody : List Stmt} {scope : Scope} {f : Addr} {fd : FuncData} {N ps : List Str} {k : Nat} {F' : Str → List Slot → CR} {body : List S}
    (mk : ∀ (sp : Sp), (∀ vs H Q E, sp vs H Q E → vs.length = ps.length) → (∀ (cdv : Value) (A : Around) (outer : List Env) (s : Shared) (H : Hp) (vs : List V) (Q : VK) (E : XK), A.guards = some [] → Room k (A.deeper (envOfC qual scope s.heap.objs.size f cdv)) → sp vs H Q E →
      ∃ t, PSs (cxOf (L2.CX P w) P w K mg base N qual scope f cdv A outer s H E) sbody t ∧ t { nx := fun _ H' => Q .non H', rt := Q } (L2.start N vs) H) → FnG P w K mg base (L2.CX P w) (k + 1) f fd ps sp)
    {y : Str} (hF : ∀ ss, F' y ss = .stuck ∨ F' y ss = runDef B F wf N.length body ss)
    (hb : ∀ (cdv : Value) (A : Around) (outer : List Env) (s : Shared) (H : Hp) (E : XK) (T : Ent), T.K = K → A.guards = some [] → Room k (A.deeper (envOfC qual scope s.heap.objs.size f cdv)) →
      PSs (cxOf (L2.CX P w) P w K mg base N qual scope f cdv A outer s H E) sbody (SB T (fun cls d _ H => E cls d H) B F wf body)) : FnG P w K mg base (L2.CX P w) (k + 1) f fd ps (SpF K F' ps.length y) := by
  refine mk _ (fun vs H Q E h => h.1) fun cdv A outer s H vs Q E g hr hsp => ?_
  obtain ⟨hl, O, ss, c, h⟩ := hsp
  refine ⟨_, hb cdv A outer s H E (entOf K H O ss vs N) rfl g hr, ss ++ List.replicate (N.length - ss.length) .un, O, entry c, ?_⟩
  rcases hF ss with z | z
  · rw [z] at h
    exact h.elim
  · rw [z] at h
    unfold runDef at h
    revert h
    cases evB B F wf body (ss ++ List.replicate (N.length - ss.length) .un) with
    | stuck => exact fun h => h
    | exc cn fs e =>
      intro h
      have h : match (if lnKept ss e = true then CR.exc cn fs (e.take ss.length) else .stuck) with
        | .ok d fin => ∀ v H', Kept H H' (Lent ss vs) → RV K (res H' O) d v → FinR K H' O ss vs fin → Q v H'
        | .new d fin => ∀ p Hx H', Kept H Hx (Lent ss vs) → FinR K Hx O ss vs fin → Hx p = none → Same Hx H' → CtR K H' (res Hx O) d p → Q (.ref p) H'
        | .exc c fs fin => ∀ dx H', Kept H H' (Lent ss vs) → ExR K (res H' O) H' fs dx → FinR K H' O ss vs fin → E (.ref (cA K c)) (some dx) H'
        | .stuck => False := h
      by_cases l : lnKept ss e = true
      · rw [if_pos l] at h
        intro dx σ' H' O' S' g ex
        obtain ⟨k1, k2, k3⟩ := exit c S' l
        obtain ⟨ws, x1, x2⟩ := ex
        exact h dx H' k1 ⟨ws, x1, fun p hp => by
          obtain ⟨v, v1, v2⟩ := x2 p hp
          exact ⟨v, v1, RV.same k2 v2⟩⟩ k3
      · rw [if_neg l] at h
        exact h.elim
    | ok o e =>
      cases o with
      | bk => exact fun h => h.elim
      | ct => exact fun h => h.elim
      | nx =>
        intro h
        have h : match (if lnKept ss e = true then CR.ok .non (e.take ss.length) else .stuck) with
          | .ok d fin => ∀ v H', Kept H H' (Lent ss vs) → RV K (res H' O) d v → FinR K H' O ss vs fin → Q v H'
          | .new d fin => ∀ p Hx H', Kept H Hx (Lent ss vs) → FinR K Hx O ss vs fin → Hx p = none → Same Hx H' → CtR K H' (res Hx O) d p → Q (.ref p) H'
          | .exc c fs fin => ∀ dx H', Kept H H' (Lent ss vs) → ExR K (res H' O) H' fs dx → FinR K H' O ss vs fin → E (.ref (cA K c)) (some dx) H'
          | .stuck => False := h
        by_cases l : lnKept ss e = true
        · rw [if_pos l] at h
          intro σ' H' O' S' g
          obtain ⟨k1, k2, k3⟩ := exit c S' l
          exact h .non H' k1 rfl k3
        · rw [if_neg l] at h
          exact h.elim
      | rt d =>
        intro h
        have h : match (if lnKept ss e = true then CR.ok d (e.take ss.length) else .stuck) with
          | .ok d fin => ∀ v H', Kept H H' (Lent ss vs) → RV K (res H' O) d v → FinR K H' O ss vs fin → Q v H'
          | .new d fin => ∀ p Hx H', Kept H Hx (Lent ss vs) → FinR K Hx O ss vs fin → Hx p = none → Same Hx H' → CtR K H' (res Hx O) d p → Q (.ref p) H'
          | .exc c fs fin => ∀ dx H', Kept H H' (Lent ss vs) → ExR K (res H' O) H' fs dx → FinR K H' O ss vs fin → E (.ref (cA K c)) (some dx) H'
          | .stuck => False := h
        by_cases l : lnKept ss e = true
        · rw [if_pos l] at h
          intro v σ' H' O' S' g rv
          obtain ⟨k1, k2, k3⟩ := exit c S' l
          exact h v H' k1 (RV.same k2 rv) k3
        · rw [if_neg l] at h
          exact h.elim
      | rn d =>
        intro h
        have h : match (if lnKept ss e = true then CR.new d (e.take ss.length) else .stuck) with
          | .ok d fin => ∀ v H', Kept H H' (Lent ss vs) → RV K (res H' O) d v → FinR K H' O ss vs fin → Q v H'
          | .new d fin => ∀ p Hx H', Kept H Hx (Lent ss vs) → FinR K Hx O ss vs fin → Hx p = none → Same Hx H' → CtR K H' (res Hx O) d p → Q (.ref p) H'
          | .exc c fs fin => ∀ dx H', Kept H H' (Lent ss vs) → ExR K (res H' O) H' fs dx → FinR K H' O ss vs fin → E (.ref (cA K c)) (some dx) H'
          | .stuck => False := h
        by_cases l : lnKept ss e = true
        · rw [if_pos l] at h
          intro p σ' Hx H' O' S' g n
          obtain ⟨k1, k2, k3⟩ := exit c S' l
          exact h p Hx H' k1 k3 n.nh n.same (n.ct.sub k2)
        · rw [if_neg l] at h
          exact h.elim
end
end Ow

end
end

section
set_option Elab.async false
set_option linter.all false
set_option maxRecDepth 100000
noncomputable section
namespace Ow
open PySem PySem.Spec L2

/-! ## objects are made -/
section
variable {X : Cx} {T : Ent} {W : WX} {B : Blt → List D → Option D} {F : Str → List Slot → CR} {wf : Nat} {a b c e : Expr} {es : List Expr} {sa sb sc : E} {ss : List E} {pos : Pos} {K : Fr}
variable {ε ε' : List Slot} {σ σ' : L2.St} {H H' Hs : Hp} {O O' : Addr → Prop} {D : Ends}
/-- what no slot owns is let go -/
theorem StR.letFree {p : Addr} (S : StR T ε σ H O) (h0 : T.H0 p = none) (no : ¬ Own ε σ p) : StR T ε σ H (rem O p) ∧ Same (res H O) (res H (rem O p)) := by
  have up : Same (res H O) (res H (rem O p)) := fun a o z => by
    obtain ⟨n, z⟩ := res_some.mp z
    exact res_some.mpr ⟨fun w => n w.1, z⟩
  refine ⟨⟨S.len, fun a h => ⟨S.old a h, fun w => ?_⟩, S.mm, S.trk0, fun a h => S.trk a h.1, fun a h => S.new a h.1, S.frame, fun j s ej => ?_, S.dist, S.lns⟩, up⟩
  · subst w
    exact absurd h0 (S.trk0 _ h)
  · have q := S.slot j s ej
    cases s with
    | un => exact trivial
    | sh d => obtain ⟨v, g1, g2⟩ := q; exact ⟨v, g1, RV.same up g2⟩
    | ow d =>
      obtain ⟨b, g1, g2, g3, g4⟩ := q
      exact ⟨b, g1, ⟨g2, Own.ne no ej rfl g1⟩, g3, CtR.same up (fun _ z => z) g4⟩
    | ln d =>
      obtain ⟨b, g1, g2, g4⟩ := q
      exact ⟨b, g1, g2, CtR.same up (fun _ z => z) g4⟩
theorem argsOk_tail {x : EV} {xs : List EV} (h : argsOk (x :: xs) = true) : argsOk xs = true := by
  obtain ⟨h1, h2⟩ := argsOk_iff h
  unfold argsOk
  have a1 : (xs.filterMap plOf).Nodup := by
    cases x with
    | pl l => exact (List.nodup_cons.mp (show (l :: xs.filterMap plOf).Nodup from h1)).2
    | sh _ => exact h1
    | fr _ => exact h1
  have a2 : (xs.filter isFr).length ≤ 1 := by
    cases x with
    | fr d0 =>
      have h2' : (xs.filter isFr).length + 1 ≤ 1 := h2
      omega
    | sh _ => exact h2
    | pl _ => exact h2
  simp [a1, a2]
/-- C(a, ..): the new object is lent to its __init__, then it is anyone's -/
theorem m_make {k : Nat} {f : Addr} {fd : FuncData} {ps : List Str} {x y : Str} {p : Pos} (M : Mk X.K (cA T.K x) f) (Fk : FnG X.prog X.w X.K X.mg X.base (L2.CX X.prog X.w) k f fd ps (SpF T.K F ps.length y)) (g : X.A.guards = some []) (hr : Room (k + 1) X.A) (hg : Gl X x) (hm : X.mg x = some (.ref (cA T.K x)))
    (hb : Binds X.K fd ps []) (tk : Takes X W) (har : ∀ ss, F y ss ≠ .stuck → ss.length = ps.length) (ha : PA X (e :: es) (SA T W B F ss)) (hdb : (x == ("__debug__" : Str)) = false := by decide)
    (he : starEach (e :: es) X.env = (false, eval e X.env) :: starEach es X.env := by rfl) (hpl : (backTo pos (starEach es X.env)).any (·.1) = false := by rfl) :
    PE X (.Call (.Name x p) (e :: es) [] pos) (SE T W B F (.make x y ss)) := by
  refine (pe_makeG (E := WE W) M Fk g hr hg hm hb (fun σ => passAt tk σ) ha hdb he hpl).imp fun σ H Q h => ?_
  obtain ⟨ε, O, S, h⟩ := h
  rw [ev] at h
  refine ⟨ε, O, S, ?_⟩
  revert h
  cases evs B F ss ε with
  | exc c fs ε1 => exact fun h => h
  | stuck => exact fun h => h
  | ok xs ε1 =>
    intro h H1 O1 S1 u1 st1 vs hvs q dx hq hdx hne
    have h : Wp T W ε σ H O (makeE F x y xs ε1) _ := h
    unfold makeE at h
    by_cases ok : argsOk (.fr (.obj x []) :: xs) = true
    · rw [if_pos ok] at h
      -- the heap with the new object
      have g2 : Same H1 (upd (upd H1 dx (.own q)) q (.ins (cA T.K x) dx [])) := fun b o z => by
        have n1 : b ≠ q := ne_of_none z hq
        have n2 : b ≠ dx := ne_of_none z hdx
        rw [upd_ne n1, upd_ne n2]
        exact z
      generalize hH2 : upd (upd H1 dx (.own q)) q (.ins (cA T.K x) dx []) = H2 at g2 ⊢
      have hq2 : H2 q = some (.ins (cA T.K x) dx []) := by rw [← hH2]; exact upd_same
      have S2 : StR T ε1 σ H2 (addO O1 q) := S1.add hq g2 (by rw [hq2]; exact fun z => by cases z)
      have st12 : Step ε1 σ H1 O1 H2 (addO O1 q) := Step.add hq g2
      have nq : ¬ Own ε1 σ q := S1.notOwn hq
      have ct : CtR T.K H2 (res H2 (addO O1 q)) (.obj x []) q := ⟨dx, [], hq2, rfl⟩
      have fr : EvR T ε1 σ H2 (addO O1 q) (.fr (.obj x [])) (.ref q) := ⟨q, rfl, .inr rfl, S1.fresh0 hq, ct, nq⟩
      have hvs2 : EvOk T ε1 σ H H2 (addO O1 q) xs vs := hvs.step S1 (Sub.refl _) st12 fun a z => z
      have hqH : H q = none := Classical.byContradiction fun z => st1.stay q z hq
      have hvs3 : EvOk T ε1 σ H H2 (addO O1 q) (.fr (.obj x []) :: xs) (.ref q :: vs) := ⟨_, vs, rfl, fun _ => fr, fun d a _ ea => by cases ea; exact hqH, hvs2⟩
      cases et : toSlots ε1 xs with
      | none => rw [et] at h; exact h.elim
      | some sl =>
        rw [et] at h
        dsimp only at h
        have et2 : toSlots ε1 (.fr (.obj x []) :: xs) = some (.ln (.obj x []) :: sl) := by
          unfold toSlots
          rw [et]
          rfl
        have pre := call_pre S2 ok hvs3 et2
        have hl : (V.ref q :: vs).length = ps.length := by
          rw [hvs3.len, ← toSlots_len et2]
          refine har _ fun z => ?_
          rw [z] at h
          exact h.elim
        refine ⟨hl, addO O1 q, _, pre, ?_⟩
        have st2 : Step ε σ H O H2 (addO O1 q) := st1.trans S u1 st12
        revert h
        cases F y (.ln (.obj x []) :: sl) with
        | stuck => exact fun h => h.elim
        | new d fin => exact fun h => h.elim
        | ok d fin =>
          intro h v H' kp rv fn
          cases d with
          | non =>
            cases fin with
            | nil => exact h.elim
            | cons f0 fin =>
              cases f0 with
              | un => exact h.elim
              | sh _ => exact h.elim
              | ow _ => exact h.elim
              | ln d0 =>
                cases d0 with
                | obj c' fs =>
                  dsimp only at h
                  by_cases ec : c' = x
                  · subst ec
                    rw [if_pos rfl] at h
                    refine ⟨rv, ?_⟩
                    obtain ⟨S', u', st'⟩ := call_post S S2 u1 st2 hvs3 et2 kp fn
                    have eg : giveBack (.fr (.obj c' []) :: xs) (.ln (.obj c' fs) :: fin) ε1 = giveBack xs fin ε1 := rfl
                    rw [eg] at S' u'
                    have n' : ¬ Own (giveBack xs fin ε1) σ q := fun z => by
                      obtain ⟨j, s, j1, j2, j3⟩ := z
                      obtain ⟨t, t1, t2⟩ := u' j s j1 j2
                      exact absurd hqH (S.trk q (S.ownO ⟨j, t, t1, t2, j3⟩))
                    obtain ⟨S'', up⟩ := S'.letFree (S1.fresh0 hq) n'
                    have ct' : CtR T.K H' (res H' (addO O1 q)) (.obj c' fs) q := by
                      obtain ⟨_, z⟩ := fn
                      obtain ⟨d', a', z1, z2, z3⟩ := z 0 (.obj c' []) (by simp)
                      have e1 : Ow.D.obj c' fs = d' := by simpa using z1
                      have e2 : q = a' := by simpa using z2
                      rw [e1, e2]
                      rw [← e2]
                      rw [← e2] at z3
                      exact z3
                    obtain ⟨dx', ws, w1, w2⟩ := ct'
                    refine h H' (rem (addO O1 q) q) S'' u' ⟨st'.keep, fun a z => st'.news a z.1, fun a z => ?_, st'.stay⟩ (.ref q) ⟨q, dx', ws, rfl, res_some.mpr ⟨fun z => z.2 rfl, w1⟩, RVf.same up w2⟩
                    rcases st'.lose a z with y | y
                    · by_cases ea : a = q
                      · subst ea
                        exact absurd (S.trk a z) (fun k => k hqH)
                      · exact .inl ⟨y, ea⟩
                    · exact .inr y
                  · rw [if_neg ec] at h
                    exact h.elim
                | _ => exact h.elim
          | _ => exact h.elim
        | exc c fs fin =>
          intro h dx' H' kp ex fn
          cases fin with
          | nil => exact h.elim
          | cons f0 fin =>
            obtain ⟨S', u', st'⟩ := call_post S S2 u1 st2 hvs3 et2 kp fn
            have eg : giveBack (.fr (.obj x []) :: xs) (f0 :: fin) ε1 = giveBack xs fin ε1 := rfl
            rw [eg] at S' u'
            exact h dx' H' _ S' u' st' ex
    · rw [if_neg ok] at h
      exact h.elim
end
end Ow

end
end

section
set_option Elab.async false
set_option linter.all false
set_option maxRecDepth 100000
noncomputable section
namespace Ow
open PySem PySem.Spec L2
section
variable {X : Cx} {T : Ent} {W : WX} {B : Blt → List D → Option D} {F : Str → List Slot → CR} {wf : Nat} {a b c e : Expr} {es : List Expr} {sa sb sc : E} {ss : List E} {pos : Pos} {K : Fr}
variable {ε ε' : List Slot} {σ σ' : L2.St} {H H' Hs : Hp} {O O' : Addr → Prop} {D : Ends}
/-! ### names in a row, at once -/
theorem par_rd {is : List Nat} {xs : List EV} {vs : List V} {ε1 : List Slot} {H1 : Hp} {O1 : Addr → Prop} (S1 : StR T ε1 σ H1 O1) (hvs : EvOk T ε1 σ H H1 O1 xs vs)
    (h1 : WpS T W D H1 O1 (match shs xs with
      | some ds => if is.length = ds.length ∧ is.all (fun i => decide (i < ε1.length)) = true then .ok .nx (setAll is ds ε1) else .stuck
      | none => .stuck)) : vs.length = is.length ∧ D.nx (setVs is vs σ) H1 := by
  cases e : shs xs with
  | none => rw [e] at h1; exact h1.elim
  | some ds =>
    rw [e] at h1
    dsimp only at h1
    have rv := shs_rv (K := T.K) e hvs
    by_cases hl : is.length = ds.length ∧ is.all (fun i => decide (i < ε1.length)) = true
    · rw [if_pos hl] at h1
      exact ⟨by rw [← rv.length]; exact hl.1.symm, h1 _ H1 O1 (S1.bindAll rv hl.1) fun _ _ z => z⟩
    · rw [if_neg hl] at h1
      exact h1.elim
theorem s_par2 {i j : Nat} {x y : Str} {px py pt : Pos} {kt k2 pt2} (hc : X.calm = true) (hN : X.N.Nodup) (hi : X.N[i]? = some x) (hj : X.N[j]? = some y) (hij : i ≠ j)
    (hx : X.env.scope.names.lookup x = some .local) (hy : X.env.scope.names.lookup y = some .local) (ha : PA X [a, b] (SA T W B F ss))
    (hw : swappedStores [.Tuple [.Name x px, .Name y py] kt pt] (.Tuple [a, b] k2 pt2) X.env = pure (some [x, y]))
    (hs : swapsWithSole [.Tuple [.Name x px, .Name y py] kt pt] (.Tuple [a, b] k2 pt2) pos.line X.env = pure false := by rfl) :
    PS X (.Assign [.Tuple [.Name x px, .Name y py] kt pt] (.Tuple [a, b] k2 pt2) pos) (SS T W B F wf (.par [i, j] ss)) := (ps_par hc hN hi hj hij hx hy ha hw hs).imp fun D σ H h => by
  obtain ⟨ε, O, S, h⟩ := h
  rw [evS] at h
  refine ⟨ε, O, S, (h.bind S).mono fun xs ε1 H1 O1 S1 u1 st1 h1 vs hvs => ?_⟩
  obtain ⟨l, k⟩ := par_rd S1 hvs h1
  match vs, l, k with
  | [v, w], _, k => exact ⟨v, w, rfl, k⟩
theorem s_par3 {i j l : Nat} {x y z : Str} {c : Expr} {px py pz pt : Pos} {kt k2 pt2} (hc : X.calm = true) (hN : X.N.Nodup) (hi : X.N[i]? = some x) (hj : X.N[j]? = some y) (hl : X.N[l]? = some z) (hij : i ≠ j) (hil : i ≠ l) (hjl : j ≠ l)
    (hx : X.env.scope.names.lookup x = some .local) (hy : X.env.scope.names.lookup y = some .local) (hz : X.env.scope.names.lookup z = some .local) (ha : PA X [a, b, c] (SA T W B F ss))
    (hw : swappedStores [.Tuple [.Name x px, .Name y py, .Name z pz] kt pt] (.Tuple [a, b, c] k2 pt2) X.env = pure (some [x, y, z]))
    (hs : swapsWithSole [.Tuple [.Name x px, .Name y py, .Name z pz] kt pt] (.Tuple [a, b, c] k2 pt2) pos.line X.env = pure false := by rfl) :
    PS X (.Assign [.Tuple [.Name x px, .Name y py, .Name z pz] kt pt] (.Tuple [a, b, c] k2 pt2) pos) (SS T W B F wf (.par [i, j, l] ss)) := (ps_par3 hc hN hi hj hl hij hil hjl hx hy hz ha hw hs).imp fun D σ H h => by
  obtain ⟨ε, O, S, h⟩ := h
  rw [evS] at h
  refine ⟨ε, O, S, (h.bind S).mono fun xs ε1 H1 O1 S1 u1 st1 h1 vs hvs => ?_⟩
  obtain ⟨l, k⟩ := par_rd S1 hvs h1
  match vs, l, k with
  | [v, w, q], _, k => exact ⟨v, w, q, rfl, k⟩
/-! ### x += e -/
theorem s_aug {i : Nat} {x : Str} {op : Operator} {pos' : Pos} (hop : op = .Add ∨ op = .Sub) (hN : X.N.Nodup) (hi : X.N[i]? = some x) (hx : Loc X.env.scope x) (ha : PE X a (SE T W B F sa))
    (hf : X.fn x = true ∨ X.env.scope.names.lookup x = some .local := by first | exact .inl rfl | exact .inr rfl | assumption) : PS X (.AugAssign (.Name x pos') op a pos) (SS T W B F wf (.aug i op sa)) := by
  have fin : ∀ {g : Int → Int → Int}, (∀ p q : Int, augD op p q = some (g p q)) → PIp X op (ipI g) → PS X (.AugAssign (.Name x pos') op a pos) (SS T W B F wf (.aug i op sa)) := fun {g} hg ho => (ps_aug hN hi hx ha ho hf).imp fun D σ H h => by
    obtain ⟨ε, O, S, h⟩ := h
    rw [evS] at h
    cases e1 : ε[i]? with
    | none => rw [e1] at h; exact h.elim
    | some s =>
      rw [e1] at h
      cases s with
      | un => exact h.elim
      | ow _ => exact h.elim
      | ln _ => exact h.elim
      | sh d =>
        cases d with
        | int p =>
          obtain ⟨v, q1, q2⟩ := S.slot i _ e1
          cases (show v = V.int p from q2)
          refine ⟨.int p, q1, ε, O, S, (h.bind S).mono fun x ε1 H1 O1 S1 u1 st1 h1 w hw => ?_⟩
          cases ec : cont ε1 x with
          | none => rw [ec] at h1; exact h1.elim
          | some d2 =>
            rw [ec] at h1
            cases e2 : ε1[i]? with
            | none => rw [e2] at h1; cases d2 <;> exact h1.elim
            | some s2 =>
              cases d2 with
              | int q =>
                rw [e2] at h1
                dsimp only at h1
                rw [hg p q] at h1
                have tw := hw.top S1 ec
                cases (show w = V.int q from tw)
                exact ⟨p, q, rfl, rfl, h1 _ H1 O1 (S1.bind rfl) fun _ _ z => z⟩
              | _ => rw [e2] at h1; exact h1.elim
        | _ => exact h.elim
  rcases hop with rfl | rfl
  · exact fin (g := fun i j => i + j) (fun p q => rfl) ip_add
  · exact fin (g := fun i j => i - j) (fun p q => rfl) ip_sub
end
end Ow

end
end

section
set_option Elab.async false
set_option linter.all false
set_option maxRecDepth 100000
noncomputable section
/-! ## exception objects as values -/
namespace Ow
open PySem PySem.Spec PySem.W PySem.Calls PyProof.Rows
section
variable {prog : Program} {w : World} {A : Around} {E : Value → Shared → Prop} {s : Shared} {K : PySem.W.Frag} {x D : Addr} {ox : Obj} {od : Option Obj}
/-- x.__class__, asked by isinstance, of an exception object with or without a dict -/
theorem exc_class {Q : Option Value → Shared → Prop} (C : L2.ExcC K D) (hf : findObj K D od "__class__" = some (.bind (.builtin "getset_descriptor.__get__") (.builtin "object.__class__"))) (X : K.In s.heap) (I : InstAt s.heap x ox D od)
    (h : Q (some (.ref D)) { s with toks := s.toks + 1 }) : wpAny (model prog w) A (getAttr? (.ref x) "__class__") Q E s := by
  obtain ⟨hp, g, d, t, os⟩ := s
  have ty := I.type (M := model prog w)
  have own : Looks (model prog w) hp (isInstance (.ref x) (.type "BaseException")) true := ty.andThen (looks_subIn X C.hs)
  have off : (Value.builtin "BaseException.__getattribute__" == Value.builtin "object.__getattribute__") = false := by decide +kernel
  unfold getAttr? getAttrBy? getAttrBy
  refine wpAny_bind (wpAny_mkText (wpAny_bind (wpAny_attempt (wpAny_holding (wpAny_bind (ty.at (wpAny_bind ((looks_findIn (M := model prog w) X C.hg).at ?_))))))))
  show wpAny _ _ (if (onTheHeap (Value.ref D) && Value.builtin "BaseException.__getattribute__" == Value.builtin "object.__getattribute__") = true then _ else _) _ _ _
  rw [if_neg (by rw [off]; exact Bool.false_ne_true)]
  unfold getAttrByItsOwn hookBefore
  refine wpAny_bind ?_
  rw [if_pos (show onTheHeap (Value.ref D) = true from rfl)]
  refine (looks_findIn (M := model prog w) X C.hk).at (wpAny_bind (wpAny_attempt (wpAny_holding ?_)))
  unfold callGetattribute
  rw [if_neg (show ¬ (false && onTheHeap (Value.builtin "BaseException.__getattribute__")) = true from Bool.false_ne_true)]
  unfold boundAndCalled
  rw [PySem.F.excAttr_ValueError.ga.bind (.ref x)]
  refine wpAny_bind (wpAny_pure ?_)
  show wpAny _ _ (call (.builtin "BaseException.__getattribute__") [.ref x, .str "__class__" t]) _ _ _
  refine wpAny_call (codeAny_call_builtin PySem.F.excAttr_ValueError.ga.plain PySem.F.entry_bexc_ga (@check_slot (model prog w) _ _ ⟨hp, g, d, t + 1, os⟩ "BaseException.__getattribute__" "BaseException" "__getattribute__" (.ref x) [.str "__class__" t] [] _ (by decide +kernel) (by decide +kernel) own (PySem.F.args_bexc_ga (.ref x) (.str "__class__" t)) ?_))
  unfold Builtin.«object.__getattribute__»
  refine wpAny_bind (wpAny_of_eq (a := ((Value.ref x : Value), [Value.str "__class__" t])) (by first | rfl | (simp only [slotArgs]; rfl)) ?_)
  refine wpAny_bind (wpAny_pure (wpAny_bind (ty.at (wpAny_bind ((looks_find (M := model prog w) X I hf).at ?_)))))
  show wpAny _ _ (holding [Value.builtin "object.__class__"] (call (.builtin "getset_descriptor.__get__") [.builtin "object.__class__", .ref x, .ref D]) >>= ret) _ _ _
  refine wpAny_bind (wpAny_holding (wpAny_call (class_get (s := ⟨hp, g, d, t + 1, os⟩) (ox := ox) (od := od) X I C.hm (wpAny_pure ?_))))
  show wpAny _ _ (handedOut (.ref D)) _ _ _
  rw [handedOut_of (v := .ref D) rfl]
  first
    | exact wpAny_pure (wpAny_pure h)
    | exact wpAny_pure h
    | exact wpAny_pure (wpAny_bind (wpAny_pure (wpAny_pure h)))
/-- what isinstance asks of it -/
theorem kit_exc (C : L2.ExcC K D) (hf : findObj K D od "__class__" = some (.bind (.builtin "getset_descriptor.__get__") (.builtin "object.__class__"))) : KitX K (.ref x) (.ref D) (fun h => InstAt h x ox D od) := by
  obtain ⟨cd, hc, _⟩ := any_some C.hd
  have obj : ∃ o, K.lookup D = some o ∧ ∃ c, o.data = .cls c := by
    unfold clsIn at hc
    split at hc
    · rename_i _ _ c _ ho
      exact ⟨_, ho, c, rfl⟩
    · cases hc
  obtain ⟨o, ho, c, hd⟩ := obj
  refine ⟨fun _ _ _ I => I.type, fun M h X _ A' Q' E' s' k q => ?_, fun h tp dd its n sl X htp => Bool.eq_false_iff.mpr fun q => ?_, fun X I q => exc_class C hf X I q⟩
  · unfold isType loadHead
    obtain ⟨oc, od', dt, sl⟩ := o
    cases hd
    exact wpAny_bind (wpAny_loadPart (k _ _ (X _ _ ho)) (wpAny_pure q))
  · obtain rfl : D = tp := Value.ref.inj (beq_iff_eq.mp q)
    have z := (X _ _ ho).symm.trans htp
    cases z
    cases hd
end
end Ow

end
end

section
set_option Elab.async false
set_option linter.all false
set_option maxRecDepth 100000
noncomputable section
namespace Ow
open PySem PySem.Spec L2 PyProof.Rows
section
variable {X : Cx} {CX : CXT} {k : Nat} {f C : Addr} {fd : FuncData} {ps : List Str} {sp : Sp} {x : Str} {p pos : Pos} {e : Expr} {es : List Expr} {t : TA}
/-- C(e, ..), an exception class of the text's own with an __init__, the object kept as a value -/
def tErr (C : Addr) (sp : Sp) (t : TA) : TE := fun σ H Q => t σ H fun vs H1 => vs.length ≤ 1000 ∧ ∀ a, H1 a = none → sp (.ref a :: vs) (upd H1 a (exo a C none)) (fun v H2 => v = .non ∧ Q (.ref a) H2) fun _ _ _ => False
theorem pe_errG {fI : Addr} (T : OexC X.K C) (iC : PySem.W.findIn X.K (.ref C) "__init__" = some (some (.ref fI))) (tI : PySem.W.typeIn X.K (.ref fI) = some (.type "function")) (F : FnG X.prog X.w X.K X.mg X.base (L2.CX X.prog X.w) k fI fd ps sp) (g : X.A.guards = some []) (hr : Room (k + 1) X.A)
    (hb : Binds X.K fd ps []) (hg : Gl X x) (hm : X.mg x = some (.ref C)) (ha : PA X (e :: es) t) (hdb : (x == ("__debug__" : Str)) = false := by decide)
    (he : starEach (e :: es) X.env = (false, eval e X.env) :: starEach es X.env := by rfl) (hpl : (backTo pos (starEach es X.env)).any (·.1) = false := by rfl) : PE X (.Call (.Name x p) (e :: es) [] pos) (tErr C sp t) := by
  refine ⟨fun pins s σ H Q I h => wpAny_Call_Name_kw (ld_glob I hg hm (PySem.W.callWith_K (h₀ := X.base) I.ok.mod.kin T.kC (thn (ha.run pos pins s σ H _ I h) fun us s1 ⟨vs, H1, I1, r1, hz, q1⟩ => ⟨I1.kIn, ?_⟩) he hpl) hdb)⟩
  obtain ⟨nm, q, N, bs, bm, sn, sub, ab, col, dd, k0, k1, k2, k3, k5, hC, hbm⟩ := T.cls
  show wpAny _ _ (call (.ref C) us) _ _ _
  obtain ⟨hp, gs, dr, tk, os⟩ := s1
  have up : hp.objs.size ≤ hp.objs.size + 1 := Nat.le_succ _
  have want := q1 (hp.objs.size + 1) (I1.hok.fresh up)
  have made : ((hp.push (PySem.W.kdv_tup us)).push (PySem.HandSPX.excO C hp.objs.size)).get? (hp.objs.size + 1) = some (PySem.HandSPX.excO C hp.objs.size) := by heap_get
  have I2 : Inv X pins σ (upd H1 (hp.objs.size + 1) (exo (hp.objs.size + 1) C none)) ⟨(hp.push (PySem.W.kdv_tup us)).push (PySem.HandSPX.excO C hp.objs.size), gs, dr, tk, os⟩ :=
    I1.laid (t' := tk) (a := hp.objs.size + 1) (fun b o z => Heap.get?_push_of_some _ (Heap.get?_push_of_some _ z)) up (exo_ok made)
  have rel : Vals (V.ref (hp.objs.size + 1) :: vs) (Value.ref (hp.objs.size + 1) :: us) := .cons rfl r1
  have b := hb ⟨(hp.push (PySem.W.kdv_tup us)).push (PySem.HandSPX.excO C hp.objs.size), gs, dr, tk, os⟩ (Value.ref (hp.objs.size + 1) :: us) I2.kIn (by rw [List.append_nil, ← rel.length]; exact F.len _ _ _ _ want)
  rw [List.append_nil] at b
  refine wpAny_call (PySem.HandSPX.call_own PySem.F.excBase_ValueError (fun Y => PySem.HandSPX.refsVE_contains Y bm hbm) (I1.kIn _ _ hC) (PySem.W.looks_findIn I1.kIn iC) (fun self => PySem.W.bind_fn I1.kIn self tI) (by rw [← Paired.length r1, sizeLine_eq]; omega)
    (codeAny_mono (F.go _ X.stack _ _ _ _ _ _ (fun _ _ _ => False) (guards_make g) (hr.make C us []) (I2.env0.make C us []) b rel want) fun r s' hq => ?_))
  have z := behind I2 (fun e c => passL (X := X) pins _ _ _ e s' I2 c) hq
  clear hq
  match r, z with
  | .error e, z => exact z
  | .ok (.ret u), ⟨v, H', I3, rv, ev, q3⟩ =>
    subst ev
    exact ⟨rv, ⟨V.ref (hp.objs.size + 1), H', I3, rfl, q3⟩⟩
/-- C(), without an __init__ -/
theorem pe_err0 {bmB : List Value} {B newId initId : String} (F : ExcBaseFacts B newId initId bmB) (q : PySem.W.excIn X.K C bmB newId = true) (hm : X.mg x = some (.ref C)) (kC : PySem.W.keepIn X.K (.ref C) = true) (hg : Gl X x)
    (hdb : (x == ("__debug__" : Str)) = false := by decide) : PE X (.Call (.Name x p) [] [] pos) (fun _ H Q => ∀ a, H a = none → Q (.ref a) (upd H a (exo a C none))) := by
  refine ⟨fun pins s σ H Q I h => wpAny_Call_Name_kw (ld_glob I hg hm (PySem.W.callWith_K0 I.kIn kC ?_) hdb)⟩
  show wpAny _ _ (call (.ref C) []) _ _ _
  obtain ⟨bm, N, nm, qn, bs, hdct, sn, sub, ab, col, dd, k0, k1, k2, k3, k5, mN, hC, hN, hni, T⟩ := exc_obj I.kIn q
  refine wpAny_call_exc_subT F T hC hN hni (fun h' a made => ?_) (Nat.zero_le _)
  have free : H a = none := I.hok.gone made.new
  obtain ⟨t, ht, _, _⟩ := made.there
  exact ⟨.ref a, upd H a (exo a C none), I.laidN made.keeps made.new free (exo_ok ht), rfl, h a free⟩
/-- x.f of an exception object -/
theorem pe_errF {n : Str} {te : TE} (hb : attributeBase e n X.env (eval e X.env) = eval e X.env) (he : PE X e te) :
    PE X (.Attribute e n pos) (fun σ H Q => te σ H fun x H1 => ∃ a C dx us v, x = .ref a ∧ XfC X.K C ∧ PySem.W.findIn X.K (.ref C) n = some none ∧ H1 a = some (exo a C (some dx)) ∧ H1 dx = some (exd dx us) ∧ us.lookup n = some v ∧ Q v H1) := by
  refine ⟨fun pins s σ H Q I h => attr_of hb (thn (he.run pins s σ H _ I h) fun u s1 hh => ?_)⟩
  obtain ⟨x, H1, I1, rx, a, C, dx, us, v, rfl, T, no, ha, hd, l, q⟩ := hh
  cases (show u = Value.ref a from rx)
  obtain ⟨t1, ho⟩ := exo_at I1.hok ha
  obtain ⟨mA, hns, rel⟩ := exd_at I1.hok hd
  obtain ⟨od, hod, hl⟩ := lookIn_ns hns
  obtain ⟨w, hw, rw'⟩ := RelO.some_of (v := v) (o := mA n) (by rw [← l]; exact rel n)
  exact PySem.HandSPX.exc_get I1.kIn (od := some od) ⟨ho, rfl, rfl, hod⟩ T.ga T.gg T.exC (PySem.W.findObj_own T.hdC no rfl (by rw [hl, hw])) (handed_of rw') ⟨v, H1, I1.tok _, rw', q⟩
/-- isinstance(x, c) of an exception object -/
theorem call_isiG : CallR X (.builtin "isinstance") (fun xs H Q => ∃ a C od c u b, xs = [.ref a, c] ∧ H a = some (exo a C od) ∧ (∀ dx, od = some dx → ∃ us, H dx = some (exd dx us)) ∧ ExcC X.K C ∧ ClsV c u ∧ PySem.W.kitOne X.K (.ref C) u = some b ∧ Q (.bl b) H) := by
  intro pins s σ H xs us Q I r h
  obtain ⟨a, C, od, c, u, b, rfl, ha, hd, T, k, e, q⟩ := h
  obtain ⟨u1, u2, rfl, r1, r2⟩ := vals2 r
  cases (show u1 = Value.ref a from r1)
  cases k.eq r2
  obtain ⟨t1, ho⟩ := exo_at I.hok ha
  have has : (PySem.W.clsIn X.K C).isSome = true := by
    obtain ⟨cd, hc, _⟩ := PySem.W.any_some T.hd
    rw [hc]
    rfl
  cases od with
  | none => exact PySem.W.kia_one (kit_exc (od := none) T (PySem.W.findObj_dataN has T.ha T.hn T.ht)) I.kIn ⟨ho, rfl, rfl, trivial⟩ e (fun z => nomatch z) fun tk => ⟨.bl b, H, I.tok tk, rfl, q⟩
  | some dx =>
    obtain ⟨ws, hx⟩ := hd dx rfl
    obtain ⟨mA, hns, _⟩ := exd_at I.hok hx
    obtain ⟨od, hod, _⟩ := lookIn_ns hns
    exact PySem.W.kia_one (kit_exc (od := some od) T (PySem.W.findObj_data has T.ha T.hn T.ht)) I.kIn ⟨ho, rfl, rfl, hod⟩ e (fun z => nomatch z) fun tk => ⟨.bl b, H, I.tok tk, rfl, q⟩
end
end Ow

end
end

section
set_option Elab.async false
set_option linter.all false
set_option maxRecDepth 100000
noncomputable section
namespace Ow
open PySem PySem.Spec L2
section
variable {X : Cx} {T : Ent} {W : WX} {B : Blt → List D → Option D} {F : Str → List Slot → CR} {wf : Nat} {a b c e : Expr} {es : List Expr} {sa sb sc : E} {ss : List E} {pos : Pos} {K : Fr}
variable {ε ε' : List Slot} {σ σ' : L2.St} {H H' Hs : Hp} {O O' : Addr → Prop} {D : Ends}

/-- the promise of an exception's __init__ that keeps its arguments -/
def spErr (C : Addr) (fs : List Str) : Sp := fun vs H Q _ => ∃ a ws, vs = .ref a :: ws ∧ ws.length = fs.length ∧ H a = some (exo a C none) ∧
  ∀ H' dx us, H dx = none → dx ≠ a → H' a = some (exo a C (some dx)) → H' dx = some (exd dx us) → (∀ f, us.lookup f = (fs.zip ws).lookup f) → (∀ b, b ≠ a → b ≠ dx → H' b = H b) → Q .non H'
theorem RVf.zip {Hs : Hp} : ∀ {fs : List Str} {ds : List Ow.D} {vs : List V}, RVs K Hs ds vs → RVf K Hs (fs.zip ds) (fs.zip vs)
  | [], _, _, _ => rfl
  | _ :: _, [], vs, h => by rw [show vs = [] from h]; rfl
  | f :: fs, d :: ds, vs, h => by
    obtain ⟨v, r, rfl, h1, h2⟩ := h
    exact ⟨v, fs.zip r, rfl, h1, RVf.zip h2⟩
theorem m_err {k : Nat} {f : Addr} {fd : FuncData} {ps fs : List Str} {x : Str} {p : Pos} (Tc : OexC X.K (cA T.K x)) (iC : PySem.W.findIn X.K (.ref (cA T.K x)) "__init__" = some (some (.ref f))) (tI : PySem.W.typeIn X.K (.ref f) = some (.type "function"))
    (Fi : FnG X.prog X.w X.K X.mg X.base (L2.CX X.prog X.w) k f fd ps (spErr (cA T.K x) fs)) (hfs : fs.length ≤ 1000) (g : X.A.guards = some []) (hr : Room (k + 1) X.A) (hb : Binds X.K fd ps []) (hg : Gl X x) (hm : X.mg x = some (.ref (cA T.K x))) (ha : PA X (e :: es) (SA T W B F ss))
    (hdb : (x == ("__debug__" : Str)) = false := by decide) (he : starEach (e :: es) X.env = (false, eval e X.env) :: starEach es X.env := by rfl) (hpl : (backTo pos (starEach es X.env)).any (·.1) = false := by rfl) :
    PE X (.Call (.Name x p) (e :: es) [] pos) (SE T W B F (.err x fs ss)) := (pe_errG Tc iC tI Fi g hr hb hg hm ha hdb he hpl).imp fun σ H Q h => by
  obtain ⟨ε, O, S, h⟩ := h
  rw [ev] at h
  refine ⟨ε, O, S, (h.bind S).mono fun xs ε1 H1 O1 S1 u1 st1 h1 vs hvs => ?_⟩
  cases eq : shs xs with
  | none => rw [eq] at h1; exact h1.elim
  | some ds =>
    rw [eq] at h1
    dsimp only at h1
    by_cases hl : ds.length = fs.length
    · rw [if_pos hl] at h1
      have rv := shs_rv (K := T.K) eq hvs
      have lv : vs.length = fs.length := by rw [← rv.length]; exact hl
      refine ⟨by rw [lv]; exact hfs, fun q hq => ⟨q, vs, rfl, lv, upd_same, fun H2 dx us hdx hne h2 h3 h4 h5 => ⟨rfl, ?_⟩⟩⟩
      have hdx1 : H1 dx = none := by rw [upd_ne hne] at hdx; exact hdx
      have same : Same H1 H2 := fun b o z => by
        have n1 : b ≠ q := ne_of_none z hq
        have n2 : b ≠ dx := ne_of_none z hdx1
        rw [h5 b n1 n2, upd_ne n1]
        exact z
      have r2 : Same (res H1 O1) (res H2 O1) := res_grow same
      refine done_wp S1 h1 _ _ same ⟨q, fs.zip vs, rfl, .inr ⟨dx, us, res_some.mpr ⟨S1.fresh hq, h2⟩, res_some.mpr ⟨S1.fresh hdx1, h3⟩, h4⟩, RVf.same r2 (RVf.zip rv)⟩
    · rw [if_neg hl] at h1
      exact h1.elim
theorem m_err0 {bmB : List Value} {Bn newId initId : String} {x : Str} {p : Pos} (Fb : ExcBaseFacts Bn newId initId bmB) (q : PySem.W.excIn X.K (cA T.K x) bmB newId = true) (hm : X.mg x = some (.ref (cA T.K x))) (kC : PySem.W.keepIn X.K (.ref (cA T.K x)) = true) (hg : Gl X x)
    (hdb : (x == ("__debug__" : Str)) = false := by decide) : PE X (.Call (.Name x p) [] [] pos) (SE T W B F (.err x [] [])) := (pe_err0 Fb q hm kC hg hdb).imp fun σ H Q h => by
  obtain ⟨ε, O, S, h⟩ := h
  have e1 : ev B F (.err x [] []) ε = .ok (.sh (.err x [])) ε := by
    rw [ev, evs]
    rfl
  rw [e1] at h
  intro a ha
  exact done_wp S h _ _ (same_upd ha) ⟨a, [], rfl, .inl ⟨rfl, res_upd (S.fresh ha)⟩, rfl⟩
theorem m_attE {f : Str} {cs : List Str} (hC : ∀ c ∈ cs, XfC X.K (cA T.K c) ∧ PySem.W.findIn X.K (.ref (cA T.K c)) f = some none) (ha : PE X a (SE T W B F sa)) (hb : attributeBase a f X.env (eval a X.env) = eval a X.env := by rfl) :
    PE X (.Attribute a f pos) (SE T W B F (.attE sa f cs)) := (pe_errF hb ha).imp fun σ H Q h => by
  obtain ⟨ε, O, S, h⟩ := h
  rw [ev] at h
  refine ⟨ε, O, S, (h.bind S).mono fun x ε1 H1 O1 S1 u1 st1 h1 v hv => ?_⟩
  obtain ⟨q, d, e1, e3, h3⟩ := out1_wp h1
  have tp := hv.top S1 e1
  cases q with
  | err c fs =>
    have e3 : (if c ∈ cs then fs.lookup f else none) = some d := e3
    by_cases hc : c ∈ cs
    · rw [if_pos hc] at e3
      obtain ⟨w1, w2⟩ := hC c hc
      obtain ⟨p, ws, rfl, at_, rf⟩ := tp
      obtain ⟨u, lu, ru⟩ := look_rv rf e3
      rcases at_ with ⟨rfl, _⟩ | ⟨dx, us, g1, g2, g3⟩
      · cases lu
      · exact ⟨p, _, dx, us, u, rfl, w1, w2, res_same _ _ g1, res_same _ _ g2, by rw [g3]; exact lu, done_wp S1 h3 _ _ (Same.refl _) ru⟩
    · rw [if_neg hc] at e3
      cases e3
  | _ => cases e3
/-- isinstance(a, c): c a class's name -/
theorem m_isiE {cs : List (Str × Bool)} {t : Str} {cv : V} {u : Value} {p : Pos} (hk : ClsV cv u) (hC : ∀ c k, cs.lookup c = some k → ExcC X.K (cA T.K c) ∧ PySem.W.kitOne X.K (.ref (cA T.K c)) u = some k) (ha : PE X a (SE T W B F sa)) (hc : PE X c (tC cv))
    (hg : Gl X "isinstance") (hm : X.mg "isinstance" = none) (hs : starEach [a, c] X.env = (false, eval a X.env) :: starEach [c] X.env := by rfl) (hs2 : starEach [c] X.env = (false, eval c X.env) :: starEach [] X.env := by rfl) (hpl : (backTo pos (starEach [c] X.env)).any (·.1) = false := by rfl) :
    PE X (.Call (.Name "isinstance" p) [a, c] [] pos) (SE T W B F (.isiE sa t cs)) := (pe_callB call_isiG hg hm (by decide +kernel) (pa_cons ha (pa_cons hc pa_nil hs2) hs) (by decide) (by decide) hs hpl).imp fun σ H Q h => by
  obtain ⟨ε, O, S, h⟩ := h
  rw [ev] at h
  refine ⟨ε, O, S, (h.bind S).mono fun x ε1 H1 O1 S1 u1 st1 h1 v hv => ?_⟩
  obtain ⟨q, d, e1, e3, h3⟩ := out1_wp h1
  have tp := hv.top S1 e1
  cases q with
  | err cn fs =>
    have e3 : (cs.lookup cn).map Ow.D.bl = some d := e3
    obtain ⟨k, e4, rfl⟩ := map_some' e3
    obtain ⟨w1, w2⟩ := hC cn k e4
    obtain ⟨p, ws, rfl, at_, rf⟩ := tp
    have fin : Q (.bl k) H1 := done_wp S1 h3 _ _ (Same.refl _) rfl
    rcases at_ with ⟨_, g1⟩ | ⟨dx, us, g1, g2, g3⟩
    · exact ⟨p, _, none, cv, u, k, rfl, res_same _ _ g1, fun dx z => (by cases z), w1, hk, w2, fin⟩
    · exact ⟨p, _, some dx, cv, u, k, rfl, res_same _ _ g1, fun dx' z => (by cases z; exact ⟨us, res_same _ _ g2⟩), w1, hk, w2, fin⟩
  | _ => cases e3
end
end Ow

end
end

section
set_option Elab.async false
set_option linter.all false
set_option maxRecDepth 100000
noncomputable section
namespace Ow
open PySem PySem.Spec L2
/-! ## built-ins -/
section
variable {X : Cx} {K : Fr}
def rRepr (K : Fr) : List V → Hp → VK → Prop := fun xs H Q => ∃ a p, xs = [.ref a] ∧ Dp K H (.ref a) p ∧ p.showable = true ∧ p.hasDict = false ∧ p.depth ≤ 60 ∧ p.shown.length ≤ sizeLine ∧ Q (.str p.shown) H
theorem call_repr (g : X.A.guards = some []) (hu : X.A.units + 64 < cLine) : CallR X (.builtin "repr") (rRepr X.K) := by
  intro pins s σ H xs us Q I r h
  obtain ⟨a, p, rfl, hd, h1, h2, h3, h4, q⟩ := h
  cases r with
  | cons ra rn =>
    cases rn
    cases ra
    obtain ⟨as, rd⟩ := Dp.reads I p (.ref a) (.ref a) hd rfl
    exact repr_of_reads' rd h1 (fun z => by rw [h2] at z; cases z) g (by omega) (fun _ _ z => z) (fun h' u tk k => ⟨.str p.shown, H, I.kept (t' := tk) k, ⟨_, rfl⟩, q⟩) h4
end
def strD : D → Option D
  | .int i => if i.natAbs.log2 < 1920 then some (.str (toString i)) else none
  | .str s => some (.str s)
  | _ => none
def intD : D → Option D
  | .int i => some (.int i)
  | .bl k => some (.int (if k then 1 else 0))
  | _ => none
def absD : D → Option D
  | .int i => some (.int (if i < 0 then -i else i))
  | _ => none
def tupD : D → Option D
  | .lst xs => some (.tup xs)
  | .tup xs => some (.tup xs)
  | _ => none
def seqOf : D → Option (List D)
  | .lst xs => some xs
  | .tup xs => some xs
  | .scr ns => some (ns.map .int)
  | _ => none
def isDisp : D → Bool
  | .lst _ => true
  | .tup _ => true
  | _ => false
def reprD (d : D) : Option D := match isDisp d, toPy d with
  | true, some p => if p.showable = true ∧ p.hasDict = false ∧ p.depth ≤ 60 ∧ p.shown.length ≤ sizeLine then some (.str p.shown) else none
  | _, _ => none
/-- what the built-ins tell, of data -/
def B0 : Blt → List D → Option D
  | .len, [d] => lenD d
  | .int, [d] => intD d
  | .str, [d] => strD d
  | .abs, [d] => absD d
  | .min, [.int i, .int j] => some (.int (if j < i then j else i))
  | .max, [.int i, .int j] => some (.int (if j > i then j else i))
  | .list, [d] => (seqOf d).map .lst
  | .tuple, [d] => tupD d
  | .repr, [d] => reprD d
  | _, _ => none
section
variable {X : Cx} {T : Ent} {W : WX} {F : Str → List Slot → CR} {wf : Nat} {a b c e : Expr} {es : List Expr} {sa sb sc : E} {ss : List E} {pos : Pos} {K : Fr}
variable {ε ε' : List Slot} {σ σ' : L2.St} {H H' Hs : Hp} {O O' : Addr → Prop} {D : Ends}
theorem tops_one {d : Ow.D} {vs : List V} (h : TopVs K H Hs [d] vs) : ∃ v, vs = [v] ∧ TopV K H Hs d v := by
  obtain ⟨v, r, rfl, h1, h2⟩ := h
  exact ⟨v, by rw [show r = [] from h2], h1⟩
theorem sqv_of {d : Ow.D} {xs : List Ow.D} {v : V} {K : Fr} (e : seqOf d = some xs) (t : TopV K H (res H O) d v) : ∃ p vs, v = .ref p ∧ (SqL K H p vs ∨ SqT K H p vs) ∧ RVs K (res H O) xs vs := by
  cases d with
  | lst ys => cases e; obtain ⟨p, vs, rfl, h1, h2⟩ := t; exact ⟨p, vs, rfl, .inl (SqL.of h1), h2⟩
  | tup ys => cases e; obtain ⟨p, vs, rfl, h1, h2⟩ := t; exact ⟨p, vs, rfl, .inr (Ow.Same.sqt res_same h1), h2⟩
  | scr ns => cases e; obtain ⟨p, rfl, h1⟩ := t; exact ⟨p, _, rfl, .inl (L2.Same.seq res_same h1), RVs.ints ns⟩
  | _ => cases e
/-- what falls to none but one length -/
theorem args1 {f : Blt} {g : Ow.D → Option Ow.D} (h : ∀ ds d, B0 f ds = some d → ∃ x, ds = [x] ∧ g x = some d) {r : List V → Hp → VK → Prop}
    (hr : ∀ (H : Hp) (O : Addr → Prop) (x d : Ow.D) (v : V) (Q : VK), (∀ a, O a → H a ≠ none) → g x = some d → TopV K H (res H O) x v → (∀ v' H', Same H H' → RV K (res H' O) d v' → Q v' H') → r [v] H Q) : CallS K (B0 f) r := fun H O ds d vs Q trk e t k => by
  obtain ⟨x, rfl, e1⟩ := h ds d e
  obtain ⟨v, rfl, tv⟩ := tops_one t
  exact hr H O x d v Q trk e1 tv k
theorem cs_len : CallS K (B0 .len) (fun xs H Q => (∃ p ys, xs = [.ref p] ∧ (SqL K H p ys ∨ SqT K H p ys) ∧ Q (.int ys.length) H) ∨ (∃ z, xs = [.str z] ∧ z.length ≤ sizeLine ∧ Q (.int z.length) H) ∨ ∃ a kvs, xs = [V.ref a] ∧ H a = some (.dK kvs) ∧ Q (.int kvs.length) H) :=
  args1 (g := lenD) (fun ds d h => by match ds, h with | [x], h => exact ⟨x, rfl, h⟩) fun H O x d v Q trk e t k => by
    cases x with
    | lst ys => cases e; obtain ⟨p, vs, rfl, h1, h2⟩ := t; exact .inl ⟨p, vs, rfl, .inl (SqL.of h1), k _ _ (Same.refl _) (by rw [h2.length]; rfl)⟩
    | tup ys => cases e; obtain ⟨p, vs, rfl, h1, h2⟩ := t; exact .inl ⟨p, vs, rfl, .inr (Ow.Same.sqt res_same h1), k _ _ (Same.refl _) (by rw [h2.length]; rfl)⟩
    | scr ns => cases e; obtain ⟨p, rfl, h1⟩ := t; exact .inl ⟨p, _, rfl, .inl (L2.Same.seq res_same h1), k _ _ (Same.refl _) (by show V.int _ = V.int _; rw [List.length_map])⟩
    | str z =>
      have e : (if z.length ≤ sizeLine then some (Ow.D.int z.length) else none) = some d := e
      by_cases hz : z.length ≤ sizeLine
      · rw [if_pos hz] at e
        cases e
        cases (show v = V.str z from t)
        exact .inr (.inl ⟨z, rfl, hz, k _ _ (Same.refl _) rfl⟩)
      · rw [if_neg hz] at e
        cases e
    | dic kvs => cases e; obtain ⟨p, ws, rfl, h1, h2⟩ := t; exact .inr (.inr ⟨p, ws, rfl, h1, k _ _ (Same.refl _) (by rw [h2.length]; rfl)⟩)
    | _ => cases e
theorem cs_int : CallS K (B0 .int) (fun xs H Q => (∃ i, xs = [.int i] ∧ Q (.int i) H) ∨ ∃ k, xs = [.bl k] ∧ Q (.int (if k then 1 else 0)) H) :=
  args1 (g := intD) (fun ds d h => by match ds, h with | [x], h => exact ⟨x, rfl, h⟩) fun H O x d v Q trk e t k => by
    cases x with
    | int i => cases e; cases (show v = V.int i from t); exact .inl ⟨i, rfl, k _ _ (Same.refl _) rfl⟩
    | bl b => cases e; cases (show v = V.bl b from t); exact .inr ⟨b, rfl, k _ _ (Same.refl _) rfl⟩
    | _ => cases e
theorem cs_str : CallS K (B0 .str) (fun xs H Q => (∃ i, xs = [.int i] ∧ i.natAbs.log2 < 1920 ∧ Q (.str (toString i)) H) ∨ ∃ a, xs = [.str a] ∧ Q (.str a) H) :=
  args1 (g := strD) (fun ds d h => by match ds, h with | [x], h => exact ⟨x, rfl, h⟩) fun H O x d v Q trk e t k => by
    cases x with
    | int i =>
      cases (show v = V.int i from t)
      have e : (if i.natAbs.log2 < 1920 then some (Ow.D.str (toString i)) else none) = some d := e
      by_cases hi : i.natAbs.log2 < 1920
      · rw [if_pos hi] at e
        cases e
        exact .inl ⟨i, rfl, hi, k _ _ (Same.refl _) rfl⟩
      · rw [if_neg hi] at e
        cases e
    | str z => cases e; cases (show v = V.str z from t); exact .inr ⟨z, rfl, k _ _ (Same.refl _) rfl⟩
    | _ => cases e
theorem cs_abs : CallS K (B0 .abs) (fun xs H Q => ∃ i, xs = [.int i] ∧ Q (.int (if i < 0 then -i else i)) H) :=
  args1 (g := absD) (fun ds d h => by match ds, h with | [x], h => exact ⟨x, rfl, h⟩) fun H O x d v Q trk e t k => by
    cases x with
    | int i => cases e; cases (show v = V.int i from t); exact ⟨i, rfl, k _ _ (Same.refl _) rfl⟩
    | _ => cases e
theorem cs_repr : CallS K (B0 .repr) (rRepr K) :=
  args1 (g := reprD) (fun ds d h => by match ds, h with | [x], h => exact ⟨x, rfl, h⟩) fun H O x d v Q trk e t k => by
    unfold reprD at e
    cases e1 : isDisp x with
    | false => rw [e1] at e; cases e
    | true =>
      cases e2 : toPy x with
      | none => rw [e1, e2] at e; cases e
      | some p =>
        rw [e1, e2] at e
        dsimp only at e
        by_cases hp : p.showable = true ∧ p.hasDict = false ∧ p.depth ≤ 60 ∧ p.shown.length ≤ sizeLine
        · rw [if_pos hp] at e
          cases e
          have rv : RV K H x v := TopV.rv res_same t
          have dp : Dp K H v p := RV.dp rv e2
          obtain ⟨a, rfl⟩ : ∃ a, v = .ref a := by
            cases x with
            | lst _ => obtain ⟨a, _, ea, _⟩ := t; exact ⟨a, ea⟩
            | tup _ => obtain ⟨a, _, ea, _⟩ := t; exact ⟨a, ea⟩
            | _ => cases e1
          exact ⟨a, p, rfl, dp, hp.1, hp.2.1, hp.2.2.1, hp.2.2.2, k _ _ (Same.refl _) rfl⟩
        · rw [if_neg hp] at e
          cases e
/-- list(x): a new list, one's own -/
theorem n_list {p : Pos} (hK : X.K = T.K) (hg : Gl X "list") (hm : X.mg "list" = none) (ha : PA X [a] (SA T W B0 F [sa])) (he : starEach [a] X.env = (false, eval a X.env) :: starEach [] X.env := by rfl) (hpl : (backTo pos (starEach [] X.env)).any (·.1) = false := by rfl) :
    PE X (.Call (.Name "list" p) [a] [] pos) (SN T W B0 F (.blt .list [sa])) := (pe_callTy call_list_of hg hm (by decide +kernel) ha (by decide) (by decide) he hpl).imp fun σ H Q h => by
  obtain ⟨ε, O, S, h⟩ := h
  rw [ev] at h
  refine ⟨ε, O, S, (h.bind S).mono fun xs ε1 H1 O1 S1 u1 st1 h1 vs hvs => ?_⟩
  rw [hK]
  cases e1 : conts ε1 xs with
  | none => rw [e1] at h1; exact h1.elim
  | some ds =>
    rw [e1] at h1
    dsimp only at h1
    cases e2 : B0 .list ds with
    | none => simp only [e2] at h1; exact h1.elim
    | some d =>
      simp only [e2] at h1
      match ds, e2 with
      | [x], e2 =>
        obtain ⟨ys, e3, rfl⟩ := map_some' (show (seqOf x).map Ow.D.lst = some d from e2)
        obtain ⟨v, rfl, tv⟩ := tops_one (tops_of S1 hvs e1)
        obtain ⟨q, us, rfl, sq, rv⟩ := sqv_of e3 tv
        exact ⟨q, us, rfl, sq, fun l hl => Wp.ok S1 h1 _ l _ rfl ⟨hl, same_upd hl, us, upd_same, rv⟩⟩
theorem m_list {p : Pos} (hK : X.K = T.K) (hg : Gl X "list") (hm : X.mg "list" = none) (ha : PA X [a] (SA T W B0 F [sa])) (he : starEach [a] X.env = (false, eval a X.env) :: starEach [] X.env := by rfl) (hpl : (backTo pos (starEach [] X.env)).any (·.1) = false := by rfl) :
    PE X (.Call (.Name "list" p) [a] [] pos) (SE T W B0 F (.blt .list [sa])) := m_made (n_list hK hg hm ha he hpl)
/-- dict displays are one's own too -/
theorem cs_tuple : CallS K (B0 .tuple) (fun xs H Q => ∃ p ys, xs = [.ref p] ∧ ((SqL K H p ys ∧ ∀ l, H l = none → Q (.ref l) (upd H l (.tup ys))) ∨ (SqT K H p ys ∧ Q (.ref p) H))) :=
  args1 (g := tupD) (fun ds d h => by match ds, h with | [x], h => exact ⟨x, rfl, h⟩) fun H O x d v Q trk e t k => by
    cases x with
    | lst ys =>
      cases e
      obtain ⟨p, vs, rfl, h1, h2⟩ := t
      exact ⟨p, vs, rfl, .inl ⟨SqL.of h1, fun l hl => by
        obtain ⟨n1, n2, n3, n4⟩ := new_rv (o := .tup vs) trk hl
        exact k _ _ n2 ⟨l, vs, rfl, SqT.of n4, RVs.same n3 h2⟩⟩⟩
    | tup ys =>
      cases e
      have t' := t
      obtain ⟨p, vs, rfl, h1, h2⟩ := t
      exact ⟨p, vs, rfl, .inr ⟨Ow.Same.sqt res_same h1, k _ _ (Same.refl _) ⟨p, vs, rfl, h1, h2⟩⟩⟩
    | _ => cases e
end
end Ow

end
end

section
set_option Elab.async false
set_option linter.all false
set_option maxRecDepth 100000
noncomputable section
namespace Ow
open PySem PySem.Spec L2
/-! ## what is one's own, handed back as new; dict displays -/
section
variable {X : Cx} {T : Ent} {W : WX} {B : Blt → List D → Option D} {F : Str → List Slot → CR} {wf : Nat} {a b c e : Expr} {es : List Expr} {sa sb sc : E} {ss : List E} {pos : Pos} {K : Fr}
variable {ε ε' : List Slot} {σ σ' : L2.St} {H H' Hs : Hp} {O O' : Addr → Prop} {D : Ends}
theorem StR.takeOut {i : Nat} {d : Ow.D} {p : Addr} (S : StR T ε σ H O) (e : ε[i]? = some (.ow d)) (hp : σ[i]? = some (some (.ref p))) : StR T (ε.set i .un) σ (hide H p) (rem O p) ∧ New T (ε.set i .un) σ (hide H p) H (rem O p) d p ∧ Same (res H O) (res (hide H p) (rem O p)) := by
  have lt : i < ε.length := (List.getElem?_eq_some_iff.mp e).1
  obtain ⟨p', h1, hO, h0, ct⟩ := S.slot i _ e
  rw [hp] at h1
  obtain rfl : p = p' := by simpa using h1
  have own : Own ε σ p := ⟨i, _, e, rfl, hp⟩
  have get : ∀ {j : Nat} {s : Slot}, (ε.set i .un)[j]? = some s → s = .un ∨ (j ≠ i ∧ ε[j]? = some s) := fun {j s} q => by
    by_cases hj : i = j
    · subst hj
      rw [List.getElem?_set_self lt] at q
      cases q
      exact .inl rfl
    · rw [List.getElem?_set_ne hj] at q
      exact .inr ⟨fun z => hj z.symm, q⟩
  have sub : Sub ε (ε.set i .un) := fun j s q ho => by
    rcases get q with rfl | ⟨_, q⟩
    · cases ho
    · exact ⟨s, q, ho⟩
  have no : ¬ Own (ε.set i .un) σ p := fun ⟨j, s, q, ho, hq⟩ => by
    rcases get q with rfl | ⟨n, q⟩
    · cases ho
    · exact n (S.dist j i p s _ q e ho rfl hq hp)
  have S1 : StR T (ε.set i .un) σ H O := by
    refine ⟨by rw [List.length_set]; exact S.len, S.old, S.mm, S.trk0, S.trk, S.new, S.frame, fun j s q => ?_, fun j k a s t qj qk hs ht g1 g2 => ?_, fun j d' q => ?_⟩
    · rcases get q with rfl | ⟨_, q⟩
      · exact trivial
      · exact S.slot j s q
    · rcases get qj with rfl | ⟨_, qj⟩
      · cases hs
      · rcases get qk with rfl | ⟨_, qk⟩
        · cases ht
        · exact S.dist j k a s t qj qk hs ht g1 g2
    · rcases get q with q | ⟨_, q⟩
      · cases q
      · exact S.lns j d' q
  refine ⟨S1.aside hO h0 no (fun a n => hide_ne n) (res_hide hO) (fun a h => ?_) (fun a h => ⟨S.old a h, fun z => ?_⟩) fun a n => ⟨fun z => z.1, fun z => ⟨z, n⟩⟩, ⟨hide_at, hide_same, ?_⟩, by rw [res_hide hO]; exact fun _ _ z => z⟩
  · rw [hide_ne h.2]
    exact S.trk a h.1
  · subst z
    exact absurd h0 (S.trk0 _ h)
  · rw [res_hide hO]
    exact ct
/-- return x, x one's own -/
theorem s_retT {i : Nat} {x : Str} {p : Pos} (hN : X.N[i]? = some x) (hv : Vis X.env.scope x) (hd : (x == ("__debug__" : Str)) = false := by decide) (hcd : (x == ("__classdict__" : Str)) = false := by decide) : PS X (.Return (some (.Name x p)) pos) (SS T W B F wf (.retT i)) := (ps_ret (pe_var hN hv hd hcd)).imp fun D σ H h => by
  obtain ⟨ε, O, S, h⟩ := h
  rw [evS] at h
  cases e : ε[i]? with
  | none => rw [e] at h; exact h.elim
  | some s =>
    rw [e] at h
    cases s with
    | ow d =>
      obtain ⟨q, h1, _⟩ := S.slot i _ e
      obtain ⟨S', n, sm⟩ := S.takeOut e h1
      exact ⟨_, h1, h q σ _ H _ S' sm n⟩
    | _ => exact h.elim
/-! ### comparisons as tests -/
theorem t_cmp {op : CmpOp} {r : R2} (ho : OpR X (compareOp op) r) (hr : OpS T.K (fun p q => (cmpD op p q).map .bl) r) (ha : PE X a (SE T W B F sa)) (hb : PE X b (SE T W B F sb)) (hm : behindInMarks op b = false) : PT X (.Compare a [op] [b] pos) (ST T W B F (.cmp op sa sb)) := (pt_cmpR ho ha hb hm).imp fun σ H Q h => by
  obtain ⟨ε, O, S, h⟩ := h
  rw [evT_plain rfl, ev] at h
  refine ⟨ε, O, S, ((h.bind S).bind S).mono fun x ε1 H1 O1 S1 u1 st1 h1 v hv => ?_⟩
  refine ⟨ε1, O1, S1, (h1.bind S1).mono fun y ε2 H2 O2 S2 u2 st2 h2 w hw => ?_⟩
  obtain ⟨p, q, d, e1, e2, e3, h3⟩ := out2_wp h2
  obtain ⟨k, _, rfl⟩ := map_some' e3
  have hv2 := hv.step S1 u2 st2 (by rw [e1]; rfl)
  refine hr H2 O2 p q (.bl k) v w _ S2.trk e3 (hv2.top S2 e1) (hw.top S2 e2) fun v' H' sm rv => ?_
  exact ⟨k, rv, h3 H' O2 (S2.grow sm) (Sub.refl _) (Step.grow sm) H' O2 (S2.grow sm) (Sub.refl _) (Step.refl _ _ _ _)⟩
theorem t_eq (hK : X.K = T.K) (hu : X.A.units + 64 < cLine) (ha : PE X a (SE T W B F sa)) (hb : PE X b (SE T W B F sb)) (hm : behindInMarks .Eq b = false) : PT X (.Compare a [.Eq] [b] pos) (ST T W B F (.cmp .Eq sa sb)) := t_cmp (op_eqD hu) (by rw [hK]; exact ops_eq) ha hb hm
theorem t_ne (hK : X.K = T.K) (hu : X.A.units + 64 < cLine) (ha : PE X a (SE T W B F sa)) (hb : PE X b (SE T W B F sb)) (hm : behindInMarks .NotEq b = false) : PT X (.Compare a [.NotEq] [b] pos) (ST T W B F (.cmp .NotEq sa sb)) := t_cmp (op_neD hu) (by rw [hK]; exact ops_ne) ha hb hm
theorem t_lt (ha : PE X a (SE T W B F sa)) (hb : PE X b (SE T W B F sb)) (hm : behindInMarks .Lt b = false) : PT X (.Compare a [.Lt] [b] pos) (ST T W B F (.cmp .Lt sa sb)) := t_cmp op_lt ops_lt ha hb hm
theorem t_le (ha : PE X a (SE T W B F sa)) (hb : PE X b (SE T W B F sb)) (hm : behindInMarks .LtE b = false) : PT X (.Compare a [.LtE] [b] pos) (ST T W B F (.cmp .LtE sa sb)) := t_cmp op_le ops_le ha hb hm
theorem t_gt (ha : PE X a (SE T W B F sa)) (hb : PE X b (SE T W B F sb)) (hm : behindInMarks .Gt b = false) : PT X (.Compare a [.Gt] [b] pos) (ST T W B F (.cmp .Gt sa sb)) := t_cmp op_gt ops_gt ha hb hm
theorem t_ge (ha : PE X a (SE T W B F sa)) (hb : PE X b (SE T W B F sb)) (hm : behindInMarks .GtE b = false) : PT X (.Compare a [.GtE] [b] pos) (ST T W B F (.cmp .GtE sa sb)) := t_cmp op_ge ops_ge ha hb hm
theorem t_in (hK : X.K = T.K) (ha : PE X a (SE T W B F sa)) (hb : PE X b (SE T W B F sb)) (hm : behindInMarks .In b = false) : PT X (.Compare a [.In] [b] pos) (ST T W B F (.cmp .In sa sb)) := t_cmp (op_in_str.or op_in_seq) (by rw [hK]; exact ops_in) ha hb hm
theorem t_nin (hK : X.K = T.K) (ha : PE X a (SE T W B F sa)) (hb : PE X b (SE T W B F sb)) (hm : behindInMarks .NotIn b = false) : PT X (.Compare a [.NotIn] [b] pos) (ST T W B F (.cmp .NotIn sa sb)) := t_cmp (op_notin_str.or op_notIn_seq) (by rw [hK]; exact ops_nin) ha hb hm
theorem t_is (ha : PE X a (SE T W B F sa)) (hb : PE X b (SE T W B F sb)) (hm : behindInMarks .Is b = false) : PT X (.Compare a [.Is] [b] pos) (ST T W B F (.cmp .Is sa sb)) := t_cmp (op_isBl.or op_isN) ops_is ha hb hm
theorem t_isnot (ha : PE X a (SE T W B F sa)) (hb : PE X b (SE T W B F sb)) (hm : behindInMarks .IsNot b = false) : PT X (.Compare a [.IsNot] [b] pos) (ST T W B F (.cmp .IsNot sa sb)) := t_cmp (op_notBl.or op_notN) ops_isnot ha hb hm
/-! ### dict displays -/
theorem putK_new {k : Key} {v : V} : ∀ {kvs : List (Key × V)}, k ∉ kvs.map (·.1) → putK kvs k v = kvs ++ [(k, v)] := by
  intro kvs h
  unfold putK
  rw [if_neg]
  intro z
  obtain ⟨p, hp, e⟩ := List.any_eq_true.mp z
  exact h (List.mem_map.mpr ⟨p, hp, by simpa using e⟩)
theorem mergeK_new : ∀ {more acc : List (Key × V)}, ((acc ++ more).map (·.1)).Nodup → mergeK acc more = acc ++ more
  | [], acc, _ => by simp [mergeK]
  | (k, v) :: r, acc, h => by
    have e : mergeK acc ((k, v) :: r) = mergeK (putK acc k v) r := rfl
    have nk : k ∉ acc.map (·.1) := fun z => by
      rw [List.map_append, List.nodup_append] at h
      exact h.2.2 k z k (by simp) rfl
    rw [e, putK_new nk, mergeK_new (by simpa using h)]
    simp
theorem RVk.keys {Hs : Hp} : ∀ {ds : List (Key × Ow.D)} {ws : List (Key × V)}, RVk K Hs ds ws → ws.map (·.1) = ds.map (·.1)
  | [], ws, h => by rw [show ws = [] from h]; rfl
  | (k, d) :: ds, ws, h => by
    obtain ⟨v, r, rfl, _, h2⟩ := h
    rw [List.map_cons, List.map_cons, RVk.keys h2]
theorem pairs_rd : ∀ {kvs : List (Key × E)} {ε : List Slot} {O : Addr → Prop} {H : Hp} {G : List (V × V) → Hp → Prop}, StR T ε σ H O →
    Wp T W ε σ H O (evks B F kvs ε) (fun ds ε' H' O' => ∀ ws, RVk T.K (res H' O') ds ws → G (ws.map fun kv => (kV kv.1, kv.2)) H') → tPairs (kvs.map fun kv => (tC (kV kv.1), SE T W B F kv.2)) σ H G
  | [], ε, O, H, G, S, h => by
    rw [evks] at h
    exact Wp.ok S h [] rfl
  | (k, a) :: r, ε, O, H, G, S, h => by
    rw [evks] at h
    refine ⟨ε, O, S, (h.bind S).mono fun x ε1 H1 O1 S1 u1 st1 h1 v hv => ?_⟩
    cases x with
    | sh d =>
      dsimp only at h1
      refine pairs_rd (kvs := r) S1 ((h1.bind S1).mono fun ds ε2 H2 O2 S2 u2 st2 h2 ws rw' => ?_)
      exact Wp.ok S2 h2 ((k, v) :: ws) ⟨v, ws, rfl, RV.same (st2.same S1) hv, rw'⟩
    | _ => exact h1.elim
theorem n_dct {keys : List (Option Expr)} {values : List Expr} {kvs : List (Key × E)} (h : PPs X pos keys values (kvs.map fun kv => (tC (kV kv.1), SE T W B F kv.2))) (hall : keys.all (·.isSome) = true := by rfl) (hl : keys.length = values.length := by rfl) (h0 : keys ≠ [] := by exact fun z => by cases z) (h15 : keys.length ≤ 15 := by decide) :
    PE X (.Dict keys values pos) (SN T W B F (.dct kvs)) := (pe_disp h hall hl h0 h15).imp fun σ H Q h => by
  obtain ⟨ε, O, S, h⟩ := h
  rw [ev] at h
  intro p hp
  have sm : Same H (upd H p (.dK [])) := same_upd hp
  have S1 : StR T ε σ (upd H p (.dK [])) (addO O p) := S.add hp sm (by rw [upd_same]; exact fun z => by cases z)
  have np : ¬ Own ε σ p := S.notOwn hp
  refine pairs_rd S1 ?_
  revert h
  cases evks B F kvs ε with
  | stuck => exact fun h => h
  | exc c fs ε' => exact fun h dx H2 O2 S2 u2 st2 => h dx H2 O2 S2 u2 ((Step.add hp sm).trans S (Sub.refl _) st2)
  | ok ds ε' =>
    intro h H2 O2 S2 u2 st2 ws rws
    have h : Wp T W ε σ H O (if ds.length ≤ 15 ∧ (ds.map (·.1)).Nodup then R.ok (EV.sh (.dic ds)) ε' else .stuck) _ := h
    by_cases hd : ds.length ≤ 15 ∧ (ds.map (·.1)).Nodup
    · rw [if_pos hd] at h
      have at_ : H2 p = some (.dK []) := st2.keep _ _ upd_same np
      have oO : O2 p := (st2.lose p (.inr rfl)).elim id fun z => absurd z np
      have h0 : T.H0 p = none := S.fresh0 hp
      have no : ¬ Own ε' σ p := fun z => np (z.sub u2)
      have mk : mergeK [] ws = ws := by
        rw [mergeK_new (by rw [List.nil_append, rws.keys]; exact hd.2)]
        rfl
      refine ⟨at_, ws, rfl, by rw [← rws.length]; exact hd.1, ?_⟩
      rw [mk]
      have Sx : StR T ε' σ (hide H2 p) (rem O2 p) := S2.aside oO h0 no (fun a n => hide_ne n) (res_hide oO) (fun a q => by rw [hide_ne q.2]; exact S2.trk a q.1) (fun a q => ⟨S2.old a q, fun z => by subst z; exact absurd h0 (S.trk0 _ q)⟩) fun a n => ⟨fun z => z.1, fun z => ⟨z, n⟩⟩
      have stx : Step ε σ H O (hide H2 p) (rem O2 p) := by
        have ne : ∀ {a : Addr}, H a ≠ none → a ≠ p := fun q z => by subst z; exact q hp
        refine ⟨fun a o q n => ?_, fun a q => ?_, fun a q => ?_, fun a q => ?_⟩
        · have na := ne (show H a ≠ none from fun z => by rw [q] at z; cases z)
          rw [hide_ne na]
          exact st2.keep a o (sm a o q) n
        · rcases st2.news a q.1 with (z | z) | z
          · exact .inl z
          · exact absurd z q.2
          · rw [upd_ne q.2] at z
            exact .inr z
        · exact (st2.lose a (.inl q)).imp (fun z => ⟨z, ne (S.trk a q)⟩) id
        · rw [hide_ne (ne q)]
          exact st2.stay a (by rw [upd_ne (ne q)]; exact q)
      refine h _ _ Sx u2 stx _ p _ rfl ⟨hide_at, fun a o q => ?_, ws, upd_same, ?_⟩
      · by_cases ea : a = p
        · subst ea
          rw [hide_at] at q
          cases q
        · rw [hide_ne ea] at q
          rw [upd_ne ea]
          exact q
      · rw [res_hide oO]
        exact rws
    · rw [if_neg hd] at h
      exact h.elim
end
end Ow

end
end

section
set_option Elab.async false
set_option linter.all false
set_option maxRecDepth 100000
noncomputable section
namespace Ow
open PySem PySem.Spec L2 PyProof.Rows
/-! ## what the head tells of exception classes, in Bools -/
section
variable {K : Fr} {C : Addr}
def oexB (K : Fr) (C : Addr) : Bool := match K.lookup C with
  | some ⟨.type t, _, .cls cd, sl⟩ => (match cd.mro, sl.toList with
    | .ref C' :: bm, [_, _, _, _, some (.builtin n), _] => decide (t = "type") && (decide (C' = C) && (decide (n = "ValueError.__new__") && (!cd.hasDel && (cd.hasDict && PySem.HandSPX.refsVE bm))))
    | _, _ => false)
  | _ => false
theorem oexB_ok (h : oexB K C = true) : ∃ nm q N bs bm sn sub ab col dd k0 k1 k2 k3 k5, K.lookup C = some (excClassObj nm q C N bs bm true sn sub ab col dd k0 k1 k2 k3 k5 "ValueError.__new__") ∧ PySem.HandSPX.refsVE bm = true := by
  unfold oexB at h
  split at h
  · rename_i t dd cd sl ho
    split at h
    · rename_i C' bm k0 k1 k2 k3 n k5 hm hs
      simp only [Bool.and_eq_true, decide_eq_true_eq, Bool.not_eq_true'] at h
      obtain ⟨rfl, rfl, rfl, hdel, hdict, hr⟩ := h
      obtain ⟨nm, bs, mro, ns, qn, hd, sn, sub, ab, col, del⟩ := cd
      obtain ⟨l⟩ := sl
      dsimp only at hm hdel hdict hs
      subst hm hdel hdict hs
      exact ⟨_, _, _, _, bm, _, _, _, _, _, _, _, _, _, _, ho, hr⟩
    · cases h
  · cases h
def excCB (K : Fr) (D : Addr) : Bool := decide (PySem.W.findIn K (.ref D) "__getattribute__" = some (some (.builtin "BaseException.__getattribute__"))) && (decide (PySem.W.findIn K (.ref D) "__getattr__" = some none) && (decide (PySem.W.subIn K (.ref D) (.type "BaseException") = some true) && (PySem.W.hasDictIn K D &&
  (decide (PySem.W.findIn K (.ref D) "__class__" = some (some (.builtin "object.__class__"))) && (decide (PySem.W.specialIn K (.builtin "object.__class__") "__get__" = some (some (.builtin "getset_descriptor.__get__"))) && (decide (PySem.W.takesIn K (.builtin "object.__class__") = some true) && decide (PySem.W.mroIn K D (.type "object") = some true)))))))
theorem excCB_ok {D : Addr} (h : excCB K D = true) : ExcC K D := by
  unfold excCB at h
  simp only [Bool.and_eq_true, decide_eq_true_eq] at h
  obtain ⟨h1, h2, h3, h4, h5, h6, h7, h8⟩ := h
  exact ⟨h1, h2, h3, h4, h5, h6, h7, h8⟩
theorem xfC_of (h : ExcC K C) : XfC K C := ⟨h.hg, h.hk, h.hs, h.hd⟩
/-- all that is asked of a class with an __init__ that keeps the fields fs -/
def errB (K : Fr) (c : Str) (fs : List Str) : Bool := oexB K (cA K c) && (decide (PySem.W.findIn K (.ref (cA K c)) "__setattr__" = some (some (.builtin "object.__setattr__"))) && (decide (PySem.W.typeIn K (.ref (cA K c)) = some (.type "type")) && (PySem.W.keepIn K (.ref (cA K c)) &&
  (decide (PySem.W.findIn K (.ref (cA K c)) "__init__" = some (some (.ref (He.ma K (cA K c) "__init__")))) && (decide (PySem.W.typeIn K (.ref (He.ma K (cA K c) "__init__")) = some (.type "function")) && (excCB K (cA K c) && fs.all fun f => decide (PySem.W.findIn K (.ref (cA K c)) f = some none)))))))
structure ErrC (K : Fr) (c : Str) (fs : List Str) : Prop where
  oex : OexC K (cA K c)
  init : PySem.W.findIn K (.ref (cA K c)) "__init__" = some (some (.ref (He.ma K (cA K c) "__init__")))
  fn : PySem.W.typeIn K (.ref (He.ma K (cA K c) "__init__")) = some (.type "function")
  exc : ExcC K (cA K c)
  no : ∀ f ∈ fs, PySem.W.findIn K (.ref (cA K c)) f = some none
theorem errB_ok {c : Str} {fs : List Str} (h : errB K c fs = true) : ErrC K c fs := by
  unfold errB at h
  simp only [Bool.and_eq_true, decide_eq_true_eq, List.all_eq_true] at h
  obtain ⟨h1, h2, h3, h4, h5, h6, h7, h8⟩ := h
  have e := excCB_ok h7
  exact ⟨⟨oexB_ok h1, h2, e.hs, h3, h4⟩, h5, h6, e, h8⟩
/-- of a class without an __init__ -/
def err0B (K : Fr) (c : Str) : Bool := PySem.W.excIn K (cA K c) He.veBase "ValueError.__new__" && (PySem.W.keepIn K (.ref (cA K c)) && excCB K (cA K c))
theorem err0B_ok {c : Str} (h : err0B K c = true) : PySem.W.excIn K (cA K c) He.veBase "ValueError.__new__" = true ∧ PySem.W.keepIn K (.ref (cA K c)) = true ∧ ExcC K (cA K c) := by
  unfold err0B at h
  simp only [Bool.and_eq_true] at h
  exact ⟨h.1, h.2.1, excCB_ok h.2.2⟩
end
/-! ### an __init__ that keeps one field, two -/
section
variable {P : Program} {w : World} {K : Fr} {mg : Str → Option Value} {base : Heap}
theorem FunD.okG {CX : CXT} {x qual : Str} {params : Arguments} {body : List Stmt} {scope : Scope} {dvs : List V} {kws : List (Str × V)} {f : Addr} {fd : FuncData} {N ps : List Str} {k : Nat} {sp : Sp} (F : FunD K x qual params body scope dvs kws f fd) (S : FnScope N ps scope) (len : ∀ vs H Q E, sp vs H Q E → vs.length = ps.length)
    (hbody : ∀ (cdv : Value) (A : Around) (outer : List Env) (s : Shared) (H : Hp) (vs : List V) (Q : VK) (E : XK), A.guards = some [] → Room k (A.deeper (envOfC qual scope s.heap.objs.size f cdv)) → sp vs H Q E →
      ∃ t, PSs (cxOf CX P w K mg base N qual scope f cdv A outer s H E) body t ∧ t { nx := fun _ H' => Q .non H', rt := Q } (L2.start N vs) H) : FnG P w K mg base CX (k + 1) f fd ps sp := by
  obtain ⟨oc, od, dV, kV, doc, pm, an, cdv, ct, osl, rfl, lk, hcd, _, _⟩ := F.ex
  exact FnG.made lk hcd S len fun A outer s H vs Q E g hr hsp => hbody cdv A outer s H vs Q E g hr hsp
theorem init1 {x qual f1 a1 : Str} {params : Arguments} {scope : Scope} {f : Addr} {fd : FuncData} {p1 p2 p3 p4 : Pos} {C : Addr} (F : FunD K x qual params [.Assign [.Attribute (.Name "self" p1) f1 p2] (.Name a1 p3) p4] scope [] [] f fd) (S : FnScope ["self", a1] ["self", a1] scope) (h0 : scope.names.lookup ("self" : Str) = some .local) (h1 : scope.names.lookup a1 = some .local)
    (d1 : (a1 == ("__debug__" : Str)) = false) (d2 : (a1 == ("__classdict__" : Str)) = false) (T : OexC K C) (no : PySem.W.findIn K (.ref C) f1 = some none) : FnG P w K mg base (L2.CX P w) 1 f fd ["self", a1] (spErr C [f1]) := by
  refine FunD.okG F S (fun vs H Q E h => ?_) fun cdv A outer s H vs Q E g hr h => ?_
  · obtain ⟨a, ws, rfl, hl, _⟩ := h
    simp [hl]
  · obtain ⟨a, ws, rfl, hl, ha, k⟩ := h
    match ws, hl with
    | [v], _ =>
      refine ⟨_, pss_one (ps_ost (pe_var (i := 0) rfl (.inl h0)) (pe_var (i := 1) rfl (.inl h1) d1 d2) rfl), ?_⟩
      refine ⟨v, rfl, .ref a, rfl, a, C, rfl, T, no, .inl ⟨ha, fun dx hdx ne => ?_⟩⟩
      exact k _ dx [(f1, v)] hdx ne upd_same (by rw [upd_ne ne, upd_same]) (fun f => rfl) fun b n1 n2 => by rw [upd_ne n1, upd_ne n2]
theorem init2 {x qual f1 a1 f2 a2 : Str} {params : Arguments} {scope : Scope} {f : Addr} {fd : FuncData} {p1 p2 p3 p4 q1 q2 q3 q4 : Pos} {C : Addr} (F : FunD K x qual params [.Assign [.Attribute (.Name "self" p1) f1 p2] (.Name a1 p3) p4, .Assign [.Attribute (.Name "self" q1) f2 q2] (.Name a2 q3) q4] scope [] [] f fd) (S : FnScope ["self", a1, a2] ["self", a1, a2] scope)
    (h0 : scope.names.lookup ("self" : Str) = some .local) (h1 : scope.names.lookup a1 = some .local) (h2 : scope.names.lookup a2 = some .local) (d1 : (a1 == ("__debug__" : Str)) = false) (d2 : (a1 == ("__classdict__" : Str)) = false) (e1 : (a2 == ("__debug__" : Str)) = false) (e2 : (a2 == ("__classdict__" : Str)) = false) (T : OexC K C) (no1 : PySem.W.findIn K (.ref C) f1 = some none) (no2 : PySem.W.findIn K (.ref C) f2 = some none) (ne12 : f1 ≠ f2) :
    FnG P w K mg base (L2.CX P w) 1 f fd ["self", a1, a2] (spErr C [f1, f2]) := by
  refine FunD.okG F S (fun vs H Q E h => ?_) fun cdv A outer s H vs Q E g hr h => ?_
  · obtain ⟨a, ws, rfl, hl, _⟩ := h
    simp [hl]
  · obtain ⟨a, ws, rfl, hl, ha, k⟩ := h
    match ws, hl with
    | [v, u], _ =>
      refine ⟨_, pss_cons (ps_ost (pe_var (i := 0) rfl (.inl h0)) (pe_var (i := 1) rfl (.inl h1) d1 d2) rfl) (pss_one (ps_ost (pe_var (i := 0) rfl (.inl h0)) (pe_var (i := 2) rfl (.inl h2) e1 e2) rfl)), ?_⟩
      refine ⟨v, rfl, .ref a, rfl, a, C, rfl, T, no1, .inl ⟨ha, fun dx hdx ne => ?_⟩⟩
      refine ⟨u, rfl, .ref a, rfl, a, C, rfl, T, no2, .inr ⟨dx, [(f1, v)], upd_same, by rw [upd_ne ne, upd_same], by show 1 ≤ 900; decide, ?_⟩⟩
      refine k _ dx [(f2, u), (f1, v)] hdx ne (by rw [upd_ne (Ne.symm ne), upd_same]) upd_same (fun f => ?_) fun b n1 n2 => by rw [upd_ne n2, upd_ne n1, upd_ne n2]
      show (match f == f2 with | true => some u | false => (match f == f1 with | true => some v | false => none)) = (match f == f1 with | true => some v | false => (match f == f2 with | true => some u | false => none))
      cases q1 : f == f1 with
      | true =>
        cases q2 : f == f2 with
        | true => exact absurd ((beq_iff_eq.mp q1).symm.trans (beq_iff_eq.mp q2)) ne12
        | false => rfl
      | false => cases q2 : f == f2 <;> rfl
end
/-! ### a def of the head's, by its body -/
section
variable {P : Program} {w : World} {K : Fr} {mg : Str → Option Value} {base : Heap} {B : Blt → List D → Option D} {F : Str → List Slot → CR} {wf : Nat}
theorem def_D {x qual : Str} {params : Arguments} {sbody : List Stmt} {scope : Scope} {f : Addr} {fd : FuncData} {N ps : List Str} {k : Nat} {F' : Str → List Slot → CR} {body : List S} (Fn : FunD K x qual params sbody scope [] [] f fd) (Sc : FnScope N ps scope)
    {y : Str} (hF : ∀ ss, F' y ss = .stuck ∨ F' y ss = runDef B F wf N.length body ss)
    (hb : ∀ (cdv : Value) (A : Around) (outer : List Env) (s : Shared) (H : Hp) (E : XK) (T : Ent), T.K = K → A.guards = some [] → Room k (A.deeper (envOfC qual scope s.heap.objs.size f cdv)) →
      PSs (cxOf (L2.CX P w) P w K mg base N qual scope f cdv A outer s H E) sbody (SB T (fun cls d _ H => E cls d H) B F wf body)) : FnG P w K mg base (L2.CX P w) (k + 1) f fd ps (SpF K F' ps.length y) := by
  obtain ⟨oc, od, dV, kV, doc, pm, an, cdv, ct, osl, efd, lk, hcd, hD, _⟩ := Fn.ex
  exact def_core (fun sp len go => FunD.okG Fn Sc len go) hF hb
end
end Ow

end
end

section
set_option Elab.async false
set_option linter.all false
set_option maxRecDepth 100000
noncomputable section
namespace Ow
open PySem PySem.Spec L2
/-! ## a def that may be called, a class that may be made -/
section
variable {X : Cx} {T : Ent} {W : WX} {B : Blt → List D → Option D} {F : Str → List Slot → CR} {wf : Nat} {a b c e : Expr} {es : List Expr} {sa sb sc : E} {ss : List E} {pos : Pos} {K : Fr}
/-- all that a caller asks of a def -/
structure Fd (P : Program) (w : World) (K : Fr) (mg : Str → Option Value) (base : Heap) (k : Nat) (F : Str → List Slot → CR) (x : Str) (n : Nat) : Prop where
  at_ : ∃ f fd ps, ps.length = n ∧ FnG P w K mg base (L2.CX P w) k f fd ps (SpF K F n x) ∧ mg x = some (.ref f) ∧ PySem.W.keepIn K (.ref f) = true ∧ Binds K fd ps []
  ar : ∀ ss, F x ss ≠ .stuck → ss.length = n
theorem m_callF {k n : Nat} {x : Str} {p : Pos} (C : Fd X.prog X.w X.K X.mg X.base k F x n) (hX : X.K = T.K) (g : X.A.guards = some []) (hr : Room k X.A) (hg : Gl X x) (tk : Takes X W) (ha : PA X (e :: es) (SA T W B F ss)) (hdb : (x == ("__debug__" : Str)) = false := by decide)
    (he : starEach (e :: es) X.env = (false, eval e X.env) :: starEach es X.env := by rfl) (hpl : (backTo pos (starEach es X.env)).any (·.1) = false := by rfl) : PE X (.Call (.Name x p) (e :: es) [] pos) (SE T W B F (.call x ss)) := by
  obtain ⟨⟨f, fd, ps, rfl, G, m, kp, bd⟩, ar⟩ := C
  rw [hX] at G
  exact m_call (by rw [hX]; exact G) g hr hg m kp bd tk ar ha hdb he hpl
theorem n_callF {k n : Nat} {x : Str} {p : Pos} (C : Fd X.prog X.w X.K X.mg X.base k F x n) (hX : X.K = T.K) (g : X.A.guards = some []) (hr : Room k X.A) (hg : Gl X x) (tk : Takes X W) (ha : PA X (e :: es) (SA T W B F ss)) (hdb : (x == ("__debug__" : Str)) = false := by decide)
    (he : starEach (e :: es) X.env = (false, eval e X.env) :: starEach es X.env := by rfl) (hpl : (backTo pos (starEach es X.env)).any (·.1) = false := by rfl) : PE X (.Call (.Name x p) (e :: es) [] pos) (SN T W B F (.callN x ss)) := by
  obtain ⟨⟨f, fd, ps, rfl, G, m, kp, bd⟩, ar⟩ := C
  rw [hX] at G
  exact n_call (by rw [hX]; exact G) g hr hg m kp bd tk ar ha hdb he hpl
structure Er (P : Program) (w : World) (K : Fr) (mg : Str → Option Value) (base : Heap) (x : Str) (fs : List Str) : Prop where
  cls : ErrC K x fs
  at_ : ∃ fd ps, FnG P w K mg base (L2.CX P w) 1 (He.ma K (cA K x) "__init__") fd ps (spErr (cA K x) fs) ∧ Binds K fd ps []
  mg_ : mg x = some (.ref (cA K x))
  few : fs.length ≤ 1000
theorem m_errF {x : Str} {fs : List Str} {p : Pos} (C : Er X.prog X.w X.K X.mg X.base x fs) (hX : X.K = T.K) (g : X.A.guards = some []) (hr : Room 2 X.A) (hg : Gl X x) (ha : PA X (e :: es) (SA T W B F ss)) (hdb : (x == ("__debug__" : Str)) = false := by decide)
    (he : starEach (e :: es) X.env = (false, eval e X.env) :: starEach es X.env := by rfl) (hpl : (backTo pos (starEach es X.env)).any (·.1) = false := by rfl) : PE X (.Call (.Name x p) (e :: es) [] pos) (SE T W B F (.err x fs ss)) := by
  obtain ⟨cl, ⟨fd, ps, G, bd⟩, m, few⟩ := C
  have h1 := cl.oex
  have h2 := cl.init
  have h3 := cl.fn
  rw [hX] at h1 h2 h3 G m
  exact m_err (by rw [hX]; exact h1) (by rw [hX]; exact h2) (by rw [hX]; exact h3) (by rw [hX]; exact G) few g hr bd hg m ha hdb he hpl
theorem m_err0F {x : Str} {p : Pos} (C : PySem.W.excIn X.K (cA X.K x) He.veBase "ValueError.__new__" = true ∧ PySem.W.keepIn X.K (.ref (cA X.K x)) = true ∧ X.mg x = some (.ref (cA X.K x))) (hX : X.K = T.K) (hg : Gl X x) (hdb : (x == ("__debug__" : Str)) = false := by decide) :
    PE X (.Call (.Name x p) [] [] pos) (SE T W B F (.err x [] [])) := by
  obtain ⟨h1, h2, h3⟩ := C
  exact m_err0 PySem.F.excBase_ValueError (by rw [← hX]; exact h1) (by rw [← hX]; exact h3) (by rw [← hX]; exact h2) hg hdb
end
end Ow

end
end

section
set_option Elab.async false
set_option linter.all false
set_option maxRecDepth 100000
noncomputable section
namespace Ow
open PySem PySem.Spec L2
/-! ## the evaluator, word by word -/
section
variable {B : Blt → List D → Option D} {F : Str → List Slot → CR} {wf : Nat} {e : List Slot} {a b c : E} {es : List E}
@[simp] theorem bind_ok {α β : Type} {x : α} {f : α → List Slot → R β} : (R.ok x e).bind f = f x e := rfl
@[simp] theorem bind_exc {α β : Type} {n : Str} {fs : List (Str × D)} {f : α → List Slot → R β} : (R.exc n fs e : R α).bind f = .exc n fs e := rfl
@[simp] theorem bind_stuck {α β : Type} {f : α → List Slot → R β} : (R.stuck : R α).bind f = .stuck := rfl
@[simp] theorem ev_c {d : D} : ev B F (.c d) e = .ok (.sh d) e := by rw [ev]
@[simp] theorem ev_bin {o : Operator} : ev B F (.bin o a b) e = (ev B F a e).bind fun x e => (ev B F b e).bind fun y e => out2 (binD o) x y e := by rw [ev]
@[simp] theorem ev_un {o : UnaryOp} : ev B F (.un o a) e = out1 (unD o) (ev B F a e) := by rw [ev]
@[simp] theorem ev_cmp {o : CmpOp} : ev B F (.cmp o a b) e = (ev B F a e).bind fun x e => (ev B F b e).bind fun y e => out2 (fun p q => (cmpD o p q).map .bl) x y e := by rw [ev]
theorem ev_var {i : Nat} : ev B F (.var i) e = match e[i]? with
    | some (.sh d) => .ok (.sh d) e
    | some (.ow _) => .ok (.pl i) e
    | some (.ln _) => .ok (.pl i) e
    | _ => .stuck := by
  rw [ev] <;> rfl
theorem ev_sh {i : Nat} {d : D} (h : e[i]? = some (.sh d)) : ev B F (.var i) e = .ok (.sh d) e := by rw [ev_var, h]
theorem ev_ln {i : Nat} {d : D} (h : e[i]? = some (.ln d)) : ev B F (.var i) e = .ok (.pl i) e := by rw [ev_var, h]
theorem ev_ow {i : Nat} {d : D} (h : e[i]? = some (.ow d)) : ev B F (.var i) e = .ok (.pl i) e := by rw [ev_var, h]
@[simp] theorem ev_idx {i : E} : ev B F (.idx a i) e = (ev B F a e).bind fun x e => (ev B F i e).bind fun y e => out2 idxD x y e := by rw [ev]
@[simp] theorem ev_dget {i : E} : ev B F (.dget a i) e = (ev B F a e).bind fun x e => (ev B F i e).bind fun y e => out2 getD x y e := by rw [ev]
@[simp] theorem ev_slc {lo hi : E} : ev B F (.slc a lo hi) e = (ev B F a e).bind fun x e => (prtR lo (ev B F lo e)).bind fun l e => (prtR hi (ev B F hi e)).bind fun u e => out1 (slcD l u) (.ok x e) := by rw [ev]
@[simp] theorem ev_attE {f : Str} {cs : List Str} : ev B F (.attE a f cs) e = out1 (attEO f cs) (ev B F a e) := by rw [ev]
@[simp] theorem ev_isiE {t : Str} {cs : List (Str × Bool)} : ev B F (.isiE a t cs) e = out1 (isiEO cs) (ev B F a e) := by rw [ev]
theorem ev_blt {f : Blt} : ev B F (.blt f es) e = (evs B F es e).bind fun xs e => match conts e xs with
    | some ds => (match B f ds with
      | some d => .ok (.sh d) e
      | none => .stuck)
    | none => .stuck := by
  rw [ev] <;> rfl
theorem ev_tup : ev B F (.tup es) e = (evs B F es e).bind fun xs e => match shs xs with
    | some ds => if ds.length ≤ sizeLine then .ok (.sh (.tup ds)) e else .stuck
    | none => .stuck := by
  rw [ev] <;> rfl
theorem ev_lst : ev B F (.lst es) e = (evs B F es e).bind fun xs e => match shs xs with
    | some ds => if ds.length ≤ sizeLine then .ok (.sh (.lst ds)) e else .stuck
    | none => .stuck := by
  rw [ev] <;> rfl
theorem ev_err {n : Str} {fs : List Str} : ev B F (.err n fs es) e = (evs B F es e).bind fun xs e => match shs xs with
    | some ds => if ds.length = fs.length then .ok (.sh (.err n (fs.zip ds))) e else .stuck
    | none => .stuck := by
  rw [ev] <;> rfl
theorem ev_dct {kvs : List (Key × E)} : ev B F (.dct kvs) e = (evks B F kvs e).bind fun ds e => if ds.length ≤ 15 ∧ (ds.map (·.1)).Nodup then .ok (.sh (.dic ds)) e else .stuck := by rw [ev]
@[simp] theorem ev_call {f : Str} : ev B F (.call f es) e = (evs B F es e).bind fun xs e => callE F f xs e := by rw [ev]
@[simp] theorem ev_callN {f : Str} : ev B F (.callN f es) e = (evs B F es e).bind fun xs e => callNE F f xs e := by rw [ev]
@[simp] theorem evs_nil : evs B F [] e = .ok [] e := by rw [evs]
theorem evs_cons : evs B F (a :: es) e = (ev B F a e).bind fun x e => if isFr x = true ∧ isLend a = false then .stuck else (evs B F es e).bind fun xs e => .ok (x :: xs) e := by rw [evs]
@[simp] theorem evT_and : evT B F (.and a b) e = (evT B F a e).bind fun k e => if k = true then evT B F b e else .ok false e := by rw [evT]
@[simp] theorem evT_or : evT B F (.or a b) e = (evT B F a e).bind fun k e => if k = true then .ok true e else evT B F b e := by rw [evT]
@[simp] theorem evT_not : evT B F (.not a) e = (evT B F a e).bind fun k e => .ok (!k) e := by rw [evT]
@[simp] theorem evT_cmp {o : CmpOp} : evT B F (.cmp o a b) e = (ev B F (.cmp o a b) e).bind tru1 := by rw [evT_plain rfl]
@[simp] theorem evT_isiE {t : Str} {cs : List (Str × Bool)} : evT B F (.isiE a t cs) e = (ev B F (.isiE a t cs) e).bind tru1 := by rw [evT_plain rfl]
@[simp] theorem evT_var {i : Nat} : evT B F (.var i) e = (ev B F (.var i) e).bind tru1 := by rw [evT_plain rfl]
@[simp] theorem out1_sh {f : D → Option D} {d r : D} (h : f d = some r) : out1 f (.ok (.sh d) e) = .ok (.sh r) e := by
  show (match (some d).bind f with
    | some d => R.ok (EV.sh d) e
    | none => .stuck) = _
  rw [Option.bind_some, h]
/-- arguments that are shared -/
theorem evs_sh {d : D} (h : ev B F a e = .ok (.sh d) e) {xs : List EV} (g : evs B F es e = .ok xs e) : evs B F (a :: es) e = .ok (.sh d :: xs) e := by
  rw [evs_cons, h, bind_ok, if_neg (by intro z; cases z.1), g, bind_ok]
theorem evs_sh' {d : D} {e1 e2 : List Slot} (h : ev B F a e = .ok (.sh d) e1) {xs : List EV} (g : evs B F es e1 = .ok xs e2) : evs B F (a :: es) e = .ok (.sh d :: xs) e2 := by
  rw [evs_cons, h, bind_ok, if_neg (by intro z; cases z.1), g, bind_ok]
theorem evs_pl {i : Nat} {e1 e2 : List Slot} (h : ev B F a e = .ok (.pl i) e1) {xs : List EV} (g : evs B F es e1 = .ok xs e2) : evs B F (a :: es) e = .ok (.pl i :: xs) e2 := by
  rw [evs_cons, h, bind_ok, if_neg (by intro z; cases z.1), g, bind_ok]
theorem out2_sh {f : D → D → Option D} {p q r : D} (h : f p q = some r) : out2 f (.sh p) (.sh q) e = .ok (.sh r) e := by
  unfold out2 cont
  simp only [h]
theorem out2_of {f : D → D → Option D} {x y : EV} {p q r : D} (hx : cont e x = some p) (hy : cont e y = some q) (h : f p q = some r) : out2 f x y e = .ok (.sh r) e := by
  unfold out2
  simp only [hx, hy, h]
/-! words on values -/
theorem e_bin {o : Operator} {e1 e2 : List Slot} {x y : EV} {p q r : D} (ha : ev B F a e = .ok x e1) (hb : ev B F b e1 = .ok y e2) (hx : cont e2 x = some p) (hy : cont e2 y = some q) (h : binD o p q = some r) : ev B F (.bin o a b) e = .ok (.sh r) e2 := by
  rw [ev_bin, ha, bind_ok, hb, bind_ok, out2_of hx hy h]
theorem e_cmp {o : CmpOp} {e1 e2 : List Slot} {x y : EV} {p q : D} {r : Bool} (ha : ev B F a e = .ok x e1) (hb : ev B F b e1 = .ok y e2) (hx : cont e2 x = some p) (hy : cont e2 y = some q) (h : cmpD o p q = some r) : ev B F (.cmp o a b) e = .ok (.sh (.bl r)) e2 := by
  rw [ev_cmp, ha, bind_ok, hb, bind_ok, out2_of (r := .bl r) hx hy (by rw [h]; rfl)]
theorem e_idx {e1 e2 : List Slot} {x y : EV} {p q r : D} (ha : ev B F a e = .ok x e1) (hb : ev B F b e1 = .ok y e2) (hx : cont e2 x = some p) (hy : cont e2 y = some q) (h : idxD p q = some r) : ev B F (.idx a b) e = .ok (.sh r) e2 := by
  rw [ev_idx, ha, bind_ok, hb, bind_ok, out2_of hx hy h]
theorem e_dget {e1 e2 : List Slot} {x y : EV} {p q r : D} (ha : ev B F a e = .ok x e1) (hb : ev B F b e1 = .ok y e2) (hx : cont e2 x = some p) (hy : cont e2 y = some q) (h : getD p q = some r) : ev B F (.dget a b) e = .ok (.sh r) e2 := by
  rw [ev_dget, ha, bind_ok, hb, bind_ok, out2_of hx hy h]
theorem e_blt {f : Blt} {e1 : List Slot} {xs : List EV} {ds : List D} {d : D} (ha : evs B F es e = .ok xs e1) (hc : conts e1 xs = some ds) (h : B f ds = some d) : ev B F (.blt f es) e = .ok (.sh d) e1 := by
  rw [ev_blt, ha, bind_ok]
  simp only [hc, h]
theorem e_tup {e1 : List Slot} {xs : List EV} {ds : List D} (ha : evs B F es e = .ok xs e1) (hc : shs xs = some ds) (h : ds.length ≤ sizeLine) : ev B F (.tup es) e = .ok (.sh (.tup ds)) e1 := by
  rw [ev_tup, ha, bind_ok]
  simp only [hc, h, if_true]
theorem e_lst {e1 : List Slot} {xs : List EV} {ds : List D} (ha : evs B F es e = .ok xs e1) (hc : shs xs = some ds) (h : ds.length ≤ sizeLine) : ev B F (.lst es) e = .ok (.sh (.lst ds)) e1 := by
  rw [ev_lst, ha, bind_ok]
  simp only [hc, h, if_true]
theorem e_err {n : Str} {fs : List Str} {e1 : List Slot} {xs : List EV} {ds : List D} (ha : evs B F es e = .ok xs e1) (hc : shs xs = some ds) (h : ds.length = fs.length) : ev B F (.err n fs es) e = .ok (.sh (.err n (fs.zip ds))) e1 := by
  rw [ev_err, ha, bind_ok]
  simp only [hc, h, if_true]
theorem e_one {f : D → Option D} {e1 : List Slot} {x : EV} {p d : D} {r : R EV} (ha : r = .ok x e1) (hx : cont e1 x = some p) (h : f p = some d) : out1 f r = .ok (.sh d) e1 := by
  rw [ha]
  show (match (cont e1 x).bind f with
    | some d => R.ok (EV.sh d) e1
    | none => .stuck) = _
  rw [hx, Option.bind_some, h]
theorem e_call {f : Str} {e1 : List Slot} {xs : List EV} {ss fin : List Slot} {d : D} (ha : evs B F es e = .ok xs e1) (ok : argsOk xs = true) (hs : toSlots e1 xs = some ss) (h : F f ss = .ok d fin) : ev B F (.call f es) e = .ok (.sh d) (giveBack xs fin e1) := by
  rw [ev_call, ha, bind_ok]
  unfold callE
  rw [if_pos ok]
  simp only [hs, h]
theorem e_callN {f : Str} {e1 : List Slot} {xs : List EV} {ss fin : List Slot} {d : D} (ha : evs B F es e = .ok xs e1) (ok : argsOk xs = true) (hs : toSlots e1 xs = some ss) (h : F f ss = .new d fin) : ev B F (.callN f es) e = .ok (.sh d) (giveBack xs fin e1) := by
  rw [ev_callN, ha, bind_ok]
  unfold callNE
  rw [if_pos ok]
  simp only [hs, h]
theorem t_of {e1 : List Slot} {x : EV} {d : D} {k : Bool} (hp : plainT a = true) (ha : ev B F a e = .ok x e1) (hx : cont e1 x = some d) (h : truD d = some k) : evT B F a e = .ok k e1 := by
  rw [evT_plain hp, ha, bind_ok]
  unfold tru1
  rw [hx, Option.bind_some, h]
/-! statements -/
variable {r : List S} {st : S}
@[simp] theorem evB_nil : evB B F wf [] e = .ok .nx e := by rw [evB]
theorem evB_cons : evB B F wf (st :: r) e = seqO (evS B F wf st e) fun e => evB B F wf r e := by rw [evB]
theorem b_nx {e1 : List Slot} (h : evS B F wf st e = .ok .nx e1) : evB B F wf (st :: r) e = evB B F wf r e1 := by rw [evB_cons, h]; rfl
theorem b_rt {e1 : List Slot} {d : D} (h : evS B F wf st e = .ok (.rt d) e1) : evB B F wf (st :: r) e = .ok (.rt d) e1 := by rw [evB_cons, h]; rfl
theorem b_rn {e1 : List Slot} {d : D} (h : evS B F wf st e = .ok (.rn d) e1) : evB B F wf (st :: r) e = .ok (.rn d) e1 := by rw [evB_cons, h]; rfl
theorem s_asg_ {t : Tgt} {d : D} {e1 e2 : List Slot} (h : ev B F a e = .ok (.sh d) e1) (hb : bindT t d e1 = some e2) : evS B F wf (.asg t a) e = .ok .nx e2 := by
  rw [evS, h, bind_ok]
  simp only [hb]
theorem s_own_ {i : Nat} {d : D} {e1 : List Slot} (h : ev B F a e = .ok (.sh d) e1) (hl : i < e1.length) : evS B F wf (.own i a) e = .ok .nx (e1.set i (.ow d)) := by
  rw [evS, h, bind_ok]
  simp only [hl, if_true]
theorem s_par_ {is : List Nat} {xs : List EV} {ds : List D} {e1 : List Slot} (h : evs B F es e = .ok xs e1) (hs : shs xs = some ds) (hl : is.length = ds.length ∧ is.all (fun i => decide (i < e1.length)) = true) : evS B F wf (.par is es) e = .ok .nx (setAll is ds e1) := by
  rw [evS, h, bind_ok]
  simp only [hs, if_pos hl]
theorem s_setK_ {i : Nat} {z : Str} {d : D} {kvs : List (Key × D)} {e1 : List Slot} (h : ev B F a e = .ok (.sh d) e1) (hc : cont e1 (.pl i) = some (.dic kvs)) (hl : kvs.length < sizeLine) : evS B F wf (.setK i (.c (.str z)) a) e = .ok .nx (upCt e1 i (.dic (putD kvs (.inr z) d))) := by
  rw [evS, h, bind_ok]
  simp only [hc, ev_c, bind_ok, hl, if_true]
theorem s_ret_ {d : D} {e1 : List Slot} (h : ev B F a e = .ok (.sh d) e1) : evS B F wf (.ret a) e = .ok (.rt d) e1 := by
  rw [evS, h, bind_ok]
theorem s_retN_ {d : D} {e1 : List Slot} (h : ev B F a e = .ok (.sh d) e1) : evS B F wf (.retN a) e = .ok (.rn d) e1 := by
  rw [evS, h, bind_ok]
theorem s_ifT {p q : List S} {e1 : List Slot} (h : evT B F a e = .ok true e1) : evS B F wf (.ife a p q) e = evB B F wf p e1 := by
  rw [evS, h, bind_ok, if_pos rfl]
theorem s_ifF {p q : List S} {e1 : List Slot} (h : evT B F a e = .ok false e1) : evS B F wf (.ife a p q) e = evB B F wf q e1 := by
  rw [evS, h, bind_ok, if_neg (by decide)]
def turnF (B : Blt → List D → Option D) (F : Str → List Slot → CR) (wf : Nat) (t : Tgt) (b : List S) (d : D) (e : List Slot) : R Out := match bindT t d e with
  | some e' => evB B F wf b e'
  | none => .stuck
theorem s_loop_ {k : ItK} {t : Tgt} {b : List S} {xs : List EV} {ds : List D} {e1 : List Slot} (h : evs B F es e = .ok xs e1) (hi : (shs xs).bind (itemsOf k) = some ds) : evS B F wf (.loop k es t b) e = loopF (turnF B F wf t b) ds e1 := by
  rw [evS, h, bind_ok]
  simp only [hi]
  rfl
theorem turn_ {t : Tgt} {b : List S} {d : D} {e1 : List Slot} (h : bindT t d e = some e1) : turnF B F wf t b d e = evB B F wf b e1 := by
  unfold turnF
  rw [h]
/-! a loop by what holds between its turns -/
theorem loopF_all {t : D → List Slot → R Out} (P : List D → List Slot → Prop) (h : ∀ pre d e, P pre e → ∃ e', t d e = .ok .nx e' ∧ P (pre ++ [d]) e') : ∀ (post pre : List D) (e : List Slot), P pre e → ∃ e', loopF t post e = .ok .nx e' ∧ P (pre ++ post) e'
  | [], pre, e, p => ⟨e, rfl, by simpa using p⟩
  | d :: post, pre, e, p => by
    obtain ⟨e1, h1, h2⟩ := h pre d e p
    obtain ⟨e2, h3, h4⟩ := loopF_all P h post (pre ++ [d]) e1 h2
    refine ⟨e2, ?_, by simpa using h4⟩
    rw [loopF, h1]
    exact h3
end
end Ow

end
end

section
set_option Elab.async false
set_option linter.all false
set_option maxRecDepth 100000
set_option maxHeartbeats 0
namespace K00
open PySem PySem.Spec PyProof.Rows L2 Ow
/-! ### the text by places -/
def top (i : Nat) : Stmt := PySem.Challenge.pw_sevenpoints_k00_errors_made_by_hand.main.body.getD i (.Pass ⟨0, 0, 0, 0⟩)
def dM (c : Str) (i : Nat) (q : Str) : He.DefD := ⟨(c, some "__init__"), "__init__", q, defArgs (inClass (top i) 0), defBody (inClass (top i) 0), defScope (inClass (top i) 0), [], []⟩
def dF (x : Str) (i : Nat) : He.DefD := ⟨(x, none), x, x, defArgs (top i), defBody (top i), defScope (top i), [], []⟩
def fn : List He.DefD := [dM "BadNumber" 2 "BadNumber.__init__", dM "BadProgram" 3 "BadProgram.__init__", dM "BadText" 4 "BadText.__init__", dM "BadName" 5 "BadName.__init__", dM "NoName" 6 "NoName.__init__", dM "TakenName" 7 "TakenName.__init__", dM "BadRow" 8 "BadRow.__init__",
  dM "BadPlace" 9 "BadPlace.__init__", dM "BadPoint" 10 "BadPoint.__init__", dM "Unlike" 11 "Unlike.__init__", dM "TooMany" 12 "TooMany.__init__", dM "NotKept" 13 "NotKept.__init__", dM "BadPromise" 14 "BadPromise.__init__",
  dF "_law_pen" 18, dF "_law_draw" 19, dF "_law_pick" 20, dF "_law_far" 21, dF "_law_kinds" 22, dF "_law_made" 23, dF "_law_fields" 24, dF "_law_value" 25, dF "law" 26]
/-- the classes with what they keep -/
def made : List (Str × List Str) := [("BadNumber", ["what", "value"]), ("BadProgram", ["value"]), ("BadText", ["line", "column"]), ("BadName", ["name"]), ("NoName", ["name"]), ("TakenName", ["name"]), ("BadRow", ["value"]), ("BadPlace", ["value"]), ("BadPoint", ["value"]), ("Unlike", ["what"]),
  ("TooMany", ["what", "limit"]), ("NotKept", ["promise", "witness"]), ("BadPromise", ["column"])]
def bare : List Str := ["NothingToUndo", "NothingToRedo"]
def all15 : List Str := made.map (·.1) ++ bare
def fa : List He.Fa := (all15 ++ (["PointError", "_law_pen", "_law_draw", "_law_pick", "_law_far", "_law_kinds", "_law_made", "_law_fields", "_law_value", "law"] : List Str)).map He.Fa.glo ++ (["int", "list", "len", "range", "str", "abs", "isinstance", "enumerate", "repr", "ValueError"] : List Str).map He.Fa.free
/-- isinstance of each with each -/
def kits (K : PySem.W.Frag) : Bool := all15.all fun c => (all15.all fun d => decide (PySem.W.kitOne K (.ref (cA K c)) (.ref (cA K d)) = some (decide (c = d)))) && (decide (PySem.W.kitOne K (.ref (cA K c)) (.ref (cA K "PointError")) = some true) && decide (PySem.W.kitOne K (.ref (cA K c)) (.type "ValueError") = some true))
def ex (K : PySem.W.Frag) : Bool := (made.all fun p => errB K p.1 p.2) && ((bare.all fun c => err0B K c) && kits K)
abbrev R : PySem.W.OpenRow := PySem.W.OpenLaw.row PySem.Challenge.rw_sevenpoints_k00_errors_made_by_hand
abbrev hk : PySem.W.Hook := He.hookX 4 fa fn [] [] ex
def ob (s : PySem.W.SharedT) : He.AlX := He.obsX 4 fa fn [] [] ex (HandSHeadRun.getT s)
theorem ob_eq (s : PySem.W.SharedT) : ob s = hk.obs s.abs := He.obsX_eq (HandSHeadRun.getT_eq s)
def others : List PySem.Str := ["__name__", "PointError", "BadNumber", "BadProgram", "BadText", "BadName", "NoName", "TakenName", "BadRow", "BadPlace", "BadPoint", "Unlike", "TooMany", "NotKept", "BadPromise", "NothingToUndo", "NothingToRedo", "_law_pen", "_law_draw", "_law_pick", "_law_far", "_law_kinds", "_law_made", "_law_fields", "_law_value"]
theorem run (w : World) : HandSHeadRun.RunEq R (PySem.W.view R.prog [26]) hk ob 6000 others w := by
  intro os
  kernel_rfl
end K00

end

section
set_option Elab.async false
set_option linter.all false
set_option maxRecDepth 100000
set_option maxHeartbeats 4000000
noncomputable section
namespace K00
open PySem PySem.Spec PyProof.Rows L2 Ow
/-! ### the bodies, stripped -/
def kitT (t : Str) : List (Str × Bool) := all15.map fun c => (c, decide (c = t) || decide (t = "PointError") || decide (t = "ValueError"))
abbrev S := Ow.S
abbrev D := Ow.D
/-- _law_pen: slots script, fold, cell -/
def b_law_pen : List S := [(.asg (.nm 1) (.c (.int 0))), (.loop .seq [(.var 0)] (.nm 2) [(.asg (.nm 1) (.bin .Mod (.blt .int [(.bin .Add (.bin .Mult (.var 1) (.c (.int 47))) (.var 2))]) (.c (.int 1000000007))))]), (.retN (.dct [(.inr "cells", (.blt .list [(.var 0)])), (.inr "at", (.c (.int 0))), (.inr "digits", (.c (.int 0))), (.inr "count", (.c (.int 0))), (.inr "fold", (.var 1))]))]
/-- _law_draw: slots pen, many, mixed, cell, digit -/
def b_law_draw : List S := [(.setK 0 (.c (.str "count")) (.bin .Add (.dget (.var 0) (.c (.str "count"))) (.c (.int 1)))), (.ife (.and (.cmp .Eq (.dget (.var 0) (.c (.str "digits"))) (.c (.int 0))) (.cmp .Lt (.dget (.var 0) (.c (.str "at"))) (.blt .len [(.dget (.var 0) (.c (.str "cells")))]))) [(.asg (.nm 3) (.idx (.dget (.var 0) (.c (.str "cells"))) (.dget (.var 0) (.c (.str "at"))))), (.setK 0 (.c (.str "at")) (.bin .Add (.dget (.var 0) (.c (.str "at"))) (.c (.int 1)))), (.ife (.cmp .GtE (.var 3) (.bin .Pow (.c (.int 10)) (.c (.int 18)))) [(.setK 0 (.c (.str "digits")) (.bin .Sub (.var 3) (.bin .Pow (.c (.int 10)) (.c (.int 18)))))] [(.setK 0 (.c (.str "fold")) (.bin .Mod (.blt .int [(.bin .Add (.bin .Mult (.dget (.var 0) (.c (.str "fold"))) (.c (.int 22695477))) (.var 3))]) (.c (.int 2147483587))))])] []), (.ife (.cmp .Gt (.dget (.var 0) (.c (.str "digits"))) (.c (.int 0))) [(.asg (.nm 4) (.bin .Mod (.blt .int [(.dget (.var 0) (.c (.str "digits")))]) (.var 1))), (.setK 0 (.c (.str "digits")) (.bin .FloorDiv (.dget (.var 0) (.c (.str "digits"))) (.var 1))), (.ret (.var 4))] []), (.asg (.nm 2) (.bin .Add (.bin .Add (.dget (.var 0) (.c (.str "fold"))) (.bin .Mult (.dget (.var 0) (.c (.str "count"))) (.c (.int 8011)))) (.c (.int 43)))), (.ret (.bin .Mod (.bin .FloorDiv (.blt .int [(.bin .Mod (.bin .Pow (.var 2) (.c (.int 17))) (.c (.int 2305843009213693951)))]) (.c (.int 128))) (.var 1)))]
/-- _law_pick: slots pen, some -/
def b_law_pick : List S := [(.ret (.idx (.var 1) (.call "_law_draw" [(.var 0), (.blt .len [(.var 1)])])))]
/-- _law_far: slots pen, lap, sign, many, far -/
def b_law_far : List S := [(.par [2, 3, 4] [(.bin .Sub (.c (.int 1)) (.bin .Mult (.c (.int 2)) (.call "_law_draw" [(.var 0), (.c (.int 2))]))), (.call "_law_pick" [(.var 0), (.lst [(.c (.int 0)), (.c (.int 0)), (.c (.int 1)), (.c (.int 3)), (.c (.int 9))])]), (.call "_law_draw" [(.var 0), (.c (.int 40))])]), (.loop .rng1 [(.var 3)] (.nm 1) [(.asg (.nm 4) (.bin .Add (.bin .Mult (.var 4) (.bin .Pow (.c (.int 10)) (.c (.int 6)))) (.call "_law_draw" [(.var 0), (.bin .Pow (.c (.int 10)) (.c (.int 6)))])))]), (.ret (.bin .Mult (.var 2) (.var 4)))]
/-- _law_kinds: slots e, first -/
def b_law_kinds : List S := [(.asg (.nm 1) (.lst [(.isiE (.var 0) "BadNumber" (kitT "BadNumber")), (.isiE (.var 0) "BadProgram" (kitT "BadProgram")), (.isiE (.var 0) "BadText" (kitT "BadText")), (.isiE (.var 0) "BadName" (kitT "BadName"))])), (.asg (.nm 1) (.bin .Add (.var 1) (.lst [(.isiE (.var 0) "NoName" (kitT "NoName")), (.isiE (.var 0) "TakenName" (kitT "TakenName")), (.isiE (.var 0) "BadRow" (kitT "BadRow")), (.isiE (.var 0) "BadPlace" (kitT "BadPlace"))]))), (.asg (.nm 1) (.bin .Add (.var 1) (.lst [(.isiE (.var 0) "BadPoint" (kitT "BadPoint")), (.isiE (.var 0) "Unlike" (kitT "Unlike")), (.isiE (.var 0) "TooMany" (kitT "TooMany")), (.isiE (.var 0) "NotKept" (kitT "NotKept"))]))), (.ret (.bin .Add (.var 1) (.lst [(.isiE (.var 0) "BadPromise" (kitT "BadPromise")), (.isiE (.var 0) "NothingToUndo" (kitT "NothingToUndo")), (.isiE (.var 0) "NothingToRedo" (kitT "NothingToRedo"))])))]
/-- _law_made: slots a, b, first -/
def b_law_made : List S := [(.asg (.nm 2) (.lst [(.err "BadNumber" ["what", "value"] [(.var 0), (.var 1)]), (.err "BadProgram" ["value"] [(.var 0)]), (.err "BadText" ["line", "column"] [(.var 0), (.var 1)]), (.err "BadName" ["name"] [(.var 0)]), (.err "NoName" ["name"] [(.var 0)]), (.err "TakenName" ["name"] [(.var 0)]), (.err "BadRow" ["value"] [(.var 0)])])), (.asg (.nm 2) (.bin .Add (.var 2) (.lst [(.err "BadPlace" ["value"] [(.var 0)]), (.err "BadPoint" ["value"] [(.var 0)]), (.err "Unlike" ["what"] [(.var 0)]), (.err "TooMany" ["what", "limit"] [(.var 0), (.var 1)]), (.err "NotKept" ["promise", "witness"] [(.var 0), (.var 1)]), (.err "BadPromise" ["column"] [(.var 0)])]))), (.ret (.bin .Add (.var 2) (.lst [(.err "NothingToUndo" [] []), (.err "NothingToRedo" [] [])])))]
/-- _law_fields: slots row, first -/
def b_law_fields : List S := [(.asg (.nm 1) (.lst [(.lst [(.attE (.idx (.var 0) (.c (.int 0))) "what" ["BadNumber", "Unlike", "TooMany"]), (.attE (.idx (.var 0) (.c (.int 0))) "value" ["BadNumber", "BadProgram", "BadRow", "BadPlace", "BadPoint"])]), (.lst [(.attE (.idx (.var 0) (.c (.int 1))) "value" ["BadNumber", "BadProgram", "BadRow", "BadPlace", "BadPoint"])]), (.lst [(.attE (.idx (.var 0) (.c (.int 2))) "line" ["BadText"]), (.attE (.idx (.var 0) (.c (.int 2))) "column" ["BadText", "BadPromise"])]), (.lst [(.attE (.idx (.var 0) (.c (.int 3))) "name" ["BadName", "NoName", "TakenName"])])])), (.asg (.nm 1) (.bin .Add (.var 1) (.lst [(.lst [(.attE (.idx (.var 0) (.c (.int 4))) "name" ["BadName", "NoName", "TakenName"])]), (.lst [(.attE (.idx (.var 0) (.c (.int 5))) "name" ["BadName", "NoName", "TakenName"])]), (.lst [(.attE (.idx (.var 0) (.c (.int 6))) "value" ["BadNumber", "BadProgram", "BadRow", "BadPlace", "BadPoint"])]), (.lst [(.attE (.idx (.var 0) (.c (.int 7))) "value" ["BadNumber", "BadProgram", "BadRow", "BadPlace", "BadPoint"])]), (.lst [(.attE (.idx (.var 0) (.c (.int 8))) "value" ["BadNumber", "BadProgram", "BadRow", "BadPlace", "BadPoint"])]), (.lst [(.attE (.idx (.var 0) (.c (.int 9))) "what" ["BadNumber", "Unlike", "TooMany"])])]))), (.ret (.bin .Add (.var 1) (.lst [(.lst [(.attE (.idx (.var 0) (.c (.int 10))) "what" ["BadNumber", "Unlike", "TooMany"]), (.attE (.idx (.var 0) (.c (.int 10))) "limit" ["TooMany"])]), (.lst [(.attE (.idx (.var 0) (.c (.int 11))) "promise" ["NotKept"]), (.attE (.idx (.var 0) (.c (.int 11))) "witness" ["NotKept"])]), (.lst [(.attE (.idx (.var 0) (.c (.int 12))) "column" ["BadText", "BadPromise"])]), (.lst []), (.lst [])])))]
/-- _law_value: slots pen, far, some -/
def b_law_value : List S := [(.asg (.nm 1) (.call "_law_far" [(.var 0)])), (.asg (.nm 2) (.lst [(.var 1), (.bin .Add (.c (.str "x")) (.blt .str [(.bin .Mod (.blt .abs [(.var 1)]) (.c (.int 1000)))])), (.c .non), (.tup [(.var 1), (.c (.str "a"))]), (.lst [(.var 1)]), (.c (.bl true)), (.c (.str ""))])), (.ret (.call "_law_pick" [(.var 0), (.bin .Add (.var 2) (.lst [(.tup [(.c (.str "least")), (.c (.int 2))]), (.tup [(.c (.str "rest")), (.c (.int 2)), (.lst [(.c (.int 1))])])]))]))]
/-- law: slots script, pen, given, row, fields, k, e, j -/
def blaw : List S := [(.own 1 (.callN "_law_pen" [(.var 0)])), (.asg (.nm 2) (.comp .rng1 [(.c (.int 2))] (.nm 5) [5] [] (.call "_law_value" [(.var 1)]))), (.asg (.nm 3) (.call "_law_made" [(.idx (.var 2) (.c (.int 0))), (.idx (.var 2) (.c (.int 1)))])), (.loop .enm [(.var 3)] (.tp [5, 6]) [(.ife (.or (.not (.isiE (.var 6) "PointError" (kitT "PointError"))) (.not (.isiE (.var 6) "ValueError" (kitT "ValueError")))) [(.ret (.c (.bl false)))] []), (.ife (.cmp .NotEq (.call "_law_kinds" [(.var 6)]) (.comp .rng1 [(.blt .len [(.var 3)])] (.nm 7) [7] [] (.cmp .Eq (.var 7) (.var 5)))) [(.ret (.c (.bl false)))] [])]), (.loop .seq [(.call "_law_fields" [(.var 3)])] (.nm 4) [(.ife (.or (.cmp .NotEq (.var 4) (.slc (.var 2) (.c .non) (.blt .len [(.var 4)]))) (.cmp .NotEq (.blt .repr [(.var 4)]) (.blt .repr [(.slc (.var 2) (.c .non) (.blt .len [(.var 4)]))]))) [(.ret (.c (.bl false)))] [])]), (.ret (.cmp .Eq (.comp .seq [(.call "_law_fields" [(.var 3)])] (.nm 4) [4] [] (.blt .len [(.var 4)])) (.lst [(.c (.int 2)), (.c (.int 1)), (.c (.int 2)), (.c (.int 1)), (.c (.int 1)), (.c (.int 1)), (.c (.int 1)), (.c (.int 1)), (.c (.int 1)), (.c (.int 1)), (.c (.int 2)), (.c (.int 2)), (.c (.int 1)), (.c (.int 0)), (.c (.int 0))])))]
def wf : Nat := 100
def tbl : List (Str × (Nat × Nat × List S)) := [("_law_pen", 1, 3, b_law_pen), ("_law_draw", 2, 5, b_law_draw), ("_law_pick", 2, 2, b_law_pick), ("_law_far", 1, 5, b_law_far), ("_law_kinds", 1, 2, b_law_kinds), ("_law_made", 2, 3, b_law_made), ("_law_fields", 1, 2, b_law_fields), ("_law_value", 1, 3, b_law_value), ("law", 1, 8, blaw)]
def FF : Nat → Str → List Slot → CR
  | 0, _, _ => .stuck
  | n + 1, x, ss => match tbl.lookup x with
    | some (a, m, b) => if ss.length = a then runDef B0 (FF n) wf m b ss else .stuck
    | none => .stuck
theorem FF_at {x : Str} {a m : Nat} {b : List S} (h : tbl.lookup x = some (a, m, b)) (n : Nat) (ss : List Slot) : FF (n + 1) x ss = if ss.length = a then runDef B0 (FF n) wf m b ss else .stuck := by
  unfold FF
  rw [h]
theorem FF_or {x : Str} {a m : Nat} {b : List S} (h : tbl.lookup x = some (a, m, b)) (n : Nat) (ss : List Slot) : FF (n + 1) x ss = .stuck ∨ FF (n + 1) x ss = runDef B0 (FF n) wf m b ss := by
  rw [FF_at h]
  by_cases e : ss.length = a
  · rw [if_pos e]
    exact .inr rfl
  · rw [if_neg e]
    exact .inl rfl
theorem FF_ar {x : Str} {a m : Nat} {b : List S} (h : tbl.lookup x = some (a, m, b)) (n : Nat) (ss : List Slot) (q : FF n x ss ≠ .stuck) : ss.length = a := by
  cases n with
  | zero => exact absurd rfl q
  | succ n =>
    rw [FF_at h] at q
    by_cases e : ss.length = a
    · exact e
    · rw [if_neg e] at q
      exact absurd rfl q
theorem tbl_law_pen : tbl.lookup ("_law_pen" : Str) = some (1, 3, b_law_pen) := by kernel_rfl
theorem tbl_law_draw : tbl.lookup ("_law_draw" : Str) = some (2, 5, b_law_draw) := by kernel_rfl
theorem tbl_law_pick : tbl.lookup ("_law_pick" : Str) = some (2, 2, b_law_pick) := by kernel_rfl
theorem tbl_law_far : tbl.lookup ("_law_far" : Str) = some (1, 5, b_law_far) := by kernel_rfl
theorem tbl_law_kinds : tbl.lookup ("_law_kinds" : Str) = some (1, 2, b_law_kinds) := by kernel_rfl
theorem tbl_law_made : tbl.lookup ("_law_made" : Str) = some (2, 3, b_law_made) := by kernel_rfl
theorem tbl_law_fields : tbl.lookup ("_law_fields" : Str) = some (1, 2, b_law_fields) := by kernel_rfl
theorem tbl_law_value : tbl.lookup ("_law_value" : Str) = some (1, 3, b_law_value) := by kernel_rfl
theorem tbllaw : tbl.lookup ("law" : Str) = some (1, 8, blaw) := by kernel_rfl
def frees : List Str := ["int", "list", "len", "range", "str", "abs", "isinstance", "enumerate", "repr", "ValueError"]
def globs : List Str := all15 ++ (["PointError", "_law_pen", "_law_draw", "_law_pick", "_law_far", "_law_kinds", "_law_made", "_law_fields", "_law_value", "law"] : List Str)
structure Base (K : Fr) (mg : Str → Option Value) : Prop where
  says : He.SaysD fa fn K
  more : ex K = true
  free_ : ∀ x ∈ frees, mg x = none
  glo_ : ∀ x ∈ globs, mg x = some (.ref (cA K x))
structure Facts (P : Program) (w : World) (K : Fr) (mg : Str → Option Value) (base : Heap) (n : Nat) : Prop where
  b : Base K mg
  f_law_pen : Fd P w K mg base (n + 3) (FF n) "_law_pen" 1
  f_law_draw : Fd P w K mg base (n + 3) (FF n) "_law_draw" 2
  f_law_pick : Fd P w K mg base (n + 3) (FF n) "_law_pick" 2
  f_law_far : Fd P w K mg base (n + 3) (FF n) "_law_far" 1
  f_law_kinds : Fd P w K mg base (n + 3) (FF n) "_law_kinds" 1
  f_law_made : Fd P w K mg base (n + 3) (FF n) "_law_made" 2
  f_law_fields : Fd P w K mg base (n + 3) (FF n) "_law_fields" 1
  f_law_value : Fd P w K mg base (n + 3) (FF n) "_law_value" 1
  flaw : Fd P w K mg base (n + 3) (FF n) "law" 1
section
variable {P : Program} {w : World} {K : Fr} {mg : Str → Option Value} {base : Heap} {n : Nat}
theorem Base.err (b : Base K mg) {c : Str} {fs : List Str} (h : (c, fs) ∈ made) : ErrC K c fs := by
  have z := b.more
  unfold ex at z
  obtain ⟨z1, _⟩ := Bool.and_eq_true_iff.mp z
  exact errB_ok (List.all_eq_true.mp z1 (c, fs) h)
theorem Base.bare_ (b : Base K mg) {c : Str} (h : c ∈ bare) : PySem.W.excIn K (cA K c) He.veBase "ValueError.__new__" = true ∧ PySem.W.keepIn K (.ref (cA K c)) = true ∧ ExcC K (cA K c) := by
  have z := b.more
  unfold ex at z
  obtain ⟨_, z2⟩ := Bool.and_eq_true_iff.mp z
  obtain ⟨z3, _⟩ := Bool.and_eq_true_iff.mp z2
  exact err0B_ok (List.all_eq_true.mp z3 c h)
theorem Base.kits_ (b : Base K mg) {c : Str} (h : c ∈ all15) : (∀ d ∈ all15, PySem.W.kitOne K (.ref (cA K c)) (.ref (cA K d)) = some (decide (c = d))) ∧ PySem.W.kitOne K (.ref (cA K c)) (.ref (cA K "PointError")) = some true ∧ PySem.W.kitOne K (.ref (cA K c)) (.type "ValueError") = some true := by
  have z := b.more
  unfold ex at z
  obtain ⟨_, z2⟩ := Bool.and_eq_true_iff.mp z
  obtain ⟨_, z3⟩ := Bool.and_eq_true_iff.mp z2
  unfold kits at z3
  have z4 := List.all_eq_true.mp z3 c h
  simp only [Bool.and_eq_true, decide_eq_true_eq, List.all_eq_true] at z4
  exact z4
theorem Base.exc (b : Base K mg) {c : Str} (h : c ∈ all15) : ExcC K (cA K c) := by
  unfold all15 at h
  rcases List.mem_append.mp h with h | h
  · obtain ⟨p, hp, rfl⟩ := List.mem_map.mp h
    exact (b.err (c := p.1) (fs := p.2) hp).exc
  · exact (b.bare_ h).2.2
theorem lookup_map {α β : Type} [BEq α] [LawfulBEq α] {f : α → β} : ∀ {l : List α} {a : α} {v : β}, (l.map fun x => (x, f x)).lookup a = some v → a ∈ l ∧ v = f a
  | [], _, _, h => by cases h
  | x :: l, a, v, h => by
    have h : (match a == x with | true => some (f x) | false => (l.map fun x => (x, f x)).lookup a) = some v := h
    cases e : a == x with
    | true =>
      rw [e] at h
      have := eq_of_beq e
      subst this
      exact ⟨List.mem_cons_self, (Option.some.inj h).symm⟩
    | false =>
      rw [e] at h
      obtain ⟨h1, h2⟩ := lookup_map h
      exact ⟨List.mem_cons_of_mem _ h1, h2⟩
theorem Facts.free (c : Facts P w K mg base n) (x : Str) (h : x ∈ frees := by decide +kernel) : mg x = none := c.b.free_ x h
theorem Facts.glo (c : Facts P w K mg base n) (x : Str) (h : x ∈ globs := by decide +kernel) : mg x = some (.ref (cA K x)) := c.b.glo_ x h
theorem Facts.kit (c : Facts P w K mg base n) (t : Str) {u : Value} (h : (t ∈ all15 ∧ u = .ref (cA K t)) ∨ (t = "PointError" ∧ u = .ref (cA K t)) ∨ (t = "ValueError" ∧ u = .type "ValueError") := by first | exact .inl ⟨by decide +kernel, rfl⟩ | exact .inr (.inl ⟨rfl, rfl⟩) | exact .inr (.inr ⟨rfl, rfl⟩)) :
    ∀ d k, (kitT t).lookup d = some k → ExcC K (cA K d) ∧ PySem.W.kitOne K (.ref (cA K d)) u = some k := fun d k q => by
  obtain ⟨q1, rfl⟩ := lookup_map q
  obtain ⟨k1, k2, k3⟩ := c.b.kits_ q1
  refine ⟨c.b.exc q1, ?_⟩
  rcases h with ⟨h, rfl⟩ | ⟨rfl, rfl⟩ | ⟨rfl, rfl⟩
  · have n1 : ("PointError" : Str) ∉ all15 := by decide +kernel
    have n2 : ("ValueError" : Str) ∉ all15 := by decide +kernel
    rw [k1 t h, decide_eq_false (fun z : t = "PointError" => n1 (by rw [← z]; exact h)), decide_eq_false (fun z : t = "ValueError" => n2 (by rw [← z]; exact h)), Bool.or_false, Bool.or_false]
  · rw [k2, decide_eq_true (rfl : ("PointError" : Str) = "PointError"), Bool.or_true, Bool.true_or]
  · rw [k3, decide_eq_true (rfl : ("ValueError" : Str) = "ValueError"), Bool.or_true]
theorem Facts.att (c : Facts P w K mg base n) (f : Str) {cs : List Str} (h : (cs.all fun d => made.any fun p => decide (p.1 = d) && p.2.contains f) = true := by decide +kernel) : ∀ d ∈ cs, XfC K (cA K d) ∧ PySem.W.findIn K (.ref (cA K d)) f = some none := fun d hd => by
  obtain ⟨p, hp, e⟩ := List.any_eq_true.mp (List.all_eq_true.mp h d hd)
  obtain ⟨e1, e2⟩ := Bool.and_eq_true_iff.mp e
  have e1 := of_decide_eq_true e1
  subst e1
  have er := c.b.err (c := p.1) (fs := p.2) hp
  exact ⟨xfC_of er.exc, er.no f (List.contains_iff_mem.mp e2)⟩
theorem Base.eBadNumber (b : Base K mg) : Er P w K mg base "BadNumber" ["what", "value"] := by
  have er := b.err (c := "BadNumber") (fs := ["what", "value"]) (by decide +kernel)
  obtain ⟨fd, F⟩ := b.says.def_ 0 (d := dM "BadNumber" 2 "BadNumber.__init__") rfl
  have sc : FnScope ["self", "what", "value"] ["self", "what", "value"] (defScope (inClass (top 2) 0)) := ⟨rfl, rfl, rfl, by decide +kernel, rfl, by decide +kernel, by decide +kernel⟩
  exact ⟨er, ⟨fd, ["self", "what", "value"], init2 (f1 := "what") (a1 := "what") (f2 := "value") (a2 := "value") F sc rfl rfl rfl (by decide) (by decide) (by decide) (by decide) er.oex (er.no "what" (by decide +kernel)) (er.no "value" (by decide +kernel)) (by decide +kernel), F.bindsN fun _ _ _ _ _ _ us hl => match us, hl with | [_, _, _], _ => rfl⟩, b.glo_ _ (by decide +kernel), by decide⟩
theorem Facts.eBadNumber (c : Facts P w K mg base n) : Er P w K mg base "BadNumber" ["what", "value"] := c.b.eBadNumber
theorem Base.eBadProgram (b : Base K mg) : Er P w K mg base "BadProgram" ["value"] := by
  have er := b.err (c := "BadProgram") (fs := ["value"]) (by decide +kernel)
  obtain ⟨fd, F⟩ := b.says.def_ 1 (d := dM "BadProgram" 3 "BadProgram.__init__") rfl
  have sc : FnScope ["self", "value"] ["self", "value"] (defScope (inClass (top 3) 0)) := ⟨rfl, rfl, rfl, by decide +kernel, rfl, by decide +kernel, by decide +kernel⟩
  exact ⟨er, ⟨fd, ["self", "value"], init1 (f1 := "value") (a1 := "value") F sc rfl rfl (by decide) (by decide) er.oex (er.no "value" (by decide +kernel)), F.bindsN fun _ _ _ _ _ _ us hl => match us, hl with | [_, _], _ => rfl⟩, b.glo_ _ (by decide +kernel), by decide⟩
theorem Facts.eBadProgram (c : Facts P w K mg base n) : Er P w K mg base "BadProgram" ["value"] := c.b.eBadProgram
theorem Base.eBadText (b : Base K mg) : Er P w K mg base "BadText" ["line", "column"] := by
  have er := b.err (c := "BadText") (fs := ["line", "column"]) (by decide +kernel)
  obtain ⟨fd, F⟩ := b.says.def_ 2 (d := dM "BadText" 4 "BadText.__init__") rfl
  have sc : FnScope ["self", "line", "column"] ["self", "line", "column"] (defScope (inClass (top 4) 0)) := ⟨rfl, rfl, rfl, by decide +kernel, rfl, by decide +kernel, by decide +kernel⟩
  exact ⟨er, ⟨fd, ["self", "line", "column"], init2 (f1 := "line") (a1 := "line") (f2 := "column") (a2 := "column") F sc rfl rfl rfl (by decide) (by decide) (by decide) (by decide) er.oex (er.no "line" (by decide +kernel)) (er.no "column" (by decide +kernel)) (by decide +kernel), F.bindsN fun _ _ _ _ _ _ us hl => match us, hl with | [_, _, _], _ => rfl⟩, b.glo_ _ (by decide +kernel), by decide⟩
theorem Facts.eBadText (c : Facts P w K mg base n) : Er P w K mg base "BadText" ["line", "column"] := c.b.eBadText
theorem Base.eBadName (b : Base K mg) : Er P w K mg base "BadName" ["name"] := by
  have er := b.err (c := "BadName") (fs := ["name"]) (by decide +kernel)
  obtain ⟨fd, F⟩ := b.says.def_ 3 (d := dM "BadName" 5 "BadName.__init__") rfl
  have sc : FnScope ["self", "name"] ["self", "name"] (defScope (inClass (top 5) 0)) := ⟨rfl, rfl, rfl, by decide +kernel, rfl, by decide +kernel, by decide +kernel⟩
  exact ⟨er, ⟨fd, ["self", "name"], init1 (f1 := "name") (a1 := "name") F sc rfl rfl (by decide) (by decide) er.oex (er.no "name" (by decide +kernel)), F.bindsN fun _ _ _ _ _ _ us hl => match us, hl with | [_, _], _ => rfl⟩, b.glo_ _ (by decide +kernel), by decide⟩
theorem Facts.eBadName (c : Facts P w K mg base n) : Er P w K mg base "BadName" ["name"] := c.b.eBadName
theorem Base.eNoName (b : Base K mg) : Er P w K mg base "NoName" ["name"] := by
  have er := b.err (c := "NoName") (fs := ["name"]) (by decide +kernel)
  obtain ⟨fd, F⟩ := b.says.def_ 4 (d := dM "NoName" 6 "NoName.__init__") rfl
  have sc : FnScope ["self", "name"] ["self", "name"] (defScope (inClass (top 6) 0)) := ⟨rfl, rfl, rfl, by decide +kernel, rfl, by decide +kernel, by decide +kernel⟩
  exact ⟨er, ⟨fd, ["self", "name"], init1 (f1 := "name") (a1 := "name") F sc rfl rfl (by decide) (by decide) er.oex (er.no "name" (by decide +kernel)), F.bindsN fun _ _ _ _ _ _ us hl => match us, hl with | [_, _], _ => rfl⟩, b.glo_ _ (by decide +kernel), by decide⟩
theorem Facts.eNoName (c : Facts P w K mg base n) : Er P w K mg base "NoName" ["name"] := c.b.eNoName
theorem Base.eTakenName (b : Base K mg) : Er P w K mg base "TakenName" ["name"] := by
  have er := b.err (c := "TakenName") (fs := ["name"]) (by decide +kernel)
  obtain ⟨fd, F⟩ := b.says.def_ 5 (d := dM "TakenName" 7 "TakenName.__init__") rfl
  have sc : FnScope ["self", "name"] ["self", "name"] (defScope (inClass (top 7) 0)) := ⟨rfl, rfl, rfl, by decide +kernel, rfl, by decide +kernel, by decide +kernel⟩
  exact ⟨er, ⟨fd, ["self", "name"], init1 (f1 := "name") (a1 := "name") F sc rfl rfl (by decide) (by decide) er.oex (er.no "name" (by decide +kernel)), F.bindsN fun _ _ _ _ _ _ us hl => match us, hl with | [_, _], _ => rfl⟩, b.glo_ _ (by decide +kernel), by decide⟩
theorem Facts.eTakenName (c : Facts P w K mg base n) : Er P w K mg base "TakenName" ["name"] := c.b.eTakenName
theorem Base.eBadRow (b : Base K mg) : Er P w K mg base "BadRow" ["value"] := by
  have er := b.err (c := "BadRow") (fs := ["value"]) (by decide +kernel)
  obtain ⟨fd, F⟩ := b.says.def_ 6 (d := dM "BadRow" 8 "BadRow.__init__") rfl
  have sc : FnScope ["self", "value"] ["self", "value"] (defScope (inClass (top 8) 0)) := ⟨rfl, rfl, rfl, by decide +kernel, rfl, by decide +kernel, by decide +kernel⟩
  exact ⟨er, ⟨fd, ["self", "value"], init1 (f1 := "value") (a1 := "value") F sc rfl rfl (by decide) (by decide) er.oex (er.no "value" (by decide +kernel)), F.bindsN fun _ _ _ _ _ _ us hl => match us, hl with | [_, _], _ => rfl⟩, b.glo_ _ (by decide +kernel), by decide⟩
theorem Facts.eBadRow (c : Facts P w K mg base n) : Er P w K mg base "BadRow" ["value"] := c.b.eBadRow
theorem Base.eBadPlace (b : Base K mg) : Er P w K mg base "BadPlace" ["value"] := by
  have er := b.err (c := "BadPlace") (fs := ["value"]) (by decide +kernel)
  obtain ⟨fd, F⟩ := b.says.def_ 7 (d := dM "BadPlace" 9 "BadPlace.__init__") rfl
  have sc : FnScope ["self", "value"] ["self", "value"] (defScope (inClass (top 9) 0)) := ⟨rfl, rfl, rfl, by decide +kernel, rfl, by decide +kernel, by decide +kernel⟩
  exact ⟨er, ⟨fd, ["self", "value"], init1 (f1 := "value") (a1 := "value") F sc rfl rfl (by decide) (by decide) er.oex (er.no "value" (by decide +kernel)), F.bindsN fun _ _ _ _ _ _ us hl => match us, hl with | [_, _], _ => rfl⟩, b.glo_ _ (by decide +kernel), by decide⟩
theorem Facts.eBadPlace (c : Facts P w K mg base n) : Er P w K mg base "BadPlace" ["value"] := c.b.eBadPlace
theorem Base.eBadPoint (b : Base K mg) : Er P w K mg base "BadPoint" ["value"] := by
  have er := b.err (c := "BadPoint") (fs := ["value"]) (by decide +kernel)
  obtain ⟨fd, F⟩ := b.says.def_ 8 (d := dM "BadPoint" 10 "BadPoint.__init__") rfl
  have sc : FnScope ["self", "value"] ["self", "value"] (defScope (inClass (top 10) 0)) := ⟨rfl, rfl, rfl, by decide +kernel, rfl, by decide +kernel, by decide +kernel⟩
  exact ⟨er, ⟨fd, ["self", "value"], init1 (f1 := "value") (a1 := "value") F sc rfl rfl (by decide) (by decide) er.oex (er.no "value" (by decide +kernel)), F.bindsN fun _ _ _ _ _ _ us hl => match us, hl with | [_, _], _ => rfl⟩, b.glo_ _ (by decide +kernel), by decide⟩
theorem Facts.eBadPoint (c : Facts P w K mg base n) : Er P w K mg base "BadPoint" ["value"] := c.b.eBadPoint
theorem Base.eUnlike (b : Base K mg) : Er P w K mg base "Unlike" ["what"] := by
  have er := b.err (c := "Unlike") (fs := ["what"]) (by decide +kernel)
  obtain ⟨fd, F⟩ := b.says.def_ 9 (d := dM "Unlike" 11 "Unlike.__init__") rfl
  have sc : FnScope ["self", "what"] ["self", "what"] (defScope (inClass (top 11) 0)) := ⟨rfl, rfl, rfl, by decide +kernel, rfl, by decide +kernel, by decide +kernel⟩
  exact ⟨er, ⟨fd, ["self", "what"], init1 (f1 := "what") (a1 := "what") F sc rfl rfl (by decide) (by decide) er.oex (er.no "what" (by decide +kernel)), F.bindsN fun _ _ _ _ _ _ us hl => match us, hl with | [_, _], _ => rfl⟩, b.glo_ _ (by decide +kernel), by decide⟩
theorem Facts.eUnlike (c : Facts P w K mg base n) : Er P w K mg base "Unlike" ["what"] := c.b.eUnlike
theorem Base.eTooMany (b : Base K mg) : Er P w K mg base "TooMany" ["what", "limit"] := by
  have er := b.err (c := "TooMany") (fs := ["what", "limit"]) (by decide +kernel)
  obtain ⟨fd, F⟩ := b.says.def_ 10 (d := dM "TooMany" 12 "TooMany.__init__") rfl
  have sc : FnScope ["self", "what", "limit"] ["self", "what", "limit"] (defScope (inClass (top 12) 0)) := ⟨rfl, rfl, rfl, by decide +kernel, rfl, by decide +kernel, by decide +kernel⟩
  exact ⟨er, ⟨fd, ["self", "what", "limit"], init2 (f1 := "what") (a1 := "what") (f2 := "limit") (a2 := "limit") F sc rfl rfl rfl (by decide) (by decide) (by decide) (by decide) er.oex (er.no "what" (by decide +kernel)) (er.no "limit" (by decide +kernel)) (by decide +kernel), F.bindsN fun _ _ _ _ _ _ us hl => match us, hl with | [_, _, _], _ => rfl⟩, b.glo_ _ (by decide +kernel), by decide⟩
theorem Facts.eTooMany (c : Facts P w K mg base n) : Er P w K mg base "TooMany" ["what", "limit"] := c.b.eTooMany
theorem Base.eNotKept (b : Base K mg) : Er P w K mg base "NotKept" ["promise", "witness"] := by
  have er := b.err (c := "NotKept") (fs := ["promise", "witness"]) (by decide +kernel)
  obtain ⟨fd, F⟩ := b.says.def_ 11 (d := dM "NotKept" 13 "NotKept.__init__") rfl
  have sc : FnScope ["self", "promise", "witness"] ["self", "promise", "witness"] (defScope (inClass (top 13) 0)) := ⟨rfl, rfl, rfl, by decide +kernel, rfl, by decide +kernel, by decide +kernel⟩
  exact ⟨er, ⟨fd, ["self", "promise", "witness"], init2 (f1 := "promise") (a1 := "promise") (f2 := "witness") (a2 := "witness") F sc rfl rfl rfl (by decide) (by decide) (by decide) (by decide) er.oex (er.no "promise" (by decide +kernel)) (er.no "witness" (by decide +kernel)) (by decide +kernel), F.bindsN fun _ _ _ _ _ _ us hl => match us, hl with | [_, _, _], _ => rfl⟩, b.glo_ _ (by decide +kernel), by decide⟩
theorem Facts.eNotKept (c : Facts P w K mg base n) : Er P w K mg base "NotKept" ["promise", "witness"] := c.b.eNotKept
theorem Base.eBadPromise (b : Base K mg) : Er P w K mg base "BadPromise" ["column"] := by
  have er := b.err (c := "BadPromise") (fs := ["column"]) (by decide +kernel)
  obtain ⟨fd, F⟩ := b.says.def_ 12 (d := dM "BadPromise" 14 "BadPromise.__init__") rfl
  have sc : FnScope ["self", "column"] ["self", "column"] (defScope (inClass (top 14) 0)) := ⟨rfl, rfl, rfl, by decide +kernel, rfl, by decide +kernel, by decide +kernel⟩
  exact ⟨er, ⟨fd, ["self", "column"], init1 (f1 := "column") (a1 := "column") F sc rfl rfl (by decide) (by decide) er.oex (er.no "column" (by decide +kernel)), F.bindsN fun _ _ _ _ _ _ us hl => match us, hl with | [_, _], _ => rfl⟩, b.glo_ _ (by decide +kernel), by decide⟩
theorem Facts.eBadPromise (c : Facts P w K mg base n) : Er P w K mg base "BadPromise" ["column"] := c.b.eBadPromise
theorem Facts.zNothingToUndo (c : Facts P w K mg base n) : PySem.W.excIn K (cA K "NothingToUndo") He.veBase "ValueError.__new__" = true ∧ PySem.W.keepIn K (.ref (cA K "NothingToUndo")) = true ∧ mg "NothingToUndo" = some (.ref (cA K "NothingToUndo")) := ⟨(c.b.bare_ (by decide +kernel)).1, (c.b.bare_ (by decide +kernel)).2.1, c.b.glo_ _ (by decide +kernel)⟩
theorem Facts.zNothingToRedo (c : Facts P w K mg base n) : PySem.W.excIn K (cA K "NothingToRedo") He.veBase "ValueError.__new__" = true ∧ PySem.W.keepIn K (.ref (cA K "NothingToRedo")) = true ∧ mg "NothingToRedo" = some (.ref (cA K "NothingToRedo")) := ⟨(c.b.bare_ (by decide +kernel)).1, (c.b.bare_ (by decide +kernel)).2.1, c.b.glo_ _ (by decide +kernel)⟩
theorem fn_law_pen (c : Facts P w K mg base n) {fd : FuncData} (F : FunD K (dF "_law_pen" 18).name (dF "_law_pen" 18).qual (dF "_law_pen" 18).params (dF "_law_pen" 18).body (dF "_law_pen" 18).scope [] [] (He.fAd K ("_law_pen", none)) fd) : FnG P w K mg base (L2.CX P w) (n + 4) (He.fAd K ("_law_pen", none)) fd ["script"] (SpF K (FF (n + 1)) 1 "_law_pen") := by
  have sc : FnScope ["script", "fold", "cell"] ["script"] (defScope (top 18)) := ⟨rfl, rfl, rfl, by decide +kernel, rfl, by decide +kernel, by decide +kernel⟩
  refine def_D (ps := ["script"]) (N := ["script", "fold", "cell"]) (body := b_law_pen) (wf := wf) (B := B0) (F := FF n) F sc (FF_or tbl_law_pen n) fun cdv A outer s H E T hT g hr => ?_
  subst hT
  have nd := sc.nd
  have hG : (A.deeper (envOfC "_law_pen" (defScope (top 18)) s.heap.objs.size (He.fAd T.K ("_law_pen", none)) cdv)).guards = some [] := g
  have hu := hr.units
  have hu1 := hu_of hr
  have hr2 := hr.mono (show 2 ≤ n + 3 by omega)
  have tk : Takes (cxOf (L2.CX P w) P w T.K mg base ["script", "fold", "cell"] "_law_pen" (defScope (top 18)) (He.fAd T.K ("_law_pen", none)) cdv A outer s H E) (fun cls d _ H => E cls d H) := takes_of rfl rfl rfl rfl
  have hp : PassesOwn (model P w) (A.deeper (envOfC "_law_pen" (defScope (top 18)) s.heap.objs.size (He.fAd T.K ("_law_pen", none)) cdv)) (envOfC "_law_pen" (defScope (top 18)) s.heap.objs.size (He.fAd T.K ("_law_pen", none)) cdv) (cxOf (L2.CX P w) P w T.K mg base ["script", "fold", "cell"] "_law_pen" (defScope (top 18)) (He.fAd T.K ("_law_pen", none)) cdv A outer s H E).xe := passes_of (X := cxOf (L2.CX P w) P w T.K mg base ["script", "fold", "cell"] "_law_pen" (defScope (top 18)) (He.fAd T.K ("_law_pen", none)) cdv A outer s H E) rfl
  exact (s_cons (s_set (i := 1) m_int nd rfl (by first | exact Or.inl rfl | exact Or.inr rfl))
    (s_cons (m_for hp rfl (i_seq rfl (m_var (i := 0) rfl (by first | exact .inl rfl | exact .inr (.inl rfl) | exact .inr (.inr rfl)))) (g_nm (pg_name (i := 2) nd rfl (by first | exact .inl rfl | exact .inr rfl))) (s_cons (s_set (i := 1) (m_mod (m_bty call_int1 cs_int rfl (c.free "int") (by decide +kernel) (m_cons (m_add rfl (m_mul (m_var (i := 1) rfl (by first | exact .inl rfl | exact .inr (.inl rfl) | exact .inr (.inr rfl))) m_int) (m_var (i := 2) rfl (by first | exact .inl rfl | exact .inr (.inl rfl) | exact .inr (.inr rfl)))) m_nil)) m_int) nd rfl (by first | exact Or.inl rfl | exact Or.inr rfl))
    s_nil))
    (s_cons (s_retN (n_dct (kvs := [(.inr "cells", (.blt .list [(.var 0)])), (.inr "at", (.c (.int 0))), (.inr "digits", (.c (.int 0))), (.inr "count", (.c (.int 0))), (.inr "fold", (.var 1))]) (pps_cons pe_str (m_list rfl rfl (c.free "list") (m_cons (m_var (i := 0) rfl (by first | exact .inl rfl | exact .inr (.inl rfl) | exact .inr (.inr rfl))) m_nil)) (pps_cons pe_str m_int (pps_cons pe_str m_int (pps_cons pe_str m_int (pps_cons pe_str (m_var (i := 1) rfl (by first | exact .inl rfl | exact .inr (.inl rfl) | exact .inr (.inr rfl))) pps_nil)))))))
    s_nil)))
theorem ok_law_pen (c : Facts P w K mg base n) : Fd P w K mg base (n + 4) (FF (n + 1)) "_law_pen" 1 := by
  obtain ⟨fd, F⟩ := c.b.says.def_ 13 (d := dF "_law_pen" 18) rfl
  exact ⟨⟨_, fd, ["script"], rfl, fn_law_pen c F, c.glo "_law_pen", F.kp, F.bindsN fun _ _ _ _ _ _ us hl => match us, hl with | [_], _ => rfl⟩, FF_ar tbl_law_pen (n + 1)⟩
theorem fn_law_draw (c : Facts P w K mg base n) {fd : FuncData} (F : FunD K (dF "_law_draw" 19).name (dF "_law_draw" 19).qual (dF "_law_draw" 19).params (dF "_law_draw" 19).body (dF "_law_draw" 19).scope [] [] (He.fAd K ("_law_draw", none)) fd) : FnG P w K mg base (L2.CX P w) (n + 4) (He.fAd K ("_law_draw", none)) fd ["pen", "many"] (SpF K (FF (n + 1)) 2 "_law_draw") := by
  have sc : FnScope ["pen", "many", "mixed", "cell", "digit"] ["pen", "many"] (defScope (top 19)) := ⟨rfl, rfl, rfl, by decide +kernel, rfl, by decide +kernel, by decide +kernel⟩
  refine def_D (ps := ["pen", "many"]) (N := ["pen", "many", "mixed", "cell", "digit"]) (body := b_law_draw) (wf := wf) (B := B0) (F := FF n) F sc (FF_or tbl_law_draw n) fun cdv A outer s H E T hT g hr => ?_
  subst hT
  have nd := sc.nd
  have hG : (A.deeper (envOfC "_law_draw" (defScope (top 19)) s.heap.objs.size (He.fAd T.K ("_law_draw", none)) cdv)).guards = some [] := g
  have hu := hr.units
  have hu1 := hu_of hr
  have hr2 := hr.mono (show 2 ≤ n + 3 by omega)
  have tk : Takes (cxOf (L2.CX P w) P w T.K mg base ["pen", "many", "mixed", "cell", "digit"] "_law_draw" (defScope (top 19)) (He.fAd T.K ("_law_draw", none)) cdv A outer s H E) (fun cls d _ H => E cls d H) := takes_of rfl rfl rfl rfl
  have hp : PassesOwn (model P w) (A.deeper (envOfC "_law_draw" (defScope (top 19)) s.heap.objs.size (He.fAd T.K ("_law_draw", none)) cdv)) (envOfC "_law_draw" (defScope (top 19)) s.heap.objs.size (He.fAd T.K ("_law_draw", none)) cdv) (cxOf (L2.CX P w) P w T.K mg base ["pen", "many", "mixed", "cell", "digit"] "_law_draw" (defScope (top 19)) (He.fAd T.K ("_law_draw", none)) cdv A outer s H E).xe := passes_of (X := cxOf (L2.CX P w) P w T.K mg base ["pen", "many", "mixed", "cell", "digit"] "_law_draw" (defScope (top 19)) (He.fAd T.K ("_law_draw", none)) cdv A outer s H E) rfl
  exact (s_cons (s_setK (i := 0) hu1 rfl (by first | exact .inl rfl | exact .inr (.inl rfl) | exact .inr (.inr rfl)) m_str (m_add rfl (m_dget hu1 (m_var (i := 0) rfl (by first | exact .inl rfl | exact .inr (.inl rfl) | exact .inr (.inr rfl))) m_str (fun _ _ => rfl)) m_int))
    (s_cons (s_if (PW.pt (w_and (t_eq rfl hu (m_dget hu1 (m_var (i := 0) rfl (by first | exact .inl rfl | exact .inr (.inl rfl) | exact .inr (.inr rfl))) m_str (fun _ _ => rfl)) m_int (by rfl)) (w_and1 (t_lt (m_dget hu1 (m_var (i := 0) rfl (by first | exact .inl rfl | exact .inr (.inl rfl) | exact .inr (.inr rfl))) m_str (fun _ _ => rfl)) (m_blt (call_len_seq.or (call_len_str.or call_lenD)) cs_len rfl (c.free "len") (by decide +kernel) (m_cons (m_dget hu1 (m_var (i := 0) rfl (by first | exact .inl rfl | exact .inr (.inl rfl) | exact .inr (.inr rfl))) m_str (fun _ _ => rfl)) m_nil)) (by rfl))))) (s_cons (s_set (i := 3) (m_idx rfl (m_dget hu1 (m_var (i := 0) rfl (by first | exact .inl rfl | exact .inr (.inl rfl) | exact .inr (.inr rfl))) m_str (fun _ _ => rfl)) (m_dget hu1 (m_var (i := 0) rfl (by first | exact .inl rfl | exact .inr (.inl rfl) | exact .inr (.inr rfl))) m_str (fun _ _ => rfl)) (fun _ _ => rfl)) nd rfl (by first | exact Or.inl rfl | exact Or.inr rfl))
    (s_cons (s_setK (i := 0) hu1 rfl (by first | exact .inl rfl | exact .inr (.inl rfl) | exact .inr (.inr rfl)) m_str (m_add rfl (m_dget hu1 (m_var (i := 0) rfl (by first | exact .inl rfl | exact .inr (.inl rfl) | exact .inr (.inr rfl))) m_str (fun _ _ => rfl)) m_int))
    (s_cons (s_if (t_ge (m_var (i := 3) rfl (by first | exact .inl rfl | exact .inr (.inl rfl) | exact .inr (.inr rfl))) (m_pow m_int m_int) (by rfl)) (s_cons (s_setK (i := 0) hu1 rfl (by first | exact .inl rfl | exact .inr (.inl rfl) | exact .inr (.inr rfl)) m_str (m_sub (m_var (i := 3) rfl (by first | exact .inl rfl | exact .inr (.inl rfl) | exact .inr (.inr rfl))) (m_pow m_int m_int)))
    s_nil) (s_cons (s_setK (i := 0) hu1 rfl (by first | exact .inl rfl | exact .inr (.inl rfl) | exact .inr (.inr rfl)) m_str (m_mod (m_bty call_int1 cs_int rfl (c.free "int") (by decide +kernel) (m_cons (m_add rfl (m_mul (m_dget hu1 (m_var (i := 0) rfl (by first | exact .inl rfl | exact .inr (.inl rfl) | exact .inr (.inr rfl))) m_str (fun _ _ => rfl)) m_int) (m_var (i := 3) rfl (by first | exact .inl rfl | exact .inr (.inl rfl) | exact .inr (.inr rfl)))) m_nil)) m_int))
    s_nil))
    s_nil))) s_nil)
    (s_cons (s_if (t_gt (m_dget hu1 (m_var (i := 0) rfl (by first | exact .inl rfl | exact .inr (.inl rfl) | exact .inr (.inr rfl))) m_str (fun _ _ => rfl)) m_int (by rfl)) (s_cons (s_set (i := 4) (m_mod (m_bty call_int1 cs_int rfl (c.free "int") (by decide +kernel) (m_cons (m_dget hu1 (m_var (i := 0) rfl (by first | exact .inl rfl | exact .inr (.inl rfl) | exact .inr (.inr rfl))) m_str (fun _ _ => rfl)) m_nil)) (m_var (i := 1) rfl (by first | exact .inl rfl | exact .inr (.inl rfl) | exact .inr (.inr rfl)))) nd rfl (by first | exact Or.inl rfl | exact Or.inr rfl))
    (s_cons (s_setK (i := 0) hu1 rfl (by first | exact .inl rfl | exact .inr (.inl rfl) | exact .inr (.inr rfl)) m_str (m_fdiv (m_dget hu1 (m_var (i := 0) rfl (by first | exact .inl rfl | exact .inr (.inl rfl) | exact .inr (.inr rfl))) m_str (fun _ _ => rfl)) (m_var (i := 1) rfl (by first | exact .inl rfl | exact .inr (.inl rfl) | exact .inr (.inr rfl)))))
    (s_cons (s_ret (m_var (i := 4) rfl (by first | exact .inl rfl | exact .inr (.inl rfl) | exact .inr (.inr rfl))))
    s_nil))) s_nil)
    (s_cons (s_set (i := 2) (m_add rfl (m_add rfl (m_dget hu1 (m_var (i := 0) rfl (by first | exact .inl rfl | exact .inr (.inl rfl) | exact .inr (.inr rfl))) m_str (fun _ _ => rfl)) (m_mul (m_dget hu1 (m_var (i := 0) rfl (by first | exact .inl rfl | exact .inr (.inl rfl) | exact .inr (.inr rfl))) m_str (fun _ _ => rfl)) m_int)) m_int) nd rfl (by first | exact Or.inl rfl | exact Or.inr rfl))
    (s_cons (s_ret (m_mod (m_fdiv (m_bty call_int1 cs_int rfl (c.free "int") (by decide +kernel) (m_cons (m_mod (m_pow (m_var (i := 2) rfl (by first | exact .inl rfl | exact .inr (.inl rfl) | exact .inr (.inr rfl))) m_int) m_int) m_nil)) m_int) (m_var (i := 1) rfl (by first | exact .inl rfl | exact .inr (.inl rfl) | exact .inr (.inr rfl)))))
    s_nil)))))
theorem ok_law_draw (c : Facts P w K mg base n) : Fd P w K mg base (n + 4) (FF (n + 1)) "_law_draw" 2 := by
  obtain ⟨fd, F⟩ := c.b.says.def_ 14 (d := dF "_law_draw" 19) rfl
  exact ⟨⟨_, fd, ["pen", "many"], rfl, fn_law_draw c F, c.glo "_law_draw", F.kp, F.bindsN fun _ _ _ _ _ _ us hl => match us, hl with | [_, _], _ => rfl⟩, FF_ar tbl_law_draw (n + 1)⟩
theorem fn_law_pick (c : Facts P w K mg base n) {fd : FuncData} (F : FunD K (dF "_law_pick" 20).name (dF "_law_pick" 20).qual (dF "_law_pick" 20).params (dF "_law_pick" 20).body (dF "_law_pick" 20).scope [] [] (He.fAd K ("_law_pick", none)) fd) : FnG P w K mg base (L2.CX P w) (n + 4) (He.fAd K ("_law_pick", none)) fd ["pen", "some"] (SpF K (FF (n + 1)) 2 "_law_pick") := by
  have sc : FnScope ["pen", "some"] ["pen", "some"] (defScope (top 20)) := ⟨rfl, rfl, rfl, by decide +kernel, rfl, by decide +kernel, by decide +kernel⟩
  refine def_D (ps := ["pen", "some"]) (N := ["pen", "some"]) (body := b_law_pick) (wf := wf) (B := B0) (F := FF n) F sc (FF_or tbl_law_pick n) fun cdv A outer s H E T hT g hr => ?_
  subst hT
  have nd := sc.nd
  have hG : (A.deeper (envOfC "_law_pick" (defScope (top 20)) s.heap.objs.size (He.fAd T.K ("_law_pick", none)) cdv)).guards = some [] := g
  have hu := hr.units
  have hu1 := hu_of hr
  have hr2 := hr.mono (show 2 ≤ n + 3 by omega)
  have tk : Takes (cxOf (L2.CX P w) P w T.K mg base ["pen", "some"] "_law_pick" (defScope (top 20)) (He.fAd T.K ("_law_pick", none)) cdv A outer s H E) (fun cls d _ H => E cls d H) := takes_of rfl rfl rfl rfl
  have hp : PassesOwn (model P w) (A.deeper (envOfC "_law_pick" (defScope (top 20)) s.heap.objs.size (He.fAd T.K ("_law_pick", none)) cdv)) (envOfC "_law_pick" (defScope (top 20)) s.heap.objs.size (He.fAd T.K ("_law_pick", none)) cdv) (cxOf (L2.CX P w) P w T.K mg base ["pen", "some"] "_law_pick" (defScope (top 20)) (He.fAd T.K ("_law_pick", none)) cdv A outer s H E).xe := passes_of (X := cxOf (L2.CX P w) P w T.K mg base ["pen", "some"] "_law_pick" (defScope (top 20)) (He.fAd T.K ("_law_pick", none)) cdv A outer s H E) rfl
  exact (s_cons (s_ret (m_idx rfl (m_var (i := 1) rfl (by first | exact .inl rfl | exact .inr (.inl rfl) | exact .inr (.inr rfl))) (m_callF c.f_law_draw rfl hG hr rfl tk (m_cons (m_var (i := 0) rfl (by first | exact .inl rfl | exact .inr (.inl rfl) | exact .inr (.inr rfl))) (m_cons (m_blt (call_len_seq.or (call_len_str.or call_lenD)) cs_len rfl (c.free "len") (by decide +kernel) (m_cons (m_var (i := 1) rfl (by first | exact .inl rfl | exact .inr (.inl rfl) | exact .inr (.inr rfl))) m_nil)) m_nil))) (fun _ _ => rfl)))
    s_nil)
theorem ok_law_pick (c : Facts P w K mg base n) : Fd P w K mg base (n + 4) (FF (n + 1)) "_law_pick" 2 := by
  obtain ⟨fd, F⟩ := c.b.says.def_ 15 (d := dF "_law_pick" 20) rfl
  exact ⟨⟨_, fd, ["pen", "some"], rfl, fn_law_pick c F, c.glo "_law_pick", F.kp, F.bindsN fun _ _ _ _ _ _ us hl => match us, hl with | [_, _], _ => rfl⟩, FF_ar tbl_law_pick (n + 1)⟩
theorem fn_law_far (c : Facts P w K mg base n) {fd : FuncData} (F : FunD K (dF "_law_far" 21).name (dF "_law_far" 21).qual (dF "_law_far" 21).params (dF "_law_far" 21).body (dF "_law_far" 21).scope [] [] (He.fAd K ("_law_far", none)) fd) : FnG P w K mg base (L2.CX P w) (n + 4) (He.fAd K ("_law_far", none)) fd ["pen"] (SpF K (FF (n + 1)) 1 "_law_far") := by
  have sc : FnScope ["pen", "lap", "sign", "many", "far"] ["pen"] (defScope (top 21)) := ⟨rfl, rfl, rfl, by decide +kernel, rfl, by decide +kernel, by decide +kernel⟩
  refine def_D (ps := ["pen"]) (N := ["pen", "lap", "sign", "many", "far"]) (body := b_law_far) (wf := wf) (B := B0) (F := FF n) F sc (FF_or tbl_law_far n) fun cdv A outer s H E T hT g hr => ?_
  subst hT
  have nd := sc.nd
  have hG : (A.deeper (envOfC "_law_far" (defScope (top 21)) s.heap.objs.size (He.fAd T.K ("_law_far", none)) cdv)).guards = some [] := g
  have hu := hr.units
  have hu1 := hu_of hr
  have hr2 := hr.mono (show 2 ≤ n + 3 by omega)
  have tk : Takes (cxOf (L2.CX P w) P w T.K mg base ["pen", "lap", "sign", "many", "far"] "_law_far" (defScope (top 21)) (He.fAd T.K ("_law_far", none)) cdv A outer s H E) (fun cls d _ H => E cls d H) := takes_of rfl rfl rfl rfl
  have hp : PassesOwn (model P w) (A.deeper (envOfC "_law_far" (defScope (top 21)) s.heap.objs.size (He.fAd T.K ("_law_far", none)) cdv)) (envOfC "_law_far" (defScope (top 21)) s.heap.objs.size (He.fAd T.K ("_law_far", none)) cdv) (cxOf (L2.CX P w) P w T.K mg base ["pen", "lap", "sign", "many", "far"] "_law_far" (defScope (top 21)) (He.fAd T.K ("_law_far", none)) cdv A outer s H E).xe := passes_of (X := cxOf (L2.CX P w) P w T.K mg base ["pen", "lap", "sign", "many", "far"] "_law_far" (defScope (top 21)) (He.fAd T.K ("_law_far", none)) cdv A outer s H E) rfl
  exact (s_cons (s_par3 (i := 2) (j := 3) (l := 4) rfl nd rfl rfl rfl (by decide) (by decide) (by decide) rfl rfl rfl (m_cons (m_sub m_int (m_mul m_int (m_callF c.f_law_draw rfl hG hr rfl tk (m_cons (m_var (i := 0) rfl (by first | exact .inl rfl | exact .inr (.inl rfl) | exact .inr (.inr rfl))) (m_cons m_int m_nil))))) (m_cons (m_callF c.f_law_pick rfl hG hr rfl tk (m_cons (m_var (i := 0) rfl (by first | exact .inl rfl | exact .inr (.inl rfl) | exact .inr (.inr rfl))) (m_cons (m_lst (m_cons m_int (m_cons m_int (m_cons m_int (m_cons m_int (m_cons m_int m_nil)))))) m_nil))) (m_cons (m_callF c.f_law_draw rfl hG hr rfl tk (m_cons (m_var (i := 0) rfl (by first | exact .inl rfl | exact .inr (.inl rfl) | exact .inr (.inr rfl))) (m_cons m_int m_nil))) m_nil))) (by rfl))
    (s_cons (m_for hp rfl (i_rng1 rfl (c.free "range") (m_cons (m_var (i := 3) rfl (by first | exact .inl rfl | exact .inr (.inl rfl) | exact .inr (.inr rfl))) m_nil)) (g_nm (pg_name (i := 1) nd rfl (by first | exact .inl rfl | exact .inr rfl))) (s_cons (s_set (i := 4) (m_add rfl (m_mul (m_var (i := 4) rfl (by first | exact .inl rfl | exact .inr (.inl rfl) | exact .inr (.inr rfl))) (m_pow m_int m_int)) (m_callF c.f_law_draw rfl hG hr rfl tk (m_cons (m_var (i := 0) rfl (by first | exact .inl rfl | exact .inr (.inl rfl) | exact .inr (.inr rfl))) (m_cons (m_pow m_int m_int) m_nil)))) nd rfl (by first | exact Or.inl rfl | exact Or.inr rfl))
    s_nil))
    (s_cons (s_ret (m_mul (m_var (i := 2) rfl (by first | exact .inl rfl | exact .inr (.inl rfl) | exact .inr (.inr rfl))) (m_var (i := 4) rfl (by first | exact .inl rfl | exact .inr (.inl rfl) | exact .inr (.inr rfl)))))
    s_nil)))
theorem ok_law_far (c : Facts P w K mg base n) : Fd P w K mg base (n + 4) (FF (n + 1)) "_law_far" 1 := by
  obtain ⟨fd, F⟩ := c.b.says.def_ 16 (d := dF "_law_far" 21) rfl
  exact ⟨⟨_, fd, ["pen"], rfl, fn_law_far c F, c.glo "_law_far", F.kp, F.bindsN fun _ _ _ _ _ _ us hl => match us, hl with | [_], _ => rfl⟩, FF_ar tbl_law_far (n + 1)⟩
theorem fn_law_kinds (c : Facts P w K mg base n) {fd : FuncData} (F : FunD K (dF "_law_kinds" 22).name (dF "_law_kinds" 22).qual (dF "_law_kinds" 22).params (dF "_law_kinds" 22).body (dF "_law_kinds" 22).scope [] [] (He.fAd K ("_law_kinds", none)) fd) : FnG P w K mg base (L2.CX P w) (n + 4) (He.fAd K ("_law_kinds", none)) fd ["e"] (SpF K (FF (n + 1)) 1 "_law_kinds") := by
  have sc : FnScope ["e", "first"] ["e"] (defScope (top 22)) := ⟨rfl, rfl, rfl, by decide +kernel, rfl, by decide +kernel, by decide +kernel⟩
  refine def_D (ps := ["e"]) (N := ["e", "first"]) (body := b_law_kinds) (wf := wf) (B := B0) (F := FF n) F sc (FF_or tbl_law_kinds n) fun cdv A outer s H E T hT g hr => ?_
  subst hT
  have nd := sc.nd
  have hG : (A.deeper (envOfC "_law_kinds" (defScope (top 22)) s.heap.objs.size (He.fAd T.K ("_law_kinds", none)) cdv)).guards = some [] := g
  have hu := hr.units
  have hu1 := hu_of hr
  have hr2 := hr.mono (show 2 ≤ n + 3 by omega)
  have tk : Takes (cxOf (L2.CX P w) P w T.K mg base ["e", "first"] "_law_kinds" (defScope (top 22)) (He.fAd T.K ("_law_kinds", none)) cdv A outer s H E) (fun cls d _ H => E cls d H) := takes_of rfl rfl rfl rfl
  have hp : PassesOwn (model P w) (A.deeper (envOfC "_law_kinds" (defScope (top 22)) s.heap.objs.size (He.fAd T.K ("_law_kinds", none)) cdv)) (envOfC "_law_kinds" (defScope (top 22)) s.heap.objs.size (He.fAd T.K ("_law_kinds", none)) cdv) (cxOf (L2.CX P w) P w T.K mg base ["e", "first"] "_law_kinds" (defScope (top 22)) (He.fAd T.K ("_law_kinds", none)) cdv A outer s H E).xe := passes_of (X := cxOf (L2.CX P w) P w T.K mg base ["e", "first"] "_law_kinds" (defScope (top 22)) (He.fAd T.K ("_law_kinds", none)) cdv A outer s H E) rfl
  exact (s_cons (s_set (i := 1) (m_lst (m_cons (m_isiE (cs := (kitT "BadNumber")) (.own (cA T.K "BadNumber")) (c.kit "BadNumber") (m_var (i := 0) rfl (by first | exact .inl rfl | exact .inr (.inl rfl) | exact .inr (.inr rfl))) (pe_glob (v := .ref (cA T.K "BadNumber")) rfl (c.glo "BadNumber") rfl) rfl (c.free "isinstance")) (m_cons (m_isiE (cs := (kitT "BadProgram")) (.own (cA T.K "BadProgram")) (c.kit "BadProgram") (m_var (i := 0) rfl (by first | exact .inl rfl | exact .inr (.inl rfl) | exact .inr (.inr rfl))) (pe_glob (v := .ref (cA T.K "BadProgram")) rfl (c.glo "BadProgram") rfl) rfl (c.free "isinstance")) (m_cons (m_isiE (cs := (kitT "BadText")) (.own (cA T.K "BadText")) (c.kit "BadText") (m_var (i := 0) rfl (by first | exact .inl rfl | exact .inr (.inl rfl) | exact .inr (.inr rfl))) (pe_glob (v := .ref (cA T.K "BadText")) rfl (c.glo "BadText") rfl) rfl (c.free "isinstance")) (m_cons (m_isiE (cs := (kitT "BadName")) (.own (cA T.K "BadName")) (c.kit "BadName") (m_var (i := 0) rfl (by first | exact .inl rfl | exact .inr (.inl rfl) | exact .inr (.inr rfl))) (pe_glob (v := .ref (cA T.K "BadName")) rfl (c.glo "BadName") rfl) rfl (c.free "isinstance")) m_nil))))) nd rfl (by first | exact Or.inl rfl | exact Or.inr rfl))
    (s_cons (s_set (i := 1) (m_add rfl (m_var (i := 1) rfl (by first | exact .inl rfl | exact .inr (.inl rfl) | exact .inr (.inr rfl))) (m_lst (m_cons (m_isiE (cs := (kitT "NoName")) (.own (cA T.K "NoName")) (c.kit "NoName") (m_var (i := 0) rfl (by first | exact .inl rfl | exact .inr (.inl rfl) | exact .inr (.inr rfl))) (pe_glob (v := .ref (cA T.K "NoName")) rfl (c.glo "NoName") rfl) rfl (c.free "isinstance")) (m_cons (m_isiE (cs := (kitT "TakenName")) (.own (cA T.K "TakenName")) (c.kit "TakenName") (m_var (i := 0) rfl (by first | exact .inl rfl | exact .inr (.inl rfl) | exact .inr (.inr rfl))) (pe_glob (v := .ref (cA T.K "TakenName")) rfl (c.glo "TakenName") rfl) rfl (c.free "isinstance")) (m_cons (m_isiE (cs := (kitT "BadRow")) (.own (cA T.K "BadRow")) (c.kit "BadRow") (m_var (i := 0) rfl (by first | exact .inl rfl | exact .inr (.inl rfl) | exact .inr (.inr rfl))) (pe_glob (v := .ref (cA T.K "BadRow")) rfl (c.glo "BadRow") rfl) rfl (c.free "isinstance")) (m_cons (m_isiE (cs := (kitT "BadPlace")) (.own (cA T.K "BadPlace")) (c.kit "BadPlace") (m_var (i := 0) rfl (by first | exact .inl rfl | exact .inr (.inl rfl) | exact .inr (.inr rfl))) (pe_glob (v := .ref (cA T.K "BadPlace")) rfl (c.glo "BadPlace") rfl) rfl (c.free "isinstance")) m_nil)))))) nd rfl (by first | exact Or.inl rfl | exact Or.inr rfl))
    (s_cons (s_set (i := 1) (m_add rfl (m_var (i := 1) rfl (by first | exact .inl rfl | exact .inr (.inl rfl) | exact .inr (.inr rfl))) (m_lst (m_cons (m_isiE (cs := (kitT "BadPoint")) (.own (cA T.K "BadPoint")) (c.kit "BadPoint") (m_var (i := 0) rfl (by first | exact .inl rfl | exact .inr (.inl rfl) | exact .inr (.inr rfl))) (pe_glob (v := .ref (cA T.K "BadPoint")) rfl (c.glo "BadPoint") rfl) rfl (c.free "isinstance")) (m_cons (m_isiE (cs := (kitT "Unlike")) (.own (cA T.K "Unlike")) (c.kit "Unlike") (m_var (i := 0) rfl (by first | exact .inl rfl | exact .inr (.inl rfl) | exact .inr (.inr rfl))) (pe_glob (v := .ref (cA T.K "Unlike")) rfl (c.glo "Unlike") rfl) rfl (c.free "isinstance")) (m_cons (m_isiE (cs := (kitT "TooMany")) (.own (cA T.K "TooMany")) (c.kit "TooMany") (m_var (i := 0) rfl (by first | exact .inl rfl | exact .inr (.inl rfl) | exact .inr (.inr rfl))) (pe_glob (v := .ref (cA T.K "TooMany")) rfl (c.glo "TooMany") rfl) rfl (c.free "isinstance")) (m_cons (m_isiE (cs := (kitT "NotKept")) (.own (cA T.K "NotKept")) (c.kit "NotKept") (m_var (i := 0) rfl (by first | exact .inl rfl | exact .inr (.inl rfl) | exact .inr (.inr rfl))) (pe_glob (v := .ref (cA T.K "NotKept")) rfl (c.glo "NotKept") rfl) rfl (c.free "isinstance")) m_nil)))))) nd rfl (by first | exact Or.inl rfl | exact Or.inr rfl))
    (s_cons (s_ret (m_add rfl (m_var (i := 1) rfl (by first | exact .inl rfl | exact .inr (.inl rfl) | exact .inr (.inr rfl))) (m_lst (m_cons (m_isiE (cs := (kitT "BadPromise")) (.own (cA T.K "BadPromise")) (c.kit "BadPromise") (m_var (i := 0) rfl (by first | exact .inl rfl | exact .inr (.inl rfl) | exact .inr (.inr rfl))) (pe_glob (v := .ref (cA T.K "BadPromise")) rfl (c.glo "BadPromise") rfl) rfl (c.free "isinstance")) (m_cons (m_isiE (cs := (kitT "NothingToUndo")) (.own (cA T.K "NothingToUndo")) (c.kit "NothingToUndo") (m_var (i := 0) rfl (by first | exact .inl rfl | exact .inr (.inl rfl) | exact .inr (.inr rfl))) (pe_glob (v := .ref (cA T.K "NothingToUndo")) rfl (c.glo "NothingToUndo") rfl) rfl (c.free "isinstance")) (m_cons (m_isiE (cs := (kitT "NothingToRedo")) (.own (cA T.K "NothingToRedo")) (c.kit "NothingToRedo") (m_var (i := 0) rfl (by first | exact .inl rfl | exact .inr (.inl rfl) | exact .inr (.inr rfl))) (pe_glob (v := .ref (cA T.K "NothingToRedo")) rfl (c.glo "NothingToRedo") rfl) rfl (c.free "isinstance")) m_nil))))))
    s_nil))))
theorem ok_law_kinds (c : Facts P w K mg base n) : Fd P w K mg base (n + 4) (FF (n + 1)) "_law_kinds" 1 := by
  obtain ⟨fd, F⟩ := c.b.says.def_ 17 (d := dF "_law_kinds" 22) rfl
  exact ⟨⟨_, fd, ["e"], rfl, fn_law_kinds c F, c.glo "_law_kinds", F.kp, F.bindsN fun _ _ _ _ _ _ us hl => match us, hl with | [_], _ => rfl⟩, FF_ar tbl_law_kinds (n + 1)⟩
theorem fn_law_made (c : Facts P w K mg base n) {fd : FuncData} (F : FunD K (dF "_law_made" 23).name (dF "_law_made" 23).qual (dF "_law_made" 23).params (dF "_law_made" 23).body (dF "_law_made" 23).scope [] [] (He.fAd K ("_law_made", none)) fd) : FnG P w K mg base (L2.CX P w) (n + 4) (He.fAd K ("_law_made", none)) fd ["a", "b"] (SpF K (FF (n + 1)) 2 "_law_made") := by
  have sc : FnScope ["a", "b", "first"] ["a", "b"] (defScope (top 23)) := ⟨rfl, rfl, rfl, by decide +kernel, rfl, by decide +kernel, by decide +kernel⟩
  refine def_D (ps := ["a", "b"]) (N := ["a", "b", "first"]) (body := b_law_made) (wf := wf) (B := B0) (F := FF n) F sc (FF_or tbl_law_made n) fun cdv A outer s H E T hT g hr => ?_
  subst hT
  have nd := sc.nd
  have hG : (A.deeper (envOfC "_law_made" (defScope (top 23)) s.heap.objs.size (He.fAd T.K ("_law_made", none)) cdv)).guards = some [] := g
  have hu := hr.units
  have hu1 := hu_of hr
  have hr2 := hr.mono (show 2 ≤ n + 3 by omega)
  have tk : Takes (cxOf (L2.CX P w) P w T.K mg base ["a", "b", "first"] "_law_made" (defScope (top 23)) (He.fAd T.K ("_law_made", none)) cdv A outer s H E) (fun cls d _ H => E cls d H) := takes_of rfl rfl rfl rfl
  have hp : PassesOwn (model P w) (A.deeper (envOfC "_law_made" (defScope (top 23)) s.heap.objs.size (He.fAd T.K ("_law_made", none)) cdv)) (envOfC "_law_made" (defScope (top 23)) s.heap.objs.size (He.fAd T.K ("_law_made", none)) cdv) (cxOf (L2.CX P w) P w T.K mg base ["a", "b", "first"] "_law_made" (defScope (top 23)) (He.fAd T.K ("_law_made", none)) cdv A outer s H E).xe := passes_of (X := cxOf (L2.CX P w) P w T.K mg base ["a", "b", "first"] "_law_made" (defScope (top 23)) (He.fAd T.K ("_law_made", none)) cdv A outer s H E) rfl
  exact (s_cons (s_set (i := 2) (m_lst (m_cons (m_errF (c.eBadNumber) rfl hG hr2 rfl (m_cons (m_var (i := 0) rfl (by first | exact .inl rfl | exact .inr (.inl rfl) | exact .inr (.inr rfl))) (m_cons (m_var (i := 1) rfl (by first | exact .inl rfl | exact .inr (.inl rfl) | exact .inr (.inr rfl))) m_nil))) (m_cons (m_errF (c.eBadProgram) rfl hG hr2 rfl (m_cons (m_var (i := 0) rfl (by first | exact .inl rfl | exact .inr (.inl rfl) | exact .inr (.inr rfl))) m_nil)) (m_cons (m_errF (c.eBadText) rfl hG hr2 rfl (m_cons (m_var (i := 0) rfl (by first | exact .inl rfl | exact .inr (.inl rfl) | exact .inr (.inr rfl))) (m_cons (m_var (i := 1) rfl (by first | exact .inl rfl | exact .inr (.inl rfl) | exact .inr (.inr rfl))) m_nil))) (m_cons (m_errF (c.eBadName) rfl hG hr2 rfl (m_cons (m_var (i := 0) rfl (by first | exact .inl rfl | exact .inr (.inl rfl) | exact .inr (.inr rfl))) m_nil)) (m_cons (m_errF (c.eNoName) rfl hG hr2 rfl (m_cons (m_var (i := 0) rfl (by first | exact .inl rfl | exact .inr (.inl rfl) | exact .inr (.inr rfl))) m_nil)) (m_cons (m_errF (c.eTakenName) rfl hG hr2 rfl (m_cons (m_var (i := 0) rfl (by first | exact .inl rfl | exact .inr (.inl rfl) | exact .inr (.inr rfl))) m_nil)) (m_cons (m_errF (c.eBadRow) rfl hG hr2 rfl (m_cons (m_var (i := 0) rfl (by first | exact .inl rfl | exact .inr (.inl rfl) | exact .inr (.inr rfl))) m_nil)) m_nil)))))))) nd rfl (by first | exact Or.inl rfl | exact Or.inr rfl))
    (s_cons (s_set (i := 2) (m_add rfl (m_var (i := 2) rfl (by first | exact .inl rfl | exact .inr (.inl rfl) | exact .inr (.inr rfl))) (m_lst (m_cons (m_errF (c.eBadPlace) rfl hG hr2 rfl (m_cons (m_var (i := 0) rfl (by first | exact .inl rfl | exact .inr (.inl rfl) | exact .inr (.inr rfl))) m_nil)) (m_cons (m_errF (c.eBadPoint) rfl hG hr2 rfl (m_cons (m_var (i := 0) rfl (by first | exact .inl rfl | exact .inr (.inl rfl) | exact .inr (.inr rfl))) m_nil)) (m_cons (m_errF (c.eUnlike) rfl hG hr2 rfl (m_cons (m_var (i := 0) rfl (by first | exact .inl rfl | exact .inr (.inl rfl) | exact .inr (.inr rfl))) m_nil)) (m_cons (m_errF (c.eTooMany) rfl hG hr2 rfl (m_cons (m_var (i := 0) rfl (by first | exact .inl rfl | exact .inr (.inl rfl) | exact .inr (.inr rfl))) (m_cons (m_var (i := 1) rfl (by first | exact .inl rfl | exact .inr (.inl rfl) | exact .inr (.inr rfl))) m_nil))) (m_cons (m_errF (c.eNotKept) rfl hG hr2 rfl (m_cons (m_var (i := 0) rfl (by first | exact .inl rfl | exact .inr (.inl rfl) | exact .inr (.inr rfl))) (m_cons (m_var (i := 1) rfl (by first | exact .inl rfl | exact .inr (.inl rfl) | exact .inr (.inr rfl))) m_nil))) (m_cons (m_errF (c.eBadPromise) rfl hG hr2 rfl (m_cons (m_var (i := 0) rfl (by first | exact .inl rfl | exact .inr (.inl rfl) | exact .inr (.inr rfl))) m_nil)) m_nil)))))))) nd rfl (by first | exact Or.inl rfl | exact Or.inr rfl))
    (s_cons (s_ret (m_add rfl (m_var (i := 2) rfl (by first | exact .inl rfl | exact .inr (.inl rfl) | exact .inr (.inr rfl))) (m_lst (m_cons (m_err0F (c.zNothingToUndo) rfl rfl) (m_cons (m_err0F (c.zNothingToRedo) rfl rfl) m_nil)))))
    s_nil)))
theorem ok_law_made (c : Facts P w K mg base n) : Fd P w K mg base (n + 4) (FF (n + 1)) "_law_made" 2 := by
  obtain ⟨fd, F⟩ := c.b.says.def_ 18 (d := dF "_law_made" 23) rfl
  exact ⟨⟨_, fd, ["a", "b"], rfl, fn_law_made c F, c.glo "_law_made", F.kp, F.bindsN fun _ _ _ _ _ _ us hl => match us, hl with | [_, _], _ => rfl⟩, FF_ar tbl_law_made (n + 1)⟩
theorem fn_law_fields (c : Facts P w K mg base n) {fd : FuncData} (F : FunD K (dF "_law_fields" 24).name (dF "_law_fields" 24).qual (dF "_law_fields" 24).params (dF "_law_fields" 24).body (dF "_law_fields" 24).scope [] [] (He.fAd K ("_law_fields", none)) fd) : FnG P w K mg base (L2.CX P w) (n + 4) (He.fAd K ("_law_fields", none)) fd ["row"] (SpF K (FF (n + 1)) 1 "_law_fields") := by
  have sc : FnScope ["row", "first"] ["row"] (defScope (top 24)) := ⟨rfl, rfl, rfl, by decide +kernel, rfl, by decide +kernel, by decide +kernel⟩
  refine def_D (ps := ["row"]) (N := ["row", "first"]) (body := b_law_fields) (wf := wf) (B := B0) (F := FF n) F sc (FF_or tbl_law_fields n) fun cdv A outer s H E T hT g hr => ?_
  subst hT
  have nd := sc.nd
  have hG : (A.deeper (envOfC "_law_fields" (defScope (top 24)) s.heap.objs.size (He.fAd T.K ("_law_fields", none)) cdv)).guards = some [] := g
  have hu := hr.units
  have hu1 := hu_of hr
  have hr2 := hr.mono (show 2 ≤ n + 3 by omega)
  have tk : Takes (cxOf (L2.CX P w) P w T.K mg base ["row", "first"] "_law_fields" (defScope (top 24)) (He.fAd T.K ("_law_fields", none)) cdv A outer s H E) (fun cls d _ H => E cls d H) := takes_of rfl rfl rfl rfl
  have hp : PassesOwn (model P w) (A.deeper (envOfC "_law_fields" (defScope (top 24)) s.heap.objs.size (He.fAd T.K ("_law_fields", none)) cdv)) (envOfC "_law_fields" (defScope (top 24)) s.heap.objs.size (He.fAd T.K ("_law_fields", none)) cdv) (cxOf (L2.CX P w) P w T.K mg base ["row", "first"] "_law_fields" (defScope (top 24)) (He.fAd T.K ("_law_fields", none)) cdv A outer s H E).xe := passes_of (X := cxOf (L2.CX P w) P w T.K mg base ["row", "first"] "_law_fields" (defScope (top 24)) (He.fAd T.K ("_law_fields", none)) cdv A outer s H E) rfl
  exact (s_cons (s_set (i := 1) (m_lst (m_cons (m_lst (m_cons (m_attE (cs := ["BadNumber", "Unlike", "TooMany"]) (c.att "what") (m_idx rfl (m_var (i := 0) rfl (by first | exact .inl rfl | exact .inr (.inl rfl) | exact .inr (.inr rfl))) m_int (fun _ _ => rfl))) (m_cons (m_attE (cs := ["BadNumber", "BadProgram", "BadRow", "BadPlace", "BadPoint"]) (c.att "value") (m_idx rfl (m_var (i := 0) rfl (by first | exact .inl rfl | exact .inr (.inl rfl) | exact .inr (.inr rfl))) m_int (fun _ _ => rfl))) m_nil))) (m_cons (m_lst (m_cons (m_attE (cs := ["BadNumber", "BadProgram", "BadRow", "BadPlace", "BadPoint"]) (c.att "value") (m_idx rfl (m_var (i := 0) rfl (by first | exact .inl rfl | exact .inr (.inl rfl) | exact .inr (.inr rfl))) m_int (fun _ _ => rfl))) m_nil)) (m_cons (m_lst (m_cons (m_attE (cs := ["BadText"]) (c.att "line") (m_idx rfl (m_var (i := 0) rfl (by first | exact .inl rfl | exact .inr (.inl rfl) | exact .inr (.inr rfl))) m_int (fun _ _ => rfl))) (m_cons (m_attE (cs := ["BadText", "BadPromise"]) (c.att "column") (m_idx rfl (m_var (i := 0) rfl (by first | exact .inl rfl | exact .inr (.inl rfl) | exact .inr (.inr rfl))) m_int (fun _ _ => rfl))) m_nil))) (m_cons (m_lst (m_cons (m_attE (cs := ["BadName", "NoName", "TakenName"]) (c.att "name") (m_idx rfl (m_var (i := 0) rfl (by first | exact .inl rfl | exact .inr (.inl rfl) | exact .inr (.inr rfl))) m_int (fun _ _ => rfl))) m_nil)) m_nil))))) nd rfl (by first | exact Or.inl rfl | exact Or.inr rfl))
    (s_cons (s_set (i := 1) (m_add rfl (m_var (i := 1) rfl (by first | exact .inl rfl | exact .inr (.inl rfl) | exact .inr (.inr rfl))) (m_lst (m_cons (m_lst (m_cons (m_attE (cs := ["BadName", "NoName", "TakenName"]) (c.att "name") (m_idx rfl (m_var (i := 0) rfl (by first | exact .inl rfl | exact .inr (.inl rfl) | exact .inr (.inr rfl))) m_int (fun _ _ => rfl))) m_nil)) (m_cons (m_lst (m_cons (m_attE (cs := ["BadName", "NoName", "TakenName"]) (c.att "name") (m_idx rfl (m_var (i := 0) rfl (by first | exact .inl rfl | exact .inr (.inl rfl) | exact .inr (.inr rfl))) m_int (fun _ _ => rfl))) m_nil)) (m_cons (m_lst (m_cons (m_attE (cs := ["BadNumber", "BadProgram", "BadRow", "BadPlace", "BadPoint"]) (c.att "value") (m_idx rfl (m_var (i := 0) rfl (by first | exact .inl rfl | exact .inr (.inl rfl) | exact .inr (.inr rfl))) m_int (fun _ _ => rfl))) m_nil)) (m_cons (m_lst (m_cons (m_attE (cs := ["BadNumber", "BadProgram", "BadRow", "BadPlace", "BadPoint"]) (c.att "value") (m_idx rfl (m_var (i := 0) rfl (by first | exact .inl rfl | exact .inr (.inl rfl) | exact .inr (.inr rfl))) m_int (fun _ _ => rfl))) m_nil)) (m_cons (m_lst (m_cons (m_attE (cs := ["BadNumber", "BadProgram", "BadRow", "BadPlace", "BadPoint"]) (c.att "value") (m_idx rfl (m_var (i := 0) rfl (by first | exact .inl rfl | exact .inr (.inl rfl) | exact .inr (.inr rfl))) m_int (fun _ _ => rfl))) m_nil)) (m_cons (m_lst (m_cons (m_attE (cs := ["BadNumber", "Unlike", "TooMany"]) (c.att "what") (m_idx rfl (m_var (i := 0) rfl (by first | exact .inl rfl | exact .inr (.inl rfl) | exact .inr (.inr rfl))) m_int (fun _ _ => rfl))) m_nil)) m_nil)))))))) nd rfl (by first | exact Or.inl rfl | exact Or.inr rfl))
    (s_cons (s_ret (m_add rfl (m_var (i := 1) rfl (by first | exact .inl rfl | exact .inr (.inl rfl) | exact .inr (.inr rfl))) (m_lst (m_cons (m_lst (m_cons (m_attE (cs := ["BadNumber", "Unlike", "TooMany"]) (c.att "what") (m_idx rfl (m_var (i := 0) rfl (by first | exact .inl rfl | exact .inr (.inl rfl) | exact .inr (.inr rfl))) m_int (fun _ _ => rfl))) (m_cons (m_attE (cs := ["TooMany"]) (c.att "limit") (m_idx rfl (m_var (i := 0) rfl (by first | exact .inl rfl | exact .inr (.inl rfl) | exact .inr (.inr rfl))) m_int (fun _ _ => rfl))) m_nil))) (m_cons (m_lst (m_cons (m_attE (cs := ["NotKept"]) (c.att "promise") (m_idx rfl (m_var (i := 0) rfl (by first | exact .inl rfl | exact .inr (.inl rfl) | exact .inr (.inr rfl))) m_int (fun _ _ => rfl))) (m_cons (m_attE (cs := ["NotKept"]) (c.att "witness") (m_idx rfl (m_var (i := 0) rfl (by first | exact .inl rfl | exact .inr (.inl rfl) | exact .inr (.inr rfl))) m_int (fun _ _ => rfl))) m_nil))) (m_cons (m_lst (m_cons (m_attE (cs := ["BadText", "BadPromise"]) (c.att "column") (m_idx rfl (m_var (i := 0) rfl (by first | exact .inl rfl | exact .inr (.inl rfl) | exact .inr (.inr rfl))) m_int (fun _ _ => rfl))) m_nil)) (m_cons (m_lst m_nil) (m_cons (m_lst m_nil) m_nil))))))))
    s_nil)))
theorem ok_law_fields (c : Facts P w K mg base n) : Fd P w K mg base (n + 4) (FF (n + 1)) "_law_fields" 1 := by
  obtain ⟨fd, F⟩ := c.b.says.def_ 19 (d := dF "_law_fields" 24) rfl
  exact ⟨⟨_, fd, ["row"], rfl, fn_law_fields c F, c.glo "_law_fields", F.kp, F.bindsN fun _ _ _ _ _ _ us hl => match us, hl with | [_], _ => rfl⟩, FF_ar tbl_law_fields (n + 1)⟩
theorem fn_law_value (c : Facts P w K mg base n) {fd : FuncData} (F : FunD K (dF "_law_value" 25).name (dF "_law_value" 25).qual (dF "_law_value" 25).params (dF "_law_value" 25).body (dF "_law_value" 25).scope [] [] (He.fAd K ("_law_value", none)) fd) : FnG P w K mg base (L2.CX P w) (n + 4) (He.fAd K ("_law_value", none)) fd ["pen"] (SpF K (FF (n + 1)) 1 "_law_value") := by
  have sc : FnScope ["pen", "far", "some"] ["pen"] (defScope (top 25)) := ⟨rfl, rfl, rfl, by decide +kernel, rfl, by decide +kernel, by decide +kernel⟩
  refine def_D (ps := ["pen"]) (N := ["pen", "far", "some"]) (body := b_law_value) (wf := wf) (B := B0) (F := FF n) F sc (FF_or tbl_law_value n) fun cdv A outer s H E T hT g hr => ?_
  subst hT
  have nd := sc.nd
  have hG : (A.deeper (envOfC "_law_value" (defScope (top 25)) s.heap.objs.size (He.fAd T.K ("_law_value", none)) cdv)).guards = some [] := g
  have hu := hr.units
  have hu1 := hu_of hr
  have hr2 := hr.mono (show 2 ≤ n + 3 by omega)
  have tk : Takes (cxOf (L2.CX P w) P w T.K mg base ["pen", "far", "some"] "_law_value" (defScope (top 25)) (He.fAd T.K ("_law_value", none)) cdv A outer s H E) (fun cls d _ H => E cls d H) := takes_of rfl rfl rfl rfl
  have hp : PassesOwn (model P w) (A.deeper (envOfC "_law_value" (defScope (top 25)) s.heap.objs.size (He.fAd T.K ("_law_value", none)) cdv)) (envOfC "_law_value" (defScope (top 25)) s.heap.objs.size (He.fAd T.K ("_law_value", none)) cdv) (cxOf (L2.CX P w) P w T.K mg base ["pen", "far", "some"] "_law_value" (defScope (top 25)) (He.fAd T.K ("_law_value", none)) cdv A outer s H E).xe := passes_of (X := cxOf (L2.CX P w) P w T.K mg base ["pen", "far", "some"] "_law_value" (defScope (top 25)) (He.fAd T.K ("_law_value", none)) cdv A outer s H E) rfl
  exact (s_cons (s_set (i := 1) (m_callF c.f_law_far rfl hG hr rfl tk (m_cons (m_var (i := 0) rfl (by first | exact .inl rfl | exact .inr (.inl rfl) | exact .inr (.inr rfl))) m_nil)) nd rfl (by first | exact Or.inl rfl | exact Or.inr rfl))
    (s_cons (s_set (i := 2) (m_lst (m_cons (m_var (i := 1) rfl (by first | exact .inl rfl | exact .inr (.inl rfl) | exact .inr (.inr rfl))) (m_cons (m_add rfl m_str (m_bty (call_str_int.or SkE.call_str_str) cs_str rfl (c.free "str") (by decide +kernel) (m_cons (m_mod (m_blt call_abs cs_abs rfl (c.free "abs") (by decide +kernel) (m_cons (m_var (i := 1) rfl (by first | exact .inl rfl | exact .inr (.inl rfl) | exact .inr (.inr rfl))) m_nil)) m_int) m_nil))) (m_cons m_non (m_cons (m_tup (m_cons (m_var (i := 1) rfl (by first | exact .inl rfl | exact .inr (.inl rfl) | exact .inr (.inr rfl))) (m_cons m_str m_nil))) (m_cons (m_lst (m_cons (m_var (i := 1) rfl (by first | exact .inl rfl | exact .inr (.inl rfl) | exact .inr (.inr rfl))) m_nil)) (m_cons m_bl (m_cons m_str m_nil)))))))) nd rfl (by first | exact Or.inl rfl | exact Or.inr rfl))
    (s_cons (s_ret (m_callF c.f_law_pick rfl hG hr rfl tk (m_cons (m_var (i := 0) rfl (by first | exact .inl rfl | exact .inr (.inl rfl) | exact .inr (.inr rfl))) (m_cons (m_add rfl (m_var (i := 2) rfl (by first | exact .inl rfl | exact .inr (.inl rfl) | exact .inr (.inr rfl))) (m_lst (m_cons (m_tup (m_cons m_str (m_cons m_int m_nil))) (m_cons (m_tup (m_cons m_str (m_cons m_int (m_cons (m_lst (m_cons m_int m_nil)) m_nil)))) m_nil)))) m_nil))))
    s_nil)))
theorem ok_law_value (c : Facts P w K mg base n) : Fd P w K mg base (n + 4) (FF (n + 1)) "_law_value" 1 := by
  obtain ⟨fd, F⟩ := c.b.says.def_ 20 (d := dF "_law_value" 25) rfl
  exact ⟨⟨_, fd, ["pen"], rfl, fn_law_value c F, c.glo "_law_value", F.kp, F.bindsN fun _ _ _ _ _ _ us hl => match us, hl with | [_], _ => rfl⟩, FF_ar tbl_law_value (n + 1)⟩
theorem fnlaw (c : Facts P w K mg base n) {fd : FuncData} (F : FunD K (dF "law" 26).name (dF "law" 26).qual (dF "law" 26).params (dF "law" 26).body (dF "law" 26).scope [] [] (He.fAd K ("law", none)) fd) : FnG P w K mg base (L2.CX P w) (n + 4) (He.fAd K ("law", none)) fd ["script"] (SpF K (FF (n + 1)) 1 "law") := by
  have sc : FnScope ["script", "pen", "given", "row", "fields", "k", "e", "j"] ["script"] (defScope (top 26)) := ⟨rfl, rfl, rfl, by decide +kernel, rfl, by decide +kernel, by decide +kernel⟩
  refine def_D (ps := ["script"]) (N := ["script", "pen", "given", "row", "fields", "k", "e", "j"]) (body := blaw) (wf := wf) (B := B0) (F := FF n) F sc (FF_or tbllaw n) fun cdv A outer s H E T hT g hr => ?_
  subst hT
  have nd := sc.nd
  have hG : (A.deeper (envOfC "law" (defScope (top 26)) s.heap.objs.size (He.fAd T.K ("law", none)) cdv)).guards = some [] := g
  have hu := hr.units
  have hu1 := hu_of hr
  have hr2 := hr.mono (show 2 ≤ n + 3 by omega)
  have tk : Takes (cxOf (L2.CX P w) P w T.K mg base ["script", "pen", "given", "row", "fields", "k", "e", "j"] "law" (defScope (top 26)) (He.fAd T.K ("law", none)) cdv A outer s H E) (fun cls d _ H => E cls d H) := takes_of rfl rfl rfl rfl
  have hp : PassesOwn (model P w) (A.deeper (envOfC "law" (defScope (top 26)) s.heap.objs.size (He.fAd T.K ("law", none)) cdv)) (envOfC "law" (defScope (top 26)) s.heap.objs.size (He.fAd T.K ("law", none)) cdv) (cxOf (L2.CX P w) P w T.K mg base ["script", "pen", "given", "row", "fields", "k", "e", "j"] "law" (defScope (top 26)) (He.fAd T.K ("law", none)) cdv A outer s H E).xe := passes_of (X := cxOf (L2.CX P w) P w T.K mg base ["script", "pen", "given", "row", "fields", "k", "e", "j"] "law" (defScope (top 26)) (He.fAd T.K ("law", none)) cdv A outer s H E) rfl
  exact (s_cons (s_own (i := 1) (n_callF c.f_law_pen rfl hG hr rfl tk (m_cons (m_var (i := 0) rfl (by first | exact .inl rfl | exact .inr (.inl rfl) | exact .inr (.inr rfl))) m_nil)) nd rfl (by first | exact Or.inl rfl | exact Or.inr rfl))
    (s_cons (s_setC (i := 2) (own := [("k", 5)]) rfl nd rfl rfl (sw_true rfl rfl rfl (by decide +kernel)) (i_rng1 rfl (c.free "range") (m_cons m_int m_nil)) (blkOk_by (N := ["script", "pen", "given", "row", "fields", "k", "e", "j"]) (sc := defScope (top 26)) (by decide +kernel)) (by decide) (fun _ _ _ _ _ => (g_nm (pg_name (i := 5) nd rfl (by first | exact .inl rfl | exact .inr rfl)))) (fun _ _ _ _ _ => ts_nil) (fun _ _ _ _ _ => (m_callF c.f_law_value rfl hG hr rfl takes0 (m_cons (m_var (i := 1) rfl (by first | exact .inl rfl | exact .inr (.inl rfl) | exact .inr (.inr rfl))) m_nil))))
    (s_cons (s_set (i := 3) (m_callF c.f_law_made rfl hG hr rfl tk (m_cons (m_idx rfl (m_var (i := 2) rfl (by first | exact .inl rfl | exact .inr (.inl rfl) | exact .inr (.inr rfl))) m_int (fun _ _ => rfl)) (m_cons (m_idx rfl (m_var (i := 2) rfl (by first | exact .inl rfl | exact .inr (.inl rfl) | exact .inr (.inr rfl))) m_int (fun _ _ => rfl)) m_nil))) nd rfl (by first | exact Or.inl rfl | exact Or.inr rfl))
    (s_cons (m_for hp rfl (i_enm rfl rfl (c.free "enumerate") (m_cons (m_var (i := 3) rfl (by first | exact .inl rfl | exact .inr (.inl rfl) | exact .inr (.inr rfl))) m_nil)) (g_tp (is := [5, 6]) rfl rfl (gs_cons (pg_name (i := 5) nd rfl (by first | exact .inl rfl | exact .inr rfl)) (gs_cons (pg_name (i := 6) nd rfl (by first | exact .inl rfl | exact .inr rfl)) gs_nil))) (s_cons (s_if (PW.pt (w_or (t_not (t_plain (m_isiE (cs := (kitT "PointError")) (.own (cA T.K "PointError")) (c.kit "PointError") (m_var (i := 6) rfl (by first | exact .inl rfl | exact .inr (.inl rfl) | exact .inr (.inr rfl))) (pe_glob (v := .ref (cA T.K "PointError")) rfl (c.glo "PointError") rfl) rfl (c.free "isinstance")) rfl (fun _ => rfl) rfl)) (w_or1 (t_not (t_plain (m_isiE (cs := (kitT "ValueError")) (.ty "ValueError") (c.kit "ValueError") (m_var (i := 6) rfl (by first | exact .inl rfl | exact .inr (.inl rfl) | exact .inr (.inr rfl))) (pe_bltn (v := .ty "ValueError") rfl (c.free "ValueError") (by decide +kernel) rfl) rfl (c.free "isinstance")) rfl (fun _ => rfl) rfl))))) (s_cons (s_ret m_bl)
    s_nil) s_nil)
    (s_cons (s_if (t_ne rfl hu (m_callF c.f_law_kinds rfl hG hr rfl tk (m_cons (m_var (i := 6) rfl (by first | exact .inl rfl | exact .inr (.inl rfl) | exact .inr (.inr rfl))) m_nil)) (m_made (n_comp (own := [("j", 7)]) rfl nd (i_rng1 rfl (c.free "range") (m_cons (m_blt (call_len_seq.or (call_len_str.or call_lenD)) cs_len rfl (c.free "len") (by decide +kernel) (m_cons (m_var (i := 3) rfl (by first | exact .inl rfl | exact .inr (.inl rfl) | exact .inr (.inr rfl))) m_nil)) m_nil)) (blkOk_by (N := ["script", "pen", "given", "row", "fields", "k", "e", "j"]) (sc := defScope (top 26)) (by decide +kernel)) (by decide) (fun _ _ _ _ _ => (g_nm (pg_name (i := 7) nd rfl (by first | exact .inl rfl | exact .inr rfl)))) (fun _ _ _ _ _ => ts_nil) (fun _ _ _ _ _ => (m_eq rfl hu (m_var (i := 7) rfl (by first | exact .inl rfl | exact .inr (.inl rfl) | exact .inr (.inr rfl))) (m_var (i := 5) rfl (by first | exact .inl rfl | exact .inr (.inl rfl) | exact .inr (.inr rfl))) (by rfl))))) (by rfl)) (s_cons (s_ret m_bl)
    s_nil) s_nil)
    s_nil)))
    (s_cons (m_for hp rfl (i_seq rfl (m_callF c.f_law_fields rfl hG hr rfl tk (m_cons (m_var (i := 3) rfl (by first | exact .inl rfl | exact .inr (.inl rfl) | exact .inr (.inr rfl))) m_nil))) (g_nm (pg_name (i := 4) nd rfl (by first | exact .inl rfl | exact .inr rfl))) (s_cons (s_if (PW.pt (w_or (t_ne rfl hu (m_var (i := 4) rfl (by first | exact .inl rfl | exact .inr (.inl rfl) | exact .inr (.inr rfl))) (m_slc rfl (m_var (i := 2) rfl (by first | exact .inl rfl | exact .inr (.inl rfl) | exact .inr (.inr rfl))) o_none (o_some (m_blt (call_len_seq.or (call_len_str.or call_lenD)) cs_len rfl (c.free "len") (by decide +kernel) (m_cons (m_var (i := 4) rfl (by first | exact .inl rfl | exact .inr (.inl rfl) | exact .inr (.inr rfl))) m_nil)) (fun z => by cases z))) (by rfl)) (w_or1 (t_ne rfl hu (m_blt (call_repr hG hu) cs_repr rfl (c.free "repr") (by decide +kernel) (m_cons (m_var (i := 4) rfl (by first | exact .inl rfl | exact .inr (.inl rfl) | exact .inr (.inr rfl))) m_nil)) (m_blt (call_repr hG hu) cs_repr rfl (c.free "repr") (by decide +kernel) (m_cons (m_slc rfl (m_var (i := 2) rfl (by first | exact .inl rfl | exact .inr (.inl rfl) | exact .inr (.inr rfl))) o_none (o_some (m_blt (call_len_seq.or (call_len_str.or call_lenD)) cs_len rfl (c.free "len") (by decide +kernel) (m_cons (m_var (i := 4) rfl (by first | exact .inl rfl | exact .inr (.inl rfl) | exact .inr (.inr rfl))) m_nil)) (fun z => by cases z))) m_nil)) (by rfl))))) (s_cons (s_ret m_bl)
    s_nil) s_nil)
    s_nil))
    (s_cons (s_ret (m_eq rfl hu (m_made (n_comp (own := [("fields", 4)]) rfl nd (i_seq rfl (m_callF c.f_law_fields rfl hG hr rfl tk (m_cons (m_var (i := 3) rfl (by first | exact .inl rfl | exact .inr (.inl rfl) | exact .inr (.inr rfl))) m_nil))) (blkOk_by (N := ["script", "pen", "given", "row", "fields", "k", "e", "j"]) (sc := defScope (top 26)) (by decide +kernel)) (by decide) (fun _ _ _ _ _ => (g_nm (pg_name (i := 4) nd rfl (by first | exact .inl rfl | exact .inr rfl)))) (fun _ _ _ _ _ => ts_nil) (fun _ _ _ _ _ => (m_blt (call_len_seq.or (call_len_str.or call_lenD)) cs_len rfl (c.free "len") (by decide +kernel) (m_cons (m_var (i := 4) rfl (by first | exact .inl rfl | exact .inr (.inl rfl) | exact .inr (.inr rfl))) m_nil))))) (m_lst (m_cons m_int (m_cons m_int (m_cons m_int (m_cons m_int (m_cons m_int (m_cons m_int (m_cons m_int (m_cons m_int (m_cons m_int (m_cons m_int (m_cons m_int (m_cons m_int (m_cons m_int (m_cons m_int (m_cons m_int m_nil)))))))))))))))) (by rfl)))
    s_nil))))))
theorem oklaw (c : Facts P w K mg base n) : Fd P w K mg base (n + 4) (FF (n + 1)) "law" 1 := by
  obtain ⟨fd, F⟩ := c.b.says.def_ 21 (d := dF "law" 26) rfl
  exact ⟨⟨_, fd, ["script"], rfl, fnlaw c F, c.glo "law", F.kp, F.bindsN fun _ _ _ _ _ _ us hl => match us, hl with | [_], _ => rfl⟩, FF_ar tbllaw (n + 1)⟩
end
end K00

end
end

section
set_option Elab.async false
set_option linter.all false
set_option maxRecDepth 100000
set_option maxHeartbeats 4000000
noncomputable section
namespace K00
open PySem PySem.Spec PyProof.Rows L2 Ow
section
variable {P : Program} {w : World} {K : Fr} {mg : Str → Option Value} {base : Heap}
theorem fnG_none {k : Nat} {f : Addr} {fd : FuncData} {ps : List Str} {x : Str} : FnG P w K mg base (L2.CX P w) k f fd ps (SpF K (FF 0) ps.length x) where
  len := fun vs H Q E h => h.1
  go := fun A outer s H args us vs Q E _ _ _ _ _ h => by
    obtain ⟨_, O, ss, _, z⟩ := h
    exact z.elim
theorem facts (b : Base K mg) : ∀ n, Facts P w K mg base n
  | 0 => by
    obtain ⟨fd0, F0⟩ := b.says.def_ 13 (d := dF "_law_pen" 18) rfl
    have B0 : Binds K fd0 ["script"] [] := F0.bindsN fun _ _ _ _ _ _ us hl => match us, hl with | [_], _ => rfl
    obtain ⟨fd1, F1⟩ := b.says.def_ 14 (d := dF "_law_draw" 19) rfl
    have B1 : Binds K fd1 ["pen", "many"] [] := F1.bindsN fun _ _ _ _ _ _ us hl => match us, hl with | [_, _], _ => rfl
    obtain ⟨fd2, F2⟩ := b.says.def_ 15 (d := dF "_law_pick" 20) rfl
    have B2 : Binds K fd2 ["pen", "some"] [] := F2.bindsN fun _ _ _ _ _ _ us hl => match us, hl with | [_, _], _ => rfl
    obtain ⟨fd3, F3⟩ := b.says.def_ 16 (d := dF "_law_far" 21) rfl
    have B3 : Binds K fd3 ["pen"] [] := F3.bindsN fun _ _ _ _ _ _ us hl => match us, hl with | [_], _ => rfl
    obtain ⟨fd4, F4⟩ := b.says.def_ 17 (d := dF "_law_kinds" 22) rfl
    have B4 : Binds K fd4 ["e"] [] := F4.bindsN fun _ _ _ _ _ _ us hl => match us, hl with | [_], _ => rfl
    obtain ⟨fd5, F5⟩ := b.says.def_ 18 (d := dF "_law_made" 23) rfl
    have B5 : Binds K fd5 ["a", "b"] [] := F5.bindsN fun _ _ _ _ _ _ us hl => match us, hl with | [_, _], _ => rfl
    obtain ⟨fd6, F6⟩ := b.says.def_ 19 (d := dF "_law_fields" 24) rfl
    have B6 : Binds K fd6 ["row"] [] := F6.bindsN fun _ _ _ _ _ _ us hl => match us, hl with | [_], _ => rfl
    obtain ⟨fd7, F7⟩ := b.says.def_ 20 (d := dF "_law_value" 25) rfl
    have B7 : Binds K fd7 ["pen"] [] := F7.bindsN fun _ _ _ _ _ _ us hl => match us, hl with | [_], _ => rfl
    obtain ⟨fd8, F8⟩ := b.says.def_ 21 (d := dF "law" 26) rfl
    have B8 : Binds K fd8 ["script"] [] := F8.bindsN fun _ _ _ _ _ _ us hl => match us, hl with | [_], _ => rfl
    exact ⟨b, ⟨⟨_, fd0, ["script"], rfl, fnG_none, b.glo_ "_law_pen" (by decide +kernel), F0.kp, B0⟩, FF_ar tbl_law_pen 0⟩,
      ⟨⟨_, fd1, ["pen", "many"], rfl, fnG_none, b.glo_ "_law_draw" (by decide +kernel), F1.kp, B1⟩, FF_ar tbl_law_draw 0⟩,
      ⟨⟨_, fd2, ["pen", "some"], rfl, fnG_none, b.glo_ "_law_pick" (by decide +kernel), F2.kp, B2⟩, FF_ar tbl_law_pick 0⟩,
      ⟨⟨_, fd3, ["pen"], rfl, fnG_none, b.glo_ "_law_far" (by decide +kernel), F3.kp, B3⟩, FF_ar tbl_law_far 0⟩,
      ⟨⟨_, fd4, ["e"], rfl, fnG_none, b.glo_ "_law_kinds" (by decide +kernel), F4.kp, B4⟩, FF_ar tbl_law_kinds 0⟩,
      ⟨⟨_, fd5, ["a", "b"], rfl, fnG_none, b.glo_ "_law_made" (by decide +kernel), F5.kp, B5⟩, FF_ar tbl_law_made 0⟩,
      ⟨⟨_, fd6, ["row"], rfl, fnG_none, b.glo_ "_law_fields" (by decide +kernel), F6.kp, B6⟩, FF_ar tbl_law_fields 0⟩,
      ⟨⟨_, fd7, ["pen"], rfl, fnG_none, b.glo_ "_law_value" (by decide +kernel), F7.kp, B7⟩, FF_ar tbl_law_value 0⟩,
      ⟨⟨_, fd8, ["script"], rfl, fnG_none, b.glo_ "law" (by decide +kernel), F8.kp, B8⟩, FF_ar tbllaw 0⟩⟩
  | n + 1 => by
    have c := facts b n
    exact ⟨b, ok_law_pen c, ok_law_draw c, ok_law_pick c, ok_law_far c, ok_law_kinds c, ok_law_made c, ok_law_fields c, ok_law_value c, oklaw c⟩
/-- from what the head tells -/
theorem base_of {h : Heap} {w : World} (X : K.In h) (G : h.Ns mainGlobals mg) (c : He.SaysX fa fn [] [] ex w h K) : Base K mg := by
  refine ⟨c.t.d, c.more, fun x hx => ?_, fun x hx => ?_⟩
  · exact He.free_ok X G (c.t.d.facts (f := .free x) (List.mem_append_right _ (List.mem_map.mpr ⟨x, hx, rfl⟩)))
  · exact He.glo_ok X G (c.t.d.facts (f := .glo x) (List.mem_append_left _ (List.mem_map.mpr ⟨x, hx, rfl⟩)))
theorem walk_GE {l : PySem.W.OpenLaw} {n k : Nat} {q : Program} {loose : List Str} {XP : (Str → Option Value) → Heap → Prop} {YP : World → Heap → Prop} {d : DefRec} {CX : World → CXT} {x : Str}
    (hn : l.most = some n) (hn2 : n ≤ sizeLine) (hdf : d.params.defaults = []) (hr : Room k callerA)
    (F : ∀ (w : World) (mg : Str → Option Value) (fa : Addr) (h : Heap), YP w h → h.Ns mainGlobals mg → mg d.name = some (.ref fa) → ∃ (K : PySem.W.Frag) (fd : FuncData) (sp : Sp), K.In h ∧ (∀ (s : Shared) (u : Value), BindsTo s fd ⟨[u], []⟩ [(x, u)]) ∧
        (∀ (H : Hp) (a : Addr) (ns : List Int), ns.length ≤ n → Only H → SqL K H a (ns.map V.int) → sp [.ref a] H (fun v _ => v = .bl true) fun _ _ _ => False) ∧ ∀ base : Heap, K.In base → base.Ns mainGlobals mg → FnG l.prog w K mg base (CX w) k fa fd [x] sp)
    (hCX : ∀ (w : World) (H : Hp) (s : Shared) (e : Value) (s' : Shared), CX w [] H s (fun _ _ _ => False) e s' → False) : PySem.W.WalkO q loose XP YP l.row.toRowW d [] (fun f vs => PySem.call f vs) :=
  Att.attach_call hn hdf fun w s₀ s₁ mg mb fa o pm cd doc a vs ns G Y ho hd hcd hmg hobj hints hlen hg => by
    obtain ⟨K, fd, sp, KX, bnd, want, go⟩ := F w mg fa _ Y G.T.g hmg
    exact law_G KX G.T.g G.T.b G.T.builtins G.T.nolimit hg hobj hints (Nat.le_trans hlen hn2) hr go bnd (fun H only seq => want H a ns hlen only seq) fun H e s' => hCX w H s₁ e s'
end
/-- what is to be shown of the bodies alone -/
def Goal : Prop := ∀ ns : List Int, ns.length ≤ 63 → ∃ fin, FF 6 "law" [.sh (.scr ns)] = .ok (.bl true) fin
theorem of_goal (goal : Goal) {P : Program} {w : World} {K : Fr} {mg : Str → Option Value} {h : Heap} {f : Addr} (X : K.In h) (G : h.Ns mainGlobals mg) (hfa : mg ("law" : Str) = some (.ref f)) (c : He.SaysX fa fn [] [] ex w h K) :
    ∃ (fd : FuncData) (sp : Sp), (∀ (s : Shared) (v : Value), BindsTo s fd ⟨[v], []⟩ [("script", v)]) ∧ (∀ (H : Hp) (a : Addr) (ns : List Int), ns.length ≤ 63 → Only H → SqL K H a (ns.map V.int) → sp [.ref a] H (fun v _ => v = .bl true) fun _ _ _ => False) ∧
      ∀ base : Heap, K.In base → base.Ns mainGlobals mg → FnG P w K mg base (L2.CX P w) 9 f fd ["script"] sp := by
  have b := base_of X G c
  obtain ⟨fd, F⟩ := b.says.def_ 21 (d := dF "law" 26) rfl
  have sc : FnScope ["script", "pen", "given", "row", "fields", "k", "e", "j"] ["script"] (defScope (top 26)) := ⟨rfl, rfl, rfl, by decide +kernel, rfl, by decide +kernel, by decide +kernel⟩
  have bnd := FunD.bindsA (ps := ["script"]) F fun _ _ _ _ _ _ us hl => match us, hl with | [_], _ => rfl
  have ef : f = He.fAd K ("law", none) := by
    have e := hfa.symm.trans (b.glo_ "law" (by decide +kernel))
    cases e
    rfl
  refine ⟨fd, SpF K (FF 6) 1 "law", fun s v => bnd s [v] rfl, fun H a ns hl _ hS => ?_, fun base hK hN => ?_⟩
  · obtain ⟨fin, e⟩ := goal ns hl
    refine ⟨rfl, fun _ => False, [.sh (.scr ns)], ⟨fun a z => z.elim, rfl, fun i d q => ?_, fun i d q => ?_, fun i s q => ?_, fun i j d d' a q => ?_⟩, ?_⟩
    · cases i with
      | zero =>
        cases (show some (Slot.sh (.scr ns)) = some (.sh d) from q)
        have rs : Same H (res H fun _ => False) := fun a o z => res_some.mpr ⟨id, z⟩
        exact ⟨.ref a, rfl, a, rfl, L2.Same.seq rs hS⟩
      | succ i => cases q
    · cases i with
      | zero => cases (show some (Slot.sh (.scr ns)) = some (.ln d) from q)
      | succ i => cases q
    · cases i with
      | zero => cases (show some (Slot.sh (.scr ns)) = some s from q); exact .inl ⟨_, rfl⟩
      | succ i => cases q
    · cases i with
      | zero => cases (show some (Slot.sh (.scr ns)) = some (.ln d) from q)
      | succ i => cases q
    · rw [e]
      intro v H' _ rv _
      exact rv
  · subst ef
    exact fnlaw (facts (P := P) (w := w) (base := base) b 5) F
end K00

end
end

section
set_option Elab.async false
set_option linter.all false
set_option maxRecDepth 100000
set_option maxHeartbeats 4000000
noncomputable section
namespace K00
open PySem PySem.Spec Ow
/-! ## the pen -/
def pk (c : List Int) (a d k f : Int) : List (L2.Key × D) := [(.inr "cells", .lst (c.map .int)), (.inr "at", .int a), (.inr "digits", .int d), (.inr "count", .int k), (.inr "fold", .int f)]
abbrev pn (c : List Int) (a d k f : Int) : D := .dic (pk c a d k f)
section
variable {c : List Int} {a d k f x : Int}
theorem g1 : getD (pn c a d k f) (.str "cells") = some (.lst (c.map .int)) := by kernel_rfl
theorem g2 : getD (pn c a d k f) (.str "at") = some (.int a) := by kernel_rfl
theorem g3 : getD (pn c a d k f) (.str "digits") = some (.int d) := by kernel_rfl
theorem g4 : getD (pn c a d k f) (.str "count") = some (.int k) := by kernel_rfl
theorem g5 : getD (pn c a d k f) (.str "fold") = some (.int f) := by kernel_rfl
theorem p2 : putD (pk c a d k f) (.inr "at") (.int x) = pk c x d k f := by kernel_rfl
theorem p3 : putD (pk c a d k f) (.inr "digits") (.int x) = pk c a x k f := by kernel_rfl
theorem p4 : putD (pk c a d k f) (.inr "count") (.int x) = pk c a d x f := by kernel_rfl
theorem p5 : putD (pk c a d k f) (.inr "fold") (.int x) = pk c a d k x := by kernel_rfl
theorem pl : (pk c a d k f).length < sizeLine := by show 5 < sizeLine; decide
end
theorem bmul {i j : Int} (h : L2.CMul i j) : binD .Mult (.int i) (.int j) = some (.int (i * j)) := by
  unfold binD
  exact if_pos h
theorem bdiv {i j : Int} (h : 0 < j ∧ j < 1073741824) : binD .FloorDiv (.int i) (.int j) = some (.int (i / j)) := by
  unfold binD
  exact if_pos h
theorem bmod {i j : Int} (h : 0 < j) : binD .Mod (.int i) (.int j) = some (.int (i % j)) := by
  unfold binD
  exact if_pos h
theorem bpow {i j : Int} (h : L2.CPow i j) : binD .Pow (.int i) (.int j) = some (.int (i ^ j.toNat)) := by
  unfold binD
  exact if_pos h
theorem badd {i j : Int} : binD .Add (.int i) (.int j) = some (.int (i + j)) := rfl
theorem bsub {i j : Int} : binD .Sub (.int i) (.int j) = some (.int (i - j)) := rfl
theorem ceq {i j : Int} : cmpD .Eq (.int i) (.int j) = some (decide (i = j)) := by
  show eqD (.int i) (.int j) = _
  unfold eqD toPy
  rfl
theorem clt {i j : Int} : cmpD .Lt (.int i) (.int j) = some (decide (i < j)) := rfl
theorem cge {i j : Int} : cmpD .GtE (.int i) (.int j) = some (decide (j ≤ i)) := rfl
theorem cgt {i j : Int} : cmpD .Gt (.int i) (.int j) = some (decide (j < i)) := rfl
theorem FF_run {x : Str} {a m : Nat} {b : List S} (h : tbl.lookup x = some (a, m, b)) (n : Nat) {ss : List Slot} (hl : ss.length = a) : FF (n + 1) x ss = runDef B0 (FF n) wf m b ss := by rw [FF_at h, if_pos hl]
theorem loopF_int {t : D → List Slot → Ow.R Out} (P : List Slot → Prop) (h : ∀ x e, P e → ∃ e', t (.int x) e = .ok .nx e' ∧ P e') : ∀ (ns : List Int) (e : List Slot), P e → ∃ e', loopF t (ns.map .int) e = .ok .nx e' ∧ P e'
  | [], e, p => ⟨e, rfl, p⟩
  | x :: ns, e, p => by
    obtain ⟨e1, h1, h2⟩ := h x e p
    obtain ⟨e2, h3, h4⟩ := loopF_int P h ns e1 h2
    refine ⟨e2, ?_, h4⟩
    rw [List.map_cons, loopF, h1]
    exact h3
theorem B_int {i : Int} : B0 .int [.int i] = some (.int i) := rfl
/-- the pen made -/
theorem pen_made (n : Nat) (ns : List Int) : ∃ f fin, FF (n + 1) "_law_pen" [.sh (.scr ns)] = .new (pn ns 0 0 0 f) fin ∧ 0 ≤ f ∧ f < 2147483648 := by
  obtain ⟨e', h1, f, s, rfl, h2, h3⟩ := loopF_int (t := turnF B0 (FF n) wf (.nm 2) [(.asg (.nm 1) (.bin .Mod (.blt .int [(.bin .Add (.bin .Mult (.var 1) (.c (.int 47))) (.var 2))]) (.c (.int 1000000007))))]) (fun e => ∃ f s, e = [.sh (.scr ns), .sh (.int f), s] ∧ 0 ≤ f ∧ f < 1000000007) (fun x e he => by
    obtain ⟨f, s, rfl, _, _⟩ := he
    refine ⟨[.sh (.scr ns), .sh (.int ((f * 47 + x) % 1000000007)), .sh (.int x)], ?_, _, _, rfl, Int.emod_nonneg _ (by decide), Int.emod_lt_of_pos _ (by decide)⟩
    rw [turn_ (e1 := [.sh (.scr ns), .sh (.int f), .sh (.int x)]) rfl]
    refine (b_nx (s_asg_ (e_bin (e_blt (evs_sh (e_bin (e_bin (ev_sh rfl) ev_c rfl rfl (bmul (.inr ⟨by decide, by decide⟩))) (ev_sh rfl) rfl rfl badd) evs_nil) rfl B_int) ev_c rfl rfl (bmod (by decide))) rfl)).trans evB_nil) ns [.sh (.scr ns), .sh (.int 0), .un] ⟨0, .un, rfl, by decide, by decide⟩
  refine ⟨f, [.sh (.scr ns)], ?_, h2, by omega⟩
  rw [FF_run tbl_law_pen n rfl]
  unfold runDef b_law_pen
  have st1 : evS B0 (FF n) wf (.asg (.nm 1) (.c (.int 0))) [.sh (.scr ns), .un, .un] = .ok .nx [.sh (.scr ns), .sh (.int 0), .un] := s_asg_ ev_c rfl
  have st2 := (s_loop_ (B := B0) (F := FF n) (wf := wf) (k := .seq) (t := .nm 2) (b := [(.asg (.nm 1) (.bin .Mod (.blt .int [(.bin .Add (.bin .Mult (.var 1) (.c (.int 47))) (.var 2))]) (.c (.int 1000000007))))]) (es := [.var 0]) (e := [.sh (.scr ns), .sh (.int 0), .un]) (evs_sh (ev_sh rfl) evs_nil) rfl).trans h1
  have e3 : ev B0 (FF n) (.dct [(.inr "cells", (.blt .list [(.var 0)])), (.inr "at", (.c (.int 0))), (.inr "digits", (.c (.int 0))), (.inr "count", (.c (.int 0))), (.inr "fold", (.var 1))]) [.sh (.scr ns), .sh (.int f), s] = .ok (.sh (pn ns 0 0 0 f)) [.sh (.scr ns), .sh (.int f), s] := by
    have ks : evks B0 (FF n) [(.inr "cells", (.blt .list [(.var 0)])), (.inr "at", (.c (.int 0))), (.inr "digits", (.c (.int 0))), (.inr "count", (.c (.int 0))), (.inr "fold", (.var 1))] [.sh (.scr ns), .sh (.int f), s] = .ok (pk ns 0 0 0 f) [.sh (.scr ns), .sh (.int f), s] := by
      have l : ev B0 (FF n) (.blt .list [(.var 0)]) [.sh (.scr ns), .sh (.int f), s] = .ok (.sh (.lst (ns.map .int))) [.sh (.scr ns), .sh (.int f), s] := e_blt (evs_sh (ev_sh rfl) evs_nil) rfl rfl
      have v : ev B0 (FF n) (.var 1) [.sh (.scr ns), .sh (.int f), s] = .ok (.sh (.int f)) [.sh (.scr ns), .sh (.int f), s] := ev_sh rfl
      rw [evks, l, bind_ok]
      simp only [evks, ev_c, bind_ok, v]
      rfl
    rw [ev_dct, ks, bind_ok, if_pos ⟨by show 5 ≤ 15; decide, by
      show ([.inr "cells", .inr "at", .inr "digits", .inr "count", .inr "fold"] : List L2.Key).Nodup
      decide +kernel⟩]
  show finC [.sh (.scr ns)] (evB B0 (FF n) wf _ [.sh (.scr ns), .un, .un]) = _
  rw [b_nx st1, b_nx st2, b_rn (s_retN_ e3)]
  rfl
def Pen (k : Int) (p : D) : Prop := ∃ c a d f, p = pn c a d k f ∧ 0 ≤ a ∧ 0 ≤ d ∧ 0 ≤ f ∧ f < 2147483648
/-- one draw -/
theorem draw (n : Nat) {p : D} {k m : Int} (hp : Pen k p) (hk : 0 ≤ k ∧ k < 1000000) (hm : 0 < m ∧ m < 1073741824) : ∃ r p' x, FF (n + 1) "_law_draw" [.ln p, .sh (.int m)] = .ok (.int r) [.ln p', x] ∧ 0 ≤ r ∧ r < m ∧ Pen (k + 1) p' := by
  obtain ⟨c, a, d, f, rfl, ha, hd, hf, hf2⟩ := hp
  rw [FF_run tbl_law_draw n rfl]
  unfold runDef b_law_draw
  have st1 : evS B0 (FF n) wf (.setK 0 (.c (.str "count")) (.bin .Add (.dget (.var 0) (.c (.str "count"))) (.c (.int 1)))) [.ln (pn c a d k f), .sh (.int m), .un, .un, .un] = .ok .nx [.ln (pn c a d (k + 1) f), .sh (.int m), .un, .un, .un] := by
    rw [s_setK_ (e_bin (e_dget (ev_ln rfl) ev_c rfl rfl g4) ev_c rfl rfl badd) rfl pl, p4]
    rfl
  have st2 : ∃ a' d' f' s, evS B0 (FF n) wf (.ife (.and (.cmp .Eq (.dget (.var 0) (.c (.str "digits"))) (.c (.int 0))) (.cmp .Lt (.dget (.var 0) (.c (.str "at"))) (.blt .len [(.dget (.var 0) (.c (.str "cells")))]))) [(.asg (.nm 3) (.idx (.dget (.var 0) (.c (.str "cells"))) (.dget (.var 0) (.c (.str "at"))))), (.setK 0 (.c (.str "at")) (.bin .Add (.dget (.var 0) (.c (.str "at"))) (.c (.int 1)))), (.ife (.cmp .GtE (.var 3) (.bin .Pow (.c (.int 10)) (.c (.int 18)))) [(.setK 0 (.c (.str "digits")) (.bin .Sub (.var 3) (.bin .Pow (.c (.int 10)) (.c (.int 18)))))] [(.setK 0 (.c (.str "fold")) (.bin .Mod (.blt .int [(.bin .Add (.bin .Mult (.dget (.var 0) (.c (.str "fold"))) (.c (.int 22695477))) (.var 3))]) (.c (.int 2147483587))))])] []) [.ln (pn c a d (k + 1) f), .sh (.int m), .un, .un, .un] = .ok .nx [.ln (pn c a' d' (k + 1) f'), .sh (.int m), .un, s, .un] ∧ 0 ≤ a' ∧ 0 ≤ d' ∧ 0 ≤ f' ∧ f' < 2147483648 := by
    have t1 : evT B0 (FF n) (.cmp .Eq (.dget (.var 0) (.c (.str "digits"))) (.c (.int 0))) [.ln (pn c a d (k + 1) f), .sh (.int m), .un, .un, .un] = .ok (decide (d = 0)) [.ln (pn c a d (k + 1) f), .sh (.int m), .un, .un, .un] := t_of rfl (e_cmp (e_dget (ev_ln rfl) ev_c rfl rfl g3) ev_c rfl rfl ceq) rfl rfl
    have t2 : evT B0 (FF n) (.cmp .Lt (.dget (.var 0) (.c (.str "at"))) (.blt .len [(.dget (.var 0) (.c (.str "cells")))])) [.ln (pn c a d (k + 1) f), .sh (.int m), .un, .un, .un] = .ok (decide (a < ((c.map D.int).length : Int))) [.ln (pn c a d (k + 1) f), .sh (.int m), .un, .un, .un] := t_of rfl (e_cmp (e_dget (ev_ln rfl) ev_c rfl rfl g2) (e_blt (evs_sh (e_dget (ev_ln rfl) ev_c rfl rfl g1) evs_nil) rfl rfl) rfl rfl clt) rfl rfl
    have no : ∀ q : Bool, q = false → evT B0 (FF n) (.and (.cmp .Eq (.dget (.var 0) (.c (.str "digits"))) (.c (.int 0))) (.cmp .Lt (.dget (.var 0) (.c (.str "at"))) (.blt .len [(.dget (.var 0) (.c (.str "cells")))]))) [.ln (pn c a d (k + 1) f), .sh (.int m), .un, .un, .un] = .ok q [.ln (pn c a d (k + 1) f), .sh (.int m), .un, .un, .un] → ∃ a' d' f' s, evS B0 (FF n) wf (.ife (.and (.cmp .Eq (.dget (.var 0) (.c (.str "digits"))) (.c (.int 0))) (.cmp .Lt (.dget (.var 0) (.c (.str "at"))) (.blt .len [(.dget (.var 0) (.c (.str "cells")))]))) [(.asg (.nm 3) (.idx (.dget (.var 0) (.c (.str "cells"))) (.dget (.var 0) (.c (.str "at"))))), (.setK 0 (.c (.str "at")) (.bin .Add (.dget (.var 0) (.c (.str "at"))) (.c (.int 1)))), (.ife (.cmp .GtE (.var 3) (.bin .Pow (.c (.int 10)) (.c (.int 18)))) [(.setK 0 (.c (.str "digits")) (.bin .Sub (.var 3) (.bin .Pow (.c (.int 10)) (.c (.int 18)))))] [(.setK 0 (.c (.str "fold")) (.bin .Mod (.blt .int [(.bin .Add (.bin .Mult (.dget (.var 0) (.c (.str "fold"))) (.c (.int 22695477))) (.var 3))]) (.c (.int 2147483587))))])] []) [.ln (pn c a d (k + 1) f), .sh (.int m), .un, .un, .un] = .ok .nx [.ln (pn c a' d' (k + 1) f'), .sh (.int m), .un, s, .un] ∧ 0 ≤ a' ∧ 0 ≤ d' ∧ 0 ≤ f' ∧ f' < 2147483648 := fun q hq h => by
      subst hq
      exact ⟨a, d, f, .un, (s_ifF h).trans evB_nil, ha, hd, hf, hf2⟩
    by_cases z1 : d = 0
    · by_cases z2 : a < ((c.map D.int).length : Int)
      · obtain ⟨j, rfl⟩ : ∃ j : Nat, a = (j : Int) := ⟨a.toNat, by omega⟩
        have hj : j < c.length := by simpa using z2
        have at_ : idxD (.lst (c.map .int)) (.int (j : Int)) = some (.int c[j]) := L2.atI_nat (by rw [List.getElem?_map, List.getElem?_eq_getElem hj]; rfl)
        have cond : evT B0 (FF n) (.and (.cmp .Eq (.dget (.var 0) (.c (.str "digits"))) (.c (.int 0))) (.cmp .Lt (.dget (.var 0) (.c (.str "at"))) (.blt .len [(.dget (.var 0) (.c (.str "cells")))]))) [.ln (pn c (j : Int) d (k + 1) f), .sh (.int m), .un, .un, .un] = .ok true [.ln (pn c (j : Int) d (k + 1) f), .sh (.int m), .un, .un, .un] := by
          rw [evT_and, t1, bind_ok, decide_eq_true z1, if_pos rfl, t2, decide_eq_true z2]
        have q1 : evS B0 (FF n) wf (.asg (.nm 3) (.idx (.dget (.var 0) (.c (.str "cells"))) (.dget (.var 0) (.c (.str "at"))))) [.ln (pn c (j : Int) d (k + 1) f), .sh (.int m), .un, .un, .un] = .ok .nx [.ln (pn c (j : Int) d (k + 1) f), .sh (.int m), .un, .sh (.int c[j]), .un] := s_asg_ (e_idx (e_dget (ev_ln rfl) ev_c rfl rfl g1) (e_dget (ev_ln rfl) ev_c rfl rfl g2) rfl rfl at_) rfl
        have q2 : evS B0 (FF n) wf (.setK 0 (.c (.str "at")) (.bin .Add (.dget (.var 0) (.c (.str "at"))) (.c (.int 1)))) [.ln (pn c (j : Int) d (k + 1) f), .sh (.int m), .un, .sh (.int c[j]), .un] = .ok .nx [.ln (pn c ((j : Int) + 1) d (k + 1) f), .sh (.int m), .un, .sh (.int c[j]), .un] := by
          rw [s_setK_ (e_bin (e_dget (ev_ln rfl) ev_c rfl rfl g2) ev_c rfl rfl badd) rfl pl, p2]
          rfl
        have pw : ev B0 (FF n) (.bin .Pow (.c (.int 10)) (.c (.int 18))) [.ln (pn c ((j : Int) + 1) d (k + 1) f), .sh (.int m), .un, .sh (.int c[j]), .un] = .ok (.sh (.int (10 ^ 18))) [.ln (pn c ((j : Int) + 1) d (k + 1) f), .sh (.int m), .un, .sh (.int c[j]), .un] := e_bin ev_c ev_c rfl rfl (bpow ⟨by decide, by decide, by decide⟩)
        have t3 : evT B0 (FF n) (.cmp .GtE (.var 3) (.bin .Pow (.c (.int 10)) (.c (.int 18)))) [.ln (pn c ((j : Int) + 1) d (k + 1) f), .sh (.int m), .un, .sh (.int c[j]), .un] = .ok (decide ((10 : Int) ^ 18 ≤ c[j])) [.ln (pn c ((j : Int) + 1) d (k + 1) f), .sh (.int m), .un, .sh (.int c[j]), .un] := t_of rfl (e_cmp (ev_sh rfl) pw rfl rfl cge) rfl rfl
        by_cases z3 : (10 : Int) ^ 18 ≤ c[j]
        · rw [decide_eq_true z3] at t3
          refine ⟨(j : Int) + 1, c[j] - 10 ^ 18, f, .sh (.int c[j]), ?_, by omega, by omega, hf, hf2⟩
          rw [s_ifT cond, b_nx q1, b_nx q2, evB_cons, s_ifT t3, b_nx (s_setK_ (e_bin (ev_sh rfl) pw rfl rfl bsub) rfl pl), p3, evB_nil]
          rfl
        · rw [decide_eq_false z3] at t3
          refine ⟨(j : Int) + 1, d, (f * 22695477 + c[j]) % 2147483587, .sh (.int c[j]), ?_, by omega, hd, Int.emod_nonneg _ (by decide), Int.lt_trans (Int.emod_lt_of_pos _ (by decide)) (by decide)⟩
          rw [s_ifT cond, b_nx q1, b_nx q2, evB_cons, s_ifF t3, b_nx (s_setK_ (e_bin (e_blt (evs_sh (e_bin (e_bin (e_dget (ev_ln rfl) ev_c rfl rfl g5) ev_c rfl rfl (bmul (.inr ⟨by decide, by decide⟩))) (ev_sh rfl) rfl rfl badd) evs_nil) rfl B_int) ev_c rfl rfl (bmod (by decide))) rfl pl), p5, evB_nil]
          rfl
      · refine no false rfl ?_
        rw [evT_and, t1, bind_ok, decide_eq_true z1, if_pos rfl, t2, decide_eq_false z2]
    · refine no false rfl ?_
      rw [evT_and, t1, bind_ok, decide_eq_false z1, if_neg (by decide)]
  obtain ⟨a', d', f', s, st2, ha', hd', hf', hf2'⟩ := st2
  have t4 : evT B0 (FF n) (.cmp .Gt (.dget (.var 0) (.c (.str "digits"))) (.c (.int 0))) [.ln (pn c a' d' (k + 1) f'), .sh (.int m), .un, s, .un] = .ok (decide (0 < d')) [.ln (pn c a' d' (k + 1) f'), .sh (.int m), .un, s, .un] := t_of rfl (e_cmp (e_dget (ev_ln rfl) ev_c rfl rfl g3) ev_c rfl rfl cgt) rfl rfl
  by_cases z : 0 < d'
  · rw [decide_eq_true z] at t4
    refine ⟨d' % m, pn c a' (d' / m) (k + 1) f', .sh (.int m), ?_, Int.emod_nonneg _ (by omega), Int.emod_lt_of_pos _ hm.1, c, a', d' / m, f', rfl, ha', Int.ediv_nonneg hd' (by omega), hf', hf2'⟩
    show finC _ (evB B0 (FF n) wf _ [.ln (pn c a d k f), .sh (.int m), .un, .un, .un]) = _
    rw [b_nx st1, b_nx st2, evB_cons, s_ifT t4,
      b_nx (e1 := [.ln (pn c a' d' (k + 1) f'), .sh (.int m), .un, s, .sh (.int (d' % m))]) (s_asg_ (e_bin (e_blt (evs_sh (e_dget (ev_ln rfl) ev_c rfl rfl g3) evs_nil) rfl B_int) (ev_sh rfl) rfl rfl (bmod hm.1)) rfl),
      b_nx (s_setK_ (e_bin (e_dget (ev_ln rfl) ev_c rfl rfl g3) (ev_sh rfl) rfl rfl (bdiv hm)) rfl pl), p3, b_rt (s_ret_ (ev_sh rfl))]
    rfl
  · rw [decide_eq_false z] at t4
    have hx : (f' + (k + 1) * 8011 + 43).natAbs < 2 ^ 64 := by omega
    refine ⟨(f' + (k + 1) * 8011 + 43) ^ (17 : Nat) % 2305843009213693951 / 128 % m, pn c a' d' (k + 1) f', .sh (.int m), ?_, Int.emod_nonneg _ (by omega), Int.emod_lt_of_pos _ hm.1, c, a', d', f', rfl, ha', hd', hf', hf2'⟩
    show finC _ (evB B0 (FF n) wf _ [.ln (pn c a d k f), .sh (.int m), .un, .un, .un]) = _
    rw [b_nx st1, b_nx st2, evB_cons, s_ifF t4, evB_nil]
    show finC _ (evB B0 (FF n) wf _ [.ln (pn c a' d' (k + 1) f'), .sh (.int m), .un, s, .un]) = _
    rw [b_nx (e1 := [.ln (pn c a' d' (k + 1) f'), .sh (.int m), .sh (.int (f' + (k + 1) * 8011 + 43)), s, .un]) (s_asg_ (e_bin (e_bin (e_dget (ev_ln rfl) ev_c rfl rfl g5) (e_bin (e_dget (ev_ln rfl) ev_c rfl rfl g4) ev_c rfl rfl (bmul (.inr ⟨by decide, by decide⟩))) rfl rfl badd) ev_c rfl rfl badd) rfl),
      b_rt (s_ret_ (e_bin (e_bin (e_blt (evs_sh (e_bin (e_bin (ev_sh rfl) ev_c rfl rfl (bpow ⟨by decide, by decide, hx⟩)) ev_c rfl rfl (bmod (by decide))) evs_nil) rfl B_int) ev_c rfl rfl (bdiv ⟨by decide, by decide⟩)) (ev_sh rfl) rfl rfl (bmod hm.1)))]
    rfl
end K00

end
end

section
set_option Elab.async false
set_option linter.all false
set_option maxRecDepth 100000
set_option maxHeartbeats 4000000
noncomputable section
namespace K00
open PySem PySem.Spec Ow
theorem loopF_n {t : D → List Slot → Ow.R Out} (P : Nat → List Slot → Prop) : ∀ (ds : List D) (i : Nat) (e : List Slot), P i e → (∀ j d e, j < i + ds.length → P j e → ∃ e', t d e = .ok .nx e' ∧ P (j + 1) e') → ∃ e', loopF t ds e = .ok .nx e' ∧ P (i + ds.length) e'
  | [], i, e, p, _ => ⟨e, rfl, p⟩
  | d :: ds, i, e, p, h => by
    obtain ⟨e1, h1, h2⟩ := h i d e (by simp) p
    obtain ⟨e2, h3, h4⟩ := loopF_n P ds (i + 1) e1 h2 fun j d e hj => h j d e (by simp only [List.length_cons]; omega)
    refine ⟨e2, ?_, by simpa [Nat.add_assoc, Nat.add_comm 1] using h4⟩
    rw [loopF, h1]
    exact h3
theorem argsOk1 {i : Nat} {d : D} : argsOk [.pl i, .sh d] = true := by
  unfold Ow.argsOk
  simp [plOf, isFr, List.filterMap]
theorem argsOk0 {i : Nat} : argsOk [.pl i] = true := by
  unfold Ow.argsOk
  simp [plOf, isFr, List.filterMap]
theorem argsOkS {d : D} : argsOk [.sh d] = true := by
  unfold Ow.argsOk
  simp [plOf, isFr, List.filterMap]
theorem argsOkSS {d d' : D} : argsOk [.sh d, .sh d'] = true := by
  unfold Ow.argsOk
  simp [plOf, isFr, List.filterMap]
theorem items1 {n : Int} (h : -(2 ^ 62) ≤ n ∧ n < 2 ^ 62) : (shs [EV.sh (.int n)]).bind (itemsOf .rng1) = some (rngI 0 n) := by
  have e : (shs [EV.sh (.int n)]).bind (itemsOf .rng1) = if -(2 ^ 62) ≤ n ∧ n < 2 ^ 62 then some (rngI 0 n) else none := rfl
  rw [e, if_pos h]
/-- one of these -/
theorem pick (n : Nat) {p : D} {k : Int} {xs : List D} (hp : Pen k p) (hk : 0 ≤ k ∧ k < 1000000) (h0 : 0 < xs.length) (h1 : xs.length < 1000) : ∃ d ∈ xs, ∃ p' x, FF (n + 2) "_law_pick" [.ln p, .sh (.lst xs)] = .ok d [.ln p', x] ∧ Pen (k + 1) p' := by
  obtain ⟨r, p', x, h, r0, r1, hp'⟩ := draw n (m := (xs.length : Int)) hp hk ⟨by omega, by omega⟩
  obtain ⟨j, rfl⟩ : ∃ j : Nat, r = (j : Int) := ⟨r.toNat, by omega⟩
  have hj : j < xs.length := by omega
  refine ⟨xs[j], List.getElem_mem hj, p', .sh (.lst xs), ?_, hp'⟩
  rw [FF_run tbl_law_pick (n + 1) rfl]
  unfold runDef b_law_pick
  have c : ev B0 (FF (n + 1)) (.call "_law_draw" [(.var 0), (.blt .len [(.var 1)])]) [.ln p, .sh (.lst xs)] = .ok (.sh (.int (j : Int))) [.ln p', .sh (.lst xs)] := e_call (evs_pl (ev_ln rfl) (evs_sh (e_blt (evs_sh (ev_sh rfl) evs_nil) rfl rfl) evs_nil)) argsOk1 rfl h
  show finC _ (evB B0 (FF (n + 1)) wf _ [.ln p, .sh (.lst xs)]) = _
  rw [b_rt (s_ret_ (e_idx (ev_sh rfl) c rfl rfl (show idxD (.lst xs) (.int (j : Int)) = some xs[j] from L2.atI_nat (List.getElem?_eq_getElem hj))))]
  rfl
/-- a far number -/
theorem far (n : Nat) {p : D} {k : Int} (hp : Pen k p) (hk : 0 ≤ k ∧ k < 100000) : ∃ z p', FF (n + 3) "_law_far" [.ln p] = .ok (.int z) [.ln p'] ∧ z.natAbs < 10 ^ 60 ∧ ∃ k', k ≤ k' ∧ k' ≤ k + 20 ∧ Pen k' p' := by
  obtain ⟨r1, p1, x1, h1, a1, a2, hp1⟩ := draw (n + 1) (m := 2) hp ⟨hk.1, by omega⟩ ⟨by decide, by decide⟩
  obtain ⟨d2, hd2, p2, x2, h2, hp2⟩ := pick n (xs := [.int 0, .int 0, .int 1, .int 3, .int 9]) hp1 ⟨by omega, by omega⟩ (by decide) (by decide)
  obtain ⟨r3, p3, x3, h3, c1, c2, hp3⟩ := draw (n + 1) (m := 40) hp2 ⟨by omega, by omega⟩ ⟨by decide, by decide⟩
  obtain ⟨mn, rfl, hmn⟩ : ∃ mn : Nat, d2 = .int (mn : Int) ∧ mn ≤ 9 := by
    simp only [List.mem_cons, List.not_mem_nil, or_false] at hd2
    rcases hd2 with rfl | rfl | rfl | rfl | rfl
    · exact ⟨0, rfl, by decide⟩
    · exact ⟨0, rfl, by decide⟩
    · exact ⟨1, rfl, by decide⟩
    · exact ⟨3, rfl, by decide⟩
    · exact ⟨9, rfl, by decide⟩
  rw [FF_run tbl_law_far (n + 2) rfl]
  unfold runDef b_law_far
  have st1 : evS B0 (FF (n + 2)) wf (.par [2, 3, 4] [(.bin .Sub (.c (.int 1)) (.bin .Mult (.c (.int 2)) (.call "_law_draw" [(.var 0), (.c (.int 2))]))), (.call "_law_pick" [(.var 0), (.lst [(.c (.int 0)), (.c (.int 0)), (.c (.int 1)), (.c (.int 3)), (.c (.int 9))])]), (.call "_law_draw" [(.var 0), (.c (.int 40))])]) [.ln p, .un, .un, .un, .un] = .ok .nx [.ln p3, .un, .sh (.int (1 - 2 * r1)), .sh (.int (mn : Int)), .sh (.int r3)] := by
    have q1 : ev B0 (FF (n + 2)) (.call "_law_draw" [(.var 0), (.c (.int 2))]) [.ln p, .un, .un, .un, .un] = .ok (.sh (.int r1)) [.ln p1, .un, .un, .un, .un] := e_call (evs_pl (ev_ln rfl) (evs_sh ev_c evs_nil)) argsOk1 rfl h1
    have q2 : ev B0 (FF (n + 2)) (.call "_law_pick" [(.var 0), (.lst [(.c (.int 0)), (.c (.int 0)), (.c (.int 1)), (.c (.int 3)), (.c (.int 9))])]) [.ln p1, .un, .un, .un, .un] = .ok (.sh (.int (mn : Int))) [.ln p2, .un, .un, .un, .un] := e_call (evs_pl (ev_ln rfl) (evs_sh (e_lst (evs_sh ev_c (evs_sh ev_c (evs_sh ev_c (evs_sh ev_c (evs_sh ev_c evs_nil))))) rfl (by show 5 ≤ sizeLine; decide)) evs_nil)) argsOk1 rfl h2
    have q3 : ev B0 (FF (n + 2)) (.call "_law_draw" [(.var 0), (.c (.int 40))]) [.ln p2, .un, .un, .un, .un] = .ok (.sh (.int r3)) [.ln p3, .un, .un, .un, .un] := e_call (evs_pl (ev_ln rfl) (evs_sh ev_c evs_nil)) argsOk1 rfl h3
    exact s_par_ (evs_sh' (e_bin ev_c (e_bin ev_c q1 rfl rfl (bmul (.inl ⟨by decide, by decide⟩))) rfl rfl bsub) (evs_sh' q2 (evs_sh' q3 evs_nil))) rfl ⟨rfl, rfl⟩
  have ln9 : (rngI 0 (mn : Int)).length = mn := by
    unfold rngI
    simp
  obtain ⟨e', h4, p4, f, s, rfl, hp4, g2, g3⟩ := loopF_n (t := turnF B0 (FF (n + 2)) wf (.nm 1) [(.asg (.nm 4) (.bin .Add (.bin .Mult (.var 4) (.bin .Pow (.c (.int 10)) (.c (.int 6)))) (.call "_law_draw" [(.var 0), (.bin .Pow (.c (.int 10)) (.c (.int 6)))])))])
    (fun j e => ∃ p f s, e = [.ln p, s, .sh (.int (1 - 2 * r1)), .sh (.int (mn : Int)), .sh (.int f)] ∧ Pen (k + 3 + (j : Int)) p ∧ 0 ≤ f ∧ f + 1 ≤ 40 * 10 ^ (6 * j)) (rngI 0 (mn : Int)) 0 [.ln p3, .un, .sh (.int (1 - 2 * r1)), .sh (.int (mn : Int)), .sh (.int r3)]
    ⟨p3, r3, .un, rfl, by simpa [Int.add_assoc] using hp3, c1, by simp; omega⟩ (fun j d e hj he => by
      obtain ⟨q, f, s, rfl, hq, f0, f1⟩ := he
      rw [ln9] at hj
      obtain ⟨r5, p5, x5, h5, e1, e2, hp5⟩ := draw (n + 1) (m := 10 ^ 6) hq ⟨by omega, by omega⟩ ⟨by decide, by decide⟩
      have pw : ∀ {E : List Slot}, ev B0 (FF (n + 2)) (.bin .Pow (.c (.int 10)) (.c (.int 6))) E = .ok (.sh (.int (10 ^ 6))) E := e_bin ev_c ev_c rfl rfl (bpow ⟨by decide, by decide, by decide⟩)
      refine ⟨[.ln p5, .sh d, .sh (.int (1 - 2 * r1)), .sh (.int (mn : Int)), .sh (.int (f * 10 ^ 6 + r5))], ?_, p5, _, .sh d, rfl, by simpa [Int.add_assoc] using hp5, by omega, ?_⟩
      · rw [turn_ (e1 := [.ln q, .sh d, .sh (.int (1 - 2 * r1)), .sh (.int (mn : Int)), .sh (.int f)]) rfl]
        have c5 : ev B0 (FF (n + 2)) (.call "_law_draw" [(.var 0), (.bin .Pow (.c (.int 10)) (.c (.int 6)))]) [.ln q, .sh d, .sh (.int (1 - 2 * r1)), .sh (.int (mn : Int)), .sh (.int f)] = .ok (.sh (.int r5)) [.ln p5, .sh d, .sh (.int (1 - 2 * r1)), .sh (.int (mn : Int)), .sh (.int f)] := e_call (evs_pl (ev_ln rfl) (evs_sh pw evs_nil)) argsOk1 rfl h5
        rw [b_nx (s_asg_ (e_bin (e_bin (ev_sh rfl) pw rfl rfl (bmul (.inr ⟨by decide, by decide⟩))) c5 rfl rfl badd) rfl), evB_nil]
        rfl
      · have e3 : (40 : Int) * 10 ^ (6 * (j + 1)) = 40 * 10 ^ (6 * j) * 10 ^ 6 := by
          rw [show 6 * (j + 1) = 6 * j + 6 by omega, Int.pow_add, Int.mul_assoc]
        rw [e3]
        generalize (40 : Int) * 10 ^ (6 * j) = y at f1 ⊢
        have : (f + 1) * 10 ^ 6 ≤ y * 10 ^ 6 := Int.mul_le_mul_of_nonneg_right f1 (by decide)
        omega)
  rw [ln9] at hp4 g3
  have it : (shs [EV.sh (.int (mn : Int))]).bind (itemsOf .rng1) = some (rngI 0 (mn : Int)) := items1 ⟨by omega, by omega⟩
  have st2 := (s_loop_ (B := B0) (F := FF (n + 2)) (wf := wf) (k := .rng1) (t := .nm 1) (b := [(.asg (.nm 4) (.bin .Add (.bin .Mult (.var 4) (.bin .Pow (.c (.int 10)) (.c (.int 6)))) (.call "_law_draw" [(.var 0), (.bin .Pow (.c (.int 10)) (.c (.int 6)))])))]) (es := [.var 3]) (e := [.ln p3, .un, .sh (.int (1 - 2 * r1)), .sh (.int (mn : Int)), .sh (.int r3)]) (ds := rngI 0 (mn : Int)) (evs_sh (ev_sh rfl) evs_nil) it).trans h4
  refine ⟨(1 - 2 * r1) * f, p4, ?_, ?_, k + 3 + ((0 + mn : Nat) : Int), by omega, by omega, hp4⟩
  · show finC _ (evB B0 (FF (n + 2)) wf _ [.ln p, .un, .un, .un, .un]) = _
    rw [b_nx st1, b_nx st2, b_rt (s_ret_ (e_bin (ev_sh rfl) (ev_sh rfl) rfl rfl (bmul (.inl ⟨by omega, by omega⟩))))]
    rfl
  · have b1 : (10 : Int) ^ (6 * (0 + mn)) ≤ 10 ^ 54 := by exact_mod_cast Nat.pow_le_pow_right (n := 10) (by decide) (show 6 * (0 + mn) ≤ 54 by omega)
    have b2 : f < 10 ^ 60 := by
      have : (40 : Int) * 10 ^ (6 * (0 + mn)) ≤ 40 * 10 ^ 54 := Int.mul_le_mul_of_nonneg_left b1 (by decide)
      have : (40 : Int) * 10 ^ 54 < 10 ^ 60 := by decide
      omega
    have : r1 = 0 ∨ r1 = 1 := by omega
    rcases this with rfl | rfl
    · rw [show (1 - 2 * 0 : Int) * f = f by omega]
      omega
    · rw [show (1 - 2 * 1 : Int) * f = -f by omega]
      omega
end K00

end
end

section
set_option Elab.async false
set_option linter.all false
set_option maxRecDepth 100000
set_option maxHeartbeats 4000000
noncomputable section
namespace K00
open PySem PySem.Spec Ow
def az (z : Int) : Int := (if z < 0 then -z else z) % 1000
def xs (z : Int) : Str := ("x" : Str) ++ (toString (az z) : Str)
def vals (z : Int) : List D := [.int z, .str (xs z), .non, .tup [.int z, .str "a"], .lst [.int z], .bl true, .str "", .tup [.str "least", .int 2], .tup [.str "rest", .int 2, .lst [.int 1]]]
def Val (v : D) : Prop := ∃ z : Int, z.natAbs < 10 ^ 60 ∧ v ∈ vals z
theorem az_lt (z : Int) : 0 ≤ az z ∧ az z < 1000 := ⟨Int.emod_nonneg _ (by decide), Int.emod_lt_of_pos _ (by decide)⟩
theorem az_log (z : Int) : (az z).natAbs.log2 < 1920 := by
  have h := az_lt z
  have : (az z).natAbs < 2 ^ 10 := by omega
  by_cases h0 : (az z).natAbs = 0
  · rw [h0]; decide
  · have := (Nat.log2_lt h0).mpr this
    omega
theorem xs_len (z : Int) : (xs z).length ≤ 2000 := by
  unfold xs
  rw [Str.length_append]
  have h := PyProof.Rows.int_text_len_1921 (az_log z)
  have h2 : ("x" : Str).length = 1 := by decide
  have h3 : ((toString (az z) : Str)).length = (PySem.Str.ofString (toString (az z))).length := rfl
  omega
theorem value (n : Nat) {p : D} {k : Int} (hp : Pen k p) (hk : 0 ≤ k ∧ k < 10000) : ∃ v p', FF (n + 4) "_law_value" [.ln p] = .ok v [.ln p'] ∧ Val v ∧ ∃ k', k ≤ k' ∧ k' ≤ k + 30 ∧ Pen k' p' := by
  obtain ⟨z, p1, h1, hz, k1, a1, a2, hp1⟩ := far n hp ⟨hk.1, by omega⟩
  obtain ⟨v, hv, p2, x2, h2, hp2⟩ := pick (n + 1) (xs := vals z) hp1 ⟨by omega, by omega⟩ (by show 0 < 9; decide) (by show 9 < 1000; decide)
  refine ⟨v, p2, ?_, ⟨z, hz, hv⟩, k1 + 1, by omega, by omega, hp2⟩
  rw [FF_run tbl_law_value (n + 3) rfl]
  unfold runDef b_law_value
  show finC _ (evB B0 (FF (n + 3)) wf _ [.ln p, .un, .un]) = _
  have ab : binD .Mod (.int (if z < 0 then -z else z)) (.int 1000) = some (.int (az z)) := bmod (by decide)
  have st : strD (.int (az z)) = some (.str (toString (az z))) := if_pos (az_log z)
  have ad : binD .Add (.str "x") (.str (toString (az z))) = some (.str (xs z)) := by
    have h := PyProof.Rows.int_text_len_1921 (az_log z)
    have h2 : ("x" : Str).length = 1 := by decide
    have h3 : ((toString (az z) : Str)).length = (PySem.Str.ofString (toString (az z))).length := rfl
    have h4 : 2000 ≤ sizeLine := by decide
    unfold binD
    exact if_pos (by omega)
  have al : binD .Add (.lst [.int z, .str (xs z), .non, .tup [.int z, .str "a"], .lst [.int z], .bl true, .str ""]) (.lst [.tup [.str "least", .int 2], .tup [.str "rest", .int 2, .lst [.int 1]]]) = some (.lst (vals z)) := by
    unfold binD
    exact if_pos (by show 7 + 2 ≤ sizeLine; decide)
  have s1 : 1 ≤ sizeLine := by decide
  have s2 : 2 ≤ sizeLine := by decide
  have s3 : 3 ≤ sizeLine := by decide
  have s7 : 7 ≤ sizeLine := by decide
  rw [b_nx (e1 := [.ln p1, .sh (.int z), .un]) (s_asg_ (e_call (evs_pl (ev_ln rfl) evs_nil) argsOk0 rfl h1) rfl),
    b_nx (e1 := [.ln p1, .sh (.int z), .sh (.lst [.int z, .str (xs z), .non, .tup [.int z, .str "a"], .lst [.int z], .bl true, .str ""])]) (s_asg_ (e_lst (evs_sh (ev_sh rfl) (evs_sh (e_bin ev_c (e_blt (evs_sh (e_bin (e_blt (evs_sh (ev_sh rfl) evs_nil) rfl rfl) ev_c rfl rfl ab) evs_nil) rfl st) rfl rfl ad)
      (evs_sh ev_c (evs_sh (e_tup (evs_sh (ev_sh rfl) (evs_sh ev_c evs_nil)) rfl s2) (evs_sh (e_lst (evs_sh (ev_sh rfl) evs_nil) rfl s1) (evs_sh ev_c (evs_sh ev_c evs_nil))))))) rfl s7) rfl),
    b_rt (s_ret_ (e_call (evs_pl (ev_ln rfl) (evs_sh (e_bin (ev_sh rfl) (e_lst (evs_sh (e_tup (evs_sh ev_c (evs_sh ev_c evs_nil)) rfl s2) (evs_sh (e_tup (evs_sh ev_c (evs_sh ev_c (evs_sh (e_lst (evs_sh ev_c evs_nil) rfl s1) evs_nil))) rfl s3) evs_nil)) rfl s2) rfl rfl al) evs_nil)) argsOk1 rfl h2))]
  rfl
end K00

end
end

section
set_option Elab.async false
set_option linter.all false
set_option maxRecDepth 100000
set_option maxHeartbeats 4000000
noncomputable section
namespace K00
open PySem PySem.Spec Ow
theorem sz (n : Nat) (h : n ≤ 1000 := by decide) : n ≤ sizeLine := Nat.le_trans h (by decide)
theorem addL {xs ys : List D} (h : xs.length + ys.length ≤ sizeLine) : binD .Add (.lst xs) (.lst ys) = some (.lst (xs ++ ys)) := by
  unfold binD
  exact if_pos h
theorem lookup_in {α β : Type} [BEq α] [LawfulBEq α] {f : α → β} : ∀ {l : List α} {a : α}, a ∈ l → (l.map fun x => (x, f x)).lookup a = some (f a)
  | x :: l, a, h => by
    show (match a == x with | true => some (f x) | false => (l.map fun x => (x, f x)).lookup a) = some (f a)
    cases e : a == x with
    | true => rw [eq_of_beq e]
    | false =>
      refine lookup_in ((List.mem_cons.mp h).elim (fun z => ?_) id)
      rw [z] at e
      simp at e
theorem kitv {c t : Str} {fs : List (Str × D)} (hc : c ∈ all15) (ht : t ∈ all15) : isiEO (kitT t) (.err c fs) = some (.bl (decide (c = t))) := by
  have n1 : ("PointError" : Str) ∉ all15 := by decide +kernel
  have n2 : ("ValueError" : Str) ∉ all15 := by decide +kernel
  show ((kitT t).lookup c).map D.bl = _
  unfold kitT
  rw [lookup_in hc, decide_eq_false (fun z : t = "PointError" => n1 (by rw [← z]; exact ht)), decide_eq_false (fun z : t = "ValueError" => n2 (by rw [← z]; exact ht)), Bool.or_false, Bool.or_false]
  rfl
theorem kitP {c : Str} {fs : List (Str × D)} (hc : c ∈ all15) : isiEO (kitT "PointError") (.err c fs) = some (.bl true) := by
  show ((kitT "PointError").lookup c).map D.bl = _
  unfold kitT
  rw [lookup_in hc, decide_eq_true (rfl : ("PointError" : Str) = "PointError"), Bool.or_true, Bool.true_or]
  rfl
theorem kitV {c : Str} {fs : List (Str × D)} (hc : c ∈ all15) : isiEO (kitT "ValueError") (.err c fs) = some (.bl true) := by
  show ((kitT "ValueError").lookup c).map D.bl = _
  unfold kitT
  rw [lookup_in hc, decide_eq_true (rfl : ("ValueError" : Str) = "ValueError"), Bool.or_true]
  rfl
def rowD (a b : D) : List D := [.err "BadNumber" [("what", a), ("value", b)], .err "BadProgram" [("value", a)], .err "BadText" [("line", a), ("column", b)], .err "BadName" [("name", a)], .err "NoName" [("name", a)], .err "TakenName" [("name", a)], .err "BadRow" [("value", a)], .err "BadPlace" [("value", a)], .err "BadPoint" [("value", a)], .err "Unlike" [("what", a)], .err "TooMany" [("what", a), ("limit", b)], .err "NotKept" [("promise", a), ("witness", b)], .err "BadPromise" [("column", a)], .err "NothingToUndo" [], .err "NothingToRedo" []]
def fldD (a b : D) : List D := [.lst [a, b], .lst [a], .lst [a, b], .lst [a], .lst [a], .lst [a], .lst [a], .lst [a], .lst [a], .lst [a], .lst [a, b], .lst [a, b], .lst [a], .lst [], .lst []]
theorem rw_0 (a b : D) : idxD (.lst (rowD a b)) (.int 0) = some (.err "BadNumber" [("what", a), ("value", b)]) := by kernel_rfl
theorem rw_1 (a b : D) : idxD (.lst (rowD a b)) (.int 1) = some (.err "BadProgram" [("value", a)]) := by kernel_rfl
theorem rw_2 (a b : D) : idxD (.lst (rowD a b)) (.int 2) = some (.err "BadText" [("line", a), ("column", b)]) := by kernel_rfl
theorem rw_3 (a b : D) : idxD (.lst (rowD a b)) (.int 3) = some (.err "BadName" [("name", a)]) := by kernel_rfl
theorem rw_4 (a b : D) : idxD (.lst (rowD a b)) (.int 4) = some (.err "NoName" [("name", a)]) := by kernel_rfl
theorem rw_5 (a b : D) : idxD (.lst (rowD a b)) (.int 5) = some (.err "TakenName" [("name", a)]) := by kernel_rfl
theorem rw_6 (a b : D) : idxD (.lst (rowD a b)) (.int 6) = some (.err "BadRow" [("value", a)]) := by kernel_rfl
theorem rw_7 (a b : D) : idxD (.lst (rowD a b)) (.int 7) = some (.err "BadPlace" [("value", a)]) := by kernel_rfl
theorem rw_8 (a b : D) : idxD (.lst (rowD a b)) (.int 8) = some (.err "BadPoint" [("value", a)]) := by kernel_rfl
theorem rw_9 (a b : D) : idxD (.lst (rowD a b)) (.int 9) = some (.err "Unlike" [("what", a)]) := by kernel_rfl
theorem rw_10 (a b : D) : idxD (.lst (rowD a b)) (.int 10) = some (.err "TooMany" [("what", a), ("limit", b)]) := by kernel_rfl
theorem rw_11 (a b : D) : idxD (.lst (rowD a b)) (.int 11) = some (.err "NotKept" [("promise", a), ("witness", b)]) := by kernel_rfl
theorem rw_12 (a b : D) : idxD (.lst (rowD a b)) (.int 12) = some (.err "BadPromise" [("column", a)]) := by kernel_rfl
theorem rw_13 (a b : D) : idxD (.lst (rowD a b)) (.int 13) = some (.err "NothingToUndo" []) := by kernel_rfl
theorem rw_14 (a b : D) : idxD (.lst (rowD a b)) (.int 14) = some (.err "NothingToRedo" []) := by kernel_rfl
def kndD (c : Str) : List D := [.bl (decide (c = "BadNumber")), .bl (decide (c = "BadProgram")), .bl (decide (c = "BadText")), .bl (decide (c = "BadName")), .bl (decide (c = "NoName")), .bl (decide (c = "TakenName")), .bl (decide (c = "BadRow")), .bl (decide (c = "BadPlace")), .bl (decide (c = "BadPoint")), .bl (decide (c = "Unlike")), .bl (decide (c = "TooMany")), .bl (decide (c = "NotKept")), .bl (decide (c = "BadPromise")), .bl (decide (c = "NothingToUndo")), .bl (decide (c = "NothingToRedo"))]
theorem kinds (n : Nat) {c : Str} {fs : List (Str × D)} (hc : c ∈ all15) : FF (n + 1) "_law_kinds" [.sh (.err c fs)] = .ok (.lst (kndD c)) [.sh (.err c fs)] := by
  rw [FF_run tbl_law_kinds n rfl]
  unfold runDef b_law_kinds
  show finC _ (evB B0 (FF n) wf _ [.sh (.err c fs), .un]) = _
  rw [b_nx (e1 := [.sh (.err c fs), .sh (.lst [.bl (decide (c = "BadNumber")), .bl (decide (c = "BadProgram")), .bl (decide (c = "BadText")), .bl (decide (c = "BadName"))])]) (s_asg_ (e_lst (evs_sh (ev_isiE.trans (e_one (ev_sh rfl) rfl (kitv hc (by decide +kernel)))) (evs_sh (ev_isiE.trans (e_one (ev_sh rfl) rfl (kitv hc (by decide +kernel)))) (evs_sh (ev_isiE.trans (e_one (ev_sh rfl) rfl (kitv hc (by decide +kernel)))) (evs_sh (ev_isiE.trans (e_one (ev_sh rfl) rfl (kitv hc (by decide +kernel)))) evs_nil)))) rfl (sz 4)) rfl),
    b_nx (e1 := [.sh (.err c fs), .sh (.lst [.bl (decide (c = "BadNumber")), .bl (decide (c = "BadProgram")), .bl (decide (c = "BadText")), .bl (decide (c = "BadName")), .bl (decide (c = "NoName")), .bl (decide (c = "TakenName")), .bl (decide (c = "BadRow")), .bl (decide (c = "BadPlace"))])]) (s_asg_ (e_bin (ev_sh rfl) (e_lst (evs_sh (ev_isiE.trans (e_one (ev_sh rfl) rfl (kitv hc (by decide +kernel)))) (evs_sh (ev_isiE.trans (e_one (ev_sh rfl) rfl (kitv hc (by decide +kernel)))) (evs_sh (ev_isiE.trans (e_one (ev_sh rfl) rfl (kitv hc (by decide +kernel)))) (evs_sh (ev_isiE.trans (e_one (ev_sh rfl) rfl (kitv hc (by decide +kernel)))) evs_nil)))) rfl (sz 4)) rfl rfl (addL (by show 4 + 4 ≤ sizeLine; decide))) rfl),
    b_nx (e1 := [.sh (.err c fs), .sh (.lst [.bl (decide (c = "BadNumber")), .bl (decide (c = "BadProgram")), .bl (decide (c = "BadText")), .bl (decide (c = "BadName")), .bl (decide (c = "NoName")), .bl (decide (c = "TakenName")), .bl (decide (c = "BadRow")), .bl (decide (c = "BadPlace")), .bl (decide (c = "BadPoint")), .bl (decide (c = "Unlike")), .bl (decide (c = "TooMany")), .bl (decide (c = "NotKept"))])]) (s_asg_ (e_bin (ev_sh rfl) (e_lst (evs_sh (ev_isiE.trans (e_one (ev_sh rfl) rfl (kitv hc (by decide +kernel)))) (evs_sh (ev_isiE.trans (e_one (ev_sh rfl) rfl (kitv hc (by decide +kernel)))) (evs_sh (ev_isiE.trans (e_one (ev_sh rfl) rfl (kitv hc (by decide +kernel)))) (evs_sh (ev_isiE.trans (e_one (ev_sh rfl) rfl (kitv hc (by decide +kernel)))) evs_nil)))) rfl (sz 4)) rfl rfl (addL (by show 8 + 4 ≤ sizeLine; decide))) rfl),
    b_rt (s_ret_ (e_bin (ev_sh rfl) (e_lst (evs_sh (ev_isiE.trans (e_one (ev_sh rfl) rfl (kitv hc (by decide +kernel)))) (evs_sh (ev_isiE.trans (e_one (ev_sh rfl) rfl (kitv hc (by decide +kernel)))) (evs_sh (ev_isiE.trans (e_one (ev_sh rfl) rfl (kitv hc (by decide +kernel)))) evs_nil))) rfl (sz 3)) rfl rfl (addL (by show 12 + 3 ≤ sizeLine; decide))))]
  rfl
theorem made_ (n : Nat) (a b : D) : FF (n + 1) "_law_made" [.sh a, .sh b] = .ok (.lst (rowD a b)) [.sh a, .sh b] := by
  rw [FF_run tbl_law_made n rfl]
  unfold runDef b_law_made
  show finC _ (evB B0 (FF n) wf _ [.sh a, .sh b, .un]) = _
  rw [b_nx (e1 := [.sh a, .sh b, .sh (.lst [.err "BadNumber" [("what", a), ("value", b)], .err "BadProgram" [("value", a)], .err "BadText" [("line", a), ("column", b)], .err "BadName" [("name", a)], .err "NoName" [("name", a)], .err "TakenName" [("name", a)], .err "BadRow" [("value", a)]])]) (s_asg_ (e_lst (evs_sh (e_err (evs_sh (ev_sh rfl) (evs_sh (ev_sh rfl) evs_nil)) rfl rfl) (evs_sh (e_err (evs_sh (ev_sh rfl) evs_nil) rfl rfl) (evs_sh (e_err (evs_sh (ev_sh rfl) (evs_sh (ev_sh rfl) evs_nil)) rfl rfl) (evs_sh (e_err (evs_sh (ev_sh rfl) evs_nil) rfl rfl) (evs_sh (e_err (evs_sh (ev_sh rfl) evs_nil) rfl rfl) (evs_sh (e_err (evs_sh (ev_sh rfl) evs_nil) rfl rfl) (evs_sh (e_err (evs_sh (ev_sh rfl) evs_nil) rfl rfl) evs_nil))))))) rfl (sz 7)) rfl),
    b_nx (e1 := [.sh a, .sh b, .sh (.lst [.err "BadNumber" [("what", a), ("value", b)], .err "BadProgram" [("value", a)], .err "BadText" [("line", a), ("column", b)], .err "BadName" [("name", a)], .err "NoName" [("name", a)], .err "TakenName" [("name", a)], .err "BadRow" [("value", a)], .err "BadPlace" [("value", a)], .err "BadPoint" [("value", a)], .err "Unlike" [("what", a)], .err "TooMany" [("what", a), ("limit", b)], .err "NotKept" [("promise", a), ("witness", b)], .err "BadPromise" [("column", a)]])]) (s_asg_ (e_bin (ev_sh rfl) (e_lst (evs_sh (e_err (evs_sh (ev_sh rfl) evs_nil) rfl rfl) (evs_sh (e_err (evs_sh (ev_sh rfl) evs_nil) rfl rfl) (evs_sh (e_err (evs_sh (ev_sh rfl) evs_nil) rfl rfl) (evs_sh (e_err (evs_sh (ev_sh rfl) (evs_sh (ev_sh rfl) evs_nil)) rfl rfl) (evs_sh (e_err (evs_sh (ev_sh rfl) (evs_sh (ev_sh rfl) evs_nil)) rfl rfl) (evs_sh (e_err (evs_sh (ev_sh rfl) evs_nil) rfl rfl) evs_nil)))))) rfl (sz 6)) rfl rfl (addL (by show 7 + 6 ≤ sizeLine; decide))) rfl),
    b_rt (s_ret_ (e_bin (ev_sh rfl) (e_lst (evs_sh (e_err evs_nil rfl rfl) (evs_sh (e_err evs_nil rfl rfl) evs_nil)) rfl (sz 2)) rfl rfl (addL (by show 13 + 2 ≤ sizeLine; decide))))]
  rfl
theorem flds (n : Nat) (a b : D) : FF (n + 1) "_law_fields" [.sh (.lst (rowD a b))] = .ok (.lst (fldD a b)) [.sh (.lst (rowD a b))] := by
  rw [FF_run tbl_law_fields n rfl]
  unfold runDef b_law_fields
  show finC _ (evB B0 (FF n) wf _ [.sh (.lst (rowD a b)), .un]) = _
  rw [b_nx (e1 := [.sh (.lst (rowD a b)), .sh (.lst [.lst [a, b], .lst [a], .lst [a, b], .lst [a]])]) (s_asg_ (e_lst (evs_sh (e_lst (evs_sh (ev_attE.trans (e_one (e_idx (ev_sh rfl) ev_c rfl rfl (rw_0 a b)) rfl (by kernel_rfl))) (evs_sh (ev_attE.trans (e_one (e_idx (ev_sh rfl) ev_c rfl rfl (rw_0 a b)) rfl (by kernel_rfl))) evs_nil)) rfl (sz 2)) (evs_sh (e_lst (evs_sh (ev_attE.trans (e_one (e_idx (ev_sh rfl) ev_c rfl rfl (rw_1 a b)) rfl (by kernel_rfl))) evs_nil) rfl (sz 1)) (evs_sh (e_lst (evs_sh (ev_attE.trans (e_one (e_idx (ev_sh rfl) ev_c rfl rfl (rw_2 a b)) rfl (by kernel_rfl))) (evs_sh (ev_attE.trans (e_one (e_idx (ev_sh rfl) ev_c rfl rfl (rw_2 a b)) rfl (by kernel_rfl))) evs_nil)) rfl (sz 2)) (evs_sh (e_lst (evs_sh (ev_attE.trans (e_one (e_idx (ev_sh rfl) ev_c rfl rfl (rw_3 a b)) rfl (by kernel_rfl))) evs_nil) rfl (sz 1)) evs_nil)))) rfl (sz 4)) rfl),
    b_nx (e1 := [.sh (.lst (rowD a b)), .sh (.lst [.lst [a, b], .lst [a], .lst [a, b], .lst [a], .lst [a], .lst [a], .lst [a], .lst [a], .lst [a], .lst [a]])]) (s_asg_ (e_bin (ev_sh rfl) (e_lst (evs_sh (e_lst (evs_sh (ev_attE.trans (e_one (e_idx (ev_sh rfl) ev_c rfl rfl (rw_4 a b)) rfl (by kernel_rfl))) evs_nil) rfl (sz 1)) (evs_sh (e_lst (evs_sh (ev_attE.trans (e_one (e_idx (ev_sh rfl) ev_c rfl rfl (rw_5 a b)) rfl (by kernel_rfl))) evs_nil) rfl (sz 1)) (evs_sh (e_lst (evs_sh (ev_attE.trans (e_one (e_idx (ev_sh rfl) ev_c rfl rfl (rw_6 a b)) rfl (by kernel_rfl))) evs_nil) rfl (sz 1)) (evs_sh (e_lst (evs_sh (ev_attE.trans (e_one (e_idx (ev_sh rfl) ev_c rfl rfl (rw_7 a b)) rfl (by kernel_rfl))) evs_nil) rfl (sz 1)) (evs_sh (e_lst (evs_sh (ev_attE.trans (e_one (e_idx (ev_sh rfl) ev_c rfl rfl (rw_8 a b)) rfl (by kernel_rfl))) evs_nil) rfl (sz 1)) (evs_sh (e_lst (evs_sh (ev_attE.trans (e_one (e_idx (ev_sh rfl) ev_c rfl rfl (rw_9 a b)) rfl (by kernel_rfl))) evs_nil) rfl (sz 1)) evs_nil)))))) rfl (sz 6)) rfl rfl (addL (by show 4 + 6 ≤ sizeLine; decide))) rfl),
    b_rt (s_ret_ (e_bin (ev_sh rfl) (e_lst (evs_sh (e_lst (evs_sh (ev_attE.trans (e_one (e_idx (ev_sh rfl) ev_c rfl rfl (rw_10 a b)) rfl (by kernel_rfl))) (evs_sh (ev_attE.trans (e_one (e_idx (ev_sh rfl) ev_c rfl rfl (rw_10 a b)) rfl (by kernel_rfl))) evs_nil)) rfl (sz 2)) (evs_sh (e_lst (evs_sh (ev_attE.trans (e_one (e_idx (ev_sh rfl) ev_c rfl rfl (rw_11 a b)) rfl (by kernel_rfl))) (evs_sh (ev_attE.trans (e_one (e_idx (ev_sh rfl) ev_c rfl rfl (rw_11 a b)) rfl (by kernel_rfl))) evs_nil)) rfl (sz 2)) (evs_sh (e_lst (evs_sh (ev_attE.trans (e_one (e_idx (ev_sh rfl) ev_c rfl rfl (rw_12 a b)) rfl (by kernel_rfl))) evs_nil) rfl (sz 1)) (evs_sh (e_lst evs_nil rfl (sz 0)) (evs_sh (e_lst evs_nil rfl (sz 0)) evs_nil))))) rfl (sz 5)) rfl rfl (addL (by show 10 + 5 ≤ sizeLine; decide))))]
  rfl
end K00

end
end

section
set_option Elab.async false
set_option linter.all false
set_option maxRecDepth 100000
noncomputable section
namespace Ow
open PySem PySem.Spec
/-! ## what is shown has right characters -/
def CO (x : Str) : Prop := ∀ c ∈ x.cps.toList, c < 0x110000
theorem ch_lt (k : Char) : k.toNat < 0x110000 := by
  have v := k.valid
  have e : k.toNat = k.val.toNat := rfl
  rcases v with v | ⟨v, v2⟩
  · have v : k.val.toNat < 0xd800 := v
    omega
  · have v2 : k.val.toNat < 0x110000 := v2
    omega
theorem CO.of (s : String) : CO (PySem.Str.ofString s) := by
  unfold CO
  rw [PySem.Str.ofString_eq_toList]
  intro c h
  obtain ⟨k, _, rfl⟩ := List.mem_map.mp h
  exact ch_lt k
theorem CO.app {x y : Str} (hx : CO x) (hy : CO y) : CO (x ++ y) := by
  intro c h
  have h : c ∈ (x.cps ++ y.cps).toList := h
  rcases Array.mem_append.mp (Array.mem_toList_iff.mp h) with h | h
  · exact hx c (Array.mem_toList_iff.mpr h)
  · exact hy c (Array.mem_toList_iff.mpr h)
theorem CO.ok {x : Str} (h : CO x) : PyData.strOk x = true := by
  unfold PyData.strOk
  rw [Array.all_eq_true']
  exact fun c m => decide_eq_true (h c (Array.mem_toList_iff.mpr m))
theorem CO.is {x : Str} (h : PyData.strOk x = true) : CO x := by
  unfold PyData.strOk at h
  rw [Array.all_eq_true'] at h
  exact fun c m => of_decide_eq_true (h c (Array.mem_toList_iff.mp m))
theorem hex_lt {w c d : Nat} (h : d ∈ List.replicate (w - ((Nat.toDigits 16 c).map Char.toNat).length) 48 ++ (Nat.toDigits 16 c).map Char.toNat) : d < 0x110000 := by
  rcases List.mem_append.mp h with h | h
  · rw [(List.mem_replicate.mp h).2]
    decide
  · obtain ⟨k, _, rfl⟩ := List.mem_map.mp h
    exact ch_lt k
theorem reprChar_lt {q c d : Nat} (hc : c < 0x110000) (h : d ∈ Builtin.Str.reprChar q c) : d < 0x110000 := by
  unfold Builtin.Str.reprChar at h
  dsimp only at h
  have two : ∀ {a b : Nat}, a < 0x110000 → b < 0x110000 → d ∈ [a, b] → d < 0x110000 := fun ha hb h => by
    rcases List.mem_cons.mp h with rfl | h
    · exact ha
    · rw [List.mem_singleton.mp h]; exact hb
  have more : ∀ {a b w : Nat}, a < 0x110000 → b < 0x110000 → d ∈ [a, b] ++ (List.replicate (w - ((Nat.toDigits 16 c).map Char.toNat).length) 48 ++ (Nat.toDigits 16 c).map Char.toNat) → d < 0x110000 := fun ha hb h => by
    rcases List.mem_append.mp h with h | h
    · exact two ha hb h
    · exact hex_lt h
  split at h
  · exact two (by decide) hc h
  split at h
  · exact two (by decide) (by decide) h
  split at h
  · exact two (by decide) (by decide) h
  split at h
  · exact two (by decide) (by decide) h
  split at h
  · rw [List.mem_singleton.mp h]; exact hc
  split at h
  · exact more (by decide) (by decide) h
  split at h
  · exact more (by decide) (by decide) h
  · exact more (by decide) (by decide) h
theorem fold_lt {q : Nat} : ∀ (l : List Nat) (acc : Array Nat), (∀ c ∈ l, c < 0x110000) → (∀ c ∈ acc, c < 0x110000) → ∀ c ∈ l.foldl (fun out c => out ++ (Builtin.Str.reprChar q c).toArray) acc, c < 0x110000
  | [], acc, _, h => h
  | x :: l, acc, hl, h => by
    rw [List.foldl_cons]
    refine fold_lt l _ (fun c m => hl c (List.mem_cons_of_mem _ m)) fun c m => ?_
    rcases Array.mem_append.mp m with m | m
    · exact h c m
    · exact reprChar_lt (hl x List.mem_cons_self) (List.mem_toArray.mp m)
theorem CO.repr {x : Str} (h : CO x) : CO (reprText x) := by
  have hq : reprQuote x < 0x110000 := by
    unfold reprQuote
    split <;> decide
  intro c m
  unfold reprText at m
  have m : c ∈ ((x.cps.foldl (fun out c => out ++ (Builtin.Str.reprChar (reprQuote x) c).toArray) #[reprQuote x]).push (reprQuote x)) := Array.mem_toList_iff.mp m
  rcases Array.mem_push.mp m with m | rfl
  · rw [← Array.foldl_toList] at m
    exact fold_lt x.cps.toList _ h (fun c z => by
      rw [List.mem_toArray] at z
      rw [List.mem_singleton.mp z]; exact hq) c m
  · exact hq
theorem CO.text : ∀ (ts : List Str) (k : Nat) (acc : Str), CO acc → (∀ t ∈ ts, CO t) → CO (textFrom k acc ts)
  | [], _, _, h, _ => h
  | t :: ts, k, acc, h, hs => CO.text ts (k + 1) _ ((h.app (by split <;> exact CO.of _)).app (hs t List.mem_cons_self)) fun t m => hs t (List.mem_cons_of_mem _ m)
theorem CO.join {s : Str} (h : CO s) : ∀ ts : List Str, (∀ t ∈ ts, CO t) → CO (PySem.Str.join s ts)
  | [], _ => fun c m => by cases m
  | [x], hs => hs x List.mem_cons_self
  | x :: y :: r, hs => ((hs x List.mem_cons_self).app h).app (CO.join h (y :: r) fun t m => hs t (List.mem_cons_of_mem _ m))
mutual
theorem CO.shown : ∀ p : PyData, p.canLay0 = true → CO p.shown
  | .none, _ => CO.of _
  | .bool b, _ => by
    unfold PyData.shown
    split <;> exact CO.of _
  | .int i, _ => CO.of _
  | .str x, h => by
    unfold PyData.canLay0 at h
    exact (CO.is h).repr
  | .list xs, h => by
    unfold PyData.canLay0 at h
    exact (CO.text _ _ _ (CO.of _) (CO.shownAll xs h)).app (CO.of _)
  | .tuple xs, h => by
    unfold PyData.canLay0 at h
    exact ((CO.of _).app (CO.join (CO.of _) _ (CO.shownAll xs h))).app (by split <;> exact CO.of _)
  | .dict _, h => nomatch h
theorem CO.shownAll : ∀ ps : List PyData, PyData.canLayAll0 ps = true → ∀ t ∈ PyData.shownAll ps, CO t
  | [], _, _, h => by cases h
  | p :: ps, h, t, m => by
    have h' : p.canLay0 = true ∧ PyData.canLayAll0 ps = true := by simpa [PyData.canLayAll0] using h
    have m : t ∈ p.shown :: PyData.shownAll ps := m
    rcases List.mem_cons.mp m with rfl | m
    · exact CO.shown p h'.1
    · exact CO.shownAll ps h'.2 t m
end
end Ow

end
end

section
set_option Elab.async false
set_option linter.all false
set_option maxRecDepth 100000
set_option maxHeartbeats 4000000
noncomputable section
namespace K00
open PySem PySem.Spec Ow
/-! ## small data -/
def SmP (p : PyData) : Prop := p.canLay0 = true ∧ p.showable = true ∧ p.intsShort 2000 = true ∧ p.depth ≤ 3 ∧ p.weight ≤ 3000
theorem ok_all (s : String) : ∀ c ∈ (PySem.Str.ofString s).cps.toList, c < 0x110000 := by
  rw [PySem.Str.ofString_eq_toList]
  intro c h
  obtain ⟨k, _, rfl⟩ := List.mem_map.mp h
  have v := k.valid
  have e : k.toNat = k.val.toNat := rfl
  rcases v with v | ⟨v, v2⟩
  · have v : k.val.toNat < 0xd800 := v
    omega
  · have v2 : k.val.toNat < 0x110000 := v2
    omega
theorem ok_xs (z : Int) : PyData.strOk (xs z) = true := by
  unfold PyData.strOk
  rw [Array.all_eq_true']
  intro c h
  have h : c ∈ ((PySem.Str.ofString "x").cps ++ (PySem.Str.ofString (toString (az z))).cps) := h
  rcases Array.mem_append.mp h with h | h
  · exact decide_eq_true (ok_all _ c (Array.mem_toList_iff.mpr h))
  · exact decide_eq_true (ok_all _ c (Array.mem_toList_iff.mpr h))
theorem z_log {z : Int} (h : z.natAbs < 10 ^ 60) : z.natAbs.log2 < 200 := by
  by_cases h0 : z.natAbs = 0
  · rw [h0]; decide
  · exact (Nat.log2_lt h0).mpr (Nat.lt_trans h (by decide +kernel))
theorem sm_int {z : Int} (h : z.natAbs < 10 ^ 60) : SmP (.int z) := by
  have l := z_log h
  refine ⟨rfl, decide_eq_true (by omega), decide_eq_true ?_, Nat.zero_le _, ?_⟩
  · exact Nat.le_trans (PyProof.Rows.int_text_len_1921 (by omega)) (by decide)
  · unfold PyData.weight
    split <;> omega
theorem zw {z : Int} (h : z.natAbs < 10 ^ 60) : (PyData.int z).weight ≤ 200 := by
  have l := z_log h
  unfold PyData.weight
  split <;> omega
theorem sm_str {x : Str} (h : PyData.strOk x = true) (hl : x.length ≤ 2000) : SmP (.str x) := by
  refine ⟨?_, rfl, rfl, Nat.zero_le _, ?_⟩
  · unfold PyData.canLay0
    exact h
  · unfold PyData.weight
    show x.length ≤ 3000
    omega
theorem Val.sm {v : D} (h : Val v) : ∃ p, toPy v = some p ∧ SmP p := by
  obtain ⟨z, hz, h⟩ := h
  have i := sm_int hz
  have sA : PyData.strOk ("a" : Str) = true := by decide +kernel
  unfold vals at h
  rcases List.mem_cons.mp h with rfl | h
  · exact ⟨.int z, rfl, i⟩
  rcases List.mem_cons.mp h with rfl | h
  · exact ⟨.str (xs z), rfl, sm_str (ok_xs z) (xs_len z)⟩
  rcases List.mem_cons.mp h with rfl | h
  · exact ⟨.none, rfl, rfl, rfl, rfl, Nat.zero_le _, Nat.zero_le _⟩
  rcases List.mem_cons.mp h with rfl | h
  · refine ⟨.tuple [.int z, .str "a"], rfl, ?_⟩
    obtain ⟨i1, i2, i3, i4, i5⟩ := i
    refine ⟨by simp [PyData.canLay0, PyData.canLayAll0, sA], by simp [PyData.showable, PyData.showableAll] at i2 ⊢; exact i2, by simp [PyData.intsShort, PyData.intsShortAll] at i3 ⊢; exact i3, by simp [PyData.depth, PyData.depthAll], ?_⟩
    have w := zw hz
    have w2 : (PyData.str "a").weight = 1 := by decide +kernel
    rw [PyData.weight, PyData.weightAll, PyData.weightAll, PyData.weightAll, w2]
    omega
  rcases List.mem_cons.mp h with rfl | h
  · refine ⟨.list [.int z], rfl, ?_⟩
    obtain ⟨i1, i2, i3, i4, i5⟩ := i
    refine ⟨by simp [PyData.canLay0, PyData.canLayAll0], by simp [PyData.showable, PyData.showableAll] at i2 ⊢; exact i2, by simp [PyData.intsShort, PyData.intsShortAll] at i3 ⊢; exact i3, by simp [PyData.depth, PyData.depthAll], ?_⟩
    have w := zw hz
    rw [PyData.weight, PyData.weightAll, PyData.weightAll]
    omega
  rcases List.mem_cons.mp h with rfl | h
  · exact ⟨.bool true, rfl, rfl, rfl, rfl, Nat.zero_le _, Nat.zero_le _⟩
  rcases List.mem_cons.mp h with rfl | h
  · exact ⟨.str "", rfl, sm_str (by decide +kernel) (by decide)⟩
  rcases List.mem_cons.mp h with rfl | h
  · exact ⟨.tuple [.str "least", .int 2], rfl, by kernel_rfl, by kernel_rfl, by kernel_rfl, by decide +kernel, by decide +kernel⟩
  rcases List.mem_cons.mp h with rfl | h
  · exact ⟨.tuple [.str "rest", .int 2, .list [.int 1]], rfl, by kernel_rfl, by kernel_rfl, by kernel_rfl, by decide +kernel, by decide +kernel⟩
  · cases h
/-- a row of a few small ones -/
def RowOk (p : PyData) : Prop := SeqAt.shaped p = true ∧ p.showable = true ∧ p.hasDict = false ∧ p.depth ≤ 60 ∧ p.shown.length ≤ sizeLine ∧ PyData.eqv p p = true
theorem row_ok {p : PyData} (h1 : p.canLay0 = true) (h2 : p.showable = true) (h3 : p.intsShort 2000 = true) (h4 : p.depth ≤ 4) (h5 : p.weight ≤ 7000) : RowOk p := by
  refine ⟨?_, h2, PyData.hasDict_of_canLay p h1, by omega, ?_, SeqAt.eqv_refl p h1⟩
  · unfold SeqAt.shaped
    rw [h1, decide_eq_true (by omega : p.depth ≤ 64)]
    rfl
  · have := PyData.shown_le 2000 (by decide) p (PyData.leavesShort_of_canLay0 2000 p h1 h3)
    have e : sizeLine = 16777216 := sizeLine_eq
    rw [e]
    have m : (2000 + 2) * p.weight ≤ 2002 * 7000 := Nat.mul_le_mul_left 2002 h5
    omega
theorem row0 : RowOk (.list []) := row_ok rfl rfl rfl (by decide) (by decide)
theorem row1 {p : PyData} (h : SmP p) : RowOk (.list [p]) := by
  obtain ⟨i1, i2, i3, i4, i5⟩ := h
  refine row_ok ?_ ?_ ?_ ?_ ?_
  · rw [PyData.canLay0, PyData.canLayAll0, i1]; rfl
  · rw [PyData.showable, PyData.showableAll, i2]; rfl
  · rw [PyData.intsShort, PyData.intsShortAll, i3]; rfl
  · rw [PyData.depth, PyData.depthAll, PyData.depthAll]; omega
  · rw [PyData.weight, PyData.weightAll, PyData.weightAll]; omega
theorem row2 {p q : PyData} (h : SmP p) (h' : SmP q) : RowOk (.list [p, q]) := by
  obtain ⟨i1, i2, i3, i4, i5⟩ := h
  obtain ⟨j1, j2, j3, j4, j5⟩ := h'
  refine row_ok ?_ ?_ ?_ ?_ ?_
  · rw [PyData.canLay0, PyData.canLayAll0, PyData.canLayAll0, i1, j1]; rfl
  · rw [PyData.showable, PyData.showableAll, PyData.showableAll, i2, j2]; rfl
  · rw [PyData.intsShort, PyData.intsShortAll, PyData.intsShortAll, i3, j3]; rfl
  · rw [PyData.depth, PyData.depthAll, PyData.depthAll, PyData.depthAll]; omega
  · rw [PyData.weight, PyData.weightAll, PyData.weightAll, PyData.weightAll]; omega
/-! ## the law's own body -/
theorem eqD_refl {d : D} {p : PyData} (h : toPy d = some p) (r : RowOk p) : eqD d d = some true := by
  unfold eqD
  rw [h]
  show (if SeqAt.shaped p = true ∧ SeqAt.shaped p = true then some (PyData.eqv p p) else none) = some true
  rw [if_pos ⟨r.1, r.1⟩, r.2.2.2.2.2]
theorem neD_refl {d : D} {p : PyData} (h : toPy d = some p) (r : RowOk p) : cmpD .NotEq d d = some false := by
  show (eqD d d).map (!·) = _
  rw [eqD_refl h r]
  rfl
theorem reprD_of {d : D} {p : PyData} (hd : isDisp d = true) (h : toPy d = some p) (r : RowOk p) : reprD d = some (.str p.shown) := by
  unfold reprD
  rw [hd, h]
  exact if_pos ⟨r.2.1, r.2.2.1, r.2.2.2.1, r.2.2.2.2.1⟩
theorem neD_shown {p : PyData} (r : RowOk p) : cmpD .NotEq (.str p.shown) (.str p.shown) = some false := by
  have c : (PyData.str p.shown).canLay0 = true := by
    unfold PyData.canLay0
    exact (CO.shown p (SeqAt.canLay_of_shaped r.1)).ok
  have sh : SeqAt.shaped (.str p.shown) = true := by
    unfold SeqAt.shaped
    rw [c]
    rfl
  have e : eqD (.str p.shown) (.str p.shown) = some true := by
    have h : toPy (.str p.shown) = some (.str p.shown) := rfl
    unfold eqD
    rw [h]
    show (if SeqAt.shaped (.str p.shown) = true ∧ SeqAt.shaped (.str p.shown) = true then some (PyData.eqv (.str p.shown) (.str p.shown)) else none) = some true
    rw [if_pos ⟨sh, sh⟩, SeqAt.eqv_refl _ c]
  show (eqD _ _).map (!·) = _
  rw [e]
  rfl
section
variable {B : Blt → List D → Option D} {F : Str → List Slot → CR} {wf : Nat} {e e1 e2 e3 : List Slot} {es : List E}
theorem c_turn {t : Tgt} {vs : List Nat} {elt : E} {d y : D} (hb : bindT t d (wipeE e vs) = some e1) (he : ev B F elt e1 = .ok (.sh y) e3) : turnC B F t vs [] elt d e = .ok (some y) (backE e3 e vs) := by
  unfold turnC
  rw [hb]
  simp only [evIfs, he]
theorem e_comp {k : ItK} {t : Tgt} {vs : List Nat} {ifs : List E} {elt : E} {xs : List EV} {ds ys : List D} (ha : evs B F es e = .ok xs e1) (hi : (shs xs).bind (itemsOf k) = some ds) (ho : ownsAny e1 vs = false) (hl : loopC (turnC B F t vs ifs elt) ds [] e1 = .ok ys e2) : ev B F (.comp k es t vs ifs elt) e = .ok (.sh (.lst ys)) e2 := by
  rw [ev_comp, ha, bind_ok]
  simp only [hi, ho, hl]
  rfl
theorem loopC_map {t : D → List Slot → Ow.R (Option D)} {f : D → D} : ∀ (ds acc : List D), (∀ d ∈ ds, t d e = .ok (some (f d)) e) → acc.length + ds.length ≤ sizeLine → loopC t ds acc e = .ok (acc ++ ds.map f) e
  | [], acc, _, _ => by rw [loopC, List.map_nil, List.append_nil]
  | d :: ds, acc, h, hl => by
    have hl' : acc.length + (ds.length + 1) ≤ sizeLine := hl
    rw [loopC, h d List.mem_cons_self]
    simp only []
    rw [if_pos (by omega : acc.length < sizeLine), loopC_map ds (acc ++ [f d]) (fun d' h' => h d' (List.mem_cons_of_mem _ h')) (by rw [List.length_append]; show acc.length + 1 + _ ≤ _; omega), List.map_cons, List.append_assoc]
    rfl
theorem loopF_mem {t : D → List Slot → Ow.R Out} (P : List Slot → Prop) : ∀ (ds : List D) (e : List Slot), P e → (∀ d ∈ ds, ∀ e, P e → ∃ e', t d e = .ok .nx e' ∧ P e') → ∃ e', loopF t ds e = .ok .nx e' ∧ P e'
  | [], e, p, _ => ⟨e, rfl, p⟩
  | d :: ds, e, p, h => by
    obtain ⟨e1, h1, h2⟩ := h d List.mem_cons_self e p
    obtain ⟨e2, h3, h4⟩ := loopF_mem P ds e1 h2 fun d' h' => h d' (List.mem_cons_of_mem _ h')
    refine ⟨e2, ?_, h4⟩
    rw [loopF, h1]
    exact h3
end
end K00

end
end

section
set_option Elab.async false
set_option linter.all false
set_option maxRecDepth 100000
set_option maxHeartbeats 4000000
noncomputable section
namespace K00
open PySem PySem.Spec Ow
def b4 : List S := [(.ife (.or (.not (.isiE (.var 6) "PointError" (kitT "PointError"))) (.not (.isiE (.var 6) "ValueError" (kitT "ValueError")))) [(.ret (.c (.bl false)))] []), (.ife (.cmp .NotEq (.call "_law_kinds" [(.var 6)]) (.comp .rng1 [(.blt .len [(.var 3)])] (.nm 7) [7] [] (.cmp .Eq (.var 7) (.var 5)))) [(.ret (.c (.bl false)))] [])]
def b5 : List S := [(.ife (.or (.cmp .NotEq (.var 4) (.slc (.var 2) (.c .non) (.blt .len [(.var 4)]))) (.cmp .NotEq (.blt .repr [(.var 4)]) (.blt .repr [(.slc (.var 2) (.c .non) (.blt .len [(.var 4)]))]))) [(.ret (.c (.bl false)))] [])]
def e6 : E := .cmp .Eq (.comp .seq [(.call "_law_fields" [(.var 3)])] (.nm 4) [4] [] (.blt .len [(.var 4)])) (.lst [(.c (.int 2)), (.c (.int 1)), (.c (.int 2)), (.c (.int 1)), (.c (.int 1)), (.c (.int 1)), (.c (.int 1)), (.c (.int 1)), (.c (.int 1)), (.c (.int 1)), (.c (.int 2)), (.c (.int 2)), (.c (.int 1)), (.c (.int 0)), (.c (.int 0))])
theorem blaw_eq : blaw = [(.own 1 (.callN "_law_pen" [(.var 0)])), (.asg (.nm 2) (.comp .rng1 [(.c (.int 2))] (.nm 5) [5] [] (.call "_law_value" [(.var 1)]))), (.asg (.nm 3) (.call "_law_made" [(.idx (.var 2) (.c (.int 0))), (.idx (.var 2) (.c (.int 1)))])), (.loop .enm [(.var 3)] (.tp [5, 6]) b4), (.loop .seq [(.call "_law_fields" [(.var 3)])] (.nm 4) b5), (.ret e6)] := rfl
def lens : List D := [.int 2, .int 1, .int 2, .int 1, .int 1, .int 1, .int 1, .int 1, .int 1, .int 1, .int 2, .int 2, .int 1, .int 0, .int 0]
theorem lensEq : cmpD .Eq (.lst lens) (.lst lens) = some true := by kernel_rfl
def knd (k : Nat) : List D := (rngI 0 15).map fun j => match j with | .int j => .bl (decide (j = (k : Int))) | d => d
/-- a class and its place among the fifteen -/
def Turn4 (d : D) : Prop := ∃ (k : Nat) (c : Str) (fs : List (Str × D)), d = .tup [.int (k : Int), .err c fs] ∧ c ∈ all15 ∧ cmpD .NotEq (.lst (kndD c)) (.lst (knd k)) = some false
theorem in0 : ("BadNumber" : Str) ∈ all15 := by decide +kernel
theorem kn0 : cmpD .NotEq (.lst (kndD "BadNumber")) (.lst (knd 0)) = some false := by kernel_rfl
theorem in1 : ("BadProgram" : Str) ∈ all15 := by decide +kernel
theorem kn1 : cmpD .NotEq (.lst (kndD "BadProgram")) (.lst (knd 1)) = some false := by kernel_rfl
theorem in2 : ("BadText" : Str) ∈ all15 := by decide +kernel
theorem kn2 : cmpD .NotEq (.lst (kndD "BadText")) (.lst (knd 2)) = some false := by kernel_rfl
theorem in3 : ("BadName" : Str) ∈ all15 := by decide +kernel
theorem kn3 : cmpD .NotEq (.lst (kndD "BadName")) (.lst (knd 3)) = some false := by kernel_rfl
theorem in4 : ("NoName" : Str) ∈ all15 := by decide +kernel
theorem kn4 : cmpD .NotEq (.lst (kndD "NoName")) (.lst (knd 4)) = some false := by kernel_rfl
theorem in5 : ("TakenName" : Str) ∈ all15 := by decide +kernel
theorem kn5 : cmpD .NotEq (.lst (kndD "TakenName")) (.lst (knd 5)) = some false := by kernel_rfl
theorem in6 : ("BadRow" : Str) ∈ all15 := by decide +kernel
theorem kn6 : cmpD .NotEq (.lst (kndD "BadRow")) (.lst (knd 6)) = some false := by kernel_rfl
theorem in7 : ("BadPlace" : Str) ∈ all15 := by decide +kernel
theorem kn7 : cmpD .NotEq (.lst (kndD "BadPlace")) (.lst (knd 7)) = some false := by kernel_rfl
theorem in8 : ("BadPoint" : Str) ∈ all15 := by decide +kernel
theorem kn8 : cmpD .NotEq (.lst (kndD "BadPoint")) (.lst (knd 8)) = some false := by kernel_rfl
theorem in9 : ("Unlike" : Str) ∈ all15 := by decide +kernel
theorem kn9 : cmpD .NotEq (.lst (kndD "Unlike")) (.lst (knd 9)) = some false := by kernel_rfl
theorem in10 : ("TooMany" : Str) ∈ all15 := by decide +kernel
theorem kn10 : cmpD .NotEq (.lst (kndD "TooMany")) (.lst (knd 10)) = some false := by kernel_rfl
theorem in11 : ("NotKept" : Str) ∈ all15 := by decide +kernel
theorem kn11 : cmpD .NotEq (.lst (kndD "NotKept")) (.lst (knd 11)) = some false := by kernel_rfl
theorem in12 : ("BadPromise" : Str) ∈ all15 := by decide +kernel
theorem kn12 : cmpD .NotEq (.lst (kndD "BadPromise")) (.lst (knd 12)) = some false := by kernel_rfl
theorem in13 : ("NothingToUndo" : Str) ∈ all15 := by decide +kernel
theorem kn13 : cmpD .NotEq (.lst (kndD "NothingToUndo")) (.lst (knd 13)) = some false := by kernel_rfl
theorem in14 : ("NothingToRedo" : Str) ∈ all15 := by decide +kernel
theorem kn14 : cmpD .NotEq (.lst (kndD "NothingToRedo")) (.lst (knd 14)) = some false := by kernel_rfl
theorem all_nil {α : Type} {p : α → Prop} : ∀ d ∈ ([] : List α), p d := fun _ h => by cases h
theorem all_cons {α : Type} {p : α → Prop} {x : α} {l : List α} (h : p x) (t : ∀ d ∈ l, p d) : ∀ d ∈ x :: l, p d := fun d m => (List.mem_cons.mp m).elim (fun e => by rw [e]; exact h) (t d)
theorem turns4 (a b : D) : ∀ d ∈ enmD 0 (rowD a b), Turn4 d := (all_cons ⟨0, _, _, rfl, in0, kn0⟩ (all_cons ⟨1, _, _, rfl, in1, kn1⟩ (all_cons ⟨2, _, _, rfl, in2, kn2⟩ (all_cons ⟨3, _, _, rfl, in3, kn3⟩ (all_cons ⟨4, _, _, rfl, in4, kn4⟩ (all_cons ⟨5, _, _, rfl, in5, kn5⟩ (all_cons ⟨6, _, _, rfl, in6, kn6⟩ (all_cons ⟨7, _, _, rfl, in7, kn7⟩ (all_cons ⟨8, _, _, rfl, in8, kn8⟩ (all_cons ⟨9, _, _, rfl, in9, kn9⟩ (all_cons ⟨10, _, _, rfl, in10, kn10⟩ (all_cons ⟨11, _, _, rfl, in11, kn11⟩ (all_cons ⟨12, _, _, rfl, in12, kn12⟩ (all_cons ⟨13, _, _, rfl, in13, kn13⟩ (all_cons ⟨14, _, _, rfl, in14, kn14⟩ all_nil)))))))))))))))
theorem truth {d : D} {e : List Slot} {k : Bool} (h : truD d = some k) : tru1 (.sh d) e = .ok k e := by
  unfold tru1
  show (match (some d).bind truD with
    | some k => R.ok k e
    | none => .stuck) = _
  rw [Option.bind_some, h]
theorem turn4 (n : Nat) {S0 O1 G x5 x6 : Slot} {a b d : D} (h : Turn4 d) : ∃ y5 y6, turnF B0 (FF (n + 1)) wf (.tp [5, 6]) b4 d [S0, O1, G, .sh (.lst (rowD a b)), .un, x5, x6, .un] = .ok .nx [S0, O1, G, .sh (.lst (rowD a b)), .un, y5, y6, .un] := by
  obtain ⟨k, c, fs, rfl, hc, hk⟩ := h
  refine ⟨.sh (.int (k : Int)), .sh (.err c fs), ?_⟩
  rw [turn_ (e1 := [S0, O1, G, .sh (.lst (rowD a b)), .un, .sh (.int (k : Int)), .sh (.err c fs), .un]) rfl]
  unfold b4
  have t1 : evT B0 (FF (n + 1)) (.not (.isiE (.var 6) "PointError" (kitT "PointError"))) [S0, O1, G, .sh (.lst (rowD a b)), .un, .sh (.int (k : Int)), .sh (.err c fs), .un] = .ok false [S0, O1, G, .sh (.lst (rowD a b)), .un, .sh (.int (k : Int)), .sh (.err c fs), .un] := by
    rw [evT_not, evT_isiE, ev_isiE.trans (e_one (ev_sh rfl) rfl (kitP hc)), bind_ok, truth (k := true) rfl, bind_ok]
    rfl
  have t2 : evT B0 (FF (n + 1)) (.not (.isiE (.var 6) "ValueError" (kitT "ValueError"))) [S0, O1, G, .sh (.lst (rowD a b)), .un, .sh (.int (k : Int)), .sh (.err c fs), .un] = .ok false [S0, O1, G, .sh (.lst (rowD a b)), .un, .sh (.int (k : Int)), .sh (.err c fs), .un] := by
    rw [evT_not, evT_isiE, ev_isiE.trans (e_one (ev_sh rfl) rfl (kitV hc)), bind_ok, truth (k := true) rfl, bind_ok]
    rfl
  have t3 : evT B0 (FF (n + 1)) (.or (.not (.isiE (.var 6) "PointError" (kitT "PointError"))) (.not (.isiE (.var 6) "ValueError" (kitT "ValueError")))) [S0, O1, G, .sh (.lst (rowD a b)), .un, .sh (.int (k : Int)), .sh (.err c fs), .un] = .ok false [S0, O1, G, .sh (.lst (rowD a b)), .un, .sh (.int (k : Int)), .sh (.err c fs), .un] := by
    rw [evT_or, t1, bind_ok, if_neg (by decide), t2]
  have cm : ev B0 (FF (n + 1)) (.comp .rng1 [(.blt .len [(.var 3)])] (.nm 7) [7] [] (.cmp .Eq (.var 7) (.var 5))) [S0, O1, G, .sh (.lst (rowD a b)), .un, .sh (.int (k : Int)), .sh (.err c fs), .un] = .ok (.sh (.lst (knd k))) [S0, O1, G, .sh (.lst (rowD a b)), .un, .sh (.int (k : Int)), .sh (.err c fs), .un] := by
    refine e_comp (evs_sh (e_blt (d := .int 15) (evs_sh (ev_sh rfl) evs_nil) rfl rfl) evs_nil) (items1 (n := 15) ⟨by decide, by decide⟩) rfl ?_
    refine loopC_map (f := fun j => match j with | .int j => .bl (decide (j = (k : Int))) | d => d) (rngI 0 15) [] (fun d m => ?_) (by show 0 + 15 ≤ sizeLine; decide)
    obtain ⟨j, _, rfl⟩ := List.mem_map.mp m
    exact c_turn (e1 := [S0, O1, G, .sh (.lst (rowD a b)), .un, .sh (.int (k : Int)), .sh (.err c fs), .sh (.int (0 + (j : Int)))]) rfl (e_cmp (ev_sh rfl) (ev_sh rfl) rfl rfl ceq)
  rw [b_nx ((s_ifF t3).trans evB_nil), b_nx ((s_ifF (t_of rfl (e_cmp (e_call (evs_sh (ev_sh rfl) evs_nil) argsOkS rfl (kinds n hc)) cm rfl rfl hk) rfl rfl)).trans evB_nil)]
  exact evB_nil
def Fld (a b : D) (d : D) : Prop := ∃ (ds : List D) (p : PyData), d = .lst ds ∧ cutD [a, b] none (some (ds.length : Int)) = ds ∧ toPy (.lst ds) = some p ∧ RowOk p
theorem toPy1 {a : D} {p : PyData} (h : toPy a = some p) : toPy (.lst [a]) = some (.list [p]) := by
  unfold toPy toPys
  rw [h]
  rfl
theorem toPy2 {a b : D} {p q : PyData} (h : toPy a = some p) (h' : toPy b = some q) : toPy (.lst [a, b]) = some (.list [p, q]) := by
  unfold toPy toPys toPys
  rw [h, h']
  rfl
theorem fld5 {a b : D} (ha : Val a) (hb : Val b) : ∀ d ∈ fldD a b, Fld a b d := by
  obtain ⟨p, ep, sp⟩ := ha.sm
  obtain ⟨q, eq, sq⟩ := hb.sm
  have f2 : Fld a b (.lst [a, b]) := ⟨_, _, rfl, rfl, toPy2 ep eq, row2 sp sq⟩
  have f1 : Fld a b (.lst [a]) := ⟨_, _, rfl, rfl, toPy1 ep, row1 sp⟩
  have f0 : Fld a b (.lst []) := ⟨_, _, rfl, rfl, rfl, row0⟩
  exact (all_cons f2 (all_cons f1 (all_cons f2 (all_cons f1 (all_cons f1 (all_cons f1 (all_cons f1 (all_cons f1 (all_cons f1 (all_cons f1 (all_cons f2 (all_cons f2 (all_cons f1 (all_cons f0 (all_cons f0 all_nil)))))))))))))))
theorem turn5 (n : Nat) {S0 O1 R3 x4 x5 x6 : Slot} {a b d : D} (h : Fld a b d) : ∃ y4, y4.own = false ∧ turnF B0 (FF n) wf (.nm 4) b5 d [S0, O1, .sh (.lst [a, b]), R3, x4, x5, x6, .un] = .ok .nx [S0, O1, .sh (.lst [a, b]), R3, y4, x5, x6, .un] := by
  obtain ⟨ds, p, rfl, hc, hp, r⟩ := h
  refine ⟨.sh (.lst ds), rfl, ?_⟩
  rw [turn_ (e1 := [S0, O1, .sh (.lst [a, b]), R3, .sh (.lst ds), x5, x6, .un]) rfl]
  unfold b5
  have sl : ev B0 (FF n) (.slc (.var 2) (.c .non) (.blt .len [(.var 4)])) [S0, O1, .sh (.lst [a, b]), R3, .sh (.lst ds), x5, x6, .un] = .ok (.sh (.lst ds)) [S0, O1, .sh (.lst [a, b]), R3, .sh (.lst ds), x5, x6, .un] := by
    rw [ev_slc, ev_sh rfl, bind_ok, ev_c]
    have l : ev B0 (FF n) (.blt .len [(.var 4)]) [S0, O1, .sh (.lst [a, b]), R3, .sh (.lst ds), x5, x6, .un] = .ok (.sh (.int (ds.length : Int))) [S0, O1, .sh (.lst [a, b]), R3, .sh (.lst ds), x5, x6, .un] := e_blt (evs_sh (ev_sh rfl) evs_nil) rfl rfl
    show (prtR (.blt .len [(.var 4)]) (ev B0 (FF n) (.blt .len [(.var 4)]) _)).bind _ = _
    rw [l]
    show R.ok (EV.sh (.lst (cutD [a, b] none (some (ds.length : Int))))) _ = _
    rw [hc]
  have t1 : evT B0 (FF n) (.cmp .NotEq (.var 4) (.slc (.var 2) (.c .non) (.blt .len [(.var 4)]))) [S0, O1, .sh (.lst [a, b]), R3, .sh (.lst ds), x5, x6, .un] = .ok false [S0, O1, .sh (.lst [a, b]), R3, .sh (.lst ds), x5, x6, .un] := t_of rfl (e_cmp (ev_sh rfl) sl rfl rfl (neD_refl hp r)) rfl rfl
  have t2 : evT B0 (FF n) (.cmp .NotEq (.blt .repr [(.var 4)]) (.blt .repr [(.slc (.var 2) (.c .non) (.blt .len [(.var 4)]))])) [S0, O1, .sh (.lst [a, b]), R3, .sh (.lst ds), x5, x6, .un] = .ok false [S0, O1, .sh (.lst [a, b]), R3, .sh (.lst ds), x5, x6, .un] :=
    t_of rfl (e_cmp (e_blt (evs_sh (ev_sh rfl) evs_nil) rfl (reprD_of rfl hp r)) (e_blt (evs_sh sl evs_nil) rfl (reprD_of rfl hp r)) rfl rfl (neD_shown r)) rfl rfl
  have t3 : evT B0 (FF n) (.or (.cmp .NotEq (.var 4) (.slc (.var 2) (.c .non) (.blt .len [(.var 4)]))) (.cmp .NotEq (.blt .repr [(.var 4)]) (.blt .repr [(.slc (.var 2) (.c .non) (.blt .len [(.var 4)]))]))) [S0, O1, .sh (.lst [a, b]), R3, .sh (.lst ds), x5, x6, .un] = .ok false [S0, O1, .sh (.lst [a, b]), R3, .sh (.lst ds), x5, x6, .un] := by
    rw [evT_or, t1, bind_ok, if_neg (by decide), t2]
  rw [b_nx ((s_ifF t3).trans evB_nil)]
  exact evB_nil
theorem goal : Goal := fun ns hns => by
  obtain ⟨f, pf, hpen, hf0, hf1⟩ := pen_made 4 ns
  have P0 : Pen 0 (pn ns 0 0 0 f) := ⟨ns, 0, 0, f, rfl, by decide, by decide, hf0, hf1⟩
  obtain ⟨a, p1, h1, va, k1, a1, a2, P1⟩ := value 1 P0 ⟨by decide, by decide⟩
  obtain ⟨b, p2, h2, vb, k2, b1, b2, P2⟩ := value 1 P1 ⟨by omega, by omega⟩
  refine ⟨[.sh (.scr ns)], ?_⟩
  rw [FF_run tbllaw 5 rfl]
  unfold runDef
  rw [blaw_eq]
  show finC [.sh (.scr ns)] (evB B0 (FF 5) wf _ [.sh (.scr ns), .un, .un, .un, .un, .un, .un, .un]) = _
  have i0 : idxD (.lst [a, b]) (.int 0) = some a := by kernel_rfl
  have i1 : idxD (.lst [a, b]) (.int 1) = some b := by kernel_rfl
  have cm : ev B0 (FF 5) (.comp .rng1 [(.c (.int 2))] (.nm 5) [5] [] (.call "_law_value" [(.var 1)])) [.sh (.scr ns), .ow (pn ns 0 0 0 f), .un, .un, .un, .un, .un, .un] = .ok (.sh (.lst [a, b])) [.sh (.scr ns), .ow p2, .un, .un, .un, .un, .un, .un] := by
    refine e_comp (evs_sh ev_c evs_nil) (items1 ⟨by decide, by decide⟩) rfl ?_
    show loopC _ [.int 0, .int 1] [] _ = _
    have l1 : ([] : List D).length < sizeLine := by decide
    have l2 : ([a] : List D).length < sizeLine := by show 1 < sizeLine; decide
    rw [loopC, c_turn (y := a) (e1 := [.sh (.scr ns), .ow (pn ns 0 0 0 f), .un, .un, .un, .sh (.int 0), .un, .un]) rfl (e_call (evs_pl (ev_ow rfl) evs_nil) argsOk0 rfl h1)]
    show (if ([] : List D).length < sizeLine then loopC _ [.int 1] [a] [.sh (.scr ns), .ow p1, .un, .un, .un, .un, .un, .un] else .stuck) = _
    rw [if_pos l1, loopC, c_turn (y := b) (e1 := [.sh (.scr ns), .ow p1, .un, .un, .un, .sh (.int 1), .un, .un]) rfl (e_call (evs_pl (ev_ow rfl) evs_nil) argsOk0 rfl h2)]
    show (if ([a] : List D).length < sizeLine then loopC _ [] [a, b] [.sh (.scr ns), .ow p2, .un, .un, .un, .un, .un, .un] else .stuck) = _
    rw [if_pos l2, loopC]
  have st1 : evS B0 (FF 5) wf (.own 1 (.callN "_law_pen" [(.var 0)])) [.sh (.scr ns), .un, .un, .un, .un, .un, .un, .un] = .ok .nx [.sh (.scr ns), .ow (pn ns 0 0 0 f), .un, .un, .un, .un, .un, .un] := by
    have c : ev B0 (FF 5) (.callN "_law_pen" [(.var 0)]) [.sh (.scr ns), .un, .un, .un, .un, .un, .un, .un] = .ok (.sh (pn ns 0 0 0 f)) [.sh (.scr ns), .un, .un, .un, .un, .un, .un, .un] := by
      rw [e_callN (evs_sh (ev_sh rfl) evs_nil) argsOkS rfl hpen]
      cases pf <;> rfl
    exact s_own_ c (by show 1 < 8; decide)
  rw [b_nx st1,
    b_nx (e1 := [.sh (.scr ns), .ow p2, .sh (.lst [a, b]), .un, .un, .un, .un, .un]) (s_asg_ cm rfl),
    b_nx (e1 := [.sh (.scr ns), .ow p2, .sh (.lst [a, b]), .sh (.lst (rowD a b)), .un, .un, .un, .un]) (s_asg_ (e_call (evs_sh (e_idx (ev_sh rfl) ev_c rfl rfl i0) (evs_sh (e_idx (ev_sh rfl) ev_c rfl rfl i1) evs_nil)) argsOkSS rfl (made_ 4 a b)) rfl)]
  obtain ⟨e4, q4, y5, y6, rfl⟩ := loopF_mem (t := turnF B0 (FF 5) wf (.tp [5, 6]) b4) (fun e => ∃ y5 y6, e = [.sh (.scr ns), .ow p2, .sh (.lst [a, b]), .sh (.lst (rowD a b)), .un, y5, y6, .un]) (enmD 0 (rowD a b)) [.sh (.scr ns), .ow p2, .sh (.lst [a, b]), .sh (.lst (rowD a b)), .un, .un, .un, .un] ⟨.un, .un, rfl⟩ fun d m e he => by
    obtain ⟨y5, y6, rfl⟩ := he
    obtain ⟨z5, z6, h⟩ := turn4 4 (S0 := .sh (.scr ns)) (O1 := .ow p2) (G := .sh (.lst [a, b])) (x5 := y5) (x6 := y6) (a := a) (b := b) (turns4 a b d m)
    exact ⟨_, h, z5, z6, rfl⟩
  rw [b_nx ((s_loop_ (k := .enm) (es := [.var 3]) (evs_sh (ev_sh rfl) evs_nil) (rfl : (shs [EV.sh (.lst (rowD a b))]).bind (itemsOf .enm) = some (enmD 0 (rowD a b)))).trans q4)]
  have fl : ∀ {x4 : Slot}, evs B0 (FF 5) [(.call "_law_fields" [(.var 3)])] [.sh (.scr ns), .ow p2, .sh (.lst [a, b]), .sh (.lst (rowD a b)), x4, y5, y6, .un] = .ok [EV.sh (.lst (fldD a b))] [.sh (.scr ns), .ow p2, .sh (.lst [a, b]), .sh (.lst (rowD a b)), x4, y5, y6, .un] :=
    evs_sh (e_call (evs_sh (ev_sh rfl) evs_nil) argsOkS rfl (flds 4 a b)) evs_nil
  obtain ⟨e5, q5, y4, o4, rfl⟩ := loopF_mem (t := turnF B0 (FF 5) wf (.nm 4) b5) (fun e => ∃ y4, y4.own = false ∧ e = [.sh (.scr ns), .ow p2, .sh (.lst [a, b]), .sh (.lst (rowD a b)), y4, y5, y6, .un]) (fldD a b) [.sh (.scr ns), .ow p2, .sh (.lst [a, b]), .sh (.lst (rowD a b)), .un, y5, y6, .un] ⟨.un, rfl, rfl⟩ fun d m e he => by
    obtain ⟨y4, _, rfl⟩ := he
    obtain ⟨z4, zo, h⟩ := turn5 5 (S0 := .sh (.scr ns)) (O1 := .ow p2) (R3 := .sh (.lst (rowD a b))) (x4 := y4) (x5 := y5) (x6 := y6) (fld5 va vb d m)
    exact ⟨_, h, z4, zo, rfl⟩
  rw [b_nx ((s_loop_ (k := .seq) fl (rfl : (shs [EV.sh (.lst (fldD a b))]).bind (itemsOf .seq) = some (fldD a b))).trans q5)]
  have cl : ev B0 (FF 5) (.comp .seq [(.call "_law_fields" [(.var 3)])] (.nm 4) [4] [] (.blt .len [(.var 4)])) [.sh (.scr ns), .ow p2, .sh (.lst [a, b]), .sh (.lst (rowD a b)), y4, y5, y6, .un] = .ok (.sh (.lst lens)) [.sh (.scr ns), .ow p2, .sh (.lst [a, b]), .sh (.lst (rowD a b)), y4, y5, y6, .un] := by
    refine e_comp fl rfl (by show (y4.own || false) = false; rw [o4]; rfl) ?_
    refine loopC_map (f := fun d => match d with | .lst xs => .int xs.length | d => d) (fldD a b) [] (fun d m => ?_) (by show 0 + 15 ≤ sizeLine; decide)
    obtain ⟨ds, _, rfl, _⟩ := fld5 va vb d m
    exact c_turn (e1 := [.sh (.scr ns), .ow p2, .sh (.lst [a, b]), .sh (.lst (rowD a b)), .sh (.lst ds), y5, y6, .un]) rfl (e_blt (evs_sh (ev_sh rfl) evs_nil) rfl rfl)
  unfold e6
  rw [b_rt (s_ret_ (e_cmp cl (e_lst (evs_sh ev_c (evs_sh ev_c (evs_sh ev_c (evs_sh ev_c (evs_sh ev_c (evs_sh ev_c (evs_sh ev_c (evs_sh ev_c (evs_sh ev_c (evs_sh ev_c (evs_sh ev_c (evs_sh ev_c (evs_sh ev_c (evs_sh ev_c (evs_sh ev_c evs_nil))))))))))))))) rfl (sz 15)) rfl rfl lensEq))]
  rfl
end K00

end
end

set_option Elab.async false
set_option maxRecDepth 100000
namespace K00
end K00
open PySem PySem.W PySem.Calls PyProof.Rows
set_option maxHeartbeats 0 in
theorem PySem.Challenge.cw_sevenpoints_k00_errors_made_by_hand_holds : PySem.Challenge.rw_sevenpoints_k00_errors_made_by_hand.Holds := by
  w_on; o_law
  refine HandSHeadRun.head_any (r := OpenLaw.row PySem.Challenge.rw_sevenpoints_k00_errors_made_by_hand) (q := view (OpenLaw.row PySem.Challenge.rw_sevenpoints_k00_errors_made_by_hand).prog [26]) (H := K00.hk) (ob := K00.ob) (M := 6000) (loose := K00.others) (d := HandSHeadRun.topDef (OpenLaw.row PySem.Challenge.rw_sevenpoints_k00_errors_made_by_hand).prog 26) (kwd := []) K00.ob_eq
    (by kernel_rfl) (fun s => by kernel_rfl) K00.run (by kernel_rfl) (by kernel_rfl) (by kernel_rfl) (by rfl) (by first | assumption | decide +kernel) (by decide +kernel) ⟨rfl, rfl, rfl, rfl, rfl, by decide +kernel⟩ ?hw ?hc
  case hw => w_witness2
  case hc =>
    refine K00.walk_GE (l := PySem.Challenge.rw_sevenpoints_k00_errors_made_by_hand) (n := 63) (k := 9) (x := "script") (CX := fun w => L2.CX (PySem.Challenge.rw_sevenpoints_k00_errors_made_by_hand).prog w) rfl (by decide) (by kernel_rfl) ⟨rfl, by decide, by decide⟩ ?F ?X
    case X =>
      intro w H s e s' z
      obtain ⟨_, _, _, _, _, _, _, _, _, _, _, _, z⟩ := z
      exact z.elim
    case F =>
      intro w mg fa h Y G hmg0
      obtain ⟨K, KX, c⟩ := Y
      have hmg : mg ("law" : PySem.Str) = some (.ref fa) := by
        have e : (HandSHeadRun.topDef (OpenLaw.row PySem.Challenge.rw_sevenpoints_k00_errors_made_by_hand).prog 26).name = ("law" : PySem.Str) := by kernel_rfl
        rw [← e]
        exact hmg0
      obtain ⟨fd, sp, h1, h2, h3⟩ := K00.of_goal K00.goal (P := (PySem.Challenge.rw_sevenpoints_k00_errors_made_by_hand).prog) (w := w) KX G hmg c
      exact ⟨K, fd, sp, KX, h1, h2, h3⟩

