import PyProof.Rows.All
import Wide.All
import OpenK.AllK
import Wide.FinOn
import PyProof.ReprRoads
import HandS.ForMost
import KE.KExcInit
import HandS.ExcIs
import HandS.ExcInit
import HandS.IsInst
import HandS.ExcValue
import HandS.ExcOwn
import HandS.DictComp
import PySem.Challenge.RW_worthhouse_k11_errors
set_option Elab.async false
set_option linter.all false
set_option maxRecDepth 100000
set_option maxHeartbeats 4000000
/-! Defs that are called where no container is being written out (as from the law's own call): for repr of lists and tuples. -/
namespace Gd
open PySem PySem.Spec PyProof.Rows L2

/-- nothing is being written out around here -/
abbrev Qt (A : Around) : Prop := A.guards = some []
theorem qt_deeper {A : Around} {env : Env} (h : Qt A) : Qt (A.deeper env) := h
theorem qt_in1 {A : Around} (h : Qt A) : Qt A.in1 := h

/-- the promise of a def that is called at such places -/
structure FnG (P : Program) (w : World) (K : PySem.W.Frag) (mg : Str → Option Value) (base : Heap) (CX : CXT) (k : Nat) (f : Addr) (fd : FuncData) (ps : List Str) (sp : Sp) : Prop where
  len : ∀ vs H Q E, sp vs H Q E → vs.length = ps.length
  go : ∀ (A : Around) (outer : List Env) (s : Shared) (H : Hp) (args : Args) (us : List Value) (vs : List V) (Q : VK) (E : XK), Room k A → Qt A → Env0 P w K mg base A outer s H →
    BindsTo s fd args (ps.zip us) → Vals vs us → sp vs H Q E → codeAny (model P w) A (.call (.ref f) args) (CR CX outer P w H s Q E) s

section
variable {CX : CXT} {P : Program} {w : World} {K : PySem.W.Frag} {mg : Str → Option Value} {base : Heap} {k : Nat} {f : Addr} {fd : FuncData} {ps : List Str} {sp : Sp}
theorem FnG.of (F : FnOk P w K mg base CX k f fd ps sp) : FnG P w K mg base CX k f fd ps sp :=
  ⟨F.len, fun A outer s H args us vs Q E hr _ => F.run A outer s H args us vs Q E hr⟩
theorem FnG.mono {j : Nat} (F : FnG P w K mg base CX j f fd ps sp) (h : j ≤ k) : FnG P w K mg base CX k f fd ps sp :=
  ⟨F.len, fun A outer s H args us vs Q E hr => F.go A outer s H args us vs Q E (hr.mono h)⟩

/-- a def by its body, called where nothing is being written out -/
theorem fnG_of {name qual : Str} {params : Arguments} {body : List Stmt} {scope : Scope} {dV kV doc pm cdv ct oc : Value} {an od : Option Addr} {osl : Array (Option Value)} {N : List Str}
    (lk : K.lookup f = some ⟨oc, od, .func (PySem.W.fnOf name qual params body scope dV kV doc pm an cdv ct), osl⟩) (hcd : PySem.W.codeIn K cdv qual = true) (S : FnScope N ps scope)
    (len : ∀ vs H Q E, sp vs H Q E → vs.length = ps.length)
    (hbody : ∀ (A : Around) (outer : List Env) (s : Shared) (H : Hp) (vs : List V) (Q : VK) (E : XK), Room k (A.deeper (envOfC qual scope s.heap.objs.size f cdv)) → Qt (A.deeper (envOfC qual scope s.heap.objs.size f cdv)) → sp vs H Q E →
      ∃ t, PSs (cxOf CX P w K mg base N qual scope f cdv A outer s H E) body t ∧ t { nx := fun _ H' => Q .non H', rt := Q } (start N vs) H) :
    FnG P w K mg base CX (k + 1) f (PySem.W.fnOf name qual params body scope dV kV doc pm an cdv ct) ps sp := by
  refine ⟨len, fun A outer s H args us vs Q E hr hg e0 hb r hsp => ?_⟩
  have sizes := len _ _ _ _ hsp
  have inK : K.In s.heap := e0.mod.kin.keeps fun b o e => (e0.bs b o e).1
  have noLim : s.heap.NoLimit := e0.mod.nolimit.keeps fun b o e => (e0.bs b o e).1
  have cells : ∀ y ∈ ps.zip us, scope.names.lookup y.1 = some .local ∨
      (scope.names.lookup y.1 = some .cell ∧ ((cellsFrom (s.heap.objs.size + 1) scope.names []).lookup y.1).isSome = true) := by
    intro y hy
    cases S.par y.1 (List.of_mem_zip hy).1 with
    | inl q => exact .inl q
    | inr q => exact .inr ⟨q, PySem.W.cellsFrom_some _ _ _ (.inl q)⟩
  refine codeAny_call_function hr.depth (inK _ _ lk) rfl S.co S.gen rfl (PySem.W.codeRec_of inK hcd) (hb _ _ _ _ ?_)
  refine wpAny_newFunctionEnv_cells S.kind cells fun env he s1 x => ?_
  subst he
  refine ⟨noLim.keeps x.toInCall.keep, codeAny_func ?_⟩
  obtain ⟨t, ht, hq⟩ := hbody A outer s H vs Q E (hr.deeper _) (qt_deeper hg) hsp
  have I := inv_start (CX := CX) (E := E) S hr.hd e0 sizes r x
  refine wpAny_mono (ht.run [] s1 (start N vs) H _ I hq) (fun fl s' hs => ?_) fun e s' hs => hs
  cases fl with
  | ret u =>
    obtain ⟨v, σ', H', J, rv, q⟩ := hs
    exact ⟨v, H', J.os, J.bare, J.base, J.hok, rv, q⟩
  | next =>
    obtain ⟨σ', H', J, q⟩ := hs
    exact ⟨V.non, H', J.os, J.bare, J.base, J.hok, rfl, q⟩
  | brk => exact hs.elim fun _ z => z.elim fun _ z => False.elim z.2
  | cont => exact hs.elim fun _ z => z.elim fun _ z => False.elim z.2
theorem okG {x qual : Str} {st : Stmt} {N : List Str} (F : Fun K x qual st f fd) (S : FnScope N ps (defScope st)) (len : ∀ vs H Q E, sp vs H Q E → vs.length = ps.length)
    (hbody : ∀ (cdv : Value) (A : Around) (outer : List Env) (s : Shared) (H : Hp) (vs : List V) (Q : VK) (E : XK), Room k (A.deeper (envOfC qual (defScope st) s.heap.objs.size f cdv)) →
      Qt (A.deeper (envOfC qual (defScope st) s.heap.objs.size f cdv)) → sp vs H Q E →
      ∃ t, PSs (cxOf CX0 P w K mg base N qual (defScope st) f cdv A outer s H E).nox (defBody st) t ∧ t { nx := fun _ H' => Q .non H', rt := Q } (start N vs) H) : FnG P w K mg base CX0 (k + 1) f fd ps sp := by
  obtain ⟨oc, od, kV, doc, pm, an, cdv, ct, osl, rfl, lk, hcd⟩ := F.ex
  refine fnG_of lk hcd S len fun A outer s H vs Q E hr hg hsp => ?_
  obtain ⟨t, h, q⟩ := hbody cdv A outer s H vs Q E hr hg hsp
  exact ⟨t, h.nox, q⟩
end

section
variable {X : Cx} {CX : CXT} {k : Nat} {f : Addr} {fd : FuncData} {ps : List Str} {sp : Sp} {dvs : List V} {ds : List Value} {E : XK} {x : Str} {p pos : Pos} {e : Expr} {es : List Expr} {t : TA}
theorem run_fnG {pins : List (Addr × Obj)} {σ : L2.St} {H : Hp} {s : Shared} {Q : VK} {us : List Value} {vs : List V} (F : FnG X.prog X.w X.K X.mg X.base CX k f fd ps sp) (hr : Room k X.A) (hg : Qt X.A)
    (hb : Binds X.K fd ps ds) (hd : Vals dvs ds) (hx : Passes CX X E) (I : Inv X pins σ H s) (r : Vals vs us) (h : sp (vs ++ dvs) H Q E) :
    wpAny (model X.prog X.w) X.A (call (.ref f) us) (EP X pins σ Q) X.xe s := by
  have both : Vals (vs ++ dvs) (us ++ ds) := r.append hd
  have hl : (us ++ ds).length = ps.length := both.length.symm.trans (F.len _ _ _ _ h)
  refine wpAny_call (codeAny_mono (F.go X.A X.stack s H ⟨us, []⟩ (us ++ ds) (vs ++ dvs) Q E hr hg I.env0 (hb s us I.kIn hl) both h) fun r s' hq => ?_)
  match r, hq with
  | .error e, hq => exact hx pins σ H s e s' I hq
  | .ok (.ret u), hq => exact I.after hq
  | .ok .next, hq => exact False.elim hq
  | .ok .brk, hq => exact False.elim hq
  | .ok .cont, hq => exact False.elim hq
/-- f(e, ..) -/
theorem pe_callG (F : FnG X.prog X.w X.K X.mg X.base CX k f fd ps sp) (hr : Room k X.A) (hq : Qt X.A) (hg : Gl X x) (hm : X.mg x = some (.ref f)) (hk : PySem.W.keepIn X.K (.ref f) = true) (hb : Binds X.K fd ps ds) (hd : Vals dvs ds)
    (hx : Passes CX X E) (ha : PA X (e :: es) t) (hdb : (x == ("__debug__" : Str)) = false := by decide) (he : starEach (e :: es) X.env = (false, eval e X.env) :: starEach es X.env := by rfl)
    (hpl : (backTo pos (starEach es X.env)).any (·.1) = false := by rfl) : PE X (.Call (.Name x p) (e :: es) [] pos) (tCall sp dvs E t) := by
  refine ⟨fun pins s σ H Q I h => wpAny_Call_Name_kw (ld_glob I hg hm ?_ hdb)⟩
  refine PySem.W.callWith_K (h₀ := X.base) I.ok.mod.kin hk (thn (ha.run pos pins s σ H _ I h) ?_) he hpl
  rintro us s1 ⟨vs, H1, I1, r, q⟩
  exact ⟨I1.kIn, run_fnG F hr hq hb hd hx I1 r q⟩
/-- f() -/
theorem pe_callG0 (F : FnG X.prog X.w X.K X.mg X.base CX k f fd ps sp) (hr : Room k X.A) (hq : Qt X.A) (hg : Gl X x) (hm : X.mg x = some (.ref f)) (hk : PySem.W.keepIn X.K (.ref f) = true) (hb : Binds X.K fd ps ds) (hd : Vals dvs ds)
    (hx : Passes CX X E) (hdb : (x == ("__debug__" : Str)) = false := by decide) : PE X (.Call (.Name x p) [] [] pos) (tCall sp dvs E tNil) :=
  ⟨fun pins s σ H Q I h => wpAny_Call_Name_kw (ld_glob I hg hm (PySem.W.callWith_K0 I.kIn hk (run_fnG (us := []) F hr hq hb hd hx I .nil h)) hdb)⟩

/-- repr of data -/
def rRepr (K : PySem.W.Frag) : List V → Hp → VK → Prop := fun xs H Q => ∃ (x : V) (d : PyData), xs = [x] ∧ Dp K H x d ∧ d.hasDict = false ∧ d.showable = true ∧ d.depth ≤ 60 ∧ d.shown.length ≤ sizeLine ∧ Q (.str d.shown) H
theorem call_repr (hg : Qt X.A) (hu : X.A.units + 64 < cLine) : CallR X (.builtin "repr") (rRepr X.K) := by
  intro pins s σ H xs us Q I r h
  obtain ⟨x, d, rfl, hd, hnd, hs, hp, hz, q⟩ := h
  obtain ⟨u, rfl, ru⟩ := vals1 r
  have fin : ∀ (h' : Heap) (t tk : Tok), (∀ b o, s.heap.get? b = some o → h'.get? b = some o) → EP X pins σ Q (.str d.shown t) { s with heap := h', toks := tk } :=
    fun h' t tk k => ⟨.str d.shown, H, I.kept k, ⟨t, rfl⟩, q⟩
  have viaRef : ∀ (a : Addr), u = .ref a → wpAny (model X.prog X.w) X.A (call (.builtin "repr") [u]) (EP X pins σ Q) X.xe s := by
    intro a e
    subst e
    obtain ⟨as, rd⟩ := Dp.reads I d x (.ref a) hd ru
    exact repr_of_reads' rd hs (PyData.noDict_hsm hnd) hg (by omega) (fun b o e => e) (fun h' t tk k => fin h' t tk k) hz
  cases hd with
  | non =>
    obtain rfl : u = Value.none := ru
    exact PySem.P.repr_of_none (fin _ _ _ fun _ _ e => e)
  | bl b =>
    obtain rfl : u = Value.bool b := ru
    exact PySem.P.repr_of_bool (fin _ _ _ fun _ _ e => e)
  | int i =>
    obtain ⟨t, rfl⟩ := (show ∃ t, u = Value.int i t from ru)
    exact PySem.P.repr_of_int (of_decide_eq_true hs) (fin _ _ _ fun _ _ e => e)
  | str y =>
    obtain ⟨t, rfl⟩ := (show ∃ t, u = Value.str y t from ru)
    exact PySem.P.repr_of_str (fin _ _ _ fun _ _ e => e) hz
  | lst h1 h2 => exact viaRef _ ru
  | tup h1 h2 => exact viaRef _ ru
end

section
variable {P : Program} {w : World} {K : PySem.W.Frag} {mg mb : Str → Option Value} {CX : CXT} {k : Nat} {fa a : Addr} {fd : FuncData} {x : Str} {sp : Sp} {s₁ : Shared} {vs : List Value} {ns : List Int}
/-- what the law's own call must show of a heap in which the script at most is tracked -/
theorem law_core {H : Hp} (KX : K.In s₁.heap) (hns : s₁.heap.Ns mainGlobals mg) (hb : s₁.heap.Ns builtinsNs mb) (hbb : ∀ x : Str, x ≠ "__name__" → mb x = bootBuiltins x) (hlim : s₁.heap.NoLimit) (hg : s₁.gens = #[])
    (ha : s₁.heap.get? a = some { cls := .type "list", data := .seq vs.toArray }) (hr : Room k callerA) (F : ∀ base : Heap, K.In base → base.Ns mainGlobals mg → FnG P w K mg base CX k fa fd [x] sp)
    (hbind : ∀ (s : Shared) (u : Value), BindsTo s fd ⟨[u], []⟩ [(x, u)]) (hO : Only H) (hsp : sp [.ref a] H (fun v _ => v = .bl true) fun _ _ _ => False) (hCX : ∀ e s', CX [] H s₁ (fun _ _ _ => False) e s' → False)
    (hok : HOk P w H s₁.heap) (hA : ∀ b, H b ≠ none → b = a) (hK : H a ≠ none → K.lookup a = none) :
    codeAny (model P w) callerA (.call (.ref fa) ⟨[.ref a], []⟩) (fun r s' => r = .ok (.ret (.bool true)) ∧ OldK s₁.heap s'.heap ∧ s'.os = s₁.os ∧ AllBare s'.gens) s₁ := by
  have seqA : ∀ {b : Addr} {o : Obj} {es : Array DictEntry} {ep : Nat}, s₁.heap.get? b = some o → o.data = .dict es ep → H b = none := by
    intro b o es ep e d
    cases q : H b with
    | none => rfl
    | some u =>
      have eb : b = a := hA b (by rw [q]; simp)
      rw [eb, ha] at e
      have eo := Option.some.inj e
      rw [← eo] at d
      cases d
  have nsH : ∀ {b : Addr} {m : Str → Option Value}, s₁.heap.Ns b m → (hidT s₁.heap H).Ns b m := by
    rintro b m ⟨o, es, ep, e, d, r⟩
    exact ⟨o, es, ep, hidT_get e (seqA e d), d, r⟩
  have inB : K.In (hidT s₁.heap H) := by
    intro b o e
    refine hidT_get (KX b o e) ?_
    cases q : H b with
    | none => rfl
    | some u =>
      have eb : b = a := hA b (by rw [q]; simp)
      rw [eb] at e q
      rw [hK (by rw [q]; simp)] at e
      cases e
  obtain ⟨mc, c1, c2⟩ := hlim
  have md : Mod K mg (hidT s₁.heap H) := ⟨inB, nsH hns, ⟨mb, nsH hb, hbb⟩, ⟨mc, nsH c1, c2⟩⟩
  have e0 : Env0 P w K mg (hidT s₁.heap H) callerA [] s₁ H :=
    ⟨rfl, md, fun b o e => of_hidT e, Nat.le_of_eq (hidT_size _ _), trivial, fun b z => absurd (show b ∈ ([] : List Addr) from z) (by simp), hok, .of_eq hg⟩
  have run := (F _ inB (nsH hns)).go callerA [] s₁ H ⟨[.ref a], []⟩ [.ref a] [.ref a] _ _ hr rfl e0 (hbind s₁ (.ref a)) (.cons rfl .nil) hsp
  refine codeAny_mono run fun r s' h => ?_
  match r, h with
  | .error e, h => exact (hCX e s' h).elim
  | .ok .next, h => exact False.elim h
  | .ok .brk, h => exact False.elim h
  | .ok .cont, h => exact False.elim h
  | .ok (.ret u), h =>
    obtain ⟨v, H', os, bare, un, hok', r', q⟩ := h
    have ev : v = .bl true := q
    subst ev
    have eu : u = Value.bool true := r'
    subst eu
    refine ⟨rfl, OldK.of_keep fun b o e => ?_, os, bare⟩
    cases q : H b with
    | none => exact un.keep b o e q (fun z => absurd (show b ∈ ([] : List Addr) from z) (by simp)) (by simp)
    | some u =>
      rcases hO b with z | ⟨ob, xs, z⟩
      · rw [q] at z
        cases z
      · have z2 := un.frzs b ob _ z
        have g1 := (hok b _ z).1
        have g2 := (hok' b _ z2).1
        rw [e] at g1
        have eo := Option.some.inj g1
        rw [eo]
        exact g2
theorem law_callG (KX : K.In s₁.heap) (hns : s₁.heap.Ns mainGlobals mg) (hb : s₁.heap.Ns builtinsNs mb) (hbb : ∀ x : Str, x ≠ "__name__" → mb x = bootBuiltins x) (hlim : s₁.heap.NoLimit) (hg : s₁.gens = #[])
    (ha : s₁.heap.get? a = some { cls := .type "list", data := .seq vs.toArray }) (hi : IntsAre vs ns) (hl : ns.length ≤ sizeLine) (hr : Room k callerA) (F : ∀ base : Heap, K.In base → base.Ns mainGlobals mg → FnG P w K mg base CX k fa fd [x] sp)
    (hbind : ∀ (s : Shared) (u : Value), BindsTo s fd ⟨[u], []⟩ [(x, u)]) (hsp : ∀ H : Hp, Only H → SqL K H a (ns.map V.int) → sp [.ref a] H (fun v _ => v = .bl true) fun _ _ _ => False)
    (hCX : ∀ H e s', CX [] H s₁ (fun _ _ _ => False) e s' → False) :
    codeAny (model P w) callerA (.call (.ref fa) ⟨[.ref a], []⟩) (fun r s' => r = .ok (.ret (.bool true)) ∧ OldK s₁.heap s'.heap ∧ s'.os = s₁.os ∧ AllBare s'.gens) s₁ := by
  have rv := vals_ints hi
  cases hk : K.lookup a with
  | some o =>
    have e := (KX a o hk).symm.trans ha
    have eo := Option.some.inj e
    have O : Only (fun _ => none) := fun _ => .inl rfl
    have S : SqL K (fun _ => none) a (ns.map V.int) := by
      rw [eo] at hk
      exact .inr ⟨_, vs.toArray, _, hk, rfl, rfl, rfl, by rw [List.size_toArray, hi.length]; exact hl, by simpa using rv⟩
    refine law_core KX hns hb hbb hlim hg ha hr F hbind O (hsp _ O S) (hCX _) (fun b u z => ?_) (fun b z => absurd rfl z) fun z => absurd rfl z
    have z' : (none : Option HO) = some u := z
    cases z'
  | none =>
    let H1 : Hp := fun b => if b = a then some (.frz { cls := .type "list", data := .seq vs.toArray } (.lst (ns.map V.int))) else none
    have at1 : H1 a = some (.frz { cls := .type "list", data := .seq vs.toArray } (.lst (ns.map V.int))) := if_pos rfl
    have off1 : ∀ b, b ≠ a → H1 b = none := fun b h => if_neg h
    have O : Only H1 := by
      intro b
      by_cases hb : b = a
      · rw [hb]
        exact .inr ⟨_, _, at1⟩
      · exact .inl (off1 b hb)
    refine law_core KX hns hb hbb hlim hg ha hr F hbind O (hsp _ O (.inl (.inr ⟨_, at1⟩))) (hCX _) (fun b u z => ?_) (fun b z => ?_) fun _ => hk
    · by_cases hb : b = a
      · subst hb
        have eu := Option.some.inj (at1.symm.trans z)
        subst eu
        exact ⟨ha, by rw [List.length_map]; exact hl, vs, _, rv, ha⟩
      · rw [off1 b hb] at z
        cases z
    · by_cases hb : b = a
      · exact hb
      · exact absurd (off1 b hb) z
end
/-- the goal that k_head leaves (case hc), from the law's promise -/
theorem walk_G {l : PySem.W.OpenLaw} {n k : Nat} {q : Program} {loose : List Str} {XP : (Str → Option Value) → Heap → Prop} {YP : World → Heap → Prop} {d : DefRec} {K : Params → PySem.W.Frag} {CX : World → CXT} {sp : World → Sp} {x : Str}
    (hn : l.most = some n) (hn2 : n ≤ sizeLine) (hdf : d.params.defaults = []) (hr : Room k callerA) (hY : ∀ (w : World) (h : Heap), YP w h → (K w.params).In h)
    (F : ∀ (w : World) (mg : Str → Option Value) (fa : Addr) (h : Heap), (K w.params).In h → h.Ns mainGlobals mg → mg d.name = some (.ref fa) →
      ∃ fd : FuncData, (∀ (s : Shared) (u : Value), BindsTo s fd ⟨[u], []⟩ [(x, u)]) ∧ ∀ base : Heap, (K w.params).In base → base.Ns mainGlobals mg → FnG l.prog w (K w.params) mg base (CX w) k fa fd [x] (sp w))
    (hsp : ∀ (w : World) (H : Hp) (a : Addr) (ns : List Int), ns.length ≤ n → Only H → SqL (K w.params) H a (ns.map V.int) → sp w [.ref a] H (fun v _ => v = .bl true) fun _ _ _ => False)
    (hCX : ∀ (w : World) (H : Hp) (s : Shared) (e : Value) (s' : Shared), CX w [] H s (fun _ _ _ => False) e s' → False) :
    PySem.W.WalkO q loose XP YP l.row.toRowW d [] (fun f vs => PySem.call f vs) := by
  refine Att.attach_call hn hdf fun w s₀ s₁ mg mb fa o pm cd doc a vs ns G Y ho hd hcd hmg hobj hints hlen hg => ?_
  have KX := hY w _ Y
  obtain ⟨fd, hb, hF⟩ := F w mg fa _ KX G.T.g hmg
  exact law_callG KX G.T.g G.T.b G.T.builtins G.T.nolimit hg hobj hints (Nat.le_trans hlen hn2) hr hF hb (fun H hO hS => hsp w H a ns hlen hO hS) fun H e s' => hCX w H s₁ e s'
end Gd

/-! Exceptions of own classes as values: made, stored into, read, asked for their class. -/
namespace Xv
open PySem PySem.Spec PyProof.Rows L2
open PySem.W (Frag findIn subIn mroIn hasDictIn keepIn kitOne specialIn takesIn clsIn isClsIn typeIn excInitIn excOver)

/-- what the written part says of an exception class -/
def clsOk (K : Frag) (bmB : List Value) (newId : String) (C : Addr) : Bool :=
  excInitIn K C bmB newId && excOver K C bmB && hasDictIn K C && keepIn K (.ref C)
  && (findIn K (.ref C) "__setattr__" == some (some (.builtin "object.__setattr__")))
  && (findIn K (.ref C) "__getattribute__" == some (some (.builtin "BaseException.__getattribute__")))
  && (findIn K (.ref C) "__getattr__" == some none)
  && (findIn K (.ref C) "__class__" == some (some (.builtin "object.__class__")))
  && (subIn K (.ref C) (.type "BaseException") == some true)
  && (mroIn K C (.type "object") == some true)

structure XC (K : Frag) (bmB : List Value) (newId : String) (C : Addr) : Prop where
  ini : excInitIn K C bmB newId = true
  over : excOver K C bmB = true
  hd : hasDictIn K C = true
  kp : keepIn K (.ref C) = true
  sa : findIn K (.ref C) "__setattr__" = some (some (.builtin "object.__setattr__"))
  ga : findIn K (.ref C) "__getattribute__" = some (some (.builtin "BaseException.__getattribute__"))
  gg : findIn K (.ref C) "__getattr__" = some none
  cc : findIn K (.ref C) "__class__" = some (some (.builtin "object.__class__"))
  sb : subIn K (.ref C) (.type "BaseException") = some true
  mo : mroIn K C (.type "object") = some true
theorem xc_of {K : Frag} {bmB : List Value} {newId : String} {C : Addr} (h : clsOk K bmB newId C = true) : XC K bmB newId C := by
  unfold clsOk at h
  simp only [Bool.and_eq_true, beq_iff_eq] at h
  obtain ⟨⟨⟨⟨⟨⟨⟨⟨⟨a, b⟩, c⟩, d⟩, e⟩, f⟩, g⟩, i⟩, j⟩, k⟩ := h
  exact ⟨a, b, c, d, e, f, g, i, j, k⟩
/-- of the getset that tells an object's class -/
structure XG (K : Frag) : Prop where
  gt : specialIn K (.builtin "object.__class__") "__get__" = some (some (.builtin "getset_descriptor.__get__"))
  tk : takesIn K (.builtin "object.__class__") = some true

/-! ### what the model does -/
section
open Builtin Builtin.ObjectAttr
variable {prog : Program} {w : World} {A : Around} {E : Value → Shared → Prop} {R : Result → Shared → Prop} {hp : Heap} {g : Array GenState} {d : Drawn} {t : Nat} {os : OsState}
variable {K : Frag} {C x : Addr} {B newId : String} {bmB : List Value} {name : Str} {tk : Tok} {v : Value} {fv : Array Value}
theorem noTaker (ha : findIn K (.ref C) name = some none) : PySem.W.takerIn K C name = some none := by
  unfold PySem.W.takerIn
  rw [ha]
  rfl
/-- the first attribute of an exception -/
theorem store_first (SF : StoreFacts B bmB "object.__setattr__" "object") (T : XC K bmB newId C) (X : K.In hp) (hx : hp.get? x = some { cls := .ref C, data := .fields fv }) (ha : findIn K (.ref C) name = some none)
    (hq : ∀ h' tk' dx, (∀ b o, b ≠ x → hp.get? b = some o → h'.get? b = some o) → hp.objs.size ≤ dx → dx ≠ x → h'.get? x = some { cls := .ref C, dict := some dx, data := .fields fv } →
      h'.Ns1 dx (fun y => if y = name then some v else none) → R (.ok (.ret .none)) ⟨h', g, d, tk', os⟩) :
    codeAny (model prog w) A (.call (.builtin "object.__setattr__") ⟨[.ref x, .str name tk, v], []⟩) R ⟨hp, g, d, t, os⟩ := by
  have I : PySem.W.InstAt hp x { cls := .ref C, data := .fields fv } C none := ⟨hx, rfl, rfl, trivial⟩
  refine PySem.W.osa_openX SF X I T.over (noTaker ha) fun b => ?_
  obtain ⟨cd, hcd, hdict⟩ := PySem.W.any_some (show (clsIn K C).any (·.hasDict) = true from T.hd)
  have hcls : PySem.W.Looks (model prog w) hp (classData C) cd := PySem.W.looks_clsIn X hcd
  have apart : x ≠ hp.objs.size := Nat.ne_of_lt (Heap.lt_size hx)
  obtain ⟨nm, bs, mro, ns, qn, hd, sn, sb, ab, col, del⟩ := cd
  have e : hd = true := hdict
  subst e
  show wpAny _ _ (storeInOwnDict (.ref x) (.ref C) (.str name tk) name v b) _ _ _
  unfold storeInOwnDict ownDictForStores
  repeat (first | with_reducible refine PySem.HandSPX.store_in_new ?_ ?_ | with_reducible refine wpAny_loadPart_at hx ?_ | with_reducible refine hcls.at ?_ | wp_step)
  · exact ⟨_, #[], _, (Heap.get?_update_ne _ _ _ _ apart.symm).trans (Heap.get?_push_at rfl rfl), rfl, fun e he => absurd he (by simp), fun _ => rfl⟩
  · intro h' tk' hn' hs
    have old : (hp.push { cls := .type "dict", data := .dict #[] }).get? x = some { cls := .ref C, data := .fields fv } := Heap.get?_push_of_some _ hx
    refine hq h' tk' hp.objs.size (fun b o hb ho => ?_) (Nat.le_refl _) apart.symm ?_ hn'
    · exact (hs.2 b (Nat.ne_of_lt (Heap.lt_size ho))).trans ((Heap.get?_update_ne _ _ _ _ hb).trans (Heap.get?_push_of_some _ ho))
    · exact (hs.2 x apart).trans (Heap.get?_update_self _ old rfl)
/-- a further one -/
theorem store_more {dx : Addr} {m0 : Str → Option Value} {nl : List Str} (SF : StoreFacts B bmB "object.__setattr__" "object") (T : XC K bmB newId C) (X : K.In hp) (hx : hp.get? x = some { cls := .ref C, dict := some dx, data := .fields fv })
    (hns : hp.Ns1 dx m0) (hw : Within m0 nl) (hz : nl.length ≤ 1000) (ha : findIn K (.ref C) name = some none)
    (hq : ∀ h' tk', (∀ b o, b ≠ dx → hp.get? b = some o → h'.get? b = some o) → h'.Ns1 dx (fun y => if y = name then some v else m0 y) → R (.ok (.ret .none)) ⟨h', g, d, tk', os⟩) :
    codeAny (model prog w) A (.call (.builtin "object.__setattr__") ⟨[.ref x, .str name tk, v], []⟩) R ⟨hp, g, d, t, os⟩ := by
  obtain ⟨oD, esD, epD, hoD, hdD, _⟩ := hns.count hw
  have I : PySem.W.InstAt hp x { cls := .ref C, dict := some dx, data := .fields fv } C (some oD) := ⟨hx, rfl, rfl, hoD⟩
  refine PySem.W.osa_openX SF X I T.over (noTaker ha) fun b => ?_
  obtain ⟨cd, hcd, hdict⟩ := PySem.W.any_some (show (clsIn K C).any (·.hasDict) = true from T.hd)
  have hcls : PySem.W.Looks (model prog w) hp (classData C) cd := PySem.W.looks_clsIn X hcd
  obtain ⟨nm, bs, mro, ns, qn, hd, sn, sb, ab, col, del⟩ := cd
  have e : hd = true := hdict
  subst e
  show wpAny _ _ (storeInOwnDict (.ref x) (.ref C) (.str name tk) name v b) _ _ _
  unfold storeInOwnDict ownDictForStores
  repeat (first | with_reducible refine PySem.OEX.store_in_old hns hw hz ?_ | with_reducible refine wpAny_loadPart_at hx ?_ | with_reducible refine hcls.at ?_ | wp_step)
  intro h' tk' hn' hs
  exact hq h' tk' (fun b o hb ho => (hs.2 b hb).trans ho) hn'
end

/-! ### isinstance of an exception -/
section
variable {prog : Program} {w : World} {A : Around} {E : Value → Shared → Prop} {s : Shared} {K : Frag} {x D : Addr} {ox : Obj} {od : Option Obj} {bmB : List Value} {newId : String}
theorem findObj_dataA {C : Addr} {name : Str} {a g : Value} (hc : (clsIn K C).isSome = true) (ha : findIn K (.ref C) name = some (some a)) (hg : specialIn K a "__get__" = some (some g)) (ht : takesIn K a = some true) :
    PySem.W.findObj K C od name = some (.bind g a) := by
  obtain ⟨cd, hc⟩ := Option.isSome_iff_exists.mp hc
  unfold PySem.W.findObj
  rw [hc, Option.bind_some, ha, Option.bind_some]
  simp [hg, ht]
theorem askClass {Q : Option Value → Shared → Prop} (T : XC K bmB newId D) (G : XG K) (X : K.In s.heap) (I : PySem.W.InstAt s.heap x ox D od) (h : Q (some (.ref D)) { s with toks := s.toks + 1 }) :
    wpAny (model prog w) A (getAttr? (.ref x) "__class__") Q E s := by
  have found : PySem.W.findObj K D od "__class__" = some (.bind (.builtin "getset_descriptor.__get__") (.builtin "object.__class__")) := by
    refine findObj_dataA ?_ T.cc G.gt G.tk
    obtain ⟨cd, hc, _⟩ := PySem.W.any_some (show (clsIn K D).any (·.hasDict) = true from T.hd)
    rw [hc]
    rfl
  obtain ⟨hp, g, d, t, os⟩ := s
  have LT := I.type (M := model prog w)
  have LA := PySem.W.looks_findIn (M := model prog w) X T.ga
  have LG := PySem.W.looks_findIn (M := model prog w) X T.gg
  have LF := PySem.W.looks_find (M := model prog w) X I found
  have isExc : PySem.W.Looks (model prog w) hp (isInstance (.ref x) (.type "BaseException")) true := LT.andThen (PySem.W.looks_subIn X T.sb)
  have n2 : (Value.builtin "BaseException.__getattribute__" == Value.builtin "object.__getattribute__") = false := by decide +kernel
  have n1 : (onTheHeap (Value.ref D) && Value.builtin "BaseException.__getattribute__" == Value.builtin "object.__getattribute__") = false := by rw [n2]; rfl
  have n0 : (false && onTheHeap (Value.builtin "BaseException.__getattribute__")) = false := rfl
  unfold getAttr? getAttrBy? getAttrBy
  refine wpAny_bind (wpAny_mkText (wpAny_bind (wpAny_attempt (wpAny_holding (wpAny_bind (LT.at (wpAny_bind (LA.at ?_))))))))
  show wpAny _ _ (if (onTheHeap (Value.ref D) && Value.builtin "BaseException.__getattribute__" == Value.builtin "object.__getattribute__") = true then _ else _) _ _ _
  rw [n1, if_neg Bool.false_ne_true]
  unfold getAttrByItsOwn hookBefore
  refine wpAny_bind ?_
  rw [if_pos (show onTheHeap (Value.ref D) = true from rfl)]
  refine LG.at (wpAny_bind (wpAny_attempt (wpAny_holding ?_)))
  unfold callGetattribute
  rw [n0, if_neg Bool.false_ne_true]
  unfold boundAndCalled
  rw [PySem.F.excAttr_ValueError.ga.bind (.ref x)]
  refine wpAny_bind (wpAny_pure ?_)
  show wpAny _ _ (call (.builtin "BaseException.__getattribute__") [.ref x, .str "__class__" t]) _ _ _
  refine wpAny_call (codeAny_call_builtin PySem.F.excAttr_ValueError.ga.plain PySem.F.entry_bexc_ga ?_)
  refine @PySem.W.check_slot (model prog w) _ _ ⟨hp, g, d, t + 1, os⟩ "BaseException.__getattribute__" "BaseException" "__getattribute__" (.ref x) [.str "__class__" t] [] _
    (by decide +kernel) (by decide +kernel) isExc (PySem.F.args_bexc_ga (.ref x) (.str "__class__" t)) ?_
  unfold Builtin.«object.__getattribute__»
  refine wpAny_bind (wpAny_of_eq (a := ((Value.ref x : Value), [Value.str "__class__" t])) (by first | rfl | (simp only [slotArgs]; rfl)) ?_)
  refine wpAny_bind (wpAny_pure (wpAny_bind (LT.at (wpAny_bind (LF.at ?_)))))
  show wpAny _ _ (holding [Value.builtin "object.__class__"] (call (.builtin "getset_descriptor.__get__") [.builtin "object.__class__", .ref x, .ref D]) >>= ret) _ _ _
  refine wpAny_bind (wpAny_holding (wpAny_call (PySem.W.class_get (s := ⟨hp, g, d, t + 1, os⟩) (ox := ox) (od := od) X I T.mo ?_)))
  refine wpAny_pure ?_
  show wpAny _ _ (handedOut (.ref D)) _ _ _
  rw [PySem.W.handedOut_of (v := .ref D) rfl]
  first
    | exact wpAny_pure (wpAny_pure h)
    | exact wpAny_pure h
    | exact wpAny_pure (wpAny_bind (wpAny_pure (wpAny_pure h)))
theorem kitX (T : XC K bmB newId D) (G : XG K) : PySem.W.KitX K (.ref x) (.ref D) (fun h => ∃ ox od, PySem.W.InstAt h x ox D od) where
  ty := fun _ _ _ ⟨_, _, I⟩ => I.type
  it := fun _ _ X _ => by
    obtain ⟨cd, hcD, _⟩ := PySem.W.any_some (show (clsIn K D).any (·.hasDict) = true from T.hd)
    unfold clsIn at hcD
    split at hcD
    · rename_i c' d' cd' sl' ho
      intro A' Q' E' s' k q
      unfold isType loadHead
      exact wpAny_bind (wpAny_loadPart (k _ _ (X _ _ ho)) (wpAny_pure q))
    · cases hcD
  ne := fun h tp dd its n sl X htp => by
    obtain ⟨cd, hcD, _⟩ := PySem.W.any_some (show (clsIn K D).any (·.hasDict) = true from T.hd)
    refine Bool.eq_false_iff.mpr fun q => ?_
    have e : D = tp := Value.ref.inj (beq_iff_eq.mp q)
    subst e
    unfold clsIn at hcD
    split at hcD
    · rename_i c' d' cd' sl' ho
      have z := (X _ _ ho).symm.trans htp
      cases z
    · cases hcD
  ca := fun X ⟨_, _, I⟩ k => askClass T G X I k
end

/-! ### the abstract heap -/
/-- at e: an exception of the class at C, with its attributes (newest first), d its dict if it has one -/
def Exc (H : Hp) (e C : Addr) (fs : List (Str × V)) : Prop := (fs = [] ∧ H e = some (exo e C none)) ∨ ∃ d, H e = some (exo e C (some d)) ∧ H d = some (exd d fs)
theorem Exc.same {H H' : Hp} {e C : Addr} {fs : List (Str × V)} (s : Same H H') (h : Exc H e C fs) : Exc H' e C fs := by
  rcases h with ⟨h1, h2⟩ | ⟨d, h1, h2⟩
  · exact .inl ⟨h1, s _ _ h2⟩
  · exact .inr ⟨d, s _ _ h1, s _ _ h2⟩
section
variable {X : Cx} {pins : List (Addr × Obj)} {σ : L2.St} {H : Hp} {s : Shared} {bmB : List Value} {newId : String}
theorem exc_inst {e C : Addr} {fs : List (Str × V)} (I : Inv X pins σ H s) (h : Exc H e C fs) : ∃ ox od, PySem.W.InstAt s.heap e ox C od := by
  rcases h with ⟨_, h⟩ | ⟨d, h1, h2⟩
  · obtain ⟨t1, ho⟩ := exo_at I.hok h
    exact ⟨_, none, ho, rfl, rfl, trivial⟩
  · obtain ⟨t1, ho⟩ := exo_at I.hok h1
    obtain ⟨mA, hn, r⟩ := exd_at I.hok h2
    obtain ⟨od, hd, _⟩ := lookIn_ns hn
    exact ⟨_, some od, ho, rfl, rfl, hd⟩
/-- isinstance(e, c), e an exception of the class at D -/
def rIsX (K : Frag) : List V → Hp → VK → Prop := fun xs H Q => ∃ (e D : Addr) (fs : List (Str × V)) (c : V) (u : Value) (b : Bool) (bmB : List Value) (newId : String), xs = [.ref e, c] ∧ ClsV c u ∧ Exc H e D fs ∧ XC K bmB newId D ∧ XG K ∧
  kitOne K (.ref D) u = some b ∧ Q (.bl b) H
theorem call_isX : CallR X (.builtin "isinstance") (rIsX X.K) := by
  intro pins s σ H xs us Q I r h
  obtain ⟨e, D, fs, c, u, b, bm, nw, rfl, k, hx, T, G, hk, q⟩ := h
  obtain ⟨u1, u2, rfl, r1, r2⟩ := vals2 r
  obtain rfl : u1 = Value.ref e := r1
  have e2 := k.eq r2
  subst e2
  exact PySem.W.kia_one (kitX T G) I.kIn (exc_inst I hx) hk (fun z => nomatch z) fun tk => ⟨.bl b, H, I.tok tk, rfl, q⟩
/-- e.f, e an exception with this attribute -/
def tXfld (K : Frag) (f : Str) (te : TE) : TE := fun σ H Q => te σ H fun x H1 => ∃ (e D : Addr) (fs : List (Str × V)) (v : V) (bmB : List Value) (newId : String), x = .ref e ∧ Exc H1 e D fs ∧ fs.lookup f = some v ∧ XC K bmB newId D ∧ findIn K (.ref D) f = some none ∧ Q v H1
theorem pe_xfld {a : Expr} {te : TE} {f : Str} {pos : Pos} (ha : PE X a te) (hb : attributeBase a f X.env (eval a X.env) = eval a X.env := by rfl) : PE X (.Attribute a f pos) (tXfld X.K f te) := by
  refine ⟨fun pins s σ H Q I h => ?_⟩
  refine attr_of hb (thn (ha.run pins s σ H _ I h) fun u s1 ⟨x, H1, I1, rx, e, D, fs, v, bm, nw, ex, hx, hl, T, hn, q⟩ => ?_)
  subst ex
  obtain rfl : u = Value.ref e := rx
  rcases hx with ⟨rfl, _⟩ | ⟨d, h1, h2⟩
  · cases hl
  · obtain ⟨t1, ho⟩ := exo_at I1.hok h1
    obtain ⟨mA, hns, hr⟩ := exd_at I1.hok h2
    obtain ⟨od, hd, look⟩ := lookIn_ns hns
    obtain ⟨y, hy, ry⟩ := RelO.some_of (v := v) (o := mA f) (by rw [← hl]; exact hr f)
    have J : PySem.W.InstAt s1.heap e _ D (some od) := ⟨ho, rfl, rfl, hd⟩
    exact HandSPX.exc_get I1.kIn J T.ga T.gg T.sb (PySem.W.findObj_own T.hd hn rfl (by rw [look, hy])) (handed_of ry) ⟨v, H1, I1.tok _, ry, q⟩
end

/-! ### made, stored into -/
section
variable {X : Cx} {p pos : Pos} {x : Str} {C : Addr} {B newId initId : String} {bmB : List Value}
/-- X(), an exception class without an own __init__ -/
def tExc0 (C : Addr) : TE := fun _ H Q => ∀ a, H a = none → Q (.ref a) (upd H a (exo a C none))
theorem pe_exc0 (F : ExcBaseFacts B newId initId bmB) (q : PySem.W.excIn X.K C bmB newId = true) (gC : X.mg x = some (.ref C)) (kC : keepIn X.K (.ref C) = true) (hg : Gl X x) (hdb : (x == ("__debug__" : Str)) = false := by decide) :
    PE X (.Call (.Name x p) [] [] pos) (tExc0 C) := by
  refine ⟨fun pins s σ H Q I h => wpAny_Call_Name_kw (ld_glob I hg gC ?_ hdb)⟩
  refine PySem.W.callWith_K0 I.kIn kC ?_
  show wpAny _ _ (call (.ref C) []) _ _ _
  obtain ⟨bm, N, nm, qn, bs, hdct, sn, sub, ab, col, dd, k0, k1, k2, k3, k5, mN, hC, hN, hni, T⟩ := exc_obj I.kIn q
  refine wpAny_call_exc_subT F T hC hN hni (fun h' a hm => ?_) (by show 0 ≤ sizeLine; exact Nat.zero_le _)
  have hn : H a = none := I.hok.gone hm.new
  obtain ⟨t, ht, _, _⟩ := hm.there
  exact ⟨.ref a, upd H a (exo a C none), I.laidN hm.keeps hm.new hn (exo_ok ht), rfl, h a hn⟩
/-- X(e, ..), its own __init__ keeping sp -/
def tMkX (C : Addr) (sp : Sp) (ta : TA) : TE := fun σ H Q => ta σ H fun vs H1 => vs.length ≤ 1000 ∧ ∀ a, H1 a = none → sp (.ref a :: vs) (upd H1 a (exo a C none)) (fun v H2 => v = .non ∧ Q (.ref a) H2) E0
theorem pe_excI {CX : CXT} {fI : Addr} {k : Nat} {fd : FuncData} {ps : List Str} {sp : Sp} {e : Expr} {es : List Expr} {ta : TA} (F : ExcBaseFacts B newId initId bmB) (T : XC X.K bmB newId C) (iC : findIn X.K (.ref C) "__init__" = some (some (.ref fI)))
    (tI : typeIn X.K (.ref fI) = some (.type "function")) (F1 : FnOk X.prog X.w X.K X.mg X.base CX k fI fd ps sp) (hr : Room (k + 1) X.A) (hb : Binds X.K fd ps []) (hx : Passes CX X E0) (hg : Gl X x) (hm : X.mg x = some (.ref C)) (ha : PA X (e :: es) ta)
    (hdb : (x == ("__debug__" : Str)) = false := by decide) (he : starEach (e :: es) X.env = (false, eval e X.env) :: starEach es X.env := by rfl) (hpl : (backTo pos (starEach es X.env)).any (·.1) = false := by rfl) :
    PE X (.Call (.Name x p) (e :: es) [] pos) (tMkX C sp ta) := by
  refine ⟨fun pins s σ H Q I h => wpAny_Call_Name_kw (ld_glob I hg hm ?_ hdb)⟩
  refine PySem.W.callWith_K (h₀ := X.base) I.ok.mod.kin T.kp (thn (ha.run pos pins s σ H _ I h) ?_) he hpl
  rintro us s1 ⟨vs, H1, I1, r1, hz, q1⟩
  refine ⟨I1.kIn, ?_⟩
  show wpAny _ _ (call (.ref C) us) _ _ _
  obtain ⟨nm, N', qn, bs, bm, hdct, sn, sub, ab, col, dd, k0, k1, k2, k3, k5, hC, hT⟩ := PySem.W.excInit_of I1.kIn T.ini
  obtain ⟨hp, g, dr, tk, os⟩ := s1
  have big : hp.objs.size ≤ hp.objs.size + 1 := Nat.le_succ _
  have fresh : H1 (hp.objs.size + 1) = none := I1.hok.fresh big
  have hq := q1 (hp.objs.size + 1) fresh
  have kept : ∀ b o, hp.get? b = some o → ((hp.push (PySem.W.kdv_tup us)).push (HandSPX.excO C hp.objs.size)).get? b = some o := fun b o e => Heap.get?_push_of_some _ (Heap.get?_push_of_some _ e)
  have there : ((hp.push (PySem.W.kdv_tup us)).push (HandSPX.excO C hp.objs.size)).get? (hp.objs.size + 1) = some (HandSPX.excO C hp.objs.size) := by heap_get
  have I2 : Inv X pins σ (upd H1 (hp.objs.size + 1) (exo (hp.objs.size + 1) C none)) ⟨(hp.push (PySem.W.kdv_tup us)).push (HandSPX.excO C hp.objs.size), g, dr, tk, os⟩ :=
    I1.laid (t' := tk) (a := hp.objs.size + 1) (o := exo (hp.objs.size + 1) C none) (h' := (hp.push (PySem.W.kdv_tup us)).push (HandSPX.excO C hp.objs.size)) kept big (exo_ok there)
  have r2 : Vals (V.ref (hp.objs.size + 1) :: vs) (Value.ref (hp.objs.size + 1) :: us) := .cons rfl r1
  have hl : (Value.ref (hp.objs.size + 1) :: us ++ []).length = ps.length := by
    rw [List.append_nil, ← r2.length]
    exact F1.len _ _ _ _ hq
  have hus : us.length ≤ sizeLine := by
    rw [← Paired.length r1, sizeLine_eq]
    omega
  have hb' := hb ⟨(hp.push (PySem.W.kdv_tup us)).push (HandSPX.excO C hp.objs.size), g, dr, tk, os⟩ (Value.ref (hp.objs.size + 1) :: us) I2.kIn hl
  rw [List.append_nil] at hb'
  refine wpAny_call (HandSPX.call_own F hT hC (PySem.W.looks_findIn I1.kIn iC) (fun self => PySem.W.bind_fn I1.kIn self tI) hus
    (codeAny_mono (F1.run _ X.stack _ _ ⟨Value.ref (hp.objs.size + 1) :: us, []⟩ (Value.ref (hp.objs.size + 1) :: us) _ _ E0 (hr.make C us []) (I2.env0.make C us []) hb' r2 hq) fun r s' hq' => ?_))
  match r, hq' with
  | .error er, hq' => exact hx pins σ _ _ er s' I2 hq'
  | .ok (.ret u), hq' =>
    obtain ⟨v, H', I3, rv, ev, q3⟩ := I2.after hq'
    subst ev
    exact ⟨rv, ⟨V.ref (hp.objs.size + 1), H', I3, rfl, q3⟩⟩
  | .ok .next, hq' => exact False.elim hq'
  | .ok .brk, hq' => exact False.elim hq'
  | .ok .cont, hq' => exact False.elim hq'
end

section
variable {X : Cx} {pins : List (Addr × Obj)} {σ : L2.St} {H : Hp} {s : Shared} {a C dx : Addr} {f : Str} {y : V} {u : Value} {fs : List (Str × V)} {Q : Unit → Shared → Prop} {E : Value → Shared → Prop} {A : Around} {B newId : String} {bmB : List Value}
theorem put_first (SF : StoreFacts B bmB "object.__setattr__" "object") (T : XC X.K bmB newId C) (I : Inv X pins σ H s) (e : H a = some (exo a C none)) (hno : findIn X.K (.ref C) f = some none) (ry : RelV y u)
    (h : ∀ dx s', H dx = none → dx ≠ a → Inv X pins σ (upd (upd H dx (exd dx [(f, y)])) a (exo a C (some dx))) s' → Q () s') : wpAny (model X.prog X.w) A (setAttr (.ref a) f u) Q E s := by
  obtain ⟨t1, ho⟩ := exo_at I.hok e
  obtain ⟨hp, g, d, t, os⟩ := s
  refine PySem.W.set_plain I.kIn (ox := { cls := .ref C, dict := none, data := .fields #[.ref t1, .none, .none, .none, .bool false, .none] }) (od := none) ⟨ho, rfl, rfl, trivial⟩ T.sa ?_
  refine store_first SF T I.kIn ho hno (fun h' tk' dx k dn dne hx hn => ?_)
  have hnd : H dx = none := I.hok.fresh dn
  have nd : ∀ {b : Addr} {o : Obj}, hp.get? b = some o → b ≠ dx := fun {b o} q => Nat.ne_of_lt (Nat.lt_of_lt_of_le (Heap.lt_size q) dn)
  have na : ∀ {b : Addr}, H b = none → b ≠ a := fun {b} n z => by
    rw [z, e] at n
    cases n
  refine h dx _ hnd dne (I.un (t' := tk') ⟨fun b o q n _ _ => k b o (na n) q, fun b o q n _ _ => ⟨o.slots, k b o (na n) q⟩, fun b o q n _ => ?_, fun b o q _ => ?_, fun b xs q => ?_, fun b o v q => ?_, fun b ps q => ?_⟩ fun b o q => ?_)
  · rw [upd_ne (na n), upd_ne (nd q)]
    exact n
  · by_cases hb : b = a
    · exact ⟨_, by rw [hb]; exact hx⟩
    · exact ⟨o, k b o hb q⟩
  · rw [upd_ne (at_ne e q exo_tup), upd_ne (ne_of_none q hnd)]
    exact q
  · rw [upd_ne (at_ne e q exo_frz), upd_ne (ne_of_none q hnd)]
    exact q
  · refine ⟨#[], ?_⟩
    rw [upd_ne (at_ne e q exo_tbl), upd_ne (ne_of_none q hnd), q]
    simp
  · by_cases hb : b = a
    · rw [hb, upd_same] at q
      have eo := Option.some.inj q
      rw [hb, ← eo]
      exact exo_ok hx
    · rw [upd_ne hb] at q
      by_cases hd : b = dx
      · rw [hd, upd_same] at q
        have eo := Option.some.inj q
        rw [hd, ← eo]
        exact exd_ok hn (relO_put (fs := []) ry fun g => True.intro)
      · rw [upd_ne hd] at q
        refine (I.hok b o q).stay (fun c v hc z => k c v ?_ z) (fun c hc => ?_) fun c xs hc => ?_
        · rcases hc with hc | hc
          · rw [hc]
            exact hb
          · exact at_ne e hc exo_own
        · rw [upd_ne (at_ne e hc exo_own), upd_ne (ne_of_none hc hnd)]
          exact hc
        · rw [upd_ne (at_ne e hc exo_tup), upd_ne (ne_of_none hc hnd)]
          exact hc
theorem put_more (SF : StoreFacts B bmB "object.__setattr__" "object") (T : XC X.K bmB newId C) (I : Inv X pins σ H s) (e : H a = some (exo a C (some dx))) (ed : H dx = some (exd dx fs)) (hl : fs.length ≤ 900) (hno : findIn X.K (.ref C) f = some none)
    (ry : RelV y u) (h : ∀ s', Inv X pins σ (upd H dx (exd dx ((f, y) :: fs))) s' → Q () s') : wpAny (model X.prog X.w) A (setAttr (.ref a) f u) Q E s := by
  obtain ⟨t1, ho⟩ := exo_at I.hok e
  obtain ⟨mA, hns, rel⟩ := exd_at I.hok ed
  have hw := within_of rel
  obtain ⟨hp, g, d, t, os⟩ := s
  obtain ⟨oD, _, _, hoD, _, _⟩ := hns.count hw
  refine PySem.W.set_plain I.kIn (ox := { cls := .ref C, dict := some dx, data := .fields #[.ref t1, .none, .none, .none, .bool false, .none] }) (od := some oD) ⟨ho, rfl, rfl, hoD⟩ T.sa ?_
  refine store_more SF T I.kIn ho hns hw (by rw [List.length_map]; omega) hno (fun h' tk' k hn => ?_)
  obtain ⟨o, _, _, e', _⟩ := id hn
  exact h _ (I.write (t' := tk') (x := dx) (e := dx) (o := exd dx ((f, y) :: fs)) (by rw [ed]; exact True.intro) (.inl rfl) k ⟨o, e'⟩ (exd_ok hn (relO_put ry rel)))
/-- self.f = e in an exception's __init__ -/
def tPut (K : Frag) (f : Str) (to te : TE) : TS := fun D σ H => te σ H fun y H1 => to σ H1 fun x H2 => ∃ (a C : Addr) (B newId : String) (bmB : List Value), x = .ref a ∧ StoreFacts B bmB "object.__setattr__" "object" ∧ XC K bmB newId C ∧ findIn K (.ref C) f = some none ∧
  ((H2 a = some (exo a C none) ∧ ∀ dx, H2 dx = none → dx ≠ a → D.nx σ (upd (upd H2 dx (exd dx [(f, y)])) a (exo a C (some dx)))) ∨
    ∃ (dx : Addr) (fs : List (Str × V)), H2 a = some (exo a C (some dx)) ∧ H2 dx = some (exd dx fs) ∧ fs.length ≤ 900 ∧ D.nx σ (upd H2 dx (exd dx ((f, y) :: fs))))
theorem ps_put {o v : Expr} {to te : TE} {p' pos : Pos} (ho : PE X o to) (he : PE X v te) (hs : swapsWith v (some (.Attribute o f p')) pos.line X.env = pure false := by rfl) : PS X (.Assign [.Attribute o f p'] v pos) (tPut X.K f to te) := by
  refine ⟨fun pins s σ H D I h => plainObj_wpAny_Assign_Attribute (thn (he.run pins s σ H _ I h) ?_) hs⟩
  rintro v s1 ⟨y, H1, I1, r1, q1⟩
  refine thn (ho.run pins s1 σ H1 _ I1 q1) ?_
  rintro u s2 ⟨x, H2, I2, r2, a, C, B, nw, bm, ex, SF, T, hno, q⟩
  subst ex
  obtain rfl : u = Value.ref a := r2
  rcases q with ⟨ea, q⟩ | ⟨dx, fs, ea, ed, hl, q⟩
  · exact put_first SF T I2 ea hno r1 fun dx s' n ne J => ⟨σ, _, J, q dx n ne⟩
  · exact put_more SF T I2 ea ed hl hno r1 fun s' J => ⟨σ, _, J, q⟩
end
end Xv

/-! A calculus over plain data: what a def makes of data, its own lists and dicts changed by it alone. -/
namespace Dd
open PySem L2 Xv
abbrev Frag := PySem.W.Frag

/-- data: also instances and exceptions of own classes (their attributes in the heap's order), and things of the written part -/
inductive Dat where
  | non | bl (b : Bool) | int (i : Int) | str (x : Str)
  | lst (xs : List Dat) | tup (xs : List Dat) | dct (kvs : List (Key × Dat))
  | ins (C : Addr) (fs : List (Str × Dat)) | exc (C : Addr) (fs : List (Str × Dat))
  | glo (a : Addr) | ty (n : String)
  deriving Inhabited

mutual
/-- in the heap H the value v is this data -/
inductive Dh (K : Frag) (H : Hp) : V → Dat → Prop
  | non : Dh K H .non .non
  | bl (b : Bool) : Dh K H (.bl b) (.bl b)
  | int (i : Int) : Dh K H (.int i) (.int i)
  | str (x : Str) : Dh K H (.str x) (.str x)
  | ty (n : String) : Dh K H (.ty n) (.ty n)
  | glo (a : Addr) : Dh K H (.ref a) (.glo a)
  | lst {a : Addr} {vs : List V} {ds : List Dat} : Rd H a (.lst vs) → DhAll K H vs ds → Dh K H (.ref a) (.lst ds)
  | tup {a : Addr} {vs : List V} {ds : List Dat} : SqT K H a vs → DhAll K H vs ds → Dh K H (.ref a) (.tup ds)
  | dct {a : Addr} {kvs : List (Key × V)} {kds : List (Key × Dat)} : H a = some (.dK kvs) → DhKv K H kvs kds → Dh K H (.ref a) (.dct kds)
  | ins {a dx C : Addr} {fs : List (Str × V)} {fds : List (Str × Dat)} : H a = some (.ins C dx fs) → DhFs K H fs fds → Dh K H (.ref a) (.ins C fds)
  | exc {a C : Addr} {fs : List (Str × V)} {fds : List (Str × Dat)} : Exc H a C fs → DhFs K H fs fds → Dh K H (.ref a) (.exc C fds)
inductive DhAll (K : Frag) (H : Hp) : List V → List Dat → Prop
  | nil : DhAll K H [] []
  | cons {v : V} {vs : List V} {d : Dat} {ds : List Dat} : Dh K H v d → DhAll K H vs ds → DhAll K H (v :: vs) (d :: ds)
inductive DhKv (K : Frag) (H : Hp) : List (Key × V) → List (Key × Dat) → Prop
  | nil : DhKv K H [] []
  | cons {k : Key} {v : V} {vs : List (Key × V)} {d : Dat} {ds : List (Key × Dat)} : Dh K H v d → DhKv K H vs ds → DhKv K H ((k, v) :: vs) ((k, d) :: ds)
inductive DhFs (K : Frag) (H : Hp) : List (Str × V) → List (Str × Dat) → Prop
  | nil : DhFs K H [] []
  | cons {k : Str} {v : V} {vs : List (Str × V)} {d : Dat} {ds : List (Str × Dat)} : Dh K H v d → DhFs K H vs ds → DhFs K H ((k, v) :: vs) ((k, d) :: ds)
end

theorem rd_same {H H' : Hp} {a : Addr} {u : HO} (e : Same H H') (h : Rd H a u) : Rd H' a u := by
  rcases h with h | ⟨o, h⟩
  · exact .inl (e _ _ h)
  · exact .inr ⟨o, e _ _ h⟩
theorem sqT_same {K : Frag} {H H' : Hp} {a : Addr} {xs : List V} (e : Same H H') (h : SqT K H a xs) : SqT K H' a xs := by
  rcases h with (h | ⟨o, h⟩) | h
  · exact .inl (.inl (e _ _ h))
  · exact .inl (.inr ⟨o, e _ _ h⟩)
  · exact .inr h
section
variable {K : Frag} {H H' : Hp}
mutual
theorem Dh.same (e : Same H H') : ∀ {v : V} {d : Dat}, Dh K H v d → Dh K H' v d
  | _, _, .non => .non
  | _, _, .bl b => .bl b
  | _, _, .int i => .int i
  | _, _, .str x => .str x
  | _, _, .ty n => .ty n
  | _, _, .glo a => .glo a
  | _, _, .lst h1 h2 => .lst (rd_same e h1) (h2.same e)
  | _, _, .tup h1 h2 => .tup (sqT_same e h1) (h2.same e)
  | _, _, .dct h1 h2 => .dct (e _ _ h1) (h2.same e)
  | _, _, .ins h1 h2 => .ins (e _ _ h1) (h2.same e)
  | _, _, .exc h1 h2 => .exc (h1.same e) (h2.same e)
theorem DhAll.same (e : Same H H') : ∀ {vs : List V} {ds : List Dat}, DhAll K H vs ds → DhAll K H' vs ds
  | _, _, .nil => .nil
  | _, _, .cons h1 h2 => .cons (h1.same e) (h2.same e)
theorem DhKv.same (e : Same H H') : ∀ {vs : List (Key × V)} {ds : List (Key × Dat)}, DhKv K H vs ds → DhKv K H' vs ds
  | _, _, .nil => .nil
  | _, _, .cons h1 h2 => .cons (h1.same e) (h2.same e)
theorem DhFs.same (e : Same H H') : ∀ {vs : List (Str × V)} {ds : List (Str × Dat)}, DhFs K H vs ds → DhFs K H' vs ds
  | _, _, .nil => .nil
  | _, _, .cons h1 h2 => .cons (h1.same e) (h2.same e)
end
theorem DhAll.length : ∀ {vs : List V} {ds : List Dat}, DhAll K H vs ds → vs.length = ds.length
  | _, _, .nil => rfl
  | _, _, .cons _ h => by rw [List.length_cons, List.length_cons, h.length]
theorem DhAll.get : ∀ {vs : List V} {ds : List Dat} {i : Nat} {d : Dat}, DhAll K H vs ds → ds[i]? = some d → ∃ v, vs[i]? = some v ∧ Dh K H v d
  | _, _, _, _, .nil, e => by simp at e
  | _, _, 0, _, .cons h _, e => by simp at e; subst e; exact ⟨_, rfl, h⟩
  | _, _, i + 1, d, .cons _ h, e => by
    obtain ⟨v, h1, h2⟩ := DhAll.get (i := i) (d := d) h (by simpa using e)
    exact ⟨v, by simpa using h1, h2⟩
theorem DhAll.getV : ∀ {vs : List V} {ds : List Dat} {i : Nat} {v : V}, DhAll K H vs ds → vs[i]? = some v → ∃ d, ds[i]? = some d ∧ Dh K H v d
  | _, _, _, _, .nil, e => by simp at e
  | _, _, 0, _, .cons h _, e => by simp at e; subst e; exact ⟨_, rfl, h⟩
  | _, _, i + 1, d, .cons _ h, e => by
    obtain ⟨v, h1, h2⟩ := DhAll.getV (i := i) (v := d) h (by simpa using e)
    exact ⟨v, by simpa using h1, h2⟩
theorem DhAll.append : ∀ {vs ws : List V} {ds es : List Dat}, DhAll K H vs ds → DhAll K H ws es → DhAll K H (vs ++ ws) (ds ++ es)
  | _, _, _, _, .nil, h => h
  | _, _, _, _, .cons a b, h => .cons a (b.append h)
theorem DhFs.lookup : ∀ {fs : List (Str × V)} {ds : List (Str × Dat)} {f : Str} {d : Dat}, DhFs K H fs ds → ds.lookup f = some d → ∃ v, fs.lookup f = some v ∧ Dh K H v d
  | _, _, _, _, .nil, e => by cases e
  | _, _, f, d, .cons (k := k) (v := v) h r, e => by
    rw [List.lookup_cons] at e ⊢
    split at e
    · cases e
      exact ⟨_, rfl, h⟩
    · exact r.lookup e
end

/-! ### data that Python's == and repr reach: plain data -/
mutual
def Dat.py : Dat → Option PyData
  | .non => some .none
  | .bl b => some (.bool b)
  | .int i => some (.int i)
  | .str x => some (.str x)
  | .lst xs => (pyAll xs).map .list
  | .tup xs => (pyAll xs).map .tuple
  | _ => none
def pyAll : List Dat → Option (List PyData)
  | [] => some []
  | x :: xs => (x.py).bind fun p => (pyAll xs).map fun ps => p :: ps
end
section
variable {K : Frag} {H : Hp}
mutual
theorem Dh.dp : ∀ {v : V} {d : Dat} {p : PyData}, Dh K H v d → d.py = some p → Dp K H v p
  | _, _, _, .non, e => by simp only [Dat.py, Option.some.injEq] at e; subst e; exact .non
  | _, _, _, .bl b, e => by simp only [Dat.py, Option.some.injEq] at e; subst e; exact .bl b
  | _, _, _, .int i, e => by simp only [Dat.py, Option.some.injEq] at e; subst e; exact .int i
  | _, _, _, .str x, e => by simp only [Dat.py, Option.some.injEq] at e; subst e; exact .str x
  | _, _, _, .ty n, e => by simp [Dat.py] at e
  | _, _, _, .glo a, e => by simp [Dat.py] at e
  | _, _, _, .lst h1 h2, e => by
    simp only [Dat.py, Option.map_eq_some_iff] at e
    obtain ⟨ps, e1, rfl⟩ := e
    exact .lst (.inl h1) (h2.dp e1)
  | _, _, _, .tup h1 h2, e => by
    simp only [Dat.py, Option.map_eq_some_iff] at e
    obtain ⟨ps, e1, rfl⟩ := e
    exact .tup h1 (h2.dp e1)
  | _, _, _, .dct _ _, e => by simp [Dat.py] at e
  | _, _, _, .ins _ _, e => by simp [Dat.py] at e
  | _, _, _, .exc _ _, e => by simp [Dat.py] at e
theorem DhAll.dp : ∀ {vs : List V} {ds : List Dat} {ps : List PyData}, DhAll K H vs ds → pyAll ds = some ps → DpAll K H vs ps
  | _, _, _, .nil, e => by simp only [pyAll, Option.some.injEq] at e; subst e; exact .nil
  | _, _, _, .cons h1 h2, e => by
    simp only [pyAll, Option.bind_eq_some_iff, Option.map_eq_some_iff] at e
    obtain ⟨p, e1, ps, e2, rfl⟩ := e
    exact .cons (h1.dp e1) (h2.dp e2)
end
end

/-! ### what a def's names hold -/
/-- a name: nothing that matters; data; a list, a dict of the def's own, to be changed by it alone; the law's pen -/
inductive En where
  | no | dat (d : Dat) | own (ds : List Dat) | ownD (kds : List (Key × Dat)) | pen (cs : List Int) (i r : Int)
  deriving Inhabited
/-- the pen at p: cells, how many were taken, what is left -/
def Pen (H G : Hp) (p : Addr) (cs : List Int) (i r : Int) : Prop := ∃ l : Addr, H p = some (.lst [.ref l, .int i, .int r]) ∧ G l = some (.lst (cs.map V.int)) ∧ 0 ≤ i ∧ cs.length ≤ 60
/-- no pen stands there -/
def NoPen (e : Option En) : Prop := ∀ cs i r, e ≠ some (.pen cs i r)
def EnOk (K : Frag) (H G : Hp) (v : Option V) (o : Option Addr) : En → Prop
  | .no => o = none
  | .dat d => o = none ∧ ∃ x, v = some x ∧ Dh K G x d
  | .own ds => ∃ (l : Addr) (vs : List V), o = some l ∧ v = some (.ref l) ∧ H l = some (.lst vs) ∧ DhAll K G vs ds
  | .ownD kds => ∃ (l : Addr) (kvs : List (Key × V)), o = some l ∧ v = some (.ref l) ∧ H l = some (.dK kvs) ∧ DhKv K G kvs kds
  | .pen cs i r => ∃ p : Addr, o = some p ∧ v = some (.ref p) ∧ Pen H G p cs i r

/-- He, Ge: the heap at the entry, and the part of it that data may reach; H, G: now; pn: the pen that was handed in; ow: what the names own -/
structure Rs (K : Frag) (He Ge : Hp) (pn : Option Addr) (σ : L2.St) (H G : Hp) (ow : List (Option Addr)) (E : List En) : Prop where
  sub : Same G H
  kept : ∀ b o, pn ≠ some b → He b = some o → H b = some o
  grew : Same Ge G
  new : ∀ a o, G a = some o → Ge a = some o ∨ He a = none
  lenS : σ.length = E.length
  lenO : ow.length = E.length
  ok : ∀ (i : Nat) (e : En), E[i]? = some e → EnOk K H G (σ[i]?.join) (ow[i]?.join) e
  own : ∀ (i : Nat) (l : Addr), ow[i]? = some (some l) → G l = none ∧ (He l = none ∨ pn = some l)
  nd : ∀ (i j : Nat) (l : Addr), ow[i]? = some (some l) → ow[j]? = some (some l) → i = j
  pen : ∀ q, pn = some q → ∃ (i : Nat) (cs : List Int) (a b : Int), i = 0 ∧ ow[i]? = some (some q) ∧ E[i]? = some (En.pen cs a b)

/-- an expression: what it gives, and what the names hold then -/
def Ed (K : Frag) (te : TE) (E : List En) (P : Dat → List En → Prop) : Prop :=
  ∀ (He Ge : Hp) (pn : Option Addr) (σ : L2.St) (H G : Hp) (ow : List (Option Addr)) (Q : VK), Rs K He Ge pn σ H G ow E →
    (∀ v H' G' ow' d E', Rs K He Ge pn σ H' G' ow' E' → Same G G' → Dh K G' v d → P d E' → Q v H') → te σ H Q
def EdA (K : Frag) (ta : TA) (E : List En) (P : List Dat → List En → Prop) : Prop :=
  ∀ (He Ge : Hp) (pn : Option Addr) (σ : L2.St) (H G : Hp) (ow : List (Option Addr)) (Q : List V → Hp → Prop), Rs K He Ge pn σ H G ow E →
    (∀ vs H' G' ow' ds E', Rs K He Ge pn σ H' G' ow' E' → Same G G' → DhAll K G' vs ds → P ds E' → Q vs H') → ta σ H Q
def EdT (K : Frag) (tt : TT) (E : List En) (P : Bool → List En → Prop) : Prop :=
  ∀ (He Ge : Hp) (pn : Option Addr) (σ : L2.St) (H G : Hp) (ow : List (Option Addr)) (Q : Bool → Hp → Prop), Rs K He Ge pn σ H G ow E →
    (∀ b H' G' ow' E', Rs K He Ge pn σ H' G' ow' E' → Same G G' → P b E' → Q b H') → tt σ H Q

section
variable {K : Frag} {He Ge : Hp} {pn : Option Addr} {σ : L2.St} {H G : Hp} {ow : List (Option Addr)} {E : List En}
theorem Rs.free (R : Rs K He Ge pn σ H G ow E) {p : Addr} (h : H p = none) : G p = none := by
  cases e : G p with
  | none => rfl
  | some o =>
    rw [R.sub p o e] at h
    cases h
theorem EnOk.there {v : Option V} {o : Option Addr} {e : En} {l : Addr} (h : EnOk K H G v o e) (ho : o = some l) : ∃ u, H l = some u := by
  subst ho
  cases e with
  | no => cases h
  | dat d => cases h.1
  | own ds => obtain ⟨l', vs, q, _, h1, _⟩ := h; cases q; exact ⟨_, h1⟩
  | ownD ds => obtain ⟨l', vs, q, _, h1, _⟩ := h; cases q; exact ⟨_, h1⟩
  | pen cs i r => obtain ⟨p, q, _, l', h1, _⟩ := h; cases q; exact ⟨_, h1⟩
theorem join_some {α : Type} {l : List (Option α)} {i : Nat} {a : α} (h : l[i]? = some (some a)) : l[i]?.join = some a := by rw [h]; rfl
theorem Rs.there (R : Rs K He Ge pn σ H G ow E) {i : Nat} {l : Addr} (h : ow[i]? = some (some l)) : ∃ u, H l = some u := by
  have hi : i < E.length := by
    rw [← R.lenO]
    exact (List.getElem?_eq_some_iff.mp h).1
  exact (R.ok i _ (List.getElem?_eq_getElem hi)).there (join_some h)
theorem Rs.freeE (R : Rs K He Ge pn σ H G ow E) {p : Addr} (h : H p = none) : He p = none := by
  cases e : He p with
  | none => rfl
  | some o =>
    by_cases q : pn = some p
    · obtain ⟨i, _, _, _, _, h1, _⟩ := R.pen p q
      obtain ⟨u, hu⟩ := R.there h1
      rw [h] at hu
      cases hu
    · rw [R.kept p o q e] at h
      cases h
/-- both heaps grow by what is not theirs -/
theorem EnOk.grow {H' G' : Hp} (hs : Same G G') {v : Option V} {o : Option Addr} (hh : ∀ l u, o = some l → H l = some u → H' l = some u) {e : En} (h : EnOk K H G v o e) : EnOk K H' G' v o e := by
  cases e with
  | no => exact h
  | dat d =>
    obtain ⟨q, x, h1, h2⟩ := h
    exact ⟨q, x, h1, h2.same hs⟩
  | own ds =>
    obtain ⟨l, vs, q, h1, h2, h3⟩ := h
    exact ⟨l, vs, q, h1, hh _ _ q h2, h3.same hs⟩
  | ownD ds =>
    obtain ⟨l, vs, q, h1, h2, h3⟩ := h
    exact ⟨l, vs, q, h1, hh _ _ q h2, h3.same hs⟩
  | pen cs i r =>
    obtain ⟨p, q, h1, l, h2, h3, h4⟩ := h
    exact ⟨p, q, h1, l, hh _ _ q h2, hs _ _ h3, h4⟩
/-- a new object that data may reach -/
theorem Rs.alloc (R : Rs K He Ge pn σ H G ow E) {p : Addr} (o : HO) (h : H p = none) : Rs K He Ge pn σ (upd H p o) (upd G p o) ow E ∧ Same G (upd G p o) := by
  have gp := R.free h
  have sg : Same G (upd G p o) := fun b u e => by
    rw [upd_ne (ne_of_none e gp)]
    exact e
  have ne : ∀ {i : Nat} {l : Addr}, ow[i]? = some (some l) → l ≠ p := fun {i l} q z => by
    obtain ⟨u, hu⟩ := R.there q
    rw [z, h] at hu
    cases hu
  refine ⟨⟨fun b u e => ?_, fun b u n e => ?_, fun b u e => sg _ _ (R.grew _ _ e), fun b u e => ?_, R.lenS, R.lenO, fun i e q => (R.ok i e q).grow sg fun l u z hu => ?_, fun i l q => ?_, R.nd, R.pen⟩, sg⟩
  · by_cases hb : b = p
    · rw [hb, upd_same] at e ⊢
      exact e
    · rw [upd_ne hb] at e ⊢
      exact R.sub _ _ e
  · have k := R.kept b u n e
    rw [upd_ne (ne_of_none k h)]
    exact k
  · by_cases hb : b = p
    · rw [hb]
      exact .inr (R.freeE h)
    · rw [upd_ne hb] at e
      exact R.new _ _ e
  · rw [upd_ne (ne_of_none hu h)]
    exact hu
  · rw [upd_ne (ne q)]
    exact R.own i l q
/-- a new object of a name's own, or one that is held for a while: data does not reach it -/
theorem Rs.allocO (R : Rs K He Ge pn σ H G ow E) {p : Addr} (o : HO) (h : H p = none) : Rs K He Ge pn σ (upd H p o) G ow E := by
  refine ⟨fun b u e => ?_, fun b u n e => ?_, R.grew, R.new, R.lenS, R.lenO, fun i e q => (R.ok i e q).grow (Same.refl G) fun l u z hu => ?_, R.own, R.nd, R.pen⟩
  · have k := R.sub b u e
    rw [upd_ne (ne_of_none k h)]
    exact k
  · have k := R.kept b u n e
    rw [upd_ne (ne_of_none k h)]
    exact k
  · rw [upd_ne (ne_of_none hu h)]
    exact hu
/-- a name is given another value: nothing that matters, or data -/
theorem Rs.put (R : Rs K He Ge pn σ H G ow E) {i : Nat} {x : V} {e : En} (hi : i < E.length) (hp : NoPen E[i]?) (he : EnOk K H G (some x) none e) : Rs K He Ge pn (σ.set i (some x)) H G (ow.set i none) (E.set i e) := by
  refine ⟨R.sub, R.kept, R.grew, R.new, by simpa using R.lenS, by simpa using R.lenO, fun j f q => ?_, fun j l q => ?_, fun j k l q1 q2 => ?_, fun q hq => ?_⟩
  · by_cases hj : i = j
    · subst hj
      rw [List.getElem?_set_self hi] at q
      cases q
      rw [List.getElem?_set_self (by rw [R.lenS]; exact hi), List.getElem?_set_self (by rw [R.lenO]; exact hi)]
      exact he
    · rw [List.getElem?_set_ne hj] at q ⊢
      rw [List.getElem?_set_ne hj]
      exact R.ok j f q
  · by_cases hj : i = j
    · subst hj
      rw [List.getElem?_set_self (by rw [R.lenO]; exact hi)] at q
      cases q
    · rw [List.getElem?_set_ne hj] at q
      exact R.own j l q
  · have out : ∀ {m : Nat}, (ow.set i none)[m]? = some (some l) → ow[m]? = some (some l) := fun {m} q => by
      by_cases hj : i = m
      · subst hj
        rw [List.getElem?_set_self (by rw [R.lenO]; exact hi)] at q
        cases q
      · rw [List.getElem?_set_ne hj] at q
        exact q
    exact R.nd j k l (out q1) (out q2)
  · obtain ⟨j, cs, a, b, h0, h1, h2⟩ := R.pen q hq
    have hj : i ≠ j := fun z => by
      subst z
      exact hp _ _ _ h2
    exact ⟨j, cs, a, b, h0, by rw [List.getElem?_set_ne hj]; exact h1, by rw [List.getElem?_set_ne hj]; exact h2⟩
/-- a name is given a new object of its own -/
theorem Rs.putO (R : Rs K He Ge pn σ H G ow E) {i : Nat} {p : Addr} {o : HO} {e : En} (hi : i < E.length) (hp : NoPen E[i]?) (h : H p = none) (he : EnOk K (upd H p o) G (some (.ref p)) (some p) e) :
    Rs K He Ge pn (σ.set i (some (.ref p))) (upd H p o) G (ow.set i (some p)) (E.set i e) := by
  have S := R.allocO o h
  have ne : ∀ {j : Nat} {l : Addr}, ow[j]? = some (some l) → l ≠ p := fun {j l} q z => by
    obtain ⟨u, hu⟩ := R.there q
    rw [z, h] at hu
    cases hu
  refine ⟨S.sub, S.kept, S.grew, S.new, by simpa using R.lenS, by simpa using R.lenO, fun j f q => ?_, fun j l q => ?_, fun j k l q1 q2 => ?_, fun q hq => ?_⟩
  · by_cases hj : i = j
    · subst hj
      rw [List.getElem?_set_self hi] at q
      cases q
      rw [List.getElem?_set_self (by rw [R.lenS]; exact hi), List.getElem?_set_self (by rw [R.lenO]; exact hi)]
      exact he
    · rw [List.getElem?_set_ne hj] at q ⊢
      rw [List.getElem?_set_ne hj]
      exact S.ok j f q
  · by_cases hj : i = j
    · subst hj
      rw [List.getElem?_set_self (by rw [R.lenO]; exact hi)] at q
      cases q
      exact ⟨R.free h, .inl (R.freeE h)⟩
    · rw [List.getElem?_set_ne hj] at q
      exact R.own j l q
  · have cls : ∀ {m : Nat}, (ow.set i (some p))[m]? = some (some l) → (m = i ∧ l = p) ∨ ow[m]? = some (some l) := fun {m} q => by
      by_cases hj : i = m
      · subst hj
        rw [List.getElem?_set_self (by rw [R.lenO]; exact hi)] at q
        cases q
        exact .inl ⟨rfl, rfl⟩
      · rw [List.getElem?_set_ne hj] at q
        exact .inr q
    rcases cls q1 with ⟨a1, b1⟩ | a1
    · rcases cls q2 with ⟨a2, b2⟩ | a2
      · rw [a1, a2]
      · exact absurd b1 (ne a2)
    · rcases cls q2 with ⟨a2, b2⟩ | a2
      · exact absurd b2 (ne a1)
      · exact R.nd j k l a1 a2
  · obtain ⟨j, cs, a, b, h0, h1, h2⟩ := R.pen q hq
    have hj : i ≠ j := fun z => by
      subst z
      exact hp _ _ _ h2
    exact ⟨j, cs, a, b, h0, by rw [List.getElem?_set_ne hj]; exact h1, by rw [List.getElem?_set_ne hj]; exact h2⟩
/-- what a name owns is changed -/
theorem Rs.chg (R : Rs K He Ge pn σ H G ow E) {i : Nat} {l : Addr} {o : HO} {e : En} (hl : ow[i]? = some (some l)) (hp : ∀ cs a b, E[i]? = some (.pen cs a b) → ∃ cs' a' b', e = .pen cs' a' b') (he : EnOk K (upd H l o) G (σ[i]?.join) (some l) e) : Rs K He Ge pn σ (upd H l o) G ow (E.set i e) := by
  have hi : i < E.length := by
    rw [← R.lenO]
    exact (List.getElem?_eq_some_iff.mp hl).1
  obtain ⟨gl, hel⟩ := R.own i l hl
  refine ⟨fun b u q => ?_, fun b u n q => ?_, R.grew, R.new, by simpa using R.lenS, by simpa using R.lenO, fun j f q => ?_, R.own, R.nd, fun q hq => ?_⟩
  · rw [upd_ne (ne_of_none q gl)]
    exact R.sub _ _ q
  · have nb : b ≠ l := fun z => by
      rcases hel with y | y
      · rw [z, y] at q
        cases q
      · exact n (z ▸ y)
    rw [upd_ne nb]
    exact R.kept _ _ n q
  · by_cases hj : i = j
    · subst hj
      rw [List.getElem?_set_self hi] at q
      cases q
      rw [join_some hl]
      exact he
    · rw [List.getElem?_set_ne hj] at q
      refine (R.ok j f q).grow (Same.refl G) fun m u z hu => ?_
      have nm : m ≠ l := fun y => by
        subst y
        cases w : ow[j]? with
        | none =>
          rw [w] at z
          cases z
        | some x =>
          rw [w] at z
          cases x with
          | none => cases z
          | some x' =>
            cases z
            exact hj (R.nd i j _ hl w)
      rw [upd_ne nm]
      exact hu
  · obtain ⟨j, cs, a, b, h0, h1, h2⟩ := R.pen q hq
    by_cases hj : i = j
    · subst hj
      obtain ⟨cs', a', b', he'⟩ := hp _ _ _ h2
      rw [he']
      exact ⟨i, cs', a', b', h0, h1, List.getElem?_set_self hi⟩
    · exact ⟨j, cs, a, b, h0, h1, by rw [List.getElem?_set_ne hj]; exact h2⟩
end

/-! ### expressions -/
section
variable {K : Frag} {E : List En} {P : Dat → List En → Prop} {PA' : List Dat → List En → Prop} {PT' : Bool → List En → Prop}
theorem Ed.imp {te : TE} {P' : Dat → List En → Prop} (h : Ed K te E P) (i : ∀ d E', P d E' → P' d E') : Ed K te E P' := fun He Ge pn σ H G ow Q R q => h He Ge pn σ H G ow Q R fun v H' G' ow' d E' R' s hd p => q v H' G' ow' d E' R' s hd (i _ _ p)
theorem ed_var {i : Nat} {d : Dat} (h : E[i]? = some (.dat d)) (p : P d E) : Ed K (tVar i) E P := by
  intro He Ge pn σ H G ow Q R q
  obtain ⟨_, x, hx, hd⟩ := R.ok i _ h
  have e : σ[i]? = some (some x) := by
    cases z : σ[i]? with
    | none => rw [z] at hx; cases hx
    | some y => rw [z] at hx; rw [show y = some x from hx]
  exact ⟨x, e, q x H G ow d E R (Same.refl G) hd p⟩
theorem ed_int {i : Int} (p : P (.int i) E) : Ed K (tC (.int i)) E P := fun _ _ _ _ H G ow _ R q => q _ H G ow _ E R (Same.refl G) (.int i) p
theorem ed_bl {b : Bool} (p : P (.bl b) E) : Ed K (tC (.bl b)) E P := fun _ _ _ _ H G ow _ R q => q _ H G ow _ E R (Same.refl G) (.bl b) p
theorem ed_str {x : Str} (p : P (.str x) E) : Ed K (tC (.str x)) E P := fun _ _ _ _ H G ow _ R q => q _ H G ow _ E R (Same.refl G) (.str x) p
theorem ed_non (p : P .non E) : Ed K (tC .non) E P := fun _ _ _ _ H G ow _ R q => q _ H G ow _ E R (Same.refl G) .non p
theorem ed_ty {x : String} (p : P (.ty x) E) : Ed K (tC (.ty x)) E P := fun _ _ _ _ H G ow _ R q => q _ H G ow _ E R (Same.refl G) (.ty x) p
theorem ed_glo {a : Addr} (p : P (.glo a) E) : Ed K (tC (.ref a)) E P := fun _ _ _ _ H G ow _ R q => q _ H G ow _ E R (Same.refl G) (.glo a) p

theorem eda_nil (p : PA' [] E) : EdA K tNil E PA' := fun _ _ _ _ H G ow _ R q => q [] H G ow [] E R (Same.refl G) .nil p
theorem eda_cons {te : TE} {tr : TA} (h : Ed K te E fun d E1 => EdA K tr E1 fun ds E2 => PA' (d :: ds) E2) : EdA K (tCons te tr) E PA' := by
  intro He Ge pn σ H G ow Q R q
  refine h He Ge pn σ H G ow _ R fun v H1 G1 ow1 d E1 R1 s1 hd h1 => ?_
  refine h1 He Ge pn σ H1 G1 ow1 _ R1 fun vs H2 G2 ow2 ds E2 R2 s2 hds p => ?_
  exact q (v :: vs) H2 G2 ow2 (d :: ds) E2 R2 (s1.trans s2) (.cons (hd.same s2) hds) p
theorem sz1000 {n : Nat} (h : n ≤ 1000) : n ≤ sizeLine := Nat.le_of_lt (small1000 h)
theorem ed_tup {ta : TA} (h : EdA K ta E fun ds E' => ds.length ≤ 1000 ∧ P (.tup ds) E') : Ed K (tTup ta) E P := by
  intro He Ge pn σ H G ow Q R q
  refine h He Ge pn σ H G ow _ R fun vs H1 G1 ow1 ds E1 R1 s1 hds ⟨hl, p⟩ => ⟨?_, fun a ha => ?_⟩
  · rw [hds.length]
    exact sz1000 hl
  · obtain ⟨R2, s2⟩ := R1.alloc (.tup vs) ha
    exact q (.ref a) _ _ ow1 (.tup ds) E1 R2 (s1.trans s2) (.tup (.inl (.inl upd_same)) (hds.same s2)) p
theorem ed_lst {ta : TA} (h : EdA K ta E fun ds E' => ds.length ≤ 1000 ∧ P (.lst ds) E') : Ed K (tLst ta) E P := by
  intro He Ge pn σ H G ow Q R q
  refine h He Ge pn σ H G ow _ R fun vs H1 G1 ow1 ds E1 R1 s1 hds ⟨hl, p⟩ => ⟨?_, fun a ha => ?_⟩
  · rw [hds.length]
    exact sz1000 hl
  · obtain ⟨R2, s2⟩ := R1.alloc (.lst vs) ha
    exact q (.ref a) _ _ ow1 (.lst ds) E1 R2 (s1.trans s2) (.lst (.inl upd_same) (hds.same s2)) p

/-- an operation on two values -/
def Ro (K : Frag) (r : R2) (x y : Dat) (E : List En) (P : Dat → List En → Prop) : Prop :=
  ∀ (He Ge : Hp) (pn : Option Addr) (σ : L2.St) (H G : Hp) (ow : List (Option Addr)) (u v : V) (Q : VK), Rs K He Ge pn σ H G ow E → Dh K G u x → Dh K G v y →
    (∀ z H' G' ow' d E', Rs K He Ge pn σ H' G' ow' E' → Same G G' → Dh K G' z d → P d E' → Q z H') → r u v H Q
theorem ed_op {r : R2} {ta tb : TE} (h : Ed K ta E fun x E1 => Ed K tb E1 fun y E2 => Ro K r x y E2 P) : Ed K (tOp r ta tb) E P := by
  intro He Ge pn σ H G ow Q R q
  refine h He Ge pn σ H G ow _ R fun u H1 G1 ow1 x E1 R1 s1 hx h1 => ?_
  refine h1 He Ge pn σ H1 G1 ow1 _ R1 fun v H2 G2 ow2 y E2 R2 s2 hy h2 => ?_
  exact h2 He Ge pn σ H2 G2 ow2 u v Q R2 (hx.same s2) hy fun z H3 G3 ow3 d E3 R3 s3 hd p => q z H3 G3 ow3 d E3 R3 ((s1.trans s2).trans s3) hd p
theorem ro_I0 {g : Int → Int → V} {i j : Int} {d : Dat} (hd : ∀ H, Dh K H (g i j) d) (p : P d E) : Ro K (rI0 g) (.int i) (.int j) E P := by
  intro He Ge pn σ H G ow u v Q R hu hv q
  cases hu
  cases hv
  exact ⟨i, j, rfl, rfl, q _ H G ow d E R (Same.refl G) (hd G) p⟩
theorem ro_I {C : Int → Int → Prop} {g : Int → Int → V} {i j : Int} {d : Dat} (hc : C i j) (hd : ∀ H, Dh K H (g i j) d) (p : P d E) : Ro K (rI C g) (.int i) (.int j) E P := by
  intro He Ge pn σ H G ow u v Q R hu hv q
  cases hu
  cases hv
  exact ⟨i, j, rfl, rfl, hc, q _ H G ow d E R (Same.refl G) (hd G) p⟩
/-- == and != of plain data -/
theorem ro_eqD {x y : Dat} {a b : PyData} (hx : x.py = some a) (hy : y.py = some b) (sa : SeqAt.shaped a = true) (sb : SeqAt.shaped b = true) (p : P (.bl (PyData.eqv a b)) E) : Ro K (rEqD K) x y E P := by
  intro He Ge pn σ H G ow u v Q R hu hv q
  exact ⟨a, b, (hu.same R.sub).dp hx, (hv.same R.sub).dp hy, sa, sb, q _ H G ow _ E R (Same.refl G) (.bl _) p⟩
theorem ro_neD {x y : Dat} {a b : PyData} (hx : x.py = some a) (hy : y.py = some b) (sa : SeqAt.shaped a = true) (sb : SeqAt.shaped b = true) (p : P (.bl (!PyData.eqv a b)) E) : Ro K (rNeD K) x y E P := by
  intro He Ge pn σ H G ow u v Q R hu hv q
  exact ⟨a, b, (hu.same R.sub).dp hx, (hv.same R.sub).dp hy, sa, sb, q _ H G ow _ E R (Same.refl G) (.bl _) p⟩
/-- an item -/
theorem atI_ds {vs : List V} {ds : List Dat} {G : Hp} (h : DhAll K G vs ds) {i : Int} {d : Dat} (e : atI ds i = some d) : ∃ v, atI vs i = some v ∧ Dh K G v d := by
  unfold atI at e ⊢
  rw [h.length]
  obtain ⟨j, h1, h2⟩ := Option.bind_eq_some_iff.mp e
  rw [h1]
  exact h.get h2
theorem ro_ixL {ds : List Dat} {i : Int} {d : Dat} (e : atI ds i = some d) (p : P d E) : Ro K (rIxL K) (.lst ds) (.int i) E P := by
  intro He Ge pn σ H G ow u v Q R hu hv q
  cases hv
  cases hu with
  | @lst a vs _ h1 h2 =>
    obtain ⟨x, hx, hd⟩ := atI_ds h2 e
    exact ⟨a, vs, i, x, rfl, rfl, (.inl (rd_same R.sub h1)), hx, q x H G ow d E R (Same.refl G) hd p⟩
theorem ro_ixT {ds : List Dat} {i : Int} {d : Dat} (e : atI ds i = some d) (p : P d E) : Ro K (rIxT K) (.tup ds) (.int i) E P := by
  intro He Ge pn σ H G ow u v Q R hu hv q
  cases hv
  cases hu with
  | @tup a vs _ h1 h2 =>
    obtain ⟨x, hx, hd⟩ := atI_ds h2 e
    exact ⟨a, vs, i, x, rfl, rfl, sqT_same R.sub h1, hx, q x H G ow d E R (Same.refl G) hd p⟩

/-- a call on values -/
def Rc (K : Frag) (r : List V → Hp → VK → Prop) (xs : List Dat) (E : List En) (P : Dat → List En → Prop) : Prop :=
  ∀ (He Ge : Hp) (pn : Option Addr) (σ : L2.St) (H G : Hp) (ow : List (Option Addr)) (us : List V) (Q : VK), Rs K He Ge pn σ H G ow E → DhAll K G us xs →
    (∀ z H' G' ow' d E', Rs K He Ge pn σ H' G' ow' E' → Same G G' → Dh K G' z d → P d E' → Q z H') → r us H Q
theorem ed_cb {r : List V → Hp → VK → Prop} {ta : TA} (h : EdA K ta E fun xs E1 => Rc K r xs E1 P) : Ed K (tCB r ta) E P := by
  intro He Ge pn σ H G ow Q R q
  refine h He Ge pn σ H G ow _ R fun us H1 G1 ow1 xs E1 R1 s1 hx h1 => ?_
  exact h1 He Ge pn σ H1 G1 ow1 us Q R1 hx fun z H3 G3 ow3 d E3 R3 s3 hd p => q z H3 G3 ow3 d E3 R3 (s1.trans s3) hd p
/-- the readings of built-ins that are often called -/
def rInt : List V → Hp → VK → Prop := fun xs H Q => (∃ i, xs = [.int i] ∧ Q (.int i) H) ∨ ∃ k, xs = [.bl k] ∧ Q (.int (if k then 1 else 0)) H
def rLen (K : Frag) : List V → Hp → VK → Prop := fun xs H Q => ∃ p ys, xs = [.ref p] ∧ (SqL K H p ys ∨ SqT K H p ys) ∧ Q (.int ys.length) H
def rList (K : Frag) : List V → Hp → VK → Prop := fun xs H Q => ∃ p ys, xs = [.ref p] ∧ (SqL K H p ys ∨ SqT K H p ys) ∧ ∀ l, H l = none → Q (.ref l) (upd H l (.lst ys))
def rTuple (K : Frag) : List V → Hp → VK → Prop := fun xs H Q => ∃ p ys, xs = [.ref p] ∧ ((SqL K H p ys ∧ ∀ l, H l = none → Q (.ref l) (upd H l (.tup ys))) ∨ (SqT K H p ys ∧ Q (.ref p) H))
theorem rc_int {i : Int} (p : P (.int i) E) : Rc K rInt [.int i] E P := by
  intro He Ge pn σ H G ow us Q R h q
  cases h with
  | cons h1 h2 =>
    cases h1
    cases h2
    exact .inl ⟨i, rfl, q _ H G ow _ E R (Same.refl G) (.int i) p⟩
theorem rc_intB {b : Bool} (p : P (.int (if b then 1 else 0)) E) : Rc K rInt [.bl b] E P := by
  intro He Ge pn σ H G ow us Q R h q
  cases h with
  | cons h1 h2 =>
    cases h1
    cases h2
    exact .inr ⟨b, rfl, q _ H G ow _ E R (Same.refl G) (.int _) p⟩
theorem rc_lenL {ds : List Dat} (p : P (.int ds.length) E) : Rc K (rLen K) [.lst ds] E P := by
  intro He Ge pn σ H G ow us Q R h q
  cases h with
  | cons h1 h2 =>
    cases h2
    cases h1 with
    | @lst a vs _ h3 h4 => exact ⟨a, vs, rfl, .inl ((.inl (rd_same R.sub h3))), q _ H G ow _ E R (Same.refl G) (by rw [h4.length]; exact .int _) p⟩
theorem rc_lenT {ds : List Dat} (p : P (.int ds.length) E) : Rc K (rLen K) [.tup ds] E P := by
  intro He Ge pn σ H G ow us Q R h q
  cases h with
  | cons h1 h2 =>
    cases h2
    cases h1 with
    | @tup a vs _ h3 h4 => exact ⟨a, vs, rfl, .inr (sqT_same R.sub h3), q _ H G ow _ E R (Same.refl G) (by rw [h4.length]; exact .int _) p⟩
theorem rc_listL {ds : List Dat} (p : P (.lst ds) E) : Rc K (rList K) [.lst ds] E P := by
  intro He Ge pn σ H G ow us Q R h q
  cases h with
  | cons h1 h2 =>
    cases h2
    cases h1 with
    | @lst a vs _ h3 h4 =>
      refine ⟨a, vs, rfl, .inl ((.inl (rd_same R.sub h3))), fun l hl => ?_⟩
      obtain ⟨R2, s2⟩ := R.alloc (.lst vs) hl
      exact q _ _ _ ow _ E R2 s2 (.lst (.inl upd_same) (h4.same s2)) p
theorem rc_listT {ds : List Dat} (p : P (.lst ds) E) : Rc K (rList K) [.tup ds] E P := by
  intro He Ge pn σ H G ow us Q R h q
  cases h with
  | cons h1 h2 =>
    cases h2
    cases h1 with
    | @tup a vs _ h3 h4 =>
      refine ⟨a, vs, rfl, .inr (sqT_same R.sub h3), fun l hl => ?_⟩
      obtain ⟨R2, s2⟩ := R.alloc (.lst vs) hl
      exact q _ _ _ ow _ E R2 s2 (.lst (.inl upd_same) (h4.same s2)) p
theorem rc_tupleL {ds : List Dat} (p : P (.tup ds) E) : Rc K (rTuple K) [.lst ds] E P := by
  intro He Ge pn σ H G ow us Q R h q
  cases h with
  | cons h1 h2 =>
    cases h2
    cases h1 with
    | @lst a vs _ h3 h4 =>
      refine ⟨a, vs, rfl, .inl ⟨(.inl (rd_same R.sub h3)), fun l hl => ?_⟩⟩
      obtain ⟨R2, s2⟩ := R.alloc (.tup vs) hl
      exact q _ _ _ ow _ E R2 s2 (.tup (.inl (.inl upd_same)) (h4.same s2)) p
theorem rc_tupleT {ds : List Dat} (p : P (.tup ds) E) : Rc K (rTuple K) [.tup ds] E P := by
  intro He Ge pn σ H G ow us Q R h q
  cases h with
  | cons h1 h2 =>
    cases h2
    cases h1 with
    | @tup a vs _ h3 h4 => exact ⟨a, vs, rfl, .inr ⟨sqT_same R.sub h3, q _ H G ow _ E R (Same.refl G) (.tup h3 h4) p⟩⟩
theorem rc_repr {d : Dat} {a : PyData} (ha : d.py = some a) (hs : a.showable = true) (hp : a.depth ≤ 60) (hz : a.shown.length ≤ sizeLine) (hn : a.hasDict = false) (p : P (.str a.shown) E) : Rc K (Gd.rRepr K) [d] E P := by
  intro He Ge pn σ H G ow us Q R h q
  cases h with
  | @cons v _ _ _ h1 h2 =>
    cases h2
    exact ⟨v, a, rfl, (h1.same R.sub).dp ha, hn, hs, hp, hz, q _ H G ow _ E R (Same.refl G) (.str _) p⟩
theorem rc_isX {C : Addr} {fs : List (Str × Dat)} {c : Dat} {cv : V} {u : Value} {b : Bool} {bmB : List Value} {nw : String} (hc : ∀ H v, Dh K H v c → v = cv) (k : ClsV cv u) (T : XC K bmB nw C) (g : XG K) (hk : PySem.W.kitOne K (.ref C) u = some b) (p : P (.bl b) E) :
    Rc K (rIsX K) [.exc C fs, c] E P := by
  intro He Ge pn σ H G ow us Q R h q
  cases h with
  | cons h1 h2 =>
    cases h2 with
    | cons h3 h4 =>
      cases h4
      have ev := hc _ _ h3
      subst ev
      cases h1 with
      | @exc a _ fvs _ h5 h6 => exact ⟨a, C, fvs, _, u, b, bmB, nw, rfl, k, h5.same R.sub, T, g, hk, q _ H G ow _ E R (Same.refl G) (.bl b) p⟩
theorem dh_glo {a : Addr} {H : Hp} {v : V} (h : Dh K H v (.glo a)) : v = .ref a := by
  cases h
  rfl
theorem dh_ty {a : String} {H : Hp} {v : V} (h : Dh K H v (.ty a)) : v = .ty a := by
  cases h
  rfl
/-- an attribute of an exception -/
theorem ed_xfld {te : TE} {f : Str} (h : Ed K te E fun x E' => ∃ (C : Addr) (fs : List (Str × Dat)) (d : Dat) (bmB : List Value) (nw : String), x = .exc C fs ∧ fs.lookup f = some d ∧ XC K bmB nw C ∧ PySem.W.findIn K (.ref C) f = some none ∧ P d E') : Ed K (tXfld K f te) E P := by
  intro He Ge pn σ H G ow Q R q
  refine h He Ge pn σ H G ow _ R fun v H1 G1 ow1 x E1 R1 s1 hx ⟨C, fs, d, bm, nw, ex, hl, T, hn, p⟩ => ?_
  subst ex
  cases hx with
  | @exc a _ fvs _ h5 h6 =>
    obtain ⟨y, hy, hd⟩ := h6.lookup hl
    exact ⟨a, C, fvs, y, bm, nw, rfl, h5.same R1.sub, hy, T, hn, q y H1 G1 ow1 d E1 R1 s1 hd p⟩

/-! ### tests -/
theorem edt_test {te : TE} (h : Ed K te E fun d E' => ∃ b, d = .bl b ∧ PT' b E') : EdT K (tTest te) E PT' := by
  intro He Ge pn σ H G ow Q R q
  refine h He Ge pn σ H G ow _ R fun v H1 G1 ow1 x E1 R1 s1 hx ⟨b, ex, p⟩ => ?_
  subst ex
  cases hx
  exact ⟨b, rfl, q b H1 G1 ow1 E1 R1 s1 p⟩
theorem edt_B {te : TE} (h : Ed K te E fun d E' => ∃ b, d = .bl b ∧ PT' b E') : EdT K (tB te) E PT' := edt_test h
theorem edt_not {t : TT} (h : EdT K t E fun b E' => PT' (!b) E') : EdT K (tNot t) E PT' := fun He Ge pn σ H G ow Q R q => h He Ge pn σ H G ow _ R fun b H1 G1 ow1 E1 R1 s1 p => q (!b) H1 G1 ow1 E1 R1 s1 p
theorem edt_and {t u : TT} (h : EdT K t E fun b E' => if b = true then EdT K u E' PT' else PT' false E') : EdT K (tAnd t u) E PT' := by
  intro He Ge pn σ H G ow Q R q
  refine h He Ge pn σ H G ow _ R fun b H1 G1 ow1 E1 R1 s1 p => ?_
  cases b with
  | true =>
    rw [if_pos rfl] at p
    show (if true = true then u σ H1 Q else Q false H1)
    rw [if_pos rfl]
    exact p He Ge pn σ H1 G1 ow1 Q R1 fun b2 H2 G2 ow2 E2 R2 s2 p2 => q b2 H2 G2 ow2 E2 R2 (s1.trans s2) p2
  | false =>
    rw [if_neg Bool.false_ne_true] at p
    show (if false = true then u σ H1 Q else Q false H1)
    rw [if_neg Bool.false_ne_true]
    exact q false H1 G1 ow1 E1 R1 s1 p
theorem edt_or {t u : TT} (h : EdT K t E fun b E' => if b = true then PT' true E' else EdT K u E' PT') : EdT K (tOr t u) E PT' := by
  intro He Ge pn σ H G ow Q R q
  refine h He Ge pn σ H G ow _ R fun b H1 G1 ow1 E1 R1 s1 p => ?_
  cases b with
  | false =>
    rw [if_neg Bool.false_ne_true] at p
    show (if false = true then Q true H1 else u σ H1 Q)
    rw [if_neg Bool.false_ne_true]
    exact p He Ge pn σ H1 G1 ow1 Q R1 fun b2 H2 G2 ow2 E2 R2 s2 p2 => q b2 H2 G2 ow2 E2 R2 (s1.trans s2) p2
  | true =>
    rw [if_pos rfl] at p
    show (if true = true then Q true H1 else u σ H1 Q)
    rw [if_pos rfl]
    exact q true H1 G1 ow1 E1 R1 s1 p
theorem ed_if {t : TT} {ta tb : TE} (h : EdT K t E fun b E' => if b = true then Ed K ta E' P else Ed K tb E' P) : Ed K (tIf t ta tb) E P := by
  intro He Ge pn σ H G ow Q R q
  refine h He Ge pn σ H G ow _ R fun b H1 G1 ow1 E1 R1 s1 p => ?_
  cases b with
  | true =>
    rw [if_pos rfl] at p
    show (if true = true then ta σ H1 Q else tb σ H1 Q)
    rw [if_pos rfl]
    exact p He Ge pn σ H1 G1 ow1 Q R1 fun v H2 G2 ow2 d E2 R2 s2 hd p2 => q v H2 G2 ow2 d E2 R2 (s1.trans s2) hd p2
  | false =>
    rw [if_neg Bool.false_ne_true] at p
    show (if false = true then ta σ H1 Q else tb σ H1 Q)
    rw [if_neg Bool.false_ne_true]
    exact p He Ge pn σ H1 G1 ow1 Q R1 fun v H2 G2 ow2 d E2 R2 s2 hd p2 => q v H2 G2 ow2 d E2 R2 (s1.trans s2) hd p2
end

/-! ### promises over data -/
/-- a def of data: what it is handed, what it gives -/
def SpF (K : Frag) (pre : List Dat → Prop) (post : List Dat → Dat → Prop) : Sp := fun vs H Q _ => ∃ (ds : List Dat) (G : Hp), Same G H ∧ DhAll K G vs ds ∧ pre ds ∧
  ∀ v H' G' d, Same H H' → Same G G' → Same G' H' → (∀ a o, G' a = some o → G a = some o ∨ H a = none) → Dh K G' v d → post ds d → Q v H'
/-- the same, the pen handed in first -/
def SpP (K : Frag) (m : Int) (pre : List Dat → Prop) (post : List Dat → Dat → Prop) : Sp := fun vs H Q _ => ∃ (p : Addr) (ws : List V) (ds : List Dat) (G : Hp) (cs : List Int) (i r : Int), vs = .ref p :: ws ∧ Same G H ∧ G p = none ∧ Pen H G p cs i r ∧ DhAll K G ws ds ∧ pre ds ∧ i + m ≤ 2 ^ 62 ∧
  ∀ v H' G' d i' r', (∀ b o, b ≠ p → H b = some o → H' b = some o) → Same G G' → Same G' H' → G' p = none → Pen H' G' p cs i' r' → i' ≤ i + m → (∀ a o, G' a = some o → G a = some o ∨ H a = none) → Dh K G' v d → post ds d → Q v H'

section
variable {K : Frag} {E : List En} {P : Dat → List En → Prop}
theorem Rs.after {He Ge : Hp} {pn : Option Addr} {σ : L2.St} {H G H' G' : Hp} {ow : List (Option Addr)} (R : Rs K He Ge pn σ H G ow E) (sh : Same H H') (sg : Same G G') (sub : Same G' H') (hn : ∀ a o, G' a = some o → G a = some o ∨ H a = none) :
    Rs K He Ge pn σ H' G' ow E := by
  refine ⟨sub, fun b o n e => sh _ _ (R.kept b o n e), R.grew.trans sg, fun a o e => ?_, R.lenS, R.lenO, fun i e q => (R.ok i e q).grow sg fun l u _ hu => sh _ _ hu, fun i l q => ⟨?_, (R.own i l q).2⟩, R.nd, R.pen⟩
  · rcases hn a o e with h | h
    · exact R.new a o h
    · exact .inr (R.freeE h)
  · cases e : G' l with
    | none => rfl
    | some o =>
      rcases hn l o e with h | h
      · rw [(R.own i l q).1] at h
        cases h
      · obtain ⟨u, hu⟩ := R.there q
        rw [h] at hu
        cases hu
theorem ed_call {pre : List Dat → Prop} {post : List Dat → Dat → Prop} {ta : TA} (h : EdA K ta E fun ds E' => pre ds ∧ ∀ d, post ds d → P d E') : Ed K (tCall (SpF K pre post) [] E0 ta) E P := by
  intro He Ge pn σ H G ow Q R q
  refine h He Ge pn σ H G ow _ R fun vs H1 G1 ow1 ds E1 R1 s1 hds ⟨hp, k⟩ => ?_
  show SpF K pre post (vs ++ []) H1 Q E0
  rw [List.append_nil]
  exact ⟨ds, G1, R1.sub, hds, hp, fun v H' G' d sh sg sub hn hd po => q v H' G' ow1 d E1 (R1.after sh sg sub hn) (s1.trans sg) hd (k d po)⟩
theorem ed_callP {m : Int} {pre : List Dat → Prop} {post : List Dat → Dat → Prop} {ta : TA} {i : Nat} {cs : List Int} {a b : Int} (hi : E[i]? = some (.pen cs a b))
    (h : EdA K ta E fun ds E' => ∃ cs a b, E'[i]? = some (.pen cs a b) ∧ pre ds ∧ a + m ≤ 2 ^ 62 ∧ ∀ d a' b', 0 ≤ a' → a' ≤ a + m → post ds d → P d (E'.set i (.pen cs a' b'))) : Ed K (tCall (SpP K m pre post) [] E0 (tCons (tVar i) ta)) E P := by
  intro He Ge pn σ H G ow Q R q
  obtain ⟨p, ho, hv, _⟩ := R.ok i _ hi
  have ev : σ[i]? = some (some (.ref p)) := by
    cases z : σ[i]? with
    | none => rw [z] at hv; cases hv
    | some y => rw [z] at hv; rw [show y = some (.ref p) from hv]
  refine ⟨.ref p, ev, h He Ge pn σ H G ow _ R fun vs H1 G1 ow1 ds E1 R1 s1 hds ⟨cs, a, b, hE, hp, hm, k⟩ => ?_⟩
  show SpP K m pre post (.ref p :: vs ++ []) H1 Q E0
  rw [List.append_nil]
  obtain ⟨p1, ho1, hv1, pen1⟩ := R1.ok i _ hE
  have ep : p1 = p := by
    rw [hv] at hv1
    cases hv1
    rfl
  subst ep
  have hl : ow1[i]? = some (some p1) := by
    cases z : ow1[i]? with
    | none => rw [z] at ho1; cases ho1
    | some y => rw [z] at ho1; rw [show y = some p1 from ho1]
  have hlt : i < E1.length := (List.getElem?_eq_some_iff.mp hE).1
  obtain ⟨g1, hel⟩ := R1.own i p1 hl
  refine ⟨p1, vs, ds, G1, cs, a, b, rfl, R1.sub, g1, pen1, hds, hp, hm, fun v H' G' d a' b' sh sg sub gp pn' am hn hd po => ?_⟩
  refine q v H' G' ow1 d (E1.set i (.pen cs a' b')) ⟨sub, fun b o n e => ?_, R1.grew.trans sg, fun a o e => ?_, by rw [List.length_set]; exact R1.lenS, by rw [List.length_set]; exact R1.lenO, fun j e q => ?_, fun j l q => ⟨?_, (R1.own j l q).2⟩, R1.nd, fun q hq => ?_⟩ (s1.trans sg) hd (k d a' b' (by obtain ⟨_, _, _, z, _⟩ := pn'; exact z) am po)
  · have nb : b ≠ p1 := fun z => by
      rcases hel with y | y
      · rw [z, y] at e
        cases e
      · exact n (z ▸ y)
    exact sh b o nb (R1.kept b o n e)
  · rcases hn a o e with h | h
    · exact R1.new a o h
    · exact .inr (R1.freeE h)
  · by_cases hj : i = j
    · subst hj
      rw [List.getElem?_set_self hlt] at q
      cases q
      exact ⟨p1, ho1, hv1, pn'⟩
    · rw [List.getElem?_set_ne hj] at q
      refine (R1.ok j e q).grow sg fun l u z hu => sh l u (fun y => ?_) hu
      subst y
      cases w : ow1[j]? with
      | none =>
        rw [w] at z
        cases z
      | some x =>
        rw [w] at z
        cases x with
        | none => cases z
        | some x' =>
          cases z
          exact hj (R1.nd i j _ hl w)
  · by_cases hlp : l = p1
    · rw [hlp]
      exact gp
    · cases e : G' l with
      | none => rfl
      | some o =>
        rcases hn l o e with h | h
        · rw [(R1.own j l q).1] at h
          cases h
        · obtain ⟨u, hu⟩ := R1.there q
          rw [h] at hu
          cases hu
  · obtain ⟨j, cs2, a2, b2, h0, h1, h2⟩ := R1.pen q hq
    by_cases hj : i = j
    · subst hj
      exact ⟨i, cs, a', b', h0, h1, List.getElem?_set_self hlt⟩
    · exact ⟨j, cs2, a2, b2, h0, h1, by rw [List.getElem?_set_ne hj]; exact h2⟩
/-- pen[k] -/
theorem ed_pen {i : Nat} {cs : List Int} {a b k : Int} (hi : E[i]? = some (.pen cs a b)) (h : ∀ d, atI [Dat.lst (cs.map Dat.int), .int a, .int b] k = some d → P d E) (hk : (atI [Dat.lst (cs.map Dat.int), .int a, .int b] k).isSome = true) :
    Ed K (tOp (rIxL K) (tVar i) (tC (.int k))) E P := by
  intro He Ge pn σ H G ow Q R q
  obtain ⟨p, ho, hv, l, h1, h2, h3, h4⟩ := R.ok i _ hi
  have ev : σ[i]? = some (some (.ref p)) := by
    cases z : σ[i]? with
    | none => rw [z] at hv; cases hv
    | some y => rw [z] at hv; rw [show y = some (.ref p) from hv]
  have all : ∀ cs : List Int, DhAll K G (cs.map V.int) (cs.map Dat.int) := fun cs => by
    induction cs with
    | nil => exact .nil
    | cons c r ih => exact .cons (.int c) ih
  have ds : DhAll K G [.ref l, .int a, .int b] [Dat.lst (cs.map Dat.int), .int a, .int b] := .cons (.lst (.inl h2) (all cs)) (.cons (.int a) (.cons (.int b) .nil))
  obtain ⟨d, hd⟩ := Option.isSome_iff_exists.mp hk
  obtain ⟨x, hx, hxd⟩ := atI_ds ds hd
  exact ⟨.ref p, ev, p, _, k, x, rfl, rfl, .inl (.inl h1), hx, q x H G ow d E R (Same.refl G) hxd (h d hd)⟩
end

/-! ### statements -/
inductive Res where
  | nx (E : List En) | bk (E : List En) | ct (E : List En) | rt (d : Dat) (E : List En)
/-- a statement: how it may end -/
def Ws (K : Frag) (ts : TS) (E : List En) (R : Res → Prop) : Prop :=
  ∀ (He Ge : Hp) (pn : Option Addr) (σ : L2.St) (H G : Hp) (ow : List (Option Addr)) (D : Ends), Rs K He Ge pn σ H G ow E →
    (∀ E' σ' H' G' ow', R (.nx E') → Rs K He Ge pn σ' H' G' ow' E' → Same G G' → D.nx σ' H') →
    (∀ E' σ' H' G' ow', R (.bk E') → Rs K He Ge pn σ' H' G' ow' E' → Same G G' → D.bk σ' H') →
    (∀ E' σ' H' G' ow', R (.ct E') → Rs K He Ge pn σ' H' G' ow' E' → Same G G' → D.ct σ' H') →
    (∀ d E' v σ' H' G' ow', R (.rt d E') → Rs K He Ge pn σ' H' G' ow' E' → Same G G' → Dh K G' v d → D.rt v H') → ts D σ H
def thenR (f : List En → Prop) (R : Res → Prop) : Res → Prop
  | .nx E => f E
  | r => R r
section
variable {K : Frag} {E : List En} {R : Res → Prop}
theorem Ws.imp {t : TS} {R' : Res → Prop} (h : Ws K t E R) (i : ∀ r, R r → R' r) : Ws K t E R' := fun He Ge pn σ H G ow D S a b c d => h He Ge pn σ H G ow D S (fun E' σ' H' G' ow' r => a E' σ' H' G' ow' (i _ r)) (fun E' σ' H' G' ow' r => b E' σ' H' G' ow' (i _ r))
  (fun E' σ' H' G' ow' r => c E' σ' H' G' ow' (i _ r)) fun d' E' v σ' H' G' ow' r => d d' E' v σ' H' G' ow' (i _ r)
theorem ex_bl {Q : Bool → Prop} {b : Bool} (h : Q b) : ∃ b', Dat.bl b = .bl b' ∧ Q b' := ⟨b, rfl, h⟩
theorem noPen_no {e : Option En} (h : e = some .no) : NoPen e := by rw [h]; nofun
theorem noPen_dat {e : Option En} {d : Dat} (h : e = some (.dat d)) : NoPen e := by rw [h]; nofun
theorem noPen_own {e : Option En} {d : List Dat} (h : e = some (.own d)) : NoPen e := by rw [h]; nofun
theorem then_nx {t : TS} (h : Ws K t E R) : thenR (fun E1 => Ws K t E1 R) R (.nx E) := h
theorem ws_seq {t u : TS} (h : Ws K t E (thenR (fun E1 => Ws K u E1 R) R)) : Ws K (tSeq t u) E R := by
  intro He Ge pn σ H G ow D S a b c d
  refine h He Ge pn σ H G ow _ S (fun E1 σ1 H1 G1 ow1 r S1 s1 => ?_) (fun E1 σ1 H1 G1 ow1 r => b E1 σ1 H1 G1 ow1 r) (fun E1 σ1 H1 G1 ow1 r => c E1 σ1 H1 G1 ow1 r) fun d1 E1 v σ1 H1 G1 ow1 r => d d1 E1 v σ1 H1 G1 ow1 r
  exact r He Ge pn σ1 H1 G1 ow1 D S1 (fun E' σ' H' G' ow' r' S' s' => a E' σ' H' G' ow' r' S' (s1.trans s')) (fun E' σ' H' G' ow' r' S' s' => b E' σ' H' G' ow' r' S' (s1.trans s'))
    (fun E' σ' H' G' ow' r' S' s' => c E' σ' H' G' ow' r' S' (s1.trans s')) fun d' E' v σ' H' G' ow' r' S' s' => d d' E' v σ' H' G' ow' r' S' (s1.trans s')
theorem ws_next (h : R (.nx E)) : Ws K tNext E R := fun He Ge pn σ H G ow D S a _ _ _ => a E σ H G ow h S (Same.refl G)
theorem ws_break (h : R (.bk E)) : Ws K tBreak E R := fun He Ge pn σ H G ow D S _ b _ _ => b E σ H G ow h S (Same.refl G)
theorem ws_cont (h : R (.ct E)) : Ws K tCont E R := fun He Ge pn σ H G ow D S _ _ c _ => c E σ H G ow h S (Same.refl G)
theorem ws_ret {te : TE} (h : Ed K te E fun d E' => R (.rt d E')) : Ws K (tRet te) E R := fun He Ge pn σ H G ow D S _ _ _ k => h He Ge pn σ H G ow _ S fun v H' G' ow' d E' S' s hd p => k d E' v σ H' G' ow' p S' s hd
theorem ws_retN (h : R (.rt .non E)) : Ws K tRetN E R := fun He Ge pn σ H G ow D S _ _ _ k => k .non E .non σ H G ow h S (Same.refl G) .non
theorem ws_drop {te : TE} (h : Ed K te E fun _ E' => R (.nx E')) : Ws K (tDrop te) E R := fun He Ge pn σ H G ow D S a _ _ _ => h He Ge pn σ H G ow _ S fun v H' G' ow' d E' S' s _ p => a E' σ H' G' ow' p S' s
theorem ws_if {c : TT} {t u : TS} (h : EdT K c E fun b E' => if b = true then Ws K t E' R else Ws K u E' R) : Ws K (tIfS c t u) E R := by
  intro He Ge pn σ H G ow D S a b e d
  refine h He Ge pn σ H G ow _ S fun k H1 G1 ow1 E1 S1 s1 p => ?_
  have go : ∀ {w : TS}, Ws K w E1 R → w D σ H1 := fun {w} p => p He Ge pn σ H1 G1 ow1 D S1 (fun E' σ' H' G' ow' r' S' s' => a E' σ' H' G' ow' r' S' (s1.trans s')) (fun E' σ' H' G' ow' r' S' s' => b E' σ' H' G' ow' r' S' (s1.trans s'))
    (fun E' σ' H' G' ow' r' S' s' => e E' σ' H' G' ow' r' S' (s1.trans s')) fun d' E' v σ' H' G' ow' r' S' s' => d d' E' v σ' H' G' ow' r' S' (s1.trans s')
  cases k with
  | true =>
    rw [if_pos rfl] at p
    show (if true = true then t D σ H1 else u D σ H1)
    rw [if_pos rfl]
    exact go p
  | false =>
    rw [if_neg Bool.false_ne_true] at p
    show (if false = true then t D σ H1 else u D σ H1)
    rw [if_neg Bool.false_ne_true]
    exact go p
/-- x = e -/
theorem ws_asg {te : TE} {i : Nat} (h : Ed K te E fun d E' => i < E'.length ∧ NoPen E'[i]? ∧ R (.nx (E'.set i (.dat d)))) : Ws K (tAsg te (gName i)) E R := fun He Ge pn σ H G ow D S a _ _ _ =>
  h He Ge pn σ H G ow _ S fun v H' G' ow' d E' S' s hd ⟨hi, hp, p⟩ => a _ _ H' G' _ p (S'.put hi hp ⟨rfl, v, rfl, hd⟩) s
/-- x = [..], a list of x's own -/
theorem ws_asgO {ta : TA} {i : Nat} (h : EdA K ta E fun ds E' => ds.length ≤ 1000 ∧ i < E'.length ∧ NoPen E'[i]? ∧ R (.nx (E'.set i (.own ds)))) : Ws K (tAsg (tLst ta) (gName i)) E R := by
  intro He Ge pn σ H G ow D S a _ _ _
  refine h He Ge pn σ H G ow _ S fun vs H' G' ow' ds E' S' s hd ⟨hl, hi, hp, p⟩ => ⟨?_, fun l hl => ?_⟩
  · rw [hd.length]
    exact sz1000 hl
  · exact a _ _ _ G' _ p (S'.putO hi hp hl ⟨l, vs, rfl, rfl, upd_same, hd⟩) s
/-- x.append(e), x a name's own list -/
theorem ws_append {te : TE} {i : Nat} (h : Ed K te E fun d E' => ∃ ds, E'[i]? = some (.own ds) ∧ ds.length < 1000 ∧ R (.nx (E'.set i (.own (ds ++ [d]))))) (hE : ∃ ds, E[i]? = some (.own ds)) : Ws K (tDrop (tBM K "list" rAppend (tVar i) (tCons te tNil))) E R := by
  intro He Ge pn σ H G ow D S a _ _ _
  obtain ⟨ds0, e0⟩ := hE
  obtain ⟨l, vs0, ho, hv, hl, _⟩ := S.ok i _ e0
  have ev : σ[i]? = some (some (.ref l)) := by
    cases z : σ[i]? with
    | none => rw [z] at hv; cases hv
    | some y => rw [z] at hv; rw [show y = some (.ref l) from hv]
  refine ⟨.ref l, ev, .inl ⟨rfl, _, .inl (.inl hl)⟩, h He Ge pn σ H G ow _ S fun v H1 G1 ow1 d E1 S1 s1 hd ⟨ds, e1, hz, p⟩ => ?_⟩
  obtain ⟨l1, vs, ho1, hv1, hl1, hds⟩ := S1.ok i _ e1
  have el : l1 = l := by
    rw [hv] at hv1
    cases hv1
    rfl
  subst el
  have hw : ow1[i]? = some (some l1) := by
    cases z : ow1[i]? with
    | none => rw [z] at ho1; cases ho1
    | some y => rw [z] at ho1; rw [show y = some l1 from ho1]
  refine ⟨l1, vs, v, rfl, rfl, hl1, ?_, a _ σ _ G1 ow1 p (S1.chg hw (fun _ _ _ z => by rw [e1] at z; cases z) ⟨l1, vs ++ [v], rfl, hv1, upd_same, hds.append (.cons hd .nil)⟩) s1⟩
  rw [hds.length]
  exact small1000 (Nat.le_of_lt hz)

/-! ### loops -/
/-- what is left to be walked -/
def Loop (K : Frag) (tb : TS) (j : Nat) : List Dat → List En → (Res → Prop) → Prop
  | [], E, R => R (.nx E)
  | d :: ds, E, R => j < E.length ∧ NoPen E[j]? ∧ Ws K tb (E.set j (.dat d)) fun r => match r with
    | .nx E1 => Loop K tb j ds E1 R
    | .ct E1 => Loop K tb j ds E1 R
    | .bk E1 => R (.nx E1)
    | .rt v E1 => R (.rt v E1)
theorem drop_cons {α : Type} {l : List α} {i : Nat} {x : α} (h : l[i]? = some x) : l.drop i = x :: l.drop (i + 1) := by
  have hi := (List.getElem?_eq_some_iff.mp h).1
  rw [List.drop_eq_getElem_cons hi]
  rw [List.getElem?_eq_getElem hi] at h
  rw [Option.some.inj h]
/-- one turn -/
theorem loop_turn {tb : TS} {j : Nat} {ds : List Dat} {i : Nat} {d : Dat} {He Ge : Hp} {pn : Option Addr} {H1 G1 : Hp} {D : Ends} (hd : ds[i]? = some d) {σ' : L2.St} {H' : Hp} {v : V} {G0 : Hp}
    (h : ∃ E G ow, Rs K He Ge pn σ' H' G ow E ∧ Same G0 G ∧ Loop K tb j (ds.drop i) E R) (hv : ∀ G, Same G0 G → Dh K G v d)
    (a : ∀ E' σ' H' G' ow', R (.nx E') → Rs K He Ge pn σ' H' G' ow' E' → Same G0 G' → D.nx σ' H')
    (k : ∀ d E' v σ' H' G' ow', R (.rt d E') → Rs K He Ge pn σ' H' G' ow' E' → Same G0 G' → Dh K G' v d → D.rt v H') :
    gName j v σ' H' fun σ2 H2 => tb { D with nx := fun σ H => ∃ E G ow, Rs K He Ge pn σ H G ow E ∧ Same G0 G ∧ Loop K tb j (ds.drop (i + 1)) E R, ct := fun σ H => ∃ E G ow, Rs K He Ge pn σ H G ow E ∧ Same G0 G ∧ Loop K tb j (ds.drop (i + 1)) E R, bk := D.nx } σ2 H2 := by
  obtain ⟨E, G, ow, S, s0, L⟩ := h
  rw [drop_cons hd] at L
  obtain ⟨hj, hp, w⟩ := L
  refine w He Ge pn _ H' G _ _ (S.put hj hp ⟨rfl, v, rfl, hv G s0⟩) (fun E' σ1 H1 G1 ow1 r S1 s1 => ?_) (fun E' σ1 H1 G1 ow1 r S1 s1 => ?_) (fun E' σ1 H1 G1 ow1 r S1 s1 => ?_) fun d1 E' v1 σ1 H1 G1 ow1 r S1 s1 hd1 => ?_
  · exact ⟨E', G1, ow1, S1, s0.trans s1, r⟩
  · exact a E' σ1 H1 G1 ow1 r S1 (s0.trans s1)
  · exact ⟨E', G1, ow1, S1, s0.trans s1, r⟩
  · exact k d1 E' v1 σ1 H1 G1 ow1 r S1 (s0.trans s1) hd1
/-- for x in xs -/
theorem ws_forL {tl : TE} {j : Nat} {tb : TS} (h : Ed K tl E fun d E' => ∃ ds, d = .lst ds ∧ Loop K tb j ds E' R) : Ws K (tFor (iList K tl) (gName j) tb) E R := by
  intro He Ge pn σ H G ow D S a b c k
  refine h He Ge pn σ H G ow _ S fun v H1 G1 ow1 d E1 S1 s1 hd ⟨ds, ed, L⟩ => ?_
  subst ed
  cases hd with
  | @lst l vs _ h1 h2 =>
    refine ⟨l, rfl, ⟨vs, (.inl (rd_same S1.sub h1))⟩, for_list (K := K) (a := l) (xs := vs) (fun i σ H => ∃ E G ow, Rs K He Ge pn σ H G ow E ∧ Same G1 G ∧ Loop K tb j (ds.drop i) E R) ⟨E1, G1, ow1, S1, Same.refl G1, L⟩ (fun i σ H _ ⟨E, G, ow, S, s, _⟩ => .inl (rd_same S.sub (rd_same s h1))) (fun i x σ' H' hx p => ?_) (fun σ' H' ⟨E, G, ow, S, s, q⟩ => ?_)⟩
    · obtain ⟨d, e1, e2⟩ := h2.getV hx
      exact loop_turn (H1 := H1) (G1 := G1) e1 p (fun G s => e2.same s) (fun E' σ' H' G' ow' r S' s' => a E' σ' H' G' ow' r S' (s1.trans s')) fun d E' v σ' H' G' ow' r S' s' hd => k d E' v σ' H' G' ow' r S' (s1.trans s') hd
    · rw [h2.length, List.drop_length] at q
      exact a E σ' H' G ow q S (s1.trans s)
theorem ws_forT {tl : TE} {j : Nat} {tb : TS} (h : Ed K tl E fun d E' => ∃ ds, d = .tup ds ∧ Loop K tb j ds E' R) : Ws K (tFor (iTup K tl) (gName j) tb) E R := by
  intro He Ge pn σ H G ow D S a b c k
  refine h He Ge pn σ H G ow _ S fun v H1 G1 ow1 d E1 S1 s1 hd ⟨ds, ed, L⟩ => ?_
  subst ed
  cases hd with
  | @tup l vs _ h1 h2 =>
    refine ⟨l, rfl, ⟨vs, sqT_same S1.sub h1⟩, for_tup (K := K) (a := l) (xs := vs) (fun i σ H => ∃ E G ow, Rs K He Ge pn σ H G ow E ∧ Same G1 G ∧ Loop K tb j (ds.drop i) E R) ⟨E1, G1, ow1, S1, Same.refl G1, L⟩ (fun i σ H _ ⟨E, G, ow, S, s, _⟩ => sqT_same S.sub (sqT_same s h1)) (fun i x σ' H' hx p => ?_) (fun σ' H' ⟨E, G, ow, S, s, q⟩ => ?_)⟩
    · obtain ⟨d, e1, e2⟩ := h2.getV hx
      exact loop_turn (H1 := H1) (G1 := G1) e1 p (fun G s => e2.same s) (fun E' σ' H' G' ow' r S' s' => a E' σ' H' G' ow' r S' (s1.trans s')) fun d E' v σ' H' G' ow' r S' s' hd => k d E' v σ' H' G' ow' r S' (s1.trans s') hd
    · rw [h2.length, List.drop_length] at q
      exact a E σ' H' G ow q S (s1.trans s)
def upTo (lo : Int) (n : Nat) : List Dat := (List.range n).map fun (i : Nat) => .int (lo + i)
theorem upTo_get {lo : Int} {n i : Nat} (h : i < n) : (upTo lo n)[i]? = some (.int (lo + i)) := by
  unfold upTo
  rw [List.getElem?_map, List.getElem?_range h]
  rfl
theorem upTo_length {lo : Int} {n : Nat} : (upTo lo n).length = n := by
  unfold upTo
  simp
/-- for i in range(n) -/
theorem ws_for1 {ta : TE} {j : Nat} {tb : TS} (h : Ed K ta E fun d E' => ∃ n : Int, d = .int n ∧ -(2 ^ 62) ≤ n ∧ n < 2 ^ 62 ∧ Loop K tb j (upTo 0 n.toNat) E' R) : Ws K (tFor (iRng1 (tCons ta tNil)) (gName j) tb) E R := by
  intro He Ge pn σ H G ow D S a b c k
  refine h He Ge pn σ H G ow _ S fun v H1 G1 ow1 d E1 S1 s1 hd ⟨n, ed, n1, n2, L⟩ => ?_
  subst ed
  cases hd
  refine ⟨n, rfl, n1, n2, for_range (lo := 0) (n := n.toNat) (fun i σ H => ∃ E G ow, Rs K He Ge pn σ H G ow E ∧ Same G1 G ∧ Loop K tb j ((upTo 0 n.toNat).drop i) E R) ⟨E1, G1, ow1, S1, Same.refl G1, L⟩ (fun i σ' H' hx p => ?_) (fun σ' H' ⟨E, G, ow, S, s, q⟩ => ?_)⟩
  · exact loop_turn (H1 := H1) (G1 := G1) (upTo_get hx) p (fun G s => .int _) (fun E' σ' H' G' ow' r S' s' => a E' σ' H' G' ow' r S' (s1.trans s')) fun d E' v σ' H' G' ow' r S' s' hd => k d E' v σ' H' G' ow' r S' (s1.trans s') hd
  · have e : (upTo 0 n.toNat).drop n.toNat = [] := List.drop_eq_nil_of_le (by rw [upTo_length]; exact Nat.le_refl _)
    rw [e] at q
    exact a E σ' H' G ow q S (s1.trans s)
end

/-! ### comprehensions -/
/-- what is left to be walked, acc what is made so far; j the comprehension's own name -/
def LoopC (K : Frag) (tt : TT) (te : TE) (j : Nat) : List Dat → List Dat → List En → (Dat → List En → Prop) → Prop
  | [], acc, E, P => P (.lst acc) E
  | d :: ds, acc, E, P => acc.length < 1000 ∧ EdT K tt (E.set j (.dat d)) fun b E1 => if b = true then Ed K te E1 fun y E2 => (∃ d', E2[j]? = some (.dat d')) ∧ LoopC K tt te j ds (acc ++ [y]) (E2.set j .no) P
    else (∃ d', E1[j]? = some (.dat d')) ∧ LoopC K tt te j ds acc (E1.set j .no) P
section
variable {K : Frag} {E : List En} {P : Dat → List En → Prop}
theorem Rs.off {He Ge : Hp} {pn : Option Addr} {σ σ' : L2.St} {H G : Hp} {ow : List (Option Addr)} {j : Nat} (R : Rs K He Ge pn σ H G ow E) (hj : ow[j]?.join = none) (hl : σ'.length = σ.length) (hs : ∀ i, i ≠ j → σ'[i]? = σ[i]?) (hp : NoPen E[j]?) :
    Rs K He Ge pn σ' H G ow (E.set j .no) := by
  refine ⟨R.sub, R.kept, R.grew, R.new, by rw [hl, List.length_set]; exact R.lenS, by rw [List.length_set]; exact R.lenO, fun i e q => ?_, R.own, R.nd, fun q hq => ?_⟩
  · by_cases hi : j = i
    · subst hi
      have hlt : j < E.length := by
        have z := (List.getElem?_eq_some_iff.mp q).1
        rw [List.length_set] at z
        exact z
      rw [List.getElem?_set_self hlt] at q
      cases q
      exact hj
    · rw [List.getElem?_set_ne hi] at q
      rw [hs i (fun z => hi z.symm)]
      exact R.ok i e q
  · obtain ⟨i, cs, a, b, h0, h1, h2⟩ := R.pen q hq
    have hi : j ≠ i := fun z => by
      subst z
      exact hp _ _ _ h2
    exact ⟨i, cs, a, b, h0, h1, by rw [List.getElem?_set_ne hi]; exact h2⟩
/-- something that is held for a while counts as the entry's -/
theorem Rs.hold {He Ge : Hp} {pn : Option Addr} {σ : L2.St} {H G : Hp} {ow : List (Option Addr)} {p : Addr} {o : HO} (R : Rs K He Ge pn σ H G ow E) (hp : H p = some o) (gp : G p = none) (hw : ∀ i : Nat, ow[i]? ≠ some (some p)) : Rs K (upd He p o) Ge pn σ H G ow E := by
  refine ⟨R.sub, fun b u n e => ?_, R.grew, fun a u e => ?_, R.lenS, R.lenO, R.ok, fun i l q => ⟨(R.own i l q).1, ?_⟩, R.nd, R.pen⟩
  · by_cases hb : b = p
    · rw [hb, upd_same] at e
      rw [hb, hp]
      exact e
    · rw [upd_ne hb] at e
      exact R.kept b u n e
  · rw [upd_ne (ne_of_none e gp)]
    exact R.new a u e
  · have hl : l ≠ p := fun z => hw i (z ▸ q)
    rw [upd_ne hl]
    exact (R.own i l q).2
theorem Rs.unhold {He Ge : Hp} {pn : Option Addr} {σ : L2.St} {H G : Hp} {ow : List (Option Addr)} {p : Addr} {o : HO} (R : Rs K (upd He p o) Ge pn σ H G ow E) (hn : He p = none) : Rs K He Ge pn σ H G ow E := by
  refine ⟨R.sub, fun b u n e => R.kept b u n ?_, R.grew, fun a u e => ?_, R.lenS, R.lenO, R.ok, fun i l q => ⟨(R.own i l q).1, ?_⟩, R.nd, R.pen⟩
  · rw [upd_ne (ne_of_none e hn)]
    exact e
  · rcases R.new a u e with h | h
    · exact .inl h
    · by_cases ha : a = p
      · rw [ha]
        exact .inr hn
      · rw [upd_ne ha] at h
        exact .inr h
  · rcases (R.own i l q).2 with h | h
    · by_cases hl : l = p
      · rw [hl]
        exact .inl hn
      · rw [upd_ne hl] at h
        exact .inl h
    · exact .inr h
/-- what is held by nobody is changed -/
theorem Rs.chgH {He Ge : Hp} {pn : Option Addr} {σ : L2.St} {H G : Hp} {ow : List (Option Addr)} {p : Addr} {o : HO} (R : Rs K He Ge pn σ H G ow E) (gp : G p = none) (hn : He p = none) (hw : ∀ i : Nat, ow[i]? ≠ some (some p)) : Rs K He Ge pn σ (upd H p o) G ow E := by
  refine ⟨fun b u e => ?_, fun b u n e => ?_, R.grew, R.new, R.lenS, R.lenO, fun i e q => (R.ok i e q).grow (Same.refl G) fun l u z hu => ?_, R.own, R.nd, R.pen⟩
  · rw [upd_ne (ne_of_none e gp)]
    exact R.sub b u e
  · rw [upd_ne (ne_of_none e hn)]
    exact R.kept b u n e
  · have hl : l ≠ p := fun y => by
      cases w : ow[i]? with
      | none =>
        rw [w] at z
        cases z
      | some x =>
        rw [w] at z
        exact hw i (by rw [w, show x = some l from z, y])
    rw [upd_ne hl]
    exact hu
/-- what was held joins the data -/
theorem Rs.give {He Ge : Hp} {pn : Option Addr} {σ : L2.St} {H G : Hp} {ow : List (Option Addr)} {p : Addr} {o : HO} (R : Rs K He Ge pn σ H G ow E) (hp : H p = some o) (gp : G p = none) (hn : He p = none) (hw : ∀ i : Nat, ow[i]? ≠ some (some p)) : Rs K He Ge pn σ H (upd G p o) ow E ∧ Same G (upd G p o) := by
  have sg : Same G (upd G p o) := fun b u e => by
    rw [upd_ne (ne_of_none e gp)]
    exact e
  refine ⟨⟨fun b u e => ?_, R.kept, R.grew.trans sg, fun a u e => ?_, R.lenS, R.lenO, fun i e q => (R.ok i e q).grow sg fun _ _ _ h => h, fun i l q => ⟨?_, (R.own i l q).2⟩, R.nd, R.pen⟩, sg⟩
  · by_cases hb : b = p
    · rw [hb, upd_same] at e
      rw [hb, hp]
      exact e
    · rw [upd_ne hb] at e
      exact R.sub b u e
  · by_cases ha : a = p
    · rw [ha]
      exact .inr hn
    · rw [upd_ne ha] at e
      exact R.new a u e
  · have hl : l ≠ p := fun z => hw i (z ▸ q)
    rw [upd_ne hl]
    exact (R.own i l q).1
theorem wipe_get {σ : L2.St} {j i : Nat} : (wipe σ [j])[i]? = if i = j then (σ[i]?).map (fun _ => none) else σ[i]? := by
  show (σ.set j none)[i]? = _
  by_cases h : i = j
  · subst h
    rw [if_pos rfl]
    by_cases hl : i < σ.length
    · rw [List.getElem?_set_self hl, List.getElem?_eq_getElem hl]
      rfl
    · rw [List.getElem?_eq_none (by rw [List.length_set]; omega), List.getElem?_eq_none (by omega)]
      rfl
  · rw [if_neg h, List.getElem?_set_ne (fun z => h z.symm)]
end

section
variable {K : Frag} {E : List En} {P : Dat → List En → Prop}
/-- D is held by the comprehension: it has acc -/
structure Held (K : Frag) (He : Hp) (H G : Hp) (pn : Option Addr) (ow : List (Option Addr)) (D : Addr) (vs : List V) (acc : List Dat) : Prop where
  at_ : H D = some (.lst vs)
  gn : G D = none
  hn : He D = none
  hw : ∀ i : Nat, ow[i]? ≠ some (some D)
  all : DhAll K G vs acc
/-- one turn of a comprehension -/
theorem lc_turn {tt : TT} {te : TE} {j : Nat} {ds acc : List Dat} {d : Dat} {He Ge : Hp} {pn : Option Addr} {σ : L2.St} {H G G0 : Hp} {ow : List (Option Addr)} {D : Addr} {vs : List V} {x : V} {Nx : Hp → Prop}
    (R : Rs K He Ge pn σ H G ow E) (hE : E[j]? = some .no) (s0 : Same G0 G) (hD : Held K He H G pn ow D vs acc) (hx : Dh K G x d) (L : LoopC K tt te j (d :: ds) acc E P) (hg : Ge D = none)
    (k : ∀ (H' G' : Hp) (ow' : List (Option Addr)) (E' : List En) (vs' : List V) (acc' : List Dat), Rs K He Ge pn σ H' G' ow' E' → E'[j]? = some .no → Same G0 G' → Held K He H' G' pn ow' D vs' acc' → LoopC K tt te j ds acc' E' P → Nx H') :
    gName j x (wipe σ [j]) H fun σ2 H2 => wipe σ2 [j] = wipe σ [j] ∧ tt σ2 H2 fun b H3 => if b = true then te σ2 H3 fun y H4 => ∃ ac, H4 D = some (.lst ac) ∧ ac.length < sizeLine ∧ Nx (upd H4 D (.lst (ac ++ [y]))) else Nx H3 := by
  obtain ⟨hz, w⟩ := L
  have hj : j < E.length := (List.getElem?_eq_some_iff.mp hE).1
  have npen : NoPen E[j]? := fun _ _ _ z => by rw [hE] at z; cases z
  have owj : ow[j]?.join = none := R.ok j _ hE
  have hjσ : j < σ.length := by rw [R.lenS]; exact hj
  have eσ : wipe σ [j] = σ.set j none := rfl
  have R0 : Rs K He Ge pn (wipe σ [j]) H G ow E := by
    have z := R.off (σ' := wipe σ [j]) owj (wipe_length σ [j]) (fun i hi => by rw [wipe_get, if_neg hi]) npen
    have e : E.set j .no = E := by
      refine List.ext_getElem? fun i => ?_
      by_cases hi : j = i
      · subst hi
        rw [List.getElem?_set_self hj, hE]
      · rw [List.getElem?_set_ne hi]
    rw [e] at z
    exact z
  have R1 := R0.put hj npen (x := x) (e := .dat d) ⟨rfl, x, rfl, hx⟩
  have pnD : pn ≠ some D := fun z => by
    obtain ⟨i, _, _, _, _, h1, _⟩ := R.pen D z
    exact hD.hw i h1
  have hwj : ∀ i : Nat, (ow.set j none)[i]? ≠ some (some D) := fun i z => by
    by_cases hi : j = i
    · subst hi
      rw [List.getElem?_set_self (by rw [R.lenO]; exact hj)] at z
      cases z
    · rw [List.getElem?_set_ne hi] at z
      exact hD.hw i z
  have R2 := R1.hold hD.at_ hD.gn hwj
  have still : ∀ {H' G' : Hp} {ow' : List (Option Addr)} {E' : List En} {σ' : L2.St}, Rs K (upd He D (.lst vs)) Ge pn σ' H' G' ow' E' → Same G G' → Held K He H' G' pn ow' D vs acc := fun {H' G' ow' E' σ'} R s => by
    refine ⟨R.kept D _ pnD upd_same, ?_, hD.hn, fun i z => ?_, hD.all.same s⟩
    · cases e : G' D with
      | none => rfl
      | some o =>
        rcases R.new D o e with h | h
        · rw [hg] at h
          cases h
        · rw [upd_same] at h
          cases h
    · rcases (R.own i D z).2 with h | h
      · rw [upd_same] at h
        cases h
      · exact pnD h
  have back : ∀ {H' G' : Hp} {ow' : List (Option Addr)} {E' : List En}, Rs K He Ge pn ((wipe σ [j]).set j (some x)) H' G' ow' E' → (∃ d', E'[j]? = some (.dat d')) → Rs K He Ge pn σ H' G' ow' (E'.set j .no) ∧ (E'.set j .no)[j]? = some .no := by
    rintro H' G' ow' E' R ⟨d', hd'⟩
    refine ⟨R.off (R.ok j _ hd').1 (by rw [List.length_set, wipe_length]) (fun i hi => by rw [List.getElem?_set_ne (fun z => hi z.symm), wipe_get, if_neg hi]) (fun _ _ _ z => by rw [hd'] at z; cases z), ?_⟩
    exact List.getElem?_set_self (List.getElem?_eq_some_iff.mp hd').1
  have wj : wipe ((wipe σ [j]).set j (some x)) [j] = wipe σ [j] := by
    show ((σ.set j none).set j (some x)).set j none = σ.set j none
    rw [List.set_set, List.set_set]
  refine ⟨wj, w _ Ge pn _ H G _ _ R2 fun b H1 G1 ow1 E1 R3 s3 p => ?_⟩
  cases b with
  | false =>
    rw [if_neg Bool.false_ne_true] at p
    rw [if_neg Bool.false_ne_true]
    obtain ⟨R5, e5⟩ := back (R3.unhold hD.hn) p.1
    exact k H1 G1 ow1 _ vs acc R5 e5 (s0.trans s3) (still R3 s3) p.2
  | true =>
    rw [if_pos rfl] at p
    rw [if_pos rfl]
    refine p _ Ge pn _ H1 G1 ow1 _ R3 fun y H2 G2 ow2 dy E2 R4 s4 hy q => ?_
    have h2 := still R4 (s3.trans s4)
    refine ⟨vs, h2.at_, ?_, ?_⟩
    · rw [h2.all.length]
      exact small1000 (Nat.le_of_lt hz)
    · obtain ⟨R5, e5⟩ := back (R4.unhold hD.hn) q.1
      refine k _ G2 ow2 _ (vs ++ [y]) (acc ++ [dy]) (R5.chgH h2.gn h2.hn h2.hw) e5 ((s0.trans s3).trans s4) ⟨upd_same, h2.gn, h2.hn, h2.hw, h2.all.append (.cons hy .nil)⟩ q.2
theorem lc_last {acc : List Dat} {He Ge : Hp} {pn : Option Addr} {σ : L2.St} {H G G0 : Hp} {ow : List (Option Addr)} {D : Addr} {vs : List V} {Q : VK} (R : Rs K He Ge pn σ H G ow E) (hD : Held K He H G pn ow D vs acc) (s0 : Same G0 G) (p : P (.lst acc) E)
    (q : ∀ v H' G' ow' d E', Rs K He Ge pn σ H' G' ow' E' → Same G0 G' → Dh K G' v d → P d E' → Q v H') : Q (.ref D) H := by
  obtain ⟨R2, s2⟩ := R.give hD.at_ hD.gn hD.hn hD.hw
  exact q (.ref D) H _ ow (.lst acc) E R2 (s0.trans s2) (.lst (.inl upd_same) (hD.all.same s2)) p
theorem Rs.geNone {He Ge : Hp} {pn : Option Addr} {σ : L2.St} {H G : Hp} {ow : List (Option Addr)} (R : Rs K He Ge pn σ H G ow E) {p : Addr} (h : H p = none) : Ge p = none := by
  cases e : Ge p with
  | none => rfl
  | some o =>
    have z := R.sub p o (R.grew p o e)
    rw [h] at z
    cases z
/-- [te for x in list if tt] -/
theorem ed_lcL {tl : TE} {tt : TT} {te : TE} {j : Nat} (h : Ed K tl E fun d E' => E'[j]? = some .no ∧ ∃ ds, d = .lst ds ∧ LoopC K tt te j ds [] E' P) : Ed K (tLc (iList K tl) (gName j) tt te [j]) E P := by
  intro He Ge pn σ H G ow Q S q
  refine h He Ge pn σ H G ow _ S fun v H1 G1 ow1 d E1 S1 s1 hd ⟨hE, ds, ed, L⟩ => ?_
  subst ed
  cases hd with
  | @lst l vs _ h1 h2 =>
    refine ⟨l, rfl, ⟨vs, (.inl (rd_same S1.sub h1))⟩, fun D hD => ?_⟩
    have hg := S1.geNone hD
    have hw : ∀ i : Nat, ow1[i]? ≠ some (some D) := fun i z => by
      obtain ⟨u, hu⟩ := S1.there z
      rw [hD] at hu
      cases hu
    refine lc_list (K := K) (a := l) (xs := vs) (fun i H => ∃ E G ow us acc, Rs K He Ge pn σ H G ow E ∧ E[j]? = some .no ∧ Same G1 G ∧ Held K He H G pn ow D us acc ∧ LoopC K tt te j (ds.drop i) acc E P)
      ⟨E1, G1, ow1, [], [], S1.allocO _ hD, hE, Same.refl G1, ⟨upd_same, S1.free hD, S1.freeE hD, hw, .nil⟩, L⟩ (fun i H _ ⟨E, G, ow, us, acc, S, _, s, _⟩ => .inl (rd_same S.sub (rd_same s h1))) (fun i x H' hx ⟨E, G, ow, us, acc, S, e, s, hH, L⟩ => ?_) (fun H' ⟨E, G, ow, us, acc, S, e, s, hH, L⟩ => ?_)
    · obtain ⟨d, e1, e2⟩ := h2.getV hx
      rw [drop_cons e1] at L
      refine lc_turn S e s hH (e2.same s) L hg fun H' G' ow' E' vs' acc' R' e' s' hH' L' => ⟨E', G', ow', vs', acc', R', e', s', hH', L'⟩
    · rw [h2.length, List.drop_length] at L
      exact lc_last S hH (s1.trans s) L q
/-- [te for x in range(n) if tt] -/
theorem ed_lc1 {ta : TE} {tt : TT} {te : TE} {j : Nat} (h : Ed K ta E fun d E' => E'[j]? = some .no ∧ ∃ n : Int, d = .int n ∧ -(2 ^ 62) ≤ n ∧ n < 2 ^ 62 ∧ LoopC K tt te j (upTo 0 n.toNat) [] E' P) : Ed K (tLc (iRng1 (tCons ta tNil)) (gName j) tt te [j]) E P := by
  intro He Ge pn σ H G ow Q S q
  refine h He Ge pn σ H G ow _ S fun v H1 G1 ow1 d E1 S1 s1 hd ⟨hE, n, ed, n1, n2, L⟩ => ?_
  subst ed
  cases hd
  refine ⟨n, rfl, n1, n2, fun D hD => ?_⟩
  have hg := S1.geNone hD
  have hw : ∀ i : Nat, ow1[i]? ≠ some (some D) := fun i z => by
    obtain ⟨u, hu⟩ := S1.there z
    rw [hD] at hu
    cases hu
  refine lc_range (lo := 0) (n := n.toNat) (fun i H => ∃ E G ow us acc, Rs K He Ge pn σ H G ow E ∧ E[j]? = some .no ∧ Same G1 G ∧ Held K He H G pn ow D us acc ∧ LoopC K tt te j ((upTo 0 n.toNat).drop i) acc E P)
    ⟨E1, G1, ow1, [], [], S1.allocO _ hD, hE, Same.refl G1, ⟨upd_same, S1.free hD, S1.freeE hD, hw, .nil⟩, L⟩ (fun i H' hi ⟨E, G, ow, us, acc, S, e, s, hH, L⟩ => ?_) (fun H' ⟨E, G, ow, us, acc, S, e, s, hH, L⟩ => ?_)
  · rw [drop_cons (upTo_get hi)] at L
    refine lc_turn S e s hH (.int _) L hg fun H' G' ow' E' vs' acc' R' e' s' hH' L' => ⟨E', G', ow', vs', acc', R', e', s', hH', L'⟩
  · have e : (upTo 0 n.toNat).drop n.toNat = [] := List.drop_eq_nil_of_le (by rw [upTo_length]; exact Nat.le_refl _)
    rw [e] at L
    exact lc_last S hH (s1.trans s) L q
end

/-! ### a def by its body -/
/-- how a body may end -/
def Fin (post : Dat → Prop) : Res → Prop
  | .nx _ => post .non
  | .rt d _ => post d
  | _ => False
def FinP (cs : List Int) (m : Int) (post : Dat → Prop) : Res → Prop
  | .nx E => (∃ a b, E[0]? = some (.pen cs a b) ∧ a ≤ m) ∧ post .non
  | .rt d E => (∃ a b, E[0]? = some (.pen cs a b) ∧ a ≤ m) ∧ post d
  | _ => False
/-- the names at the entry -/
def entry (N : List Str) (ds : List Dat) : List En := ds.map En.dat ++ List.replicate (N.length - ds.length) .no
section
variable {P : Program} {w : World} {K : Frag} {mg : Str → Option Value} {base : Heap}
theorem getJ {l : List (Option V)} {i : Nat} {x : V} (h : l[i]? = some (some x)) : l[i]?.join = some x := by rw [h]; rfl
theorem rs_start {N : List Str} {vs : List V} {ds : List Dat} {H G : Hp} (sub : Same G H) (h : DhAll K G vs ds) : Rs K H G none (L2.start N vs) H G (List.replicate (L2.start N vs).length none) (entry N ds) := by
  have el : (L2.start N vs).length = (entry N ds).length := by
    unfold L2.start entry
    rw [List.length_append, List.length_append, List.length_map, List.length_map, List.length_replicate, List.length_replicate, h.length]
  have own0 : ∀ (i : Nat) (l : Addr), (List.replicate (L2.start N vs).length (none : Option Addr))[i]? ≠ some (some l) := fun i l z => by
    have m := List.eq_of_mem_replicate (List.mem_of_getElem? z)
    cases m
  have ownN : ∀ i : Nat, (List.replicate (L2.start N vs).length (none : Option Addr))[i]?.join = none := fun i => by
    cases e : (List.replicate (L2.start N vs).length (none : Option Addr))[i]? with
    | none => rfl
    | some x =>
      have m := List.eq_of_mem_replicate (List.mem_of_getElem? e)
      rw [m]
      rfl
  refine ⟨sub, fun b o _ e => e, Same.refl G, fun a o e => .inl e, el, by rw [List.length_replicate]; exact el, fun i e q => ?_, fun i l z => absurd z (own0 i l), fun i j l z _ => absurd z (own0 i l), fun q z => by cases z⟩
  rw [ownN]
  unfold entry at q
  by_cases hi : i < ds.length
  · rw [List.getElem?_append_left (by simpa using hi), List.getElem?_map] at q
    cases e1 : ds[i]? with
    | none =>
      rw [e1] at q
      cases q
    | some d =>
      rw [e1] at q
      cases q
      obtain ⟨v, hv, hd⟩ := h.get e1
      refine ⟨rfl, v, ?_, hd⟩
      have : (L2.start N vs)[i]? = some (some v) := by
        unfold L2.start
        rw [List.getElem?_append_left (by rw [List.length_map, h.length]; exact hi), List.getElem?_map, hv]
        rfl
      rw [this]
      rfl
  · rw [List.getElem?_append_right (by rw [List.length_map]; omega)] at q
    have m := List.eq_of_mem_replicate (List.mem_of_getElem? q)
    rw [m]
    rfl
/-- a def over data keeps its promise -/
theorem fnF {x qual : Str} {st : Stmt} {f : Addr} {fd : FuncData} {N ps : List Str} {k : Nat} {pre : List Dat → Prop} {post : List Dat → Dat → Prop} (F : Fun K x qual st f fd) (S : FnScope N ps (defScope st)) (len : ∀ ds, pre ds → ds.length = ps.length)
    (hbody : ∀ (cdv : Value) (A : Around) (outer : List Env) (s : Shared) (H : Hp) (E : XK), Room k (A.deeper (PyProof.Rows.envOfC qual (defScope st) s.heap.objs.size f cdv)) →
      ∃ t, PSs (cxOf CX0 P w K mg base N qual (defScope st) f cdv A outer s H E).nox (defBody st) t ∧ ∀ ds, pre ds → Ws K t (entry N ds) (Fin (post ds))) : FnOk P w K mg base CX0 (k + 1) f fd ps (SpF K pre post) := by
  refine F.ok S (fun vs H Q E h => ?_) (fun cdv A outer s H vs Q E hr h => ?_)
  · obtain ⟨ds, G, _, hd, hp, _⟩ := h
    rw [hd.length]
    exact len ds hp
  · obtain ⟨t, ht, hw⟩ := hbody cdv A outer s H E hr
    obtain ⟨ds, G, sub, hd, hp, k⟩ := h
    refine ⟨t, ht, hw ds hp H G none _ H G _ _ (rs_start sub hd) (fun E' σ' H' G' ow' p R s => ?_) (fun E' σ' H' G' ow' p => p.elim) (fun E' σ' H' G' ow' p => p.elim) fun d E' v σ' H' G' ow' p R s hd' => ?_⟩
    · exact k .non H' G' .non (fun b o e => R.kept b o (fun z => by cases z) e) s R.sub R.new .non p
    · exact k v H' G' d (fun b o e => R.kept b o (fun z => by cases z) e) s R.sub R.new hd' p
end

/-! ### further operations -/
section
variable {X : Cx}
/-- list + list, wherever they stand -/
def rCatR : R2 := fun x y H Q => ∃ l b xs zs, x = .ref l ∧ y = .ref b ∧ Rd H l (.lst xs) ∧ Rd H b (.lst zs) ∧ xs.length + zs.length ≤ sizeLine ∧ ∀ p, H p = none → Q (.ref p) (upd H p (.lst (xs ++ zs)))
theorem op_catR : OpR X (binaryOp .Add) rCatR := by
  intro pins s σ H x y v u Q I rx ry h
  obtain ⟨l, b, xs, zs, rfl, rfl, hH, hB, hz, q⟩ := h
  cases rx
  cases ry
  obtain ⟨z, its, n, r, e⟩ := (show ObjOk X.prog X.w H s.heap l (.lst xs) from hH.ok I.hok)
  obtain ⟨z2, its2, n2, r2, e2⟩ := (show ObjOk X.prog X.w H s.heap b (.lst zs) from hB.ok I.hok)
  have l1 := r.length
  have l2 := r2.length
  refine PySem.P.add_list e e2 ?_ (by rw [List.size_toArray, List.size_toArray]; omega)
  have ea : its.toArray ++ its2.toArray = (its ++ its2).toArray := by simp
  rw [ea]
  exact ⟨.ref _, _, I.lnew (t' := s.toks) (r.append r2) (by rw [List.length_append]; omega), rfl, q _ I.fresh⟩
/-- a text times a number from 2 to 1000 -/
def repS (z : Str) (k : Int) : Str := ⟨(List.replicate k.toNat z.cps).foldl (· ++ ·) #[]⟩
def rRepS : R2 := fun x y H Q => ∃ z k, x = .str z ∧ y = .int k ∧ 2 ≤ k ∧ k ≤ 1000 ∧ 0 < z.length ∧ z.length ≤ 100 ∧ (repS z k).length ≤ sizeLine ∧ Q (.str (repS z k)) H
theorem op_repS : OpR X (binaryOp .Mult) rRepS := by
  intro pins s σ H x y v u Q I rx ry h
  obtain ⟨z, k, rfl, rfl, k1, k2, z1, z2, hz, q⟩ := h
  obtain ⟨t, rfl⟩ := rx
  obtain ⟨t', rfl⟩ := ry
  have c1 : ¬ k < 1 := by omega
  have c2 : (k == 1 || z.length == 0) = false := by
    have a : (k == 1) = false := by
      rw [beq_eq_false_iff_ne]
      omega
    have b : (z.length == 0) = false := by
      rw [beq_eq_false_iff_ne]
      omega
    rw [a, b]
    rfl
  refine PySem.P.mul_str ?_ (fun _ _ => ?_) (fun _ _ => ?_) ?_
  · have h1 : ¬ k < -(2 ^ 63 : Int) := by omega
    have h2 : ¬ k ≥ 2 ^ 63 := by omega
    rw [decide_eq_false h1, decide_eq_false h2]
    rfl
  · have p : (z.length : Int) * k ≤ 100 * 1000 := Int.mul_le_mul (by omega) k2 (by omega) (by decide)
    have d : (z.length : Int) ≤ (2 ^ 63 - 1) / k := Int.le_ediv_of_mul_le (by omega) (Int.le_trans p (by decide))
    omega
  · have p : z.length * k.toNat ≤ 100 * 1000 := Nat.mul_le_mul z2 (by omega)
    refine decide_eq_false ?_
    have q : (100 * 1000 : Nat) ≤ sizeLine := by decide
    omega
  · rw [if_neg c1, if_neg (by rw [c2]; exact Bool.false_ne_true)]
    exact ⟨hz, .str (repS z k), H, I.tok _, ⟨_, rfl⟩, q⟩
end

section
variable {K : Frag} {E : List En} {P : Dat → List En → Prop}
theorem ro_cat {xs ys : List Dat} (hz : xs.length + ys.length ≤ 1000) (p : P (.lst (xs ++ ys)) E) : Ro K rCatR (.lst xs) (.lst ys) E P := by
  intro He Ge pn σ H G ow u v Q R hu hv q
  cases hu with
  | @lst a vs _ h1 h2 =>
    cases hv with
    | @lst b ws _ h3 h4 =>
      refine ⟨a, b, vs, ws, rfl, rfl, rd_same R.sub h1, rd_same R.sub h3, ?_, fun l hl => ?_⟩
      · rw [h2.length, h4.length]
        exact sz1000 hz
      · obtain ⟨R2, s2⟩ := R.alloc (.lst (vs ++ ws)) hl
        exact q _ _ _ ow _ E R2 s2 (.lst (.inl upd_same) ((h2.same s2).append (h4.same s2))) p
theorem rep_all {G : Hp} {n : Nat} {vs : List V} {ds : List Dat} (h : DhAll K G vs ds) : DhAll K G (List.replicate n vs).flatten (List.replicate n ds).flatten := by
  induction n with
  | zero => exact .nil
  | succ n ih =>
    rw [List.replicate_succ, List.replicate_succ, List.flatten_cons, List.flatten_cons]
    exact h.append ih
/-- [..] * n, the list made on the way -/
theorem ed_rep {ta : TA} {tb : TE} (h : EdA K ta E fun ds E1 => ds.length ≤ 1000 ∧ Ed K tb E1 fun y E2 => ∃ n : Int, y = .int n ∧ n ≤ 1000 ∧ ds.length * n.toNat ≤ 1000 ∧ -(2 ^ 63) ≤ n ∧ P (.lst (List.replicate n.toNat ds).flatten) E2) : Ed K (tOp rRep (tLst ta) tb) E P := by
  intro He Ge pn σ H G ow Q R q
  refine h He Ge pn σ H G ow _ R fun vs H1 G1 ow1 ds E1 R1 s1 hds ⟨hl, h1⟩ => ⟨?_, fun l hl' => ?_⟩
  · rw [hds.length]
    exact sz1000 hl
  · obtain ⟨R2, s2⟩ := R1.alloc (.lst vs) hl'
    refine h1 He Ge pn σ _ _ ow1 _ R2 fun v H2 G2 ow2 y E2 R3 s3 hy ⟨n, ey, n1, n2, n3, p⟩ => ?_
    subst ey
    cases hy
    have there : H2 l = some (.lst vs) := R3.sub _ _ (s3 _ _ upd_same)
    refine ⟨l, n, vs, rfl, rfl, there, n3, by omega, ?_, fun m hm => ?_⟩
    · rw [hds.length]
      exact sz1000 n2
    · obtain ⟨R4, s4⟩ := R3.alloc (.lst (List.replicate n.toNat vs).flatten) hm
      exact q _ _ _ ow2 _ E2 R4 (((s1.trans s2).trans s3).trans s4) (.lst (.inl upd_same) (rep_all (((hds.same s2).same s3).same s4))) p
theorem ro_repS {z : Str} {k : Int} (k1 : 2 ≤ k) (k2 : k ≤ 1000) (z1 : 0 < z.length) (z2 : z.length ≤ 100) (hz : (repS z k).length ≤ sizeLine) (p : P (.str (repS z k)) E) : Ro K rRepS (.str z) (.int k) E P := by
  intro He Ge pn σ H G ow u v Q R hu hv q
  cases hu
  cases hv
  exact ⟨z, k, rfl, rfl, k1, k2, z1, z2, hz, q _ H G ow _ E R (Same.refl G) (.str _) p⟩
theorem all_drop {G : Hp} : ∀ {vs : List V} {ds : List Dat} (n : Nat), DhAll K G vs ds → DhAll K G (vs.drop n) (ds.drop n)
  | _, _, 0, h => h
  | _, _, _ + 1, .nil => .nil
  | _, _, n + 1, .cons _ h => all_drop n h
theorem all_take {G : Hp} : ∀ {vs : List V} {ds : List Dat} (n : Nat), DhAll K G vs ds → DhAll K G (vs.take n) (ds.take n)
  | _, _, 0, _ => .nil
  | _, _, _ + 1, .nil => .nil
  | _, _, n + 1, .cons a h => .cons a (all_take n h)
/-- xs[a:b] of data -/
def cutD (xs : List Dat) (lo hi : Option Int) : List Dat := (xs.drop (HT.sIx xs.length 0 lo)).take (HT.sIx xs.length xs.length hi - HT.sIx xs.length 0 lo)
def EdO (K : Frag) (t : TO) (E : List En) (P : Option Int → List En → Prop) : Prop :=
  ∀ (He Ge : Hp) (pn : Option Addr) (σ : L2.St) (H G : Hp) (ow : List (Option Addr)) (Q : Option Int → Hp → Prop), Rs K He Ge pn σ H G ow E →
    (∀ o H' G' ow' E', Rs K He Ge pn σ H' G' ow' E' → Same G G' → P o E' → Q o H') → t σ H Q
theorem edo_none {P : Option Int → List En → Prop} (p : P none E) : EdO K tNoPart E P := fun _ _ _ _ H G ow _ R q => q none H G ow E R (Same.refl G) p
theorem edo_some {te : TE} {P : Option Int → List En → Prop} (h : Ed K te E fun d E' => ∃ i, d = .int i ∧ P (some i) E') : EdO K (tPart te) E P := by
  intro He Ge pn σ H G ow Q R q
  refine h He Ge pn σ H G ow _ R fun v H1 G1 ow1 d E1 R1 s1 hd ⟨i, e, p⟩ => ?_
  subst e
  cases hd
  exact ⟨i, rfl, q (some i) H1 G1 ow1 E1 R1 s1 p⟩
theorem ed_slL {te : TE} {tl th : TO} (h : Ed K te E fun d E1 => ∃ ds, d = .lst ds ∧ EdO K tl E1 fun lo E2 => EdO K th E2 fun hi E3 => P (.lst (cutD ds lo hi)) E3) : Ed K (tSl (rSlL K) te tl th) E P := by
  intro He Ge pn σ H G ow Q R q
  refine h He Ge pn σ H G ow _ R fun v H1 G1 ow1 d E1 R1 s1 hd ⟨ds, e, h1⟩ => ?_
  subst e
  cases hd with
  | @lst a vs _ h2 h3 =>
    refine h1 He Ge pn σ H1 G1 ow1 _ R1 fun lo H2 G2 ow2 E2 R2 s2 h4 => ?_
    refine h4 He Ge pn σ H2 G2 ow2 _ R2 fun hi H3 G3 ow3 E3 R3 s3 p => ?_
    refine ⟨a, vs, rfl, .inl (rd_same R3.sub (rd_same s3 (rd_same s2 h2))), fun l hl => ?_⟩
    obtain ⟨R4, s4⟩ := R3.alloc (.lst (cutV vs lo hi)) hl
    have cut : DhAll K G1 (cutV vs lo hi) (cutD ds lo hi) := by
      unfold cutV cutD
      rw [h3.length]
      exact all_take _ (all_drop _ h3)
    exact q _ _ _ ow3 _ E3 R4 (((s1.trans s2).trans s3).trans s4) (.lst (.inl upd_same) (((cut.same s2).same s3).same s4)) p
/-- X() -/
theorem ed_exc0 {C : Addr} (p : P (.exc C []) E) : Ed K (tExc0 C) E P := by
  intro He Ge pn σ H G ow Q R q a ha
  obtain ⟨R2, s2⟩ := R.alloc (exo a C none) ha
  exact q _ _ _ ow _ E R2 s2 (.exc (.inl ⟨rfl, upd_same⟩) .nil) p
/-- the promise of an exception's __init__: the attributes fs made of what is handed in, newest first -/
def SpX (K : Frag) (C : Addr) (pre : List Dat → Prop) (fs : List Dat → List (Str × Dat)) : Sp := fun vs H Q _ => ∃ (a : Addr) (ws : List V) (ds : List Dat) (G : Hp), vs = .ref a :: ws ∧ H a = some (exo a C none) ∧ Same G H ∧ G a = none ∧ DhAll K G ws ds ∧ pre ds ∧
  ∀ H' G', (∀ b o, b ≠ a → H b = some o → H' b = some o) → Same G G' → Same G' H' → (∀ b o, G' b = some o → G b = some o ∨ b = a ∨ H b = none) → Dh K G' (.ref a) (.exc C (fs ds)) → Q .non H'
theorem ed_excI {C : Addr} {pre : List Dat → Prop} {fs : List Dat → List (Str × Dat)} {ta : TA} (h : EdA K ta E fun ds E' => ds.length ≤ 1000 ∧ pre ds ∧ P (.exc C (fs ds)) E') : Ed K (tMkX C (SpX K C pre fs) ta) E P := by
  intro He Ge pn σ H G ow Q R q
  refine h He Ge pn σ H G ow _ R fun vs H1 G1 ow1 ds E1 R1 s1 hds ⟨hl, hp, p⟩ => ⟨by rw [hds.length]; exact hl, fun a ha => ?_⟩
  refine ⟨a, vs, ds, G1, rfl, upd_same, fun b o e => ?_, R1.free ha, hds, hp, fun H' G' sh sg sub hn hd => ⟨rfl, ?_⟩⟩
  · have z := R1.sub b o e
    rw [upd_ne (ne_of_none z ha)]
    exact z
  · have sh' : Same H1 H' := fun b o e => sh b o (ne_of_none e ha) (by rw [upd_ne (ne_of_none e ha)]; exact e)
    refine q _ H' G' ow1 _ E1 (R1.after sh' sg sub fun b o e => ?_) (s1.trans sg) hd p
    rcases hn b o e with z | z | z
    · exact .inl z
    · rw [z]
      exact .inr ha
    · refine .inr ?_
      by_cases hb : b = a
      · rw [hb]
        exact ha
      · rw [upd_ne hb] at z
        exact z
end

/-! ### the pen -/
section
variable {K : Frag} {E : List En} {R : Res → Prop}
/-- pen[1] = e, pen[2] = e -/
theorem ws_pen {te : TE} {i : Nat} {k : Int} (h : Ed K te E fun d E' => ∃ cs a b n a' b', E'[i]? = some (.pen cs a b) ∧ d = .int n ∧ ((k = 1 ∧ 0 ≤ n ∧ a' = n ∧ b' = b) ∨ (k = 2 ∧ a' = a ∧ b' = n)) ∧ R (.nx (E'.set i (.pen cs a' b')))) :
    Ws K (tAsg te (gSub (tVar i) (tC (.int k)) rSetL)) E R := by
  intro He Ge pn σ H G ow D S f _ _ _
  refine h He Ge pn σ H G ow _ S fun v H1 G1 ow1 d E1 S1 s1 hd ⟨cs, a, b, n, a', b', hE, ed, hk, p⟩ => ?_
  subst ed
  cases hd
  obtain ⟨q, ho, hv, l, h1, h2, h3, h4⟩ := S1.ok i _ hE
  have ev : σ[i]? = some (some (.ref q)) := by
    cases z : σ[i]? with
    | none => rw [z] at hv; cases hv
    | some y => rw [z] at hv; rw [show y = some (.ref q) from hv]
  have hl : ow1[i]? = some (some q) := by
    cases z : ow1[i]? with
    | none => rw [z] at ho; cases ho
    | some y => rw [z] at ho; rw [show y = some q from ho]
  refine ⟨.ref q, ev, ?_⟩
  have lq : l ≠ q := fun z => by
    have g := (S1.own i q hl).1
    rw [z, g] at h2
    cases h2
  rcases hk with ⟨rfl, n0, rfl, rfl⟩ | ⟨rfl, rfl, rfl⟩
  · refine ⟨q, _, 1, 1, rfl, rfl, h1, rfl, f _ σ _ G1 ow1 p (S1.chg hl (fun _ _ _ _ => ⟨_, _, _, rfl⟩) ⟨q, rfl, hv, l, upd_same, h2, n0, h4⟩) s1⟩
  · refine ⟨q, _, 2, 2, rfl, rfl, h1, rfl, f _ σ _ G1 ow1 p (S1.chg hl (fun _ _ _ _ => ⟨_, _, _, rfl⟩) ⟨q, rfl, hv, l, upd_same, h2, h3, h4⟩) s1⟩
/-- the promise of the def that makes a pen of the script -/
def SpPen (K : Frag) : Sp := fun vs H Q _ => ∃ (s : Addr) (cs : List Int), vs = [.ref s] ∧ SqL K H s (cs.map V.int) ∧ ∀ (H' : Hp) (p l : Addr), Same H H' → H p = none → H l = none → p ≠ l → H' p = some (.lst [.ref l, .int 0, .int 0]) → H' l = some (.lst ((cs.take 60).map V.int)) → Q (.ref p) H'
end

/-! ### defs that are handed the pen; the law -/
section
variable {P : Program} {w : World} {K : Frag} {mg : Str → Option Value} {base : Heap}
theorem dhAll_ints {G : Hp} : ∀ cs : List Int, DhAll K G (cs.map V.int) (cs.map Dat.int)
  | [] => .nil
  | c :: r => .cons (.int c) (dhAll_ints r)
/-- the names of a def that is handed the pen first -/
def entryP (N : List Str) (cs : List Int) (a b : Int) (ds : List Dat) : List En := .pen cs a b :: entry N.tail ds
theorem rs_startP {x : Str} {N : List Str} {p : Addr} {vs : List V} {ds : List Dat} {H G : Hp} {cs : List Int} {a b : Int} (sub : Same G H) (gp : G p = none) (hp : Pen H G p cs a b) (h : DhAll K G vs ds) :
    Rs K H G (some p) (L2.start (x :: N) (.ref p :: vs)) H G (some p :: List.replicate (L2.start N vs).length none) (entryP (x :: N) cs a b ds) := by
  have R := rs_start (N := N) sub h
  have es : L2.start (x :: N) (.ref p :: vs) = some (.ref p) :: L2.start N vs := by
    unfold L2.start
    rw [List.map_cons, List.length_cons, List.length_cons, Nat.add_sub_add_right]
    rfl
  have own0 : ∀ (i : Nat) (l : Addr), (List.replicate (L2.start N vs).length (none : Option Addr))[i]? ≠ some (some l) := fun i l z => by
    have m := List.eq_of_mem_replicate (List.mem_of_getElem? z)
    cases m
  rw [es]
  refine ⟨sub, fun b o _ e => e, Same.refl G, fun a o e => .inl e, ?_, ?_, fun i e q => ?_, fun i l z => ?_, fun i j l z1 z2 => ?_, fun q hq => ?_⟩
  · show (L2.start N vs).length + 1 = (entry N ds).length + 1
    rw [R.lenS]
  · show (List.replicate (L2.start N vs).length (none : Option Addr)).length + 1 = (entry N ds).length + 1
    rw [R.lenO]
  · cases i with
    | zero =>
      have e' : En.pen cs a b = e := Option.some.inj q
      subst e'
      exact ⟨p, rfl, rfl, hp⟩
    | succ i => exact R.ok i e q
  · cases i with
    | zero =>
      have e' : some p = some l := Option.some.inj z
      cases e'
      exact ⟨gp, .inr rfl⟩
    | succ i => exact absurd z (own0 i l)
  · cases i with
    | zero =>
      cases j with
      | zero => rfl
      | succ j => exact absurd z2 (own0 j l)
    | succ i => exact absurd z1 (own0 i l)
  · cases hq
    exact ⟨0, cs, a, b, rfl, rfl, rfl⟩
theorem fnP_go {m : Int} {x : Str} {N : List Str} {t : TS} {pre : List Dat → Prop} {post : List Dat → Dat → Prop} {vs : List V} {H : Hp} {Q : VK} {E : XK}
    (hw : ∀ cs a b ds, 0 ≤ a → a + m ≤ 2 ^ 62 → cs.length ≤ 60 → pre ds → Ws K t (entryP (x :: N) cs a b ds) (FinP cs (a + m) (post ds))) (h : SpP K m pre post vs H Q E) : t { nx := fun _ H' => Q .non H', rt := Q } (L2.start (x :: N) vs) H := by
  obtain ⟨p, ws, ds, G, cs, i, r, rfl, sub, gp, hp, hd, hpre, hm, k⟩ := h
  obtain ⟨l, h1, h2, h3, h4⟩ := id hp
  have fin : ∀ {E' : List En} {σ' : L2.St} {H' G' : Hp} {ow' : List (Option Addr)} {v : V} {d : Dat}, (∃ a b, E'[0]? = some (En.pen cs a b) ∧ a ≤ i + m) → post ds d → Rs K H G (some p) σ' H' G' ow' E' → Same G G' → Dh K G' v d → Q v H' := by
    rintro E' σ' H' G' ow' v d ⟨a, b, hE, am⟩ hpo R s hd'
    obtain ⟨q, ho, hv, hq⟩ := R.ok 0 _ hE
    obtain ⟨i0, _, _, _, w0, w1, _⟩ := R.pen p rfl
    have hl0 : ow'[0]? = some (some q) := by
      cases z : ow'[0]? with
      | none => rw [z] at ho; cases ho
      | some y => rw [z] at ho; rw [show y = some q from ho]
    have qp : q = p := by
      rw [w0, hl0] at w1
      cases w1
      rfl
    subst qp
    exact k v H' G' d a b (fun b o n e => R.kept b o (fun z => n (Option.some.inj z).symm) e) s R.sub (R.own 0 q hl0).1 hq am R.new hd' hpo
  exact hw cs i r ds h3 hm h4 hpre H G (some p) _ H G _ _ (rs_startP sub gp hp hd) (fun E' σ' H' G' ow' p R s => fin p.1 p.2 R s .non) (fun E' σ' H' G' ow' p => p.elim) (fun E' σ' H' G' ow' p => p.elim) fun d E' v σ' H' G' ow' p R s hd' => fin p.1 p.2 R s hd'
theorem fnF_go {N : List Str} {t : TS} {pre : List Dat → Prop} {post : List Dat → Dat → Prop} {vs : List V} {H : Hp} {Q : VK} {E : XK}
    (hw : ∀ ds, pre ds → Ws K t (entry N ds) (Fin (post ds))) (h : SpF K pre post vs H Q E) : t { nx := fun _ H' => Q .non H', rt := Q } (L2.start N vs) H := by
  obtain ⟨ds, G, sub, hd, hp, k⟩ := h
  refine hw ds hp H G none _ H G _ _ (rs_start sub hd) (fun E' σ' H' G' ow' p R s => ?_) (fun E' σ' H' G' ow' p => p.elim) (fun E' σ' H' G' ow' p => p.elim) fun d E' v σ' H' G' ow' p R s hd' => ?_
  · exact k .non H' G' .non (fun b o e => R.kept b o (fun z => by cases z) e) s R.sub R.new .non p
  · exact k v H' G' d (fun b o e => R.kept b o (fun z => by cases z) e) s R.sub R.new hd' p
theorem spF_len {pre : List Dat → Prop} {post : List Dat → Dat → Prop} {n : Nat} (len : ∀ ds, pre ds → ds.length = n) {vs : List V} {H : Hp} {Q : VK} {E : XK} (h : SpF K pre post vs H Q E) : vs.length = n := by
  obtain ⟨ds, G, _, hd, hp, _⟩ := h
  rw [hd.length]
  exact len ds hp
theorem spP_len {m : Int} {pre : List Dat → Prop} {post : List Dat → Dat → Prop} {n : Nat} (len : ∀ ds, pre ds → ds.length + 1 = n) {vs : List V} {H : Hp} {Q : VK} {E : XK} (h : SpP K m pre post vs H Q E) : vs.length = n := by
  obtain ⟨p, ws, ds, G, cs, i, r, rfl, _, _, _, hd, hp, _⟩ := h
  rw [List.length_cons, hd.length]
  exact len ds hp
section
variable {x qual : Str} {st : Stmt} {f : Addr} {fd : FuncData} {N ps : List Str} {k : Nat} {m : Int} {pre : List Dat → Prop} {post : List Dat → Dat → Prop}
/-- a def that is handed the pen first -/
theorem fnP {y : Str} (F : Fun K x qual st f fd) (S : FnScope (y :: N) ps (defScope st)) (len : ∀ ds, pre ds → ds.length + 1 = ps.length)
    (hbody : ∀ (cdv : Value) (A : Around) (outer : List Env) (s : Shared) (H : Hp) (E : XK), Room k (A.deeper (PyProof.Rows.envOfC qual (defScope st) s.heap.objs.size f cdv)) →
      ∃ t, PSs (cxOf CX0 P w K mg base (y :: N) qual (defScope st) f cdv A outer s H E).nox (defBody st) t ∧ ∀ cs a b ds, 0 ≤ a → a + m ≤ 2 ^ 62 → cs.length ≤ 60 → pre ds → Ws K t (entryP (y :: N) cs a b ds) (FinP cs (a + m) (post ds))) : FnOk P w K mg base CX0 (k + 1) f fd ps (SpP K m pre post) := by
  refine F.ok S (fun vs H Q E h => spP_len len h) (fun cdv A outer s H vs Q E hr h => ?_)
  obtain ⟨t, ht, hw⟩ := hbody cdv A outer s H E hr
  exact ⟨t, ht, fnP_go hw h⟩
/-- the same where nothing is being written out -/
theorem fnFG (F : Fun K x qual st f fd) (S : FnScope N ps (defScope st)) (len : ∀ ds, pre ds → ds.length = ps.length)
    (hbody : ∀ (cdv : Value) (A : Around) (outer : List Env) (s : Shared) (H : Hp) (E : XK), Room k (A.deeper (PyProof.Rows.envOfC qual (defScope st) s.heap.objs.size f cdv)) → Gd.Qt (A.deeper (PyProof.Rows.envOfC qual (defScope st) s.heap.objs.size f cdv)) →
      ∃ t, PSs (cxOf CX0 P w K mg base N qual (defScope st) f cdv A outer s H E).nox (defBody st) t ∧ ∀ ds, pre ds → Ws K t (entry N ds) (Fin (post ds))) : Gd.FnG P w K mg base CX0 (k + 1) f fd ps (SpF K pre post) := by
  refine Gd.okG F S (fun vs H Q E h => spF_len len h) (fun cdv A outer s H vs Q E hr hg h => ?_)
  obtain ⟨t, ht, hw⟩ := hbody cdv A outer s H E hr hg
  exact ⟨t, ht, fnF_go hw h⟩
theorem fnPG {y : Str} (F : Fun K x qual st f fd) (S : FnScope (y :: N) ps (defScope st)) (len : ∀ ds, pre ds → ds.length + 1 = ps.length)
    (hbody : ∀ (cdv : Value) (A : Around) (outer : List Env) (s : Shared) (H : Hp) (E : XK), Room k (A.deeper (PyProof.Rows.envOfC qual (defScope st) s.heap.objs.size f cdv)) → Gd.Qt (A.deeper (PyProof.Rows.envOfC qual (defScope st) s.heap.objs.size f cdv)) →
      ∃ t, PSs (cxOf CX0 P w K mg base (y :: N) qual (defScope st) f cdv A outer s H E).nox (defBody st) t ∧ ∀ cs a b ds, 0 ≤ a → a + m ≤ 2 ^ 62 → cs.length ≤ 60 → pre ds → Ws K t (entryP (y :: N) cs a b ds) (FinP cs (a + m) (post ds))) : Gd.FnG P w K mg base CX0 (k + 1) f fd ps (SpP K m pre post) := by
  refine Gd.okG F S (fun vs H Q E h => spP_len len h) (fun cdv A outer s H vs Q E hr hg h => ?_)
  obtain ⟨t, ht, hw⟩ := hbody cdv A outer s H E hr hg
  exact ⟨t, ht, fnP_go hw h⟩
end
/-- the law's own promise -/
def SpLaw (K : Frag) : Sp := fun vs H Q _ => ∃ (a : Addr) (ns : List Int), vs = [.ref a] ∧ SqL K H a (ns.map V.int) ∧ ns.length ≤ 63 ∧ ∀ H', Q (.bl true) H'
/-- a law that takes a pen first: _law_pen_here = _law_pen(_law_script), then the rest -/
theorem law_pen {N : List Str} {t : TS} {vs : List V} {H : Hp} {Q : VK} {E : XK} (hN : 2 ≤ N.length) (hw : ∀ cs, cs.length ≤ 60 → Ws K t (.no :: .pen cs 0 0 :: List.replicate (N.length - 2) .no) (Fin fun d => d = .bl true)) (h : SpLaw K vs H Q E) :
    tSeq (tAsg (tCall (SpPen K) [] E0 (tCons (tVar 0) tNil)) (gName 1)) t { nx := fun _ H' => Q .non H', rt := Q } (L2.start N vs) H := by
  obtain ⟨a, ns, rfl, hS, hl, k⟩ := h
  have es : L2.start N [.ref a] = some (.ref a) :: List.replicate (N.length - 1) none := rfl
  have e2 : List.replicate (N.length - 1) (none : Option V) = none :: List.replicate (N.length - 2) none := by
    have z : N.length - 1 = (N.length - 2) + 1 := by omega
    rw [z, List.replicate_succ]
  rw [es, e2]
  refine ⟨.ref a, rfl, a, ns, rfl, hS, fun H' p l sh hp hlo npl h1 h2 => ?_⟩
  show t { nx := fun _ H' => Q .non H', rt := Q } (some (.ref a) :: some (.ref p) :: List.replicate (N.length - 2) none) H'
  let G : Hp := fun b => if b = l then some (.lst ((ns.take 60).map V.int)) else none
  have gl : G l = some (.lst ((ns.take 60).map V.int)) := if_pos rfl
  have gp : G p = none := if_neg npl
  have sub : Same G H' := fun b o e => by
    by_cases hb : b = l
    · rw [hb] at e ⊢
      rw [gl] at e
      rw [h2]
      exact e
    · have z : G b = none := if_neg hb
      rw [z] at e
      cases e
  have R : Rs K (fun _ => none) G none (some (.ref a) :: some (.ref p) :: List.replicate (N.length - 2) none) H' G (none :: some p :: List.replicate (N.length - 2) none) (.no :: .pen (ns.take 60) 0 0 :: List.replicate (N.length - 2) .no) := by
    have none2 : ∀ (i : Nat) (l : Addr), (List.replicate (N.length - 2) (none : Option Addr))[i]? ≠ some (some l) := fun i l z => by
      have m := List.eq_of_mem_replicate (List.mem_of_getElem? z)
      cases m
    refine ⟨sub, (fun b o _ e => by cases e), Same.refl G, fun b o e => .inl e, by simp, by simp, fun i e q => ?_, fun i m z => ?_, fun i j m z1 z2 => ?_, fun q hq => by cases hq⟩
    · match i, q with
      | 0, q =>
        have e' : En.no = e := Option.some.inj q
        subst e'
        rfl
      | 1, q =>
        have e' : En.pen (ns.take 60) 0 0 = e := Option.some.inj q
        subst e'
        exact ⟨p, rfl, rfl, l, h1, gl, Int.le_refl 0, by rw [List.length_take]; omega⟩
      | i + 2, q =>
        have q' : (List.replicate (N.length - 2) En.no)[i]? = some e := q
        have m := List.eq_of_mem_replicate (List.mem_of_getElem? q')
        subst m
        show (List.replicate (N.length - 2) (none : Option Addr))[i]?.join = none
        cases z : (List.replicate (N.length - 2) (none : Option Addr))[i]? with
        | none => rfl
        | some y =>
          have m := List.eq_of_mem_replicate (List.mem_of_getElem? z)
          subst m
          rfl
    · match i, z with
      | 0, z => cases z
      | 1, z =>
        have e' : some p = some m := Option.some.inj z
        cases e'
        exact ⟨gp, .inl rfl⟩
      | i + 2, z => exact absurd z (none2 i m)
    · match i, j, z1, z2 with
      | 0, _, z1, _ => cases z1
      | _, 0, _, z2 => cases z2
      | 1, 1, _, _ => rfl
      | i + 2, _, z1, _ => exact absurd z1 (none2 i m)
      | 1, j + 2, _, z2 => exact absurd z2 (none2 j m)
  refine hw (ns.take 60) (by rw [List.length_take]; omega) _ G none _ H' G _ _ R (fun E' σ' H' G' ow' p => ?_) (fun E' σ' H' G' ow' p => p.elim) (fun E' σ' H' G' ow' p => p.elim) fun d E' v σ' H' G' ow' p R s hd' => ?_
  · have p' : Dat.non = .bl true := p
    cases p'
  · have p' : d = .bl true := p
    subst p'
    cases hd'
    exact k H'
end

/-! ### the built-ins' rules under their readings' names -/
section
variable {X : Cx}
theorem c_len : CallR X (.builtin "len") (rLen X.K) := call_len_seq
theorem c_int : CallR X (.type "int") rInt := call_int1
theorem c_list : CallR X (.type "list") (rList X.K) := call_list_of
theorem c_tuple : CallR X (.type "tuple") (rTuple X.K) := call_tuple_of
end
/-! ### __init__ of an exception -/
def seqOf : Dat → List Dat
  | .lst xs => xs
  | .tup xs => xs
  | _ => []
def isSeq : Dat → Prop
  | .lst _ => True
  | .tup _ => True
  | _ => False
/-- within an __init__ of the exception at a: what it has by now -/
structure Ini (K : Frag) (a C : Addr) (H0 G0 H G : Hp) (fds : List (Str × Dat)) : Prop where
  kept : ∀ b o, b ≠ a → H0 b = some o → H b = some o
  grew : Same G0 G
  ga : G a = none
  sub : Same G H
  new : ∀ b o, G b = some o → G0 b = some o ∨ H0 b = none
  ha : ∃ o, H0 a = some o
  at_ : ∃ fs, DhFs K G fs fds ∧ ((fs = [] ∧ H a = some (exo a C none)) ∨ ∃ d, H a = some (exo a C (some d)) ∧ H d = some (exd d fs) ∧ G d = none ∧ H0 d = none ∧ d ≠ a)
section
variable {K : Frag} {a C : Addr} {B newId : String} {bmB : List Value} {H0 G0 H G : Hp} {fds : List (Str × Dat)}
theorem Ini.free (I : Ini K a C H0 G0 H G fds) {p : Addr} (h : H p = none) : G p = none ∧ H0 p = none ∧ p ≠ a := by
  have pa : p ≠ a := fun z => by
    obtain ⟨fs, _, h1⟩ := I.at_
    rcases h1 with ⟨_, h1⟩ | ⟨d, h1, _⟩
    · rw [z, h1] at h
      cases h
    · rw [z, h1] at h
      cases h
  refine ⟨?_, ?_, pa⟩
  · cases e : G p with
    | none => rfl
    | some o =>
      rw [I.sub p o e] at h
      cases h
  · cases e : H0 p with
    | none => rfl
    | some o =>
      rw [I.kept p o pa e] at h
      cases h
/-- a new object on the way -/
theorem Ini.alloc (I : Ini K a C H0 G0 H G fds) {p : Addr} (o : HO) (h : H p = none) : Ini K a C H0 G0 (upd H p o) (upd G p o) fds ∧ Same G (upd G p o) := by
  obtain ⟨gp, hp, pa⟩ := I.free h
  have sg : Same G (upd G p o) := fun b u e => by
    rw [upd_ne (ne_of_none e gp)]
    exact e
  refine ⟨⟨fun b u n e => ?_, I.grew.trans sg, by rw [upd_ne (Ne.symm pa)]; exact I.ga, fun b u e => ?_, fun b u e => ?_, I.ha, ?_⟩, sg⟩
  · rw [upd_ne (ne_of_none (I.kept b u n e) h)]
    exact I.kept b u n e
  · by_cases hb : b = p
    · rw [hb, upd_same] at e ⊢
      exact e
    · rw [upd_ne hb] at e ⊢
      exact I.sub b u e
  · by_cases hb : b = p
    · rw [hb]
      exact .inr hp
    · rw [upd_ne hb] at e
      exact I.new b u e
  · obtain ⟨fs, h1, h2⟩ := I.at_
    refine ⟨fs, h1.same sg, ?_⟩
    rcases h2 with ⟨h2, h3⟩ | ⟨d, h2, h3, h4, h5, h6⟩
    · exact .inl ⟨h2, by rw [upd_ne (Ne.symm pa)]; exact h3⟩
    · have dp : d ≠ p := fun z => by
        rw [z, h] at h3
        cases h3
      exact .inr ⟨d, by rw [upd_ne (Ne.symm pa)]; exact h2, by rw [upd_ne dp]; exact h3, by rw [upd_ne dp]; exact h4, h5, h6⟩
theorem Ini.put {f : Str} {te : TE} {d : Dat} {σ : L2.St} {D : Ends} (SF : StoreFacts B bmB "object.__setattr__" "object") (T : XC K bmB newId C) (hf : PySem.W.findIn K (.ref C) f = some none) (I : Ini K a C H0 G0 H G fds) (hl : fds.length ≤ 100) (h0 : σ[0]? = some (some (.ref a)))
    (he : ∀ Q : VK, (∀ v H' G', Ini K a C H0 G0 H' G' fds → Same G G' → Dh K G' v d → Q v H') → te σ H Q) (k : ∀ H' G', Ini K a C H0 G0 H' G' ((f, d) :: fds) → Same G G' → D.nx σ H') : tPut K f (tVar 0) te D σ H := by
  refine he _ fun v H1 G1 I1 s1 hv => ⟨.ref a, h0, a, C, B, newId, bmB, rfl, SF, T, hf, ?_⟩
  obtain ⟨fs, hfs, h2⟩ := I1.at_
  have len : ∀ {fs : List (Str × V)} {fds : List (Str × Dat)} {G : Hp}, DhFs K G fs fds → fs.length = fds.length := by
    intro fs
    induction fs with
    | nil =>
      intro fds G h
      cases h
      rfl
    | cons x r ih =>
      intro fds G h
      cases h with
      | cons h1 h2 => rw [List.length_cons, List.length_cons, ih h2]
  rcases h2 with ⟨h2, h3⟩ | ⟨d', h2, h3, h4, h5, h6⟩
  · refine .inl ⟨h3, fun dx hd ne => ?_⟩
    obtain ⟨gd, hd0, _⟩ := I1.free hd
    subst h2
    have ed : fds = [] := List.eq_nil_of_length_eq_zero (len hfs).symm
    subst ed
    refine k _ G1 ⟨fun b u n e => ?_, I1.grew, I1.ga, fun b u e => ?_, I1.new, I1.ha, [(f, v)], .cons hv .nil, .inr ⟨dx, upd_same, by rw [upd_ne ne, upd_same], gd, hd0, ne⟩⟩ s1
    · rw [upd_ne n, upd_ne (ne_of_none (I1.kept b u n e) hd)]
      exact I1.kept b u n e
    · rw [upd_ne (ne_of_none e I1.ga), upd_ne (ne_of_none e gd)]
      exact I1.sub b u e
  · refine .inr ⟨d', fs, h2, h3, by rw [len hfs]; omega, ?_⟩
    refine k _ G1 ⟨fun b u n e => ?_, I1.grew, I1.ga, fun b u e => ?_, I1.new, I1.ha, (f, v) :: fs, .cons hv hfs, .inr ⟨d', by rw [upd_ne (Ne.symm h6)]; exact h2, upd_same, h4, h5, h6⟩⟩ s1
    · rw [upd_ne (ne_of_none e h5)]
      exact I1.kept b u n e
    · rw [upd_ne (ne_of_none e h4)]
      exact I1.sub b u e
theorem Ini.fin {pre : List Dat → Prop} {F : List Dat → List (Str × Dat)} {ds : List Dat} {Q : VK} (I : Ini K a C H0 G0 H G (F ds)) (hn : F ds ≠ [])
    (k : ∀ H' G', (∀ b o, b ≠ a → H0 b = some o → H' b = some o) → Same G0 G' → Same G' H' → (∀ b o, G' b = some o → G0 b = some o ∨ b = a ∨ H0 b = none) → Dh K G' (.ref a) (.exc C (F ds)) → Q .non H') : Q .non H := by
  obtain ⟨fs, hfs, h2⟩ := I.at_
  rcases h2 with ⟨h2, h3⟩ | ⟨d, h2, h3, h4, h5, h6⟩
  · subst h2
    cases e : F ds with
    | nil => exact absurd e hn
    | cons x r =>
      rw [e] at hfs
      cases hfs
  · have sg : Same G (upd (upd G d (exd d fs)) a (exo a C (some d))) := fun b u e => by
      rw [upd_ne (ne_of_none e I.ga), upd_ne (ne_of_none e h4)]
      exact e
    refine k H (upd (upd G d (exd d fs)) a (exo a C (some d))) I.kept (I.grew.trans sg) (fun b u e => ?_) (fun b u e => ?_) (.exc (.inr ⟨d, upd_same, by rw [upd_ne h6, upd_same]⟩) (hfs.same sg))
    · by_cases hb : b = a
      · rw [hb, upd_same] at e
        rw [hb, h2]
        exact e
      · rw [upd_ne hb] at e
        by_cases hd : b = d
        · rw [hd, upd_same] at e
          rw [hd, h3]
          exact e
        · rw [upd_ne hd] at e
          exact I.sub b u e
    · by_cases hb : b = a
      · exact .inr (.inl hb)
      · rw [upd_ne hb] at e
        by_cases hd : b = d
        · rw [hd]
          exact .inr (.inr h5)
        · rw [upd_ne hd] at e
          rcases I.new b u e with z | z
          · exact .inl z
          · exact .inr (.inr z)
/-- a name's value -/
theorem ini_var {i : Nat} {v : V} {d : Dat} {σ : L2.St} (I : Ini K a C H0 G0 H G fds) (h : σ[i]? = some (some v)) (hv : Dh K G v d) (Q : VK) (q : ∀ v H' G', Ini K a C H0 G0 H' G' fds → Same G G' → Dh K G' v d → Q v H') : tVar i σ H Q :=
  ⟨v, h, q v H G I (Same.refl G) hv⟩
/-- tuple(name) -/
theorem ini_tup {i : Nat} {v : V} {d : Dat} {σ : L2.St} (I : Ini K a C H0 G0 H G fds) (h : σ[i]? = some (some v)) (hv : Dh K G v d) (hs : isSeq d) (Q : VK) (q : ∀ v H' G', Ini K a C H0 G0 H' G' fds → Same G G' → Dh K G' v (.tup (seqOf d)) → Q v H') :
    tCB (rTuple K) (tCons (tVar i) tNil) σ H Q := by
  refine ⟨v, h, ?_⟩
  cases hv with
  | @lst p vs ds h1 h2 =>
    refine ⟨p, vs, rfl, .inl ⟨.inl (rd_same I.sub h1), fun l hl => ?_⟩⟩
    obtain ⟨I2, s2⟩ := I.alloc (.tup vs) hl
    exact q (.ref l) _ _ I2 s2 (.tup (.inl (.inl upd_same)) (h2.same s2))
  | @tup p vs ds h1 h2 => exact ⟨p, vs, rfl, .inr ⟨sqT_same I.sub h1, q (.ref p) H G I (Same.refl G) (.tup h1 h2)⟩⟩
  | _ => exact hs.elim
theorem ini_start {pre : List Dat → Prop} {F : List Dat → List (Str × Dat)} {vs : List V} {Q : VK} {E : XK} (h : SpX K C pre F vs H Q E) : ∃ (a : Addr) (ws : List V) (ds : List Dat) (G : Hp), vs = .ref a :: ws ∧ DhAll K G ws ds ∧ pre ds ∧ Ini K a C H G H G [] ∧
    ∀ H' G', (∀ b o, b ≠ a → H b = some o → H' b = some o) → Same G G' → Same G' H' → (∀ b o, G' b = some o → G b = some o ∨ b = a ∨ H b = none) → Dh K G' (.ref a) (.exc C (F ds)) → Q .non H' := by
  obtain ⟨a, ws, ds, G, e, ha, sub, ga, hd, hp, k⟩ := h
  exact ⟨a, ws, ds, G, e, hd, hp, ⟨fun _ _ _ e => e, Same.refl G, ga, sub, fun _ _ e => .inl e, ⟨_, ha⟩, [], .nil, .inl ⟨rfl, ha⟩⟩, k⟩
/-- def __init__(self, x): self.f = x -/
theorem init_a {N : List Str} {f : Str} {vs : List V} {Q : VK} {E : XK} (SF : StoreFacts B bmB "object.__setattr__" "object") (T : XC K bmB newId C) (hf : PySem.W.findIn K (.ref C) f = some none) (hN : N.length = 2) (h : SpX K C (fun ds => ds.length = 1) (fun ds => [(f, ds.getD 0 .non)]) vs H Q E) :
    tPut K f (tVar 0) (tVar 1) { nx := fun _ H' => Q .non H', rt := Q } (L2.start N vs) H := by
  obtain ⟨a, ws, ds, G, rfl, hd, hl, I, k⟩ := ini_start h
  match ds, hd, hl with
  | [d], .cons (v := v) hv .nil, _ => exact I.put SF T hf (Nat.zero_le _) rfl (ini_var I rfl hv) fun H' G' I' s => I'.fin (pre := fun _ => True) (F := fun ds => [(f, ds.getD 0 .non)]) (ds := [d]) (by intro z; cases z) k
/-- def __init__(self, x): self.f = tuple(x) -/
theorem init_at {N : List Str} {f : Str} {vs : List V} {Q : VK} {E : XK} (SF : StoreFacts B bmB "object.__setattr__" "object") (T : XC K bmB newId C) (hf : PySem.W.findIn K (.ref C) f = some none) (hN : N.length = 2) (h : SpX K C (fun ds => ds.length = 1 ∧ isSeq (ds.getD 0 .non)) (fun ds => [(f, .tup (seqOf (ds.getD 0 .non)))]) vs H Q E) :
    tPut K f (tVar 0) (tCB (rTuple K) (tCons (tVar 1) tNil)) { nx := fun _ H' => Q .non H', rt := Q } (L2.start N vs) H := by
  obtain ⟨a, ws, ds, G, rfl, hd, hl, I, k⟩ := ini_start h
  match ds, hd, hl with
  | [d], .cons (v := v) hv .nil, hl => exact I.put SF T hf (Nat.zero_le _) rfl (ini_tup I rfl hv hl.2) fun H' G' I' s => I'.fin (pre := fun _ => True) (F := fun ds => [(f, .tup (seqOf (ds.getD 0 .non)))]) (ds := [d]) (by intro z; cases z) k
/-- def __init__(self, x, y): self.f = x; self.g = y -/
theorem init_aa {N : List Str} {f g : Str} {vs : List V} {Q : VK} {E : XK} (SF : StoreFacts B bmB "object.__setattr__" "object") (T : XC K bmB newId C) (hf : PySem.W.findIn K (.ref C) f = some none) (hg : PySem.W.findIn K (.ref C) g = some none) (hN : N.length = 3)
    (h : SpX K C (fun ds => ds.length = 2) (fun ds => [(g, ds.getD 1 .non), (f, ds.getD 0 .non)]) vs H Q E) :
    tSeq (tPut K f (tVar 0) (tVar 1)) (tPut K g (tVar 0) (tVar 2)) { nx := fun _ H' => Q .non H', rt := Q } (L2.start N vs) H := by
  obtain ⟨a, ws, ds, G, rfl, hd, hl, I, k⟩ := ini_start h
  match ds, hd, hl with
  | [d, e], .cons (v := v) hv (.cons (v := u) hu .nil), _ =>
    refine I.put SF T hf (Nat.zero_le _) rfl (ini_var I rfl hv) fun H1 G1 I1 s1 => ?_
    exact I1.put SF T hg (show 1 ≤ 100 by decide) rfl (ini_var I1 rfl (hu.same s1)) fun H' G' I' s => I'.fin (pre := fun _ => True) (F := fun ds => [(g, ds.getD 1 .non), (f, ds.getD 0 .non)]) (ds := [d, e]) (by intro z; cases z) k
/-- def __init__(self, x, y): self.f = x; self.g = tuple(y) -/
theorem init_aat {N : List Str} {f g : Str} {vs : List V} {Q : VK} {E : XK} (SF : StoreFacts B bmB "object.__setattr__" "object") (T : XC K bmB newId C) (hf : PySem.W.findIn K (.ref C) f = some none) (hg : PySem.W.findIn K (.ref C) g = some none) (hN : N.length = 3)
    (h : SpX K C (fun ds => ds.length = 2 ∧ isSeq (ds.getD 1 .non)) (fun ds => [(g, .tup (seqOf (ds.getD 1 .non))), (f, ds.getD 0 .non)]) vs H Q E) :
    tSeq (tPut K f (tVar 0) (tVar 1)) (tPut K g (tVar 0) (tCB (rTuple K) (tCons (tVar 2) tNil))) { nx := fun _ H' => Q .non H', rt := Q } (L2.start N vs) H := by
  obtain ⟨a, ws, ds, G, rfl, hd, hl, I, k⟩ := ini_start h
  match ds, hd, hl with
  | [d, e], .cons (v := v) hv (.cons (v := u) hu .nil), hl =>
    refine I.put SF T hf (Nat.zero_le _) rfl (ini_var I rfl hv) fun H1 G1 I1 s1 => ?_
    exact I1.put SF T hg (show 1 ≤ 100 by decide) rfl (ini_tup I1 rfl (hu.same s1) hl.2) fun H' G' I' s => I'.fin (pre := fun _ => True) (F := fun ds => [(g, .tup (seqOf (ds.getD 1 .non))), (f, ds.getD 0 .non)]) (ds := [d, e]) (by intro z; cases z) k
theorem spX_len {pre : List Dat → Prop} {F : List Dat → List (Str × Dat)} {n : Nat} (len : ∀ ds, pre ds → ds.length + 1 = n) {vs : List V} {Q : VK} {E : XK} (h : SpX K C pre F vs H Q E) : vs.length = n := by
  obtain ⟨a, ws, ds, G, rfl, _, _, _, hd, hp, _⟩ := h
  rw [List.length_cons, hd.length]
  exact len ds hp
end

/-! ### several targets; loops by an invariant, comprehensions by a function -/
section
variable {K : Frag} {E : List En} {P : Dat → List En → Prop} {R : Res → Prop}
def PutAll (K : Frag) (gs : TGs) (ds : List Dat) (E : List En) (P : List En → Prop) : Prop :=
  ∀ (He Ge : Hp) (pn : Option Addr) (σ : L2.St) (H G : Hp) (ow : List (Option Addr)) (vs : List V) (Q : L2.St → Hp → Prop), Rs K He Ge pn σ H G ow E → DhAll K G vs ds →
    (∀ E' σ' ow', Rs K He Ge pn σ' H G ow' E' → P E' → Q σ' H) → gs vs σ H Q
theorem put_nil {P : List En → Prop} (p : P E) : PutAll K gNil [] E P := by
  intro He Ge pn σ H G ow vs Q S hd q
  cases hd
  exact ⟨rfl, q E σ ow S p⟩
theorem put_cons {P : List En → Prop} {gs : TGs} {i : Nat} {d : Dat} {ds : List Dat} (hi : i < E.length) (hp : NoPen E[i]?) (h : PutAll K gs ds (E.set i (.dat d)) P) : PutAll K (gCons (gName i) gs) (d :: ds) E P := by
  intro He Ge pn σ H G ow vs Q S hd q
  cases hd with
  | @cons v r _ _ hv hr => exact ⟨v, r, rfl, h He Ge pn _ H G _ r Q (S.put hi hp ⟨rfl, v, rfl, hv⟩) hr q⟩
/-- a, b, .. = e, e a tuple -/
theorem ws_asgT {te : TE} {n : Nat} {gs : TGs} (h : Ed K te E fun d E' => ∃ ds, d = .tup ds ∧ ds.length = n ∧ PutAll K gs ds E' fun E2 => R (.nx E2)) : Ws K (tAsg te (gTup K n gs)) E R := by
  intro He Ge pn σ H G ow D S a _ _ _
  refine h He Ge pn σ H G ow _ S fun v H1 G1 ow1 d E1 S1 s1 hd ⟨ds, ed, hn, hp⟩ => ?_
  subst ed
  cases hd with
  | @tup l vs _ h1 h2 =>
    refine ⟨l, vs, rfl, sqT_same S1.sub h1, by rw [h2.length]; exact hn, ?_⟩
    exact hp He Ge pn σ H1 G1 ow1 vs _ S1 h2 fun E2 σ2 ow2 S2 p => a E2 σ2 H1 G1 ow2 p S2 s1
theorem loop_inv {tb : TS} {j : Nat} {ds : List Dat} (Inv : Nat → List En → Prop) (h0 : Inv 0 E)
    (hs : ∀ i d E, ds[i]? = some d → Inv i E → j < E.length ∧ NoPen E[j]? ∧ Ws K tb (E.set j (.dat d)) fun r => match r with | .nx E1 => Inv (i + 1) E1 | .ct E1 => Inv (i + 1) E1 | .bk E1 => R (.nx E1) | .rt v E1 => R (.rt v E1))
    (hd : ∀ E, Inv ds.length E → R (.nx E)) : Loop K tb j ds E R := by
  have go : ∀ (n : Nat) (i : Nat) (E : List En), n = ds.length - i → i ≤ ds.length → Inv i E → Loop K tb j (ds.drop i) E R := by
    intro n
    induction n with
    | zero =>
      intro i E hn hi p
      have e : i = ds.length := by omega
      subst e
      rw [List.drop_length]
      exact hd E p
    | succ n ih =>
      intro i E hn hi p
      have hlt : i < ds.length := by omega
      have hx : ds[i]? = some ds[i] := List.getElem?_eq_getElem hlt
      rw [drop_cons hx]
      obtain ⟨a, b, w⟩ := hs i ds[i] E hx p
      refine ⟨a, b, w.imp fun r hr => ?_⟩
      cases r with
      | nx E1 => exact ih (i + 1) E1 (by omega) (by omega) hr
      | ct E1 => exact ih (i + 1) E1 (by omega) (by omega) hr
      | bk E1 => exact hr
      | rt v E1 => exact hr
  have z := go ds.length 0 E rfl (Nat.zero_le _) h0
  rw [List.drop_zero] at z
  exact z
theorem set_back {j : Nat} (hE : E[j]? = some .no) (x : En) : (E.set j x).set j .no = E := by
  rw [List.set_set]
  refine List.ext_getElem? fun i => ?_
  by_cases hi : j = i
  · subst hi
    rw [List.getElem?_set_self (List.getElem?_eq_some_iff.mp hE).1, hE]
  · rw [List.getElem?_set_ne hi]
/-- [te for x in ds], te gives f x and leaves all as it is -/
theorem loopC_map {te : TE} {j : Nat} (f : Dat → Dat) (hE : E[j]? = some .no) : ∀ (ds acc : List Dat), acc.length + ds.length ≤ 1000 → (∀ d ∈ ds, Ed K te (E.set j (.dat d)) fun y E' => y = f d ∧ E' = E.set j (.dat d)) → P (.lst (acc ++ ds.map f)) E → LoopC K tYes te j ds acc E P
  | [], acc, _, _, p => by
    rw [List.map_nil, List.append_nil] at p
    exact p
  | d :: ds, acc, hl, h, p => by
    have hj : j < E.length := (List.getElem?_eq_some_iff.mp hE).1
    rw [List.length_cons] at hl
    refine ⟨by omega, fun He Ge pn σ H G ow Q S q => q true H G ow _ S (Same.refl G) ?_⟩
    refine Eq.mpr (if_pos (show true = true from rfl)) ?_
    refine (h d List.mem_cons_self).imp fun y E' ⟨hy, he⟩ => ?_
    subst hy
    subst he
    refine ⟨⟨d, List.getElem?_set_self hj⟩, ?_⟩
    rw [set_back hE]
    refine loopC_map f hE ds (acc ++ [f d]) (by rw [List.length_append, List.length_singleton]; omega) (fun d' hd => h d' (List.mem_cons_of_mem _ hd)) ?_
    rw [List.map_cons] at p
    rw [List.append_assoc]
    exact p
theorem rc_tupleS {z : Dat} {E : List En} {P : Dat → List En → Prop} (h : isSeq z) (p : P (.tup (seqOf z)) E) : Rc K (rTuple K) [z] E P := by
  cases z with
  | lst xs => exact rc_tupleL p
  | tup xs => exact rc_tupleT p
  | _ => exact h.elim
/-- what an element of a loop leaves behind -/
def loopR (K : Frag) (tb : TS) (j : Nat) (ds : List Dat) (R : Res → Prop) : Res → Prop
  | .nx E1 => Loop K tb j ds E1 R
  | .ct E1 => Loop K tb j ds E1 R
  | .bk E1 => R (.nx E1)
  | .rt v E1 => R (.rt v E1)
theorem loop_cons {tb : TS} {j : Nat} {d : Dat} {ds : List Dat} {E : List En} {R : Res → Prop} (h : j < E.length) (hn : NoPen E[j]?) (hw : Ws K tb (E.set j (.dat d)) (loopR K tb j ds R)) : Loop K tb j (d :: ds) E R :=
  ⟨h, hn, hw.imp fun r p => by cases r <;> exact p⟩
theorem loop_nil {tb : TS} {j : Nat} {E : List En} {R : Res → Prop} (h : R (.nx E)) : Loop K tb j [] E R := h
theorem loopR_nx {tb : TS} {j : Nat} {ds : List Dat} {E : List En} {R : Res → Prop} (h : Loop K tb j ds E R) : loopR K tb j ds R (.nx E) := h
/-- what can be written out -/
def repOk (d : Dat) : Bool := match d.py with
  | some a => a.showable && decide (a.depth ≤ 60) && decide (a.shown.length ≤ 100000) && !a.hasDict && PyData.strOk a.shown
  | none => false
def repD (d : Dat) : Str := (d.py.getD .none).shown
theorem rc_repB {d : Dat} {E : List En} {P : Dat → List En → Prop} (h : repOk d = true) (p : P (.str (repD d)) E) : Rc K (Gd.rRepr K) [d] E P := by
  unfold repOk at h
  split at h
  · rename_i a ha
    simp only [Bool.and_eq_true, decide_eq_true_eq, Bool.not_eq_true'] at h
    obtain ⟨⟨⟨⟨h1, h2⟩, h3⟩, h4⟩, _⟩ := h
    refine rc_repr ha h1 h2 (Nat.le_trans h3 (by decide)) h4 ?_
    rw [repD, ha] at p
    exact p
  · cases h
theorem ro_neRep {d : Dat} {E : List En} {P : Dat → List En → Prop} (h : repOk d = true) (p : P (.bl false) E) : Ro K (rNeD K) (.str (repD d)) (.str (repD d)) E P := by
  have h5 : PyData.strOk (repD d) = true := by
    unfold repOk at h
    split at h
    · rename_i a ha
      simp only [Bool.and_eq_true] at h
      rw [repD, ha]
      exact h.2
    · cases h
  have h6 : SeqAt.shaped (.str (repD d)) = true := by simp [SeqAt.shaped, PyData.canLay0, PyData.depth, h5]
  refine ro_neD (a := .str (repD d)) (b := .str (repD d)) rfl rfl h6 h6 ?_
  have e : PyData.eqv (.str (repD d)) (.str (repD d)) = true := by simp [PyData.eqv]
  rw [e]
  exact p
def eqOk (d : Dat) : Bool := match d.py with
  | some a => SeqAt.shaped a && PyData.eqv a a
  | none => false
theorem ro_eqSame {d : Dat} {E : List En} {P : Dat → List En → Prop} (h : eqOk d = true) (p : P (.bl true) E) : Ro K (rEqD K) d d E P := by
  unfold eqOk at h
  split at h
  · rename_i a ha
    simp only [Bool.and_eq_true] at h
    refine ro_eqD ha ha h.1 h.1 ?_
    rw [h.2]
    exact p
  · cases h
theorem ro_neSameD {d : Dat} {E : List En} {P : Dat → List En → Prop} (h : eqOk d = true) (p : P (.bl false) E) : Ro K (rNeD K) d d E P := by
  unfold eqOk at h
  split at h
  · rename_i a ha
    simp only [Bool.and_eq_true] at h
    refine ro_neD ha ha h.1 h.1 ?_
    rw [h.2]
    exact p
  · cases h
theorem ro_eqI {i j : Int} (p : P (.bl (decide (i = j))) E) : Ro K rEq (.int i) (.int j) E P := by
  intro He Ge pn σ H G ow u v Q S hu hv q
  cases hu
  cases hv
  have e : decide (V.int i = V.int j) = decide (i = j) := by
    by_cases h : i = j
    · rw [h]
      simp
    · have h' : ¬ V.int i = V.int j := fun z => h (V.int.inj z)
      rw [decide_eq_false h, decide_eq_false h']
  refine ⟨rfl, ?_⟩
  rw [e]
  exact q _ H G ow _ E S (Same.refl G) (.bl _) p
theorem ro_eqS {i j : Str} (p : P (.bl (decide (i = j))) E) : Ro K rEq (.str i) (.str j) E P := by
  intro He Ge pn σ H G ow u v Q S hu hv q
  cases hu
  cases hv
  have e : decide (V.str i = V.str j) = decide (i = j) := by
    by_cases h : i = j
    · rw [h]
      simp
    · have h' : ¬ V.str i = V.str j := fun z => h (V.str.inj z)
      rw [decide_eq_false h, decide_eq_false h']
  refine ⟨rfl, ?_⟩
  rw [e]
  exact q _ H G ow _ E S (Same.refl G) (.bl _) p
end
/-- a def that stands, with its promise -/
def Has (P : Program) (w : World) (K : Frag) (mg : Str → Option Value) (base : Heap) (k : Nat) (f : Addr) (ps : List Str) (sp : Sp) : Prop := ∃ fd, FnOk P w K mg base CX0 k f fd ps sp ∧ Binds K fd ps []
def HasG (P : Program) (w : World) (K : Frag) (mg : Str → Option Value) (base : Heap) (k : Nat) (f : Addr) (ps : List Str) (sp : Sp) : Prop := ∃ fd, Gd.FnG P w K mg base CX0 k f fd ps sp ∧ Binds K fd ps []
/-- what the top's text says of a def -/
structure At (K : Frag) (mg : Str → Option Value) (x : Str) (st : Stmt) (f : Addr) (ps : List Str) : Prop where
  mg_ : mg x = some (.ref f)
  fn : ∃ fd, Fun K x x st f fd ∧ Binds K fd ps []
  kp : PySem.W.keepIn K (.ref f) = true
/-- of an exception's __init__ -/
structure AtI (K : Frag) (q : Str) (st : Stmt) (C f : Addr) (ps : List Str) : Prop where
  ini : PySem.W.findIn K (.ref C) "__init__" = some (some (.ref f))
  ty : PySem.W.typeIn K (.ref f) = some (.type "function")
  fn : ∃ fd, Fun K "__init__" q st f fd ∧ Binds K fd ps []

/-! ### data of numbers -/
theorem pyAll_ints : ∀ cs : List Int, pyAll (cs.map Dat.int) = some (cs.map PyData.int)
  | [] => rfl
  | c :: r => by simp [pyAll, Dat.py, pyAll_ints r]
theorem py_ints (cs : List Int) : (Dat.lst (cs.map Dat.int)).py = some (.list (cs.map PyData.int)) := by simp [Dat.py, pyAll_ints]
theorem lay_ints : ∀ cs : List Int, PyData.canLayAll0 (cs.map PyData.int) = true
  | [] => rfl
  | c :: r => by simp [PyData.canLayAll0, PyData.canLay0, lay_ints r]
theorem depth_ints : ∀ cs : List Int, PyData.depthAll (cs.map PyData.int) = 0
  | [] => rfl
  | c :: r => by simp [PyData.depthAll, PyData.depth, depth_ints r]
theorem shaped_ints (cs : List Int) : SeqAt.shaped (.list (cs.map PyData.int)) = true := by simp [SeqAt.shaped, PyData.canLay0, lay_ints, PyData.depth, depth_ints]
theorem pyAll_bls : ∀ bs : List Bool, pyAll (bs.map Dat.bl) = some (bs.map PyData.bool)
  | [] => rfl
  | b :: bs => by simp [pyAll, Dat.py, pyAll_bls bs]
theorem lay_bls : ∀ bs : List Bool, PyData.canLayAll0 (bs.map PyData.bool) = true
  | [] => rfl
  | b :: bs => by simp [PyData.canLayAll0, PyData.canLay0, lay_bls bs]
theorem depth_bls : ∀ bs : List Bool, PyData.depthAll (bs.map PyData.bool) = 0
  | [] => rfl
  | b :: bs => by simp [PyData.depthAll, PyData.depth, depth_bls bs]
theorem eqv_bls : ∀ bs : List Bool, PyData.eqvAll (bs.map PyData.bool) (bs.map PyData.bool) = true
  | [] => by simp [PyData.eqvAll]
  | b :: bs => by simp [PyData.eqvAll, PyData.eqv, eqv_bls bs]
theorem eqOk_bls (bs : List Bool) : eqOk (.lst (bs.map Dat.bl)) = true := by
  have e : (Dat.lst (bs.map Dat.bl)).py = some (.list (bs.map PyData.bool)) := by simp [Dat.py, pyAll_bls]
  unfold eqOk
  rw [e]
  simp [SeqAt.shaped, PyData.canLay0, lay_bls, PyData.depth, depth_bls, PyData.eqv, eqv_bls]
theorem at_mem (l : List Dat) {i : Int} (h : 0 ≤ i) (h2 : i < (l.length : Nat)) : ∃ x, atI l i = some x ∧ x ∈ l := by
  obtain ⟨n, rfl⟩ := Int.eq_ofNat_of_zero_le h
  have hl : n < l.length := by omega
  exact ⟨l[n], atI_nat (List.getElem?_eq_getElem hl), List.getElem_mem hl⟩
end Dd

/-! The errors: each of its own class alone, its arguments kept. -/
namespace K11
open PySem L2 Xv Dd
def top (i : Nat) : Stmt := PySem.Challenge.pw_worthhouse_k11_errors.main.body.getD i (.Pass ⟨0, 0, 0, 0⟩)
abbrev s_law_pen : Stmt := top 37
abbrev s_law_next : Stmt := top 38
abbrev s_law_draw : Stmt := top 39
abbrev s_law_kinds : Stmt := top 40
abbrev s_law_bases : Stmt := top 41
abbrev s_law_plain : Stmt := top 42
abbrev s_law_named : Stmt := top 43
abbrev s_law_kept : Stmt := top 44
abbrev slaw : Stmt := top 45
abbrev iNotLinked : Stmt := inClass (top 15) 0
abbrev iNotKept : Stmt := inClass (top 16) 0
abbrev iBadFrame : Stmt := inClass (top 17) 0
abbrev iBadName : Stmt := inClass (top 18) 0
abbrev iBadThing : Stmt := inClass (top 19) 0
abbrev iBadRule : Stmt := inClass (top 20) 0
abbrev iBadRow : Stmt := inClass (top 21) 0
abbrev iNoLine : Stmt := inClass (top 22) 0
abbrev iNoState : Stmt := inClass (top 23) 0
abbrev iBadText : Stmt := inClass (top 24) 0
abbrev iBadQuestion : Stmt := inClass (top 25) 0
abbrev iTwiceTold : Stmt := inClass (top 26) 0
abbrev iClash : Stmt := inClass (top 27) 0
abbrev iUnknownWorth : Stmt := inClass (top 29) 0
abbrev iUnknownName : Stmt := inClass (top 30) 0
abbrev iUnknownThing : Stmt := inClass (top 31) 0
abbrev iUnknownLabel : Stmt := inClass (top 32) 0
abbrev iNotTold : Stmt := inClass (top 33) 0
abbrev iUnknownFact : Stmt := inClass (top 34) 0
abbrev iNoRow : Stmt := inClass (top 35) 0
abbrev veB : List Value := [.type "ValueError", .type "Exception", .type "BaseException", .type "object"]
abbrev leB : List Value := [.type "LookupError", .type "Exception", .type "BaseException", .type "object"]
/-- what the top has written: the classes at c 0 .. c 34, their __init__ at fi, the defs at ff -/
structure Txt (K : Dd.Frag) (mg : Str → Option Value) (c fi ff : Nat → Addr) : Prop where
  m0 : mg "BadScale" = some (.ref (c 0))
  m1 : mg "BadImages" = some (.ref (c 1))
  m2 : mg "BadTable" = some (.ref (c 2))
  m3 : mg "BadTree" = some (.ref (c 3))
  m4 : mg "BadBlocks" = some (.ref (c 4))
  m5 : mg "BadPaper" = some (.ref (c 5))
  m6 : mg "BadTurn" = some (.ref (c 6))
  m7 : mg "BadDeed" = some (.ref (c 7))
  m8 : mg "MixedScales" = some (.ref (c 8))
  m9 : mg "MixedFrames" = some (.ref (c 9))
  m10 : mg "NotSteady" = some (.ref (c 10))
  m11 : mg "TooMany" = some (.ref (c 11))
  m12 : mg "NothingDone" = some (.ref (c 12))
  m13 : mg "NotLinked" = some (.ref (c 13))
  m14 : mg "NotKept" = some (.ref (c 14))
  m15 : mg "BadFrame" = some (.ref (c 15))
  m16 : mg "BadName" = some (.ref (c 16))
  m17 : mg "BadThing" = some (.ref (c 17))
  m18 : mg "BadRule" = some (.ref (c 18))
  m19 : mg "BadRow" = some (.ref (c 19))
  m20 : mg "NoLine" = some (.ref (c 20))
  m21 : mg "NoState" = some (.ref (c 21))
  m22 : mg "BadText" = some (.ref (c 22))
  m23 : mg "BadQuestion" = some (.ref (c 23))
  m24 : mg "TwiceTold" = some (.ref (c 24))
  m25 : mg "Clash" = some (.ref (c 25))
  m26 : mg "UnknownWorth" = some (.ref (c 26))
  m27 : mg "UnknownName" = some (.ref (c 27))
  m28 : mg "UnknownThing" = some (.ref (c 28))
  m29 : mg "UnknownLabel" = some (.ref (c 29))
  m30 : mg "NotTold" = some (.ref (c 30))
  m31 : mg "UnknownFact" = some (.ref (c 31))
  m32 : mg "NoRow" = some (.ref (c 32))
  m33 : mg "WorthhouseError" = some (.ref (c 33))
  m34 : mg "NameMissing" = some (.ref (c 34))
  xv : ∀ i, i < 26 → XC K veB "ValueError.__new__" (c i)
  xl : ∀ i, 26 ≤ i ∧ i < 33 → XC K leB "LookupError.__new__" (c i)
  e0 : PySem.W.excIn K (c 0) veB "ValueError.__new__" = true
  e1 : PySem.W.excIn K (c 1) veB "ValueError.__new__" = true
  e2 : PySem.W.excIn K (c 2) veB "ValueError.__new__" = true
  e3 : PySem.W.excIn K (c 3) veB "ValueError.__new__" = true
  e4 : PySem.W.excIn K (c 4) veB "ValueError.__new__" = true
  e5 : PySem.W.excIn K (c 5) veB "ValueError.__new__" = true
  e6 : PySem.W.excIn K (c 6) veB "ValueError.__new__" = true
  e7 : PySem.W.excIn K (c 7) veB "ValueError.__new__" = true
  e8 : PySem.W.excIn K (c 8) veB "ValueError.__new__" = true
  e9 : PySem.W.excIn K (c 9) veB "ValueError.__new__" = true
  e10 : PySem.W.excIn K (c 10) veB "ValueError.__new__" = true
  e11 : PySem.W.excIn K (c 11) veB "ValueError.__new__" = true
  e12 : PySem.W.excIn K (c 12) veB "ValueError.__new__" = true
  xg : XG K
  kit : ∀ i j, i < 33 → j < 33 → PySem.W.kitOne K (.ref (c i)) (.ref (c j)) = some (decide (j = i))
  kW : ∀ i, i < 33 → PySem.W.kitOne K (.ref (c i)) (.ref (c 33)) = some (decide (i < 26))
  kN : ∀ i, i < 33 → PySem.W.kitOne K (.ref (c i)) (.ref (c 34)) = some (decide (25 < i))
  kV : ∀ i, i < 33 → PySem.W.kitOne K (.ref (c i)) (.type "ValueError") = some (decide (i < 26))
  kL : ∀ i, i < 33 → PySem.W.kitOne K (.ref (c i)) (.type "LookupError") = some (decide (25 < i))
  n13part : PySem.W.findIn K (.ref (c 13)) "part" = some none
  n13members : PySem.W.findIn K (.ref (c 13)) "members" = some none
  i13 : AtI K "NotLinked.__init__" iNotLinked (c 13) (fi 13) ["self", "part", "members"]
  n14part : PySem.W.findIn K (.ref (c 14)) "part" = some none
  n14members : PySem.W.findIn K (.ref (c 14)) "members" = some none
  i14 : AtI K "NotKept.__init__" iNotKept (c 14) (fi 14) ["self", "part", "members"]
  n15name : PySem.W.findIn K (.ref (c 15)) "name" = some none
  i15 : AtI K "BadFrame.__init__" iBadFrame (c 15) (fi 15) ["self", "name"]
  n16name : PySem.W.findIn K (.ref (c 16)) "name" = some none
  i16 : AtI K "BadName.__init__" iBadName (c 16) (fi 16) ["self", "name"]
  n17name : PySem.W.findIn K (.ref (c 17)) "name" = some none
  i17 : AtI K "BadThing.__init__" iBadThing (c 17) (fi 17) ["self", "name"]
  n18number : PySem.W.findIn K (.ref (c 18)) "number" = some none
  i18 : AtI K "BadRule.__init__" iBadRule (c 18) (fi 18) ["self", "number"]
  n19number : PySem.W.findIn K (.ref (c 19)) "number" = some none
  i19 : AtI K "BadRow.__init__" iBadRow (c 19) (fi 19) ["self", "number"]
  n20number : PySem.W.findIn K (.ref (c 20)) "number" = some none
  i20 : AtI K "NoLine.__init__" iNoLine (c 20) (fi 20) ["self", "number"]
  n21number : PySem.W.findIn K (.ref (c 21)) "number" = some none
  i21 : AtI K "NoState.__init__" iNoState (c 21) (fi 21) ["self", "number"]
  n22place : PySem.W.findIn K (.ref (c 22)) "place" = some none
  i22 : AtI K "BadText.__init__" iBadText (c 22) (fi 22) ["self", "place"]
  n23place : PySem.W.findIn K (.ref (c 23)) "place" = some none
  n23word : PySem.W.findIn K (.ref (c 23)) "word" = some none
  i23 : AtI K "BadQuestion.__init__" iBadQuestion (c 23) (fi 23) ["self", "place", "word"]
  n24name : PySem.W.findIn K (.ref (c 24)) "name" = some none
  n24filled : PySem.W.findIn K (.ref (c 24)) "filled" = some none
  i24 : AtI K "TwiceTold.__init__" iTwiceTold (c 24) (fi 24) ["self", "name", "filled"]
  n25spots : PySem.W.findIn K (.ref (c 25)) "spots" = some none
  i25 : AtI K "Clash.__init__" iClash (c 25) (fi 25) ["self", "spots"]
  n26name : PySem.W.findIn K (.ref (c 26)) "name" = some none
  i26 : AtI K "UnknownWorth.__init__" iUnknownWorth (c 26) (fi 26) ["self", "name"]
  n27name : PySem.W.findIn K (.ref (c 27)) "name" = some none
  i27 : AtI K "UnknownName.__init__" iUnknownName (c 27) (fi 27) ["self", "name"]
  n28name : PySem.W.findIn K (.ref (c 28)) "name" = some none
  i28 : AtI K "UnknownThing.__init__" iUnknownThing (c 28) (fi 28) ["self", "name"]
  n29name : PySem.W.findIn K (.ref (c 29)) "name" = some none
  i29 : AtI K "UnknownLabel.__init__" iUnknownLabel (c 29) (fi 29) ["self", "name"]
  n30name : PySem.W.findIn K (.ref (c 30)) "name" = some none
  i30 : AtI K "NotTold.__init__" iNotTold (c 30) (fi 30) ["self", "name"]
  n31fact : PySem.W.findIn K (.ref (c 31)) "fact" = some none
  i31 : AtI K "UnknownFact.__init__" iUnknownFact (c 31) (fi 31) ["self", "fact"]
  n32name : PySem.W.findIn K (.ref (c 32)) "name" = some none
  n32filled : PySem.W.findIn K (.ref (c 32)) "filled" = some none
  i32 : AtI K "NoRow.__init__" iNoRow (c 32) (fi 32) ["self", "name", "filled"]
  f_law_pen : At K mg "_law_pen" s_law_pen (ff 0) ["_law_script"]
  f_law_next : At K mg "_law_next" s_law_next (ff 1) ["_law_pen_here"]
  f_law_draw : At K mg "_law_draw" s_law_draw (ff 2) ["_law_pen_here", "_law_under"]
  f_law_kinds : At K mg "_law_kinds" s_law_kinds (ff 3) ["_law_e"]
  f_law_bases : At K mg "_law_bases" s_law_bases (ff 4) ["_law_e"]
  f_law_plain : At K mg "_law_plain" s_law_plain (ff 5) []
  f_law_named : At K mg "_law_named" s_law_named (ff 6) ["_law_word", "_law_number"]
  f_law_kept : At K mg "_law_kept" s_law_kept (ff 7) ["_law_word", "_law_number", "_law_some"]
  flaw : At K mg "law" slaw (ff 8) ["_law_script"]
  nisinstance : mg "isinstance" = none
  nlen : mg "len" = none
  nrange : mg "range" = none
  nint : mg "int" = none
  nlist : mg "list" = none
  ntuple : mg "tuple" = none
  nrepr : mg "repr" = none
  nValueError : mg "ValueError" = none
  nLookupError : mg "LookupError" = none
theorem Txt.x {K : Dd.Frag} {mg : Str → Option Value} {c fi ff : Nat → Addr} (T : Txt K mg c fi ff) (i : Nat) (h : i < 26) : XC K veB "ValueError.__new__" (c i) := T.xv i h
section
variable {P : Program} {w : World} {K : Dd.Frag} {mg : Str → Option Value} {base : Heap} {c fi ff : Nat → Addr}
/-! ### the errors' __init__ -/
theorem sc_i13 : FnScope ["self", "part", "members"] ["self", "part", "members"] (defScope iNotLinked) := ⟨rfl, rfl, rfl, by decide +kernel, rfl, by decide +kernel, by decide +kernel⟩
abbrev sp13 (K : Dd.Frag) (c : Nat → Addr) : Sp := SpX K (c 13) (fun ds => ds.length = 2 ∧ isSeq (ds.getD 1 .non)) (fun ds => [("members", .tup (seqOf (ds.getD 1 .non))), ("part", ds.getD 0 .non)])
theorem ok_i13 (T : Txt K mg c fi ff) : Has P w K mg base 1 (fi 13) ["self", "part", "members"] (sp13 K c) := by
  obtain ⟨fd, F, b⟩ := T.i13.fn
  refine ⟨fd, F.ok sc_i13 (fun vs H Q E h => spX_len (n := 3) (fun ds h => by have h' : ds.length = 2 := h.1; omega) h) (fun cdv A outer s H vs Q E hr h => ⟨_, pss_cons (ps_put (pv 0) (pv 1)) (pss_one (ps_put (pv 0) (pe_callTy c_tuple rfl T.ntuple (by decide +kernel) (pa_cons (pv 2) pa_nil)))), init_aat PySem.F.store_ValueError (T.xv 13 (by decide)) T.n13part T.n13members rfl h⟩), b⟩
theorem sc_i14 : FnScope ["self", "part", "members"] ["self", "part", "members"] (defScope iNotKept) := ⟨rfl, rfl, rfl, by decide +kernel, rfl, by decide +kernel, by decide +kernel⟩
abbrev sp14 (K : Dd.Frag) (c : Nat → Addr) : Sp := SpX K (c 14) (fun ds => ds.length = 2 ∧ isSeq (ds.getD 1 .non)) (fun ds => [("members", .tup (seqOf (ds.getD 1 .non))), ("part", ds.getD 0 .non)])
theorem ok_i14 (T : Txt K mg c fi ff) : Has P w K mg base 1 (fi 14) ["self", "part", "members"] (sp14 K c) := by
  obtain ⟨fd, F, b⟩ := T.i14.fn
  refine ⟨fd, F.ok sc_i14 (fun vs H Q E h => spX_len (n := 3) (fun ds h => by have h' : ds.length = 2 := h.1; omega) h) (fun cdv A outer s H vs Q E hr h => ⟨_, pss_cons (ps_put (pv 0) (pv 1)) (pss_one (ps_put (pv 0) (pe_callTy c_tuple rfl T.ntuple (by decide +kernel) (pa_cons (pv 2) pa_nil)))), init_aat PySem.F.store_ValueError (T.xv 14 (by decide)) T.n14part T.n14members rfl h⟩), b⟩
theorem sc_i15 : FnScope ["self", "name"] ["self", "name"] (defScope iBadFrame) := ⟨rfl, rfl, rfl, by decide +kernel, rfl, by decide +kernel, by decide +kernel⟩
abbrev sp15 (K : Dd.Frag) (c : Nat → Addr) : Sp := SpX K (c 15) (fun ds => ds.length = 1) (fun ds => [("name", ds.getD 0 .non)])
theorem ok_i15 (T : Txt K mg c fi ff) : Has P w K mg base 1 (fi 15) ["self", "name"] (sp15 K c) := by
  obtain ⟨fd, F, b⟩ := T.i15.fn
  refine ⟨fd, F.ok sc_i15 (fun vs H Q E h => spX_len (n := 2) (fun ds h => by have h' : ds.length = 1 := h; omega) h) (fun cdv A outer s H vs Q E hr h => ⟨_, pss_one (ps_put (pv 0) (pv 1)), init_a PySem.F.store_ValueError (T.xv 15 (by decide)) T.n15name rfl h⟩), b⟩
theorem sc_i16 : FnScope ["self", "name"] ["self", "name"] (defScope iBadName) := ⟨rfl, rfl, rfl, by decide +kernel, rfl, by decide +kernel, by decide +kernel⟩
abbrev sp16 (K : Dd.Frag) (c : Nat → Addr) : Sp := SpX K (c 16) (fun ds => ds.length = 1) (fun ds => [("name", ds.getD 0 .non)])
theorem ok_i16 (T : Txt K mg c fi ff) : Has P w K mg base 1 (fi 16) ["self", "name"] (sp16 K c) := by
  obtain ⟨fd, F, b⟩ := T.i16.fn
  refine ⟨fd, F.ok sc_i16 (fun vs H Q E h => spX_len (n := 2) (fun ds h => by have h' : ds.length = 1 := h; omega) h) (fun cdv A outer s H vs Q E hr h => ⟨_, pss_one (ps_put (pv 0) (pv 1)), init_a PySem.F.store_ValueError (T.xv 16 (by decide)) T.n16name rfl h⟩), b⟩
theorem sc_i17 : FnScope ["self", "name"] ["self", "name"] (defScope iBadThing) := ⟨rfl, rfl, rfl, by decide +kernel, rfl, by decide +kernel, by decide +kernel⟩
abbrev sp17 (K : Dd.Frag) (c : Nat → Addr) : Sp := SpX K (c 17) (fun ds => ds.length = 1) (fun ds => [("name", ds.getD 0 .non)])
theorem ok_i17 (T : Txt K mg c fi ff) : Has P w K mg base 1 (fi 17) ["self", "name"] (sp17 K c) := by
  obtain ⟨fd, F, b⟩ := T.i17.fn
  refine ⟨fd, F.ok sc_i17 (fun vs H Q E h => spX_len (n := 2) (fun ds h => by have h' : ds.length = 1 := h; omega) h) (fun cdv A outer s H vs Q E hr h => ⟨_, pss_one (ps_put (pv 0) (pv 1)), init_a PySem.F.store_ValueError (T.xv 17 (by decide)) T.n17name rfl h⟩), b⟩
theorem sc_i18 : FnScope ["self", "number"] ["self", "number"] (defScope iBadRule) := ⟨rfl, rfl, rfl, by decide +kernel, rfl, by decide +kernel, by decide +kernel⟩
abbrev sp18 (K : Dd.Frag) (c : Nat → Addr) : Sp := SpX K (c 18) (fun ds => ds.length = 1) (fun ds => [("number", ds.getD 0 .non)])
theorem ok_i18 (T : Txt K mg c fi ff) : Has P w K mg base 1 (fi 18) ["self", "number"] (sp18 K c) := by
  obtain ⟨fd, F, b⟩ := T.i18.fn
  refine ⟨fd, F.ok sc_i18 (fun vs H Q E h => spX_len (n := 2) (fun ds h => by have h' : ds.length = 1 := h; omega) h) (fun cdv A outer s H vs Q E hr h => ⟨_, pss_one (ps_put (pv 0) (pv 1)), init_a PySem.F.store_ValueError (T.xv 18 (by decide)) T.n18number rfl h⟩), b⟩
theorem sc_i19 : FnScope ["self", "number"] ["self", "number"] (defScope iBadRow) := ⟨rfl, rfl, rfl, by decide +kernel, rfl, by decide +kernel, by decide +kernel⟩
abbrev sp19 (K : Dd.Frag) (c : Nat → Addr) : Sp := SpX K (c 19) (fun ds => ds.length = 1) (fun ds => [("number", ds.getD 0 .non)])
theorem ok_i19 (T : Txt K mg c fi ff) : Has P w K mg base 1 (fi 19) ["self", "number"] (sp19 K c) := by
  obtain ⟨fd, F, b⟩ := T.i19.fn
  refine ⟨fd, F.ok sc_i19 (fun vs H Q E h => spX_len (n := 2) (fun ds h => by have h' : ds.length = 1 := h; omega) h) (fun cdv A outer s H vs Q E hr h => ⟨_, pss_one (ps_put (pv 0) (pv 1)), init_a PySem.F.store_ValueError (T.xv 19 (by decide)) T.n19number rfl h⟩), b⟩
theorem sc_i20 : FnScope ["self", "number"] ["self", "number"] (defScope iNoLine) := ⟨rfl, rfl, rfl, by decide +kernel, rfl, by decide +kernel, by decide +kernel⟩
abbrev sp20 (K : Dd.Frag) (c : Nat → Addr) : Sp := SpX K (c 20) (fun ds => ds.length = 1) (fun ds => [("number", ds.getD 0 .non)])
theorem ok_i20 (T : Txt K mg c fi ff) : Has P w K mg base 1 (fi 20) ["self", "number"] (sp20 K c) := by
  obtain ⟨fd, F, b⟩ := T.i20.fn
  refine ⟨fd, F.ok sc_i20 (fun vs H Q E h => spX_len (n := 2) (fun ds h => by have h' : ds.length = 1 := h; omega) h) (fun cdv A outer s H vs Q E hr h => ⟨_, pss_one (ps_put (pv 0) (pv 1)), init_a PySem.F.store_ValueError (T.xv 20 (by decide)) T.n20number rfl h⟩), b⟩
theorem sc_i21 : FnScope ["self", "number"] ["self", "number"] (defScope iNoState) := ⟨rfl, rfl, rfl, by decide +kernel, rfl, by decide +kernel, by decide +kernel⟩
abbrev sp21 (K : Dd.Frag) (c : Nat → Addr) : Sp := SpX K (c 21) (fun ds => ds.length = 1) (fun ds => [("number", ds.getD 0 .non)])
theorem ok_i21 (T : Txt K mg c fi ff) : Has P w K mg base 1 (fi 21) ["self", "number"] (sp21 K c) := by
  obtain ⟨fd, F, b⟩ := T.i21.fn
  refine ⟨fd, F.ok sc_i21 (fun vs H Q E h => spX_len (n := 2) (fun ds h => by have h' : ds.length = 1 := h; omega) h) (fun cdv A outer s H vs Q E hr h => ⟨_, pss_one (ps_put (pv 0) (pv 1)), init_a PySem.F.store_ValueError (T.xv 21 (by decide)) T.n21number rfl h⟩), b⟩
theorem sc_i22 : FnScope ["self", "place"] ["self", "place"] (defScope iBadText) := ⟨rfl, rfl, rfl, by decide +kernel, rfl, by decide +kernel, by decide +kernel⟩
abbrev sp22 (K : Dd.Frag) (c : Nat → Addr) : Sp := SpX K (c 22) (fun ds => ds.length = 1) (fun ds => [("place", ds.getD 0 .non)])
theorem ok_i22 (T : Txt K mg c fi ff) : Has P w K mg base 1 (fi 22) ["self", "place"] (sp22 K c) := by
  obtain ⟨fd, F, b⟩ := T.i22.fn
  refine ⟨fd, F.ok sc_i22 (fun vs H Q E h => spX_len (n := 2) (fun ds h => by have h' : ds.length = 1 := h; omega) h) (fun cdv A outer s H vs Q E hr h => ⟨_, pss_one (ps_put (pv 0) (pv 1)), init_a PySem.F.store_ValueError (T.xv 22 (by decide)) T.n22place rfl h⟩), b⟩
theorem sc_i23 : FnScope ["self", "place", "word"] ["self", "place", "word"] (defScope iBadQuestion) := ⟨rfl, rfl, rfl, by decide +kernel, rfl, by decide +kernel, by decide +kernel⟩
abbrev sp23 (K : Dd.Frag) (c : Nat → Addr) : Sp := SpX K (c 23) (fun ds => ds.length = 2) (fun ds => [("word", ds.getD 1 .non), ("place", ds.getD 0 .non)])
theorem ok_i23 (T : Txt K mg c fi ff) : Has P w K mg base 1 (fi 23) ["self", "place", "word"] (sp23 K c) := by
  obtain ⟨fd, F, b⟩ := T.i23.fn
  refine ⟨fd, F.ok sc_i23 (fun vs H Q E h => spX_len (n := 3) (fun ds h => by have h' : ds.length = 2 := h; omega) h) (fun cdv A outer s H vs Q E hr h => ⟨_, pss_cons (ps_put (pv 0) (pv 1)) (pss_one (ps_put (pv 0) (pv 2))), init_aa PySem.F.store_ValueError (T.xv 23 (by decide)) T.n23place T.n23word rfl h⟩), b⟩
theorem sc_i24 : FnScope ["self", "name", "filled"] ["self", "name", "filled"] (defScope iTwiceTold) := ⟨rfl, rfl, rfl, by decide +kernel, rfl, by decide +kernel, by decide +kernel⟩
abbrev sp24 (K : Dd.Frag) (c : Nat → Addr) : Sp := SpX K (c 24) (fun ds => ds.length = 2 ∧ isSeq (ds.getD 1 .non)) (fun ds => [("filled", .tup (seqOf (ds.getD 1 .non))), ("name", ds.getD 0 .non)])
theorem ok_i24 (T : Txt K mg c fi ff) : Has P w K mg base 1 (fi 24) ["self", "name", "filled"] (sp24 K c) := by
  obtain ⟨fd, F, b⟩ := T.i24.fn
  refine ⟨fd, F.ok sc_i24 (fun vs H Q E h => spX_len (n := 3) (fun ds h => by have h' : ds.length = 2 := h.1; omega) h) (fun cdv A outer s H vs Q E hr h => ⟨_, pss_cons (ps_put (pv 0) (pv 1)) (pss_one (ps_put (pv 0) (pe_callTy c_tuple rfl T.ntuple (by decide +kernel) (pa_cons (pv 2) pa_nil)))), init_aat PySem.F.store_ValueError (T.xv 24 (by decide)) T.n24name T.n24filled rfl h⟩), b⟩
theorem sc_i25 : FnScope ["self", "spots"] ["self", "spots"] (defScope iClash) := ⟨rfl, rfl, rfl, by decide +kernel, rfl, by decide +kernel, by decide +kernel⟩
abbrev sp25 (K : Dd.Frag) (c : Nat → Addr) : Sp := SpX K (c 25) (fun ds => ds.length = 1 ∧ isSeq (ds.getD 0 .non)) (fun ds => [("spots", .tup (seqOf (ds.getD 0 .non)))])
theorem ok_i25 (T : Txt K mg c fi ff) : Has P w K mg base 1 (fi 25) ["self", "spots"] (sp25 K c) := by
  obtain ⟨fd, F, b⟩ := T.i25.fn
  refine ⟨fd, F.ok sc_i25 (fun vs H Q E h => spX_len (n := 2) (fun ds h => by have h' : ds.length = 1 := h.1; omega) h) (fun cdv A outer s H vs Q E hr h => ⟨_, pss_one (ps_put (pv 0) (pe_callTy c_tuple rfl T.ntuple (by decide +kernel) (pa_cons (pv 1) pa_nil))), init_at PySem.F.store_ValueError (T.xv 25 (by decide)) T.n25spots rfl h⟩), b⟩
theorem sc_i26 : FnScope ["self", "name"] ["self", "name"] (defScope iUnknownWorth) := ⟨rfl, rfl, rfl, by decide +kernel, rfl, by decide +kernel, by decide +kernel⟩
abbrev sp26 (K : Dd.Frag) (c : Nat → Addr) : Sp := SpX K (c 26) (fun ds => ds.length = 1) (fun ds => [("name", ds.getD 0 .non)])
theorem ok_i26 (T : Txt K mg c fi ff) : Has P w K mg base 1 (fi 26) ["self", "name"] (sp26 K c) := by
  obtain ⟨fd, F, b⟩ := T.i26.fn
  refine ⟨fd, F.ok sc_i26 (fun vs H Q E h => spX_len (n := 2) (fun ds h => by have h' : ds.length = 1 := h; omega) h) (fun cdv A outer s H vs Q E hr h => ⟨_, pss_one (ps_put (pv 0) (pv 1)), init_a PySem.F.store_LookupError (T.xl 26 (by decide)) T.n26name rfl h⟩), b⟩
theorem sc_i27 : FnScope ["self", "name"] ["self", "name"] (defScope iUnknownName) := ⟨rfl, rfl, rfl, by decide +kernel, rfl, by decide +kernel, by decide +kernel⟩
abbrev sp27 (K : Dd.Frag) (c : Nat → Addr) : Sp := SpX K (c 27) (fun ds => ds.length = 1) (fun ds => [("name", ds.getD 0 .non)])
theorem ok_i27 (T : Txt K mg c fi ff) : Has P w K mg base 1 (fi 27) ["self", "name"] (sp27 K c) := by
  obtain ⟨fd, F, b⟩ := T.i27.fn
  refine ⟨fd, F.ok sc_i27 (fun vs H Q E h => spX_len (n := 2) (fun ds h => by have h' : ds.length = 1 := h; omega) h) (fun cdv A outer s H vs Q E hr h => ⟨_, pss_one (ps_put (pv 0) (pv 1)), init_a PySem.F.store_LookupError (T.xl 27 (by decide)) T.n27name rfl h⟩), b⟩
theorem sc_i28 : FnScope ["self", "name"] ["self", "name"] (defScope iUnknownThing) := ⟨rfl, rfl, rfl, by decide +kernel, rfl, by decide +kernel, by decide +kernel⟩
abbrev sp28 (K : Dd.Frag) (c : Nat → Addr) : Sp := SpX K (c 28) (fun ds => ds.length = 1) (fun ds => [("name", ds.getD 0 .non)])
theorem ok_i28 (T : Txt K mg c fi ff) : Has P w K mg base 1 (fi 28) ["self", "name"] (sp28 K c) := by
  obtain ⟨fd, F, b⟩ := T.i28.fn
  refine ⟨fd, F.ok sc_i28 (fun vs H Q E h => spX_len (n := 2) (fun ds h => by have h' : ds.length = 1 := h; omega) h) (fun cdv A outer s H vs Q E hr h => ⟨_, pss_one (ps_put (pv 0) (pv 1)), init_a PySem.F.store_LookupError (T.xl 28 (by decide)) T.n28name rfl h⟩), b⟩
theorem sc_i29 : FnScope ["self", "name"] ["self", "name"] (defScope iUnknownLabel) := ⟨rfl, rfl, rfl, by decide +kernel, rfl, by decide +kernel, by decide +kernel⟩
abbrev sp29 (K : Dd.Frag) (c : Nat → Addr) : Sp := SpX K (c 29) (fun ds => ds.length = 1) (fun ds => [("name", ds.getD 0 .non)])
theorem ok_i29 (T : Txt K mg c fi ff) : Has P w K mg base 1 (fi 29) ["self", "name"] (sp29 K c) := by
  obtain ⟨fd, F, b⟩ := T.i29.fn
  refine ⟨fd, F.ok sc_i29 (fun vs H Q E h => spX_len (n := 2) (fun ds h => by have h' : ds.length = 1 := h; omega) h) (fun cdv A outer s H vs Q E hr h => ⟨_, pss_one (ps_put (pv 0) (pv 1)), init_a PySem.F.store_LookupError (T.xl 29 (by decide)) T.n29name rfl h⟩), b⟩
theorem sc_i30 : FnScope ["self", "name"] ["self", "name"] (defScope iNotTold) := ⟨rfl, rfl, rfl, by decide +kernel, rfl, by decide +kernel, by decide +kernel⟩
abbrev sp30 (K : Dd.Frag) (c : Nat → Addr) : Sp := SpX K (c 30) (fun ds => ds.length = 1) (fun ds => [("name", ds.getD 0 .non)])
theorem ok_i30 (T : Txt K mg c fi ff) : Has P w K mg base 1 (fi 30) ["self", "name"] (sp30 K c) := by
  obtain ⟨fd, F, b⟩ := T.i30.fn
  refine ⟨fd, F.ok sc_i30 (fun vs H Q E h => spX_len (n := 2) (fun ds h => by have h' : ds.length = 1 := h; omega) h) (fun cdv A outer s H vs Q E hr h => ⟨_, pss_one (ps_put (pv 0) (pv 1)), init_a PySem.F.store_LookupError (T.xl 30 (by decide)) T.n30name rfl h⟩), b⟩
theorem sc_i31 : FnScope ["self", "fact"] ["self", "fact"] (defScope iUnknownFact) := ⟨rfl, rfl, rfl, by decide +kernel, rfl, by decide +kernel, by decide +kernel⟩
abbrev sp31 (K : Dd.Frag) (c : Nat → Addr) : Sp := SpX K (c 31) (fun ds => ds.length = 1) (fun ds => [("fact", ds.getD 0 .non)])
theorem ok_i31 (T : Txt K mg c fi ff) : Has P w K mg base 1 (fi 31) ["self", "fact"] (sp31 K c) := by
  obtain ⟨fd, F, b⟩ := T.i31.fn
  refine ⟨fd, F.ok sc_i31 (fun vs H Q E h => spX_len (n := 2) (fun ds h => by have h' : ds.length = 1 := h; omega) h) (fun cdv A outer s H vs Q E hr h => ⟨_, pss_one (ps_put (pv 0) (pv 1)), init_a PySem.F.store_LookupError (T.xl 31 (by decide)) T.n31fact rfl h⟩), b⟩
theorem sc_i32 : FnScope ["self", "name", "filled"] ["self", "name", "filled"] (defScope iNoRow) := ⟨rfl, rfl, rfl, by decide +kernel, rfl, by decide +kernel, by decide +kernel⟩
abbrev sp32 (K : Dd.Frag) (c : Nat → Addr) : Sp := SpX K (c 32) (fun ds => ds.length = 2 ∧ isSeq (ds.getD 1 .non)) (fun ds => [("filled", .tup (seqOf (ds.getD 1 .non))), ("name", ds.getD 0 .non)])
theorem ok_i32 (T : Txt K mg c fi ff) : Has P w K mg base 1 (fi 32) ["self", "name", "filled"] (sp32 K c) := by
  obtain ⟨fd, F, b⟩ := T.i32.fn
  refine ⟨fd, F.ok sc_i32 (fun vs H Q E h => spX_len (n := 3) (fun ds h => by have h' : ds.length = 2 := h.1; omega) h) (fun cdv A outer s H vs Q E hr h => ⟨_, pss_cons (ps_put (pv 0) (pv 1)) (pss_one (ps_put (pv 0) (pe_callTy c_tuple rfl T.ntuple (by decide +kernel) (pa_cons (pv 2) pa_nil)))), init_aat PySem.F.store_LookupError (T.xl 32 (by decide)) T.n32name T.n32filled rfl h⟩), b⟩
end
end K11

namespace K11
open PySem L2 Xv Dd
local macro_rules
  | `(tactic| walk_at "dd") => `(tactic| (first
    | with_reducible refine ws_seq ?_
    | ((with_reducible refine then_nx ?_); (try simp only [List.set_cons_zero, List.set_cons_succ]))
    | walk_at "de"))
  | `(tactic| walk_at "des") => `(tactic| repeat (walk_at "de"))
  | `(tactic| walk_at "de") => `(tactic| (first
    | with_reducible refine ws_asg ?_
    | with_reducible refine ws_ret ?_
    | with_reducible refine ws_next ?_
    | with_reducible refine ws_if ?_
    | ((with_reducible refine' ed_var ?hv ?_); (case hv => rfl))
    | with_reducible refine ed_int ?_
    | with_reducible refine ed_str ?_
    | with_reducible refine ed_bl ?_
    | with_reducible refine ed_non ?_
    | with_reducible refine ed_ty ?_
    | with_reducible refine ed_glo ?_
    | with_reducible refine ed_tup ?_
    | with_reducible refine ed_lst ?_
    | ((with_reducible refine' ed_pen ?hi (fun d hd => ?_) ?hk); (case hi => rfl); (case hk => rfl); cases hd)
    | with_reducible refine ed_op ?_
    | with_reducible refine ed_cb ?_
    | with_reducible refine ed_call ?_
    | with_reducible refine ed_exc0 ?_
    | with_reducible refine ed_excI ?_
    | with_reducible refine eda_nil ?_
    | with_reducible refine eda_cons ?_
    | with_reducible refine edt_test ?_
    | with_reducible refine edt_B ?_
    | with_reducible refine edt_and ?_
    | with_reducible refine edt_not ?_
    | with_reducible refine edt_or ?_
    | with_reducible refine ed_if ?_
    | with_reducible refine ed_xfld ?_
    | (with_reducible refine' Eq.mpr (if_pos rfl) ?_)
    | (with_reducible refine' Eq.mpr (if_neg Bool.false_ne_true) ?_)
    | refine ro_I0 (fun _ => Dh.int _) ?_
    | refine ro_I0 (fun _ => Dh.bl _) ?_
    | with_reducible refine rc_int ?_
    | with_reducible refine rc_lenL ?_
    | ((with_reducible refine' ro_cat ?hz ?_); (case hz => exact Nat.le_of_ble_eq_true rfl); (try simp only [List.cons_append, List.nil_append]))
    | with_reducible refine rc_lenT ?_
    | refine ro_I (show (0 : Int) < _ by decide) (fun _ => Dh.int _) ?_
    | ((refine' ro_I (C := CMul) (.inr ⟨?c1, ?c2⟩) (fun _ => Dh.int _) ?_); (case c1 => omega); (case c2 => omega))
    | ((refine' ro_I (C := CMul) (.inl ⟨?c1, ?c2⟩) (fun _ => Dh.int _) ?_); (case c1 => omega); (case c2 => omega))
    | refine ro_I (C := CPow) (by refine ⟨by decide, by decide, by decide⟩) (fun _ => Dh.int _) ?_
    | ((with_reducible refine' ⟨?hl, ?hn, ?_⟩); (case hl => simp; done); (case hn => (first | exact noPen_no rfl | exact noPen_dat rfl | exact noPen_own rfl)))
    | ((with_reducible refine' ⟨?hl, ?_⟩); (case hl => simp; done))))
  | `(tactic| walk_at "nx") => `(tactic| ((show Ws _ _ _ _); try simp only [List.set_cons_zero, List.set_cons_succ]))
  | `(tactic| walk_at "dds") => `(tactic| repeat (walk_at "dd"))
section
variable {P : Program} {w : World} {K : Dd.Frag} {mg : Str → Option Value} {base : Heap} {c fi ff : Nat → Addr}
theorem at_ints (cs : List Int) {i : Int} (h : 0 ≤ i) (h2 : i < (cs.length : Nat)) : ∃ x, atI (cs.map Dat.int) i = some (.int x) := by
  obtain ⟨n, rfl⟩ := Int.eq_ofNat_of_zero_le h
  have l : n < cs.length := by omega
  refine ⟨cs[n], ?_⟩
  exact atI_nat (by rw [List.getElem?_map, List.getElem?_eq_getElem l]; rfl)
theorem sc_law_pen : FnScope ["_law_script"] ["_law_script"] (defScope s_law_pen) := ⟨rfl, rfl, rfl, by decide +kernel, rfl, by decide +kernel, by decide +kernel⟩
theorem ok_law_pen (T : Txt K mg c fi ff) : Has P w K mg base 1 (ff 0) ["_law_script"] (SpPen K) := by
  obtain ⟨fd, F, b⟩ := T.f_law_pen.fn
  have sc := sc_law_pen
  refine ⟨fd, F.ok sc (fun vs H Q E h => by obtain ⟨s, cs, e, _⟩ := h; rw [e]; rfl) (fun cdv A outer s H vs Q E hr h => ?_), b⟩
  obtain ⟨a, cs, rfl, hS, k⟩ := h
  refine ⟨_, (pss_one (ps_ret (pe_lst (pa_cons (pe_callTy c_list rfl T.nlist (by decide +kernel) (pa_cons (pe_slice sl_list (pv 0) po_none (po_some pe_int)) pa_nil)) (pa_cons pe_int (pa_cons pe_int pa_nil)))))), ?_⟩
  refine ⟨_, rfl, 60, rfl, a, _, rfl, hS, fun p hp => ⟨p, _, rfl, .inl (.inl (.inl upd_same)), fun l hl => ?_⟩⟩
  refine ⟨by show 3 ≤ sizeLine; decide, fun q hq => ?_⟩
  have lq : q ≠ l := fun z => by rw [z, upd_same] at hq; cases hq
  have hl' : H l = none := by
    by_cases e : l = p
    · rw [e, upd_same] at hl; cases hl
    · rw [upd_ne e] at hl; exact hl
  have hq' : H q = none := by
    rw [upd_ne lq] at hq
    by_cases e : q = p
    · rw [e]; exact hp
    · rw [upd_ne e] at hq; exact hq
  have cut : cutV (cs.map V.int) none (some 60) = (cs.take 60).map V.int := by
    rw [List.map_take]
    have e : HT.sIx (cs.map V.int).length (cs.map V.int).length (some 60) = min 60 (cs.map V.int).length := HT.sIx_nat _ _ 60
    unfold cutV
    rw [e, HT.sIx_none, List.drop_zero, Nat.sub_zero, List.take_eq_take_iff]
    omega
  refine k _ q l (fun b o e => ?_) hq' hl' lq upd_same ?_
  · rw [upd_ne (ne_of_none e hq'), upd_ne (ne_of_none e hl'), upd_ne (ne_of_none e hp)]
    exact e
  · rw [upd_ne (Ne.symm lq), upd_same, cut]
theorem sc_law_next : FnScope ["_law_pen_here", "_law_index", "_law_cell_here", "_law_some", "_law_more", "_law_high"] ["_law_pen_here"] (defScope s_law_next) := ⟨rfl, rfl, rfl, by decide +kernel, rfl, by decide +kernel, by decide +kernel⟩
theorem ok_law_next (T : Txt K mg c fi ff) : Has P w K mg base 1 (ff 1) ["_law_pen_here"] (SpP K 1 (fun ds => ds = []) (fun _ d => ∃ n, d = .int n)) := by
  obtain ⟨fd, F, b⟩ := T.f_law_next.fn
  have sc := sc_law_next
  refine ⟨fd, fnP F sc (fun ds h => by rw [h]; rfl) (fun cdv A outer s H E hr => ⟨_, (pss_cons (ps_set (i := 1) sc.nd rfl (Or.inl rfl) (pe_ix ix_list (pv 0) pe_int (fun _ _ => rfl)))
      (pss_cons (ps_asg (pe_op op_add (pv 1) pe_int) (pg_sub (pv 0) pe_int set_list))
      (pss_cons (ps_set (i := 2) sc.nd rfl (Or.inl rfl) (pe_op op_add (pe_op op_mul (pv 1) pe_int) pe_int))
      (pss_cons (ps_if (pt_cmpR (op_neD hr.units) (pe_ix ix_list (pv 0) pe_int (fun _ _ => rfl)) (pe_lst pa_nil) (nomark _)) (pss_one (ps_set (i := 2) sc.nd rfl (Or.inl rfl) (pe_ix ix_list (pe_ix ix_list (pv 0) pe_int (fun _ _ => rfl)) (pe_op op_mod (pe_callTy c_int rfl T.nint (by decide +kernel) (pa_cons (pv 1) pa_nil)) (pe_callB c_len rfl T.nlen (by decide +kernel) (pa_cons (pe_ix ix_list (pv 0) pe_int (fun _ _ => rfl)) pa_nil))) (fun _ _ => rfl)))) pss_nil)
      (pss_cons (ps_if (PW.pt (pw_and (pt_cmpR op_lt (pv 1) (pe_callB c_len rfl T.nlen (by decide +kernel) (pa_cons (pe_ix ix_list (pv 0) pe_int (fun _ _ => rfl)) pa_nil)) (nomark _)) (pw_and1 (pt_cmpR op_ge (pv 2) (pe_op op_pow pe_int pe_int) (nomark _))))) (pss_one (ps_ret (pv 2))) pss_nil)
      (pss_cons (ps_set (i := 3) sc.nd rfl (Or.inl rfl) (pe_op op_mod (pe_callTy c_int rfl T.nint (by decide +kernel) (pa_cons (pe_op op_add (pe_op op_add (pe_op op_mod (pe_callTy c_int rfl T.nint (by decide +kernel) (pa_cons (pv 2) pa_nil)) pe_int) (pe_op op_mul (pv 1) pe_int)) pe_int) pa_nil)) pe_int))
      (pss_cons (ps_set (i := 4) sc.nd rfl (Or.inl rfl) (pe_op op_mod (pe_callTy c_int rfl T.nint (by decide +kernel) (pa_cons (pe_op op_add (pe_op op_add (pe_op op_mul (pv 3) (pv 3)) (pe_op op_mul (pv 1) pe_int)) pe_int) pa_nil)) pe_int))
      (pss_cons (ps_set (i := 5) sc.nd rfl (Or.inl rfl) (pe_op op_mod (pe_callTy c_int rfl T.nint (by decide +kernel) (pa_cons (pe_op op_add (pe_op op_add (pe_op op_mul (pv 4) (pv 4)) (pv 3)) (pe_op op_mul (pe_op op_mul (pv 1) (pv 1)) pe_int)) pa_nil)) pe_int))
      (pss_one (ps_ret (pe_op op_add (pe_op op_mul (pe_op op_add (pe_op op_mul (pv 5) pe_int) (pv 4)) pe_int) (pv 3)))))))))))), ?_⟩), b⟩
  rintro cs a b ds ha hm hl rfl
  show Ws K _ [.pen cs a b, .no, .no, .no, .no, .no] _
  dsimp only [cxOf, Cx.nox, Cx.wish]
  walk_at "dds"
  refine ws_pen ?_
  walk_at "dds"
  refine ⟨cs, a, b, a + 1, a + 1, b, rfl, rfl, .inl ⟨rfl, by omega, rfl, rfl⟩, ?_⟩
  show Ws K _ [.pen cs (a + 1) b, .dat (.int a), .no, .no, .no, .no] _
  walk_at "dd"
  walk_at "des"
  walk_at "dd"
  refine ws_seq (Ws.imp (R := fun r => ∃ x : Int, r = .nx [.pen cs (a + 1) b, .dat (.int a), .dat (.int x), .no, .no, .no]) ?_ ?_)
  · walk_at "dds"
    refine ro_neD (b := .list []) (py_ints cs) rfl (shaped_ints cs) (by decide) ?_
    refine ⟨_, rfl, ?_⟩
    cases cs with
    | nil =>
      rw [if_neg (by decide)]
      exact ws_next ⟨_, rfl⟩
    | cons x r =>
      rw [if_pos (show (!PyData.eqv (PyData.list (List.map PyData.int (x :: r))) (PyData.list [])) = true from by simp [PyData.eqv, PyData.eqvAll])]
      walk_at "dds"
      have l0 : (0 : Int) < ((List.map Dat.int (x :: r)).length : Nat) := by simp
      refine ro_I l0 (fun _ => Dh.int _) ?_
      obtain ⟨y, hy⟩ := at_ints (x :: r) (i := a % ((List.map Dat.int (x :: r)).length : Nat)) (Int.emod_nonneg _ (by omega)) (by have := Int.emod_lt_of_pos a l0; simpa using this)
      refine ro_ixL hy ?_
      exact ⟨by simp, by nofun, _, rfl⟩
  rintro _ ⟨x, rfl⟩
  walk_at "dd"
  refine ws_seq (Ws.imp (R := fun r => r = .nx [.pen cs (a + 1) b, .dat (.int a), .dat (.int x), .no, .no, .no] ∨ r = .rt (.int x) [.pen cs (a + 1) b, .dat (.int a), .dat (.int x), .no, .no, .no]) ?_ ?_)
  · walk_at "dds"
    refine ⟨_, rfl, ?_⟩
    split
    · walk_at "dds"
      refine ⟨_, rfl, ?_⟩
      split
      · walk_at "dds"
        exact .inr rfl
      · exact ws_next (.inl rfl)
    · walk_at "dds"
      exact .inl rfl
  rintro _ (rfl | rfl)
  · walk_at "nx"
    walk_at "dds"
    exact ⟨⟨_, _, rfl, by omega⟩, _, rfl⟩
  · exact ⟨⟨_, _, rfl, by omega⟩, x, rfl⟩
end
end K11

namespace K11
open PySem L2 Xv Dd
local macro_rules
  | `(tactic| walk_at "dd") => `(tactic| (first
    | with_reducible refine ws_seq ?_
    | ((with_reducible refine then_nx ?_); (try simp only [List.set_cons_zero, List.set_cons_succ]))
    | walk_at "de"))
  | `(tactic| walk_at "des") => `(tactic| repeat (walk_at "de"))
  | `(tactic| walk_at "de") => `(tactic| (first
    | with_reducible refine ws_asg ?_
    | with_reducible refine ws_ret ?_
    | with_reducible refine ws_next ?_
    | with_reducible refine ws_if ?_
    | ((with_reducible refine' ed_var ?hv ?_); (case hv => rfl))
    | with_reducible refine ed_int ?_
    | with_reducible refine ed_str ?_
    | with_reducible refine ed_bl ?_
    | with_reducible refine ed_non ?_
    | with_reducible refine ed_ty ?_
    | with_reducible refine ed_glo ?_
    | with_reducible refine ed_tup ?_
    | with_reducible refine ed_lst ?_
    | ((with_reducible refine' ed_pen ?hi (fun d hd => ?_) ?hk); (case hi => rfl); (case hk => rfl); cases hd)
    | with_reducible refine ed_op ?_
    | with_reducible refine ed_cb ?_
    | with_reducible refine ed_call ?_
    | with_reducible refine ed_exc0 ?_
    | with_reducible refine ed_excI ?_
    | with_reducible refine eda_nil ?_
    | with_reducible refine eda_cons ?_
    | with_reducible refine edt_test ?_
    | with_reducible refine edt_B ?_
    | with_reducible refine edt_and ?_
    | with_reducible refine edt_not ?_
    | with_reducible refine edt_or ?_
    | with_reducible refine ed_if ?_
    | with_reducible refine ed_xfld ?_
    | (with_reducible refine' Eq.mpr (if_pos rfl) ?_)
    | (with_reducible refine' Eq.mpr (if_neg Bool.false_ne_true) ?_)
    | refine ro_I0 (fun _ => Dh.int _) ?_
    | refine ro_I0 (fun _ => Dh.bl _) ?_
    | with_reducible refine rc_int ?_
    | with_reducible refine rc_lenL ?_
    | ((with_reducible refine' ro_cat ?hz ?_); (case hz => exact Nat.le_of_ble_eq_true rfl); (try simp only [List.cons_append, List.nil_append]))
    | with_reducible refine rc_lenT ?_
    | refine ro_I (show (0 : Int) < _ by decide) (fun _ => Dh.int _) ?_
    | ((refine' ro_I (C := CMul) (.inr ⟨?c1, ?c2⟩) (fun _ => Dh.int _) ?_); (case c1 => omega); (case c2 => omega))
    | ((refine' ro_I (C := CMul) (.inl ⟨?c1, ?c2⟩) (fun _ => Dh.int _) ?_); (case c1 => omega); (case c2 => omega))
    | refine ro_I (C := CPow) (by refine ⟨by decide, by decide, by decide⟩) (fun _ => Dh.int _) ?_
    | ((with_reducible refine' ⟨?hl, ?hn, ?_⟩); (case hl => simp; done); (case hn => (first | exact noPen_no rfl | exact noPen_dat rfl | exact noPen_own rfl)))
    | ((with_reducible refine' ⟨?hl, ?_⟩); (case hl => simp; done))))
  | `(tactic| walk_at "nx") => `(tactic| ((show Ws _ _ _ _); try simp only [List.set_cons_zero, List.set_cons_succ]))
  | `(tactic| walk_at "dds") => `(tactic| repeat (walk_at "dd"))

section
variable {P : Program} {w : World} {K : Dd.Frag} {mg : Str → Option Value} {base : Heap} {c fi ff : Nat → Addr}
theorem sc_law_draw : FnScope ["_law_pen_here", "_law_under", "_law_digit"] ["_law_pen_here", "_law_under"] (defScope s_law_draw) := ⟨rfl, rfl, rfl, by decide +kernel, rfl, by decide +kernel, by decide +kernel⟩
theorem ok_law_draw (T : Txt K mg c fi ff) : Has P w K mg base 2 (ff 2) ["_law_pen_here", "_law_under"] (SpP K 1 (fun ds => ∃ n, ds = [.int n] ∧ 0 < n ∧ n < 1073741824) (fun ds d => ∃ n k : Int, ds = [.int n] ∧ d = .int k ∧ 0 ≤ k ∧ k < n)) := by
  obtain ⟨fd, F, b⟩ := T.f_law_draw.fn
  have sc := sc_law_draw
  obtain ⟨fdn, Gnext, bGnext⟩ := ok_law_next (P := P) (w := w) (base := base) T
  refine ⟨fd, fnP F sc (fun ds h => by obtain ⟨n, rfl, _⟩ := h; rfl) (fun cdv A outer s H E hr => ⟨_, (pss_cons (ps_if (pt_cmpR op_lt (pe_ix ix_list (pv 0) pe_int (fun _ _ => rfl)) (pv 1) (nomark _)) (pss_one (ps_asg (pe_call Gnext (hr.mono (by decide)) rfl T.f_law_next.mg_ T.f_law_next.kp bGnext .nil pass0 (pa_cons (pv 0) pa_nil)) (pg_sub (pv 0) pe_int set_list))) pss_nil)
      (pss_cons (ps_set (i := 2) sc.nd rfl (Or.inl rfl) (pe_op op_mod (pe_callTy c_int rfl T.nint (by decide +kernel) (pa_cons (pe_ix ix_list (pv 0) pe_int (fun _ _ => rfl)) pa_nil)) (pv 1)))
      (pss_cons (ps_asg (pe_op op_fdiv (pe_ix ix_list (pv 0) pe_int (fun _ _ => rfl)) (pv 1)) (pg_sub (pv 0) pe_int set_list))
      (pss_one (ps_ret (pv 2)))))), ?_⟩), b⟩
  rintro cs a b ds ha hm hl ⟨n, rfl, hn, hn2⟩
  show Ws K _ [.pen cs a b, .dat (.int n), .no] _
  try dsimp only [cxOf, Cx.nox, Cx.wish]
  refine ws_seq (Ws.imp (R := fun r => ∃ a' b' : Int, 0 ≤ a' ∧ a' ≤ a + 1 ∧ r = .nx [.pen cs a' b', .dat (.int n), .no]) ?_ ?_)
  · walk_at "des"
    refine ⟨_, rfl, ?_⟩
    split
    · refine ws_pen ?_
      refine ed_callP rfl (eda_nil ⟨cs, a, b, rfl, rfl, hm, fun d a' b' h0 h1 h => ?_⟩)
      obtain ⟨m, rfl⟩ := h
      exact ⟨cs, a', b', m, a', m, rfl, rfl, .inr ⟨rfl, rfl, rfl⟩, a', m, h0, h1, rfl⟩
    · exact ws_next ⟨a, b, ha, by omega, rfl⟩
  rintro _ ⟨a', b', h0, h1, rfl⟩
  walk_at "dds"
  refine ro_I hn (fun _ => Dh.int _) ?_
  walk_at "dds"
  refine ws_pen ?_
  walk_at "dds"
  refine ro_I (C := CDiv) ⟨hn, hn2⟩ (fun _ => Dh.int _) ?_
  refine ⟨cs, a', b', b' / n, a', b' / n, rfl, rfl, .inr ⟨rfl, rfl, rfl⟩, ?_⟩
  show thenR _ _ (Res.nx [.pen cs a' (b' / n), .dat (.int n), .dat (.int (b' % n))])
  walk_at "dds"
  exact ⟨⟨a', _, rfl, h1⟩, n, _, rfl, rfl, Int.emod_nonneg _ (by omega), Int.emod_lt_of_pos _ hn⟩
theorem Txt.inj (T : Txt K mg c fi ff) {i j : Nat} (hi : i < 33) (hj : j < 33) (e : c i = c j) : i = j := by
  have a := T.kit i i hi hi
  have b := T.kit i j hi hj
  rw [← e, a] at b
  have z : decide (i = i) = decide (j = i) := Option.some.inj b
  rw [decide_eq_true rfl] at z
  exact (of_decide_eq_true z.symm).symm
theorem Txt.xi (T : Txt K mg c fi ff) {i : Nat} (hi : i < 33) : ∃ bm nw, XC K bm nw (c i) := by
  by_cases h : i < 26
  · exact ⟨_, _, T.xv i h⟩
  · exact ⟨_, _, T.xl i ⟨by omega, hi⟩⟩
theorem sc_law_kinds : FnScope ["_law_e", "_law_found"] ["_law_e"] (defScope s_law_kinds) := ⟨rfl, rfl, rfl, by decide +kernel, rfl, by decide +kernel, by decide +kernel⟩
theorem ok_law_kinds (T : Txt K mg c fi ff) : Has P w K mg base 1 (ff 3) ["_law_e"] (SpF K (fun ds => ∃ i fs, i < 33 ∧ ds = [.exc (c i) fs]) (fun ds d => ∀ i fs, i < 33 → ds = [.exc (c i) fs] → d = .lst ((List.range 33).map fun j => .bl (decide (j = i))))) := by
  obtain ⟨fd, F, b⟩ := T.f_law_kinds.fn
  have sc := sc_law_kinds
  refine ⟨fd, fnF F sc (fun ds h => by obtain ⟨i, fs, _, rfl⟩ := h; rfl) (fun cdv A outer s H E hr => ⟨_, (pss_cons (ps_set (i := 1) sc.nd rfl (Or.inl rfl) (pe_lst (pa_cons (pe_callB call_isX rfl T.nisinstance (by decide +kernel) (pa_cons (pv 0) (pa_cons (pe_glob (v := .ref (c 0)) rfl T.m0 rfl) pa_nil))) (pa_cons (pe_callB call_isX rfl T.nisinstance (by decide +kernel) (pa_cons (pv 0) (pa_cons (pe_glob (v := .ref (c 1)) rfl T.m1 rfl) pa_nil))) (pa_cons (pe_callB call_isX rfl T.nisinstance (by decide +kernel) (pa_cons (pv 0) (pa_cons (pe_glob (v := .ref (c 2)) rfl T.m2 rfl) pa_nil))) pa_nil)))))
      (pss_cons (ps_set (i := 1) sc.nd rfl (Or.inl rfl) (pe_op op_catR (pv 1) (pe_lst (pa_cons (pe_callB call_isX rfl T.nisinstance (by decide +kernel) (pa_cons (pv 0) (pa_cons (pe_glob (v := .ref (c 3)) rfl T.m3 rfl) pa_nil))) (pa_cons (pe_callB call_isX rfl T.nisinstance (by decide +kernel) (pa_cons (pv 0) (pa_cons (pe_glob (v := .ref (c 4)) rfl T.m4 rfl) pa_nil))) (pa_cons (pe_callB call_isX rfl T.nisinstance (by decide +kernel) (pa_cons (pv 0) (pa_cons (pe_glob (v := .ref (c 5)) rfl T.m5 rfl) pa_nil))) pa_nil))))))
      (pss_cons (ps_set (i := 1) sc.nd rfl (Or.inl rfl) (pe_op op_catR (pv 1) (pe_lst (pa_cons (pe_callB call_isX rfl T.nisinstance (by decide +kernel) (pa_cons (pv 0) (pa_cons (pe_glob (v := .ref (c 6)) rfl T.m6 rfl) pa_nil))) (pa_cons (pe_callB call_isX rfl T.nisinstance (by decide +kernel) (pa_cons (pv 0) (pa_cons (pe_glob (v := .ref (c 7)) rfl T.m7 rfl) pa_nil))) (pa_cons (pe_callB call_isX rfl T.nisinstance (by decide +kernel) (pa_cons (pv 0) (pa_cons (pe_glob (v := .ref (c 8)) rfl T.m8 rfl) pa_nil))) pa_nil))))))
      (pss_cons (ps_set (i := 1) sc.nd rfl (Or.inl rfl) (pe_op op_catR (pv 1) (pe_lst (pa_cons (pe_callB call_isX rfl T.nisinstance (by decide +kernel) (pa_cons (pv 0) (pa_cons (pe_glob (v := .ref (c 9)) rfl T.m9 rfl) pa_nil))) (pa_cons (pe_callB call_isX rfl T.nisinstance (by decide +kernel) (pa_cons (pv 0) (pa_cons (pe_glob (v := .ref (c 10)) rfl T.m10 rfl) pa_nil))) (pa_cons (pe_callB call_isX rfl T.nisinstance (by decide +kernel) (pa_cons (pv 0) (pa_cons (pe_glob (v := .ref (c 11)) rfl T.m11 rfl) pa_nil))) pa_nil))))))
      (pss_cons (ps_set (i := 1) sc.nd rfl (Or.inl rfl) (pe_op op_catR (pv 1) (pe_lst (pa_cons (pe_callB call_isX rfl T.nisinstance (by decide +kernel) (pa_cons (pv 0) (pa_cons (pe_glob (v := .ref (c 12)) rfl T.m12 rfl) pa_nil))) (pa_cons (pe_callB call_isX rfl T.nisinstance (by decide +kernel) (pa_cons (pv 0) (pa_cons (pe_glob (v := .ref (c 13)) rfl T.m13 rfl) pa_nil))) (pa_cons (pe_callB call_isX rfl T.nisinstance (by decide +kernel) (pa_cons (pv 0) (pa_cons (pe_glob (v := .ref (c 14)) rfl T.m14 rfl) pa_nil))) pa_nil))))))
      (pss_cons (ps_set (i := 1) sc.nd rfl (Or.inl rfl) (pe_op op_catR (pv 1) (pe_lst (pa_cons (pe_callB call_isX rfl T.nisinstance (by decide +kernel) (pa_cons (pv 0) (pa_cons (pe_glob (v := .ref (c 15)) rfl T.m15 rfl) pa_nil))) (pa_cons (pe_callB call_isX rfl T.nisinstance (by decide +kernel) (pa_cons (pv 0) (pa_cons (pe_glob (v := .ref (c 16)) rfl T.m16 rfl) pa_nil))) (pa_cons (pe_callB call_isX rfl T.nisinstance (by decide +kernel) (pa_cons (pv 0) (pa_cons (pe_glob (v := .ref (c 17)) rfl T.m17 rfl) pa_nil))) pa_nil))))))
      (pss_cons (ps_set (i := 1) sc.nd rfl (Or.inl rfl) (pe_op op_catR (pv 1) (pe_lst (pa_cons (pe_callB call_isX rfl T.nisinstance (by decide +kernel) (pa_cons (pv 0) (pa_cons (pe_glob (v := .ref (c 18)) rfl T.m18 rfl) pa_nil))) (pa_cons (pe_callB call_isX rfl T.nisinstance (by decide +kernel) (pa_cons (pv 0) (pa_cons (pe_glob (v := .ref (c 19)) rfl T.m19 rfl) pa_nil))) (pa_cons (pe_callB call_isX rfl T.nisinstance (by decide +kernel) (pa_cons (pv 0) (pa_cons (pe_glob (v := .ref (c 20)) rfl T.m20 rfl) pa_nil))) pa_nil))))))
      (pss_cons (ps_set (i := 1) sc.nd rfl (Or.inl rfl) (pe_op op_catR (pv 1) (pe_lst (pa_cons (pe_callB call_isX rfl T.nisinstance (by decide +kernel) (pa_cons (pv 0) (pa_cons (pe_glob (v := .ref (c 21)) rfl T.m21 rfl) pa_nil))) (pa_cons (pe_callB call_isX rfl T.nisinstance (by decide +kernel) (pa_cons (pv 0) (pa_cons (pe_glob (v := .ref (c 22)) rfl T.m22 rfl) pa_nil))) (pa_cons (pe_callB call_isX rfl T.nisinstance (by decide +kernel) (pa_cons (pv 0) (pa_cons (pe_glob (v := .ref (c 23)) rfl T.m23 rfl) pa_nil))) pa_nil))))))
      (pss_cons (ps_set (i := 1) sc.nd rfl (Or.inl rfl) (pe_op op_catR (pv 1) (pe_lst (pa_cons (pe_callB call_isX rfl T.nisinstance (by decide +kernel) (pa_cons (pv 0) (pa_cons (pe_glob (v := .ref (c 24)) rfl T.m24 rfl) pa_nil))) (pa_cons (pe_callB call_isX rfl T.nisinstance (by decide +kernel) (pa_cons (pv 0) (pa_cons (pe_glob (v := .ref (c 25)) rfl T.m25 rfl) pa_nil))) (pa_cons (pe_callB call_isX rfl T.nisinstance (by decide +kernel) (pa_cons (pv 0) (pa_cons (pe_glob (v := .ref (c 26)) rfl T.m26 rfl) pa_nil))) pa_nil))))))
      (pss_cons (ps_set (i := 1) sc.nd rfl (Or.inl rfl) (pe_op op_catR (pv 1) (pe_lst (pa_cons (pe_callB call_isX rfl T.nisinstance (by decide +kernel) (pa_cons (pv 0) (pa_cons (pe_glob (v := .ref (c 27)) rfl T.m27 rfl) pa_nil))) (pa_cons (pe_callB call_isX rfl T.nisinstance (by decide +kernel) (pa_cons (pv 0) (pa_cons (pe_glob (v := .ref (c 28)) rfl T.m28 rfl) pa_nil))) (pa_cons (pe_callB call_isX rfl T.nisinstance (by decide +kernel) (pa_cons (pv 0) (pa_cons (pe_glob (v := .ref (c 29)) rfl T.m29 rfl) pa_nil))) pa_nil))))))
      (pss_cons (ps_set (i := 1) sc.nd rfl (Or.inl rfl) (pe_op op_catR (pv 1) (pe_lst (pa_cons (pe_callB call_isX rfl T.nisinstance (by decide +kernel) (pa_cons (pv 0) (pa_cons (pe_glob (v := .ref (c 30)) rfl T.m30 rfl) pa_nil))) (pa_cons (pe_callB call_isX rfl T.nisinstance (by decide +kernel) (pa_cons (pv 0) (pa_cons (pe_glob (v := .ref (c 31)) rfl T.m31 rfl) pa_nil))) (pa_cons (pe_callB call_isX rfl T.nisinstance (by decide +kernel) (pa_cons (pv 0) (pa_cons (pe_glob (v := .ref (c 32)) rfl T.m32 rfl) pa_nil))) pa_nil))))))
      (pss_one (ps_ret (pv 1)))))))))))))), ?_⟩), b⟩
  rintro ds ⟨i, fs, hi, rfl⟩
  obtain ⟨bm, nw, X⟩ := T.xi hi
  show Ws K _ [.dat (.exc (c i) fs), .no] _
  try dsimp only [cxOf, Cx.nox, Cx.wish]
  repeat first
    | walk_at "dd"
    | ((refine' rc_isX (fun _ _ h => ?hc) (.own _) X T.xg (T.kit i _ hi ?hj) ?_); (case hc => (cases h; rfl)); (case hj => decide))
  rintro i1 fs1 h1 e
  obtain rfl : i = i1 := T.inj hi h1 (by injection e with e _; injection e)
  rfl
theorem sc_law_bases : FnScope ["_law_e", "_law_found"] ["_law_e"] (defScope s_law_bases) := ⟨rfl, rfl, rfl, by decide +kernel, rfl, by decide +kernel, by decide +kernel⟩
theorem ok_law_bases (T : Txt K mg c fi ff) : Has P w K mg base 1 (ff 4) ["_law_e"] (SpF K (fun ds => ∃ i fs, i < 33 ∧ ds = [.exc (c i) fs]) (fun ds d => ∀ i fs, i < 33 → ds = [.exc (c i) fs] → d = .lst [.bl (decide (i < 26)), .bl (decide (i < 26)), .bl (decide (25 < i)), .bl (decide (25 < i))])) := by
  obtain ⟨fd, F, b⟩ := T.f_law_bases.fn
  have sc := sc_law_bases
  refine ⟨fd, fnF F sc (fun ds h => by obtain ⟨i, fs, _, rfl⟩ := h; rfl) (fun cdv A outer s H E hr => ⟨_, (pss_cons (ps_set (i := 1) sc.nd rfl (Or.inl rfl) (pe_lst (pa_cons (pe_callB call_isX rfl T.nisinstance (by decide +kernel) (pa_cons (pv 0) (pa_cons (pe_glob (v := .ref (c 33)) rfl T.m33 rfl) pa_nil))) (pa_cons (pe_callB call_isX rfl T.nisinstance (by decide +kernel) (pa_cons (pv 0) (pa_cons (pe_bltn (v := .ty "ValueError") rfl T.nValueError (by decide +kernel) rfl) pa_nil))) pa_nil))))
      (pss_one (ps_ret (pe_op op_catR (pv 1) (pe_lst (pa_cons (pe_callB call_isX rfl T.nisinstance (by decide +kernel) (pa_cons (pv 0) (pa_cons (pe_glob (v := .ref (c 34)) rfl T.m34 rfl) pa_nil))) (pa_cons (pe_callB call_isX rfl T.nisinstance (by decide +kernel) (pa_cons (pv 0) (pa_cons (pe_bltn (v := .ty "LookupError") rfl T.nLookupError (by decide +kernel) rfl) pa_nil))) pa_nil))))))), ?_⟩), b⟩
  rintro ds ⟨i, fs, hi, rfl⟩
  obtain ⟨bm, nw, X⟩ := T.xi hi
  show Ws K _ [.dat (.exc (c i) fs), .no] _
  try dsimp only [cxOf, Cx.nox, Cx.wish]
  repeat first
    | walk_at "dd"
    | ((refine' rc_isX (fun _ _ h => ?hc) (.own _) X T.xg (T.kW i hi) ?_); (case hc => (cases h; rfl)))
    | ((refine' rc_isX (fun _ _ h => ?hc) (.own _) X T.xg (T.kN i hi) ?_); (case hc => (cases h; rfl)))
    | ((refine' rc_isX (fun _ _ h => ?hc) (.ty _) X T.xg (T.kV i hi) ?_); (case hc => (cases h; rfl)))
    | ((refine' rc_isX (fun _ _ h => ?hc) (.ty _) X T.xg (T.kL i hi) ?_); (case hc => (cases h; rfl)))
  rintro i1 fs1 h1 e
  obtain rfl : i = i1 := T.inj hi h1 (by injection e with e _; injection e)
  rfl
theorem sc_law_plain : FnScope ["_law_found"] [] (defScope s_law_plain) := ⟨rfl, rfl, rfl, by decide +kernel, rfl, by decide +kernel, by decide +kernel⟩
theorem ok_law_plain (T : Txt K mg c fi ff) : Has P w K mg base 1 (ff 5) [] (SpF K (fun ds => ds = []) (fun _ d => d = .lst [.exc (c 0) [], .exc (c 1) [], .exc (c 2) [], .exc (c 3) [], .exc (c 4) [], .exc (c 5) [], .exc (c 6) [], .exc (c 7) [], .exc (c 8) [], .exc (c 9) [], .exc (c 10) [], .exc (c 11) [], .exc (c 12) []])) := by
  obtain ⟨fd, F, b⟩ := T.f_law_plain.fn
  have sc := sc_law_plain
  refine ⟨fd, fnF F sc (fun ds h => by rw [h]; rfl) (fun cdv A outer s H E hr => ⟨_, (pss_cons (ps_set (i := 0) sc.nd rfl (Or.inl rfl) (pe_lst (pa_cons (pe_exc0 PySem.F.excBase_ValueError T.e0 T.m0 (T.x 0 (by decide)).kp rfl) (pa_cons (pe_exc0 PySem.F.excBase_ValueError T.e1 T.m1 (T.x 1 (by decide)).kp rfl) (pa_cons (pe_exc0 PySem.F.excBase_ValueError T.e2 T.m2 (T.x 2 (by decide)).kp rfl) (pa_cons (pe_exc0 PySem.F.excBase_ValueError T.e3 T.m3 (T.x 3 (by decide)).kp rfl) (pa_cons (pe_exc0 PySem.F.excBase_ValueError T.e4 T.m4 (T.x 4 (by decide)).kp rfl) (pa_cons (pe_exc0 PySem.F.excBase_ValueError T.e5 T.m5 (T.x 5 (by decide)).kp rfl) (pa_cons (pe_exc0 PySem.F.excBase_ValueError T.e6 T.m6 (T.x 6 (by decide)).kp rfl) (pa_cons (pe_exc0 PySem.F.excBase_ValueError T.e7 T.m7 (T.x 7 (by decide)).kp rfl) pa_nil))))))))))
      (pss_one (ps_ret (pe_op op_catR (pv 0) (pe_lst (pa_cons (pe_exc0 PySem.F.excBase_ValueError T.e8 T.m8 (T.x 8 (by decide)).kp rfl) (pa_cons (pe_exc0 PySem.F.excBase_ValueError T.e9 T.m9 (T.x 9 (by decide)).kp rfl) (pa_cons (pe_exc0 PySem.F.excBase_ValueError T.e10 T.m10 (T.x 10 (by decide)).kp rfl) (pa_cons (pe_exc0 PySem.F.excBase_ValueError T.e11 T.m11 (T.x 11 (by decide)).kp rfl) (pa_cons (pe_exc0 PySem.F.excBase_ValueError T.e12 T.m12 (T.x 12 (by decide)).kp rfl) pa_nil)))))))))), ?_⟩), b⟩
  rintro ds rfl
  show Ws K _ [.no] _
  try dsimp only [cxOf, Cx.nox, Cx.wish]
  repeat walk_at "dd"
  rfl
theorem sc_law_named : FnScope ["_law_word", "_law_number", "_law_found"] ["_law_word", "_law_number"] (defScope s_law_named) := ⟨rfl, rfl, rfl, by decide +kernel, rfl, by decide +kernel, by decide +kernel⟩
theorem ok_law_named (T : Txt K mg c fi ff) : Has P w K mg base 3 (ff 6) ["_law_word", "_law_number"] (SpF K (fun ds => ds.length = 2) (fun ds d => d = .lst [.exc (c 15) [("name", ds.getD 0 .non)], .exc (c 16) [("name", ds.getD 0 .non)], .exc (c 17) [("name", ds.getD 0 .non)], .exc (c 18) [("number", ds.getD 1 .non)], .exc (c 19) [("number", ds.getD 1 .non)], .exc (c 20) [("number", ds.getD 1 .non)], .exc (c 21) [("number", ds.getD 1 .non)]])) := by
  obtain ⟨fd, F, b⟩ := T.f_law_named.fn
  have sc := sc_law_named
  obtain ⟨fd15, I15, bI15⟩ := ok_i15 (P := P) (w := w) (base := base) T
  obtain ⟨fd16, I16, bI16⟩ := ok_i16 (P := P) (w := w) (base := base) T
  obtain ⟨fd17, I17, bI17⟩ := ok_i17 (P := P) (w := w) (base := base) T
  obtain ⟨fd18, I18, bI18⟩ := ok_i18 (P := P) (w := w) (base := base) T
  obtain ⟨fd19, I19, bI19⟩ := ok_i19 (P := P) (w := w) (base := base) T
  obtain ⟨fd20, I20, bI20⟩ := ok_i20 (P := P) (w := w) (base := base) T
  obtain ⟨fd21, I21, bI21⟩ := ok_i21 (P := P) (w := w) (base := base) T
  refine ⟨fd, fnF F sc (fun ds h => h) (fun cdv A outer s H E hr => ⟨_, (pss_cons (ps_set (i := 2) sc.nd rfl (Or.inl rfl) (pe_lst (pa_cons (pe_excI PySem.F.excBase_ValueError (T.xv 15 (by decide)) T.i15.ini T.i15.ty I15 (hr.mono (by decide)) bI15 pass0 rfl T.m15 (pa_cons (pv 0) pa_nil)) (pa_cons (pe_excI PySem.F.excBase_ValueError (T.xv 16 (by decide)) T.i16.ini T.i16.ty I16 (hr.mono (by decide)) bI16 pass0 rfl T.m16 (pa_cons (pv 0) pa_nil)) (pa_cons (pe_excI PySem.F.excBase_ValueError (T.xv 17 (by decide)) T.i17.ini T.i17.ty I17 (hr.mono (by decide)) bI17 pass0 rfl T.m17 (pa_cons (pv 0) pa_nil)) (pa_cons (pe_excI PySem.F.excBase_ValueError (T.xv 18 (by decide)) T.i18.ini T.i18.ty I18 (hr.mono (by decide)) bI18 pass0 rfl T.m18 (pa_cons (pv 1) pa_nil)) (pa_cons (pe_excI PySem.F.excBase_ValueError (T.xv 19 (by decide)) T.i19.ini T.i19.ty I19 (hr.mono (by decide)) bI19 pass0 rfl T.m19 (pa_cons (pv 1) pa_nil)) (pa_cons (pe_excI PySem.F.excBase_ValueError (T.xv 20 (by decide)) T.i20.ini T.i20.ty I20 (hr.mono (by decide)) bI20 pass0 rfl T.m20 (pa_cons (pv 1) pa_nil)) pa_nil))))))))
      (pss_one (ps_ret (pe_op op_catR (pv 2) (pe_lst (pa_cons (pe_excI PySem.F.excBase_ValueError (T.xv 21 (by decide)) T.i21.ini T.i21.ty I21 (hr.mono (by decide)) bI21 pass0 rfl T.m21 (pa_cons (pv 1) pa_nil)) pa_nil)))))), ?_⟩), b⟩
  rintro ds hd
  obtain ⟨x, y, rfl⟩ : ∃ x y, ds = [x, y] := by
    match ds, hd with
    | [x, y], _ => exact ⟨x, y, rfl⟩
  show Ws K _ [.dat x, .dat y, .no] _
  try dsimp only [cxOf, Cx.nox, Cx.wish]
  repeat first
    | walk_at "dd"
    | refine ⟨Nat.le_of_ble_eq_true rfl, rfl, ?_⟩
  rfl
end
end K11

namespace K11
open PySem L2 Xv Dd
local macro_rules
  | `(tactic| walk_at "dd") => `(tactic| (first
    | with_reducible refine ws_seq ?_
    | ((with_reducible refine then_nx ?_); (try simp only [List.set_cons_zero, List.set_cons_succ]))
    | walk_at "de"))
  | `(tactic| walk_at "des") => `(tactic| repeat (walk_at "de"))
  | `(tactic| walk_at "de") => `(tactic| (first
    | with_reducible refine ws_asg ?_
    | with_reducible refine ws_ret ?_
    | with_reducible refine ws_next ?_
    | with_reducible refine ws_if ?_
    | ((with_reducible refine' ed_var ?hv ?_); (case hv => rfl))
    | with_reducible refine ed_int ?_
    | with_reducible refine ed_str ?_
    | with_reducible refine ed_bl ?_
    | with_reducible refine ed_non ?_
    | with_reducible refine ed_ty ?_
    | with_reducible refine ed_glo ?_
    | with_reducible refine ed_tup ?_
    | with_reducible refine ed_lst ?_
    | ((with_reducible refine' ed_pen ?hi (fun d hd => ?_) ?hk); (case hi => rfl); (case hk => rfl); cases hd)
    | with_reducible refine ed_op ?_
    | with_reducible refine ed_cb ?_
    | with_reducible refine ed_call ?_
    | with_reducible refine ed_exc0 ?_
    | with_reducible refine ed_excI ?_
    | with_reducible refine eda_nil ?_
    | with_reducible refine eda_cons ?_
    | with_reducible refine edt_test ?_
    | with_reducible refine edt_B ?_
    | with_reducible refine edt_and ?_
    | with_reducible refine edt_not ?_
    | with_reducible refine edt_or ?_
    | with_reducible refine ed_if ?_
    | with_reducible refine ed_xfld ?_
    | (with_reducible refine' Eq.mpr (if_pos rfl) ?_)
    | (with_reducible refine' Eq.mpr (if_neg Bool.false_ne_true) ?_)
    | refine ro_I0 (fun _ => Dh.int _) ?_
    | refine ro_I0 (fun _ => Dh.bl _) ?_
    | with_reducible refine rc_int ?_
    | with_reducible refine rc_lenL ?_
    | ((with_reducible refine' ro_cat ?hz ?_); (case hz => exact Nat.le_of_ble_eq_true rfl); (try simp only [List.cons_append, List.nil_append]))
    | with_reducible refine rc_lenT ?_
    | refine ro_I (show (0 : Int) < _ by decide) (fun _ => Dh.int _) ?_
    | ((refine' ro_I (C := CMul) (.inr ⟨?c1, ?c2⟩) (fun _ => Dh.int _) ?_); (case c1 => omega); (case c2 => omega))
    | ((refine' ro_I (C := CMul) (.inl ⟨?c1, ?c2⟩) (fun _ => Dh.int _) ?_); (case c1 => omega); (case c2 => omega))
    | refine ro_I (C := CPow) (by refine ⟨by decide, by decide, by decide⟩) (fun _ => Dh.int _) ?_
    | ((with_reducible refine' ⟨?hl, ?hn, ?_⟩); (case hl => simp; done); (case hn => (first | exact noPen_no rfl | exact noPen_dat rfl | exact noPen_own rfl)))
    | ((with_reducible refine' ⟨?hl, ?_⟩); (case hl => simp; done))))
  | `(tactic| walk_at "nx") => `(tactic| ((show Ws _ _ _ _); try simp only [List.set_cons_zero, List.set_cons_succ]))
  | `(tactic| walk_at "dds") => `(tactic| repeat (walk_at "dd"))

def keptOk (w n : Dat) (xs : List Dat) : Bool := repOk w && repOk n && repOk (.lst [.tup [w, .tup xs], .tup [w, .tup xs], .tup [w, .tup xs], .tup [w, .tup xs]]) && repOk (.tup xs) && repOk (.tup [.tup [n], w, .tup [n, .int 0]]) && eqOk (.lst [w, w, w, w, w, .tup [w, .tup []]])
section
variable {P : Program} {w : World} {K : Dd.Frag} {mg : Str → Option Value} {base : Heap} {c fi ff : Nat → Addr}
theorem sc_law_kept : FnScope ["_law_word", "_law_number", "_law_some", "_law_k", "_law_e", "_law_a", "_law_b", "_law_c", "_law_d", "_law_told", "_law_names"] ["_law_word", "_law_number", "_law_some"] (defScope s_law_kept) := ⟨rfl, rfl, rfl, by decide +kernel, rfl, by decide +kernel, by decide +kernel⟩
theorem ok_law_kept (T : Txt K mg c fi ff) : HasG P w K mg base 4 (ff 7) ["_law_word", "_law_number", "_law_some"] (SpF K (fun ds => ∃ x n s, ds = [x, n, s] ∧ isSeq s ∧ keptOk x n (seqOf s) = true) (fun _ d => d = .bl true)) := by
  obtain ⟨fd, F, b⟩ := T.f_law_kept.fn
  have sc := sc_law_kept
  obtain ⟨fdn, Gnamed, bGnamed⟩ := ok_law_named (P := P) (w := w) (base := base) T
  obtain ⟨fd13, I13, bI13⟩ := ok_i13 (P := P) (w := w) (base := base) T
  obtain ⟨fd14, I14, bI14⟩ := ok_i14 (P := P) (w := w) (base := base) T
  obtain ⟨fd22, I22, bI22⟩ := ok_i22 (P := P) (w := w) (base := base) T
  obtain ⟨fd23, I23, bI23⟩ := ok_i23 (P := P) (w := w) (base := base) T
  obtain ⟨fd24, I24, bI24⟩ := ok_i24 (P := P) (w := w) (base := base) T
  obtain ⟨fd25, I25, bI25⟩ := ok_i25 (P := P) (w := w) (base := base) T
  obtain ⟨fd26, I26, bI26⟩ := ok_i26 (P := P) (w := w) (base := base) T
  obtain ⟨fd27, I27, bI27⟩ := ok_i27 (P := P) (w := w) (base := base) T
  obtain ⟨fd28, I28, bI28⟩ := ok_i28 (P := P) (w := w) (base := base) T
  obtain ⟨fd29, I29, bI29⟩ := ok_i29 (P := P) (w := w) (base := base) T
  obtain ⟨fd30, I30, bI30⟩ := ok_i30 (P := P) (w := w) (base := base) T
  obtain ⟨fd31, I31, bI31⟩ := ok_i31 (P := P) (w := w) (base := base) T
  obtain ⟨fd32, I32, bI32⟩ := ok_i32 (P := P) (w := w) (base := base) T
  refine ⟨fd, fnFG F sc (fun ds h => by obtain ⟨_, _, _, rfl, _⟩ := h; rfl) (fun cdv A outer s H E hr hq => ⟨_, (pss_cons (ps_for PassesOwn.never rfl (pi_range1 rfl T.nrange (pa_cons pe_int pa_nil)) (pg_name (i := 3) sc.nd rfl (Or.inl rfl)) (pss_cons (ps_set (i := 4) sc.nd rfl (Or.inl rfl) (pe_ix ix_list (pe_call Gnamed (hr.mono (by decide)) rfl T.f_law_named.mg_ T.f_law_named.kp bGnamed .nil pass0 (pa_cons (pv 0) (pa_cons (pv 1) pa_nil))) (pv 3) (fun _ _ => rfl)))
      (pss_one (ps_if (pt_cmpR (op_neD hr.units) (pe_callB (Gd.call_repr hq hr.units) rfl T.nrepr (by decide +kernel) (pa_cons (pe_ifExp (pt_cmpR op_lt (pv 3) pe_int (nomark _)) (pe_xfld (pv 4)) (pe_xfld (pv 4))) pa_nil)) (pe_callB (Gd.call_repr hq hr.units) rfl T.nrepr (by decide +kernel) (pa_cons (pe_ifExp (pt_cmpR op_lt (pv 3) pe_int (nomark _)) (pv 0) (pv 1)) pa_nil)) (nomark _)) (pss_one (ps_ret pe_bl)) pss_nil))))
      (pss_cons (ps_asg (pe_tup (pa_cons (pe_excI PySem.F.excBase_ValueError (T.xv 13 (by decide)) T.i13.ini T.i13.ty I13 (hr.mono (by decide)) bI13 pass0 rfl T.m13 (pa_cons (pv 0) (pa_cons (pv 2) pa_nil))) (pa_cons (pe_excI PySem.F.excBase_ValueError (T.xv 14 (by decide)) T.i14.ini T.i14.ty I14 (hr.mono (by decide)) bI14 pass0 rfl T.m14 (pa_cons (pv 0) (pa_cons (pv 2) pa_nil))) (pa_cons (pe_excI PySem.F.excBase_ValueError (T.xv 24 (by decide)) T.i24.ini T.i24.ty I24 (hr.mono (by decide)) bI24 pass0 rfl T.m24 (pa_cons (pv 0) (pa_cons (pv 2) pa_nil))) (pa_cons (pe_excI PySem.F.excBase_LookupError (T.xl 32 (by decide)) T.i32.ini T.i32.ty I32 (hr.mono (by decide)) bI32 pass0 rfl T.m32 (pa_cons (pv 0) (pa_cons (pv 2) pa_nil))) pa_nil))))) (pg_tup rfl (pgs_cons (pg_name (i := 5) sc.nd rfl (Or.inl rfl)) (pgs_cons (pg_name (i := 6) sc.nd rfl (Or.inl rfl)) (pgs_cons (pg_name (i := 7) sc.nd rfl (Or.inl rfl)) (pgs_cons (pg_name (i := 8) sc.nd rfl (Or.inl rfl)) pgs_nil))))))
      (pss_cons (ps_set (i := 9) sc.nd rfl (Or.inl rfl) (pe_lst (pa_cons (pe_tup (pa_cons (pe_xfld (pv 5)) (pa_cons (pe_xfld (pv 5)) pa_nil))) (pa_cons (pe_tup (pa_cons (pe_xfld (pv 6)) (pa_cons (pe_xfld (pv 6)) pa_nil))) (pa_cons (pe_tup (pa_cons (pe_xfld (pv 7)) (pa_cons (pe_xfld (pv 7)) pa_nil))) (pa_cons (pe_tup (pa_cons (pe_xfld (pv 8)) (pa_cons (pe_xfld (pv 8)) pa_nil))) pa_nil))))))
      (pss_cons (ps_if (PW.pt (pw_or (pt_cmpR (op_neD hr.units) (pe_callB (Gd.call_repr hq hr.units) rfl T.nrepr (by decide +kernel) (pa_cons (pv 9) pa_nil)) (pe_callB (Gd.call_repr hq hr.units) rfl T.nrepr (by decide +kernel) (pa_cons (pe_op op_rep (pe_lst (pa_cons (pe_tup (pa_cons (pv 0) (pa_cons (pe_callTy c_tuple rfl T.ntuple (by decide +kernel) (pa_cons (pv 2) pa_nil)) pa_nil))) pa_nil)) pe_int) pa_nil)) (nomark _)) (pw_or1 (pt_cmpR (op_neD hr.units) (pe_callB (Gd.call_repr hq hr.units) rfl T.nrepr (by decide +kernel) (pa_cons (pe_xfld (pe_excI PySem.F.excBase_ValueError (T.xv 25 (by decide)) T.i25.ini T.i25.ty I25 (hr.mono (by decide)) bI25 pass0 rfl T.m25 (pa_cons (pv 2) pa_nil))) pa_nil)) (pe_callB (Gd.call_repr hq hr.units) rfl T.nrepr (by decide +kernel) (pa_cons (pe_callTy c_tuple rfl T.ntuple (by decide +kernel) (pa_cons (pv 2) pa_nil)) pa_nil)) (nomark _))))) (pss_one (ps_ret pe_bl)) pss_nil)
      (pss_cons (ps_set (i := 4) sc.nd rfl (Or.inl rfl) (pe_excI PySem.F.excBase_ValueError (T.xv 23 (by decide)) T.i23.ini T.i23.ty I23 (hr.mono (by decide)) bI23 pass0 rfl T.m23 (pa_cons (pe_tup (pa_cons (pv 1) pa_nil)) (pa_cons (pv 0) pa_nil))))
      (pss_cons (ps_if (pt_cmpR (op_neD hr.units) (pe_callB (Gd.call_repr hq hr.units) rfl T.nrepr (by decide +kernel) (pa_cons (pe_tup (pa_cons (pe_xfld (pv 4)) (pa_cons (pe_xfld (pv 4)) (pa_cons (pe_xfld (pe_excI PySem.F.excBase_ValueError (T.xv 22 (by decide)) T.i22.ini T.i22.ty I22 (hr.mono (by decide)) bI22 pass0 rfl T.m22 (pa_cons (pe_tup (pa_cons (pv 1) (pa_cons pe_int pa_nil))) pa_nil))) pa_nil)))) pa_nil)) (pe_callB (Gd.call_repr hq hr.units) rfl T.nrepr (by decide +kernel) (pa_cons (pe_tup (pa_cons (pe_tup (pa_cons (pv 1) pa_nil)) (pa_cons (pv 0) (pa_cons (pe_tup (pa_cons (pv 1) (pa_cons pe_int pa_nil))) pa_nil)))) pa_nil)) (nomark _)) (pss_one (ps_ret pe_bl)) pss_nil)
      (pss_cons (ps_set (i := 10) sc.nd rfl (Or.inl rfl) (pe_lst (pa_cons (pe_xfld (pe_excI PySem.F.excBase_LookupError (T.xl 26 (by decide)) T.i26.ini T.i26.ty I26 (hr.mono (by decide)) bI26 pass0 rfl T.m26 (pa_cons (pv 0) pa_nil))) (pa_cons (pe_xfld (pe_excI PySem.F.excBase_LookupError (T.xl 27 (by decide)) T.i27.ini T.i27.ty I27 (hr.mono (by decide)) bI27 pass0 rfl T.m27 (pa_cons (pv 0) pa_nil))) (pa_cons (pe_xfld (pe_excI PySem.F.excBase_LookupError (T.xl 28 (by decide)) T.i28.ini T.i28.ty I28 (hr.mono (by decide)) bI28 pass0 rfl T.m28 (pa_cons (pv 0) pa_nil))) (pa_cons (pe_xfld (pe_excI PySem.F.excBase_LookupError (T.xl 29 (by decide)) T.i29.ini T.i29.ty I29 (hr.mono (by decide)) bI29 pass0 rfl T.m29 (pa_cons (pv 0) pa_nil))) pa_nil))))))
      (pss_one (ps_ret (pe_cmpR (op_eqD hr.units) (pe_op op_catR (pv 10) (pe_lst (pa_cons (pe_xfld (pe_excI PySem.F.excBase_LookupError (T.xl 30 (by decide)) T.i30.ini T.i30.ty I30 (hr.mono (by decide)) bI30 pass0 rfl T.m30 (pa_cons (pv 0) pa_nil))) (pa_cons (pe_xfld (pe_excI PySem.F.excBase_LookupError (T.xl 31 (by decide)) T.i31.ini T.i31.ty I31 (hr.mono (by decide)) bI31 pass0 rfl T.m31 (pa_cons (pe_tup (pa_cons (pv 0) (pa_cons (pe_tup pa_nil) pa_nil))) pa_nil))) pa_nil)))) (pe_op op_catR (pe_op op_rep (pe_lst (pa_cons (pv 0) pa_nil)) pe_int) (pe_lst (pa_cons (pe_tup (pa_cons (pv 0) (pa_cons (pe_tup pa_nil) pa_nil))) pa_nil))) (nomark _))))))))))), ?_⟩), b⟩
  rintro ds ⟨x, n, z, rfl, hz, hk⟩
  unfold keptOk at hk
  simp only [Bool.and_eq_true] at hk
  obtain ⟨⟨⟨⟨⟨hx, hn⟩, h1⟩, h2⟩, h3⟩, h4⟩ := hk
  show Ws K _ [.dat x, .dat n, .dat z, .no, .no, .no, .no, .no, .no, .no, .no] _
  try dsimp only [cxOf, Cx.nox, Cx.wish]
  walk_at "dd"
  refine ws_for1 ?_
  walk_at "dds"
  refine ⟨7, rfl, by decide, by decide, ?_⟩
  show Loop K _ 3 [.int 0, .int 1, .int 2, .int 3, .int 4, .int 5, .int 6] _ _
  repeat first
    | with_reducible refine ed_rep ?_
    | walk_at "dd"
    | with_reducible refine rc_tupleS hz ?_
    | (refine ⟨_, rfl, by decide, Nat.le_of_ble_eq_true rfl, by decide, ?_⟩; (try simp only [Int.reduceToNat, List.reduceReplicate, List.flatten_cons, List.flatten_nil, List.cons_append, List.nil_append]))
    | ((with_reducible refine' loop_cons ?hl ?hn ?_); (case hl => simp; done); (case hn => (first | exact noPen_no rfl | exact noPen_dat rfl)); (try simp only [List.set_cons_zero, List.set_cons_succ]))
    | with_reducible refine loopR_nx ?_
    | with_reducible refine loop_nil ?_
    | (rintro _ rfl; (try simp only [List.getD_cons_zero, List.getD_cons_succ]))
    | with_reducible refine ws_asgT ?_
    | ((with_reducible refine' put_cons ?hl ?hn ?_); (case hl => simp; done); (case hn => (first | exact noPen_no rfl | exact noPen_dat rfl)); (try simp only [List.set_cons_zero, List.set_cons_succ]))
    | with_reducible refine put_nil ?_
    | with_reducible refine ex_bl ?_
    | (refine ⟨⟨rfl, hz⟩, ?_⟩; (try simp only [List.getD_cons_zero, List.getD_cons_succ]))
    | refine ⟨_, rfl, rfl, ?_⟩
    | refine ro_ixL rfl ?_
    | ((with_reducible refine' rc_repB ?h ?_); (case h => first | with_reducible exact hx | with_reducible exact hn | with_reducible exact h1 | with_reducible exact h2 | with_reducible exact h3))
    | ((with_reducible refine' ro_neRep ?h ?_); (case h => first | with_reducible exact hx | with_reducible exact hn | with_reducible exact h1 | with_reducible exact h2 | with_reducible exact h3))
    | ((refine' Eq.mpr (if_pos ?h) ?_); (case h => decide))
    | ((refine' Eq.mpr (if_neg ?h) ?_); (case h => decide))
    | simp only [List.getD_cons_zero, List.getD_cons_succ]
    | first
      | refine ⟨c 13, _, _, _, _, rfl, rfl, T.xv 13 (by decide), T.n13part, ?_⟩
      | refine ⟨c 13, _, _, _, _, rfl, rfl, T.xv 13 (by decide), T.n13members, ?_⟩
      | refine ⟨c 14, _, _, _, _, rfl, rfl, T.xv 14 (by decide), T.n14part, ?_⟩
      | refine ⟨c 14, _, _, _, _, rfl, rfl, T.xv 14 (by decide), T.n14members, ?_⟩
      | refine ⟨c 15, _, _, _, _, rfl, rfl, T.xv 15 (by decide), T.n15name, ?_⟩
      | refine ⟨c 16, _, _, _, _, rfl, rfl, T.xv 16 (by decide), T.n16name, ?_⟩
      | refine ⟨c 17, _, _, _, _, rfl, rfl, T.xv 17 (by decide), T.n17name, ?_⟩
      | refine ⟨c 18, _, _, _, _, rfl, rfl, T.xv 18 (by decide), T.n18number, ?_⟩
      | refine ⟨c 19, _, _, _, _, rfl, rfl, T.xv 19 (by decide), T.n19number, ?_⟩
      | refine ⟨c 20, _, _, _, _, rfl, rfl, T.xv 20 (by decide), T.n20number, ?_⟩
      | refine ⟨c 21, _, _, _, _, rfl, rfl, T.xv 21 (by decide), T.n21number, ?_⟩
      | refine ⟨c 22, _, _, _, _, rfl, rfl, T.xv 22 (by decide), T.n22place, ?_⟩
      | refine ⟨c 23, _, _, _, _, rfl, rfl, T.xv 23 (by decide), T.n23place, ?_⟩
      | refine ⟨c 23, _, _, _, _, rfl, rfl, T.xv 23 (by decide), T.n23word, ?_⟩
      | refine ⟨c 24, _, _, _, _, rfl, rfl, T.xv 24 (by decide), T.n24name, ?_⟩
      | refine ⟨c 24, _, _, _, _, rfl, rfl, T.xv 24 (by decide), T.n24filled, ?_⟩
      | refine ⟨c 25, _, _, _, _, rfl, rfl, T.xv 25 (by decide), T.n25spots, ?_⟩
      | refine ⟨c 26, _, _, _, _, rfl, rfl, T.xl 26 (by decide), T.n26name, ?_⟩
      | refine ⟨c 27, _, _, _, _, rfl, rfl, T.xl 27 (by decide), T.n27name, ?_⟩
      | refine ⟨c 28, _, _, _, _, rfl, rfl, T.xl 28 (by decide), T.n28name, ?_⟩
      | refine ⟨c 29, _, _, _, _, rfl, rfl, T.xl 29 (by decide), T.n29name, ?_⟩
      | refine ⟨c 30, _, _, _, _, rfl, rfl, T.xl 30 (by decide), T.n30name, ?_⟩
      | refine ⟨c 31, _, _, _, _, rfl, rfl, T.xl 31 (by decide), T.n31fact, ?_⟩
      | refine ⟨c 32, _, _, _, _, rfl, rfl, T.xl 32 (by decide), T.n32name, ?_⟩
      | refine ⟨c 32, _, _, _, _, rfl, rfl, T.xl 32 (by decide), T.n32filled, ?_⟩
  exact ro_eqSame h4 rfl
end
end K11

namespace K11
open PySem L2 Xv Dd
/-- what the law takes of: words, numbers, lots -/
def words : List Dat := [.str "", .str "x", .str "no such worth", .str "r0", .str ⟨⟨List.replicate 100 120⟩⟩]
def nums : List Dat := [.int 0, .int 1, .int 7, .int 200, .int (10 ^ (30 : Int).toNat)]
def lots : List Dat := [.lst [.str "a", .str "b"], .lst [], .tup [.str "a"], .lst [.tup [.str "p", .tup [.str "a"]]]]
theorem rep_x : repS "x" 100 = ⟨⟨List.replicate 100 120⟩⟩ := by decide +kernel
theorem kept_w : (words.all repOk) = true := by decide +kernel
theorem kept_n : (nums.all repOk) = true := by decide +kernel
theorem kept_z : (lots.all fun z => repOk (.tup (seqOf z))) = true := by decide +kernel
theorem kept_e : (words.all fun x => eqOk (.lst [x, x, x, x, x, .tup [x, .tup []]])) = true := by decide +kernel
theorem kept_wn : (words.all fun x => nums.all fun n => repOk (.tup [.tup [n], x, .tup [n, .int 0]])) = true := by decide +kernel
theorem kept_wz0 : (words.all fun x => repOk (.lst [.tup [x, .tup [.str "a", .str "b"]], .tup [x, .tup [.str "a", .str "b"]], .tup [x, .tup [.str "a", .str "b"]], .tup [x, .tup [.str "a", .str "b"]]])) = true := by decide +kernel
theorem kept_wz1 : (words.all fun x => repOk (.lst [.tup [x, .tup []], .tup [x, .tup []], .tup [x, .tup []], .tup [x, .tup []]])) = true := by decide +kernel
theorem kept_wz2 : (words.all fun x => repOk (.lst [.tup [x, .tup [.str "a"]], .tup [x, .tup [.str "a"]], .tup [x, .tup [.str "a"]], .tup [x, .tup [.str "a"]]])) = true := by decide +kernel
theorem kept_wz3 : (words.all fun x => repOk (.lst [.tup [x, .tup [.tup [.str "p", .tup [.str "a"]]]], .tup [x, .tup [.tup [.str "p", .tup [.str "a"]]]], .tup [x, .tup [.tup [.str "p", .tup [.str "a"]]]], .tup [x, .tup [.tup [.str "p", .tup [.str "a"]]]]])) = true := by decide +kernel
theorem kept_wz : ∀ x ∈ words, ∀ z ∈ lots, repOk (.lst [.tup [x, .tup (seqOf z)], .tup [x, .tup (seqOf z)], .tup [x, .tup (seqOf z)], .tup [x, .tup (seqOf z)]]) = true := by
  intro x hx z h
  simp only [lots, List.mem_cons, List.not_mem_nil, or_false] at h
  rcases h with rfl | rfl | rfl | rfl
  · exact List.all_eq_true.mp kept_wz0 x hx
  · exact List.all_eq_true.mp kept_wz1 x hx
  · exact List.all_eq_true.mp kept_wz2 x hx
  · exact List.all_eq_true.mp kept_wz3 x hx
theorem kept_all : ∀ x ∈ words, ∀ n ∈ nums, ∀ z ∈ lots, keptOk x n (seqOf z) = true := by
  intro x hx n hn z h
  unfold keptOk
  rw [List.all_eq_true.mp kept_w x hx, List.all_eq_true.mp kept_n n hn, kept_wz x hx z h, List.all_eq_true.mp kept_z z h, List.all_eq_true.mp (List.all_eq_true.mp kept_wn x hx) n hn, List.all_eq_true.mp kept_e x hx]
  rfl
theorem seq_all : ∀ z ∈ lots, isSeq z := by
  intro z h
  simp only [lots, List.mem_cons, List.not_mem_nil, or_false] at h
  rcases h with rfl | rfl | rfl | rfl <;> exact True.intro
end K11

namespace K11
open PySem L2 Xv Dd
local macro_rules
  | `(tactic| walk_at "dd") => `(tactic| (first
    | with_reducible refine ws_seq ?_
    | ((with_reducible refine then_nx ?_); (try simp only [List.set_cons_zero, List.set_cons_succ]))
    | walk_at "de"))
  | `(tactic| walk_at "des") => `(tactic| repeat (walk_at "de"))
  | `(tactic| walk_at "de") => `(tactic| (first
    | with_reducible refine ws_asg ?_
    | with_reducible refine ws_ret ?_
    | with_reducible refine ws_next ?_
    | with_reducible refine ws_if ?_
    | ((with_reducible refine' ed_var ?hv ?_); (case hv => rfl))
    | with_reducible refine ed_int ?_
    | with_reducible refine ed_str ?_
    | with_reducible refine ed_bl ?_
    | with_reducible refine ed_non ?_
    | with_reducible refine ed_ty ?_
    | with_reducible refine ed_glo ?_
    | with_reducible refine ed_tup ?_
    | with_reducible refine ed_lst ?_
    | ((with_reducible refine' ed_pen ?hi (fun d hd => ?_) ?hk); (case hi => rfl); (case hk => rfl); cases hd)
    | with_reducible refine ed_op ?_
    | with_reducible refine ed_cb ?_
    | with_reducible refine ed_call ?_
    | with_reducible refine ed_exc0 ?_
    | with_reducible refine ed_excI ?_
    | with_reducible refine eda_nil ?_
    | with_reducible refine eda_cons ?_
    | with_reducible refine edt_test ?_
    | with_reducible refine edt_B ?_
    | with_reducible refine edt_and ?_
    | with_reducible refine edt_not ?_
    | with_reducible refine edt_or ?_
    | with_reducible refine ed_if ?_
    | with_reducible refine ed_xfld ?_
    | (with_reducible refine' Eq.mpr (if_pos rfl) ?_)
    | (with_reducible refine' Eq.mpr (if_neg Bool.false_ne_true) ?_)
    | refine ro_I0 (fun _ => Dh.int _) ?_
    | refine ro_I0 (fun _ => Dh.bl _) ?_
    | with_reducible refine rc_int ?_
    | with_reducible refine rc_lenL ?_
    | ((with_reducible refine' ro_cat ?hz ?_); (case hz => exact Nat.le_of_ble_eq_true rfl); (try simp only [List.cons_append, List.nil_append]))
    | with_reducible refine rc_lenT ?_
    | refine ro_I (show (0 : Int) < _ by decide) (fun _ => Dh.int _) ?_
    | ((refine' ro_I (C := CMul) (.inr ⟨?c1, ?c2⟩) (fun _ => Dh.int _) ?_); (case c1 => omega); (case c2 => omega))
    | ((refine' ro_I (C := CMul) (.inl ⟨?c1, ?c2⟩) (fun _ => Dh.int _) ?_); (case c1 => omega); (case c2 => omega))
    | refine ro_I (C := CPow) (by refine ⟨by decide, by decide, by decide⟩) (fun _ => Dh.int _) ?_
    | ((with_reducible refine' ⟨?hl, ?hn, ?_⟩); (case hl => simp; done); (case hn => (first | exact noPen_no rfl | exact noPen_dat rfl | exact noPen_own rfl)))
    | ((with_reducible refine' ⟨?hl, ?_⟩); (case hl => simp; done))))
  | `(tactic| walk_at "nx") => `(tactic| ((show Ws _ _ _ _); try simp only [List.set_cons_zero, List.set_cons_succ]))
  | `(tactic| walk_at "dds") => `(tactic| repeat (walk_at "dd"))

def everyL (c : Nat → Addr) (x n z : Dat) : List Dat := [.exc (c 0) [], .exc (c 1) [], .exc (c 2) [], .exc (c 3) [], .exc (c 4) [], .exc (c 5) [], .exc (c 6) [], .exc (c 7) [], .exc (c 8) [], .exc (c 9) [], .exc (c 10) [], .exc (c 11) [], .exc (c 12) [], .exc (c 13) [("members", .tup (seqOf z)), ("part", x)], .exc (c 14) [("members", .tup (seqOf z)), ("part", x)], .exc (c 15) [("name", x)], .exc (c 16) [("name", x)], .exc (c 17) [("name", x)], .exc (c 18) [("number", n)], .exc (c 19) [("number", n)], .exc (c 20) [("number", n)], .exc (c 21) [("number", n)], .exc (c 22) [("place", .tup [n, .int 0])], .exc (c 23) [("word", x), ("place", .tup [n])], .exc (c 24) [("filled", .tup (seqOf z)), ("name", x)], .exc (c 25) [("spots", .tup (seqOf z))], .exc (c 26) [("name", x)], .exc (c 27) [("name", x)], .exc (c 28) [("name", x)], .exc (c 29) [("name", x)], .exc (c 30) [("name", x)], .exc (c 31) [("fact", .tup [x, .tup []])], .exc (c 32) [("filled", .tup (seqOf z)), ("name", x)]]
theorem every_at (c : Nat → Addr) (x n z : Dat) : ∀ i, i < 33 → ∃ fs, (everyL c x n z)[i]? = some (.exc (c i) fs)
  | 0, _ => ⟨_, rfl⟩
  | 1, _ => ⟨_, rfl⟩
  | 2, _ => ⟨_, rfl⟩
  | 3, _ => ⟨_, rfl⟩
  | 4, _ => ⟨_, rfl⟩
  | 5, _ => ⟨_, rfl⟩
  | 6, _ => ⟨_, rfl⟩
  | 7, _ => ⟨_, rfl⟩
  | 8, _ => ⟨_, rfl⟩
  | 9, _ => ⟨_, rfl⟩
  | 10, _ => ⟨_, rfl⟩
  | 11, _ => ⟨_, rfl⟩
  | 12, _ => ⟨_, rfl⟩
  | 13, _ => ⟨_, rfl⟩
  | 14, _ => ⟨_, rfl⟩
  | 15, _ => ⟨_, rfl⟩
  | 16, _ => ⟨_, rfl⟩
  | 17, _ => ⟨_, rfl⟩
  | 18, _ => ⟨_, rfl⟩
  | 19, _ => ⟨_, rfl⟩
  | 20, _ => ⟨_, rfl⟩
  | 21, _ => ⟨_, rfl⟩
  | 22, _ => ⟨_, rfl⟩
  | 23, _ => ⟨_, rfl⟩
  | 24, _ => ⟨_, rfl⟩
  | 25, _ => ⟨_, rfl⟩
  | 26, _ => ⟨_, rfl⟩
  | 27, _ => ⟨_, rfl⟩
  | 28, _ => ⟨_, rfl⟩
  | 29, _ => ⟨_, rfl⟩
  | 30, _ => ⟨_, rfl⟩
  | 31, _ => ⟨_, rfl⟩
  | 32, _ => ⟨_, rfl⟩
  | i + 33, h => absurd h (by omega)
section
variable {P : Program} {w : World} {K : Dd.Frag} {mg : Str → Option Value} {base : Heap} {c fi ff : Nat → Addr}
theorem sc_law0 : FnScope ["_law_script", "_law_pen_here", "_law_lap", "_law_word", "_law_number", "_law_some", "_law_every", "_law_k", "_law_j"] ["_law_script"] (defScope slaw) := ⟨rfl, rfl, rfl, by decide +kernel, rfl, by decide +kernel, by decide +kernel⟩
theorem ok_law (T : Txt K mg c fi ff) {fd : FuncData} (F : Fun K "law" "law" slaw (ff 8) fd) : Gd.FnG P w K mg base CX0 5 (ff 8) fd ["_law_script"] (SpLaw K) := by
  have sc := sc_law0
  obtain ⟨_, Gpen, bGpen⟩ := ok_law_pen (P := P) (w := w) (base := base) T
  obtain ⟨_, Gdraw, bGdraw⟩ := ok_law_draw (P := P) (w := w) (base := base) T
  obtain ⟨_, Gkinds, bGkinds⟩ := ok_law_kinds (P := P) (w := w) (base := base) T
  obtain ⟨_, Gbases, bGbases⟩ := ok_law_bases (P := P) (w := w) (base := base) T
  obtain ⟨_, Gplain, bGplain⟩ := ok_law_plain (P := P) (w := w) (base := base) T
  obtain ⟨_, Gnamed, bGnamed⟩ := ok_law_named (P := P) (w := w) (base := base) T
  obtain ⟨_, Gkept, bGkept⟩ := ok_law_kept (P := P) (w := w) (base := base) T
  obtain ⟨fd13, I13, bI13⟩ := ok_i13 (P := P) (w := w) (base := base) T
  obtain ⟨fd14, I14, bI14⟩ := ok_i14 (P := P) (w := w) (base := base) T
  obtain ⟨fd22, I22, bI22⟩ := ok_i22 (P := P) (w := w) (base := base) T
  obtain ⟨fd23, I23, bI23⟩ := ok_i23 (P := P) (w := w) (base := base) T
  obtain ⟨fd24, I24, bI24⟩ := ok_i24 (P := P) (w := w) (base := base) T
  obtain ⟨fd25, I25, bI25⟩ := ok_i25 (P := P) (w := w) (base := base) T
  obtain ⟨fd26, I26, bI26⟩ := ok_i26 (P := P) (w := w) (base := base) T
  obtain ⟨fd27, I27, bI27⟩ := ok_i27 (P := P) (w := w) (base := base) T
  obtain ⟨fd28, I28, bI28⟩ := ok_i28 (P := P) (w := w) (base := base) T
  obtain ⟨fd29, I29, bI29⟩ := ok_i29 (P := P) (w := w) (base := base) T
  obtain ⟨fd30, I30, bI30⟩ := ok_i30 (P := P) (w := w) (base := base) T
  obtain ⟨fd31, I31, bI31⟩ := ok_i31 (P := P) (w := w) (base := base) T
  obtain ⟨fd32, I32, bI32⟩ := ok_i32 (P := P) (w := w) (base := base) T
  refine Gd.okG F sc (fun vs H Q E h => by obtain ⟨a, ns, rfl, _⟩ := h; rfl) (fun cdv A outer s H vs Q E hr hq h => ⟨_, (pss_cons (ps_set (i := 1) sc.nd rfl (Or.inl rfl) (pe_call Gpen (hr.mono (by decide)) rfl T.f_law_pen.mg_ T.f_law_pen.kp bGpen .nil pass0 (pa_cons (pv 0) pa_nil)))
      (pss_cons (ps_for PassesOwn.never rfl (pi_range1 rfl T.nrange (pa_cons pe_int pa_nil)) (pg_name (i := 2) sc.nd rfl (Or.inl rfl)) (pss_cons (ps_set (i := 3) sc.nd rfl (Or.inl rfl) (pe_ix ix_list (pe_lst (pa_cons pe_str (pa_cons pe_str (pa_cons pe_str (pa_cons pe_str (pa_cons (pe_op op_repS pe_str pe_int) pa_nil)))))) (pe_call Gdraw (hr.mono (by decide)) rfl T.f_law_draw.mg_ T.f_law_draw.kp bGdraw .nil pass0 (pa_cons (pv 1) (pa_cons pe_int pa_nil))) (fun _ _ => rfl)))
      (pss_cons (ps_set (i := 4) sc.nd rfl (Or.inl rfl) (pe_ix ix_list (pe_lst (pa_cons pe_int (pa_cons pe_int (pa_cons pe_int (pa_cons pe_int (pa_cons (pe_op op_pow pe_int pe_int) pa_nil)))))) (pe_call Gdraw (hr.mono (by decide)) rfl T.f_law_draw.mg_ T.f_law_draw.kp bGdraw .nil pass0 (pa_cons (pv 1) (pa_cons pe_int pa_nil))) (fun _ _ => rfl)))
      (pss_cons (ps_set (i := 5) sc.nd rfl (Or.inl rfl) (pe_ix ix_list (pe_lst (pa_cons (pe_lst (pa_cons pe_str (pa_cons pe_str pa_nil))) (pa_cons (pe_lst pa_nil) (pa_cons (pe_tup (pa_cons pe_str pa_nil)) (pa_cons (pe_lst (pa_cons (pe_tup (pa_cons pe_str (pa_cons (pe_tup (pa_cons pe_str pa_nil)) pa_nil))) pa_nil)) pa_nil))))) (pe_call Gdraw (hr.mono (by decide)) rfl T.f_law_draw.mg_ T.f_law_draw.kp bGdraw .nil pass0 (pa_cons (pv 1) (pa_cons pe_int pa_nil))) (fun _ _ => rfl)))
      (pss_cons (ps_set (i := 6) sc.nd rfl (Or.inl rfl) (pe_op op_catR (pe_op op_catR (pe_call0 Gplain (hr.mono (by decide)) rfl T.f_law_plain.mg_ T.f_law_plain.kp bGplain .nil pass0) (pe_lst (pa_cons (pe_excI PySem.F.excBase_ValueError (T.xv 13 (by decide)) T.i13.ini T.i13.ty I13 (hr.mono (by decide)) bI13 pass0 rfl T.m13 (pa_cons (pv 3) (pa_cons (pv 5) pa_nil))) (pa_cons (pe_excI PySem.F.excBase_ValueError (T.xv 14 (by decide)) T.i14.ini T.i14.ty I14 (hr.mono (by decide)) bI14 pass0 rfl T.m14 (pa_cons (pv 3) (pa_cons (pv 5) pa_nil))) pa_nil)))) (pe_call Gnamed (hr.mono (by decide)) rfl T.f_law_named.mg_ T.f_law_named.kp bGnamed .nil pass0 (pa_cons (pv 3) (pa_cons (pv 4) pa_nil)))))
      (pss_cons (ps_set (i := 6) sc.nd rfl (Or.inl rfl) (pe_op op_catR (pv 6) (pe_lst (pa_cons (pe_excI PySem.F.excBase_ValueError (T.xv 22 (by decide)) T.i22.ini T.i22.ty I22 (hr.mono (by decide)) bI22 pass0 rfl T.m22 (pa_cons (pe_tup (pa_cons (pv 4) (pa_cons pe_int pa_nil))) pa_nil)) (pa_cons (pe_excI PySem.F.excBase_ValueError (T.xv 23 (by decide)) T.i23.ini T.i23.ty I23 (hr.mono (by decide)) bI23 pass0 rfl T.m23 (pa_cons (pe_tup (pa_cons (pv 4) pa_nil)) (pa_cons (pv 3) pa_nil))) (pa_cons (pe_excI PySem.F.excBase_ValueError (T.xv 24 (by decide)) T.i24.ini T.i24.ty I24 (hr.mono (by decide)) bI24 pass0 rfl T.m24 (pa_cons (pv 3) (pa_cons (pv 5) pa_nil))) (pa_cons (pe_excI PySem.F.excBase_ValueError (T.xv 25 (by decide)) T.i25.ini T.i25.ty I25 (hr.mono (by decide)) bI25 pass0 rfl T.m25 (pa_cons (pv 5) pa_nil)) pa_nil)))))))
      (pss_cons (ps_set (i := 6) sc.nd rfl (Or.inl rfl) (pe_op op_catR (pv 6) (pe_lst (pa_cons (pe_excI PySem.F.excBase_LookupError (T.xl 26 (by decide)) T.i26.ini T.i26.ty I26 (hr.mono (by decide)) bI26 pass0 rfl T.m26 (pa_cons (pv 3) pa_nil)) (pa_cons (pe_excI PySem.F.excBase_LookupError (T.xl 27 (by decide)) T.i27.ini T.i27.ty I27 (hr.mono (by decide)) bI27 pass0 rfl T.m27 (pa_cons (pv 3) pa_nil)) (pa_cons (pe_excI PySem.F.excBase_LookupError (T.xl 28 (by decide)) T.i28.ini T.i28.ty I28 (hr.mono (by decide)) bI28 pass0 rfl T.m28 (pa_cons (pv 3) pa_nil)) (pa_cons (pe_excI PySem.F.excBase_LookupError (T.xl 29 (by decide)) T.i29.ini T.i29.ty I29 (hr.mono (by decide)) bI29 pass0 rfl T.m29 (pa_cons (pv 3) pa_nil)) pa_nil)))))))
      (pss_cons (ps_set (i := 6) sc.nd rfl (Or.inl rfl) (pe_op op_catR (pv 6) (pe_lst (pa_cons (pe_excI PySem.F.excBase_LookupError (T.xl 30 (by decide)) T.i30.ini T.i30.ty I30 (hr.mono (by decide)) bI30 pass0 rfl T.m30 (pa_cons (pv 3) pa_nil)) (pa_cons (pe_excI PySem.F.excBase_LookupError (T.xl 31 (by decide)) T.i31.ini T.i31.ty I31 (hr.mono (by decide)) bI31 pass0 rfl T.m31 (pa_cons (pe_tup (pa_cons (pv 3) (pa_cons (pe_tup pa_nil) pa_nil))) pa_nil)) (pa_cons (pe_excI PySem.F.excBase_LookupError (T.xl 32 (by decide)) T.i32.ini T.i32.ty I32 (hr.mono (by decide)) bI32 pass0 rfl T.m32 (pa_cons (pv 3) (pa_cons (pv 5) pa_nil))) pa_nil))))))
      (pss_cons (ps_for PassesOwn.never rfl (pi_range1 rfl T.nrange (pa_cons (pe_callB c_len rfl T.nlen (by decide +kernel) (pa_cons (pv 6) pa_nil)) pa_nil)) (pg_name (i := 7) sc.nd rfl (Or.inr rfl)) (pss_cons (ps_if (pt_cmpR (op_neD hr.units) (pe_call Gkinds (hr.mono (by decide)) rfl T.f_law_kinds.mg_ T.f_law_kinds.kp bGkinds .nil pass0 (pa_cons (pe_ix ix_list (pv 6) (pv 7) (fun _ _ => rfl)) pa_nil)) (pe_lc (own := [("_law_j", 8)]) (g := gName 8) (tt := tYes) rfl sc.nd (pi_range1 rfl T.nrange (pa_cons (pe_callB c_len rfl T.nlen (by decide +kernel) (pa_cons (pv 6) pa_nil)) pa_nil)) (blkOk_by (N := ["_law_script", "_law_pen_here", "_law_lap", "_law_word", "_law_number", "_law_some", "_law_every", "_law_k", "_law_j"]) (sc := defScope slaw) (by decide +kernel)) (fun _ _ _ _ _ => pg_name (i := 8) sc.nd rfl (Or.inl rfl)) (fun _ _ _ _ _ => pts_nil) (fun _ _ _ _ _ => (pe_cmpR op_eq (pv 8) (pv 7) (nomark _)))) (nomark _)) (pss_one (ps_ret pe_bl)) pss_nil)
      (pss_one (ps_if (pt_cmpR (op_neD hr.units) (pe_call Gbases (hr.mono (by decide)) rfl T.f_law_bases.mg_ T.f_law_bases.kp bGbases .nil pass0 (pa_cons (pe_ix ix_list (pv 6) (pv 7) (fun _ _ => rfl)) pa_nil)) (pe_lst (pa_cons (pe_cmpR op_lt (pv 7) pe_int (nomark _)) (pa_cons (pe_cmpR op_lt (pv 7) pe_int (nomark _)) (pa_cons (pe_cmpR op_gt (pv 7) pe_int (nomark _)) (pa_cons (pe_cmpR op_gt (pv 7) pe_int (nomark _)) pa_nil))))) (nomark _)) (pss_one (ps_ret pe_bl)) pss_nil))))
      (pss_one (ps_if (PW.pt (pw_or (pt_cmpR (op_neD hr.units) (pe_callB c_len rfl T.nlen (by decide +kernel) (pa_cons (pv 6) pa_nil)) pe_int (nomark _)) (pw_or1 (pt_not (pt_val (Gd.pe_callG Gkept (hr.mono (by decide)) hq rfl T.f_law_kept.mg_ T.f_law_kept.kp bGkept .nil pass0 (pa_cons (pv 3) (pa_cons (pv 4) (pa_cons (pv 5) pa_nil))))))))) (pss_one (ps_ret pe_bl)) pss_nil)))))))))))
      (pss_one (ps_ret pe_bl)))), law_pen (by decide) (fun cs hcs => ?_) h⟩)
  show Ws K _ [.no, .pen cs 0 0, .no, .no, .no, .no, .no, .no, .no] _
  try dsimp only [cxOf, Cx.nox, Cx.wish]
  walk_at "dd"
  refine ws_for1 ?_
  walk_at "dds"
  refine ⟨2, rfl, by decide, by decide, ?_⟩
  refine loop_inv (fun i E => ∃ (a b : Int) (e2 e3 e4 e5 e6 e7 : En), 0 ≤ a ∧ a ≤ 3 * (i : Int) ∧ NoPen (some e2) ∧ NoPen (some e3) ∧ NoPen (some e4) ∧ NoPen (some e5) ∧ NoPen (some e6) ∧ NoPen (some e7) ∧ E = [.no, .pen cs a b, e2, e3, e4, e5, e6, e7, .no]) ⟨0, 0, .no, .no, .no, .no, .no, .no, by omega, by omega, noPen_no rfl, noPen_no rfl, noPen_no rfl, noPen_no rfl, noPen_no rfl, noPen_no rfl, rfl⟩ ?_ ?_
  · rintro i d E hd ⟨a, b, e2, e3, e4, e5, e6, e7, ha, ha2, n2, n3, n4, n5, n6, n7, rfl⟩
    have hi : i < 2 := by
      have := (List.getElem?_eq_some_iff.mp hd).1
      rwa [upTo_length] at this
    refine ⟨by simp, n2, ?_⟩
    simp only [List.set_cons_zero, List.set_cons_succ]
    walk_at "dds"
    refine ro_repS (by decide) (by decide) (by decide +kernel) (by decide +kernel) (by decide +kernel) ?_
    rw [rep_x]
    walk_at "dds"
    refine ed_callP rfl ?_
    walk_at "dds"
    refine ⟨cs, a, b, rfl, ⟨5, rfl, by decide, by decide⟩, by omega, fun d1 a1 b1 p0 p1 h1 => ?_⟩
    obtain ⟨m, k, em, rfl, k0, k1⟩ := h1
    cases em
    obtain ⟨x, hx, mx⟩ := at_mem words k0 k1
    refine ro_ixL hx ?_
    refine ⟨by simp, n3, ?_⟩
    walk_at "dds"
    refine ed_callP rfl ?_
    walk_at "dds"
    refine ⟨cs, a1, b1, rfl, ⟨5, rfl, by decide, by decide⟩, by omega, fun d2 a2 b2 p2 p3 h1 => ?_⟩
    obtain ⟨m, k, em, rfl, k0, k1⟩ := h1
    cases em
    obtain ⟨n, hn, mn⟩ := at_mem nums k0 k1
    refine ro_ixL hn ?_
    refine ⟨by simp, n4, ?_⟩
    walk_at "dds"
    refine ed_callP rfl ?_
    walk_at "dds"
    refine ⟨cs, a2, b2, rfl, ⟨4, rfl, by decide, by decide⟩, by omega, fun d3 a3 b3 p4 p5 h1 => ?_⟩
    obtain ⟨m, k, em, rfl, k0, k1⟩ := h1
    cases em
    obtain ⟨z, hzz, mz⟩ := at_mem lots k0 k1
    have hz : isSeq z := seq_all z mz
    refine ro_ixL hzz ?_
    refine ⟨by simp, n5, ?_⟩
    repeat first
      | walk_at "dd"
      | refine ⟨n6, ?_⟩
      | (refine ⟨⟨rfl, hz⟩, ?_⟩; (try simp only [List.getD_cons_zero, List.getD_cons_succ]))
      | (rintro _ rfl; (try simp only [List.getD_cons_zero, List.getD_cons_succ]))
      | refine ⟨rfl, fun d e => ?_⟩
      | (subst e; (try simp only [List.getD_cons_zero, List.getD_cons_succ]))
      | simp only [List.getD_cons_zero, List.getD_cons_succ]
    refine ws_for1 ?_
    walk_at "dds"
    refine ⟨33, rfl, by decide, by decide, ?_⟩
    refine loop_inv (E := [.no, .pen cs a3 b3, .dat d, .dat x, .dat n, .dat z, .dat (.lst (everyL c x n z)), e7, .no]) (fun k E => ∃ y : En, NoPen (some y) ∧ E = [.no, .pen cs a3 b3, .dat d, .dat x, .dat n, .dat z, .dat (.lst (everyL c x n z)), y, .no]) ⟨e7, n7, rfl⟩ ?_ ?_
    · rintro k dk E hdk ⟨y, hy, rfl⟩
      have hk : k < 33 := by
        have := (List.getElem?_eq_some_iff.mp hdk).1
        rwa [upTo_length] at this
      obtain rfl : dk = .int (k : Int) := by
        have := (upTo_get (lo := 0) hk).symm.trans hdk
        rw [Int.zero_add] at this
        exact (Option.some.inj this).symm
      obtain ⟨fs, hfs⟩ := every_at c x n z k hk
      refine ⟨by simp, hy, ?_⟩
      simp only [List.set_cons_zero, List.set_cons_succ]
      walk_at "dds"
      refine ro_ixL (atI_nat hfs) ?_
      walk_at "dds"
      refine ⟨⟨k, fs, hk, rfl⟩, fun d1 h1 => ?_⟩
      obtain rfl := h1 k fs hk rfl
      refine ed_lc1 ?_
      walk_at "dds"
      refine ⟨33, rfl, by decide, by decide, ?_⟩
      refine loopC_map (fun q => match q with | .int j => .bl (decide (j = (k : Int))) | _ => .non) rfl (upTo 0 33) [] (by decide) (fun q hq => ?_) ?_
      · obtain ⟨j, _, rfl⟩ := List.mem_map.mp hq
        simp only [List.set_cons_zero, List.set_cons_succ]
        walk_at "dds"
        exact ro_eqI ⟨rfl, rfl⟩
      have e1 : ([] : List Dat) ++ (upTo 0 33).map (fun q => match q with | .int j => Dat.bl (decide (j = (k : Int))) | _ => .non) = ((List.range 33).map fun j => decide (j = k)).map Dat.bl := by
        rw [List.nil_append, Dd.upTo, List.map_map, List.map_map]
        refine List.map_congr_left fun j _ => ?_
        show Dat.bl (decide ((0 : Int) + (j : Int) = (k : Int))) = Dat.bl (decide (j = k))
        congr 1
        refine decide_eq_decide.mpr ?_
        omega
      have e2 : (List.range 33).map (fun j => Dat.bl (decide (j = k))) = ((List.range 33).map fun j => decide (j = k)).map Dat.bl := by
        rw [List.map_map]
        rfl
      rw [e1, e2]
      refine ro_neSameD (eqOk_bls _) ?_
      walk_at "dds"
      refine ex_bl ?_
      walk_at "dds"
      refine ro_ixL (atI_nat hfs) ?_
      walk_at "dds"
      refine ⟨⟨k, fs, hk, rfl⟩, fun d1 h1 => ?_⟩
      obtain rfl := h1 k fs hk rfl
      walk_at "dds"
      have e3 : decide ((k : Int) < 26) = decide (k < 26) := decide_eq_decide.mpr (by omega)
      have e4 : decide (25 < (k : Int)) = decide (25 < k) := decide_eq_decide.mpr (by omega)
      rw [e3, e4]
      refine ro_neSameD (d := .lst ([decide (k < 26), decide (k < 26), decide (25 < k), decide (25 < k)].map Dat.bl)) (eqOk_bls _) ?_
      refine ex_bl ?_
      walk_at "dds"
      show ∃ y : En, NoPen (some y) ∧ _ = _
      exact ⟨_, noPen_dat rfl, rfl⟩
    · rintro _ ⟨y, hy, rfl⟩
      walk_at "dds"
      refine ro_neSameD (d := .int 33) (by decide +kernel) ?_
      refine ex_bl ?_
      walk_at "dds"
      refine ⟨⟨x, n, z, rfl, hz, kept_all x mx n mn z mz⟩, fun d1 h1 => ?_⟩
      subst h1
      refine ex_bl ?_
      rw [if_neg (by decide)]
      refine ws_next ?_
      show ∃ (a b : Int) (e2 e3 e4 e5 e6 e7 : En), 0 ≤ a ∧ a ≤ 3 * ((i + 1 : Nat) : Int) ∧ NoPen (some e2) ∧ NoPen (some e3) ∧ NoPen (some e4) ∧ NoPen (some e5) ∧ NoPen (some e6) ∧ NoPen (some e7) ∧ _ = _
      exact ⟨a3, b3, _, _, _, _, _, _, by omega, by omega, noPen_dat rfl, noPen_dat rfl, noPen_dat rfl, noPen_dat rfl, noPen_dat rfl, hy, rfl⟩
  · rintro _ ⟨a, b, e2, e3, e4, e5, e6, e7, ha, ha2, n2, n3, n4, n5, n6, n7, rfl⟩
    walk_at "dds"
    rfl
end
end K11

namespace K11
open PySem L2 Xv Dd
/-- a def of the written part -/
abbrev FnL (K : Dd.Frag) (x q : Str) (st : Stmt) (f : Addr) : Prop := ∃ (oc : Value) (od : Option Addr) (sl : Array (Option Value)) (kV dc pm : Value) (an : Option Addr) (cd ct : Value),
  K.lookup f = some ⟨oc, od, .func (PySem.W.fnOf x q (defArgs st) (defBody st) (defScope st) .none kV dc pm an cd ct), sl⟩ ∧ PySem.W.codeIn K cd q = true ∧ PySem.W.keepIn K (.ref f) = true
theorem fnL_mk {K : Dd.Frag} {x q : Str} {st : Stmt} {f : Addr} {oc : Value} {od : Option Addr} {sl : Array (Option Value)} {kV dc pm : Value} {an : Option Addr} {cd ct : Value}
    (l : K.lookup f = some ⟨oc, od, .func (PySem.W.fnOf x q (defArgs st) (defBody st) (defScope st) .none kV dc pm an cd ct), sl⟩) (c : PySem.W.codeIn K cd q = true) (k : PySem.W.keepIn K (.ref f) = true) : FnL K x q st f := ⟨_, _, _, _, _, _, _, _, _, l, c, k⟩
/-- the checks over the classes together -/
def chkV (K : Dd.Frag) (c : Nat → Addr) : Bool := (List.range 26).all fun i => clsOk K veB "ValueError.__new__" (c i)
def chkL (K : Dd.Frag) (c : Nat → Addr) : Bool := (List.range 33).all fun i => decide (i < 26) || clsOk K leB "LookupError.__new__" (c i)
def chkE (K : Dd.Frag) (c : Nat → Addr) : Bool := (List.range 13).all fun i => PySem.W.excIn K (c i) veB "ValueError.__new__"
def chkK (K : Dd.Frag) (c : Nat → Addr) : Bool := (List.range 33).all fun i => (List.range 33).all fun j => PySem.W.kitOne K (.ref (c i)) (.ref (c j)) == some (decide (j = i))
def chkB (K : Dd.Frag) (c : Nat → Addr) : Bool := (List.range 33).all fun i => PySem.W.kitOne K (.ref (c i)) (.ref (c 33)) == some (decide (i < 26)) && PySem.W.kitOne K (.ref (c i)) (.ref (c 34)) == some (decide (25 < i))
  && PySem.W.kitOne K (.ref (c i)) (.type "ValueError") == some (decide (i < 26)) && PySem.W.kitOne K (.ref (c i)) (.type "LookupError") == some (decide (25 < i))
theorem all_range {n : Nat} {p : Nat → Bool} (h : (List.range n).all p = true) {i : Nat} (hi : i < n) : p i = true := List.all_eq_true.mp h i (List.mem_range.mpr hi)
theorem txt_mk {K : Dd.Frag} {h : Heap} {mg : Str → Option Value} {c0 c1 c2 c3 c4 c5 c6 c7 c8 c9 c10 c11 c12 c13 c14 c15 c16 c17 c18 c19 c20 c21 c22 c23 c24 c25 c26 c27 c28 c29 c30 c31 c32 c33 c34 f13 f14 f15 f16 f17 f18 f19 f20 f21 f22 f23 f24 f25 f26 f27 f28 f29 f30 f31 f32 g0 g1 g2 g3 g4 g5 g6 g7 g8 : Addr}
    (X : K.In h) (G : h.Ns mainGlobals mg)
    (m0 : PySem.W.nsIn K mainGlobals "BadScale" = some (some (.ref c0)))
    (m1 : PySem.W.nsIn K mainGlobals "BadImages" = some (some (.ref c1)))
    (m2 : PySem.W.nsIn K mainGlobals "BadTable" = some (some (.ref c2)))
    (m3 : PySem.W.nsIn K mainGlobals "BadTree" = some (some (.ref c3)))
    (m4 : PySem.W.nsIn K mainGlobals "BadBlocks" = some (some (.ref c4)))
    (m5 : PySem.W.nsIn K mainGlobals "BadPaper" = some (some (.ref c5)))
    (m6 : PySem.W.nsIn K mainGlobals "BadTurn" = some (some (.ref c6)))
    (m7 : PySem.W.nsIn K mainGlobals "BadDeed" = some (some (.ref c7)))
    (m8 : PySem.W.nsIn K mainGlobals "MixedScales" = some (some (.ref c8)))
    (m9 : PySem.W.nsIn K mainGlobals "MixedFrames" = some (some (.ref c9)))
    (m10 : PySem.W.nsIn K mainGlobals "NotSteady" = some (some (.ref c10)))
    (m11 : PySem.W.nsIn K mainGlobals "TooMany" = some (some (.ref c11)))
    (m12 : PySem.W.nsIn K mainGlobals "NothingDone" = some (some (.ref c12)))
    (m13 : PySem.W.nsIn K mainGlobals "NotLinked" = some (some (.ref c13)))
    (m14 : PySem.W.nsIn K mainGlobals "NotKept" = some (some (.ref c14)))
    (m15 : PySem.W.nsIn K mainGlobals "BadFrame" = some (some (.ref c15)))
    (m16 : PySem.W.nsIn K mainGlobals "BadName" = some (some (.ref c16)))
    (m17 : PySem.W.nsIn K mainGlobals "BadThing" = some (some (.ref c17)))
    (m18 : PySem.W.nsIn K mainGlobals "BadRule" = some (some (.ref c18)))
    (m19 : PySem.W.nsIn K mainGlobals "BadRow" = some (some (.ref c19)))
    (m20 : PySem.W.nsIn K mainGlobals "NoLine" = some (some (.ref c20)))
    (m21 : PySem.W.nsIn K mainGlobals "NoState" = some (some (.ref c21)))
    (m22 : PySem.W.nsIn K mainGlobals "BadText" = some (some (.ref c22)))
    (m23 : PySem.W.nsIn K mainGlobals "BadQuestion" = some (some (.ref c23)))
    (m24 : PySem.W.nsIn K mainGlobals "TwiceTold" = some (some (.ref c24)))
    (m25 : PySem.W.nsIn K mainGlobals "Clash" = some (some (.ref c25)))
    (m26 : PySem.W.nsIn K mainGlobals "UnknownWorth" = some (some (.ref c26)))
    (m27 : PySem.W.nsIn K mainGlobals "UnknownName" = some (some (.ref c27)))
    (m28 : PySem.W.nsIn K mainGlobals "UnknownThing" = some (some (.ref c28)))
    (m29 : PySem.W.nsIn K mainGlobals "UnknownLabel" = some (some (.ref c29)))
    (m30 : PySem.W.nsIn K mainGlobals "NotTold" = some (some (.ref c30)))
    (m31 : PySem.W.nsIn K mainGlobals "UnknownFact" = some (some (.ref c31)))
    (m32 : PySem.W.nsIn K mainGlobals "NoRow" = some (some (.ref c32)))
    (m33 : PySem.W.nsIn K mainGlobals "WorthhouseError" = some (some (.ref c33)))
    (m34 : PySem.W.nsIn K mainGlobals "NameMissing" = some (some (.ref c34)))
    (i13 : PySem.W.findIn K (.ref c13) "__init__" = some (some (.ref f13))) (t13 : PySem.W.typeIn K (.ref f13) = some (.type "function")) (l13 : FnL K "__init__" "NotLinked.__init__" iNotLinked f13)
    (i14 : PySem.W.findIn K (.ref c14) "__init__" = some (some (.ref f14))) (t14 : PySem.W.typeIn K (.ref f14) = some (.type "function")) (l14 : FnL K "__init__" "NotKept.__init__" iNotKept f14)
    (i15 : PySem.W.findIn K (.ref c15) "__init__" = some (some (.ref f15))) (t15 : PySem.W.typeIn K (.ref f15) = some (.type "function")) (l15 : FnL K "__init__" "BadFrame.__init__" iBadFrame f15)
    (i16 : PySem.W.findIn K (.ref c16) "__init__" = some (some (.ref f16))) (t16 : PySem.W.typeIn K (.ref f16) = some (.type "function")) (l16 : FnL K "__init__" "BadName.__init__" iBadName f16)
    (i17 : PySem.W.findIn K (.ref c17) "__init__" = some (some (.ref f17))) (t17 : PySem.W.typeIn K (.ref f17) = some (.type "function")) (l17 : FnL K "__init__" "BadThing.__init__" iBadThing f17)
    (i18 : PySem.W.findIn K (.ref c18) "__init__" = some (some (.ref f18))) (t18 : PySem.W.typeIn K (.ref f18) = some (.type "function")) (l18 : FnL K "__init__" "BadRule.__init__" iBadRule f18)
    (i19 : PySem.W.findIn K (.ref c19) "__init__" = some (some (.ref f19))) (t19 : PySem.W.typeIn K (.ref f19) = some (.type "function")) (l19 : FnL K "__init__" "BadRow.__init__" iBadRow f19)
    (i20 : PySem.W.findIn K (.ref c20) "__init__" = some (some (.ref f20))) (t20 : PySem.W.typeIn K (.ref f20) = some (.type "function")) (l20 : FnL K "__init__" "NoLine.__init__" iNoLine f20)
    (i21 : PySem.W.findIn K (.ref c21) "__init__" = some (some (.ref f21))) (t21 : PySem.W.typeIn K (.ref f21) = some (.type "function")) (l21 : FnL K "__init__" "NoState.__init__" iNoState f21)
    (i22 : PySem.W.findIn K (.ref c22) "__init__" = some (some (.ref f22))) (t22 : PySem.W.typeIn K (.ref f22) = some (.type "function")) (l22 : FnL K "__init__" "BadText.__init__" iBadText f22)
    (i23 : PySem.W.findIn K (.ref c23) "__init__" = some (some (.ref f23))) (t23 : PySem.W.typeIn K (.ref f23) = some (.type "function")) (l23 : FnL K "__init__" "BadQuestion.__init__" iBadQuestion f23)
    (i24 : PySem.W.findIn K (.ref c24) "__init__" = some (some (.ref f24))) (t24 : PySem.W.typeIn K (.ref f24) = some (.type "function")) (l24 : FnL K "__init__" "TwiceTold.__init__" iTwiceTold f24)
    (i25 : PySem.W.findIn K (.ref c25) "__init__" = some (some (.ref f25))) (t25 : PySem.W.typeIn K (.ref f25) = some (.type "function")) (l25 : FnL K "__init__" "Clash.__init__" iClash f25)
    (i26 : PySem.W.findIn K (.ref c26) "__init__" = some (some (.ref f26))) (t26 : PySem.W.typeIn K (.ref f26) = some (.type "function")) (l26 : FnL K "__init__" "UnknownWorth.__init__" iUnknownWorth f26)
    (i27 : PySem.W.findIn K (.ref c27) "__init__" = some (some (.ref f27))) (t27 : PySem.W.typeIn K (.ref f27) = some (.type "function")) (l27 : FnL K "__init__" "UnknownName.__init__" iUnknownName f27)
    (i28 : PySem.W.findIn K (.ref c28) "__init__" = some (some (.ref f28))) (t28 : PySem.W.typeIn K (.ref f28) = some (.type "function")) (l28 : FnL K "__init__" "UnknownThing.__init__" iUnknownThing f28)
    (i29 : PySem.W.findIn K (.ref c29) "__init__" = some (some (.ref f29))) (t29 : PySem.W.typeIn K (.ref f29) = some (.type "function")) (l29 : FnL K "__init__" "UnknownLabel.__init__" iUnknownLabel f29)
    (i30 : PySem.W.findIn K (.ref c30) "__init__" = some (some (.ref f30))) (t30 : PySem.W.typeIn K (.ref f30) = some (.type "function")) (l30 : FnL K "__init__" "NotTold.__init__" iNotTold f30)
    (i31 : PySem.W.findIn K (.ref c31) "__init__" = some (some (.ref f31))) (t31 : PySem.W.typeIn K (.ref f31) = some (.type "function")) (l31 : FnL K "__init__" "UnknownFact.__init__" iUnknownFact f31)
    (i32 : PySem.W.findIn K (.ref c32) "__init__" = some (some (.ref f32))) (t32 : PySem.W.typeIn K (.ref f32) = some (.type "function")) (l32 : FnL K "__init__" "NoRow.__init__" iNoRow f32)
    (n13part : PySem.W.findIn K (.ref c13) "part" = some none)
    (n13members : PySem.W.findIn K (.ref c13) "members" = some none)
    (n14part : PySem.W.findIn K (.ref c14) "part" = some none)
    (n14members : PySem.W.findIn K (.ref c14) "members" = some none)
    (n15name : PySem.W.findIn K (.ref c15) "name" = some none)
    (n16name : PySem.W.findIn K (.ref c16) "name" = some none)
    (n17name : PySem.W.findIn K (.ref c17) "name" = some none)
    (n18number : PySem.W.findIn K (.ref c18) "number" = some none)
    (n19number : PySem.W.findIn K (.ref c19) "number" = some none)
    (n20number : PySem.W.findIn K (.ref c20) "number" = some none)
    (n21number : PySem.W.findIn K (.ref c21) "number" = some none)
    (n22place : PySem.W.findIn K (.ref c22) "place" = some none)
    (n23place : PySem.W.findIn K (.ref c23) "place" = some none)
    (n23word : PySem.W.findIn K (.ref c23) "word" = some none)
    (n24name : PySem.W.findIn K (.ref c24) "name" = some none)
    (n24filled : PySem.W.findIn K (.ref c24) "filled" = some none)
    (n25spots : PySem.W.findIn K (.ref c25) "spots" = some none)
    (n26name : PySem.W.findIn K (.ref c26) "name" = some none)
    (n27name : PySem.W.findIn K (.ref c27) "name" = some none)
    (n28name : PySem.W.findIn K (.ref c28) "name" = some none)
    (n29name : PySem.W.findIn K (.ref c29) "name" = some none)
    (n30name : PySem.W.findIn K (.ref c30) "name" = some none)
    (n31fact : PySem.W.findIn K (.ref c31) "fact" = some none)
    (n32name : PySem.W.findIn K (.ref c32) "name" = some none)
    (n32filled : PySem.W.findIn K (.ref c32) "filled" = some none)
    (d0 : PySem.W.nsIn K mainGlobals "_law_pen" = some (some (.ref g0))) (r0 : FnL K "_law_pen" "_law_pen" s_law_pen g0)
    (d1 : PySem.W.nsIn K mainGlobals "_law_next" = some (some (.ref g1))) (r1 : FnL K "_law_next" "_law_next" s_law_next g1)
    (d2 : PySem.W.nsIn K mainGlobals "_law_draw" = some (some (.ref g2))) (r2 : FnL K "_law_draw" "_law_draw" s_law_draw g2)
    (d3 : PySem.W.nsIn K mainGlobals "_law_kinds" = some (some (.ref g3))) (r3 : FnL K "_law_kinds" "_law_kinds" s_law_kinds g3)
    (d4 : PySem.W.nsIn K mainGlobals "_law_bases" = some (some (.ref g4))) (r4 : FnL K "_law_bases" "_law_bases" s_law_bases g4)
    (d5 : PySem.W.nsIn K mainGlobals "_law_plain" = some (some (.ref g5))) (r5 : FnL K "_law_plain" "_law_plain" s_law_plain g5)
    (d6 : PySem.W.nsIn K mainGlobals "_law_named" = some (some (.ref g6))) (r6 : FnL K "_law_named" "_law_named" s_law_named g6)
    (d7 : PySem.W.nsIn K mainGlobals "_law_kept" = some (some (.ref g7))) (r7 : FnL K "_law_kept" "_law_kept" s_law_kept g7)
    (d8 : PySem.W.nsIn K mainGlobals "law" = some (some (.ref g8))) (r8 : FnL K "law" "law" slaw g8)
    (zisinstance : PySem.W.nsIn K mainGlobals "isinstance" = some none)
    (zlen : PySem.W.nsIn K mainGlobals "len" = some none)
    (zrange : PySem.W.nsIn K mainGlobals "range" = some none)
    (zint : PySem.W.nsIn K mainGlobals "int" = some none)
    (zlist : PySem.W.nsIn K mainGlobals "list" = some none)
    (ztuple : PySem.W.nsIn K mainGlobals "tuple" = some none)
    (zrepr : PySem.W.nsIn K mainGlobals "repr" = some none)
    (zValueError : PySem.W.nsIn K mainGlobals "ValueError" = some none)
    (zLookupError : PySem.W.nsIn K mainGlobals "LookupError" = some none)
    (x1 : PySem.W.specialIn K (.builtin "object.__class__") "__get__" = some (some (.builtin "getset_descriptor.__get__"))) (x2 : PySem.W.takesIn K (.builtin "object.__class__") = some true)
    (v1 : chkV K (fun i => [c0, c1, c2, c3, c4, c5, c6, c7, c8, c9, c10, c11, c12, c13, c14, c15, c16, c17, c18, c19, c20, c21, c22, c23, c24, c25, c26, c27, c28, c29, c30, c31, c32, c33, c34].getD i 0) = true) (v2 : chkL K (fun i => [c0, c1, c2, c3, c4, c5, c6, c7, c8, c9, c10, c11, c12, c13, c14, c15, c16, c17, c18, c19, c20, c21, c22, c23, c24, c25, c26, c27, c28, c29, c30, c31, c32, c33, c34].getD i 0) = true) (v3 : chkE K (fun i => [c0, c1, c2, c3, c4, c5, c6, c7, c8, c9, c10, c11, c12, c13, c14, c15, c16, c17, c18, c19, c20, c21, c22, c23, c24, c25, c26, c27, c28, c29, c30, c31, c32, c33, c34].getD i 0) = true) (v4 : chkK K (fun i => [c0, c1, c2, c3, c4, c5, c6, c7, c8, c9, c10, c11, c12, c13, c14, c15, c16, c17, c18, c19, c20, c21, c22, c23, c24, c25, c26, c27, c28, c29, c30, c31, c32, c33, c34].getD i 0) = true) (v5 : chkB K (fun i => [c0, c1, c2, c3, c4, c5, c6, c7, c8, c9, c10, c11, c12, c13, c14, c15, c16, c17, c18, c19, c20, c21, c22, c23, c24, c25, c26, c27, c28, c29, c30, c31, c32, c33, c34].getD i 0) = true) :
    Txt K mg (fun i => [c0, c1, c2, c3, c4, c5, c6, c7, c8, c9, c10, c11, c12, c13, c14, c15, c16, c17, c18, c19, c20, c21, c22, c23, c24, c25, c26, c27, c28, c29, c30, c31, c32, c33, c34].getD i 0) (fun i => [0, 0, 0, 0, 0, 0, 0, 0, 0, 0, 0, 0, 0, f13, f14, f15, f16, f17, f18, f19, f20, f21, f22, f23, f24, f25, f26, f27, f28, f29, f30, f31, f32].getD i 0) (fun i => [g0, g1, g2, g3, g4, g5, g6, g7, g8].getD i 0) := by
  constructor
  case m0 => exact PySem.W.mg_of X G m0
  case m1 => exact PySem.W.mg_of X G m1
  case m2 => exact PySem.W.mg_of X G m2
  case m3 => exact PySem.W.mg_of X G m3
  case m4 => exact PySem.W.mg_of X G m4
  case m5 => exact PySem.W.mg_of X G m5
  case m6 => exact PySem.W.mg_of X G m6
  case m7 => exact PySem.W.mg_of X G m7
  case m8 => exact PySem.W.mg_of X G m8
  case m9 => exact PySem.W.mg_of X G m9
  case m10 => exact PySem.W.mg_of X G m10
  case m11 => exact PySem.W.mg_of X G m11
  case m12 => exact PySem.W.mg_of X G m12
  case m13 => exact PySem.W.mg_of X G m13
  case m14 => exact PySem.W.mg_of X G m14
  case m15 => exact PySem.W.mg_of X G m15
  case m16 => exact PySem.W.mg_of X G m16
  case m17 => exact PySem.W.mg_of X G m17
  case m18 => exact PySem.W.mg_of X G m18
  case m19 => exact PySem.W.mg_of X G m19
  case m20 => exact PySem.W.mg_of X G m20
  case m21 => exact PySem.W.mg_of X G m21
  case m22 => exact PySem.W.mg_of X G m22
  case m23 => exact PySem.W.mg_of X G m23
  case m24 => exact PySem.W.mg_of X G m24
  case m25 => exact PySem.W.mg_of X G m25
  case m26 => exact PySem.W.mg_of X G m26
  case m27 => exact PySem.W.mg_of X G m27
  case m28 => exact PySem.W.mg_of X G m28
  case m29 => exact PySem.W.mg_of X G m29
  case m30 => exact PySem.W.mg_of X G m30
  case m31 => exact PySem.W.mg_of X G m31
  case m32 => exact PySem.W.mg_of X G m32
  case m33 => exact PySem.W.mg_of X G m33
  case m34 => exact PySem.W.mg_of X G m34
  case xv => exact fun i hi => xc_of (all_range v1 hi)
  case xl =>
    intro i hi
    have z := all_range v2 hi.2
    simp only [Bool.or_eq_true, decide_eq_true_eq] at z
    exact z.elim (fun q => absurd q (by omega)) xc_of
  case e0 => exact all_range v3 (show 0 < 13 by decide)
  case e1 => exact all_range v3 (show 1 < 13 by decide)
  case e2 => exact all_range v3 (show 2 < 13 by decide)
  case e3 => exact all_range v3 (show 3 < 13 by decide)
  case e4 => exact all_range v3 (show 4 < 13 by decide)
  case e5 => exact all_range v3 (show 5 < 13 by decide)
  case e6 => exact all_range v3 (show 6 < 13 by decide)
  case e7 => exact all_range v3 (show 7 < 13 by decide)
  case e8 => exact all_range v3 (show 8 < 13 by decide)
  case e9 => exact all_range v3 (show 9 < 13 by decide)
  case e10 => exact all_range v3 (show 10 < 13 by decide)
  case e11 => exact all_range v3 (show 11 < 13 by decide)
  case e12 => exact all_range v3 (show 12 < 13 by decide)
  case xg => exact ⟨x1, x2⟩
  case kit => exact fun i j hi hj => eq_of_beq (all_range (all_range v4 hi) hj)
  case kW =>
    intro i hi
    have z := all_range v5 hi
    simp only [Bool.and_eq_true, beq_iff_eq] at z
    exact z.1.1.1
  case kN =>
    intro i hi
    have z := all_range v5 hi
    simp only [Bool.and_eq_true, beq_iff_eq] at z
    exact z.1.1.2
  case kV =>
    intro i hi
    have z := all_range v5 hi
    simp only [Bool.and_eq_true, beq_iff_eq] at z
    exact z.1.2
  case kL =>
    intro i hi
    have z := all_range v5 hi
    simp only [Bool.and_eq_true, beq_iff_eq] at z
    exact z.2
  case n13part => exact n13part
  case n13members => exact n13members
  case n14part => exact n14part
  case n14members => exact n14members
  case n15name => exact n15name
  case n16name => exact n16name
  case n17name => exact n17name
  case n18number => exact n18number
  case n19number => exact n19number
  case n20number => exact n20number
  case n21number => exact n21number
  case n22place => exact n22place
  case n23place => exact n23place
  case n23word => exact n23word
  case n24name => exact n24name
  case n24filled => exact n24filled
  case n25spots => exact n25spots
  case n26name => exact n26name
  case n27name => exact n27name
  case n28name => exact n28name
  case n29name => exact n29name
  case n30name => exact n30name
  case n31fact => exact n31fact
  case n32name => exact n32name
  case n32filled => exact n32filled
  case i13 =>
    obtain ⟨_, _, _, _, _, _, _, _, _, l, c, k⟩ := l13
    exact ⟨i13, t13, _, fun_mk (st := iNotLinked) l c k, (fun_mk (st := iNotLinked) l c k).binds (ps := ["self", "part", "members"]) fun _ _ _ _ _ _ us hl => match us, hl with | [_, _, _], _ => rfl⟩
  case i14 =>
    obtain ⟨_, _, _, _, _, _, _, _, _, l, c, k⟩ := l14
    exact ⟨i14, t14, _, fun_mk (st := iNotKept) l c k, (fun_mk (st := iNotKept) l c k).binds (ps := ["self", "part", "members"]) fun _ _ _ _ _ _ us hl => match us, hl with | [_, _, _], _ => rfl⟩
  case i15 =>
    obtain ⟨_, _, _, _, _, _, _, _, _, l, c, k⟩ := l15
    exact ⟨i15, t15, _, fun_mk (st := iBadFrame) l c k, (fun_mk (st := iBadFrame) l c k).binds (ps := ["self", "name"]) fun _ _ _ _ _ _ us hl => match us, hl with | [_, _], _ => rfl⟩
  case i16 =>
    obtain ⟨_, _, _, _, _, _, _, _, _, l, c, k⟩ := l16
    exact ⟨i16, t16, _, fun_mk (st := iBadName) l c k, (fun_mk (st := iBadName) l c k).binds (ps := ["self", "name"]) fun _ _ _ _ _ _ us hl => match us, hl with | [_, _], _ => rfl⟩
  case i17 =>
    obtain ⟨_, _, _, _, _, _, _, _, _, l, c, k⟩ := l17
    exact ⟨i17, t17, _, fun_mk (st := iBadThing) l c k, (fun_mk (st := iBadThing) l c k).binds (ps := ["self", "name"]) fun _ _ _ _ _ _ us hl => match us, hl with | [_, _], _ => rfl⟩
  case i18 =>
    obtain ⟨_, _, _, _, _, _, _, _, _, l, c, k⟩ := l18
    exact ⟨i18, t18, _, fun_mk (st := iBadRule) l c k, (fun_mk (st := iBadRule) l c k).binds (ps := ["self", "number"]) fun _ _ _ _ _ _ us hl => match us, hl with | [_, _], _ => rfl⟩
  case i19 =>
    obtain ⟨_, _, _, _, _, _, _, _, _, l, c, k⟩ := l19
    exact ⟨i19, t19, _, fun_mk (st := iBadRow) l c k, (fun_mk (st := iBadRow) l c k).binds (ps := ["self", "number"]) fun _ _ _ _ _ _ us hl => match us, hl with | [_, _], _ => rfl⟩
  case i20 =>
    obtain ⟨_, _, _, _, _, _, _, _, _, l, c, k⟩ := l20
    exact ⟨i20, t20, _, fun_mk (st := iNoLine) l c k, (fun_mk (st := iNoLine) l c k).binds (ps := ["self", "number"]) fun _ _ _ _ _ _ us hl => match us, hl with | [_, _], _ => rfl⟩
  case i21 =>
    obtain ⟨_, _, _, _, _, _, _, _, _, l, c, k⟩ := l21
    exact ⟨i21, t21, _, fun_mk (st := iNoState) l c k, (fun_mk (st := iNoState) l c k).binds (ps := ["self", "number"]) fun _ _ _ _ _ _ us hl => match us, hl with | [_, _], _ => rfl⟩
  case i22 =>
    obtain ⟨_, _, _, _, _, _, _, _, _, l, c, k⟩ := l22
    exact ⟨i22, t22, _, fun_mk (st := iBadText) l c k, (fun_mk (st := iBadText) l c k).binds (ps := ["self", "place"]) fun _ _ _ _ _ _ us hl => match us, hl with | [_, _], _ => rfl⟩
  case i23 =>
    obtain ⟨_, _, _, _, _, _, _, _, _, l, c, k⟩ := l23
    exact ⟨i23, t23, _, fun_mk (st := iBadQuestion) l c k, (fun_mk (st := iBadQuestion) l c k).binds (ps := ["self", "place", "word"]) fun _ _ _ _ _ _ us hl => match us, hl with | [_, _, _], _ => rfl⟩
  case i24 =>
    obtain ⟨_, _, _, _, _, _, _, _, _, l, c, k⟩ := l24
    exact ⟨i24, t24, _, fun_mk (st := iTwiceTold) l c k, (fun_mk (st := iTwiceTold) l c k).binds (ps := ["self", "name", "filled"]) fun _ _ _ _ _ _ us hl => match us, hl with | [_, _, _], _ => rfl⟩
  case i25 =>
    obtain ⟨_, _, _, _, _, _, _, _, _, l, c, k⟩ := l25
    exact ⟨i25, t25, _, fun_mk (st := iClash) l c k, (fun_mk (st := iClash) l c k).binds (ps := ["self", "spots"]) fun _ _ _ _ _ _ us hl => match us, hl with | [_, _], _ => rfl⟩
  case i26 =>
    obtain ⟨_, _, _, _, _, _, _, _, _, l, c, k⟩ := l26
    exact ⟨i26, t26, _, fun_mk (st := iUnknownWorth) l c k, (fun_mk (st := iUnknownWorth) l c k).binds (ps := ["self", "name"]) fun _ _ _ _ _ _ us hl => match us, hl with | [_, _], _ => rfl⟩
  case i27 =>
    obtain ⟨_, _, _, _, _, _, _, _, _, l, c, k⟩ := l27
    exact ⟨i27, t27, _, fun_mk (st := iUnknownName) l c k, (fun_mk (st := iUnknownName) l c k).binds (ps := ["self", "name"]) fun _ _ _ _ _ _ us hl => match us, hl with | [_, _], _ => rfl⟩
  case i28 =>
    obtain ⟨_, _, _, _, _, _, _, _, _, l, c, k⟩ := l28
    exact ⟨i28, t28, _, fun_mk (st := iUnknownThing) l c k, (fun_mk (st := iUnknownThing) l c k).binds (ps := ["self", "name"]) fun _ _ _ _ _ _ us hl => match us, hl with | [_, _], _ => rfl⟩
  case i29 =>
    obtain ⟨_, _, _, _, _, _, _, _, _, l, c, k⟩ := l29
    exact ⟨i29, t29, _, fun_mk (st := iUnknownLabel) l c k, (fun_mk (st := iUnknownLabel) l c k).binds (ps := ["self", "name"]) fun _ _ _ _ _ _ us hl => match us, hl with | [_, _], _ => rfl⟩
  case i30 =>
    obtain ⟨_, _, _, _, _, _, _, _, _, l, c, k⟩ := l30
    exact ⟨i30, t30, _, fun_mk (st := iNotTold) l c k, (fun_mk (st := iNotTold) l c k).binds (ps := ["self", "name"]) fun _ _ _ _ _ _ us hl => match us, hl with | [_, _], _ => rfl⟩
  case i31 =>
    obtain ⟨_, _, _, _, _, _, _, _, _, l, c, k⟩ := l31
    exact ⟨i31, t31, _, fun_mk (st := iUnknownFact) l c k, (fun_mk (st := iUnknownFact) l c k).binds (ps := ["self", "fact"]) fun _ _ _ _ _ _ us hl => match us, hl with | [_, _], _ => rfl⟩
  case i32 =>
    obtain ⟨_, _, _, _, _, _, _, _, _, l, c, k⟩ := l32
    exact ⟨i32, t32, _, fun_mk (st := iNoRow) l c k, (fun_mk (st := iNoRow) l c k).binds (ps := ["self", "name", "filled"]) fun _ _ _ _ _ _ us hl => match us, hl with | [_, _, _], _ => rfl⟩
  case f_law_pen =>
    obtain ⟨_, _, _, _, _, _, _, _, _, l, c, k⟩ := r0
    exact ⟨PySem.W.mg_of X G d0, ⟨_, fun_mk (st := s_law_pen) l c k, (fun_mk (st := s_law_pen) l c k).binds (ps := ["_law_script"]) fun _ _ _ _ _ _ us hl => match us, hl with | [_], _ => rfl⟩, k⟩
  case f_law_next =>
    obtain ⟨_, _, _, _, _, _, _, _, _, l, c, k⟩ := r1
    exact ⟨PySem.W.mg_of X G d1, ⟨_, fun_mk (st := s_law_next) l c k, (fun_mk (st := s_law_next) l c k).binds (ps := ["_law_pen_here"]) fun _ _ _ _ _ _ us hl => match us, hl with | [_], _ => rfl⟩, k⟩
  case f_law_draw =>
    obtain ⟨_, _, _, _, _, _, _, _, _, l, c, k⟩ := r2
    exact ⟨PySem.W.mg_of X G d2, ⟨_, fun_mk (st := s_law_draw) l c k, (fun_mk (st := s_law_draw) l c k).binds (ps := ["_law_pen_here", "_law_under"]) fun _ _ _ _ _ _ us hl => match us, hl with | [_, _], _ => rfl⟩, k⟩
  case f_law_kinds =>
    obtain ⟨_, _, _, _, _, _, _, _, _, l, c, k⟩ := r3
    exact ⟨PySem.W.mg_of X G d3, ⟨_, fun_mk (st := s_law_kinds) l c k, (fun_mk (st := s_law_kinds) l c k).binds (ps := ["_law_e"]) fun _ _ _ _ _ _ us hl => match us, hl with | [_], _ => rfl⟩, k⟩
  case f_law_bases =>
    obtain ⟨_, _, _, _, _, _, _, _, _, l, c, k⟩ := r4
    exact ⟨PySem.W.mg_of X G d4, ⟨_, fun_mk (st := s_law_bases) l c k, (fun_mk (st := s_law_bases) l c k).binds (ps := ["_law_e"]) fun _ _ _ _ _ _ us hl => match us, hl with | [_], _ => rfl⟩, k⟩
  case f_law_plain =>
    obtain ⟨_, _, _, _, _, _, _, _, _, l, c, k⟩ := r5
    exact ⟨PySem.W.mg_of X G d5, ⟨_, fun_mk (st := s_law_plain) l c k, (fun_mk (st := s_law_plain) l c k).binds (ps := []) fun _ _ _ _ _ _ us hl => match us, hl with | [], _ => rfl⟩, k⟩
  case f_law_named =>
    obtain ⟨_, _, _, _, _, _, _, _, _, l, c, k⟩ := r6
    exact ⟨PySem.W.mg_of X G d6, ⟨_, fun_mk (st := s_law_named) l c k, (fun_mk (st := s_law_named) l c k).binds (ps := ["_law_word", "_law_number"]) fun _ _ _ _ _ _ us hl => match us, hl with | [_, _], _ => rfl⟩, k⟩
  case f_law_kept =>
    obtain ⟨_, _, _, _, _, _, _, _, _, l, c, k⟩ := r7
    exact ⟨PySem.W.mg_of X G d7, ⟨_, fun_mk (st := s_law_kept) l c k, (fun_mk (st := s_law_kept) l c k).binds (ps := ["_law_word", "_law_number", "_law_some"]) fun _ _ _ _ _ _ us hl => match us, hl with | [_, _, _], _ => rfl⟩, k⟩
  case flaw =>
    obtain ⟨_, _, _, _, _, _, _, _, _, l, c, k⟩ := r8
    exact ⟨PySem.W.mg_of X G d8, ⟨_, fun_mk (st := slaw) l c k, (fun_mk (st := slaw) l c k).binds (ps := ["_law_script"]) fun _ _ _ _ _ _ us hl => match us, hl with | [_], _ => rfl⟩, k⟩
  case nisinstance => exact PySem.W.mg_none_of X G zisinstance
  case nlen => exact PySem.W.mg_none_of X G zlen
  case nrange => exact PySem.W.mg_none_of X G zrange
  case nint => exact PySem.W.mg_none_of X G zint
  case nlist => exact PySem.W.mg_none_of X G zlist
  case ntuple => exact PySem.W.mg_none_of X G ztuple
  case nrepr => exact PySem.W.mg_none_of X G zrepr
  case nValueError => exact PySem.W.mg_none_of X G zValueError
  case nLookupError => exact PySem.W.mg_none_of X G zLookupError
theorem walk {l : PySem.W.OpenLaw} {q : Program} {loose : List Str} {XP : (Str → Option Value) → Heap → Prop} {YP : World → Heap → Prop} {d : DefRec} {K : Params → PySem.W.Frag} (hn : l.most = some 63) (hdf : d.params.defaults = []) (hd : d.name = "law")
    (hY : ∀ (w : World) (h : Heap), YP w h → (K w.params).In h)
    (F : ∀ (w : World) (mg : Str → Option Value) (h : Heap), (K w.params).In h → h.Ns mainGlobals mg → ∃ (c fi ff : Nat → Addr), Txt (K w.params) mg c fi ff ∧ FnL (K w.params) "law" "law" slaw (ff 8)) :
    PySem.W.WalkO q loose XP YP l.row.toRowW d [] (fun f vs => PySem.call f vs) := by
  refine Gd.walk_G (n := 63) (k := 5) (x := "_law_script") (CX := fun _ => CX0) (sp := fun w => SpLaw (K w.params)) hn (by decide) hdf ⟨rfl, by decide, by decide⟩ hY (fun w mg fa h KX G hmg => ?_) (fun _ _ a ns hl _ hS => ⟨a, ns, rfl, hS, hl, fun _ => rfl⟩) fun _ _ _ _ _ z => z
  obtain ⟨c, fi, ff, T, oc, od, sl, kV, dc, pm, an, cd, ct, r, rc, rk⟩ := F w mg h KX G
  rw [hd] at hmg
  have e := hmg.symm.trans T.flaw.mg_
  cases e
  exact ⟨_, fun s v => .of_eq rfl, fun base _ _ => ok_law T (fun_mk (st := slaw) r rc rk)⟩
end K11

open PySem PySem.W PyProof.Rows in
set_option maxRecDepth 100000 in
set_option maxHeartbeats 0 in
theorem PySem.Challenge.cw_worthhouse_k11_errors_holds : PySem.Challenge.rw_worthhouse_k11_errors.Holds := by
  w_on; o_law; k_head; (case hw => w_witness2)
  k_fill
  refine K11.walk (l := PySem.Challenge.rw_worthhouse_k11_errors) rfl rfl rfl (fun w h Y => PySem.W.kIn_of Y) ?F
  case F =>
    intro w mg h X G
    refine' ⟨_, _, _, K11.txt_mk X G ?m0 ?m1 ?m2 ?m3 ?m4 ?m5 ?m6 ?m7 ?m8 ?m9 ?m10 ?m11 ?m12 ?m13 ?m14 ?m15 ?m16 ?m17 ?m18 ?m19 ?m20 ?m21 ?m22 ?m23 ?m24 ?m25 ?m26 ?m27 ?m28 ?m29 ?m30 ?m31 ?m32 ?m33 ?m34 ?i13 ?t13 ?l13 ?i14 ?t14 ?l14 ?i15 ?t15 ?l15 ?i16 ?t16 ?l16 ?i17 ?t17 ?l17 ?i18 ?t18 ?l18 ?i19 ?t19 ?l19 ?i20 ?t20 ?l20 ?i21 ?t21 ?l21 ?i22 ?t22 ?l22 ?i23 ?t23 ?l23 ?i24 ?t24 ?l24 ?i25 ?t25 ?l25 ?i26 ?t26 ?l26 ?i27 ?t27 ?l27 ?i28 ?t28 ?l28 ?i29 ?t29 ?l29 ?i30 ?t30 ?l30 ?i31 ?t31 ?l31 ?i32 ?t32 ?l32 ?n13part ?n13members ?n14part ?n14members ?n15name ?n16name ?n17name ?n18number ?n19number ?n20number ?n21number ?n22place ?n23place ?n23word ?n24name ?n24filled ?n25spots ?n26name ?n27name ?n28name ?n29name ?n30name ?n31fact ?n32name ?n32filled ?d0 ?r0 ?d1 ?r1 ?d2 ?r2 ?d3 ?r3 ?d4 ?r4 ?d5 ?r5 ?d6 ?r6 ?d7 ?r7 ?d8 ?r8 ?zisinstance ?zlen ?zrange ?zint ?zlist ?ztuple ?zrepr ?zValueError ?zLookupError ?x1 ?x2 ?v1 ?v2 ?v3 ?v4 ?v5, ?lw⟩
    (case m0 => k_is)
    (case m1 => k_is)
    (case m2 => k_is)
    (case m3 => k_is)
    (case m4 => k_is)
    (case m5 => k_is)
    (case m6 => k_is)
    (case m7 => k_is)
    (case m8 => k_is)
    (case m9 => k_is)
    (case m10 => k_is)
    (case m11 => k_is)
    (case m12 => k_is)
    (case m13 => k_is)
    (case m14 => k_is)
    (case m15 => k_is)
    (case m16 => k_is)
    (case m17 => k_is)
    (case m18 => k_is)
    (case m19 => k_is)
    (case m20 => k_is)
    (case m21 => k_is)
    (case m22 => k_is)
    (case m23 => k_is)
    (case m24 => k_is)
    (case m25 => k_is)
    (case m26 => k_is)
    (case m27 => k_is)
    (case m28 => k_is)
    (case m29 => k_is)
    (case m30 => k_is)
    (case m31 => k_is)
    (case m32 => k_is)
    (case m33 => k_is)
    (case m34 => k_is)
    (case i13 => k_is)
    (case t13 => k_is)
    (case l13 => refine' K11.fnL_mk ?q1 ?q2 ?q3; (case q1 => k_is); (case q2 => k_is); (case q3 => k_is))
    (case i14 => k_is)
    (case t14 => k_is)
    (case l14 => refine' K11.fnL_mk ?q1 ?q2 ?q3; (case q1 => k_is); (case q2 => k_is); (case q3 => k_is))
    (case i15 => k_is)
    (case t15 => k_is)
    (case l15 => refine' K11.fnL_mk ?q1 ?q2 ?q3; (case q1 => k_is); (case q2 => k_is); (case q3 => k_is))
    (case i16 => k_is)
    (case t16 => k_is)
    (case l16 => refine' K11.fnL_mk ?q1 ?q2 ?q3; (case q1 => k_is); (case q2 => k_is); (case q3 => k_is))
    (case i17 => k_is)
    (case t17 => k_is)
    (case l17 => refine' K11.fnL_mk ?q1 ?q2 ?q3; (case q1 => k_is); (case q2 => k_is); (case q3 => k_is))
    (case i18 => k_is)
    (case t18 => k_is)
    (case l18 => refine' K11.fnL_mk ?q1 ?q2 ?q3; (case q1 => k_is); (case q2 => k_is); (case q3 => k_is))
    (case i19 => k_is)
    (case t19 => k_is)
    (case l19 => refine' K11.fnL_mk ?q1 ?q2 ?q3; (case q1 => k_is); (case q2 => k_is); (case q3 => k_is))
    (case i20 => k_is)
    (case t20 => k_is)
    (case l20 => refine' K11.fnL_mk ?q1 ?q2 ?q3; (case q1 => k_is); (case q2 => k_is); (case q3 => k_is))
    (case i21 => k_is)
    (case t21 => k_is)
    (case l21 => refine' K11.fnL_mk ?q1 ?q2 ?q3; (case q1 => k_is); (case q2 => k_is); (case q3 => k_is))
    (case i22 => k_is)
    (case t22 => k_is)
    (case l22 => refine' K11.fnL_mk ?q1 ?q2 ?q3; (case q1 => k_is); (case q2 => k_is); (case q3 => k_is))
    (case i23 => k_is)
    (case t23 => k_is)
    (case l23 => refine' K11.fnL_mk ?q1 ?q2 ?q3; (case q1 => k_is); (case q2 => k_is); (case q3 => k_is))
    (case i24 => k_is)
    (case t24 => k_is)
    (case l24 => refine' K11.fnL_mk ?q1 ?q2 ?q3; (case q1 => k_is); (case q2 => k_is); (case q3 => k_is))
    (case i25 => k_is)
    (case t25 => k_is)
    (case l25 => refine' K11.fnL_mk ?q1 ?q2 ?q3; (case q1 => k_is); (case q2 => k_is); (case q3 => k_is))
    (case i26 => k_is)
    (case t26 => k_is)
    (case l26 => refine' K11.fnL_mk ?q1 ?q2 ?q3; (case q1 => k_is); (case q2 => k_is); (case q3 => k_is))
    (case i27 => k_is)
    (case t27 => k_is)
    (case l27 => refine' K11.fnL_mk ?q1 ?q2 ?q3; (case q1 => k_is); (case q2 => k_is); (case q3 => k_is))
    (case i28 => k_is)
    (case t28 => k_is)
    (case l28 => refine' K11.fnL_mk ?q1 ?q2 ?q3; (case q1 => k_is); (case q2 => k_is); (case q3 => k_is))
    (case i29 => k_is)
    (case t29 => k_is)
    (case l29 => refine' K11.fnL_mk ?q1 ?q2 ?q3; (case q1 => k_is); (case q2 => k_is); (case q3 => k_is))
    (case i30 => k_is)
    (case t30 => k_is)
    (case l30 => refine' K11.fnL_mk ?q1 ?q2 ?q3; (case q1 => k_is); (case q2 => k_is); (case q3 => k_is))
    (case i31 => k_is)
    (case t31 => k_is)
    (case l31 => refine' K11.fnL_mk ?q1 ?q2 ?q3; (case q1 => k_is); (case q2 => k_is); (case q3 => k_is))
    (case i32 => k_is)
    (case t32 => k_is)
    (case l32 => refine' K11.fnL_mk ?q1 ?q2 ?q3; (case q1 => k_is); (case q2 => k_is); (case q3 => k_is))
    (case n13part => k_is)
    (case n13members => k_is)
    (case n14part => k_is)
    (case n14members => k_is)
    (case n15name => k_is)
    (case n16name => k_is)
    (case n17name => k_is)
    (case n18number => k_is)
    (case n19number => k_is)
    (case n20number => k_is)
    (case n21number => k_is)
    (case n22place => k_is)
    (case n23place => k_is)
    (case n23word => k_is)
    (case n24name => k_is)
    (case n24filled => k_is)
    (case n25spots => k_is)
    (case n26name => k_is)
    (case n27name => k_is)
    (case n28name => k_is)
    (case n29name => k_is)
    (case n30name => k_is)
    (case n31fact => k_is)
    (case n32name => k_is)
    (case n32filled => k_is)
    (case d0 => k_is)
    (case r0 => refine' K11.fnL_mk ?q1 ?q2 ?q3; (case q1 => k_is); (case q2 => k_is); (case q3 => k_is))
    (case d1 => k_is)
    (case r1 => refine' K11.fnL_mk ?q1 ?q2 ?q3; (case q1 => k_is); (case q2 => k_is); (case q3 => k_is))
    (case d2 => k_is)
    (case r2 => refine' K11.fnL_mk ?q1 ?q2 ?q3; (case q1 => k_is); (case q2 => k_is); (case q3 => k_is))
    (case d3 => k_is)
    (case r3 => refine' K11.fnL_mk ?q1 ?q2 ?q3; (case q1 => k_is); (case q2 => k_is); (case q3 => k_is))
    (case d4 => k_is)
    (case r4 => refine' K11.fnL_mk ?q1 ?q2 ?q3; (case q1 => k_is); (case q2 => k_is); (case q3 => k_is))
    (case d5 => k_is)
    (case r5 => refine' K11.fnL_mk ?q1 ?q2 ?q3; (case q1 => k_is); (case q2 => k_is); (case q3 => k_is))
    (case d6 => k_is)
    (case r6 => refine' K11.fnL_mk ?q1 ?q2 ?q3; (case q1 => k_is); (case q2 => k_is); (case q3 => k_is))
    (case d7 => k_is)
    (case r7 => refine' K11.fnL_mk ?q1 ?q2 ?q3; (case q1 => k_is); (case q2 => k_is); (case q3 => k_is))
    (case d8 => k_is)
    (case r8 => refine' K11.fnL_mk ?q1 ?q2 ?q3; (case q1 => k_is); (case q2 => k_is); (case q3 => k_is))
    (case zisinstance => k_is)
    (case zlen => k_is)
    (case zrange => k_is)
    (case zint => k_is)
    (case zlist => k_is)
    (case ztuple => k_is)
    (case zrepr => k_is)
    (case zValueError => k_is)
    (case zLookupError => k_is)
    (case x1 => k_is)
    (case x2 => k_is)
    (case v1 => kernel_rfl)
    (case v2 => kernel_rfl)
    (case v3 => kernel_rfl)
    (case v4 => kernel_rfl)
    (case v5 => kernel_rfl)
    (case lw => refine' K11.fnL_mk ?q1 ?q2 ?q3; (case q1 => k_is); (case q2 => k_is); (case q3 => k_is))
