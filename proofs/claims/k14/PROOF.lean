import PyProof.Rows.All
import Wide.All
import OpenK.AllK
import Wide.FinOn
import HandS.ForMost
import HandS.ForExc
import HandS.IsInst
import HandS.StrMore
import PyProof.Rows.StrCut
import PyProof.StrOps2
import PyProof.ListStr
import HandS.Codes
import HandS.ExcInit
import HandS.ExcValue
import HandS.ExcIs
import HandS.ExcField
import HandS.Set
import HandS.Strs
import PyProof.Rows.SetFrom
import HandS.Walk
import HandS.Style
import HandS.Dict
import HandS.DictComp
import KE.KEqDict
import HandS.Replace
import PyProof.Rows.StrLawsPart
import HandS.Text
import KE.KRevSl
import HandS.TupAny
import HandS.TupMul
import HandS.TryMany
import HandS.SuiteRaise
import HandS.ExcOwn
import HandS.MakeKwOnly
import HandS.DictTup
import KE.KDictWalk
import HandS.Iter
import HandS.Deep
import KE.KPairComp
import PySem.Challenge.RW_rescans_k14_calls_refused
set_option Elab.async false
set_option linter.all false
set_option maxRecDepth 100000
set_option maxHeartbeats 8000000
/-! A def's promise where it is known that no container is being shown (guards): repr of containers can be told then. -/
namespace G
open PySem PySem.Spec PyProof.Rows L2

/-- as FnOk, but asked only where nothing is being shown -/
structure FnG (P : Program) (w : World) (K : PySem.W.Frag) (mg : Str → Option Value) (base : Heap) (CX : CXT) (k : Nat)
    (f : Addr) (fd : FuncData) (ps : List Str) (sp : Sp) : Prop where
  len : ∀ vs H Q E, sp vs H Q E → vs.length = ps.length
  run : ∀ (A : Around) (outer : List Env) (s : Shared) (H : Hp) (args : Args) (us : List Value) (vs : List V) (Q : VK) (E : XK),
    A.guards = some [] → Room k A → Env0 P w K mg base A outer s H → BindsTo s fd args (ps.zip us) → Vals vs us → sp vs H Q E →
      codeAny (model P w) A (.call (.ref f) args) (CR CX outer P w H s Q E) s

theorem _root_.L2.FnOk.g {P w K mg base CX k f fd ps sp} (F : FnOk P w K mg base CX k f fd ps sp) : FnG P w K mg base CX k f fd ps sp :=
  ⟨F.len, fun A outer s H args us vs Q E _ => F.run A outer s H args us vs Q E⟩

theorem FnG.imp {P w K mg base CX k f fd ps sp sp'} (F : FnG P w K mg base CX k f fd ps sp)
    (h : ∀ vs H Q E, sp' vs H Q E → sp vs H Q E) : FnG P w K mg base CX k f fd ps sp' :=
  ⟨fun vs H Q E q => F.len _ _ _ _ (h _ _ _ _ q), fun A o s H ar us vs Q E g r e b v q => F.run A o s H ar us vs Q E g r e b v (h _ _ _ _ q)⟩

section
variable {X : Cx} {CX : CXT} {k : Nat} {f : Addr} {fd : FuncData} {ps : List Str} {sp : Sp} {dvs : List V} {ds : List Value} {E : XK} {x : Str} {p pos : Pos} {e : Expr} {es : List Expr} {t : TA}

theorem run_fnG {pins σ H s Q us vs} (F : FnG X.prog X.w X.K X.mg X.base CX k f fd ps sp) (gd : X.A.guards = some []) (hr : Room k X.A)
    (hb : Binds X.K fd ps ds) (hd : Vals dvs ds) (hx : Passes CX X E) (I : Inv X pins σ H s) (r : Vals vs us) (h : sp (vs ++ dvs) H Q E) :
    wpAny (model X.prog X.w) X.A (call (.ref f) us) (EP X pins σ Q) X.xe s := by
  have rr := r.append hd
  have ll : (us ++ ds).length = ps.length := rr.length ▸ F.len _ _ _ _ h
  refine wpAny_call (codeAny_mono (F.run _ _ _ _ ⟨us, []⟩ _ _ Q E gd hr I.env0 (hb s us I.kIn ll) rr h) ?_)
  intro res t' hq
  cases res with
  | error er => exact hx pins σ H s er t' I hq
  | ok fl =>
    cases fl with
    | ret u => exact I.after hq
    | next => exact (show False from hq).elim
    | brk => exact (show False from hq).elim
    | cont => exact (show False from hq).elim

theorem pe_callG (F : FnG X.prog X.w X.K X.mg X.base CX k f fd ps sp) (gd : X.A.guards = some []) (hr : Room k X.A) (hg : Gl X x)
    (hm : X.mg x = some (.ref f)) (hk : PySem.W.keepIn X.K (.ref f) = true) (hb : Binds X.K fd ps ds) (hd : Vals dvs ds) (hx : Passes CX X E)
    (ha : PA X (e :: es) t) (hdb : (x == ("__debug__" : Str)) = false := by decide)
    (he : starEach (e :: es) X.env = (false, eval e X.env) :: starEach es X.env := by rfl)
    (hpl : (backTo pos (starEach es X.env)).any (·.1) = false := by rfl) :
    PE X (.Call (.Name x p) (e :: es) [] pos) (tCall sp dvs E t) := by
  constructor
  intro pins s σ H Q I h
  refine wpAny_Call_Name_kw (ld_glob I hg hm ?_ hdb)
  refine PySem.W.callWith_K (h₀ := X.base) I.ok.mod.kin hk ?_ he hpl
  refine thn (ha.run pos pins s σ H _ I h) ?_
  rintro us s1 ⟨vs, H1, I1, r, q⟩
  exact ⟨I1.kIn, run_fnG F gd hr hb hd hx I1 r q⟩

theorem pe_callG0 (F : FnG X.prog X.w X.K X.mg X.base CX k f fd ps sp) (gd : X.A.guards = some []) (hr : Room k X.A) (hg : Gl X x)
    (hm : X.mg x = some (.ref f)) (hk : PySem.W.keepIn X.K (.ref f) = true) (hb : Binds X.K fd ps ds) (hd : Vals dvs ds) (hx : Passes CX X E)
    (hdb : (x == ("__debug__" : Str)) = false := by decide) : PE X (.Call (.Name x p) [] [] pos) (tCall sp dvs E tNil) := by
  constructor
  intro pins s σ H Q I h
  refine wpAny_Call_Name_kw (ld_glob I hg hm ?_ hdb)
  exact PySem.W.callWith_K0 I.kIn hk (run_fnG (us := []) F gd hr hb hd hx I .nil h)
end

/-- a def by its body, where nothing is being shown -/
theorem fn_ofG {CX : CXT} {P : Program} {w : World} {K : PySem.W.Frag} {mg : Str → Option Value} {base : Heap} {k : Nat} {f : Addr} {name qual : Str}
    {params : Arguments} {body : List Stmt} {scope : Scope} {dV kV doc pm cdv ct oc : Value} {an od : Option Addr} {osl : Array (Option Value)} {N ps : List Str} {sp : Sp}
    (lk : K.lookup f = some ⟨oc, od, .func (PySem.W.fnOf name qual params body scope dV kV doc pm an cdv ct), osl⟩)
    (hcd : PySem.W.codeIn K cdv qual = true) (S : FnScope N ps scope) (len : ∀ vs H Q E, sp vs H Q E → vs.length = ps.length)
    (hbody : ∀ (A : Around) (outer : List Env) (s : Shared) (H : Hp) (vs : List V) (Q : VK) (E : XK), A.guards = some [] →
      Room k (A.deeper (envOfC qual scope s.heap.objs.size f cdv)) → sp vs H Q E →
      ∃ t, PSs (cxOf CX P w K mg base N qual scope f cdv A outer s H E) body t ∧ t { nx := fun _ H' => Q .non H', rt := Q } (start N vs) H) :
    FnG P w K mg base CX (k + 1) f (PySem.W.fnOf name qual params body scope dV kV doc pm an cdv ct) ps sp := by
  refine ⟨len, ?_⟩
  intro A outer s H args us vs Q E gd hr e0 hb r hsp
  have inK : K.In s.heap := e0.mod.kin.keeps fun b o q => (e0.bs b o q).1
  have nolim : s.heap.NoLimit := e0.mod.nolimit.keeps fun b o q => (e0.bs b o q).1
  refine codeAny_call_function hr.depth (inK _ _ lk) rfl S.co S.gen rfl (PySem.W.codeRec_of inK hcd) (hb _ _ _ _ ?_)
  refine wpAny_newFunctionEnv_cells S.kind ?_ ?_
  · rintro ⟨n, v⟩ hy
    have q := S.par n (List.of_mem_zip hy).1
    exact q.imp id fun z => ⟨z, PySem.W.cellsFrom_some _ _ _ (.inl z)⟩
  · rintro env rfl s1 x
    refine ⟨nolim.keeps x.toInCall.keep, codeAny_func ?_⟩
    obtain ⟨t, ht, hq⟩ := hbody A outer s H vs Q E gd (hr.deeper _) hsp
    have I := inv_start (CX := CX) (E := E) (mg := mg) (base := base) S hr.hd e0 (len _ _ _ _ hsp) r x
    refine wpAny_mono (ht.run [] s1 _ H _ I hq) ?_ fun _ _ z => z
    intro fl s' hs
    have fin : ∀ {σ' : L2.St} {H' : Hp} {v : V} {u : Value}, Inv (cxOf CX P w K mg base N qual scope f cdv A outer s H E) [] σ' H' s' →
        RelV v u → Q v H' → CE outer P w H s Q u s' := by
      intro σ' H' v u J rv z
      exact ⟨v, H', J.os, J.bare, J.base, J.hok, rv, z⟩
    cases fl with
    | ret u =>
      obtain ⟨v, σ', H', J, rv, z⟩ := hs
      exact fin J rv z
    | next =>
      obtain ⟨σ', H', J, z⟩ := hs
      exact fin (v := V.non) (u := Value.none) J rfl z
    | brk =>
      obtain ⟨_, _, _, z⟩ := hs
      exact False.elim z
    | cont =>
      obtain ⟨_, _, _, z⟩ := hs
      exact False.elim z

theorem _root_.L2.Fun.okG {P w K mg base} {x qual : Str} {st : Stmt} {f : Addr} {fd : FuncData} {N ps : List Str} {k : Nat} {sp : Sp} (F : Fun K x qual st f fd)
    (S : FnScope N ps (defScope st)) (len : ∀ vs H Q E, sp vs H Q E → vs.length = ps.length)
    (hbody : ∀ (cdv : Value) (A : Around) (outer : List Env) (s : Shared) (H : Hp) (vs : List V) (Q : VK) (E : XK), A.guards = some [] →
      Room k (A.deeper (envOfC qual (defScope st) s.heap.objs.size f cdv)) → sp vs H Q E →
      ∃ t, PSs (cxOf CX0 P w K mg base N qual (defScope st) f cdv A outer s H E).nox (defBody st) t ∧ t { nx := fun _ H' => Q .non H', rt := Q } (start N vs) H) :
    FnG P w K mg base CX0 (k + 1) f fd ps sp := by
  obtain ⟨oc, od, kV, doc, pm, an, cdv, ct, osl, rfl, lk, hcd⟩ := F.ex
  refine fn_ofG lk hcd S len ?_
  intro A outer s H vs Q E gd hr hsp
  obtain ⟨t, h, q⟩ := hbody cdv A outer s H vs Q E gd hr hsp
  exact ⟨t, h.nox, q⟩

theorem _root_.L2.Fun.okXG {P w K mg base} {x qual : Str} {st : Stmt} {f : Addr} {fd : FuncData} {N ps : List Str} {k : Nat} {sp : Sp} (F : Fun K x qual st f fd)
    (S : FnScope N ps (defScope st)) (len : ∀ vs H Q E, sp vs H Q E → vs.length = ps.length)
    (hbody : ∀ (cdv : Value) (A : Around) (outer : List Env) (s : Shared) (H : Hp) (vs : List V) (Q : VK) (E : XK), A.guards = some [] →
      Room k (A.deeper (envOfC qual (defScope st) s.heap.objs.size f cdv)) → sp vs H Q E →
      ∃ t, PSs (cxOf (L2.CX P w) P w K mg base N qual (defScope st) f cdv A outer s H E) (defBody st) t ∧ t { nx := fun _ H' => Q .non H', rt := Q } (start N vs) H) :
    FnG P w K mg base (L2.CX P w) (k + 1) f fd ps sp := by
  obtain ⟨oc, od, kV, doc, pm, an, cdv, ct, osl, rfl, lk, hcd⟩ := F.ex
  exact fn_ofG lk hcd S len fun A outer s H vs Q E gd hr hsp => hbody cdv A outer s H vs Q E gd hr hsp

/-! ### the law's own call -/
theorem law_callG {P : Program} {w : World} {K : PySem.W.Frag} {mg mb : Str → Option Value} {CX : CXT} {k : Nat} {fa a : Addr} {fd : FuncData} {x : Str} {sp : Sp}
    {z : Shared} {vs : List Value} {ns : List Int} (inK : K.In z.heap) (hns : z.heap.Ns mainGlobals mg) (hb : z.heap.Ns builtinsNs mb)
    (hbb : ∀ y : Str, y ≠ "__name__" → mb y = bootBuiltins y) (nolim : z.heap.NoLimit) (hgen : z.gens = #[])
    (ha : z.heap.get? a = some { cls := .type "list", data := .seq vs.toArray }) (hi : IntsAre vs ns) (hl : ns.length ≤ sizeLine) (hr : Room k callerA)
    (F : ∀ base : Heap, K.In base → base.Ns mainGlobals mg → FnG P w K mg base CX k fa fd [x] sp)
    (hbind : ∀ (s : Shared) (u : Value), BindsTo s fd ⟨[u], []⟩ [(x, u)])
    (hsp : ∀ H : Hp, Only H → SqL K H a (ns.map V.int) → sp [.ref a] H (fun v _ => v = .bl true) fun _ _ _ => False)
    (hCX : ∀ H e s', CX [] H z (fun _ _ _ => False) e s' → False) :
    codeAny (model P w) callerA (.call (.ref fa) ⟨[.ref a], []⟩) (fun r s' => r = .ok (.ret (.bool true)) ∧ OldK z.heap s'.heap ∧ s'.os = z.os ∧ AllBare s'.gens) z := by
  have rv := vals_ints hi
  have lv := hi.length
  have main : ∀ H : Hp, Only H → SqL K H a (ns.map V.int) → HOk P w H z.heap → (∀ b, H b ≠ none → b = a) → (H a ≠ none → K.lookup a = none) →
      codeAny (model P w) callerA (.call (.ref fa) ⟨[.ref a], []⟩) (fun r s' => r = .ok (.ret (.bool true)) ∧ OldK z.heap s'.heap ∧ s'.os = z.os ∧ AllBare s'.gens) z := by
    intro H only hS ok at_a free_a
    have nd : ∀ {b : Addr} {o : Obj} {es : Array DictEntry} {ep : Nat}, z.heap.get? b = some o → o.data = .dict es ep → H b = none := by
      intro b o es ep e d
      refine Option.eq_none_iff_forall_ne_some.mpr fun u q => ?_
      obtain rfl : b = a := at_a b (q ▸ Option.some_ne_none u)
      rw [ha] at e
      cases e
      cases (show Data.seq vs.toArray _ = Data.dict es ep from d)
    have ns_of : ∀ {b : Addr} {m : Str → Option Value}, z.heap.Ns b m → (hidT z.heap H).Ns b m := by
      rintro b m ⟨o, es, ep, e, d, r⟩
      exact ⟨o, es, ep, hidT_get e (nd e d), d, r⟩
    have inB : K.In (hidT z.heap H) := by
      intro b o e
      refine hidT_get (inK b o e) (Option.eq_none_iff_forall_ne_some.mpr fun u q => ?_)
      obtain rfl : b = a := at_a b (q ▸ Option.some_ne_none u)
      rw [free_a (q ▸ Option.some_ne_none u)] at e
      cases e
    obtain ⟨mc, l1, l2⟩ := nolim
    have hM : Mod K mg (hidT z.heap H) := ⟨inB, ns_of hns, ⟨mb, ns_of hb, hbb⟩, ⟨mc, ns_of l1, l2⟩⟩
    have e0 : Env0 P w K mg (hidT z.heap H) callerA [] z H :=
      ⟨rfl, hM, fun b o e => of_hidT e, Nat.le_of_eq (hidT_size _ _), trivial, fun b hb => (List.not_mem_nil hb).elim, ok, .of_eq hgen⟩
    refine codeAny_mono ((F _ inB (ns_of hns)).run callerA [] z H _ [.ref a] [.ref a] _ _ rfl hr e0 (hbind z (.ref a)) (.cons rfl .nil) (hsp H only hS)) ?_
    intro r s' h
    cases r with
    | error e => exact (hCX H e s' h).elim
    | ok fl =>
     cases fl with
     | next => exact (show False from h).elim
     | brk => exact (show False from h).elim
     | cont => exact (show False from h).elim
     | ret u =>
      obtain ⟨v, H', os, bare, un, hok', r', q⟩ := h
      obtain rfl : v = .bl true := q
      obtain rfl : u = Value.bool true := r'
      refine ⟨rfl, OldK.of_keep fun b o e => ?_, os, bare⟩
      cases q : H b with
      | none => exact un.keep b o e q List.not_mem_nil List.not_mem_nil
      | some u =>
        rcases only b with y | ⟨ob, xs, y⟩
        · exact absurd (q.symm.trans y) (Option.some_ne_none u)
        · obtain ⟨e1, _⟩ := ok b _ y
          obtain ⟨e2, _⟩ := hok' b _ (un.frzs b ob _ y)
          rw [e] at e1
          cases e1
          exact e2
  cases hk : K.lookup a with
  | some o =>
    have e := inK a o hk
    rw [ha] at e
    cases e
    refine main (fun _ => none) (fun _ => .inl rfl) (.inr ⟨_, vs.toArray, _, hk, rfl, rfl, rfl, ?_, by simpa using rv⟩) (fun b u q => nomatch q) (fun b q => absurd rfl q) fun q => absurd rfl q
    rw [List.size_toArray, lv]
    exact hl
  | none =>
    have here : (fun b => if b = a then some (HO.frz { cls := .type "list", data := .seq vs.toArray } (.lst (ns.map V.int))) else none) a =
        some (HO.frz { cls := .type "list", data := .seq vs.toArray } (.lst (ns.map V.int))) := if_pos rfl
    refine main (fun b => if b = a then some (.frz { cls := .type "list", data := .seq vs.toArray } (.lst (ns.map V.int))) else none) ?_ (.inl (.inr ⟨_, here⟩)) ?_ ?_ fun _ => hk
    · intro b
      by_cases hb : b = a
      · exact .inr ⟨_, _, if_pos hb⟩
      · exact .inl (if_neg hb)
    · intro b u q
      by_cases hb : b = a
      · cases (if_pos hb).symm.trans q
        subst hb
        exact ⟨ha, by rw [List.length_map]; exact hl, vs, _, rv, ha⟩
      · cases (if_neg hb).symm.trans q
    · intro b q
      by_cases hb : b = a
      · exact hb
      · exact absurd (if_neg hb) q

theorem walk_ofG {l : PySem.W.OpenLaw} {n k : Nat} {q : Program} {loose : List Str} {XP : (Str → Option Value) → Heap → Prop} {YP : World → Heap → Prop} {d : DefRec}
    {K : Params → PySem.W.Frag} {CX : World → CXT} {sp : PySem.W.Frag → Sp} {x : Str} (hn : l.most = some n) (hn2 : n ≤ sizeLine) (hdf : d.params.defaults = [])
    (hr : Room k callerA) (hY : ∀ (w : World) (h : Heap), YP w h → (K w.params).In h)
    (F : ∀ (w : World) (mg : Str → Option Value) (fa : Addr) (h : Heap), (K w.params).In h → h.Ns mainGlobals mg → mg d.name = some (.ref fa) →
      ∃ fd : FuncData, (∀ (s : Shared) (u : Value), BindsTo s fd ⟨[u], []⟩ [(x, u)]) ∧
        ∀ base : Heap, (K w.params).In base → base.Ns mainGlobals mg → FnG l.prog w (K w.params) mg base (CX w) k fa fd [x] (sp (K w.params)))
    (hsp : ∀ (K : PySem.W.Frag) (H : Hp) (a : Addr) (ns : List Int), ns.length ≤ n → Only H → SqL K H a (ns.map V.int) →
      sp K [.ref a] H (fun v _ => v = .bl true) fun _ _ _ => False)
    (hCX : ∀ (w : World) (H : Hp) (s : Shared) (e : Value) (s' : Shared), CX w [] H s (fun _ _ _ => False) e s' → False) :
    PySem.W.WalkO q loose XP YP l.row.toRowW d [] (fun f vs => PySem.call f vs) := by
  refine Att.attach_call hn hdf ?_
  intro w s₀ s₁ mg mb fa o pm cd doc a vs ns G Y ho hd hcd hmg hobj hints hlen hg
  obtain ⟨fd, hb, hF⟩ := F w mg fa _ (hY w _ Y) G.T.g hmg
  exact law_callG (hY w _ Y) G.T.g G.T.b G.T.builtins G.T.nolimit hg hobj hints (Nat.le_trans hlen hn2) hr hF hb (fun H h1 h2 => hsp _ H a ns hlen h1 h2) fun H e s' => hCX w H s₁ e s'

end G

/-! Data of any depth (empty dicts too), the heap without one mutable list (the pot), repr of data. -/
namespace Lk
open PySem PySem.Spec PyProof.Rows L2 G

/-! ### the heap without the pot -/
def sans (H : Hp) (a : Addr) : Hp := fun b => if b = a then none else H b
theorem sans_ne {H : Hp} {a b : Addr} (h : b ≠ a) : sans H a b = H b := if_neg h
theorem sans_self {H : Hp} {a : Addr} : sans H a a = none := if_pos rfl
theorem sans_some {H : Hp} {a b : Addr} {o : HO} (h : sans H a b = some o) : b ≠ a ∧ H b = some o := by
  by_cases e : b = a
  · subst e
    rw [sans_self] at h
    cases h
  · exact ⟨e, (sans_ne e).symm.trans h⟩
theorem sans_of {H : Hp} {a b : Addr} {o : HO} (h : b ≠ a) (e : H b = some o) : sans H a b = some o := (sans_ne h).trans e
theorem sans_same {H : Hp} {a : Addr} : Same (sans H a) H := fun _ _ h => (sans_some h).2
/-- all but the pot stands as it stood -/
def Sm (a : Addr) (H H' : Hp) : Prop := Same (sans H a) (sans H' a)
theorem Sm.refl {a H} : Sm a H H := Same.refl _
theorem Sm.trans {a H H1 H2} (x : Sm a H H1) (y : Sm a H1 H2) : Sm a H H2 := Same.trans x y
theorem Sm.of {a H H'} (x : Same H H') : Sm a H H' := fun b o h => by
  obtain ⟨n, e⟩ := sans_some h
  exact sans_of n (x b o e)
theorem same_new {H : Hp} {p : Addr} {o : HO} (h : H p = none) : Same H (upd H p o) := fun b u e => (upd_ne (ne_of_none e h)).trans e
theorem Sm.new {a : Addr} {H : Hp} {p : Addr} {o : HO} (h : H p = none) : Sm a H (upd H p o) := Sm.of (same_new h)
theorem Sm.pot {a : Addr} {H : Hp} {o : HO} : Sm a H (upd H a o) := fun b u h => by
  obtain ⟨n, e⟩ := sans_some h
  exact sans_of n ((upd_ne n).trans e)
theorem Sm.upd {a : Addr} {H H' : Hp} {p : Addr} {o : HO} (s : Sm a H H') (h : sans H a p = none) : Sm a H (upd H' p o) := fun b u e => by
  have q := s b u e
  obtain ⟨n, q'⟩ := sans_some q
  have nb : b ≠ p := fun z => by
    rw [z, h] at e
    cases e
  exact sans_of n ((upd_ne nb).trans q')
theorem Sm.same {a H H'} (x : Sm a H H') : Same (sans H a) H' := Same.trans x sans_same

/-! ### reading under Same -/
theorem rd_mono {H H' : Hp} (s : Same H H') {a : Addr} {u : HO} (h : Rd H a u) : Rd H' a u := h.imp (s _ _) fun ⟨o, e⟩ => ⟨o, s _ _ e⟩
theorem seqL {K : PySem.W.Frag} {H H' : Hp} (s : Same H H') {a : Addr} {xs : List V} (h : SqL K H a xs) : SqL K H' a xs := h.imp (rd_mono s) id
theorem seqT {K : PySem.W.Frag} {H H' : Hp} (s : Same H H') {a : Addr} {xs : List V} (h : SqT K H a xs) : SqT K H' a xs := h.imp (rd_mono s) id

/-! ### data -/
mutual
inductive Dq (K : PySem.W.Frag) (H : Hp) : V → PyData → Prop
  | non : Dq K H .non .none
  | bl (b : Bool) : Dq K H (.bl b) (.bool b)
  | int (i : Int) : Dq K H (.int i) (.int i)
  | str (x : Str) : Dq K H (.str x) (.str x)
  | lst {a : Addr} {xs : List V} {ds : List PyData} : SqL K H a xs → DqAll K H xs ds → Dq K H (.ref a) (.list ds)
  | tup {a : Addr} {xs : List V} {ds : List PyData} : SqT K H a xs → DqAll K H xs ds → Dq K H (.ref a) (.tuple ds)
  | emp {a : Addr} : H a = some (.dK []) → Dq K H (.ref a) (.dict [])
inductive DqAll (K : PySem.W.Frag) (H : Hp) : List V → List PyData → Prop
  | nil : DqAll K H [] []
  | cons {v : V} {vs : List V} {d : PyData} {ds : List PyData} : Dq K H v d → DqAll K H vs ds → DqAll K H (v :: vs) (d :: ds)
end
mutual
theorem Dq.mono {K : PySem.W.Frag} {H H' : Hp} (s : Same H H') : ∀ {v : V} {d : PyData}, Dq K H v d → Dq K H' v d
  | _, _, .non => .non
  | _, _, .bl b => .bl b
  | _, _, .int i => .int i
  | _, _, .str x => .str x
  | _, _, .lst h t => .lst (seqL s h) (DqAll.mono s t)
  | _, _, .tup h t => .tup (seqT s h) (DqAll.mono s t)
  | _, _, .emp h => .emp (s _ _ h)
theorem DqAll.mono {K : PySem.W.Frag} {H H' : Hp} (s : Same H H') : ∀ {vs : List V} {ds : List PyData}, DqAll K H vs ds → DqAll K H' vs ds
  | _, _, .nil => .nil
  | _, _, .cons h t => .cons (Dq.mono s h) (DqAll.mono s t)
end
theorem DqAll.length {K : PySem.W.Frag} {H : Hp} : ∀ {vs : List V} {ds : List PyData}, DqAll K H vs ds → vs.length = ds.length
  | _, _, .nil => rfl
  | _, _, .cons _ t => congrArg (· + 1) t.length
theorem DqAll.get {K : PySem.W.Frag} {H : Hp} : ∀ {vs : List V} {ds : List PyData} {i : Nat} {v : V}, DqAll K H vs ds → vs[i]? = some v → ∃ d, ds[i]? = some d ∧ Dq K H v d
  | _, _, _, _, .nil, e => by simp at e
  | _, _, 0, _, .cons h _, e => by
    obtain rfl := Option.some.inj e
    exact ⟨_, rfl, h⟩
  | _, _, i + 1, _, .cons _ t, e => DqAll.get (i := i) t e
theorem DqAll.append {K : PySem.W.Frag} {H : Hp} : ∀ {vs ws : List V} {ds es : List PyData}, DqAll K H vs ds → DqAll K H ws es → DqAll K H (vs ++ ws) (ds ++ es)
  | _, _, _, _, .nil, s => s
  | _, _, _, _, .cons h t, s => .cons h (t.append s)
theorem DqAll.take {K : PySem.W.Frag} {H : Hp} : ∀ {vs : List V} {ds : List PyData} (n : Nat), DqAll K H vs ds → DqAll K H (vs.take n) (ds.take n)
  | _, _, 0, _ => .nil
  | _, _, _ + 1, .nil => .nil
  | _, _, n + 1, .cons h t => .cons h (t.take n)
theorem DqAll.drop {K : PySem.W.Frag} {H : Hp} : ∀ {vs : List V} {ds : List PyData} (n : Nat), DqAll K H vs ds → DqAll K H (vs.drop n) (ds.drop n)
  | _, _, 0, h => h
  | _, _, _ + 1, .nil => .nil
  | _, _, n + 1, .cons _ t => t.drop n
theorem DqAll.rep {K : PySem.W.Frag} {H : Hp} {v : V} {d : PyData} (h : Dq K H v d) : ∀ n, DqAll K H (List.replicate n v) (List.replicate n d)
  | 0 => .nil
  | n + 1 => .cons h (DqAll.rep h n)

/-! ### the type of data -/
def tyName : PyData → String
  | .none => "NoneType"
  | .bool _ => "bool"
  | .int _ => "int"
  | .str _ => "str"
  | .list _ => "list"
  | .tuple _ => "tuple"
  | .dict _ => "dict"
theorem tyx_seqL {K : PySem.W.Frag} {H : Hp} {a : Addr} {xs : List V} (h : SqL K H a xs) : TyX K H (.ref a) (.type "list") := by
  rcases h with (h | ⟨o, h⟩) | ⟨o, _, _, h, hc, _⟩
  · exact .base (.lst h)
  · exact .base (.frz h)
  · exact .kList h hc
theorem tyx_seqT {K : PySem.W.Frag} {H : Hp} {a : Addr} {xs : List V} (h : SqT K H a xs) : TyX K H (.ref a) (.type "tuple") := by
  rcases h with (h | ⟨o, h⟩) | ⟨o, _, _, h, hc, _⟩
  · exact .base (.tup h)
  · exact .fTuple h
  · exact .kTuple h hc
theorem Dq.ty {K : PySem.W.Frag} {H : Hp} {v : V} {d : PyData} (h : Dq K H v d) : TyX K H v (.type (tyName d)) := by
  cases h with
  | non => exact .base .non
  | bl b => exact .base (.bl b)
  | int i => exact .base (.int i)
  | str x => exact .base (.str x)
  | lst h _ => exact tyx_seqL h
  | tup h _ => exact tyx_seqT h
  | emp h => exact .base (.dK h)
/-- isinstance(x, T) of data, T a built-in class -/
def isA (T : String) (d : PyData) : Bool := (kitB (tyName d) T).getD false
theorem Dq.isi {K : PySem.W.Frag} {H : Hp} {v : V} {d : PyData} {T : String} {Q : VK} (h : Dq K H v d) (k : (kitB (tyName d) T).isSome = true) (q : Q (.bl (isA T d)) H) :
    rIsi K [v, .ty T] H Q := by
  obtain ⟨b, e⟩ := Option.isSome_iff_exists.mp k
  have eb : isA T d = b := by
    unfold isA
    rw [e]
    exact rfl
  rw [eb] at q
  exact ⟨v, .ty T, _, _, b, rfl, .ty T, h.ty, kit_ty e, q⟩

/-! ### repr of data -/
mutual
def hasList : PyData → Bool
  | .list _ => true
  | .tuple xs => hasListAll xs
  | _ => false
def hasListAll : List PyData → Bool
  | [] => false
  | x :: xs => hasList x || hasListAll xs
end
section
variable {X : Cx} {pins : List (Addr × Obj)} {σ : L2.St} {H : Hp} {s : Shared}
mutual
theorem Dq.reads (I : Inv X pins σ H s) : ∀ (d : PyData) (v : V) (u : Value), Dq X.K H v d → RelV v u → ∃ as, Reads s.heap u d as ∧ (hasList d = false → sysModules ∉ as)
  | .none, _, _, h, r => by
    cases h
    cases r
    exact ⟨_, Reads.none, fun _ => List.not_mem_nil⟩
  | .bool b, _, _, h, r => by
    cases h
    cases r
    exact ⟨_, Reads.bool b, fun _ => List.not_mem_nil⟩
  | .int i, _, _, h, r => by
    cases h
    obtain ⟨t, rfl⟩ := r
    exact ⟨_, Reads.int i t, fun _ => List.not_mem_nil⟩
  | .str x, _, _, h, r => by
    cases h
    obtain ⟨t, rfl⟩ := r
    exact ⟨_, Reads.str x t, fun _ => List.not_mem_nil⟩
  | .list ds, _, _, h, r => by
    cases h with
    | lst hs ha =>
      cases r
      obtain ⟨its, rv, ⟨o, n, ho, hc, _, hd⟩, _⟩ := I.list hs
      obtain ⟨as, hr, _⟩ := DqAll.reads I ds _ its ha rv
      exact ⟨_, Reads.list ho hc hd hr, fun q => by
        unfold hasList at q
        cases q⟩
  | .tuple ds, _, _, h, r => by
    cases h with
    | tup hs ha =>
      cases r
      obtain ⟨its, rv, ⟨o, ho, hc, n, hd⟩, _⟩ := I.tuple hs
      obtain ⟨as, hr, hm⟩ := DqAll.reads I ds _ its ha rv
      exact ⟨_, Reads.tuple ho hc hd hr, fun q => hm (by
        unfold hasList at q
        exact q)⟩
  | .dict kvs, _, _, h, r => by
    cases h with
    | emp he =>
      cases r
      obtain ⟨_, ns, vs, kv, o, es, ep, ho, hx, hd, _, hp, _⟩ := I.hok _ _ he
      cases kv
      have en : es.toList = [] := List.eq_nil_of_length_eq_zero (by
        rw [hp.length]
        exact rfl)
      refine ⟨_, Reads.dict (as := []) (bs := []) ho hx.1 hd (by
        rw [en]
        exact .nil) (by
        rw [en]
        exact .nil), fun _ => ?_⟩
      intro z
      have z' : sysModules ∈ [_] := z
      rw [List.mem_singleton] at z'
      rw [← z'] at ns
      simp at ns
theorem DqAll.reads (I : Inv X pins σ H s) : ∀ (ds : List PyData) (vs : List V) (us : List Value), DqAll X.K H vs ds → Vals vs us → ∃ as, ReadsAll s.heap us ds as ∧ (hasListAll ds = false → sysModules ∉ as)
  | [], _, _, h, r => by
    cases h
    cases r
    exact ⟨_, ReadsAll.nil, fun _ => List.not_mem_nil⟩
  | d :: ds, _, _, h, r => by
    cases h with
    | cons h1 h2 =>
      cases r with
      | cons r1 r2 =>
        obtain ⟨as, q1, m1⟩ := Dq.reads I d _ _ h1 r1
        obtain ⟨bs, q2, m2⟩ := DqAll.reads I ds _ _ h2 r2
        refine ⟨_, ReadsAll.cons q1 q2, fun q => ?_⟩
        unfold hasListAll at q
        rw [Bool.or_eq_false_iff] at q
        intro z
        rcases List.mem_append.mp z with z | z
        · exact m1 q.1 z
        · exact m2 q.2 z
end
end
/-- what repr is asked of here: shallow enough, short enough, no list and dict together -/
def ReprOk (d : PyData) : Prop := d.showable = true ∧ (d.hasDict = true → hasList d = false) ∧ d.depth ≤ 60 ∧ d.shown.length ≤ sizeLine
def rRepr (K : PySem.W.Frag) : List V → Hp → VK → Prop := fun xs H Q => ∃ v d, xs = [v] ∧ Dq K H v d ∧ ReprOk d ∧ Q (.str d.shown) H
theorem call_repr_data {X : Cx} (gd : X.A.guards = some []) (hu : X.A.units + 64 < cLine) : CallR X (.builtin "repr") (rRepr X.K) := by
  intro pins s σ H xs us Q I r h
  obtain ⟨v, d, rfl, hd, ⟨hs, hl, h60, hz⟩, q⟩ := h
  obtain ⟨u, rfl, rv⟩ : ∃ u, us = [u] ∧ RelV v u := by
    cases r with
    | cons a b =>
      cases b
      exact ⟨_, rfl, a⟩
  have fin : ∀ (h' : Heap) (t t' : Nat), (∀ b o, s.heap.get? b = some o → h'.get? b = some o) → EP X pins σ Q (.str d.shown t) { s with heap := h', toks := t' } :=
    fun h' t t' k => ⟨.str d.shown, H, I.kept k, ⟨t, rfl⟩, q⟩
  have big : ∀ a, u = .ref a → wpAny (model X.prog X.w) X.A (call (.builtin "repr") [u]) (EP X pins σ Q) X.xe s := by
    rintro a rfl
    obtain ⟨as, hr, hm⟩ := Dq.reads I d v _ hd rv
    exact repr_of_reads' hr hs (fun z => hm (hl z)) gd (by omega) (fun _ _ e => e) (fun h' t tk k => fin h' t tk k) hz
  cases hd with
  | non =>
    cases rv
    exact PySem.P.repr_of_none (fin s.heap _ _ fun _ _ e => e)
  | bl b =>
    cases rv
    refine PySem.P.repr_of_bool (b := b) ?_
    have e : (if b = true then ("True" : Str) else "False") = PyData.shown (.bool b) := by
      unfold PyData.shown
      exact rfl
    have f := fin s.heap s.toks (s.toks + 1) fun _ _ e => e
    rw [← e] at f
    exact f
  | int i =>
    obtain ⟨t, rfl⟩ := rv
    refine PySem.P.repr_of_int (a := i) (by
      unfold PyData.showable at hs
      exact of_decide_eq_true hs) ?_
    have f := fin s.heap s.toks (s.toks + 1) fun _ _ e => e
    unfold PyData.shown at f
    exact f
  | str x =>
    obtain ⟨t, rfl⟩ := rv
    unfold PyData.shown at hz
    refine PySem.P.repr_of_str (x := x) ?_ hz
    have f := fin s.heap s.toks (s.toks + 1) fun _ _ e => e
    unfold PyData.shown at f
    exact f
  | lst h1 h2 => exact big _ rv
  | tup h1 h2 => exact big _ rv
  | emp h1 => exact big _ rv
end Lk

/-! Texts: signs of a text as values, list of a text, a text repeated, strip. -/
namespace Lk
open PySem PySem.Spec PyProof.Rows L2 G PySem.Builtin.Str PySem.Builtin

/-- a text by its codes -/
abbrev tx (l : List Nat) : Str := ⟨l.toArray⟩
theorem tx_of (x : Str) : x = tx x.cps.toList := rfl
theorem tx_inj {a b : List Nat} (h : tx a = tx b) : a = b := by
  have := congrArg (fun s : Str => s.cps.toList) h
  simpa using this
theorem str_ext {x y : Str} (h : x.cps.toList = y.cps.toList) : x = y := by
  cases x
  cases y
  simp at h
  subst h
  rfl
/-- a text's signs, as values -/
def sg (z : Str) : List V := z.cps.toList.map fun c => V.str ⟨#[c]⟩
theorem sg_len (z : Str) : (sg z).length = z.length := by
  unfold sg
  rw [List.length_map]
  exact rfl

theorem vals_of_get : ∀ {xs : List V} {us : List Value}, xs.length = us.length → (∀ (i : Nat) (x : V) (u : Value), xs[i]? = some x → us[i]? = some u → RelV x u) → Vals xs us
  | [], [], _, _ => .nil
  | _ :: _, [], h, _ => by simp at h
  | [], _ :: _, h, _ => by simp at h
  | x :: xs, u :: us, h, k => .cons (k 0 x u rfl rfl) (vals_of_get (by simpa using h) fun i a b e f => k (i + 1) a b (by simpa using e) (by simpa using f))

section
variable {X : Cx}
/-- list(s), s a text -/
def rListS : List V → Hp → VK → Prop := fun xs H Q => ∃ z : Str, xs = [.str z] ∧ z.length ≤ sizeLine ∧ ∀ l, H l = none → Q (.ref l) (upd H l (.lst (sg z)))
theorem call_list_ofS (hc : X.calm = true) : CallR X (.type "list") rListS := by
  intro pins s σ H xs us Q I r h
  obtain ⟨z, rfl, hz, q⟩ := h
  obtain ⟨u, rfl, t, rfl⟩ : ∃ u, us = [u] ∧ ∃ t, u = Value.str z t := by
    cases r with
    | cons a b =>
      cases b
      exact ⟨_, rfl, a⟩
  refine call_list_str (I.ok.hd hc) z t ?_ hz
  intro h' tk acc c kp e hacc
  obtain ⟨n1, n2⟩ := hacc
  have v : Vals (sg z) acc.toList := by
    refine vals_of_get (by rw [sg_len, Array.length_toList, n1]; rfl) fun i x u e1 e2 => ?_
    unfold sg at e1
    rw [List.getElem?_map, Option.map_eq_some_iff] at e1
    obtain ⟨c, ec, rfl⟩ := e1
    rw [Array.getElem?_toList] at e2
    obtain ⟨c', tu, ec', rfl⟩ := n2 i u e2
    rw [Array.getElem?_toList] at ec
    rw [ec] at ec'
    cases ec'
    exact ⟨tu, rfl⟩
  refine ⟨.ref s.heap.objs.size, upd H s.heap.objs.size (.lst (sg z)), I.laid (t' := tk) kp (Nat.le_refl _) ?_, rfl, q _ (I.hok.fresh (Nat.le_refl _))⟩
  exact ⟨by rw [sg_len]; exact hz, acc.toList, c, v, by simpa using e⟩

/-- s repeated -/
def repS (z : Str) : Nat → Str
  | 0 => tx []
  | n + 1 => tx (z.cps.toList ++ (repS z n).cps.toList)
theorem repS_codes (z : Str) : ∀ n, (repS z n).cps.toList = (List.replicate n z.cps.toList).flatten
  | 0 => rfl
  | n + 1 => by
    unfold repS
    rw [List.replicate_succ, List.flatten_cons, ← repS_codes z n]
theorem rep_fold (c : Array Nat) : ∀ (n : Nat) (acc : Array Nat), ((List.replicate n c).foldl (· ++ ·) acc).toList = acc.toList ++ (List.replicate n c.toList).flatten
  | 0, acc => by simp
  | n + 1, acc => by
    rw [List.replicate_succ, List.foldl_cons, rep_fold c n, Array.toList_append, List.replicate_succ, List.flatten_cons, List.append_assoc]
theorem repS_eq (z : Str) (n : Nat) : (⟨(List.replicate n z.cps).foldl (· ++ ·) #[]⟩ : Str) = repS z n := by
  refine str_ext ?_
  rw [repS_codes]
  show ((List.replicate n z.cps).foldl (· ++ ·) #[]).toList = _
  rw [rep_fold]
  simp
theorem repS_len (z : Str) (n : Nat) : (repS z n).length = n * z.length := by
  show (repS z n).cps.size = _
  rw [← Array.length_toList, repS_codes]
  simp [Str.length]
theorem repS_one (z : Str) : repS z 1 = z := by
  refine str_ext ?_
  rw [repS_codes]
  simp
theorem repS_empty {z : Str} (h : z.length = 0) (n : Nat) : repS z n = z := by
  have e : z.cps.toList = [] := List.eq_nil_of_length_eq_zero (by simpa [Str.length] using h)
  refine str_ext ?_
  rw [repS_codes, e]
  simp
/-- s * n -/
def rMulS : R2 := fun x y H Q => ∃ (z : Str) (n : Nat), x = .str z ∧ y = .int (n : Int) ∧ z.length * n ≤ 16777216 ∧ n ≤ 16777216 ∧ Q (.str (repS z n)) H
theorem op_mulS : OpR X (binaryOp .Mult) rMulS := by
  intro pins s σ H x y v u Q I rx ry h
  obtain ⟨z, n, rfl, rfl, hz, hn, q⟩ := h
  obtain ⟨t, rfl⟩ := rx
  obtain ⟨t', rfl⟩ := ry
  refine PySem.P.mul_str (x := z) (n := (n : Int)) ?_ ?_ ?_ ?_
  · have e1 : ¬ ((n : Int) < -(2 ^ 63 : Int)) := by omega
    have e2 : ¬ ((n : Int) ≥ 2 ^ 63) := by omega
    rw [decide_eq_false e1, decide_eq_false e2]
    exact rfl
  · intro h1 _ h2
    have h3 : (1 : Int) ≤ n := by omega
    have hb : (z.length : Int) * n ≤ 16777216 := by
      have := Int.ofNat_le.mpr hz
      rw [Int.natCast_mul] at this
      exact this
    have h4 : (z.length : Int) ≤ (2 ^ 63 - 1) / n := by
      refine (Int.le_ediv_iff_mul_le (by omega)).mpr ?_
      exact Int.le_trans hb (by decide)
    omega
  · intro _ _
    unfold tooLong
    rw [Int.toNat_natCast]
    refine decide_eq_false ?_
    rw [sizeLine_eq]
    omega
  · have fin : ∀ (t t' : Nat), EP X pins σ Q (.str (repS z n) t) { s with toks := t' } := fun t t' => ⟨.str (repS z n), H, I.tok _, ⟨t, rfl⟩, q⟩
    by_cases h1 : (n : Int) < 1
    · rw [if_pos h1]
      have e : n = 0 := by omega
      subst e
      exact ⟨by decide, fin _ _⟩
    · rw [if_neg h1]
      by_cases h2 : ((n : Int) == 1 || z.length == 0) = true
      · rw [if_pos h2]
        have e : repS z n = z := by
          rw [Bool.or_eq_true, beq_iff_eq, beq_iff_eq] at h2
          rcases h2 with h2 | h2
          · have : n = 1 := by omega
            subst this
            exact repS_one z
          · exact repS_empty h2 n
        have f := fin t s.toks
        rw [e] at f
        exact f
      · rw [if_neg h2]
        rw [Int.toNat_natCast, repS_eq]
        refine ⟨?_, fin _ _⟩
        rw [repS_len, sizeLine_eq, Nat.mul_comm]
        exact hz
end

/-! ### strip leaves nothing just where all signs are among the given ones -/
theorem getD_mem {z : Str} {k : Nat} (h : k < z.length) : z.cps.getD k 0 ∈ z.cps.toList := by
  have h' : k < z.cps.size := h
  simp [Array.getD, h']
theorem mem_getD {z : Str} {c : Nat} (h : c ∈ z.cps.toList) : ∃ k, k < z.length ∧ z.cps.getD k 0 = c := by
  obtain ⟨k, hk, e⟩ := List.getElem_of_mem h
  have h' : k < z.cps.size := by simpa using hk
  refine ⟨k, h', ?_⟩
  simp [Array.getD, h']
  simpa using e
theorem stripBy_none (goes : Nat → Bool) (z : Str) : (Txt.stripBy goes true true z).length = 0 ↔ ∀ c ∈ z.cps.toList, goes c = true := by
  rw [stripBy_eq]
  obtain ⟨a0, a1, a2⟩ := lo_facts goes z
  obtain ⟨b0, b1, b2, b3⟩ := hi_facts goes z (stripLo goes true z) a0
  generalize stripLo goes true z = lo at *
  generalize stripHi goes true z lo = hi at *
  have len : (strSub z lo hi).length = hi - lo := by
    show (z.cps.extract lo hi).size = _
    have h1 : hi ≤ z.cps.size := b1
    rw [Array.size_extract]
    omega
  rw [len]
  constructor
  · intro h c hc
    obtain ⟨k, hk, rfl⟩ := mem_getD hc
    by_cases h1 : k < lo
    · exact a1 k h1
    · exact b2 k (by omega) hk
  · intro h
    by_cases h1 : lo = hi
    · omega
    · rcases a2 with h2 | h2
      · omega
      · have := h _ (getD_mem (z := z) (k := lo) (by omega))
        rw [h2] at this
        cases this
/-- all signs of z are among those of s -/
def allIn (s z : Str) : Bool := z.cps.toList.all fun c => s.cps.toList.contains c
theorem strip_none (z s : Str) : decide (V.str (Txt.stripChars z s) = V.str (tx [])) = allIn s z := by
  have h := stripBy_none s.cps.contains z
  have e : (∀ c ∈ z.cps.toList, s.cps.contains c = true) ↔ allIn s z = true := by
    unfold allIn
    rw [List.all_eq_true]
    simp
  rw [e] at h
  have f : V.str (Txt.stripChars z s) = V.str (tx []) ↔ (Txt.stripChars z s).length = 0 := by
    constructor
    · intro q
      rw [V.str.inj q]
      rfl
    · intro q
      refine congrArg V.str (str_ext ?_)
      exact List.eq_nil_of_length_eq_zero (by simpa [Str.length] using q)
  by_cases q : allIn s z = true
  · rw [q]
    exact decide_eq_true (f.mpr (h.mpr q))
  · rw [Bool.eq_false_iff.mpr q]
    exact decide_eq_false fun z' => q (h.mp (f.mp z'))
end Lk
namespace Lk
open PySem PySem.Spec PyProof.Rows L2 G
def isStr : PyData → Bool | .str _ => true | _ => false
def isInt : PyData → Bool | .int _ => true | .bool _ => true | _ => false
def isBool : PyData → Bool | .bool _ => true | _ => false
def isTup : PyData → Bool | .tuple _ => true | _ => false
def isLst : PyData → Bool | .list _ => true | _ => false
section
variable {K : PySem.W.Frag} {H : Hp} {v : V} {d : PyData} {Q : VK}
theorem kit_NoneType_str : kitB "NoneType" "str" = some false := by decide +kernel
theorem kit_bool_str : kitB "bool" "str" = some false := by decide +kernel
theorem kit_int_str : kitB "int" "str" = some false := by decide +kernel
theorem kit_str_str : kitB "str" "str" = some true := by decide +kernel
theorem kit_list_str : kitB "list" "str" = some false := by decide +kernel
theorem kit_tuple_str : kitB "tuple" "str" = some false := by decide +kernel
theorem kit_dict_str : kitB "dict" "str" = some false := by decide +kernel
theorem kStr : ∀ d : PyData, PySem.W.kitOne K (.type (tyName d)) (.type "str") = some (isStr d)
  | .none => kit_ty kit_NoneType_str
  | .bool _ => kit_ty kit_bool_str
  | .int _ => kit_ty kit_int_str
  | .str _ => kit_ty kit_str_str
  | .list _ => kit_ty kit_list_str
  | .tuple _ => kit_ty kit_tuple_str
  | .dict _ => kit_ty kit_dict_str
theorem kit_NoneType_int : kitB "NoneType" "int" = some false := by decide +kernel
theorem kit_bool_int : kitB "bool" "int" = some true := by decide +kernel
theorem kit_int_int : kitB "int" "int" = some true := by decide +kernel
theorem kit_str_int : kitB "str" "int" = some false := by decide +kernel
theorem kit_list_int : kitB "list" "int" = some false := by decide +kernel
theorem kit_tuple_int : kitB "tuple" "int" = some false := by decide +kernel
theorem kit_dict_int : kitB "dict" "int" = some false := by decide +kernel
theorem kInt : ∀ d : PyData, PySem.W.kitOne K (.type (tyName d)) (.type "int") = some (isInt d)
  | .none => kit_ty kit_NoneType_int
  | .bool _ => kit_ty kit_bool_int
  | .int _ => kit_ty kit_int_int
  | .str _ => kit_ty kit_str_int
  | .list _ => kit_ty kit_list_int
  | .tuple _ => kit_ty kit_tuple_int
  | .dict _ => kit_ty kit_dict_int
theorem kit_NoneType_bool : kitB "NoneType" "bool" = some false := by decide +kernel
theorem kit_bool_bool : kitB "bool" "bool" = some true := by decide +kernel
theorem kit_int_bool : kitB "int" "bool" = some false := by decide +kernel
theorem kit_str_bool : kitB "str" "bool" = some false := by decide +kernel
theorem kit_list_bool : kitB "list" "bool" = some false := by decide +kernel
theorem kit_tuple_bool : kitB "tuple" "bool" = some false := by decide +kernel
theorem kit_dict_bool : kitB "dict" "bool" = some false := by decide +kernel
theorem kBool : ∀ d : PyData, PySem.W.kitOne K (.type (tyName d)) (.type "bool") = some (isBool d)
  | .none => kit_ty kit_NoneType_bool
  | .bool _ => kit_ty kit_bool_bool
  | .int _ => kit_ty kit_int_bool
  | .str _ => kit_ty kit_str_bool
  | .list _ => kit_ty kit_list_bool
  | .tuple _ => kit_ty kit_tuple_bool
  | .dict _ => kit_ty kit_dict_bool
theorem kit_NoneType_tuple : kitB "NoneType" "tuple" = some false := by decide +kernel
theorem kit_bool_tuple : kitB "bool" "tuple" = some false := by decide +kernel
theorem kit_int_tuple : kitB "int" "tuple" = some false := by decide +kernel
theorem kit_str_tuple : kitB "str" "tuple" = some false := by decide +kernel
theorem kit_list_tuple : kitB "list" "tuple" = some false := by decide +kernel
theorem kit_tuple_tuple : kitB "tuple" "tuple" = some true := by decide +kernel
theorem kit_dict_tuple : kitB "dict" "tuple" = some false := by decide +kernel
theorem kTup : ∀ d : PyData, PySem.W.kitOne K (.type (tyName d)) (.type "tuple") = some (isTup d)
  | .none => kit_ty kit_NoneType_tuple
  | .bool _ => kit_ty kit_bool_tuple
  | .int _ => kit_ty kit_int_tuple
  | .str _ => kit_ty kit_str_tuple
  | .list _ => kit_ty kit_list_tuple
  | .tuple _ => kit_ty kit_tuple_tuple
  | .dict _ => kit_ty kit_dict_tuple
theorem kit_NoneType_list : kitB "NoneType" "list" = some false := by decide +kernel
theorem kit_bool_list : kitB "bool" "list" = some false := by decide +kernel
theorem kit_int_list : kitB "int" "list" = some false := by decide +kernel
theorem kit_str_list : kitB "str" "list" = some false := by decide +kernel
theorem kit_list_list : kitB "list" "list" = some true := by decide +kernel
theorem kit_tuple_list : kitB "tuple" "list" = some false := by decide +kernel
theorem kit_dict_list : kitB "dict" "list" = some false := by decide +kernel
theorem kLst : ∀ d : PyData, PySem.W.kitOne K (.type (tyName d)) (.type "list") = some (isLst d)
  | .none => kit_ty kit_NoneType_list
  | .bool _ => kit_ty kit_bool_list
  | .int _ => kit_ty kit_int_list
  | .str _ => kit_ty kit_str_list
  | .list _ => kit_ty kit_list_list
  | .tuple _ => kit_ty kit_tuple_list
  | .dict _ => kit_ty kit_dict_list
end
/-- is_word -/
def isWord (s : Str) : PyData → Bool
  | .str z => allIn s z
  | _ => false
end Lk
namespace Lk
open PySem PySem.Spec PyProof.Rows L2 G
/-! ### slices by places within, the longest common beginning -/
theorem cutS_nat (z : Str) (a b : Nat) (ha : a ≤ z.length) (hb : b ≤ z.length) : cutS z (some (a : Int)) (some (b : Int)) = tx ((z.cps.toList.drop a).take (b - a)) := by
  unfold cutS
  rw [HT.sIx_nat, HT.sIx_nat, Nat.min_eq_left ha, Nat.min_eq_left hb]
theorem cutS_to (z : Str) (b : Nat) (hb : b ≤ z.length) : cutS z none (some (b : Int)) = tx (z.cps.toList.take b) := by
  unfold cutS
  rw [HT.sIx_nat, HT.sIx_none, Nat.min_eq_left hb]
  rfl
theorem cutV_nat (xs : List V) (a b : Nat) (ha : a ≤ xs.length) (hb : b ≤ xs.length) : cutV xs (some (a : Int)) (some (b : Int)) = (xs.drop a).take (b - a) := by
  unfold cutV
  rw [HT.sIx_nat, HT.sIx_nat, Nat.min_eq_left ha, Nat.min_eq_left hb]
theorem cutV_to (xs : List V) (b : Nat) : cutV xs none (some (b : Int)) = xs.take b := by
  unfold cutV
  rw [HT.sIx_nat, HT.sIx_none]
  show (xs.take (min b xs.length - 0)) = _
  rw [Nat.sub_zero]
  by_cases h : b ≤ xs.length
  · rw [Nat.min_eq_left h]
  · rw [Nat.min_eq_right (by omega), List.take_of_length_le (Nat.le_refl _), List.take_of_length_le (by omega)]

def lcp : List Nat → List Nat → List Nat
  | a :: as, b :: bs => if a = b then a :: lcp as bs else []
  | _, _ => []
theorem lcp_len_le : ∀ as bs : List Nat, (lcp as bs).length ≤ as.length ∧ (lcp as bs).length ≤ bs.length
  | [], bs => by simp [lcp]
  | a :: as, [] => by simp [lcp]
  | a :: as, b :: bs => by
    unfold lcp
    by_cases h : a = b
    · rw [if_pos h]
      have := lcp_len_le as bs
      simp
      exact this
    · rw [if_neg h]
      simp
theorem lcp_take : ∀ (as bs : List Nat) (k : Nat), k ≤ as.length → k ≤ bs.length → (as.take k = bs.take k ↔ k ≤ (lcp as bs).length)
  | [], bs, k, h1, _ => by
    have : k = 0 := by simpa using h1
    subst this
    simp
  | a :: as, [], k, _, h2 => by
    have : k = 0 := by simpa using h2
    subst this
    simp
  | a :: as, b :: bs, 0, _, _ => by simp
  | a :: as, b :: bs, k + 1, h1, h2 => by
    have ih := lcp_take as bs k (by simpa using h1) (by simpa using h2)
    unfold lcp
    rw [List.take_succ_cons, List.take_succ_cons]
    by_cases h : a = b
    · subst h
      rw [if_pos rfl, List.length_cons]
      constructor
      · intro q
        have := ih.mp (List.cons.inj q).2
        omega
      · intro q
        rw [ih.mpr (by omega)]
    · rw [if_neg h]
      constructor
      · intro q
        exact absurd (List.cons.inj q).1 h
      · intro q
        simp at q
theorem lcp_is : ∀ as bs : List Nat, lcp as bs = as.take (lcp as bs).length
  | [], bs => by simp [lcp]
  | a :: as, [] => by simp [lcp]
  | a :: as, b :: bs => by
    have ih := lcp_is as bs
    unfold lcp
    by_cases h : a = b
    · rw [if_pos h, List.length_cons, List.take_succ_cons, ← ih]
    · rw [if_neg h]
      simp
/-- the longest text with which both begin -/
def comS (x y : Str) : Str := tx (lcp x.cps.toList y.cps.toList)
/-- one step of halving: the two parts between are the same just if the beginnings are -/
theorem part_eq {as bs : List Nat} {lo mid : Nat} (hlm : lo ≤ mid) (h : as.take lo = bs.take lo) :
    (as.drop lo).take (mid - lo) = (bs.drop lo).take (mid - lo) ↔ as.take mid = bs.take mid := by
  have e : ∀ l : List Nat, l.take mid = l.take lo ++ (l.drop lo).take (mid - lo) := fun l => by
    have := List.take_add (l := l) (i := lo) (j := mid - lo)
    rw [show lo + (mid - lo) = mid by omega] at this
    exact this
  constructor
  · intro q
    rw [e as, e bs, q, h]
  · intro q
    rw [e as, e bs, h] at q
    exact List.append_cancel_left q
end Lk

/-! The pot of numbers that a law draws from. -/
namespace Lk
open PySem PySem.Spec PyProof.Rows L2 G

theorem seqL_ne {K : PySem.W.Frag} {H : Hp} {a : Addr} {xs : List V} {o : HO} (h : SqL K (sans H a) a xs) : K.lookup a ≠ none := by
  rcases h with (h | ⟨o, h⟩) | ⟨o, its, n, h, _⟩
  · rw [sans_self] at h
    cases h
  · rw [sans_self] at h
    cases h
  · rw [h]
    exact Option.some_ne_none _
/-- at a the pot: its cells' list at c, three numbers -/
def PotAt (H : Hp) (a c : Addr) : Prop := ∃ (p x y : Int), H a = some (.lst [.ref c, .int p, .int x, .int y])
def Cells (K : PySem.W.Frag) (H : Hp) (a c : Addr) : Prop := ∃ ns : List Int, SqL K (sans H a) c (ns.map V.int) ∧ ns.length ≤ 63
structure Pot (K : PySem.W.Frag) (H : Hp) (a c : Addr) : Prop where
  at_ : PotAt H a c
  cells : Cells K H a c
theorem Cells.mono {K : PySem.W.Frag} {H H' : Hp} {a c : Addr} (s : Sm a H H') (h : Cells K H a c) : Cells K H' a c := by
  obtain ⟨ns, h, l⟩ := h
  exact ⟨ns, seqL s h, l⟩
theorem Pot.to {K : PySem.W.Frag} {H H' : Hp} {a c : Addr} (h : Pot K H a c) (s : Sm a H H') (p : PotAt H' a c) : Pot K H' a c := ⟨p, h.cells.mono s⟩
theorem PotAt.ne {H : Hp} {a c p : Addr} (h : PotAt H a c) (n : H p = none) : p ≠ a := by
  obtain ⟨_, _, _, e⟩ := h
  exact (ne_of_none e n).symm
theorem PotAt.upd {H : Hp} {a c p : Addr} {o : HO} (h : PotAt H a c) (n : p ≠ a) : PotAt (upd H p o) a c := by
  obtain ⟨x, y, z, e⟩ := h
  exact ⟨x, y, z, (upd_ne n.symm).trans e⟩
theorem PotAt.same {H H' : Hp} {a c : Addr} (h : PotAt H a c) (s : Same H H') : PotAt H' a c := by
  obtain ⟨x, y, z, e⟩ := h
  exact ⟨x, y, z, s _ _ e⟩
theorem Pot.ne {K : PySem.W.Frag} {H : Hp} {a c p : Addr} (h : Pot K H a c) (n : H p = none) : p ≠ a := h.at_.ne n
theorem Pot.same {K : PySem.W.Frag} {H H' : Hp} {a c : Addr} (h : Pot K H a c) (s : Same H H') : Pot K H' a c := h.to (Sm.of s) (h.at_.same s)
theorem Pot.new {K : PySem.W.Frag} {H : Hp} {a c p : Addr} {o : HO} (h : Pot K H a c) (n : H p = none) : Pot K (L2.upd H p o) a c := h.same (same_new n)
/-- _law_below: some number from 0 on below the bound; all but the pot stands -/
def spBelow (K : PySem.W.Frag) : Sp := fun vs H Q _ => ∃ (a c : Addr) (b : Int), vs = [.ref a, .int b] ∧ Pot K H a c ∧ 1 ≤ b ∧ b < 1073741824 ∧
  ∀ (H' : Hp) (k : Int), Sm a H H' → Pot K H' a c → 0 ≤ k → k < b → Q (.int k) H'
/-- _law_pick: some item of a list, of a tuple or of a text -/
def spPick (K : PySem.W.Frag) : Sp := fun vs H Q _ => ∃ (a c : Addr) (v : V) (xs : List V), vs = [.ref a, v] ∧ Pot K H a c ∧ xs ≠ [] ∧
  ((∃ l, v = .ref l ∧ SqL K (sans H a) l xs) ∨ (∃ l, v = .ref l ∧ SqT K (sans H a) l xs) ∨ (∃ z : Str, v = .str z ∧ xs = sg z ∧ z.length ≤ sizeLine)) ∧ xs.length < 1073741824 ∧
  ∀ (H' : Hp) (x : V), Sm a H H' → Pot K H' a c → x ∈ xs → Q x H'
theorem dq_ints {K : PySem.W.Frag} {H : Hp} : ∀ ns : List Int, DpAll K H (ns.map V.int) (ns.map PyData.int)
  | [] => .nil
  | n :: ns => .cons (.int n) (dq_ints ns)
theorem shaped_ints (ns : List Int) : SeqAt.shaped (.list (ns.map PyData.int)) = true := by
  have h1 : ∀ l : List Int, PyData.canLayAll0 (l.map PyData.int) = true := fun l => by
    induction l with
    | nil => rfl
    | cons n r ih =>
      rw [List.map_cons]
      unfold PyData.canLayAll0
      rw [ih, Bool.and_true]
      rfl
  have h2 : ∀ l : List Int, PyData.depthAll (l.map PyData.int) = 0 := fun l => by
    induction l with
    | nil => rfl
    | cons n r ih =>
      rw [List.map_cons]
      unfold PyData.depthAll
      rw [ih]
      rfl
  unfold SeqAt.shaped
  rw [Bool.and_eq_true]
  constructor
  · unfold PyData.canLay0
    exact h1 ns
  · unfold PyData.depth
    rw [h2]
    exact rfl
theorem sg_get {z : Str} {k : Nat} (h : k < (sg z).length) : ∃ c, (sg z)[k] = .str (tx [c]) ∧ z.cps.toList[k]? = some c := by
  unfold sg at h ⊢
  rw [List.length_map] at h
  refine ⟨z.cps.toList[k], ?_, List.getElem?_eq_getElem h⟩
  rw [List.getElem_map]
end Lk
namespace Lk
open PySem PySem.Spec PyProof.Rows L2 G
theorem ixN_nat {n j : Nat} (h : j < n) : ixN n (j : Int) = some j := by
  unfold ixN
  rw [if_pos (by omega)]
  simp
  exact h
end Lk
namespace Lk
open PySem PySem.Spec PyProof.Rows L2 G PySem.Builtin.Str PySem.Builtin
/-- the texts one behind another -/
def catS (ys : List Str) : List Nat := (ys.map fun y => y.cps.toList).flatten
theorem glue_fold : ∀ (rest : List Str) (acc : Array Nat), (rest.foldl (fun acc p => acc ++ (tx []).cps ++ p.cps) acc).toList = acc.toList ++ catS rest
  | [], acc => by simp [catS]
  | y :: r, acc => by
    rw [List.foldl_cons, glue_fold r]
    simp [catS]
theorem join_empty (ys : List Str) : Txt.join (tx []) ys = tx (catS ys) := by
  refine str_ext ?_
  unfold Txt.join
  cases ys with
  | nil => rfl
  | cons y r =>
    show ((r.foldl (fun acc p => acc ++ (tx []).cps ++ p.cps) y.cps)).toList = _
    rw [glue_fold]
    simp [catS]
end Lk
namespace Lk
open PySem PySem.Spec PyProof.Rows L2 G
theorem catS_ones : ∀ l : List Nat, catS (l.map fun c => tx [c]) = l
  | [] => rfl
  | c :: r => by
    have ih := catS_ones r
    unfold catS at ih ⊢
    rw [List.map_cons, List.map_cons, List.flatten_cons, ih]
    rfl
theorem sum_ones : ∀ l : List Nat, ((l.map fun c => tx [c]).map (·.length)).sum = l.length
  | [] => rfl
  | c :: r => by
    rw [List.map_cons, List.map_cons, List.sum_cons, sum_ones r, List.length_cons]
    show 1 + r.length = _
    omega
end Lk

/-! Exceptions of own classes as values: made (with and without an own __init__), asked by isinstance, their fields read. -/
namespace Lk
open PySem PySem.Spec PySem.Calls PyProof.Rows L2 G

/-- at a an exception of the class at D: one without a dict, or one with its dict at d -/
def ExAt (H : Hp) (a D : Addr) : Prop := H a = some (ExO (.ref D) a) ∨ ∃ d, H a = some (exo a D (some d)) ∧ ∃ fs, H d = some (exd d fs)
theorem ExAt.mono {H H' : Hp} {a D : Addr} (s : Same H H') (h : ExAt H a D) : ExAt H' a D :=
  h.imp (s _ _) fun ⟨d, e, fs, f⟩ => ⟨d, s _ _ e, fs, s _ _ f⟩

section
open PySem.W
variable {prog : Program} {w : World} {A : Around} {E : Value → Shared → Prop} {s : Shared} {K : Frag} {x D : Addr}

theorem exc_class {ox : Obj} {od : Option Obj} {Q : Option Value → Shared → Prop} (T : ExcC K D) (X : K.In s.heap) (I : InstAt s.heap x ox D od)
    (q : Q (some (.ref D)) { s with toks := s.toks + 1 }) : wpAny (model prog w) A (getAttr? (.ref x) "__class__") Q E s := by
  have found : findObj K D od "__class__" = some (.bind (.builtin "getset_descriptor.__get__") (.builtin "object.__class__")) := by
    obtain ⟨cd, hc, _⟩ := any_some T.hd
    unfold findObj
    rw [hc, Option.bind_some, T.ha, Option.bind_some]
    simp [T.hn, T.ht]
  obtain ⟨hp, g, d, t, os⟩ := s
  have t0 := I.type (M := model prog w)
  have t1 := looks_findIn (M := model prog w) X T.hg
  have t2 := looks_findIn (M := model prog w) X T.hk
  have t3 := looks_find (M := model prog w) X I found
  have isExc : Looks (model prog w) hp (isInstance (.ref x) (.type "BaseException")) true := t0.andThen (looks_subIn X T.hs)
  have no1 : (Value.builtin "BaseException.__getattribute__" == Value.builtin "object.__getattribute__") = false := by decide +kernel
  have no2 : (onTheHeap (Value.ref D) && Value.builtin "BaseException.__getattribute__" == Value.builtin "object.__getattribute__") = false := by
    rw [no1]
    exact rfl
  have no3 : (false && onTheHeap (Value.builtin "BaseException.__getattribute__")) = false := rfl
  unfold getAttr?
  unfold getAttrBy?
  unfold getAttrBy
  refine wpAny_bind (wpAny_mkText (wpAny_bind (wpAny_attempt (wpAny_holding ?_))))
  refine wpAny_bind (t0.at (wpAny_bind (t1.at ?_)))
  show wpAny _ _ (if (onTheHeap (Value.ref D) && Value.builtin "BaseException.__getattribute__" == Value.builtin "object.__getattribute__") = true then _ else _) _ _ _
  rw [no2]
  rw [if_neg Bool.false_ne_true]
  unfold getAttrByItsOwn
  unfold hookBefore
  refine wpAny_bind ?_
  rw [if_pos (show onTheHeap (Value.ref D) = true from rfl)]
  refine t2.at (wpAny_bind (wpAny_attempt (wpAny_holding ?_)))
  unfold callGetattribute
  rw [no3]
  rw [if_neg Bool.false_ne_true]
  unfold boundAndCalled
  rw [PySem.F.excAttr_ValueError.ga.bind (.ref x)]
  refine wpAny_bind (wpAny_pure ?_)
  show wpAny _ _ (call (.builtin "BaseException.__getattribute__") [.ref x, .str "__class__" t]) _ _ _
  refine wpAny_call (codeAny_call_builtin PySem.F.excAttr_ValueError.ga.plain PySem.F.entry_bexc_ga ?_)
  refine @check_slot (model prog w) _ _ ⟨hp, g, d, t + 1, os⟩ "BaseException.__getattribute__" "BaseException" "__getattribute__"
    (.ref x) [.str "__class__" t] [] _ (by decide +kernel) (by decide +kernel) isExc (PySem.F.args_bexc_ga (.ref x) (.str "__class__" t)) ?_
  unfold Builtin.«object.__getattribute__»
  refine wpAny_bind (wpAny_of_eq (a := ((Value.ref x : Value), [Value.str "__class__" t])) ?_ ?_)
  · first
      | rfl
      | (simp only [slotArgs]; rfl)
  refine wpAny_bind (wpAny_pure (wpAny_bind (t0.at (wpAny_bind (t3.at ?_)))))
  show wpAny _ _ (holding [Value.builtin "object.__class__"] (call (.builtin "getset_descriptor.__get__") [.builtin "object.__class__", .ref x, .ref D]) >>= ret) _ _ _
  refine wpAny_bind (wpAny_holding (wpAny_call (class_get (s := ⟨hp, g, d, t + 1, os⟩) (ox := ox) (od := od) X I T.hm ?_)))
  refine wpAny_pure ?_
  show wpAny _ _ (handedOut (.ref D)) _ _ _
  rw [handedOut_of (v := .ref D) rfl]
  first
    | exact wpAny_pure (wpAny_pure q)
    | exact wpAny_pure q
    | exact wpAny_pure (wpAny_bind (wpAny_pure (wpAny_pure q)))

theorem exc_kit (T : ExcC K D) : KitX K (.ref x) (.ref D) (fun h => ∃ ox od, InstAt h x ox D od) := by
  obtain ⟨cdD, hcD, _⟩ := any_some T.hd
  unfold clsIn at hcD
  split at hcD
  · rename_i c' d' cd' sl' ho
    constructor
    · rintro _ _ _ ⟨ox, od, I⟩
      exact I.type
    · intro M h X _ A' Q' E' s' k q
      unfold isType loadHead
      exact wpAny_bind (wpAny_loadPart (k _ _ (X _ _ ho)) (wpAny_pure q))
    · intro h tp dd its n sl X htp
      rw [Bool.eq_false_iff]
      intro q
      obtain rfl : D = tp := Value.ref.inj (beq_iff_eq.mp q)
      cases (X _ _ ho).symm.trans htp
    · rintro prog w A E Q s X ⟨ox, od, I⟩ k
      exact exc_class T X I k
  · cases hcD
end

theorem ExAt.inst {X : Cx} {pins : List (Addr × Obj)} {σ : L2.St} {H : Hp} {s : Shared} {a D : Addr} (I : Inv X pins σ H s) (h : ExAt H a D) : ∃ ox od, PySem.W.InstAt s.heap a ox D od := by
  rcases h with h | ⟨d, h, fs, hd⟩
  · have z : ObjOk X.prog X.w H s.heap a (ExO (.ref D) a) := I.hok a _ h
    obtain ⟨⟨oe, vs, e, ⟨hc, hn⟩, hdt, _⟩, _, _⟩ := z
    refine ⟨oe, none, e, hc, ?_, ?_⟩
    · unfold PySem.W.notCls
      rw [hdt] <;> rfl
    · rw [hn]
      trivial
  · obtain ⟨t1, e⟩ := exo_at I.hok h
    obtain ⟨mA, hns, _⟩ := exd_at I.hok hd
    obtain ⟨o, es, ep, ho, _⟩ := hns
    exact ⟨_, some o, e, rfl, rfl, ho⟩

section
variable {X : Cx}
/-- isinstance(e, c), e an exception as a value -/
def rIsX (K : PySem.W.Frag) : List V → Hp → VK → Prop := fun xs H Q => ∃ (a D : Addr) (c : V) (cv : Value) (b : Bool), xs = [.ref a, c] ∧ ExAt H a D ∧ ExcC K D ∧ ClsV c cv ∧ PySem.W.kitOne K (.ref D) cv = some b ∧ Q (.bl b) H
theorem call_isX : CallR X (.builtin "isinstance") (rIsX X.K) := by
  intro pins s σ H xs us Q I r h
  obtain ⟨a, D, c, cv, b, rfl, ha, T, hc, e, q⟩ := h
  cases r with
  | cons rx rr =>
    cases rr with
    | cons rt rr =>
      cases rr
      cases rx
      cases hc.eq rt
      exact PySem.W.kia_one (exc_kit T) I.kIn (ha.inst I) e (fun z => nomatch z) fun tk => ⟨.bl b, H, I.tok tk, rfl, q⟩
/-- isinstance(e, (c1, c2, ..)) -/
def rIsXT (K : PySem.W.Frag) : List V → Hp → VK → Prop := fun xs H Q => ∃ (a D tp : Addr) (cs : List V) (us : List Value) (b : Bool), xs = [.ref a, .ref tp] ∧ ExAt H a D ∧ ExcC K D ∧ H tp = some (.tup cs) ∧ Paired ClsV cs us ∧ PySem.W.kitAny K (.ref D) us = some b ∧ Q (.bl b) H
theorem call_isXT : CallR X (.builtin "isinstance") (rIsXT X.K) := by
  intro pins s σ H xs us Q I r h
  obtain ⟨a, D, tp, cs, ws, b, rfl, ha, T, hT, hc, e, q⟩ := h
  cases r with
  | cons rx rr =>
    cases rr with
    | cons rt rr =>
      cases rr
      cases rx
      cases rt
      have z : ObjOk X.prog X.w H s.heap tp (.tup cs) := I.hok tp _ hT
      obtain ⟨_, its, rv, ⟨oc, od, dt, sl⟩, h1, h2, n, h3⟩ := z
      simp only at h2 h3
      subst h2 h3
      obtain rfl := ClsV.all hc rv
      exact PySem.W.kia_tup (exc_kit T) I.kIn (ha.inst I) h1 e (fun z => nomatch z) fun tk => ⟨.bl b, H, I.tok tk, rfl, q⟩

/-- e.f of an exception with its own dict -/
def tXv (K : PySem.W.Frag) (f : Str) (te : TE) : TE := fun σ H Q => te σ H fun x H1 => ∃ (a C d : Addr) (fs : List (Str × V)) (v : V), x = .ref a ∧ XfC K C ∧ PySem.W.findIn K (.ref C) f = some none ∧
  H1 a = some (exo a C (some d)) ∧ H1 d = some (exd d fs) ∧ fs.lookup f = some v ∧ Q v H1
theorem pe_xv {e : Expr} {te : TE} {pos : Pos} {n : Str} (he : PE X e te) (hb : attributeBase e n X.env (eval e X.env) = eval e X.env := by rfl) : PE X (.Attribute e n pos) (tXv X.K n te) := by
  constructor
  intro pins s σ H Q I h
  refine attr_of hb (thn (he.run pins s σ H _ I h) ?_)
  rintro u s1 ⟨x, H1, I1, rx, a, C, d, fs, v, rfl, T, hno, ea, ed, hl, q⟩
  obtain rfl : u = Value.ref a := rx
  obtain ⟨t1, hoe⟩ := exo_at I1.hok ea
  obtain ⟨mA, hns, rel⟩ := exd_at I1.hok ed
  obtain ⟨od, hod, hlk⟩ := lookIn_ns hns
  have hv : RelO (some v) (mA n) := hl ▸ rel n
  obtain ⟨u, hu, ru⟩ := RelO.some_of hv
  have J : PySem.W.InstAt s1.heap a _ C (some od) := ⟨hoe, rfl, rfl, hod⟩
  exact HandSPX.exc_get I1.kIn J T.ga T.gg T.exC (PySem.W.findObj_own T.hdC hno rfl (by rw [hlk, hu])) (handed_of ru) ⟨v, H1, I1.tok _, ru, q⟩

/-- C(e, ..) as a value, C's own __init__ keeping sp -/
def tMkV (C : Addr) (sp : Sp) (ta : TA) : TE := fun σ H Q => ta σ H fun vs H1 => vs.length ≤ 1000 ∧ ∀ a, H1 a = none → sp (.ref a :: vs) (upd H1 a (exo a C none)) (fun v H2 => v = .non ∧ Q (.ref a) H2) (fun _ _ _ => False)
variable {e : Expr} {es : List Expr} {ta : TA} {p pos : Pos}
theorem pe_mkV {CX : CXT} {x : Str} {C fI : Addr} {k : Nat} {fd : FuncData} {ps : List Str} {sp : Sp} (T : OexC X.K C)
    (iC : PySem.W.findIn X.K (.ref C) "__init__" = some (some (.ref fI))) (tI : PySem.W.typeIn X.K (.ref fI) = some (.type "function"))
    (F1 : FnOk X.prog X.w X.K X.mg X.base CX k fI fd ps sp) (hr : Room (k + 1) X.A) (hb : Binds X.K fd ps []) (hx : Passes CX X (fun _ _ _ => False))
    (hg : Gl X x) (hm : X.mg x = some (.ref C)) (ha : PA X (e :: es) ta) (hdb : (x == ("__debug__" : Str)) = false := by decide)
    (he : starEach (e :: es) X.env = (false, eval e X.env) :: starEach es X.env := by rfl) (hpl : (backTo pos (starEach es X.env)).any (·.1) = false := by rfl) :
    PE X (.Call (.Name x p) (e :: es) [] pos) (tMkV C sp ta) := by
  constructor
  intro pins s σ H Q I h
  obtain ⟨nm, q, N, bs, bm, sn, sub, ab, col, dd, k0, k1, k2, k3, k5, hC, hbm⟩ := T.cls
  refine wpAny_Call_Name_kw (ld_glob I hg hm ?_ hdb)
  refine PySem.W.callWith_K (h₀ := X.base) I.ok.mod.kin T.kC (thn (ha.run pos pins s σ H _ I h) ?_) he hpl
  rintro us s1 ⟨vs, H1, I1, r1, hz, q1⟩
  refine ⟨I1.kIn, ?_⟩
  show wpAny _ _ (call (.ref C) us) _ _ _
  obtain ⟨hp, g, dr, tk, os⟩ := s1
  have big : hp.objs.size ≤ hp.objs.size + 1 := Nat.le_succ _
  have hq := q1 (hp.objs.size + 1) (I1.hok.fresh big)
  have kk : ∀ b o, hp.get? b = some o → ((hp.push (PySem.W.kdv_tup us)).push (PySem.HandSPX.excO C hp.objs.size)).get? b = some o :=
    fun b o e => Heap.get?_push_of_some _ (Heap.get?_push_of_some _ e)
  have here : ((hp.push (PySem.W.kdv_tup us)).push (PySem.HandSPX.excO C hp.objs.size)).get? (hp.objs.size + 1) = some (PySem.HandSPX.excO C hp.objs.size) := by heap_get
  have I2 := I1.laid (t' := tk) (a := hp.objs.size + 1) (o := exo (hp.objs.size + 1) C none) kk big (L2.exo_ok here)
  have r2 : Vals (V.ref (hp.objs.size + 1) :: vs) (Value.ref (hp.objs.size + 1) :: us) := .cons rfl r1
  have ll : (Value.ref (hp.objs.size + 1) :: us).length = ps.length := r2.length.symm.trans (F1.len _ _ _ _ hq)
  have hus : us.length ≤ sizeLine := by
    rw [← Paired.length r1, sizeLine_eq]
    omega
  have hbb := hb _ (Value.ref (hp.objs.size + 1) :: us) I2.kIn (by rw [List.append_nil]; exact ll)
  rw [List.append_nil] at hbb
  refine wpAny_call (PySem.HandSPX.call_own F.excBase_ValueError (fun Y => PySem.HandSPX.refsVE_contains Y bm hbm) (I1.kIn _ _ hC)
    (PySem.W.looks_findIn I1.kIn iC) (fun self => PySem.W.bind_fn I1.kIn self tI) hus ?_)
  refine codeAny_mono (F1.run _ X.stack _ _ ⟨Value.ref (hp.objs.size + 1) :: us, []⟩ _ _ _ (fun _ _ _ => False) (hr.make C us []) (I2.env0.make C us []) hbb r2 hq) ?_
  intro r s' hq'
  cases r with
  | error er => exact hx pins σ _ _ er s' I2 hq'
  | ok fl =>
    cases fl with
    | next => exact (show False from hq').elim
    | brk => exact (show False from hq').elim
    | cont => exact (show False from hq').elim
    | ret u =>
      obtain ⟨v, H2, os2, bare2, un2, hok2, rv, ev, q2⟩ := hq'
      subst ev
      obtain ⟨h2, g2, d2, t2, os'⟩ := s'
      obtain rfl : os' = os := os2
      exact ⟨rv, .ref (hp.objs.size + 1), H2, I2.call (h' := h2) (g' := g2) (d' := d2) (t' := t2) (ch := []) un2 hok2 bare2 (fun b z => absurd z (by simp)), rfl, q2⟩
end
end Lk
namespace Lk
open PySem PySem.Spec PySem.Calls PyProof.Rows L2 G
/-- what the class D is to each of the classes -/
def RowK (K : PySem.W.Frag) (D : Addr) : List Addr → List Bool → Prop
  | c :: cs, b :: bs => PySem.W.kitOne K (.ref D) (.ref c) = some b ∧ RowK K D cs bs
  | _, _ => True
theorem refs_one {a : Addr} : PySem.HandSPX.refsVE [.ref a, .type "ValueError", .type "Exception", .type "BaseException", .type "object"] = true := by
  show PySem.HandSPX.refsVE [.type "ValueError", .type "Exception", .type "BaseException", .type "object"] = true
  decide +kernel
def veRest : List Value := [.type "ValueError", .type "Exception", .type "BaseException", .type "object"]
/-- all but a stands -/
def But (a : Addr) (H H' : Hp) : Prop := ∀ b o, b ≠ a → H b = some o → H' b = some o
theorem But.same {a : Addr} {H H' : Hp} {o : HO} (n : H a = none) (h : But a (upd H a o) H') : Same H H' := fun b u e =>
  h b u (ne_of_none e n) ((upd_ne (ne_of_none e n)).trans e)
/-- __init__ of an error with one field -/
def spInit1 (K : PySem.W.Frag) (C : Addr) (f : Str) : Sp := fun vs H Q _ => ∃ (a : Addr) (v : V), vs = [.ref a, v] ∧ H a = some (exo a C none) ∧
  ∀ (H' : Hp) (d : Addr), But a H H' → H' a = some (exo a C (some d)) → H' d = some (exd d [(f, v)]) → Q .non H'
def spInit2 (K : PySem.W.Frag) (C : Addr) (f g : Str) : Sp := fun vs H Q _ => ∃ (a : Addr) (v u : V), vs = [.ref a, v, u] ∧ H a = some (exo a C none) ∧
  ∀ (H' : Hp) (d : Addr), But a H H' → H' a = some (exo a C (some d)) → H' d = some (exd d [(g, u), (f, v)]) → Q .non H'
/-- __init__ of NoOutcome with a list: a copy of it is kept -/
def spInitL (K : PySem.W.Frag) (C : Addr) (f g : Str) : Sp := fun vs H Q _ => ∃ (a l : Addr) (v : V) (xs : List V), vs = [.ref a, v, .ref l] ∧ H a = some (exo a C none) ∧ SqL K H l xs ∧
  ∀ (H' : Hp) (d n : Addr), But a H H' → H' a = some (exo a C (some d)) → H' d = some (exd d [(g, .ref n), (f, v)]) → H' n = some (.lst xs) → H n = none → Q .non H'
end Lk
namespace Lk
open PySem L2
theorem exo_ne_lst {e C : Addr} {d : Option Addr} {xs : List V} : exo e C d ≠ .lst xs := fun z => by
  have z' : HO.ext _ = HO.lst xs := z
  cases z'
theorem exo_ne_tup {e C : Addr} {d : Option Addr} {xs : List V} : exo e C d ≠ .tup xs := exo_tup
end Lk
namespace Lk
open PySem L2
theorem bools_dp {K : PySem.W.Frag} {H : Hp} : ∀ bs : List Bool, DpAll K H (bs.map V.bl) (bs.map PyData.bool)
  | [] => .nil
  | b :: bs => .cons (.bl b) (bools_dp bs)
theorem bools_lay : ∀ l : List Bool, PyData.canLayAll0 (l.map PyData.bool) = true
  | [] => rfl
  | b :: r => by
    rw [List.map_cons]
    unfold PyData.canLayAll0
    rw [bools_lay r, Bool.and_true]
    rfl
theorem bools_depth : ∀ l : List Bool, PyData.depthAll (l.map PyData.bool) = 0
  | [] => rfl
  | b :: r => by
    rw [List.map_cons]
    unfold PyData.depthAll
    rw [bools_depth r]
    rfl
theorem bools_shaped (l : List Bool) : SeqAt.shaped (.list (l.map PyData.bool)) = true := by
  unfold SeqAt.shaped
  rw [Bool.and_eq_true]
  constructor
  · unfold PyData.canLay0
    exact bools_lay l
  · unfold PyData.depth
    rw [bools_depth]
    exact rfl
theorem ne_refl {d : PyData} (h : SeqAt.shaped d = true) : (!PyData.eqv d d) = false := by
  rw [SeqAt.eqv_refl d (SeqAt.canLay_of_shaped h)]
  rfl
theorem if_false {c : Bool} {A B : Prop} (hc : c = false) (h : B) : if c = true then A else B := by
  rw [hc]
  exact iteF h
theorem if_true {c : Bool} {A B : Prop} (hc : c = true) (h : A) : if c = true then A else B := by
  rw [hc]
  exact iteT h
end Lk
namespace Lk
open PySem PySem.Spec PyProof.Rows L2 G
/-- small texts of usual signs -/
def SmallS (z : Str) : Prop := 0 < z.length ∧ z.length ≤ 10 ∧ ∀ c ∈ z.cps.toList, c < 1000
theorem cat_codes (a b : Str) : (a ++ b).cps.toList = a.cps.toList ++ b.cps.toList := by
  show (a.cps ++ b.cps).toList = _
  rw [Array.toList_append]
theorem cat_len (a b : Str) : (a ++ b).length = a.length + b.length := by
  show (a.cps ++ b.cps).size = _
  rw [Array.size_append]
  rfl
theorem cutS_all (z : Str) (b : Nat) : cutS z none (some (b : Int)) = tx (z.cps.toList.take b) := by
  unfold cutS
  rw [HT.sIx_nat, HT.sIx_none, List.drop_zero, Nat.sub_zero]
  have e : z.cps.toList.length = z.length := by simp [Str.length]
  by_cases h : b ≤ z.length
  · rw [Nat.min_eq_left h]
  · rw [Nat.min_eq_right (by omega), List.take_of_length_le (by omega), List.take_of_length_le (by omega)]
theorem tx_len (l : List Nat) : (tx l).length = l.length := by simp [Str.length]
theorem tx_codes (l : List Nat) : (tx l).cps.toList = l := by simp
theorem lcp_comm : ∀ a b : List Nat, lcp a b = lcp b a
  | [], [] => rfl
  | [], b :: bs => by simp [lcp]
  | a :: as, [] => by simp [lcp]
  | a :: as, b :: bs => by
    unfold lcp
    by_cases h : a = b
    · rw [if_pos h, if_pos h.symm, lcp_comm as bs, h]
    · rw [if_neg h, if_neg fun z => h z.symm]
/-- data that repr shows: small leaves, not too much of it -/
structure Shows (d : PyData) : Prop where
  leaves : d.leavesShort 13 = true
  weight : d.weight ≤ 1048576
  shape : d.showable = true
  dict : d.hasDict = true → hasList d = false
  depth : d.depth ≤ 60
theorem Shows.ok {d : PyData} (h : Shows d) : ReprOk d :=
  ⟨h.shape, h.dict, h.depth, PyData.shown_fits (by decide) (by decide) h.leaves h.weight⟩
theorem shows_str {z : Str} (h1 : z.length ≤ 100000) (h2 : ∀ c ∈ z.cps.toList, c < 1000) : Shows (.str z) where
  leaves := by
    unfold PyData.leavesShort
    rw [List.all_eq_true]
    intro c hc
    exact decide_eq_true (Nat.lt_trans (h2 c hc) (by decide))
  weight := by
    unfold PyData.weight
    exact Nat.le_trans h1 (by decide)
  shape := by unfold PyData.showable; rfl
  dict := fun h => by
    unfold PyData.hasDict at h
    cases h
  depth := by unfold PyData.depth; exact Nat.zero_le _
theorem shows_bool (b : Bool) : Shows (.bool b) where
  leaves := by unfold PyData.leavesShort; rfl
  weight := by unfold PyData.weight; exact Nat.zero_le _
  shape := by unfold PyData.showable; rfl
  dict := fun h => by
    unfold PyData.hasDict at h
    cases h
  depth := by unfold PyData.depth; exact Nat.zero_le _
theorem shows_none : Shows .none where
  leaves := by unfold PyData.leavesShort; rfl
  weight := by unfold PyData.weight; exact Nat.zero_le _
  shape := by unfold PyData.showable; rfl
  dict := fun h => by
    unfold PyData.hasDict at h
    cases h
  depth := by unfold PyData.depth; exact Nat.zero_le _
theorem shows_zero : Shows (.int 0) where
  leaves := by unfold PyData.leavesShort; decide +kernel
  weight := by unfold PyData.weight; decide
  shape := by unfold PyData.showable; decide
  dict := fun h => by
    unfold PyData.hasDict at h
    cases h
  depth := by unfold PyData.depth; exact Nat.zero_le _
theorem shows_emp : Shows (.dict []) where
  leaves := by unfold PyData.leavesShort PyData.leavesShortKv; rfl
  weight := by unfold PyData.weight PyData.weightKv; exact Nat.zero_le _
  shape := by unfold PyData.showable PyData.showableKv; rfl
  dict := fun _ => by unfold hasList; rfl
  depth := by unfold PyData.depth PyData.depthKv; decide
theorem shows_tup1 {z : Str} (h1 : z.length ≤ 100000) (h2 : ∀ c ∈ z.cps.toList, c < 1000) : Shows (.tuple [.str z]) where
  leaves := by
    have h := (shows_str h1 h2).leaves
    simp only [PyData.leavesShort, PyData.leavesShortAll, Bool.and_true] at h ⊢
    exact h
  weight := by
    have h := (shows_str h1 h2).weight
    simp only [PyData.weight, PyData.weightAll] at h ⊢
    have : z.cps.size ≤ 100000 := h1
    omega
  shape := by simp [PyData.showable, PyData.showableAll]
  dict := fun h => by simp [PyData.hasDict, PyData.hasDictAll] at h
  depth := by simp [PyData.depth, PyData.depthAll]
theorem shows_lst1 {z : Str} (h1 : z.length ≤ 100000) (h2 : ∀ c ∈ z.cps.toList, c < 1000) : Shows (.list [.str z]) where
  leaves := by
    have h := (shows_str h1 h2).leaves
    simp only [PyData.leavesShort, PyData.leavesShortAll, Bool.and_true] at h ⊢
    exact h
  weight := by
    have h := (shows_str h1 h2).weight
    simp only [PyData.weight, PyData.weightAll] at h ⊢
    have : z.cps.size ≤ 100000 := h1
    omega
  shape := by simp [PyData.showable, PyData.showableAll]
  dict := fun h => by simp [PyData.hasDict, PyData.hasDictAll] at h
  depth := by simp [PyData.depth, PyData.depthAll]
theorem rep_mem {z : Str} {n c : Nat} (h : c ∈ (repS z n).cps.toList) : c ∈ z.cps.toList := by
  rw [repS_codes] at h
  obtain ⟨l, hl, hc⟩ := List.mem_flatten.mp h
  rw [(List.mem_replicate.mp hl).2] at hc
  exact hc
/-- the ones for the signs that are not among s -/
def strange (s : Str) (l : List Nat) : List Nat := l.filter fun c => !s.cps.toList.contains c
theorem strange_nil (s z : Str) : strange s z.cps.toList = [] ↔ allIn s z = true := by
  unfold strange allIn
  rw [List.filter_eq_nil_iff, List.all_eq_true]
  simp
theorem eqv_nil_ints (ns : List Int) : PyData.eqv (.list (ns.map PyData.int)) (.list []) = decide (ns = []) := by
  cases ns with
  | nil => simp [PyData.eqv, PyData.eqvAll]
  | cons n r => simp [PyData.eqv, PyData.eqvAll]
end Lk
namespace Lk
open PySem PySem.Spec PyProof.Rows L2 G
theorem and_str {d : PyData} {z : Str} {t : TE} {σ : L2.St} {Q : VK} {H : Hp} (h : ∀ y, d = .str y → ∀ Q' : VK, (∀ H', Same H H' → Q' (.bl (allIn z y)) H') → t σ H Q')
    (k : ∀ H', Same H H' → Q (.bl (isWord z d)) H') : if isStr d = true then t σ H Q else Q (.bl false) H := by
  cases d with
  | str y => exact iteT (h y rfl Q k)
  | none => exact iteF (k _ (Same.refl _))
  | bool _ => exact iteF (k _ (Same.refl _))
  | int _ => exact iteF (k _ (Same.refl _))
  | list _ => exact iteF (k _ (Same.refl _))
  | tuple _ => exact iteF (k _ (Same.refl _))
  | dict _ => exact iteF (k _ (Same.refl _))
theorem ne_same {x : V} : (!decide (x = x)) = false := by simp
end Lk
namespace Lk
open PySem L2
theorem strange_in {s : Str} {c : Nat} (l : List Nat) (h : c ∈ s.cps.toList) : strange s (l ++ [c]) = strange s l := by
  unfold strange
  rw [List.filter_append]
  have e : s.cps.toList.contains c = true := List.contains_iff_mem.mpr h
  rw [List.filter_cons_of_neg (by rw [e]; decide), List.filter_nil, List.append_nil]
theorem strange_out {s : Str} {c : Nat} (l : List Nat) (h : ¬ c ∈ s.cps.toList) : strange s (l ++ [c]) = strange s l ++ [c] := by
  unfold strange
  rw [List.filter_append]
  have e : s.cps.toList.contains c = false := by
    rw [Bool.eq_false_iff]
    exact fun z => h (List.contains_iff_mem.mp z)
  rw [List.filter_cons_of_pos (by rw [e]; decide), List.filter_nil]
end Lk

/-! set(text) and sorted of it. -/
namespace Ls
open PySem PySem.Spec PyProof.Rows L2 Lk

def one (c : Nat) : Str := ⟨#[c]⟩
def keyT (e : Int × Value) : Str := match e.2 with | .str k _ => k | _ => one 0
def GoodT (w : World) (e : Int × Value) : Prop := ∃ k tk, e.2 = Value.str k tk ∧ e.1 = hashStr w k
/-- at a a set that holds just the texts of l -/
def SetT (w : World) (h : Heap) (a : Addr) (l : List Str) : Prop :=
  ∃ o es ep t, h.get? a = some o ∧ o.ExactSet ∧ o.data = .set es ep t ∧ (∀ e ∈ es.toList, GoodT w e) ∧ (es.toList.map keyT).Nodup ∧
    (∀ k, k ∈ l ↔ k ∈ es.toList.map keyT) ∧ es.size < scanBound ∧ t.fits es.size = true ∧ es.size ≤ l.length ∧ Ris t.place.toList ∧
    (w.params.followText "set-order" = true ∨ t.led = true)
section
variable {P : Program} {w : World} {h h' : Heap} {a : Addr} {l : List Str}
theorem SetT.at_ (R : SetT w h a l) (k : ∀ o, h.get? a = some o → h'.get? a = some o) : SetT w h' a l := by
  obtain ⟨o, es, ep, t, eo, r⟩ := R
  exact ⟨o, es, ep, t, k o eo, r⟩
theorem str_is (k : Str) (u : Tok) : (PySem.strKind P w).is k (.str k u) = true := by
  show Value.isStrOf k (.str k u) = true
  unfold Value.isStrOf
  exact beq_self_eq_true k
theorem good_elemsT {l : List (Int × Value)} (g : ∀ e ∈ l, GoodT w e) : ElemsOf (PySem.strKind P w) l := fun e he => by
  obtain ⟨k, tk, q1, q2⟩ := g e he
  refine ⟨⟨k, ?_, q2⟩, ?_⟩
  · rw [q1]
    exact str_is k tk
  · rw [q1] <;> rfl
theorem good_isT {e : Int × Value} (g : GoodT w e) (k : Str) : (PySem.strKind P w).is k e.2 = true ↔ keyT e = k := by
  obtain ⟨k0, tk, q1, _⟩ := g
  unfold keyT
  rw [q1]
  show (Value.isStrOf k (.str k0 tk) = true) ↔ k0 = k
  unfold Value.isStrOf
  exact beq_iff_eq
theorem good_memT {l : List (Int × Value)} (g : ∀ e ∈ l, GoodT w e) (k : Str) : k ∈ l.map keyT ↔ ∃ e ∈ l, (PySem.strKind P w).is k e.2 = true := by
  rw [List.mem_map]
  constructor
  · rintro ⟨e, he, q⟩
    exact ⟨e, he, (good_isT (g e he) k).2 q⟩
  · rintro ⟨e, he, q⟩
    exact ⟨e, he, (good_isT (g e he) k).1 q⟩
end

section
variable {P : Program} {w : World} {A : Around} {E : Value → Shared → Prop} {s : Shared} {a : Addr} {l : List Str}
theorem addT_tail {g : Bool → Sem Unit} (hg : ∀ (b : Bool) (s₁ : Shared) (Q' : Unit → Shared → Prop), Q' () s₁ → wpAny (model P w) A (g b) Q' E s₁)
    {o : Obj} {es : Array (Int × Value)} {ep : Nat} {t : SetTable} (eo : s.heap.get? a = some o) (ex : o.ExactSet) (ed : o.data = .set es ep t)
    {fs : Array (Int × Value)} {u : SetTable} {l' : List Str} (g1 : ∀ e ∈ fs.toList, GoodT w e) (nd1 : (fs.toList.map keyT).Nodup) (m1 : ∀ k, k ∈ l' ↔ k ∈ fs.toList.map keyT)
    (b1 : fs.size < scanBound) (f1 : u.fits fs.size = true) (z1 : fs.size ≤ l'.length) (r1 : Ris u.place.toList) (o1 : w.params.followText "set-order" = true ∨ u.led = true)
    {dummy : Bool} {R : Option Bool → Shared → Prop} (hR : ∀ h', Heap.SameBut a s.heap h' → SetT w h' a l' → R (some true) { s with heap := h' }) :
    wpAny (model P w) A (do
        storeSet a fs u
        if (!dummy && u.tooFull) = true then do
            g (relayAll u fs (SetTable.grown fs.size)).2.2
            storeSet a (relayAll u fs (SetTable.grown fs.size)).1 (relayAll u fs (SetTable.grown fs.size)).2.1
            pure (some true)
          else pure (some true)) R E s := by
  refine wpAny_bind (wpAny_storeSet_of eo ed ?_ (fits_of_scanBound b1))
  have eo1 := store_at (es' := fs) (t' := u) eo ed
  have sb := Heap.SameBut.update s.heap a (Obj.putSet fs u)
  split
  · have pm := relayAll_perm u fs (SetTable.grown fs.size)
    have ff := relayAll_fits u fs (SetTable.grown fs.size)
    have rr := relayAll_ris u fs (SetTable.grown fs.size)
    have le := relayAll_led u fs (SetTable.grown fs.size)
    generalize relayAll u fs (SetTable.grown fs.size) = Z at pm ff rr le ⊢
    obtain ⟨gs, v, gave⟩ := Z
    dsimp only at pm ff rr le ⊢
    have sz : gs.size = fs.size := by
      rw [← Array.length_toList, pm.length_eq, Array.length_toList]
    have b2 : gs.size < scanBound := sz ▸ b1
    refine wpAny_bind (hg _ _ _ ?_)
    refine wpAny_bind (wpAny_storeSet_of eo1 rfl ?_ (fits_of_scanBound b2))
    have eo2 := store_at (es' := gs) (t' := v) eo1 rfl
    refine wpAny_pure (hR _ (sb.trans (Heap.SameBut.update _ a _)) ⟨_, gs, _, v, eo2, ex, rfl, fun e he => g1 e (pm.mem_iff.mp he), ?_, fun k => ?_, b2, ff, sz ▸ z1, rr, ?_⟩)
    · exact (pm.map keyT).nodup_iff.mpr nd1
    · exact (m1 k).trans (pm.map keyT).mem_iff.symm
    · exact o1.imp id fun z => le.trans z
  · exact wpAny_pure (hR _ sb ⟨_, fs, _, u, eo1, ex, rfl, g1, nd1, m1, b1, f1, z1, r1, o1⟩)

theorem addT_hashed {k : Str} {tk : Tok} {Q : Bool → Shared → Prop} (R : SetT w s.heap a l) (room : l.length + 1 < scanBound)
    (hQ : ∀ b h', Heap.SameBut a s.heap h' → SetT w h' a (l ++ [k]) → Q b { s with heap := h' }) :
    wpAny (model P w) A (setAddHashed a (.str k tk) ((PySem.strKind P w).hash k)) Q E s := by
  obtain ⟨o, es, ep, t, eo, ex, ed, g, nd, em, eb, ef, en, er, el⟩ := R
  have isk : (PySem.strKind P w).is k (.str k tk) = true := str_is k tk
  have scn : (Value.str k tk).scannable = true := rfl
  have els : ElemsOf (PySem.strKind P w) es.toList := good_elemsT g
  unfold setAddHashed
  unfold setAddHashedIn
  refine wpAny_holding (wpAny_bind (wpAny_setState_of eo ed ef ?_))
  dsimp only
  rw [byScan_of scn eb els]
  simp only [↓reduceIte]
  unfold setAddByScan
  refine wpAny_bind (wpAny_bind (wpAny_rule (wpAny_bind (wpAny_setScan_of isk eo ed ef els ?_))))
  cases fi : List.findIdx? (fun e => (PySem.strKind P w).is k e.2) es.toList with
  | some j =>
    dsimp only
    obtain ⟨hj, pj, _⟩ := List.findIdx?_eq_some_iff_getElem.mp fi
    have kin : k ∈ l := (em k).2 ((good_memT (P := P) (w := w) g k).2 ⟨es.toList[j], List.getElem_mem hj, pj⟩)
    refine wpAny_pure (wpAny_pure (hQ _ s.heap (Heap.SameBut.refl a s.heap) ⟨o, es, ep, t, eo, ex, ed, g, nd, fun i => ?_, eb, ef, ?_, er, el⟩))
    · rw [← em i, List.mem_append, List.mem_singleton]
      exact ⟨fun z => z.elim id fun e => e ▸ kin, .inl⟩
    · rw [List.length_append]
      exact Nat.le_trans en (Nat.le_add_right _ _)
  | none =>
    dsimp only
    have kout : k ∉ es.toList.map keyT := fun z => by
      obtain ⟨e, he, q⟩ := (good_memT (P := P) (w := w) g k).1 z
      have c := List.findIdx?_eq_none_iff.mp fi e he
      rw [q] at c
      cases c
    have gw : ∀ (b : Bool) {s₁ : Shared} {Q' : Unit → Shared → Prop}, Q' () s₁ → wpAny (model P w) A (match b with | true => rule "set.scan.the-table-gave-way" | false => pure ()) Q' E s₁ := by
      intro b s₁ Q' q
      cases b
      · exact wpAny_pure q
      · exact wpAny_rule q
    have pm := layNew_perm t es ((PySem.strKind P w).hash k) (.str k tk)
    have f1 := layNew_fits t es ((PySem.strKind P w).hash k) (.str k tk)
    have r1 := layNew_ris t es ((PySem.strKind P w).hash k) (.str k tk) er
    have l1 := layNew_led t es ((PySem.strKind P w).hash k) (.str k tk)
    generalize layNew t es ((PySem.strKind P w).hash k) (.str k tk) = Z at pm f1 r1 l1 ⊢
    obtain ⟨fs, u, dummy, gave⟩ := Z
    dsimp only at pm f1 r1 l1 ⊢
    rw [Array.toList_push] at pm
    have pc : fs.toList.Perm (((PySem.strKind P w).hash k, Value.str k tk) :: es.toList) := pm.trans (List.perm_append_singleton _ _)
    have pk : (fs.toList.map keyT).Perm (k :: es.toList.map keyT) := pc.map keyT
    have g1 : ∀ e ∈ fs.toList, GoodT w e := fun e he => by
      rcases List.mem_cons.mp (pc.mem_iff.mp he) with z | z
      · rw [z]
        exact ⟨k, tk, rfl, rfl⟩
      · exact g e z
    have n1 : (fs.toList.map keyT).Nodup := pk.nodup_iff.mpr (List.nodup_cons.mpr ⟨kout, nd⟩)
    have m1 : ∀ i, i ∈ l ++ [k] ↔ i ∈ fs.toList.map keyT := fun i => by
      rw [List.mem_append, List.mem_singleton, em i, pk.mem_iff, List.mem_cons]
      exact Or.comm
    have sz : fs.size = es.size + 1 := by
      rw [← Array.length_toList, pc.length_eq, List.length_cons, Array.length_toList]
    have z1 : fs.size ≤ (l ++ [k]).length := by
      rw [sz, List.length_append]
      exact Nat.succ_le_succ en
    have b1 : fs.size < scanBound := by omega
    have o1 : w.params.followText "set-order" = true ∨ u.led = true := el.imp id fun z => l1.trans z
    have gg : ∀ (b : Bool) (s₁ : Shared) (Q' : Unit → Shared → Prop), Q' () s₁ → wpAny (model P w) A (match b with | true => rule "set.scan.the-table-gave-way" | false => pure ()) Q' E s₁ := fun b s₁ Q' q => gw b q
    refine wpAny_bind (gw _ ?_)
    split
    · refine wpAny_bind ?_
      rw [hashByValue_scannable 8 scn]
      refine wpAny_pure (addT_tail ?_ eo ex ed g1 n1 m1 b1 ?_ z1 ?_ ?_ ?_)
      · intro b s₁ Q' q
        cases b <;> first | exact wpAny_pure q | exact wpAny_rule q
      · first | (split <;> first | exact f1 | exact SetTable.fits_plain_off f1) | exact f1
      · first | (split <;> exact r1) | exact r1
      · first | (split <;> exact o1) | exact o1
      · intro h' sb r
        dsimp only
        exact wpAny_pure (hQ _ h' sb r)
    · refine wpAny_bind (wpAny_pure ?_)
      simp only [↓reduceIte]
      refine addT_tail ?_ eo ex ed g1 n1 m1 b1 f1 z1 r1 o1 ?_
      · intro b s₁ Q' q
        cases b <;> first | exact wpAny_pure q | exact wpAny_rule q
      · intro h' sb r
        dsimp only
        exact wpAny_pure (hQ _ h' sb r)

theorem freshT {h : Heap} (w : World) : SetT w (h.push { cls := .type "set", dict := none, data := .set #[] 0 (.fresh 0 0 (!w.params.followText "set-order")) }) h.objs.size [] := by
  refine ⟨_, #[], 0, _, Heap.get?_push_size _ rfl, ⟨rfl, rfl, rfl⟩, rfl, ?_, ?_, ?_, by decide, rfl, Nat.le_refl _, List.Pairwise.nil, ?_⟩
  · intro e he
    simp at he
  · simp
  · intro k
    simp
  · show _ ∨ (!w.params.followText "set-order") = true
    cases w.params.followText "set-order"
    · exact .inr rfl
    · exact .inl rfl

theorem newT (v : Value) {Q₁ : Value → Shared → Prop}
    (q : Q₁ (.ref s.heap.objs.size) { s with heap := s.heap.push { cls := .type "set", dict := none, data := .set #[] 0 (.fresh 0 0 (!w.params.followText "set-order")) } }) :
    codeAny (model P w) A (.call (.builtin "set.__new__") ⟨[.type "set", v], []⟩) (wants Q₁ E) s := by
  refine codeAny_of_tree ?_
  show wpAny _ A.in1 (do checkBuiltinCall "set.__new__" ⟨[.type "set", v], []⟩; again (.builtin "set.__new__" ⟨[.type "set", v], []⟩)) _ _ s
  refine wpAny_bind (wpAny_of_eq (PySem.F.newCall_set_1 v) (wpAny_pure ⟨plainId_quiet PySem.F.plain_set_new _, codeAny_builtin PySem.F.entry_set_new ?_⟩))
  rw [Around.under_plainId PySem.F.plain_set_new _]
  unfold Builtin.«set.__new__»
  unfold Builtin.Frozenset.newClass
  have selfsub := sub_set_self
  obtain ⟨hp, g, d, tk, os⟩ := s
  dsimp only
  wp_walk
  refine wpAny_askSetting (wpAny_pure ?_)
  dsimp only
  simp only [newObj]
  exact wpAny_bind (wpAny_alloc (wpAny_pure (wpAny_pure q)))
end
end Ls

/-! set(text), sorted of it: the loop, the calls, the rules. -/
namespace Ls
open PySem PySem.Spec PyProof.Rows L2 Lk

section
variable {P : Program} {w : World} {A : Around} {R : Result → Shared → Prop} {I : Addr} {fp wr : List Addr} {G : Array GenState → Array GenState → Prop} {n : Nat} {St : Nat → Shared → Prop}
def signsT (x : Str) : List Str := x.cps.toList.map one
theorem loopT {x : Str} (W : WalksS P w A.in1 I fp wr G n (SignAt x) St) (S : Addr) (hSf : S ∉ fp) (hsz : x.cps.size = n) (hb : n + 1 < scanBound) :
    ∀ (k i : Nat) (s : Shared), n - i = k → i ≤ n → St i s → SetT w s.heap S ((signsT x).take i) →
      (∀ s', Moved (S :: wr) G s s' → SetT w s'.heap S (signsT x) → R (.ok (.ret .none)) s') →
      codeAny (model P w) A (.builtin "set.update.loop" ⟨[.ref S, .ref I], []⟩) R s := by
  have hSw : S ∉ wr := fun h => hSf (W.sub _ h)
  have hsub : ∀ b ∈ wr, b ∈ S :: wr := fun b hb => List.mem_cons_of_mem _ hb
  have hlen : (signsT x).length = n := by
    unfold signsT
    rw [List.length_map, Array.length_toList, hsz]
  intro k
  induction k with
  | zero =>
    intro i s hk hi hst hS hR
    have hin : i = n := by omega
    subst hin
    refine codeAny_builtin F.entry_set_update_loop ?_
    rw [Around.under_plainId F.plain_set_update_loop _]
    show wpAny _ A.in1 (pyNext (.ref I) >>= _) _ _ s
    refine wpAny_bind (W.done s _ _ hst fun s' hm => ?_)
    show wpAny _ A.in1 (ret Value.none) _ _ s'
    refine wpAny_pure (hR s' (hm.mono hsub) ?_)
    rw [List.take_of_length_le (Nat.le_of_eq hlen)] at hS
    exact hS.at_ fun o e => hm.heap S o hSw e
  | succ k ih =>
    intro i s hk hi hst hS hR
    have hlt : i < n := by omega
    refine codeAny_builtin F.entry_set_update_loop ?_
    rw [Around.under_plainId F.plain_set_update_loop _]
    show wpAny _ A.in1 (pyNext (.ref I) >>= _) _ _ s
    refine wpAny_bind (W.item i s _ _ hlt hst fun v s' hP hst' hm => ?_)
    obtain ⟨c, t, ec, ev⟩ := hP
    subst ev
    have hS' : SetT w s'.heap S ((signsT x).take i) := hS.at_ fun o e => hm.heap S o hSw e
    show wpAny _ A.in1 (holding [Value.str (one c) t] (setAdd S (.str (one c) t)) >>= _) _ _ s'
    refine wpAny_bind (wpAny_holding ?_)
    unfold setAdd
    refine wpAny_holding ?_
    refine wpAny_bind ((PySem.strKind P w).pyHash (k := one c) (str_is _ _) ?_)
    have room : ((signsT x).take i).length + 1 < scanBound := by
      rw [List.length_take]
      omega
    have et : (signsT x).take i ++ [one c] = (signsT x).take (i + 1) := by
      rw [List.take_succ]
      unfold signsT
      rw [List.getElem?_map, Array.getElem?_toList, ec]
      rfl
    refine addT_hashed (s := { s' with toks := s'.toks + 1 }) hS' room fun b h' sb hS2 => ?_
    rw [et] at hS2
    refine wpAny_pure ⟨plainId_quiet F.plain_set_update_loop _, ih (i + 1) _ (by omega) hlt (W.frame _ s' _ _ hst' (Nat.le_succ _) fun b hb o e => ?_) hS2 fun s'' hm'' hS'' => ?_⟩
    · rw [sb.2 b (fun h : b = S => hSf (by rw [← h]; exact hb))]
      exact e
    · refine hR s'' (Moved.trans W.gtrans ((hm.mono hsub).then_heap (Nat.le_succ _) fun b o hb e => ?_) hm'') hS''
      rw [sb.2 b (fun h : b = S => hb (by rw [h]; exact List.mem_cons_self))]
      exact e
end

section
variable {P : Program} {w : World} {A : Around} {E : Value → Shared → Prop} {s : Shared}
theorem sub_str_set : isSubtype (.type "str") (.type "set") = pure false := by rw [isSubtype_type]; kernel_rfl
theorem sub_str_frozenset : isSubtype (.type "str") (.type "frozenset") = pure false := by rw [isSubtype_type]; kernel_rfl

theorem call_setT {x : Str} {t0 : Tok} {Q : Value → Shared → Prop} (hh : A.handled = none) (hb : x.cps.size + 1 < scanBound)
    (h : ∀ (h' : Heap) (tk : Nat), SetT w h' s.heap.objs.size (signsT x) → (∀ b o, b < s.heap.objs.size → s.heap.get? b = some o → h'.get? b = some o) →
      Q (.ref s.heap.objs.size) { s with heap := h', toks := tk }) :
    wpAny (model P w) A (call (.type "set") [.str x t0]) Q E s := by
  obtain ⟨c, tl, hmro⟩ := F.called_set.mro
  have hmade := F.called_set.made
  have hsub := F.called_set.sub
  refine wpAny_call (codeAny_of_tree ?_)
  show wpAny _ _ (callAny (.type "set") _) _ _ _
  refine wpAny_pure ⟨Code.quiet_builtin _ (by decide +kernel), codeAny_builtin F.entry_type_call ?_⟩
  rw [Around.under_plain (weight_type_call_type "set" [.str x t0] []) rfl]
  have h1 := F.called_set.notType
  have h2 := F.called_set.canCreate
  have hct := F.typeCall_set_1 (.str x t0)
  repeat (any_goals (first | assumption | wp_step))
  refine codeAny_mono (newT (.str x t0) (E := E) (Q₁ := fun obj s₁ => obj = .ref s.heap.objs.size ∧ s₁ = { s with heap := s.heap.push { cls := .type "set", dict := none, data := .set #[] 0 (.fresh 0 0 (!w.params.followText "set-order")) } }) ⟨rfl, rfl⟩) fun r s₁ hr => ?_
  cases r with
  | error e => exact hr
  | ok fl =>
    cases fl with
    | ret obj =>
      obtain ⟨rfl, rfl⟩ := hr
      have hF := freshT (h := s.heap) w
      generalize eo : ({ cls := .type "set", dict := none, data := .set #[] 0 (.fresh 0 0 (!w.params.followText "set-order")) } : Obj) = ob at hF ⊢
      have hcls : ob.cls = .type "set" := by
        rw [← eo]
      have hS : (s.heap.push ob).get? s.heap.objs.size = some ob := Heap.get?_push_size _ (by rw [← eo] <;> rfl)
      have hT : Shared.TypeIs { s with heap := s.heap.push ob } (.ref s.heap.objs.size) "set" := ⟨_, hS, hcls⟩
      have hli := F.called_set.init.lookup
      have hbi := F.called_set.init.bind (.ref s.heap.objs.size)
      have hS0 := hS
      rw [← eo] at hS hT hF ⊢
      repeat (any_goals (first | assumption | wp_step))
      refine codeAny_mono (codeAny_call_builtin (R := wants (fun r s₂ => r = .none ∧ ∃ h' tk, s₂ = { s with heap := h', toks := tk } ∧ SetT w h' s.heap.objs.size (signsT x) ∧
          (∀ b o, b < s.heap.objs.size → s.heap.get? b = some o → h'.get? b = some o)) E) F.called_set.init.plain F.entry_set_init (check_set_init_1 hT ?_)) fun r₂ s₂ hr₂ => ?_
      · have hsls := sub_str_set
        have hslf := sub_str_frozenset
        have hne : (Value.type "str" == Value.type "dict") = false := by decide
        unfold Builtin.«set.__init__» noKeywords Builtin.Frozenset.updateFrom
        generalize hPI : pyIter = PI
        wp_walk
        subst hPI
        refine wpAny_pyIter_str fun o St W hst => ?_
        refine wpAny_bind (wpAny_runValue ?_)
        have hh3 : A.in1.in1.in1.handled = none := by simp [hh]
        generalize eH : s.heap.push { cls := .type "set", dict := none, data := .set #[] 0 (.fresh 0 0 (!w.params.followText "set-order")) } = H1 at W hst hF ⊢
        have hH1 : H1.objs.size = s.heap.objs.size + 1 := by rw [← eH, Heap.size_push]
        have hSf : s.heap.objs.size ∉ [H1.objs.size] := fun hm => by
          rw [List.mem_singleton.mp hm] at hH1
          exact absurd hH1 (Nat.ne_of_lt (Nat.lt_succ_self _))
        refine loopT (W _ hh3).toS s.heap.objs.size hSf rfl hb (x.cps.size - 0) 0 _ (by omega) (Nat.zero_le _) hst ?hS0 ?hR
        case hS0 => exact hF.at_ fun u e => Heap.get?_push_of_some _ e
        case hR =>
          intro s' hm hS'
          obtain ⟨h', g', d', tk', os'⟩ := s'
          have eg : g' = s.gens := hm.gens
          have ed : d' = s.drawn := hm.drawn
          have eo : os' = s.os := hm.os
          subst eg; subst ed; subst eo
          show wpAny _ _ _ _ _ _
          refine wpAny_pure ?_
          show wpAny _ _ (ret Value.none) _ _ _
          refine wpAny_pure ⟨rfl, h', tk', rfl, hS', fun b o hb e => ?_⟩
          have hb1 : b ≠ s.heap.objs.size := Nat.ne_of_lt hb
          have hb2 : b ≠ H1.objs.size := by
            rw [hH1]
            exact Nat.ne_of_lt (Nat.lt_succ_of_lt hb)
          refine hm.heap b o (by simp only [List.mem_cons, List.mem_singleton, List.not_mem_nil, or_false, not_or]; exact ⟨hb1, hb2⟩) (Heap.get?_push_of_some _ ?_)
          rw [← eH]
          exact Heap.get?_push_of_some _ e
      · cases r₂ with
        | error e => exact hr₂
        | ok fl₂ =>
          cases fl₂ with
          | ret r =>
            obtain ⟨rfl, h', tk, rfl, hS', hk'⟩ := hr₂
            repeat (any_goals (first | assumption | wp_step))
            exact h _ _ hS' hk'
          | _ => exact hr₂.elim
    | _ => exact hr.elim
end
end Ls

namespace Ls
open PySem PySem.Spec PyProof.Rows L2 Lk

section
variable {P : Program} {w : World} {A : Around} {E : Value → Shared → Prop} {s : Shared} {a : Addr} {l : List Str}
theorem sorted_setT {Q : Value → Shared → Prop} (R : SetT w s.heap a l) (hh : A.handled = none) (h64 : l.length < 64)
    (hQ : ∀ s' p (out : Array Value) (c : Nat) (ns : List Str), (∀ b o, s.heap.get? b = some o → s'.heap.get? b = some o) → s'.gens = s.gens → s'.os = s.os → s.heap.objs.size ≤ p →
      s'.heap.get? p = some (seqObj "list" out c) → StrsAre out.toList ns → sortedS ns = true → ns.Nodup → (∀ k, k ∈ ns ↔ k ∈ l) → ns.length ≤ l.length → Q (.ref p) s') :
    wpAny (model P w) A (call (.builtin "sorted") [.ref a]) Q E s := by
  obtain ⟨o, es, ep, t, ho, hex, hd, g, nd, hm, hb, hf, hn, hr, hl⟩ := R
  refine Calls.call_function_entry kind_sorted plain_sorted entry_sorted (args_sorted1 _) ?_
  unfold Builtin.«sorted»
  refine wpAny_bind (m := checkCount "sorted" 1 1 _) (wpAny_pure ?_)
  refine wpAny_bind (collect_set (A := A.in1) hh ⟨o, ho, hex.1, hd⟩ hf hb hr hl fun s1 vs k1 hz g1 o1 pm => ?_)
  have hvl : vs.length = es.size := by rw [pm.length_eq, List.length_map, Array.length_toList]
  have hstr : ∀ v ∈ vs, ∃ k tk, v = Value.str k tk := fun v hv => by
    obtain ⟨e, he, q⟩ := List.mem_map.mp (pm.mem_iff.mp hv)
    obtain ⟨k, tk, h1, _⟩ := g e he
    exact ⟨k, tk, by rw [← q]; exact h1⟩
  have hS : StrsAre vs (vs.map strOf) := strsAre_map vs hstr
  have ek : (es.toList.map (·.2)).map strOf = es.toList.map keyT := by
    rw [List.map_map]
    refine List.map_congr_left fun e he => ?_
    obtain ⟨k, tk, h1, _⟩ := g e he
    show strOf e.2 = keyT e
    unfold keyT
    rw [h1] <;> rfl
  have pk : (vs.map strOf).Perm (es.toList.map keyT) := by
    have q := pm.map strOf
    rw [ek] at q
    exact q
  have h64' : vs.length < 64 := by omega
  refine wpAny_bind (wpAny_newList ?_ (by rw [sizeLine_eq]; omega))
  have hoL : (s1.heap.push (seqObj "list" vs.toArray 0)).get? s1.heap.objs.size = some (seqObj "list" vs.toArray 0) := Heap.get?_push_size _ rfl
  refine wpAny_bind (wpAny_holding (wpAny_call_entry slot_list_sort ⟨_, hoL, rfl⟩ entry_list_sort
    (list_sort_treeK strKind_oneLt hoL hS.keysOf (fun v₁ v₂ rest e => keyKind_strs (by rw [← e]; exact hS)) h64' fun st' hp hs => ⟨_, rfl, ?_⟩) (args_list_sort _)))
  obtain ⟨ns, a1, a2, a3⟩ := sorted_out_str hS hp hs
  obtain ⟨c, hc⟩ := sortedHeap_at (vs := vs) (out := (arrOf st').map (·.2)) hoL
  have pn : ns.Perm (es.toList.map keyT) := a2.trans pk
  refine wpAny_pure ⟨_, rfl, hQ _ s1.heap.objs.size _ c ns (fun b u e => ?_) g1 o1 hz hc a1 a3 (pn.nodup_iff.mpr nd) (fun k => by rw [pn.mem_iff, ← hm k]) ?_⟩
  · have q := k1 b u e
    have hlt := Heap.lt_size q
    show (sortedHeap (s1.heap.push (seqObj "list" vs.toArray 0)) s1.heap.objs.size vs _).get? b = some u
    rw [sortedHeap_old (Nat.ne_of_lt hlt) (by rw [size_push']; exact Nat.lt_succ_of_lt hlt)]
    exact Heap.get?_push_of_some _ q
  · rw [pn.length_eq, List.length_map, Array.length_toList]
    exact hn
end


/-- ascending, each once -/
def ascB (x : Str) : Bool := decide (x.cps.toList.Pairwise (· < ·))
theorem rising_le : ∀ (c : Nat) (cs : List Nat), risingS (one c) (cs.map one) = true → (∀ d ∈ cs, c ≤ d) ∧ cs.Pairwise (· ≤ ·)
  | _, [], _ => ⟨fun d h => (List.not_mem_nil h).elim, List.Pairwise.nil⟩
  | c, d :: cs, h => by
    have h' : (!ltCps [d] [c] && risingS (one d) (cs.map one)) = true := h
    rw [Bool.and_eq_true] at h'
    obtain ⟨h1, h2⟩ := h'
    obtain ⟨a, b⟩ := rising_le d cs h2
    have e : ¬ d < c := fun z => by
      rw [ltCps_eq] at h1
      have q : ([d] : List Nat) < [c] := List.cons_lt_cons_iff.mpr (.inl z)
      rw [decide_eq_true q] at h1
      cases h1
    have e' : c ≤ d := Nat.le_of_not_lt e
    refine ⟨fun k hk => ?_, List.pairwise_cons.mpr ⟨a, b⟩⟩
    rcases List.mem_cons.mp hk with z | z
    · rw [z]
      exact e'
    · exact Nat.le_trans e' (a k z)
theorem sorted_le : ∀ (cs : List Nat), sortedS (cs.map one) = true → cs.Pairwise (· ≤ ·)
  | [], _ => List.Pairwise.nil
  | c :: cs, h => List.pairwise_cons.mpr (rising_le c cs h)
theorem lt_of_le_nodupN : ∀ l : List Nat, l.Pairwise (· ≤ ·) → l.Nodup → l.Pairwise (· < ·)
  | [], _, _ => List.Pairwise.nil
  | x :: l, h, d => by
    obtain ⟨h1, h2⟩ := List.pairwise_cons.mp h
    obtain ⟨d1, d2⟩ := List.nodup_cons.mp d
    refine List.pairwise_cons.mpr ⟨fun y hy => ?_, lt_of_le_nodupN l h2 d2⟩
    have a := h1 y hy
    have b : x ≠ y := fun z => d1 (z ▸ hy)
    omega
theorem eq_of_strict : ∀ (l m : List Nat), l.Pairwise (· < ·) → m.Pairwise (· < ·) → (∀ k, k ∈ l ↔ k ∈ m) → l = m
  | [], [], _, _, _ => rfl
  | [], b :: m, _, _, h => (List.not_mem_nil ((h b).2 List.mem_cons_self)).elim
  | a :: l, [], _, _, h => (List.not_mem_nil ((h a).1 List.mem_cons_self)).elim
  | a :: l, b :: m, h1, h2, h => by
    obtain ⟨p1, p2⟩ := List.pairwise_cons.mp h1
    obtain ⟨q1, q2⟩ := List.pairwise_cons.mp h2
    have e : a = b := by
      have x := (h a).1 List.mem_cons_self
      have y := (h b).2 List.mem_cons_self
      rcases List.mem_cons.mp x with z | z
      · exact z
      · rcases List.mem_cons.mp y with z' | z'
        · exact z'.symm
        · have u := q1 a z
          have v := p1 b z'
          omega
    subst e
    refine congrArg (a :: ·) (eq_of_strict l m p2 q2 fun k => ⟨fun z => ?_, fun z => ?_⟩)
    · rcases List.mem_cons.mp ((h k).1 (List.mem_cons_of_mem _ z)) with q | q
      · exact absurd (p1 k z) (by omega)
      · exact q
    · rcases List.mem_cons.mp ((h k).2 (List.mem_cons_of_mem _ z)) with q | q
      · exact absurd (q1 k z) (by omega)
      · exact q
theorem one_inj {a b : Nat} (h : one a = one b) : a = b := by
  have e : (one a).cps.toList = (one b).cps.toList := congrArg (fun z : Str => z.cps.toList) h
  exact (List.cons.inj e).1
theorem nodup_of_map : ∀ cs : List Nat, (cs.map one).Nodup → cs.Nodup
  | [], _ => List.nodup_nil
  | c :: cs, h => by
    rw [List.map_cons] at h
    obtain ⟨a, b⟩ := List.nodup_cons.mp h
    exact List.nodup_cons.mpr ⟨fun z => a (List.mem_map_of_mem z), nodup_of_map cs b⟩
theorem ones_of {x : Str} : ∀ (ns : List Str), (∀ k ∈ ns, k ∈ signsT x) → ∃ cs : List Nat, ns = cs.map one
  | [], _ => ⟨[], rfl⟩
  | n :: ns, h => by
    obtain ⟨c, _, e⟩ := List.mem_map.mp (h n List.mem_cons_self)
    obtain ⟨cs, e'⟩ := ones_of ns fun k hk => h k (List.mem_cons_of_mem _ hk)
    exact ⟨c :: cs, by rw [List.map_cons, ← e', e]⟩
/-- what sorted of a text's signs tells -/
theorem sorted_signs {x : Str} {ns : List Str} (h1 : sortedS ns = true) (h2 : ns.Nodup) (h3 : ∀ k, k ∈ ns ↔ k ∈ signsT x) :
    ∃ cs : List Nat, ns = cs.map one ∧ (cs = x.cps.toList ↔ ascB x = true) ∧ (∀ c ∈ cs, c ∈ x.cps.toList) := by
  obtain ⟨cs, e⟩ := ones_of (x := x) ns fun k hk => (h3 k).1 hk
  subst e
  have nd : cs.Nodup := nodup_of_map cs h2
  have lt := lt_of_le_nodupN cs (sorted_le cs h1) nd
  have mem : ∀ c ∈ cs, c ∈ x.cps.toList := fun c q => by
    obtain ⟨d, hd, e⟩ := List.mem_map.mp ((h3 (one c)).1 (List.mem_map_of_mem q))
    rw [← one_inj e]
    exact hd
  refine ⟨cs, rfl, ⟨fun z => ?_, fun z => ?_⟩, mem⟩
  · unfold ascB
    rw [← z]
    exact decide_eq_true lt
  · refine eq_of_strict _ _ lt (of_decide_eq_true z) fun k => ⟨fun q => ?_, fun q => ?_⟩
    · obtain ⟨c, hc, e⟩ := List.mem_map.mp ((h3 (one k)).1 (List.mem_map_of_mem q))
      rw [← one_inj e]
      exact hc
    · obtain ⟨c, hc, e⟩ := List.mem_map.mp ((h3 (one k)).2 (List.mem_map_of_mem q))
      rw [← one_inj e]
      exact hc

/-! ### the rules -/
def SetS (w : World) (a : Addr) (l : List Str) : HO := .ext fun h => SetT w h a l
section
variable {X : Cx}
theorem setS_new {w : World} {P : Program} {H : Hp} {h : Heap} {a : Addr} {l : List Str} (R : SetT w h a l) : ObjOk P w H h a (SetS w a l) := by
  have ⟨o, _, _, _, ho, _⟩ := R
  exact ⟨R, ⟨o, ho⟩, fun h1 h2 p k => SetT.at_ p k⟩
theorem setS_get {pins : List (Addr × Obj)} {σ : L2.St} {H : Hp} {s : Shared} {a : Addr} {l : List Str} (I : Inv X pins σ H s) (ha : H a = some (SetS X.w a l)) : SetT X.w s.heap a l := (I.hok a _ ha).1
/-- set(text) -/
def rSetT (w : World) : List V → Hp → VK → Prop := fun xs H Q => ∃ x : Str, xs = [.str x] ∧ x.cps.size < 64 ∧ ∀ p, H p = none → Q (.ref p) (upd H p (SetS w p (signsT x)))
theorem cr_setT (hc : X.calm = true) : CallR X (.type "set") (rSetT X.w) := by
  intro pins s σ H xs us Q I r h
  obtain ⟨x, rfl, hx, q⟩ := h
  obtain ⟨u, rfl, t, rfl⟩ := vals1 r
  refine call_setT (I.ok.hd hc) (by unfold scanBound; omega) fun h' tk S k => ?_
  exact ⟨.ref _, upd H s.heap.objs.size (SetS X.w s.heap.objs.size (signsT x)), I.laid (t' := tk) (fun b u e => k b u (Heap.lt_size e) e) (Nat.le_refl _) (setS_new S), rfl, q _ (I.hok.fresh (Nat.le_refl _))⟩
/-- sorted(set(text)) -/
def rSortedT (w : World) : List V → Hp → VK → Prop := fun vs H Q => ∃ (a : Addr) (x : Str), vs = [V.ref a] ∧ H a = some (SetS w a (signsT x)) ∧ x.cps.size < 64 ∧
  ∀ (cs : List Nat) (p : Addr), (cs = x.cps.toList ↔ ascB x = true) → (∀ c ∈ cs, c ∈ x.cps.toList) → cs.length ≤ x.cps.size → H p = none → Q (.ref p) (upd H p (.lst ((cs.map one).map V.str)))
theorem cr_sortedT (hc : X.calm = true) : CallR X (.builtin "sorted") (rSortedT X.w) := by
  intro pins s σ H vs us Q I r h
  obtain ⟨a, x, rfl, ha, h64, q⟩ := h
  have R := setS_get I ha
  have hsz : (signsT x).length = x.cps.size := by
    unfold signsT
    rw [List.length_map, Array.length_toList]
  rw [Vals.ref1 r]
  refine sorted_setT R (I.ok.hd hc) (by rw [hsz] <;> exact h64) fun s' p out c ns k g o hp hg hi hs hm hl hz => ?_
  obtain ⟨cs, e, iff, mem⟩ := sorted_signs hs hm hl
  subst e
  rw [hsz, List.length_map] at hz
  have hlen : ((cs.map one).map V.str).length ≤ sizeLine := by rw [List.length_map, List.length_map, sizeLine_eq]; omega
  have hn : H p = none := I.hok.fresh hp
  have J : Inv X pins σ (upd H p (.lst ((cs.map one).map V.str))) { s with heap := s'.heap, gens := s'.gens, drawn := s'.drawn, toks := s'.toks } :=
    I.call (ch := []) (Un.laid k hp hn) (I.hok.laid k hp ⟨hlen, out.toList, c, vals_of_strs hi, hg⟩) (by rw [g]; exact I.bare) (fun _ z => nomatch z)
  have e : s' = { s with heap := s'.heap, gens := s'.gens, drawn := s'.drawn, toks := s'.toks } := by
    cases s'
    cases s
    cases o
    rfl
  rw [e]
  exact ⟨.ref p, _, J, rfl, q cs p iff mem hz hn⟩
/-- joining signs tells the text just if they are its signs -/
theorem catS_ones (cs : List Nat) : True := trivial
end
end Ls

/-! What an expander is, told of data. -/
namespace Lk
open PySem PySem.Spec PyProof.Rows L2 G
def Light (d : PyData) : Prop := d.weight ≤ 1048576
theorem light_str {z : Str} (h : Light (.str z)) : z.length ≤ sizeLine := by
  unfold Light PyData.weight at h
  exact Nat.le_trans h (by decide)
theorem weight_mem : ∀ {ds : List PyData} {d : PyData}, d ∈ ds → d.weight ≤ PyData.weightAll ds
  | e :: ds, d, h => by
    have u : PyData.weightAll (e :: ds) = e.weight + 1 + PyData.weightAll ds := by simp only [PyData.weightAll]
    rw [u]
    rcases List.mem_cons.mp h with z | z
    · rw [z]
      omega
    · have := weight_mem z
      omega
theorem light_tup {ds : List PyData} (h : Light (.tuple ds)) : ∀ d ∈ ds, Light d := fun d hd => by
  unfold Light at h ⊢
  have u : PyData.weight (.tuple ds) = PyData.weightAll ds := by simp only [PyData.weight]
  rw [u] at h
  exact Nat.le_trans (weight_mem hd) h
theorem weightAll_len : ∀ ds : List PyData, ds.length ≤ PyData.weightAll ds
  | [] => Nat.zero_le _
  | e :: ds => by
    have u : PyData.weightAll (e :: ds) = e.weight + 1 + PyData.weightAll ds := by simp only [PyData.weightAll]
    have := weightAll_len ds
    rw [u, List.length_cons]
    omega
theorem light_len {ds : List PyData} (h : Light (.tuple ds)) : ds.length ≤ 1048576 := by
  unfold Light at h
  have u : PyData.weight (.tuple ds) = PyData.weightAll ds := by simp only [PyData.weight]
  rw [u] at h
  exact Nat.le_trans (weightAll_len ds) h
/-- a word of so many signs at most -/
def shortB (s : Str) : PyData → Bool
  | .str z => allIn s z && decide (z.length ≤ 2000)
  | _ => false
def countB (n : Int) : PyData → Bool
  | .int i => decide (0 ≤ i) && decide (i < n)
  | _ => false
def isNone : PyData → Bool
  | .none => true
  | _ => false
def moveB (s : Str) (n : Int) : PyData → Bool
  | .tuple [a, b, c] => shortB s a && (shortB s b && countB n c)
  | _ => false
def stateB (s : Str) (n : Int) : PyData → Bool
  | .tuple [.tuple ms, last] => decide (ms.length = s.length) && ((isNone last || shortB s last) && ms.all fun m => isNone m || moveB s n m)
  | _ => false
def statesB (s : Str) : PyData → Bool
  | .tuple ss => (decide (1 ≤ ss.length) && decide (ss.length ≤ 60)) && ss.all (stateB s (ss.length : Nat))
  | _ => false
def signsB : PyData → Bool
  | .str z => allIn "abcdefghijklmnopqrstuvwxyz" z && ((decide (1 ≤ z.length) && decide (z.length ≤ 4)) && Ls.ascB z)
  | _ => false
def expB : PyData → Bool
  | .tuple [.str s, f, t] => signsB (.str s) && (shortB s f && statesB s t)
  | _ => false
theorem dq_tup {K : PySem.W.Frag} {H : Hp} {v : V} {d : PyData} (h : Dq K H v d) (e : isTup d = true) : ∃ a xs ds, v = .ref a ∧ d = .tuple ds ∧ SqT K H a xs ∧ DqAll K H xs ds := by
  cases h with
  | tup h1 h2 => exact ⟨_, _, _, rfl, rfl, h1, h2⟩
  | _ => cases e
theorem dq_str {K : PySem.W.Frag} {H : Hp} {v : V} {d : PyData} (h : Dq K H v d) (e : isStr d = true) : ∃ z, v = .str z ∧ d = .str z := by
  cases h with
  | str z => exact ⟨z, rfl, rfl⟩
  | _ => cases e
end Lk
namespace Lk
open PySem PySem.Spec PyProof.Rows L2 G
theorem moveB_tup {s : Str} {n : Int} {d : PyData} (e : isTup d = false) : moveB s n d = false := by
  cases d with
  | tuple _ => cases e
  | _ => rfl
theorem moveB_len {s : Str} {n : Int} {ds : List PyData} (e : ds.length ≠ 3) : moveB s n (.tuple ds) = false := by
  unfold moveB
  split
  · rename_i q
    injection q with q
    rw [q] at e
    exact absurd rfl e
  · rfl
theorem ne_int (a b : Int) : (!decide (V.int a = V.int b)) = !decide (a = b) := by
  congr 1
  exact decide_eq_decide.mpr ⟨fun z => V.int.inj z, fun z => congrArg V.int z⟩
theorem DqAll.three {K : PySem.W.Frag} {H : Hp} {xs : List V} {ds : List PyData} (h : DqAll K H xs ds) (e : xs.length = 3) :
    ∃ x y z d1 d2 d3, xs = [x, y, z] ∧ ds = [d1, d2, d3] ∧ Dq K H x d1 ∧ Dq K H y d2 ∧ Dq K H z d3 := by
  cases h with
  | nil => cases e
  | cons h1 t =>
    cases t with
    | nil => cases e
    | cons h2 t =>
      cases t with
      | nil => cases e
      | cons h3 t =>
        cases t with
        | nil => exact ⟨_, _, _, _, _, _, rfl, rfl, h1, h2, h3⟩
        | cons _ t => simp at e
theorem DqAll.two {K : PySem.W.Frag} {H : Hp} {xs : List V} {ds : List PyData} (h : DqAll K H xs ds) (e : xs.length = 2) :
    ∃ x y d1 d2, xs = [x, y] ∧ ds = [d1, d2] ∧ Dq K H x d1 ∧ Dq K H y d2 := by
  cases h with
  | nil => cases e
  | cons h1 t =>
    cases t with
    | nil => cases e
    | cons h2 t =>
      cases t with
      | nil => exact ⟨_, _, _, _, rfl, rfl, h1, h2⟩
      | cons _ t => simp at e
end Lk
namespace Lk
open PySem PySem.Spec PyProof.Rows L2 G
section
variable {K : PySem.W.Frag} {a D : Addr} {xs : List V} {ds : List PyData} {g : TG} {tt : TT} {te : TE} {vs : List Nat} {σ : L2.St} {H : Hp} {Qd : Hp → Prop}
theorem dqAll_get' {H : Hp} {i : Nat} {x : V} (hA : DqAll K H xs ds) (h : xs[i]? = some x) : ∃ d, ds[i]? = some d ∧ d ∈ ds ∧ ds.take (i + 1) = ds.take i ++ [d] ∧ Dq K H x d := by
  obtain ⟨d, e, q⟩ := hA.get h
  refine ⟨d, e, List.mem_of_getElem? e, ?_, q⟩
  rw [List.take_add_one, e]
  exact rfl
/-- what is told of each item of a tuple of data, in a list -/
theorem lc_bools (f : PyData → Bool) (hT : SqT K H a xs) (hA : DqAll K H xs ds) (nD : H D = none) (hlen : xs.length ≤ 1048576)
    (hs : ∀ x d H' (Nxt : V → Hp → Prop) (Els : Hp → Prop), Same H H' → Dq K H' x d → d ∈ ds → (∀ H4, Same H' H4 → Nxt (.bl (f d)) H4) →
      g x (wipe σ vs) H' fun σ2 H2 => wipe σ2 vs = wipe σ vs ∧ tt σ2 H2 fun b H3 => if b = true then te σ2 H3 Nxt else Els H3)
    (hd : ∀ H', Same H H' → H' D = some (.lst ((ds.map f).map V.bl)) → Qd H') :
    ∃ W : Nat → Nat → Hp → Prop, (∃ m, W 0 m (upd H D (.lst []))) ∧ ∀ i m H, W i m H →
      ((Itt K a).stop i H ∧ Qd H) ∨ ((Itt K a).go i H ∧ ∃ Nx : Hp → Prop, (∀ H', Nx H' → ∃ m', m' < m ∧ W (i + 1) m' H') ∧ ∀ x H', (Itt K a).yld i H x H' → g x (wipe σ vs) H' fun σ2 H2 => wipe σ2 vs = wipe σ vs ∧ tt σ2 H2 fun b H3 =>
        if b = true then te σ2 H3 fun y H4 => ∃ acc, H4 D = some (.lst acc) ∧ acc.length < sizeLine ∧ Nx (upd H4 D (.lst (acc ++ [y]))) else Nx H3) := by
  refine lc_tup (xs := xs) (fun i H' => Same H H' ∧ H' D = some (.lst (((ds.take i).map f).map V.bl))) ⟨same_new nD, upd_same⟩ (fun _ _ _ p => seqT p.1 hT) ?_ ?_
  · rintro i x H1 hx ⟨s1, hD⟩
    obtain ⟨d, e, m, t, q⟩ := dqAll_get' hA hx
    have hi : i < xs.length := (List.getElem?_eq_some_iff.mp hx).1
    refine hs x d H1 _ _ s1 (q.mono s1) m fun H4 s4 => ⟨_, s4 _ _ hD, ?_, fun b o eo => (upd_ne (ne_of_none eo nD)).trans (s4 _ _ (s1 b o eo)), ?_⟩
    · rw [List.length_map, List.length_map, List.length_take]
      refine Nat.lt_of_le_of_lt (Nat.min_le_left _ _) ?_
      exact Nat.lt_of_lt_of_le hi (Nat.le_trans hlen (by decide))
    · rw [upd_same, t, List.map_append, List.map_append]
      rfl
  · rintro H1 ⟨s1, hD⟩
    refine hd H1 s1 ?_
    rw [hD, List.take_of_length_le (Nat.le_of_eq hA.length.symm)]
/-- a one for each item of a tuple of data of which it is not told -/
def onesOf (f : PyData → Bool) (ds : List PyData) : List Int := (ds.filter fun d => !f d).map fun _ => 1
theorem onesOf_nil (f : PyData → Bool) (ds : List PyData) : decide (onesOf f ds = []) = ds.all f := by
  unfold onesOf
  rw [Bool.eq_iff_iff, decide_eq_true_eq, List.map_eq_nil_iff, List.filter_eq_nil_iff, List.all_eq_true]
  simp
theorem lc_ones (f : PyData → Bool) (hT : SqT K H a xs) (hA : DqAll K H xs ds) (nD : H D = none) (hlen : xs.length ≤ 1048576)
    (hs : ∀ x d H' (Nxt : V → Hp → Prop) (Els : Hp → Prop), Same H H' → Dq K H' x d → d ∈ ds → (f d = false → ∀ H4, Same H' H4 → Nxt (.int 1) H4) → (f d = true → ∀ H4, Same H' H4 → Els H4) →
      g x (wipe σ vs) H' fun σ2 H2 => wipe σ2 vs = wipe σ vs ∧ tt σ2 H2 fun b H3 => if b = true then te σ2 H3 Nxt else Els H3)
    (hd : ∀ H', Same H H' → H' D = some (.lst ((onesOf f ds).map V.int)) → Qd H') :
    ∃ W : Nat → Nat → Hp → Prop, (∃ m, W 0 m (upd H D (.lst []))) ∧ ∀ i m H, W i m H →
      ((Itt K a).stop i H ∧ Qd H) ∨ ((Itt K a).go i H ∧ ∃ Nx : Hp → Prop, (∀ H', Nx H' → ∃ m', m' < m ∧ W (i + 1) m' H') ∧ ∀ x H', (Itt K a).yld i H x H' → g x (wipe σ vs) H' fun σ2 H2 => wipe σ2 vs = wipe σ vs ∧ tt σ2 H2 fun b H3 =>
        if b = true then te σ2 H3 fun y H4 => ∃ acc, H4 D = some (.lst acc) ∧ acc.length < sizeLine ∧ Nx (upd H4 D (.lst (acc ++ [y]))) else Nx H3) := by
  refine lc_tup (xs := xs) (fun i H' => Same H H' ∧ H' D = some (.lst ((onesOf f (ds.take i)).map V.int))) ⟨same_new nD, upd_same⟩ (fun _ _ _ p => seqT p.1 hT) ?_ ?_
  · rintro i x H1 hx ⟨s1, hD⟩
    obtain ⟨d, e, m, t, q⟩ := dqAll_get' hA hx
    have hi : i < xs.length := (List.getElem?_eq_some_iff.mp hx).1
    refine hs x d H1 _ _ s1 (q.mono s1) m (fun ef H4 s4 => ⟨_, s4 _ _ hD, ?_, fun b o eo => (upd_ne (ne_of_none eo nD)).trans (s4 _ _ (s1 b o eo)), ?_⟩) (fun ef H4 s4 => ⟨Same.trans s1 s4, ?_⟩)
    · unfold onesOf
      rw [List.length_map, List.length_map]
      refine Nat.lt_of_le_of_lt (List.length_filter_le _ _) ?_
      rw [List.length_take]
      refine Nat.lt_of_le_of_lt (Nat.min_le_left _ _) ?_
      exact Nat.lt_of_lt_of_le hi (Nat.le_trans hlen (by decide))
    · rw [upd_same, t]
      unfold onesOf
      rw [List.filter_append, List.filter_cons_of_pos (by rw [ef] <;> rfl), List.filter_nil, List.map_append, List.map_append]
      rfl
    · rw [s4 _ _ hD, t]
      unfold onesOf
      rw [List.filter_append, List.filter_cons_of_neg (by rw [ef]; decide), List.filter_nil, List.append_nil]
  · rintro H1 ⟨s1, hD⟩
    refine hd H1 s1 ?_
    rw [hD, List.take_of_length_le (Nat.le_of_eq hA.length.symm)]
end
section
variable {D : Addr} {z s : Str} {g : TG} {tt : TT} {te : TE} {vs : List Nat} {σ : L2.St} {H : Hp} {Qd : Hp → Prop}
/-- a one for each sign of a text that is not among some -/
theorem lc_strange (nD : H D = none) (hlen : z.length ≤ 1048576)
    (hs : ∀ c H' (Nxt : V → Hp → Prop) (Els : Hp → Prop), Same H H' → (decide (c ∈ s.cps.toList) = false → Nxt (.int 1) H') → (decide (c ∈ s.cps.toList) = true → Els H') →
      g (.str ⟨#[c]⟩) (wipe σ vs) H' fun σ2 H2 => wipe σ2 vs = wipe σ vs ∧ tt σ2 H2 fun b H3 => if b = true then te σ2 H3 Nxt else Els H3)
    (hd : ∀ H', Same H H' → H' D = some (.lst (((strange s z.cps.toList).map fun _ => (1 : Int)).map V.int)) → Qd H') :
    ∃ W : Nat → Nat → Hp → Prop, (∃ m, W 0 m (upd H D (.lst []))) ∧ ∀ i m H, W i m H →
      ((Its z).stop i H ∧ Qd H) ∨ ((Its z).go i H ∧ ∃ Nx : Hp → Prop, (∀ H', Nx H' → ∃ m', m' < m ∧ W (i + 1) m' H') ∧ ∀ x H', (Its z).yld i H x H' → g x (wipe σ vs) H' fun σ2 H2 => wipe σ2 vs = wipe σ vs ∧ tt σ2 H2 fun b H3 =>
        if b = true then te σ2 H3 fun y H4 => ∃ acc, H4 D = some (.lst acc) ∧ acc.length < sizeLine ∧ Nx (upd H4 D (.lst (acc ++ [y]))) else Nx H3) := by
  have el : z.cps.toList.length = z.length := by simp [Str.length]
  refine lc_it walk_str (fun j H' => Same H H' ∧ H' D = some (.lst (((strange s (z.cps.toList.take j)).map fun _ => (1 : Int)).map V.int))) ⟨same_new nD, upd_same⟩ (fun _ _ _ _ => trivial) ?_ ?_
  · rintro j v H1 H2 hj ⟨s1, hD⟩ ⟨rfl, cc, hcc, rfl⟩
    have et : z.cps.toList.take (j + 1) = z.cps.toList.take j ++ [cc] := by
      rw [List.take_add_one]
      have : z.cps.toList[j]? = some cc := by simpa using hcc
      rw [this]
      rfl
    refine hs cc H2 _ _ s1 (fun e => ⟨_, hD, ?_, fun b o e => (upd_ne (ne_of_none e nD)).trans (s1 b o e), ?_⟩) (fun e => ⟨s1, ?_⟩)
    · rw [List.length_map, List.length_map]
      refine Nat.lt_of_le_of_lt (List.length_filter_le _ _) ?_
      rw [List.length_take, el]
      exact Nat.lt_of_le_of_lt (Nat.min_le_right _ _) (Nat.lt_of_le_of_lt hlen (by decide))
    · rw [upd_same, et, strange_out _ (of_decide_eq_false e), List.map_append, List.map_append]
      rfl
    · rw [et, strange_in _ (of_decide_eq_true e)]
      exact hD
  · rintro H1 ⟨s1, hD⟩
    refine hd H1 s1 ?_
    rw [List.take_of_length_le (by rw [el]; exact Nat.le_refl _)] at hD
    exact hD
theorem strange_ones (s z : Str) : decide (((strange s z.cps.toList).map fun _ => (1 : Int)) = []) = allIn s z := by
  have h := strange_nil s z
  rw [Bool.eq_iff_iff, decide_eq_true_eq, List.map_eq_nil_iff]
  exact h
end
/-- not a tuple, or not of so many items -/
theorem stateB_tup {s : Str} {n : Int} {d : PyData} (e : isTup d = false) : stateB s n d = false := by
  cases d with
  | tuple _ => cases e
  | _ => rfl
theorem stateB_len {s : Str} {n : Int} {ds : List PyData} (e : ds.length ≠ 2) : stateB s n (.tuple ds) = false := by
  unfold stateB
  split
  · rename_i q
    injection q with q
    rw [q] at e
    exact absurd rfl e
  · rfl
theorem stateB_first {s : Str} {n : Int} {d e : PyData} (h : isTup d = false) : stateB s n (.tuple [d, e]) = false := by
  cases d with
  | tuple _ => cases h
  | _ => rfl
theorem statesB_tup {s : Str} {d : PyData} (e : isTup d = false) : statesB s d = false := by
  cases d with
  | tuple _ => cases e
  | _ => rfl
theorem expB_tup {d : PyData} (e : isTup d = false) : expB d = false := by
  cases d with
  | tuple _ => cases e
  | _ => rfl
theorem expB_len {ds : List PyData} (e : ds.length ≠ 3) : expB (.tuple ds) = false := by
  unfold expB
  split
  · rename_i q
    injection q with q
    rw [q] at e
    exact absurd rfl e
  · rfl
theorem expB_first {d e f : PyData} (h : isStr d = false) : expB (.tuple [d, e, f]) = false := by
  cases d with
  | str _ => cases h
  | _ => rfl
theorem isNone_non {K : PySem.W.Frag} {H : Hp} {v : V} {d : PyData} (h : Dq K H v d) : decide (v = .non) = isNone d := by
  cases h <;> first | rfl | exact decide_eq_false (fun z => by cases z)
end Lk
namespace Lk
theorem two_ways {c : Bool} {A R : Prop} (r : R) (h : c = true → R → A) : if c = true then A else R := by
  cases e : c with
  | true => exact h e r
  | false => exact r
theorem tt_and (b : Bool) : (true && b) = b := rfl
theorem ff_and (b : Bool) : (false && b) = false := rfl
theorem tt_or (b : Bool) : (true || b) = true := rfl
theorem ff_or (b : Bool) : (false || b) = b := rfl
end Lk
namespace Lk
open PySem PySem.Spec PyProof.Rows L2 G
theorem canLay_one {c : Nat} (h : c < 1000) : PyData.canLay0 (.str (Ls.one c)) = true := by
  unfold PyData.canLay0
  show (#[c] : Array Nat).all (· < 0x110000) = true
  simp
  omega
theorem eqvAll_strs : ∀ l m : List Str, PyData.eqvAll (l.map PyData.str) (m.map PyData.str) = decide (l = m)
  | [], [] => by simp [PyData.eqvAll]
  | [], b :: m => by simp [PyData.eqvAll]
  | a :: l, [] => by simp [PyData.eqvAll]
  | a :: l, b :: m => by
    have ih := eqvAll_strs l m
    rw [List.map_cons, List.map_cons]
    simp only [PyData.eqvAll, PyData.eqv]
    rw [ih, Bool.eq_iff_iff]
    simp
theorem eqv_strs (l m : List Str) : PyData.eqv (.list (l.map PyData.str)) (.list (m.map PyData.str)) = decide (l = m) := by
  simp only [PyData.eqv]
  exact eqvAll_strs l m
theorem dq_strs {K : PySem.W.Frag} {H : Hp} : ∀ ns : List Str, DpAll K H (ns.map V.str) (ns.map PyData.str)
  | [] => .nil
  | n :: ns => .cons (.str n) (dq_strs ns)
theorem shaped_ones (ns : List Nat) (h : ∀ c ∈ ns, c < 1000) : SeqAt.shaped (.list ((ns.map Ls.one).map PyData.str)) = true := by
  have h1 : ∀ l : List Nat, (∀ c ∈ l, c < 1000) → PyData.canLayAll0 ((l.map Ls.one).map PyData.str) = true := fun l => by
    induction l with
    | nil =>
      intro _
      rfl
    | cons n r ih =>
      intro h
      rw [List.map_cons, List.map_cons]
      unfold PyData.canLayAll0
      rw [ih fun c hc => h c (List.mem_cons_of_mem _ hc), Bool.and_true]
      have hn := h n (List.mem_cons_self ..)
      exact canLay_one hn
  have h2 : ∀ l : List Str, PyData.depthAll (l.map PyData.str) = 0 := fun l => by
    induction l with
    | nil => rfl
    | cons n r ih =>
      rw [List.map_cons]
      unfold PyData.depthAll
      rw [ih]
      rfl
  unfold SeqAt.shaped
  rw [Bool.and_eq_true]
  constructor
  · unfold PyData.canLay0
    exact h1 ns h
  · unfold PyData.depth
    rw [h2]
    exact rfl
theorem sg_ones (z : Str) : sg z = (z.cps.toList.map Ls.one).map V.str := by
  unfold sg
  rw [List.map_map]
  rfl
theorem ones_eq {l m : List Nat} : l.map Ls.one = m.map Ls.one ↔ l = m := by
  constructor
  · intro h
    induction l generalizing m with
    | nil =>
      cases m with
      | nil => rfl
      | cons b m => cases h
    | cons a l ih =>
      cases m with
      | nil => cases h
      | cons b m =>
        rw [List.map_cons, List.map_cons] at h
        obtain ⟨h1, h2⟩ := List.cons.inj h
        rw [Ls.one_inj h1, ih h2]
  · intro h
    rw [h]
theorem asc_eq {x : Str} {cs : List Nat} (h : cs = x.cps.toList ↔ Ls.ascB x = true) : decide (x.cps.toList.map Ls.one = cs.map Ls.one) = Ls.ascB x := by
  rw [Bool.eq_iff_iff, decide_eq_true_eq, ones_eq, ← h]
  exact eq_comm
theorem asc_join {x : Str} {cs : List Nat} (h : cs = x.cps.toList ↔ Ls.ascB x = true) : (!decide (V.str (Txt.join (tx []) (cs.map Ls.one)) = V.str x)) = !Ls.ascB x := by
  congr 1
  rw [join_empty]
  have e : catS (cs.map Ls.one) = cs := catS_ones cs
  rw [e, Bool.eq_iff_iff, decide_eq_true_eq, ← h]
  constructor
  · intro z
    rw [← V.str.inj z]
  · intro z
    rw [z]
end Lk
namespace Lk
open PySem
theorem small_letters {z : Str} (h : allIn "abcdefghijklmnopqrstuvwxyz" z = true) : ∀ c ∈ z.cps.toList, c < 1000 := by
  intro c hc
  unfold allIn at h
  have q := List.contains_iff_mem.mp (List.all_eq_true.mp h c hc)
  have all : ∀ d ∈ ("abcdefghijklmnopqrstuvwxyz" : Str).cps.toList, d < 1000 := by decide +kernel
  exact all c q
end Lk
namespace Lk
open PySem PySem.Spec PyProof.Rows L2 G
def rLenSeq (K : PySem.W.Frag) : List V → Hp → VK → Prop := fun xs H Q => ∃ p ys, xs = [.ref p] ∧ (SqL K H p ys ∨ SqT K H p ys) ∧ Q (.int ys.length) H
end Lk
namespace Lk
open PySem
theorem signs_four {s : Str} (h : signsB (.str s) = true) : s.length ≤ 4 := by
  have h : (allIn "abcdefghijklmnopqrstuvwxyz" s && ((decide (1 ≤ s.length) && decide (s.length ≤ 4)) && Ls.ascB s)) = true := h
  simp only [Bool.and_eq_true, decide_eq_true_eq] at h
  exact h.2.1.2
end Lk
namespace Lk
open PySem PySem.Spec PyProof.Rows L2 G
theorem two_waysH {H : Hp} {c : Bool} {A : Prop} {R : Hp → Prop} (r : ∀ H0, Same H H0 → R H0) (h : c = true → (∀ H0, Same H H0 → R H0) → A) : if c = true then A else R H := by
  cases e : c with
  | true => exact h e r
  | false => exact r H (Same.refl H)
end Lk

/-! A dict with pairs as keys against the empty one. -/
namespace Lk
open PySem PySem.Spec PyProof.Rows L2
section
variable {P : Program} {w : World} {K : Type} [DecidableEq K] {knd : HeapKind P w K} {A : Around} {E : Value → Shared → Prop} {s : Shared}
theorem same_pairs0 {nm : String} {a b : Addr} {ka kb : List (K × Addr × Value)} {Q : Bool → Shared → Prop} (ha : (a == sysModules) = false) (hb : (b == sysModules) = false)
    (da : s.heap.DictOfH knd a ka) (db : s.heap.DictOfH knd b kb) (h0 : kb = []) (h : Q ka.isEmpty s) : wpAny (model P w) A (Builtin.Dict.samePairs nm a b) Q E s := by
  obtain ⟨oa, es, ep, hoa, _, hda, hea, _⟩ := da
  obtain ⟨ob, es', ep', hob, _, hdb, heb, _⟩ := db
  have hla : es.size = ka.length := size_of_entries hea
  have hlb : es'.size = 0 := by rw [size_of_entries heb, h0]; rfl
  unfold Builtin.Dict.samePairs Builtin.Dict.showsAll
  rw [if_neg (show ¬ (a == sysModules) = true by rw [ha]; exact Bool.false_ne_true), if_neg (show ¬ (b == sysModules) = true by rw [hb]; exact Bool.false_ne_true)]
  refine wpAny_bind (wpAny_pure (wpAny_bind (wpAny_pure ?_)))
  refine wpAny_bind (wpAny_dictEntries hoa hda ?_)
  dsimp only
  refine wpAny_bind (wpAny_dictEntries hob hdb ?_)
  by_cases hsz : es.size = es'.size
  case neg =>
    rw [if_pos (by simpa using hsz)]
    have e : ka.isEmpty = false := by
      cases ka with
      | nil => exact absurd (hla.trans hlb.symm) hsz
      | cons _ _ => rfl
    rw [e] at h
    exact wpAny_bind (wpAny_rule (wpAny_pure h))
  case pos =>
    have e : ka.isEmpty = true := by
      cases ka with
      | nil => rfl
      | cons x r =>
        rw [hsz, hlb] at hla
        cases hla
    rw [e] at h
    rw [if_neg (by rw [hsz]; simp)]
    refine wpAny_bind (wpAny_dictEpoch hoa hda ?_)
    refine wpAny_bind ?_
    rw [Std.Legacy.Range.forIn_eq_forIn_range']
    simp only [Std.Legacy.Range.size, Nat.sub_zero, Nat.add_sub_cancel, Nat.div_one]
    have e0 : es.size = 0 := hsz.trans hlb
    rw [e0]
    simp only [List.range'_zero, List.forIn_nil]
    exact wpAny_pure (wpAny_pure h)
theorem ne_pairs0 {a b : Addr} {ka kb : List (K × Addr × Value)} {Q : Value → Shared → Prop} (ha : (a == sysModules) = false) (hb : (b == sysModules) = false)
    (da : s.heap.DictOfH knd a ka) (db : s.heap.DictOfH knd b kb) (h0 : kb = []) (hu : A.units < cLine) (h : Q (.bool (!ka.isEmpty)) s) :
    wpAny (model P w) A (compareOp .NotEq (.ref a) (.ref b)) Q E s := by
  refine wpAny_richCompare_same_room (op := .NotEq) da.typeIs db.typeIs PySem.F.slot_dict_ne (wpAny_call_entry PySem.F.slot_dict_ne da.typeIs PySem.F.entry_dict_ne ?_ (PySem.F.args_dict_ne_2 _ _)) hu
  show wpAny _ _ (Builtin.Dict.dictSlotArgs "__ne__" ⟨[.ref a, .ref b], []⟩ >>= _) _ _ s
  refine wpAny_bind ?_
  unfold Builtin.Dict.dictSlotArgs
  refine wpAny_bind (PySem.wpAny_notOrdered_dict da.typeIs ?_)
  show wpAny _ _ (pure (Value.ref a, Value.ref b)) _ _ s
  refine wpAny_pure ?_
  refine wpAny_bind (wpAny_isInstance (T := "dict") db.typeIs PySem.F.sub_dict_dict ?_)
  simp only [Bool.not_true, Bool.false_eq_true, if_false]
  refine wpAny_bind (wpAny_pure (wpAny_bind (wpAny_pure ?_)))
  refine wpAny_bind (same_pairs0 ha hb da db h0 ?_)
  refine wpAny_pure ⟨_, rfl, ?_, ?_⟩
  · exact fun x => nomatch x
  · simpa using h
end
section
variable {X : Cx}
def rNeT0 : R2 := fun x y H Q => ∃ a b kvs, x = .ref a ∧ y = .ref b ∧ H a = some (.dT kvs) ∧ H b = some (.dT []) ∧ Q (.bl (!kvs.isEmpty)) H
theorem op_neT0 (hu : X.A.units < cLine) : OpR X (compareOp .NotEq) rNeT0 := by
  intro pins s σ H x y v u Q I rx ry h
  obtain ⟨a, b, kvs, rfl, rfl, ea, eb, q⟩ := h
  obtain rfl : v = Value.ref a := rx
  obtain rfl : u = Value.ref b := ry
  obtain ⟨_, ya, va, ra, da⟩ := dt_of I.hok ea
  obtain ⟨_, yb, vb, rb, db⟩ := dt_of I.hok eb
  have e0 : vb = [] := by
    cases rb
    rfl
  have e1 : va.isEmpty = kvs.isEmpty := by cases ra <;> rfl
  refine ne_pairs0 ya yb da db e0 hu ?_
  rw [e1]
  exact ⟨.bl (!kvs.isEmpty), H, I, rfl, q⟩
end
end Lk

/-! Drawn expanders, told of data; calls and sizes. -/
namespace Lk
open PySem PySem.Spec PyProof.Rows L2 G
/-- a text of so many signs of z at most -/
def WordOf (z w : Str) (n : Nat) : Prop := w.length ≤ n ∧ ∀ c ∈ w.cps.toList, c ∈ z.cps.toList
def MoveD (z : Str) (n : Nat) (d : PyData) : Prop := d = .none ∨ ∃ (a b : Str) (g : Nat), d = .tuple [.str a, .str b, .int (g : Int)] ∧ WordOf z a 3 ∧ WordOf z b 3 ∧ g < n
def StateD (z : Str) (n : Nat) (d : PyData) : Prop := ∃ (ms : List PyData) (l : PyData), d = .tuple [.tuple ms, l] ∧ ms.length = z.length ∧ (∀ m ∈ ms, MoveD z n m) ∧ (l = .none ∨ ∃ w, l = .str w ∧ WordOf z w 3)
/-- signs: one to four letters, ascending -/
def SignsP (z : Str) : Prop := signsB (.str z) = true
/-- as they are drawn: no y among them -/
def SignsD (z : Str) : Prop := SignsP z ∧ 121 ∉ z.cps.toList
def ExpD (d : PyData) : Prop := ∃ (z f : Str) (ss : List PyData), d = .tuple [.str z, .str f, .tuple ss] ∧ SignsD z ∧ WordOf z f 3 ∧ 1 ≤ ss.length ∧ ss.length ≤ 4 ∧ ∀ s ∈ ss, StateD z ss.length s
theorem SignsP.small {z : Str} (h : SignsP z) : 1 ≤ z.length ∧ z.length ≤ 4 ∧ ∀ c ∈ z.cps.toList, c < 1000 := by
  have h : (allIn "abcdefghijklmnopqrstuvwxyz" z && ((decide (1 ≤ z.length) && decide (z.length ≤ 4)) && Ls.ascB z)) = true := h
  rw [Bool.and_eq_true, Bool.and_eq_true, Bool.and_eq_true, decide_eq_true_eq, decide_eq_true_eq] at h
  exact ⟨h.2.1.1, h.2.1.2, small_letters h.1⟩
theorem SignsD.small {z : Str} (h : SignsD z) : 1 ≤ z.length ∧ z.length ≤ 4 ∧ ∀ c ∈ z.cps.toList, c < 1000 := h.1.small
/-- items of a tuple of data -/
theorem Dq.items {K : PySem.W.Frag} {H : Hp} {v : V} {ds : List PyData} (h : Dq K H v (.tuple ds)) : ∃ a xs, v = .ref a ∧ SqT K H a xs ∧ DqAll K H xs ds := by
  cases h with
  | tup h1 h2 => exact ⟨_, _, rfl, h1, h2⟩
theorem DqAll.one {K : PySem.W.Frag} {H : Hp} {xs : List V} {d : PyData} {ds : List PyData} (h : DqAll K H xs (d :: ds)) : ∃ x ys, xs = x :: ys ∧ Dq K H x d ∧ DqAll K H ys ds := by
  cases h with
  | cons h1 h2 => exact ⟨_, _, rfl, h1, h2⟩
theorem DqAll.none {K : PySem.W.Frag} {H : Hp} {xs : List V} (h : DqAll K H xs []) : xs = [] := by
  cases h
  rfl
theorem Dq.strV {K : PySem.W.Frag} {H : Hp} {v : V} {z : Str} (h : Dq K H v (.str z)) : v = .str z := by
  cases h
  rfl
theorem Dq.intV {K : PySem.W.Frag} {H : Hp} {v : V} {i : Int} (h : Dq K H v (.int i)) : v = .int i := by
  cases h
  rfl
theorem Dq.noneV {K : PySem.W.Frag} {H : Hp} {v : V} (h : Dq K H v .none) : v = .non := by
  cases h
  rfl
/-- a call: a new pair of a state and a sign -/
def CallV (z : Str) (n : Nat) (H : Hp) (x : V) : Prop := ∃ (p : Addr) (i c : Nat), x = .ref p ∧ H p = some (.tup [.int (i : Int), .str (Ls.one c)]) ∧ i < n ∧ c ∈ z.cps.toList
theorem CallV.mono {z : Str} {n : Nat} {H H' : Hp} {x : V} (h : CallV z n H x) (s : Same H H') : CallV z n H' x := by
  obtain ⟨p, i, c, e, t, r⟩ := h
  exact ⟨p, i, c, e, s _ _ t, r⟩
def CallsL (z : Str) (n : Nat) (H : Hp) (l : Addr) (k : Nat) : Prop := ∃ xs, H l = some (.lst xs) ∧ xs.length ≤ k ∧ ∀ x ∈ xs, CallV z n H x
theorem CallsL.mono {z : Str} {n k : Nat} {H H' : Hp} {l : Addr} (h : CallsL z n H l k) (s : Same H H') : CallsL z n H' l k := by
  obtain ⟨xs, e, hl, q⟩ := h
  exact ⟨xs, s _ _ e, hl, fun x hx => (q x hx).mono s⟩
/-- an expander as it lies -/
structure ExpV (K : PySem.W.Frag) (H : Hp) (v : V) (z f : Str) (ss : List PyData) : Prop where
  it : ∃ a y t xs, v = .ref a ∧ SqT K H a [.str z, .str f, .ref t] ∧ y = V.ref t ∧ SqT K H t xs ∧ DqAll K H xs ss
theorem expV_of {K : PySem.W.Frag} {H : Hp} {v : V} {z f : Str} {ss : List PyData} (h : Dq K H v (.tuple [.str z, .str f, .tuple ss])) :
    ∃ a t xs, v = .ref a ∧ SqT K H a [.str z, .str f, .ref t] ∧ SqT K H t xs ∧ DqAll K H xs ss := by
  obtain ⟨a, xs, rfl, h1, h2⟩ := h.items
  obtain ⟨x, ys, rfl, hx, h2⟩ := h2.one
  obtain ⟨y, ys, rfl, hy, h2⟩ := h2.one
  obtain ⟨u, ys, rfl, hu, h2⟩ := h2.one
  obtain rfl := h2.none
  obtain rfl := hx.strV
  obtain rfl := hy.strV
  obtain ⟨t, zs, rfl, h3, h4⟩ := hu.items
  exact ⟨a, t, zs, rfl, h1, h3, h4⟩
end Lk
namespace Lk
open PySem PySem.Spec PyProof.Rows L2 G
theorem unit1 {n : Nat} (h : n + 64 < cLine) : n + 1 < cLine := Nat.lt_of_le_of_lt (by omega) h
/-- the place of a sign of z -/
theorem place_of {z : Str} {c : Nat} (h : c ∈ z.cps.toList) : ∃ i rest, Builtin.Str.occurrences z (Ls.one c) 0 z.length 1 = i :: rest ∧ i < z.length := by
  have e := PySem.StrLaws.found_one z c
  rw [decide_eq_true h] at e
  cases q : Builtin.Str.occurrences z (Ls.one c) 0 z.length 1 with
  | nil =>
    have e' : (!(Builtin.Str.occurrences z (Ls.one c) 0 z.length 1).isEmpty) = true := e
    rw [q] at e'
    cases e'
  | cons i rest =>
    have s := (PySem.StrLaws.occ_spec z (Ls.one c) 0 z.length 1 i (by rw [q]; exact List.mem_cons_self ..)).1
    have l : (Ls.one c).length = 1 := rfl
    exact ⟨i, rest, rfl, by omega⟩
/-- what stands at a call: how many signs, and the state or nothing -/
def SizeV (H : Hp) (v : V) : Prop := ∃ (p : Addr) (a : Int) (h : V), v = .ref p ∧ H p = some (.tup [.int a, h]) ∧ (h = .non ∨ ∃ g : Int, h = .int g)
theorem SizeV.mono {H H' : Hp} {v : V} (h : SizeV H v) (s : Same H H') : SizeV H' v := by
  obtain ⟨p, a, x, e, t, r⟩ := h
  exact ⟨p, a, x, e, s _ _ t, r⟩
def Sizes (H : Hp) (d : Addr) (k : Nat) : Prop := ∃ kvs : List (List Key × V), H d = some (.dT kvs) ∧ kvs.length ≤ k ∧ ∀ kv ∈ kvs, SizeV (sans H d) kv.2
theorem Sizes.mono {H H' : Hp} {d : Addr} {k k' : Nat} (h : Sizes H d k) (s : Same H H') (hk : k ≤ k') : Sizes H' d k' := by
  obtain ⟨kvs, e, l, q⟩ := h
  exact ⟨kvs, s _ _ e, Nat.le_trans l hk, fun kv hkv => (q kv hkv).mono (Sm.of s)⟩
theorem val_mem {kvs : List (List Key × V)} {k : List Key} {v : V} (h : valV kvs k = some v) : ∃ kv ∈ kvs, kv.2 = v := by
  unfold valV at h
  rw [Option.map_eq_some_iff] at h
  obtain ⟨kv, e, r⟩ := h
  exact ⟨kv, List.mem_of_find?_eq_some e, r⟩
theorem put_mem {kvs : List (List Key × V)} {k : List Key} {v : V} {kv : List Key × V} (h : kv ∈ putK kvs k v) : kv ∈ kvs ∨ kv.2 = v := by
  unfold putK at h
  split at h
  · obtain ⟨x, hx, e⟩ := List.mem_map.mp h
    split at e
    · right
      rw [← e]
    · left
      rw [← e]
      exact hx
  · rcases List.mem_append.mp h with z | z
    · exact .inl z
    · right
      rw [List.mem_singleton.mp z]
end Lk
namespace Lk
open PySem PySem.Spec PyProof.Rows L2 G
theorem Sm.same_of {d : Addr} {H H1 H2 : Hp} (s : Same H H1) (sm : Sm d H1 H2) (nd : H d = none) : Same H H2 := fun b o e =>
  (sans_some (sm b o (sans_of (fun z => by
    rw [z, nd] at e
    cases e) (s b o e)))).2
theorem Sm.at_ {d b : Addr} {H1 H2 : Hp} {o : HO} (sm : Sm d H1 H2) (n : b ≠ d) (e : H1 b = some o) : H2 b = some o := (sans_some (sm b o (sans_of n e))).2
/-- the parts of a drawn state -/
theorem stateV {K : PySem.W.Frag} {H : Hp} {z : Str} {n : Nat} {x : V} {d : PyData} (h : Dq K H x d) (s : StateD z n d) : ∃ (p m : Addr) (l : V) (ms : List V) (es : List PyData),
    x = .ref p ∧ SqT K H p [.ref m, l] ∧ SqT K H m ms ∧ DqAll K H ms es ∧ es.length = z.length ∧ (∀ e ∈ es, MoveD z n e) := by
  obtain ⟨es, l, rfl, hl, hm, _⟩ := s
  obtain ⟨p, xs, rfl, h1, h2⟩ := h.items
  obtain ⟨y, ys, rfl, hy, h2⟩ := h2.one
  obtain ⟨u, ys, rfl, hu, h2⟩ := h2.one
  obtain rfl := h2.none
  obtain ⟨m, ms, rfl, h3, h4⟩ := hy.items
  exact ⟨p, m, u, ms, es, rfl, h1, h3, h4, hl, hm⟩
/-- the parts of a drawn move -/
theorem moveV {K : PySem.W.Frag} {H : Hp} {z : Str} {n : Nat} {x : V} {d : PyData} (h : Dq K H x d) (s : MoveD z n d) : x = .non ∨ ∃ (p : Addr) (a b : Str) (g : Nat),
    x = .ref p ∧ SqT K H p [.str a, .str b, .int (g : Int)] ∧ WordOf z a 3 ∧ WordOf z b 3 ∧ g < n := by
  rcases s with rfl | ⟨a, b, g, rfl, ha, hb, hg⟩
  · exact .inl h.noneV
  · obtain ⟨p, ps, rfl, hp, hp2⟩ := h.items
    obtain ⟨x1, ps, rfl, hx1, hp2⟩ := hp2.one
    obtain ⟨x2, ps, rfl, hx2, hp2⟩ := hp2.one
    obtain ⟨x3, ps, rfl, hx3, hp2⟩ := hp2.one
    obtain rfl := hp2.none
    obtain rfl := hx1.strV
    obtain rfl := hx2.strV
    obtain rfl := hx3.intV
    exact .inr ⟨p, a, b, g, rfl, hp, ha, hb, hg⟩
theorem dqAll_at {K : PySem.W.Frag} {H : Hp} {xs : List V} {ds : List PyData} {i : Nat} (h : DqAll K H xs ds) (hi : i < ds.length) : ∃ x d, xs[i]? = some x ∧ d ∈ ds ∧ Dq K H x d := by
  have hx : i < xs.length := by rw [h.length]; exact hi
  have e := List.getElem?_eq_getElem hx
  obtain ⟨d, _, m, _, q⟩ := dqAll_get' h e
  exact ⟨xs[i], d, e, m, q⟩
/-- here: nothing, or a state -/
def HereV (v : V) : Prop := v = .non ∨ ∃ g : Int, v = .int g
end Lk
namespace Lk
open PySem PySem.Spec PyProof.Rows L2 G
theorem unit0 {n : Nat} (h : n + 64 < cLine) : n < cLine := Nat.lt_of_le_of_lt (by omega) h
theorem sans_upd {H : Hp} {a b : Addr} {o : HO} (n : b ≠ a) : sans (upd H b o) a = upd (sans H a) b o := by
  funext x
  by_cases e : x = b
  · subst e
    rw [sans_ne n, upd_same, upd_same]
  · by_cases e2 : x = a
    · subst e2
      rw [sans_self, upd_ne e, sans_self]
    · rw [sans_ne e2, upd_ne e, upd_ne e, sans_ne e2]
/-- data that lie outside the pot and one list -/
abbrev out2 (H : Hp) (a b : Addr) : Hp := sans (sans H a) b
theorem out2_sm {H H' : Hp} {a b : Addr} (s : Sm a H H') : Same (out2 H a b) (out2 H' a b) := Sm.of s
theorem out2_upd {H : Hp} {a b : Addr} {o : HO} (n : b ≠ a) : Same (out2 H a b) (out2 (upd H b o) a b) := by
  unfold out2
  rw [sans_upd n]
  exact Sm.pot
theorem signs_a : SignsD "a" := by unfold SignsD SignsP; decide +kernel
theorem signs_ab : SignsD "ab" := by unfold SignsD SignsP; decide +kernel
theorem signs_bz : SignsD "bz" := by unfold SignsD SignsP; decide +kernel
theorem signs_abc : SignsD "abc" := by unfold SignsD SignsP; decide +kernel
theorem signs_abcz : SignsD "abcz" := by unfold SignsD SignsP; decide +kernel
theorem word_tx {z : Str} {l : List Nat} {n : Nat} (h : l.length ≤ n) (hc : ∀ c ∈ l, c ∈ z.cps.toList) : WordOf z (tx l) n := ⟨by rw [tx_len]; exact h, fun c h => hc c (by rw [tx_codes] at h; exact h)⟩
theorem word_empty (z : Str) (n : Nat) : WordOf z "" n := ⟨Nat.zero_le _, fun c h => by cases h⟩
theorem val_some {kvs : List (List Key × V)} {k : List Key} {v : V} (h : (k, v) ∈ kvs) : ∃ w, valV kvs k = some w := by
  have e := valV_any k kvs
  have t : (kvs.any fun kv => decide (kv.1 = k)) = true := List.any_eq_true.mpr ⟨(k, v), h, decide_eq_true rfl⟩
  rw [t] at e
  exact Option.isSome_iff_exists.mp e.symm
/-- a list that grows behind the pot; its items lie outside it, the pot and X -/
abbrev out3 (H : Hp) (a M X : Addr) : Hp := sans (out2 H a M) X
theorem out3_sm {H H' : Hp} {a M X : Addr} (s : Sm a H H') : Same (out3 H a M X) (out3 H' a M X) := Sm.of (out2_sm s)
structure Grows (K : PySem.W.Frag) (H : Hp) (a M X : Addr) (n : Nat) (G : PyData → Prop) : Prop where
  it : ∃ us es, H M = some (.lst us) ∧ us.length = n ∧ DqAll K (out3 H a M X) us es ∧ ∀ e ∈ es, G e
theorem Grows.sm {K : PySem.W.Frag} {H H' : Hp} {a M X : Addr} {n : Nat} {G : PyData → Prop} (h : Grows K H a M X n G) (ne : M ≠ a) (s : Sm a H H') : Grows K H' a M X n G := by
  obtain ⟨us, es, e, l, d, q⟩ := h.it
  exact ⟨us, es, s.at_ ne e, l, d.mono (out3_sm s), q⟩
theorem Grows.new {K : PySem.W.Frag} {H : Hp} {a M X : Addr} {G : PyData → Prop} (h : H M = some (.lst [])) : Grows K H a M X 0 G := ⟨[], [], h, rfl, .nil, fun _ h => (List.not_mem_nil h).elim⟩
theorem Grows.add {K : PySem.W.Frag} {H : Hp} {a M X : Addr} {n : Nat} {G : PyData → Prop} (h : Grows K H a M X n G) (ne : M ≠ a) {x : V} {d : PyData} (hx : Dq K (out3 H a M X) x d) (hG : G d) :
    ∃ us, H M = some (.lst us) ∧ us.length = n ∧ Grows K (L2.upd H M (.lst (us ++ [x]))) a M X (n + 1) G := by
  obtain ⟨us, es, e, l, dd, q⟩ := h.it
  refine ⟨us, e, l, us ++ [x], es ++ [d], upd_same, by rw [List.length_append, l]; rfl, (dd.append (.cons hx .nil)).mono (Sm.of (out2_upd ne)), fun y hy => ?_⟩
  rcases List.mem_append.mp hy with z | z
  · exact q y z
  · rw [List.mem_singleton.mp z]
    exact hG
/-- a new tuple lies outside them -/
theorem out3_tup {K : PySem.W.Frag} {H : Hp} {a M X p : Addr} {xs : List V} (pa : p ≠ a) (pM : p ≠ M) (pX : p ≠ X) : SqT K (out3 (upd H p (.tup xs)) a M X) p xs := SqT.of (sans_of pX (sans_of pM (sans_of pa upd_same)))
theorem out3_swap {H : Hp} {a M X : Addr} : Same (out3 H a M X) (out3 H a X X) := fun b o e => by
  obtain ⟨n1, e1⟩ := sans_some e
  obtain ⟨n2, e2⟩ := sans_some e1
  exact sans_of n1 (sans_of n1 e2)
theorem out3_in {H : Hp} {a M X : Addr} : Same (out3 H a M X) (sans H a) := Same.trans sans_same sans_same
end Lk
namespace Lk
open PySem PySem.Spec PyProof.Rows L2 G
theorem seqT_out {K : PySem.W.Frag} {H : Hp} {a D : Addr} {xs ys : List V} (h : SqT K H a xs) (hD : H D = some (.lst ys)) : SqT K (sans H D) a xs := by
  rcases h with (h | ⟨o, h⟩) | h
  · exact .inl (.inl (sans_of (fun z => by
      rw [z, hD] at h
      cases h) h))
  · exact .inl (.inr ⟨o, sans_of (fun z => by
      rw [z, hD] at h
      cases h) h⟩)
  · exact .inr h
mutual
/-- data without a list lie outside any list -/
theorem Dq.out {K : PySem.W.Frag} {H : Hp} {D : Addr} {ys : List V} (hD : H D = some (.lst ys)) : ∀ {v : V} {d : PyData}, Dq K H v d → hasList d = false → Dq K (sans H D) v d
  | _, _, .non, _ => .non
  | _, _, .bl b, _ => .bl b
  | _, _, .int i, _ => .int i
  | _, _, .str x, _ => .str x
  | _, _, .lst h t, n => by
    unfold hasList at n
    cases n
  | _, _, .tup h t, n => .tup (seqT_out h hD) (DqAll.out hD t (by
    unfold hasList at n
    exact n))
  | _, _, .emp h, _ => .emp (sans_of (fun z => by
      rw [z, hD] at h
      cases h) h)
theorem DqAll.out {K : PySem.W.Frag} {H : Hp} {D : Addr} {ys : List V} (hD : H D = some (.lst ys)) : ∀ {vs : List V} {ds : List PyData}, DqAll K H vs ds → hasListAll ds = false → DqAll K (sans H D) vs ds
  | _, _, .nil, _ => .nil
  | _, _, .cons h t, n => by
    unfold hasListAll at n
    obtain ⟨n1, n2⟩ := Bool.or_eq_false_iff.mp n
    exact .cons (Dq.out hD h n1) (DqAll.out hD t n2)
end
theorem hasListAll_of : ∀ {ds : List PyData}, (∀ d ∈ ds, hasList d = false) → hasListAll ds = false
  | [], _ => by unfold hasListAll; rfl
  | d :: ds, h => by
    unfold hasListAll
    rw [h d (List.mem_cons_self ..), hasListAll_of fun e he => h e (List.mem_cons_of_mem _ he)]
    rfl
theorem MoveD.flat {z : Str} {n : Nat} {d : PyData} (h : MoveD z n d) : hasList d = false := by
  rcases h with rfl | ⟨a, b, g, rfl, _⟩
  · unfold hasList
    rfl
  · simp [hasList, hasListAll]
theorem StateD.flat {z : Str} {n : Nat} {d : PyData} (h : StateD z n d) : hasList d = false := by
  obtain ⟨ms, l, rfl, _, hm, hl⟩ := h
  have e1 : hasListAll ms = false := hasListAll_of fun d hd => (hm d hd).flat
  have e2 : hasList l = false := by
    rcases hl with rfl | ⟨w, rfl, _⟩ <;> simp [hasList]
  simp [hasList, hasListAll, e1, e2]
theorem ExpD.flat {d : PyData} (h : ExpD d) : hasList d = false := by
  obtain ⟨z, f, ss, rfl, _, _, _, _, hs⟩ := h
  have e1 : hasListAll ss = false := hasListAll_of fun d hd => (hs d hd).flat
  simp [hasList, hasListAll, e1]
end Lk

/-! A text backwards. -/
namespace Lk
open PySem PySem.Spec PyProof.Rows L2
def revS (z : Str) : Str := ⟨z.cps.toList.reverse.toArray⟩
theorem revS_len (z : Str) : (revS z).length = z.length := by
  show (z.cps.toList.reverse.toArray).size = z.cps.size
  simp
theorem rev_picked (z : Str) : ((Builtin.Str.strSliceIndices none none (-1) z.length).filterMap (z.cps[·]?)).toArray = z.cps.toList.reverse.toArray := by
  have e : Builtin.Str.strSliceIndices none none (-1) z.length = sliceRange ((z.cps.size : Int) - 1) (-1) (-1) := rfl
  rw [e, PySem.W.krv_sliceRange, PySem.W.krv_range, List.filterMap_reverse, PySem.W.krv_all]
def tRevS (te : TE) : TE := fun σ H Q => te σ H fun x H1 => ∃ z, x = .str z ∧ z.length ≤ sizeLine ∧ Q (.str (revS z)) H1
section
variable {X : Cx}
theorem pe_revS {e : Expr} {te : TE} {k : Nat} {p1 p2 p3 pos : Pos} (he : PE X e te) : PE X (.Subscript e (.Slice none none (some (.UnaryOp .USub (.Constant (.int 1) k p1) p2)) p3) pos) (tRevS te) := by
  refine ⟨fun pins s σ H Q I h => ?_⟩
  refine Subscript_ (thn (he.run pins s σ H _ I h) fun v s1 ⟨x, H1, I1, r1, q1⟩ => ?_)
  obtain ⟨z, ex, hz, q⟩ := q1
  subst ex
  obtain ⟨t, rfl⟩ := r1
  have hst : PO X (some (.UnaryOp .USub (.Constant (.int 1) k p1) p2)) (tPart (tUn (rU fun i => .int (-i)) (tC (.int 1)))) := po_some (pe_un un_neg pe_int)
  refine wpAny_Slice (thn (po_none.run pins s1 σ H1 (fun o H2 => o = none ∧ H2 = H1) I1 ⟨rfl, rfl⟩) fun vl s2 ⟨l, H2, I2, pl, el, e2⟩ => ?_)
  subst el e2
  refine thn (po_none.run pins s2 σ H2 (fun o H3 => o = none ∧ H3 = H2) I2 ⟨rfl, rfl⟩) fun vu s3 ⟨u, H3, I3, pu, eu, e3⟩ => ?_
  subst eu e3
  refine thn (hst.run pins s3 σ H3 (fun o H4 => o = some (-1) ∧ H4 = H3) I3 ⟨1, rfl, -1, rfl, rfl, rfl⟩) fun vs s4 ⟨o, H4, I4, ps, eo, e4⟩ => ?_
  subst eo e4
  have I5 : Inv X pins σ H4 { s4 with heap := s4.heap.push { cls := .type "slice", data := .fields #[vl, vu, vs] } } := I4.kept (t' := s4.toks) fun b ob q => Heap.get?_push_of_some _ q
  show wpAny (model X.prog X.w) X.A (subscriptTail e (.Slice none none (some (.UnaryOp .USub (.Constant (.int 1) k p1) p2)) p3) (.str z t) (.ref s4.heap.objs.size)) (EP X pins σ Q) X.xe { s4 with heap := s4.heap.push { cls := .type "slice", data := .fields #[vl, vu, vs] } }
  refine tail_any (ops := [.str z t, .ref s4.heap.objs.size]) (typeIs_str _ _ _) (F.slot_str_getitem.lookup) ?_ (by with_unfolding_all rfl)
  obtain ⟨l, rfl, el⟩ := IsPart.raw pl
  obtain ⟨u, rfl, eu⟩ := IsPart.raw pu
  obtain ⟨w, rfl, ew⟩ := IsPart.raw ps
  cases l with
  | some l => cases el
  | none =>
    cases u with
    | some u => cases eu
    | none =>
      cases w with
      | none => cases ew
      | some w =>
        obtain ⟨w, tw⟩ := w
        have e1 : w = -1 := by
          first | exact Option.some.inj ew | exact (Option.some.inj ew).symm
        subst e1
        refine wpAny_getItem_str_slice (l := none) (u := none) (st := some (-1, tw)) ⟨_, Heap.get?_push_size _ rfl, rfl, rfl⟩ rfl ?_
        show Made.post (if ((-1 : Int) == 1 && _) = true then Made.val (.str z t) else Made.str ⟨((Builtin.Str.strSliceIndices none none (-1) z.length).filterMap (z.cps[·]?)).toArray⟩) (EP X pins σ Q) _
        rw [if_neg (by simp), rev_picked]
        exact ⟨by show (revS z).length ≤ sizeLine; rw [revS_len]; exact hz, .str (revS z), H4, I5.tok _, ⟨_, rfl⟩, q⟩
end
end Lk

/-! How large and deep data are; parts and sums of tuples of data behind a pot. -/
namespace Lk
open PySem PySem.Spec PyProof.Rows L2 G
/-- k: without dicts, else without lists; so deep, so heavy at most -/
structure Qk (k : Bool) (n B : Nat) (d : PyData) : Prop where
  leaves : d.leavesShort 13 = true
  shape : d.showable = true
  depth : d.depth ≤ n
  weight : d.weight ≤ B
  noD : k = true → d.hasDict = false
  noL : k = false → hasList d = false
theorem Qk.mono {k : Bool} {n n' B B' : Nat} {d : PyData} (h : Qk k n B d) (hn : n ≤ n') (hB : B ≤ B') : Qk k n' B' d :=
  ⟨h.leaves, h.shape, Nat.le_trans h.depth hn, Nat.le_trans h.weight hB, h.noD, h.noL⟩
theorem Qk.shows {k : Bool} {n B : Nat} {d : PyData} (h : Qk k n B d) (hn : n ≤ 60) (hB : B ≤ 1048576) : Shows d :=
  ⟨h.leaves, Nat.le_trans h.weight hB, h.shape, fun e => by
    cases k with
    | true =>
      rw [h.noD rfl] at e
      cases e
    | false => exact h.noL rfl, Nat.le_trans h.depth hn⟩
theorem Qk.light {k : Bool} {n B : Nat} {d : PyData} (h : Qk k n B d) (hB : B ≤ 1048576) : Light d := Nat.le_trans h.weight hB
section
variable {k : Bool} {n B : Nat} {ds : List PyData}
theorem all_leaves : ∀ {ds : List PyData}, (∀ d ∈ ds, Qk k n B d) → PyData.leavesShortAll 13 ds = true
  | [], _ => by simp [PyData.leavesShortAll]
  | d :: ds, h => by
    simp only [PyData.leavesShortAll]
    rw [(h d (List.mem_cons_self ..)).leaves, all_leaves fun e he => h e (List.mem_cons_of_mem _ he)]
    rfl
theorem all_shape : ∀ {ds : List PyData}, (∀ d ∈ ds, Qk k n B d) → PyData.showableAll ds = true
  | [], _ => by simp [PyData.showableAll]
  | d :: ds, h => by
    simp only [PyData.showableAll]
    rw [(h d (List.mem_cons_self ..)).shape, all_shape fun e he => h e (List.mem_cons_of_mem _ he)]
    rfl
theorem all_depth : ∀ {ds : List PyData}, (∀ d ∈ ds, Qk k n B d) → PyData.depthAll ds ≤ n
  | [], _ => by simp [PyData.depthAll]
  | d :: ds, h => by
    simp only [PyData.depthAll]
    exact Nat.max_le.mpr ⟨(h d (List.mem_cons_self ..)).depth, all_depth fun e he => h e (List.mem_cons_of_mem _ he)⟩
theorem all_weight : ∀ {ds : List PyData}, (∀ d ∈ ds, Qk k n B d) → PyData.weightAll ds ≤ ds.length * (B + 1)
  | [], _ => by simp [PyData.weightAll]
  | d :: ds, h => by
    have h1 := (h d (List.mem_cons_self ..)).weight
    have h2 := all_weight fun e he => h e (List.mem_cons_of_mem _ he)
    simp only [PyData.weightAll]
    rw [List.length_cons, Nat.succ_mul]
    omega
theorem all_noD : ∀ {ds : List PyData}, (∀ d ∈ ds, Qk true n B d) → PyData.hasDictAll ds = false
  | [], _ => by simp [PyData.hasDictAll]
  | d :: ds, h => by
    simp only [PyData.hasDictAll]
    rw [(h d (List.mem_cons_self ..)).noD rfl, all_noD fun e he => h e (List.mem_cons_of_mem _ he)]
    rfl
theorem Qk.tup {B' : Nat} (h : ∀ d ∈ ds, Qk k n B d) (hB : ds.length * (B + 1) ≤ B') : Qk k (n + 1) B' (.tuple ds) where
  leaves := by
    simp only [PyData.leavesShort]
    exact all_leaves h
  shape := by
    simp only [PyData.showable]
    exact all_shape h
  depth := by
    simp only [PyData.depth]
    have := all_depth h
    omega
  weight := by
    simp only [PyData.weight]
    exact Nat.le_trans (all_weight h) hB
  noD := fun e => by
    subst e
    simp only [PyData.hasDict]
    exact all_noD h
  noL := fun e => by
    subst e
    simp only [hasList]
    exact hasListAll_of fun d hd => (h d hd).noL rfl
theorem Qk.lst {B' : Nat} (h : ∀ d ∈ ds, Qk true n B d) (hB : ds.length * (B + 1) ≤ B') : Qk true (n + 1) B' (.list ds) where
  leaves := by
    simp only [PyData.leavesShort]
    exact all_leaves h
  shape := by
    simp only [PyData.showable]
    exact all_shape h
  depth := by
    simp only [PyData.depth]
    have := all_depth h
    omega
  weight := by
    simp only [PyData.weight]
    exact Nat.le_trans (all_weight h) hB
  noD := fun _ => by
    simp only [PyData.hasDict]
    exact all_noD h
  noL := fun e => by cases e
end
theorem Qk.str {k : Bool} {n B : Nat} {z : Str} (h1 : z.length ≤ B) (h2 : ∀ c ∈ z.cps.toList, c < 1000) : Qk k n B (.str z) where
  leaves := by
    simp only [PyData.leavesShort]
    rw [List.all_eq_true]
    intro c hc
    exact decide_eq_true (Nat.lt_trans (h2 c hc) (by decide))
  shape := by simp only [PyData.showable]
  depth := by simp only [PyData.depth]; exact Nat.zero_le _
  weight := by simp only [PyData.weight]; exact h1
  noD := fun _ => by simp only [PyData.hasDict]
  noL := fun _ => by simp only [hasList]
theorem Qk.none {k : Bool} {n B : Nat} : Qk k n B .none where
  leaves := by simp only [PyData.leavesShort]
  shape := by simp only [PyData.showable]
  depth := by simp only [PyData.depth]; exact Nat.zero_le _
  weight := by simp only [PyData.weight]; exact Nat.zero_le _
  noD := fun _ => by simp only [PyData.hasDict]
  noL := fun _ => by simp only [hasList]
theorem Qk.bool {k : Bool} {n B : Nat} (b : Bool) : Qk k n B (.bool b) where
  leaves := by simp only [PyData.leavesShort]
  shape := by simp only [PyData.showable]
  depth := by simp only [PyData.depth]; exact Nat.zero_le _
  weight := by simp only [PyData.weight]; exact Nat.zero_le _
  noD := fun _ => by simp only [PyData.hasDict]
  noL := fun _ => by simp only [hasList]
theorem Qk.int {k : Bool} {n B : Nat} {i : Int} (h1 : -1 ≤ i) (h2 : i ≤ 4) (hB : 3 ≤ B) : Qk k n B (.int i) := by
  have all : i = -1 ∨ i = 0 ∨ i = 1 ∨ i = 2 ∨ i = 3 ∨ i = 4 := by omega
  have go : ∀ j : Int, (PyData.int j).leavesShort 13 = true → (PyData.int j).showable = true → (PyData.int j).weight ≤ 3 → Qk k n B (.int j) := fun j a b c =>
    ⟨a, b, by simp only [PyData.depth]; exact Nat.zero_le _, Nat.le_trans c hB, fun _ => by simp only [PyData.hasDict], fun _ => by simp only [hasList]⟩
  rcases all with rfl | rfl | rfl | rfl | rfl | rfl
  all_goals exact go _ (by unfold PyData.leavesShort; decide +kernel) (by unfold PyData.showable; decide +kernel) (by unfold PyData.weight; decide +kernel)
theorem Qk.emp {n B : Nat} (hn : 1 ≤ n) : Qk false n B (.dict []) where
  leaves := by unfold PyData.leavesShort PyData.leavesShortKv; rfl
  shape := by unfold PyData.showable PyData.showableKv; rfl
  depth := by unfold PyData.depth PyData.depthKv; exact hn
  weight := by unfold PyData.weight PyData.weightKv; exact Nat.zero_le _
  noD := fun e => by cases e
  noL := fun _ => by unfold hasList; rfl
/-- drawn parts are light -/
theorem WordOf.q {k : Bool} {n B m : Nat} {z w : Str} (h : WordOf z w m) (hz : ∀ c ∈ z.cps.toList, c < 1000) (hB : m ≤ B) : Qk k n B (.str w) := Qk.str (Nat.le_trans h.1 hB) fun c hc => hz c (h.2 c hc)
theorem MoveD.q {k : Bool} {z : Str} {m : Nat} {d : PyData} (h : MoveD z m d) (hz : ∀ c ∈ z.cps.toList, c < 1000) (hm : m ≤ 4) : Qk k 1 12 d := by
  rcases h with rfl | ⟨a, b, g, rfl, ha, hb, hg⟩
  · exact .none
  · refine Qk.tup (n := 0) (B := 3) (fun d hd => ?_) (by show 3 * 4 ≤ 12; decide)
    simp only [List.mem_cons, List.not_mem_nil, or_false] at hd
    rcases hd with rfl | rfl | rfl
    · exact ha.q hz (Nat.le_refl _)
    · exact hb.q hz (Nat.le_refl _)
    · exact .int (by omega) (by omega) (Nat.le_refl _)
theorem StateD.parts {k : Bool} {z : Str} {m : Nat} {ms : List PyData} {l : PyData} (h : StateD z m (.tuple [.tuple ms, l])) (hz : ∀ c ∈ z.cps.toList, c < 1000) (hm : m ≤ 4) :
    ms.length = z.length ∧ (∀ d ∈ ms, Qk k 1 12 d) ∧ Qk k 2 52 l := by
  obtain ⟨ms', l', e, h1, h2, h3⟩ := h
  injection e with e
  injection e with e1 e
  injection e with e2 _
  injection e1 with e1
  subst e1 e2
  refine ⟨h1, fun d hd => (h2 d hd).q hz hm, ?_⟩
  rcases h3 with rfl | ⟨w, rfl, hw⟩
  · exact .none
  · exact hw.q hz (by decide)
theorem StateD.q {k : Bool} {z : Str} {m : Nat} {d : PyData} (h : StateD z m d) (hz : ∀ c ∈ z.cps.toList, c < 1000) (hz4 : z.length ≤ 4) (hm : m ≤ 4) : Qk k 3 106 d := by
  obtain ⟨ms, l, rfl, _⟩ := id h
  obtain ⟨h1, h2, h3⟩ := h.parts (k := k) hz hm
  refine Qk.tup (n := 2) (B := 52) (fun d hd => ?_) (by show 2 * 53 ≤ 106; decide)
  simp only [List.mem_cons, List.not_mem_nil, or_false] at hd
  rcases hd with rfl | rfl
  · exact Qk.tup h2 (by rw [h1]; omega)
  · exact h3
end Lk
namespace Lk
open PySem PySem.Spec PyProof.Rows L2 G
theorem new_tup {K : PySem.W.Frag} {H : Hp} {a c p : Addr} {xs : List V} {ds : List PyData} (hp : PotAt H a c) (np : H p = none) (h : DqAll K (sans H a) xs ds) : Dq K (sans (upd H p (.tup xs)) a) (.ref p) (.tuple ds) :=
  .tup (SqT.of (sans_of (hp.ne np) upd_same)) (h.mono (Sm.new np))
theorem new_lst {K : PySem.W.Frag} {H : Hp} {a c p : Addr} {xs : List V} {ds : List PyData} (hp : PotAt H a c) (np : H p = none) (h : DqAll K (sans H a) xs ds) : Dq K (sans (upd H p (.lst xs)) a) (.ref p) (.list ds) :=
  .lst (SqL.of (sans_of (hp.ne np) upd_same)) (h.mono (Sm.new np))
theorem new_emp {K : PySem.W.Frag} {H : Hp} {a c p : Addr} (hp : PotAt H a c) (np : H p = none) : Dq K (sans (upd H p (.dK [])) a) (.ref p) (.dict []) :=
  .emp (sans_of (hp.ne np) upd_same)
theorem DqAll.nil_iff {K : PySem.W.Frag} {H : Hp} {xs : List V} {ds : List PyData} (h : DqAll K H xs ds) : xs = [] ↔ ds = [] := by
  cases h <;> simp
/-- t + u -/
theorem catP {K : PySem.W.Frag} {H : Hp} {a c : Addr} {x y : V} {ds es : List PyData} {Q : VK} (hp : PotAt H a c) (hx : Dq K (sans H a) x (.tuple ds)) (hy : Dq K (sans H a) y (.tuple es)) (hz : ds.length + es.length ≤ 100000)
    (q : ∀ (H' : Hp) (v : V), Same H H' → Dq K (sans H' a) v (.tuple (ds ++ es)) → Q v H') : rCatA K x y H Q := by
  obtain ⟨p, xs, rfl, h1, h2⟩ := hx.items
  obtain ⟨r, ys, rfl, h3, h4⟩ := hy.items
  refine ⟨p, r, xs, ys, rfl, rfl, seqT sans_same h1, seqT sans_same h3, ?_, fun e => ?_, fun e1 e2 => ?_, fun _ _ u nu => ?_⟩
  · rw [h2.length, h4.length]
    exact Nat.le_trans hz (by decide)
  · have e' := h2.nil_iff.mp e
    subst e'
    exact q H _ (Same.refl H) hy
  · have e' := h4.nil_iff.mp e2
    subst e'
    rw [List.append_nil] at q
    exact q H _ (Same.refl H) hx
  · exact q _ _ (same_new nu) (new_tup hp nu (h2.append h4))
theorem cutV_from (xs : List V) (n : Nat) : cutV xs (some (n : Int)) none = xs.drop n := by
  unfold cutV
  rw [HT.sIx_nat, HT.sIx_none]
  by_cases h : n ≤ xs.length
  · rw [Nat.min_eq_left h, List.take_of_length_le (by rw [List.length_drop] <;> omega)]
  · rw [Nat.min_eq_right (by omega), List.drop_eq_nil_of_le (Nat.le_refl _), List.drop_eq_nil_of_le (by omega), List.take_nil]
/-- t[:n], t[n:] -/
theorem slTo {K : PySem.W.Frag} {H : Hp} {a c : Addr} {x : V} {ds : List PyData} {n : Nat} {Q : VK} (hp : PotAt H a c) (hx : Dq K (sans H a) x (.tuple ds))
    (q : ∀ (H' : Hp) (v : V), Same H H' → Dq K (sans H' a) v (.tuple (ds.take n)) → Q v H') : rSlA K x none (some (n : Int)) H Q := by
  obtain ⟨p, xs, rfl, h1, h2⟩ := hx.items
  refine ⟨p, xs, rfl, seqT sans_same h1, fun e => ?_, fun _ u nu => ?_⟩
  · have e2 := e.2
    rw [HT.sIx_nat] at e2
    have e3 : ds.take n = ds := List.take_of_length_le (by rw [← h2.length]; omega)
    rw [e3] at q
    exact q H _ (Same.refl H) hx
  · rw [cutV_to]
    exact q _ _ (same_new nu) (new_tup hp nu (h2.take n))
theorem slFrom {K : PySem.W.Frag} {H : Hp} {a c : Addr} {x : V} {ds : List PyData} {n : Nat} {Q : VK} (hp : PotAt H a c) (hx : Dq K (sans H a) x (.tuple ds))
    (q : ∀ (H' : Hp) (v : V), Same H H' → Dq K (sans H' a) v (.tuple (ds.drop n)) → Q v H') : rSlA K x (some (n : Int)) none H Q := by
  obtain ⟨p, xs, rfl, h1, h2⟩ := hx.items
  refine ⟨p, xs, rfl, seqT sans_same h1, fun e => ?_, fun _ u nu => ?_⟩
  · have e1 := e.1
    rw [HT.sIx_nat] at e1
    have e3 : ds.drop n = ds := by
      by_cases z : n = 0
      · rw [z]
        rfl
      · have l : ds.length = 0 := by rw [← h2.length]; omega
        rw [List.eq_nil_of_length_eq_zero l, List.drop_nil]
    rw [e3] at q
    exact q H _ (Same.refl H) hx
  · rw [cutV_from]
    exact q _ _ (same_new nu) (new_tup hp nu (h2.drop n))
theorem DqAll.reps {K : PySem.W.Frag} {H : Hp} {xs : List V} {ds : List PyData} (h : DqAll K H xs ds) : ∀ n, DqAll K H (List.replicate n xs).flatten (List.replicate n ds).flatten
  | 0 => .nil
  | n + 1 => by
    rw [List.replicate_succ, List.flatten_cons, List.replicate_succ, List.flatten_cons]
    exact h.append (h.reps n)
/-- t * n -/
theorem repP {K : PySem.W.Frag} {H : Hp} {a c : Addr} {x : V} {ds : List PyData} {n : Nat} {Q : VK} (hp : PotAt H a c) (hx : Dq K (sans H a) x (.tuple ds)) (h0 : ds ≠ []) (h1 : ds.length ≤ 1000) (n2 : 2 ≤ n) (n3 : n ≤ 1000)
    (q : ∀ (H' : Hp) (v : V), Same H H' → Dq K (sans H' a) v (.tuple (List.replicate n ds).flatten) → Q v H') : rRepT K x (.int (n : Int)) H Q := by
  obtain ⟨p, xs, rfl, h2, h3⟩ := hx.items
  refine ⟨p, (n : Int), xs, rfl, rfl, seqT sans_same h2, fun e => h0 (h3.nil_iff.mp e), by omega, by omega, by rw [h3.length]; exact h1, fun u nu => ?_⟩
  rw [Int.toNat_natCast]
  exact q _ _ (same_new nu) (new_tup hp nu (h3.reps n))
end Lk
namespace Lk
open PySem PySem.Spec PyProof.Rows L2 G
theorem DqAll.mem {K : PySem.W.Frag} {H : Hp} : ∀ {xs : List V} {ds : List PyData} {x : V}, DqAll K H xs ds → x ∈ xs → ∃ d ∈ ds, Dq K H x d
  | _, _, _, .nil, h => (List.not_mem_nil h).elim
  | _, _, _, .cons h t, m => by
    rcases List.mem_cons.mp m with z | z
    · rw [z]
      exact ⟨_, List.mem_cons_self .., h⟩
    · obtain ⟨d, hd, q⟩ := DqAll.mem t z
      exact ⟨d, List.mem_cons_of_mem _ hd, q⟩
/-- one more item, in a heap that has grown -/
theorem DqAll.more {K : PySem.W.Frag} {H H' : Hp} {a : Addr} {xs : List V} {ds : List PyData} {x : V} {d : PyData} (h : DqAll K (sans H a) xs ds) (s : Same H H') (hx : Dq K (sans H' a) x d) : DqAll K (sans H' a) (xs ++ [x]) (ds ++ [d]) :=
  (h.mono (Sm.of s)).append (.cons hx .nil)
/-- some size or other -/
def Bad (n B : Nat) (d : PyData) : Prop := ∃ k, Qk k n B d
theorem Bad.of {k : Bool} {n B n' B' : Nat} {d : PyData} (h : Qk k n B d) (hn : n ≤ n') (hB : B ≤ B') : Bad n' B' d := ⟨k, h.mono hn hB⟩
def odds : List PyData := [.none, .int 0, .str "A", .str "ab c", .list [.str "a"], .tuple [.str "a"], .bool true, .str "y", .str (repS "a" 2001), .str "", .dict []]
theorem odds_bad : ∀ d ∈ odds, Bad 1 2001 d := by
  intro d hd
  have sa : ∀ k : Bool, ∀ e ∈ [PyData.str "a"], Qk k 0 1 e := fun k e he => by
    rw [List.mem_singleton.mp he]
    exact .str (by decide) (by decide +kernel)
  simp only [odds, List.mem_cons, List.not_mem_nil, or_false] at hd
  rcases hd with rfl | rfl | rfl | rfl | rfl | rfl | rfl | rfl | rfl | rfl | rfl
  · exact ⟨true, .none⟩
  · exact ⟨true, .int (by decide) (by decide) (by decide)⟩
  · exact ⟨true, .str (by decide) (by decide +kernel)⟩
  · exact ⟨true, .str (by decide) (by decide +kernel)⟩
  · exact ⟨true, (Qk.lst (sa true) (Nat.le_refl _)).mono (Nat.le_refl _) (by decide)⟩
  · exact ⟨true, (Qk.tup (sa true) (Nat.le_refl _)).mono (Nat.le_refl _) (by decide)⟩
  · exact ⟨true, .bool true⟩
  · exact ⟨true, .str (by decide) (by decide +kernel)⟩
  · refine ⟨true, .str (by rw [repS_len]; decide) fun c hc => ?_⟩
    have all : ∀ c ∈ ("a" : Str).cps.toList, c < 1000 := by decide +kernel
    exact all c (rep_mem hc)
  · exact ⟨true, .str (by decide) (by decide +kernel)⟩
  · exact ⟨false, .emp (Nat.le_refl _)⟩
end Lk
namespace Lk
open PySem PySem.Spec PyProof.Rows L2 G
theorem tup3 {k : Bool} {n B B' : Nat} {x y w : PyData} (hx : Qk k n B x) (hy : Qk k n B y) (hw : Qk k n B w) (hB : 3 * (B + 1) ≤ B') : Qk k (n + 1) B' (.tuple [x, y, w]) := by
  refine Qk.tup (n := n) (B := B) (fun d hd => ?_) hB
  simp only [List.mem_cons, List.not_mem_nil, or_false] at hd
  rcases hd with rfl | rfl | rfl
  · exact hx
  · exact hy
  · exact hw
theorem tup2 {k : Bool} {n B B' : Nat} {x y : PyData} (hx : Qk k n B x) (hy : Qk k n B y) (hB : 2 * (B + 1) ≤ B') : Qk k (n + 1) B' (.tuple [x, y]) := by
  refine Qk.tup (n := n) (B := B) (fun d hd => ?_) hB
  simp only [List.mem_cons, List.not_mem_nil, or_false] at hd
  rcases hd with rfl | rfl
  · exact hx
  · exact hy
theorem tup0 {k : Bool} {n B : Nat} : Qk k (n + 1) B (.tuple []) := Qk.tup (n := n) (B := B) (fun d hd => (List.not_mem_nil hd).elim) (by show 0 * _ ≤ _; omega)
theorem Bad.k {k : Bool} {n B : Nat} {d : PyData} (h : Qk k n B d) : Bad n B d := ⟨k, h⟩
theorem str_small {k : Bool} {n B : Nat} {z : Str} (h1 : z.length ≤ B) (h2 : ∀ c ∈ z.cps.toList, c < 1000) : Qk k n B (.str z) := Qk.str h1 h2
end Lk
namespace Lk
open PySem PySem.Spec PyProof.Rows L2 G
/-- the first item of a tuple of data -/
theorem Dq.head {K : PySem.W.Frag} {H : Hp} {x : V} {d : PyData} {ds : List PyData} (h : Dq K H x (.tuple (d :: ds))) : ∃ p y ys, x = .ref p ∧ SqT K H p (y :: ys) ∧ Dq K H y d := by
  obtain ⟨p, xs, rfl, h1, h2⟩ := h.items
  obtain ⟨y, ys, rfl, hy, _⟩ := h2.one
  exact ⟨p, y, ys, rfl, h1, hy⟩
/-- an item in the middle of a tuple put in -/
theorem mid_bad {k : Bool} {n B : Nat} {ds es : List PyData} {x d : PyData} (h1 : ∀ e ∈ ds, Qk k n B e) (h2 : ∀ e ∈ es, Qk k n B e) (hx : Qk k n B x) (h : d ∈ ds ++ [x] ++ es) : Qk k n B d := by
  rcases List.mem_append.mp h with h | h
  · rcases List.mem_append.mp h with h | h
    · exact h1 d h
    · rw [List.mem_singleton.mp h]
      exact hx
  · exact h2 d h
end Lk
namespace Lk
open PySem PySem.Spec PyProof.Rows L2 G
theorem repI {K : PySem.W.Frag} {H : Hp} {a c : Addr} {x : V} {ds : List PyData} {m : Int} {Q : VK} (n : Nat) (hm : (n : Int) = m) (hp : PotAt H a c) (hx : Dq K (sans H a) x (.tuple ds)) (h0 : ds ≠ []) (h1 : ds.length ≤ 1000) (n2 : 2 ≤ n) (n3 : n ≤ 1000)
    (q : ∀ (H' : Hp) (v : V), Same H H' → Dq K (sans H' a) v (.tuple (List.replicate n ds).flatten) → Q v H') : rRepT K x (.int m) H Q := by
  subst hm
  exact repP hp hx h0 h1 n2 n3 q
end Lk
namespace Lk
open PySem PySem.Spec PyProof.Rows L2 G
theorem slFromI {K : PySem.W.Frag} {H : Hp} {a c : Addr} {x : V} {ds : List PyData} {m : Int} {Q : VK} (n : Nat) (hm : (n : Int) = m) (hp : PotAt H a c) (hx : Dq K (sans H a) x (.tuple ds))
    (q : ∀ (H' : Hp) (v : V), Same H H' → Dq K (sans H' a) v (.tuple (ds.drop n)) → Q v H') : rSlA K x (some m) none H Q := by
  subst hm
  exact slFrom hp hx q
theorem slToI {K : PySem.W.Frag} {H : Hp} {a c : Addr} {x : V} {ds : List PyData} {m : Int} {Q : VK} (n : Nat) (hm : (n : Int) = m) (hp : PotAt H a c) (hx : Dq K (sans H a) x (.tuple ds))
    (q : ∀ (H' : Hp) (v : V), Same H H' → Dq K (sans H' a) v (.tuple (ds.take n)) → Q v H') : rSlA K x none (some m) H Q := by
  subst hm
  exact slTo hp hx q
end Lk
namespace Lk
theorem or_ways {c : Bool} {A R : Prop} (r : A) (h : A → R) : if c = true then A else R := by
  cases c with
  | true => exact r
  | false => exact h r
end Lk
namespace Lk
open PySem PySem.Spec PyProof.Rows L2 G
theorem DqAll.set {K : PySem.W.Frag} {H : Hp} {x : V} {d : PyData} (hx : Dq K H x d) : ∀ {xs : List V} {ds : List PyData} (i : Nat), DqAll K H xs ds → DqAll K H (xs.set i x) (ds.set i d)
  | _, _, _, .nil => .nil
  | _, _, 0, .cons _ t => .cons hx t
  | _, _, i + 1, .cons h t => .cons h (t.set hx i)
end Lk

/-! A tuple times a number from 1 on. -/
namespace Lk
open PySem PySem.Spec PyProof.Rows L2 G
theorem tuple_mul1 (l : Addr) (items : Array Value) (n : Nat) (sl : Array (Option Value)) (dd : Option Addr) (u : Tok) :
    Meets (Builtin.«tuple.__mul__» ⟨[.ref l, .int 1 u], []⟩) (fun _ R s => s.heap.get? l = some { cls := .type "tuple", dict := dd, data := .seq items n, slots := sl } ∧
      R (.ok (.ret (Value.ref l))) s) :=
  .of_wp fun prog w A R s h => by
    obtain ⟨hp, g, d, tk, os⟩ := s
    obtain ⟨hl, h⟩ := h
    have f1 := AutoSeq1.idx_int
    wp_walk using wpAny_loadPart' hl
    exact ⟨_, rfl, h⟩
def rRepU (K : PySem.W.Frag) : R2 := fun x y H Q => ∃ l k xs, x = .ref l ∧ y = .int k ∧ SqT K H l xs ∧ xs ≠ [] ∧ 1 ≤ k ∧ k ≤ 1000 ∧ xs.length ≤ 1000 ∧ (k = 1 → Q (.ref l) H) ∧ (2 ≤ k → ∀ p, H p = none → Q (.ref p) (upd H p (.tup (List.replicate k.toNat xs).flatten)))
section
variable {X : Cx}
theorem op_repU : OpR X (binaryOp .Mult) (rRepU X.K) := by
  intro pins s σ H x y v u Q I rx ry h
  obtain ⟨l, k, xs, rfl, rfl, hT, hne, h1, h2, hz, q1, q2⟩ := h
  by_cases hk : k = 1
  · subst hk
    cases rx
    obtain ⟨t, rfl⟩ := ry
    obtain ⟨its, r, ⟨⟨cls, dd, data, sl⟩, ho, hc, n, hd⟩, hs⟩ := I.tuple hT
    simp only at hc hd
    subst hc hd
    refine wpAny_binaryOp_repeat_ref (T := "tuple") (U := "int") (by decide) ⟨_, ho, rfl⟩ (fun s' => typeIs_int s' 1 t) noFill_tuple_mul F.fills_int_mul F.slot_int_rmul repeat_tuple F.slot_int_index.lookup
      (call_meets F.slot_int_rmul (typeIs_int s 1 t) F.entry_int_rmul (F.args_int_rmul_2 _ _) (int_rmul_tuple 1 t l its.toArray n dd sl)
        ⟨ho, rfl, ⟨_, ho, rfl⟩, call_meets F.slot_tuple_mul ⟨_, ho, rfl⟩ F.entry_tuple_mul (F.args_tuple_mul_2 _ _) (tuple_mul1 l its.toArray n sl dd t) ⟨ho, ?_⟩⟩)
    exact ⟨.ref l, H, I, rfl, q1 rfl⟩
  · exact op_repT pins s σ H _ _ v u Q I rx ry ⟨l, k, xs, rfl, rfl, hT, hne, by omega, h2, hz, q2 (by omega)⟩
end
/-- t * n, n from 1 on -/
theorem repU {K : PySem.W.Frag} {H : Hp} {a c : Addr} {x : V} {ds : List PyData} {m : Int} {Q : VK} (n : Nat) (hm : (n : Int) = m) (hp : PotAt H a c) (hx : Dq K (sans H a) x (.tuple ds)) (h0 : ds ≠ []) (h1 : ds.length ≤ 1000) (n1 : 1 ≤ n) (n3 : n ≤ 1000)
    (q : ∀ (H' : Hp) (v : V), Same H H' → Dq K (sans H' a) v (.tuple (List.replicate n ds).flatten) → Q v H') : rRepU K x (.int m) H Q := by
  subst hm
  obtain ⟨p, xs, rfl, h2, h3⟩ := hx.items
  refine ⟨p, (n : Int), xs, rfl, rfl, seqT sans_same h2, fun e => h0 (h3.nil_iff.mp e), by omega, by omega, by rw [h3.length]; exact h1, fun e => ?_, fun _ u nu => ?_⟩
  · obtain rfl : n = 1 := by omega
    rw [List.replicate_one, List.flatten_cons, List.flatten_nil, List.append_nil] at q
    exact q H _ (Same.refl H) hx
  · rw [Int.toNat_natCast]
    exact q _ _ (same_new nu) (new_tup hp nu (h3.reps n))
theorem rep_mem' {α : Type} {n : Nat} {l : List α} {x : α} (h : x ∈ (List.replicate n l).flatten) : x ∈ l := by
  obtain ⟨k, hk, hx⟩ := List.mem_flatten.mp h
  rw [(List.mem_replicate.mp hk).2] at hx
  exact hx
theorem rep_len {α : Type} {n : Nat} {l : List α} : (List.replicate n l).flatten.length = n * l.length := by
  rw [List.length_flatten, List.map_replicate, List.sum_replicate_nat]
end Lk
namespace Lk
open PySem PySem.Spec PyProof.Rows L2 G
/-- a pick from a new list of data -/
theorem pick_new {K : PySem.W.Frag} {H : Hp} {a c l : Addr} {xs : List V} {ds : List PyData} {Q : VK} (hp : Pot K H a c) (nl : H l = none) (h : DqAll K (sans H a) xs ds) (h0 : ds ≠ []) (h1 : ds.length < 1073741824)
    (q : ∀ (H' : Hp) (x : V) (d : PyData), Sm a H H' → Pot K H' a c → d ∈ ds → Dq K (sans H' a) x d → Q x H') : spPick K [.ref a, .ref l] (upd H l (.lst xs)) Q E0 := by
  refine ⟨a, c, .ref l, xs, rfl, hp.new nl, fun e => h0 (h.nil_iff.mp e), .inl ⟨l, rfl, SqL.of (sans_of (hp.ne nl) upd_same)⟩, by rw [h.length]; exact h1, fun H' x sm hp' hx => ?_⟩
  obtain ⟨d, hd, hq⟩ := h.mem hx
  have s : Sm a H H' := (Sm.new nl).trans sm
  exact q H' x d s hp' hd (hq.mono s)
/-- a text of data -/
def Txt (n : Nat) (z : Str) : Prop := z.length ≤ n ∧ ∀ c ∈ z.cps.toList, c < 1000
theorem Txt.q {k : Bool} {m n B : Nat} {z : Str} (h : Txt n z) (hB : n ≤ B) : Qk k m B (.str z) := .str (Nat.le_trans h.1 hB) h.2
theorem Txt.line {n : Nat} {z : Str} (h : Txt n z) (hn : n ≤ 1000000) : z.length ≤ sizeLine := Nat.le_trans h.1 (Nat.le_trans hn (by decide))
theorem txt_empty (n : Nat) : Txt n "" := ⟨Nat.zero_le _, fun c h => by cases h⟩
theorem Txt.rep {n m : Nat} {z : Str} (h : Txt n z) {B : Nat} (hB : m * n ≤ B) : Txt B (repS z m) := ⟨by
  rw [repS_len]
  exact Nat.le_trans (Nat.mul_le_mul (Nat.le_refl _) h.1) hB, fun c hc => h.2 c (rep_mem hc)⟩
end Lk
namespace Lk
open PySem PySem.Spec PyProof.Rows L2 G
/-- a new tuple of data behind the pot, the heap by a name -/
theorem tupK {K : PySem.W.Frag} {H : Hp} {a c p : Addr} {xs : List V} {ds : List PyData} (hp : Pot K H a c) (np : H p = none) (h : DqAll K (sans H a) xs ds) :
    ∃ H', H' = upd H p (.tup xs) ∧ Same H H' ∧ Dq K (sans H' a) (.ref p) (.tuple ds) ∧ Pot K H' a c := ⟨_, rfl, same_new np, new_tup hp.at_ np h, hp.new np⟩
theorem lstK {K : PySem.W.Frag} {H : Hp} {a c p : Addr} {xs : List V} {ds : List PyData} (hp : Pot K H a c) (np : H p = none) (h : DqAll K (sans H a) xs ds) :
    ∃ H', H' = upd H p (.lst xs) ∧ Same H H' ∧ Dq K (sans H' a) (.ref p) (.list ds) ∧ Pot K H' a c ∧ H' p = some (.lst xs) := ⟨_, rfl, same_new np, new_lst hp.at_ np h, hp.new np, upd_same⟩
theorem empK {K : PySem.W.Frag} {H : Hp} {a c p : Addr} (hp : Pot K H a c) (np : H p = none) :
    ∃ H', H' = upd H p (.dK []) ∧ Same H H' ∧ Dq K (sans H' a) (.ref p) (.dict []) ∧ Pot K H' a c := ⟨_, rfl, same_new np, new_emp hp.at_ np, hp.new np⟩
end Lk

/-! Clauses that keep the error under a name, several of them. -/
namespace Lk
open PySem PySem.Spec PyProof.Rows L2 G
abbrev Suite := Addr → Value → Option Addr → TS
/-- behind a clause its name is gone -/
def goneEnds (i : Nat) (D : Ends) : Ends where
  nx := fun z K => D.nx (z.set i none) K
  rt := D.rt
  bk := fun z K => D.bk (z.set i none) K
  ct := fun z K => D.ct (z.set i none) K
/-- what clauses with names wish of an error -/
def wClauses (K : PySem.W.Frag) (Wout : WX) (D : Ends) : List (Value × Nat × Suite) → WX
  | [] => Wout
  | (c, i, ts) :: r => fun cls d σ H => ∃ b, PySem.W.exmOne K cls c = some b ∧
      (b = true → ∀ a, H a = none → ts a cls d (goneEnds i D) (σ.set i (some (.ref a))) H) ∧ (b = false → wClauses K Wout D r cls d σ H)
inductive Clauses (X : Cx) : List ExceptHandler → List (Value × Nat × Suite) → Prop
  | none : Clauses X [] []
  | more {x n : Str} {c : Value} {i : Nat} {ts : Suite} {st : Stmt} {sts : List Stmt} {p1 p2 : Pos} {hds : List ExceptHandler} {l : List (Value × Nat × Suite)}
      (nm : Names X x c) (nd : X.N.Nodup) (sl : X.N[i]? = some n) (lo : X.env.kindOf n = some .local)
      (su : ∀ (a : Addr) (oe : Obj) (cls : Value) (d : Option Addr) (pn : List (Addr × Obj)), Zc cls d oe → (∃ vs, oe.data = .fields vs) → PSs (X.suite a ((a, oe) :: pn)) (st :: sts) (ts a cls d))
      (rest : Clauses X hds l) : Clauses X (.ExceptHandler (some (.Name x p1)) (some n) (st :: sts) p2 :: hds) ((c, i, ts) :: l)
section
variable {X : Cx} {body : List Stmt} {h₀ : ExceptHandler} {hds : List ExceptHandler} {l : List (Value × Nat × Suite)} {pos : Pos} {tb : WX → TS} {Wout : WX}
theorem ps_try_names (hs : X.stack = X.env :: X.outer) (hf : X.env.frame = some X.env.locals) (tk : Takes X Wout)
    (hb : ∀ (W : WX) (pn : List (Addr × Obj)) (xe : Value → Shared → Prop), Takes (X.tr pn xe) W → PassesOwn (model X.prog X.w) X.A X.env xe → PSs (X.tr pn xe) body (tb W))
    (cl : Clauses X (h₀ :: hds) l) : PS X (.Try body (h₀ :: hds) [] [] pos) (fun D σ H => tb (wClauses X.K Wout D l) D σ H) := by
  constructor
  intro pins s σ H D I h
  have ok := I.ok
  have fr : X.A.frames = some (X.env :: X.outer) := hs ▸ ok.frames
  let caught : Value → Shared → Prop := fun e s₁ => wpAny (model X.prog X.w) X.A (noteFrame e X.env)
    (fun _ s₂ => wpAny (model X.prog X.w) X.A (setFlight e none)
      (fun _ s₃ => wpAny (model X.prog X.w) X.A (handleBy e X.env (h₀ :: hds)) (SP X pins D) X.xe s₃) X.xe s₂) X.xe s₁
  have takes : Takes (X.tr (X.pn ++ pins) caught) (wClauses X.K Wout D l) := by
    rintro u s2 ⟨a, B, sI, pins2, σ2, H2, cls, d, rfl, J2, nb, up, sky, na, os, ag, wish⟩
    have J : Inv X pins σ2 H2 sI := J2.ofTry ok
    have sky2 : Sky B (X.env :: X.outer) a (Zc cls d) X.env.locals s2.heap := by
      rw [← hs]
      exact sky
    show wpAny (model X.prog X.w) X.A (noteFrame (.ref a) X.env) _ _ _
    refine Sky.land Zc.steady fr hf sky2 fun g land rise => ?_
    have J3 : Inv X pins σ2 H2 { s2 with heap := g } := J.landed nb land.1 (up.trans rise) os ag
    obtain ⟨oe, fs, there, zc, dt⟩ := land.there
    have out : a ∉ frs (X.env :: X.outer) := fun m => by
      obtain ⟨_, o, e, n⟩ := land.2.2.1.mem m
      cases there.symm.trans e
      exact n _ dt
    have out1 : a ≠ X.env.locals := fun z => out (List.mem_filterMap.mpr ⟨X.env, List.mem_cons_self .., by rw [hf, z]⟩)
    have out2 : a ∉ X.fs := fun m => by
      obtain ⟨e, me, q⟩ := List.mem_filterMap.mp m
      exact out (List.mem_filterMap.mpr ⟨e, List.mem_cons_of_mem _ me, q⟩)
    have inside := J3.suite there dt na out1 out2
    have steps : ∀ {hs2 : List ExceptHandler} {l2 : List (Value × Nat × Suite)}, Clauses X hs2 l2 → wClauses X.K Wout D l2 cls d σ2 H2 →
        wpAny (model X.prog X.w) X.A (handleBy (.ref a) X.env hs2) (SP X pins D) X.xe { s2 with heap := g } := by
      intro hs2 l2 c2
      induction c2 with
      | none =>
        intro wish
        refine wpAny_handleBy_nil ?_
        obtain ⟨_, _, _, ob, us, T, _, _, hob, _, hdat, h1, _⟩ := id land
        have onward : wpAny (model X.prog X.w) X.A (setFlight (.ref a) X.env.frame)
            (fun _ s4 => wpAny (model X.prog X.w) X.A (throw (.ref a) : Sem Flow) (SP X pins D) X.xe s4) X.xe { s2 with heap := g } := by
          rw [hf]
          refine HandSPX.setFlight_upZ land fun g4 sk4 up4 => wpAny_throw (tk _ _ ?_)
          refine ⟨a, B, sI, pins, σ2, H2, cls, d, rfl, J, nb, (up.trans rise).trans up4, .inr (.inr ?_), na, os, ag, wish⟩
          rw [hs]
          exact sk4
        unfold PySem.passOn
        refine wpAny_bind (wpAny_field hob hdat h1 ?_)
        have ne : ¬ ((Value.ref T == Value.none) = true) := by simp
        rw [if_neg ne]
        first
          | exact wpAny_bind onward
          | exact wpAny_bind (wpAny_pure (wpAny_bind onward))
      | @more x n c i ts st sts p1 p2 hds2 l3 nm nd sl lo su rest ih =>
        rintro ⟨b, eb, yes, no⟩
        refine wpAny_handleBy_cons (codeAny_handlers_test ?_) (by intro q; cases q)
        have looks : PySem.W.Looks (model X.prog X.w) g (typeOf (.ref a)) cls := fun _ _ _ _ k q => wpAny_typeOf_ref (k _ _ there) (zc.1.symm ▸ q)
        have asks := PySem.W.exm_one (M := model X.prog X.w) J3.kIn looks eb
        have named : ∀ {Q E : Value → Shared → Prop}, Q c { s2 with heap := g } →
            wpAny (model X.prog X.w) (X.A.mark (some (.ref a))) (eval (.Name x p1) X.env) Q E { s2 with heap := g } := by
          intro Q E q
          obtain ⟨g1, g2, g3⟩ := nm
          rcases g3 with m | ⟨m, v, w⟩
          · exact ld_glob (X := X.suite a ((a, oe) :: (X.pn ++ pins))) inside g1 m q g2
          · exact ld_blt (X := X.suite a ((a, oe) :: (X.pn ++ pins))) inside g1 m v q w g2
        refine named (asks.here ?_)
        cases b with
        | false => exact ih (no rfl)
        | true =>
          refine codeAny_handlers_suite_as ?_
          refine HandSPX.lands_againZ land fun g4 land4 rise4 => ?_
          have J4 : Inv X pins σ2 H2 { s2 with heap := g4 } := J.landed nb land4.1 ((up.trans rise).trans rise4) os ag
          obtain ⟨oe4, fs4, there4, zc4, dt4⟩ := land4.there
          have S4 := J4.suite there4 dt4 na out1 out2
          refine store_ok (X := X.suite a ((a, oe4) :: (X.pn ++ pins))) (v := .ref a) S4 nd sl (.inl lo) rfl (fun s5 S5 => ?_) (.inr lo)
          refine wpAny_mono ((su a oe4 cls d (X.pn ++ pins) zc4 ⟨_, dt4⟩).run [] s5 _ H2 _ S5 (yes rfl a na)) (fun f s6 done => ?_) (fun _ _ z => z.elim)
          cases f with
          | next =>
            obtain ⟨_, _, S6, q6⟩ := done
            exact gone_ok (S6.unsuite ok) nd sl lo fun s7 J7 => ⟨_, _, J7, q6⟩
          | brk =>
            obtain ⟨_, _, S6, q6⟩ := done
            exact gone_ok (S6.unsuite ok) nd sl lo fun s7 J7 => ⟨_, _, J7, q6⟩
          | cont =>
            obtain ⟨_, _, S6, q6⟩ := done
            exact gone_ok (S6.unsuite ok) nd sl lo fun s7 J7 => ⟨_, _, J7, q6⟩
          | ret u =>
            obtain ⟨_, _, _, S6, r6, q6⟩ := done
            exact gone_ok (S6.unsuite ok) nd sl lo fun s7 J7 => ⟨_, _, _, J7, r6, q6⟩
    exact steps cl wish
  refine wpAny_Try_except ?_
  refine wpAny_mono ((hb _ (X.pn ++ pins) caught takes PassesOwn.looking).run [] s σ H D (I.toTry _) h) (fun f s1 done => ?_) (fun _ _ he => he)
  cases f with
  | next =>
    obtain ⟨_, _, J, q⟩ := done
    exact wpAny_execs_nil ⟨_, _, J.ofTry ok, q⟩
  | brk =>
    obtain ⟨_, _, J, q⟩ := done
    exact ⟨_, _, J.ofTry ok, q⟩
  | cont =>
    obtain ⟨_, _, J, q⟩ := done
    exact ⟨_, _, J.ofTry ok, q⟩
  | ret u =>
    obtain ⟨_, _, _, J, r, q⟩ := done
    exact ⟨_, _, _, J.ofTry ok, r, q⟩
end
end Lk

/-! Calls of defs that stand in a list; comprehensions with two walks; what expanders are made of. -/
namespace Lk
open PySem PySem.Spec PyProof.Rows L2 G
theorem exm_is {K : PySem.W.Frag} {S C : Addr} {b : Bool} (h1 : PySem.W.subIn K (.ref C) (.type "BaseException") = some true) (h2 : PySem.W.isClsIn K C = true)
    (h3 : PySem.W.typeIn K (.ref C) = some (Value.type "type")) (h4 : PySem.W.subIn K (.ref S) (.ref C) = some b) : PySem.W.exmOne K (.ref S) (.ref C) = some b := by
  have e1 : (PySem.W.subIn K (.ref C) (.type "BaseException") == some true) = true := by
    rw [h1] <;> rfl
  have e2 : ((PySem.W.clsIn K C).isSome && PySem.W.typeIn K (.ref C) == some (Value.type "type")) = true := by
    have h : (PySem.W.clsIn K C).isSome = true := h2
    rw [h, h3] <;> rfl
  show (if (PySem.W.subIn K (.ref C) (.type "BaseException") == some true) = true then (if ((PySem.W.clsIn K C).isSome && PySem.W.typeIn K (.ref C) == some (Value.type "type")) = true then PySem.W.subIn K (.ref S) (.ref C) else none) else none) = some b
  rw [if_pos e1, if_pos e2]
  exact h4
/-- a def with its promise, of a level up to k -/
structure HeldX (P : Program) (w : World) (K : PySem.W.Frag) (mg : Str → Option Value) (base : Heap) (k : Nat) (f : Addr) (sp : Sp) : Prop where
  ex : ∃ (fd : FuncData) (ps : List Str) (j : Nat), FnOk P w K mg base (L2.CX P w) j f fd ps sp ∧ j ≤ k ∧ PySem.W.keepIn K (.ref f) = true ∧ Binds K fd ps []
def tCallE (S : Addr → Sp → Prop) (E : XK) (t0 : TE) (t : TA) : TE := fun σ H Q => t0 σ H fun v H1 => ∃ f sp, v = .ref f ∧ S f sp ∧ t σ H1 fun vs H2 => sp vs H2 Q E
theorem eval_call_sub (o i : Expr) (p : Pos) (args : List Expr) (ks : List Keyword) (pos : Pos) (env : Env) :
    eval (.Call (.Subscript o i p) args ks pos) env = (do callWith pos (← eval (.Subscript o i p) env) [] (backTo pos (starEach args env)) (backToKw pos (keywordEach ks env))) := rfl
section
variable {X : Cx} {k : Nat} {E : XK} {o i e : Expr} {es : List Expr} {p pos : Pos} {t0 : TE} {t : TA} {S : Addr → Sp → Prop}
theorem pe_callE (A : ∀ f sp, S f sp → HeldX X.prog X.w X.K X.mg X.base k f sp) (hr : Room k X.A) (h0 : PE X (.Subscript o i p) t0) (hx : Passes (L2.CX X.prog X.w) X E) (ha : PA X (e :: es) t)
    (he : starEach (e :: es) X.env = (false, eval e X.env) :: starEach es X.env := by rfl) (hpl : (backTo pos (starEach es X.env)).any (·.1) = false := by rfl) :
    PE X (.Call (.Subscript o i p) (e :: es) [] pos) (tCallE S E t0 t) := by
  constructor
  intro pins s σ H Q I h
  rw [eval_call_sub]
  refine wpAny_bind (thn (h0.run pins s σ H _ I h) fun u s1 got => ?_)
  obtain ⟨v, H1, I1, r1, f, sp, rfl, hS, ht⟩ := got
  cases r1
  obtain ⟨fd, ps, j, F, hj, kp, b⟩ := (A f sp hS).ex
  refine PySem.W.callWith_K (h₀ := X.base) I1.ok.mod.kin kp (thn (ha.run pos pins s1 σ _ _ I1 ht) fun us s2 args => ?_) he hpl
  obtain ⟨vs, H2, I2, r, q⟩ := args
  refine ⟨I2.kIn, run_fn F (hr.mono hj) b .nil hx I2 r ?_⟩
  rw [List.append_nil]
  exact q
end
section
variable {K : PySem.W.Frag} {a b D : Addr} {xs ys : List V} {g g1 : TG} {tt tt1 : TT} {wi1 : TI} {te : TE} {vs vs1 : List Nat} {σ σ2 : L2.St} {H1 H4 : Hp} {Qd Nx : Hp → Prop}
/-- the outer walk of two, over a tuple -/
theorem lc2_out (Pv : Nat → Hp → Prop) (h0 : Pv 0 (upd H1 D (.lst []))) (hl : ∀ i H, i ≤ xs.length → Pv i H → SqT K H a xs)
    (hs : ∀ i x H, xs[i]? = some x → Pv i H → g x (wipe σ vs) H fun σ2 H2 => wipe σ2 vs = wipe σ vs ∧ tt σ2 H2 fun b H3 =>
      if b = true then wi1 σ2 H3 fun J1 H4 => ∃ W1 : Nat → Nat → Hp → Prop, (∃ m, W1 0 m H4) ∧ ∀ j k H, W1 j k H →
        (J1.stop j H ∧ Pv (i + 1) H) ∨ (J1.go j H ∧ ∃ Nx1 : Hp → Prop, (∀ H', Nx1 H' → ∃ k', k' < k ∧ W1 (j + 1) k' H') ∧ ∀ x H', J1.yld j H x H' → g1 x (wipe σ2 vs1) H' fun σ3 H5 => wipe σ3 vs1 = wipe σ2 vs1 ∧ tt1 σ3 H5 fun b H6 =>
          if b = true then te σ3 H6 fun y H7 => ∃ acc, H7 D = some (.lst acc) ∧ acc.length < sizeLine ∧ Nx1 (upd H7 D (.lst (acc ++ [y]))) else Nx1 H6)
      else Pv (i + 1) H3)
    (hd : ∀ H, Pv xs.length H → Qd H) :
    ∃ W : Nat → Nat → Hp → Prop, (∃ m, W 0 m (upd H1 D (.lst []))) ∧ ∀ i m H, W i m H →
      ((Itt K a).stop i H ∧ Qd H) ∨ ((Itt K a).go i H ∧ ∃ Nx : Hp → Prop, (∀ H', Nx H' → ∃ m', m' < m ∧ W (i + 1) m' H') ∧ ∀ x H', (Itt K a).yld i H x H' → g x (wipe σ vs) H' fun σ2 H2 => wipe σ2 vs = wipe σ vs ∧ tt σ2 H2 fun b H3 =>
        if b = true then wi1 σ2 H3 fun J1 H4 => ∃ W1 : Nat → Nat → Hp → Prop, (∃ m, W1 0 m H4) ∧ ∀ j k H, W1 j k H →
          (J1.stop j H ∧ Nx H) ∨ (J1.go j H ∧ ∃ Nx1 : Hp → Prop, (∀ H', Nx1 H' → ∃ k', k' < k ∧ W1 (j + 1) k' H') ∧ ∀ x H', J1.yld j H x H' → g1 x (wipe σ2 vs1) H' fun σ3 H5 => wipe σ3 vs1 = wipe σ2 vs1 ∧ tt1 σ3 H5 fun b H6 =>
            if b = true then te σ3 H6 fun y H7 => ∃ acc, H7 D = some (.lst acc) ∧ acc.length < sizeLine ∧ Nx1 (upd H7 D (.lst (acc ++ [y]))) else Nx1 H6)
        else Nx H3) := by
  refine ⟨fun i m H => m = xs.length - i ∧ i ≤ xs.length ∧ Pv i H, ⟨xs.length, rfl, Nat.zero_le _, h0⟩, ?_⟩
  rintro i m H ⟨rfl, le, p⟩
  have q := hl i H le p
  by_cases lt : i < xs.length
  · refine .inr ⟨⟨xs, xs[i], q, List.getElem?_eq_getElem lt⟩, Pv (i + 1), fun H' p' => ⟨_, by omega, rfl, lt, p'⟩, ?_⟩
    rintro x H' ⟨rfl, y⟩
    exact hs i x _ (y xs q) p
  · obtain rfl : i = xs.length := by omega
    exact .inl ⟨⟨xs, q, Nat.le_refl _⟩, hd H p⟩
/-- the inner walk of two, over a tuple -/
theorem lc2_in (Pw : Nat → Hp → Prop) (h0 : Pw 0 H4) (hl : ∀ j H, j ≤ ys.length → Pw j H → SqT K H b ys)
    (hs : ∀ j y H, ys[j]? = some y → Pw j H → g1 y (wipe σ2 vs1) H fun σ3 H5 => wipe σ3 vs1 = wipe σ2 vs1 ∧ tt1 σ3 H5 fun b H6 =>
      if b = true then te σ3 H6 fun y H7 => ∃ acc, H7 D = some (.lst acc) ∧ acc.length < sizeLine ∧ Pw (j + 1) (upd H7 D (.lst (acc ++ [y]))) else Pw (j + 1) H6)
    (hd : ∀ H, Pw ys.length H → Nx H) :
    ∃ W1 : Nat → Nat → Hp → Prop, (∃ m, W1 0 m H4) ∧ ∀ j k H, W1 j k H →
      ((Itt K b).stop j H ∧ Nx H) ∨ ((Itt K b).go j H ∧ ∃ Nx1 : Hp → Prop, (∀ H', Nx1 H' → ∃ k', k' < k ∧ W1 (j + 1) k' H') ∧ ∀ x H', (Itt K b).yld j H x H' → g1 x (wipe σ2 vs1) H' fun σ3 H5 => wipe σ3 vs1 = wipe σ2 vs1 ∧ tt1 σ3 H5 fun b H6 =>
        if b = true then te σ3 H6 fun y H7 => ∃ acc, H7 D = some (.lst acc) ∧ acc.length < sizeLine ∧ Nx1 (upd H7 D (.lst (acc ++ [y]))) else Nx1 H6) := by
  refine ⟨fun j m H => m = ys.length - j ∧ j ≤ ys.length ∧ Pw j H, ⟨ys.length, rfl, Nat.zero_le _, h0⟩, ?_⟩
  rintro j m H ⟨rfl, le, p⟩
  have q := hl j H le p
  by_cases lt : j < ys.length
  · refine .inr ⟨⟨ys, ys[j], q, List.getElem?_eq_getElem lt⟩, Pw (j + 1), fun H' p' => ⟨_, by omega, rfl, lt, p'⟩, ?_⟩
    rintro y H' ⟨rfl, z⟩
    exact hs j y _ (z ys q) p
  · obtain rfl : j = ys.length := by omega
    exact .inl ⟨⟨ys, q, Nat.le_refl _⟩, hd H p⟩
end
end Lk
namespace Lk
open PySem PySem.Spec PyProof.Rows L2 G
/-! ### data that == takes -/
structure Eqb (n : Nat) (d : PyData) : Prop where
  lay : d.canLay0 = true
  dep : d.depth ≤ n
theorem Eqb.mono {n m : Nat} {d : PyData} (h : Eqb n d) (e : n ≤ m) : Eqb m d := ⟨h.lay, Nat.le_trans h.dep e⟩
theorem Eqb.shaped {n : Nat} {d : PyData} (h : Eqb n d) (e : n ≤ 64) : SeqAt.shaped d = true := by
  unfold SeqAt.shaped
  rw [h.lay, decide_eq_true (Nat.le_trans h.dep e)]
  rfl
theorem Eqb.none {n : Nat} : Eqb n .none := ⟨by simp only [PyData.canLay0], by simp only [PyData.depth]; exact Nat.zero_le _⟩
theorem Eqb.bool {n : Nat} (b : Bool) : Eqb n (.bool b) := ⟨by simp only [PyData.canLay0], by simp only [PyData.depth]; exact Nat.zero_le _⟩
theorem Eqb.int {n : Nat} (i : Int) : Eqb n (.int i) := ⟨by simp only [PyData.canLay0], by simp only [PyData.depth]; exact Nat.zero_le _⟩
theorem Eqb.str {n : Nat} {z : Str} (h : ∀ c ∈ z.cps.toList, c < 1000) : Eqb n (.str z) := ⟨by
  simp only [PyData.canLay0]
  unfold PyData.strOk
  rw [Array.all_eq_true_iff_forall_mem]
  exact fun c hc => decide_eq_true (Nat.lt_trans (h c (Array.mem_toList_iff.mpr hc)) (by decide)), by simp only [PyData.depth]; exact Nat.zero_le _⟩
theorem eqb_all {n : Nat} : ∀ {ds : List PyData}, (∀ d ∈ ds, Eqb n d) → PyData.canLayAll0 ds = true ∧ PyData.depthAll ds ≤ n
  | [], _ => ⟨by simp only [PyData.canLayAll0], by simp only [PyData.depthAll]; exact Nat.zero_le _⟩
  | d :: ds, h => by
    obtain ⟨a, b⟩ := eqb_all (ds := ds) fun e he => h e (List.mem_cons_of_mem _ he)
    have c := h d (List.mem_cons_self ..)
    refine ⟨?_, ?_⟩
    · simp only [PyData.canLayAll0]
      rw [c.lay, a]
      rfl
    · simp only [PyData.depthAll]
      exact Nat.max_le.mpr ⟨c.dep, b⟩
theorem Eqb.tup {n : Nat} {ds : List PyData} (h : ∀ d ∈ ds, Eqb n d) : Eqb (n + 1) (.tuple ds) := ⟨by
  simp only [PyData.canLay0]
  exact (eqb_all h).1, by
  simp only [PyData.depth]
  have := (eqb_all h).2
  omega⟩
theorem Eqb.lst {n : Nat} {ds : List PyData} (h : ∀ d ∈ ds, Eqb n d) : Eqb (n + 1) (.list ds) := ⟨by
  simp only [PyData.canLay0]
  exact (eqb_all h).1, by
  simp only [PyData.depth]
  have := (eqb_all h).2
  omega⟩
mutual
theorem Dq.dp {K : PySem.W.Frag} {H : Hp} : ∀ {v : V} {d : PyData}, Dq K H v d → d.canLay0 = true → Dp K H v d
  | _, _, .non, _ => .non
  | _, _, .bl b, _ => .bl b
  | _, _, .int i, _ => .int i
  | _, _, .str x, _ => .str x
  | _, _, .lst h t, e => .lst h (DqAll.dp t (by simp only [PyData.canLay0] at e; exact e))
  | _, _, .tup h t, e => .tup h (DqAll.dp t (by simp only [PyData.canLay0] at e; exact e))
  | _, _, .emp h, e => by simp only [PyData.canLay0] at e; cases e
theorem DqAll.dp {K : PySem.W.Frag} {H : Hp} : ∀ {vs : List V} {ds : List PyData}, DqAll K H vs ds → PyData.canLayAll0 ds = true → DpAll K H vs ds
  | _, _, .nil, _ => .nil
  | _, _, .cons h t, e => by
    simp only [PyData.canLayAll0, Bool.and_eq_true] at e
    exact .cons (Dq.dp h e.1) (DqAll.dp t e.2)
end
/-- x == y of data -/
theorem eqDq {K : PySem.W.Frag} {H : Hp} {x y : V} {d e : PyData} {n m : Nat} {Q : VK} (hx : Dq K H x d) (hy : Dq K H y e) (ed : Eqb n d) (ee : Eqb m e) (hn : n ≤ 64) (hm : m ≤ 64) (q : Q (.bl (PyData.eqv d e)) H) : rEqD K x y H Q :=
  ⟨d, e, hx.dp ed.lay, hy.dp ee.lay, ed.shaped hn, ee.shaped hm, q⟩
theorem neDq {K : PySem.W.Frag} {H : Hp} {x y : V} {d e : PyData} {n m : Nat} {Q : VK} (hx : Dq K H x d) (hy : Dq K H y e) (ed : Eqb n d) (ee : Eqb m e) (hn : n ≤ 64) (hm : m ≤ 64) (q : Q (.bl (!PyData.eqv d e)) H) : rNeD K x y H Q :=
  ⟨d, e, hx.dp ed.lay, hy.dp ee.lay, ed.shaped hn, ee.shaped hm, q⟩
/-! ### what expanders are made of -/
theorem isNone_of {d : PyData} (h : isNone d = true) : d = .none := by
  cases d with
  | none => rfl
  | _ => cases h
theorem shortB_parts {z : Str} {d : PyData} (h : shortB z d = true) : ∃ w, d = .str w ∧ allIn z w = true ∧ w.length ≤ 2000 := by
  cases d with
  | str w =>
    have h : (allIn z w && decide (w.length ≤ 2000)) = true := h
    rw [Bool.and_eq_true, decide_eq_true_eq] at h
    exact ⟨w, rfl, h.1, h.2⟩
  | _ => cases h
theorem moveB_parts {z : Str} {n : Int} {d : PyData} (h : (isNone d || moveB z n d) = true) : d = .none ∨ ∃ (a b : Str) (g : Nat), d = .tuple [.str a, .str b, .int (g : Int)] ∧ (allIn z a = true ∧ a.length ≤ 2000) ∧ (allIn z b = true ∧ b.length ≤ 2000) ∧ (g : Int) < n := by
  rcases Bool.or_eq_true_iff.mp h with h | h
  · exact .inl (isNone_of h)
  · right
    match d, h with
    | .tuple [a, b, c], h =>
      have h : (shortB z a && (shortB z b && countB n c)) = true := h
      rw [Bool.and_eq_true, Bool.and_eq_true] at h
      obtain ⟨h1, h2, h3⟩ := h
      obtain ⟨x, rfl, p⟩ := shortB_parts h1
      obtain ⟨y, rfl, q⟩ := shortB_parts h2
      cases c with
      | int i =>
        have h3 : (decide (0 ≤ i) && decide (i < n)) = true := h3
        rw [Bool.and_eq_true, decide_eq_true_eq, decide_eq_true_eq] at h3
        obtain ⟨g, rfl⟩ := Int.eq_ofNat_of_zero_le h3.1
        exact ⟨x, y, g, rfl, p, q, h3.2⟩
      | _ => cases h3
theorem stateB_parts {z : Str} {n : Int} {d : PyData} (h : stateB z n d = true) : ∃ (ms : List PyData) (l : PyData), d = .tuple [.tuple ms, l] ∧ ms.length = z.length ∧ (l = .none ∨ ∃ w, l = .str w ∧ allIn z w = true ∧ w.length ≤ 2000) ∧ ∀ m ∈ ms, (isNone m || moveB z n m) = true := by
  unfold stateB at h
  split at h
  · rename_i ms l
    rw [Bool.and_eq_true, Bool.and_eq_true, decide_eq_true_eq, List.all_eq_true] at h
    refine ⟨ms, l, rfl, h.1, ?_, h.2.2⟩
    rcases Bool.or_eq_true_iff.mp h.2.1 with h | h
    · exact .inl (isNone_of h)
    · exact .inr (shortB_parts h)
  · cases h
theorem expB_parts {d : PyData} (h : expB d = true) : ∃ (z f : Str) (ss : List PyData), d = .tuple [.str z, .str f, .tuple ss] ∧ SignsP z ∧ (allIn z f = true ∧ f.length ≤ 2000) ∧ 1 ≤ ss.length ∧ ss.length ≤ 60 ∧ ∀ s ∈ ss, stateB z (ss.length : Nat) s = true := by
  unfold expB at h
  split at h
  · rename_i z f t
    rw [Bool.and_eq_true, Bool.and_eq_true] at h
    obtain ⟨h1, h2, h3⟩ := h
    obtain ⟨w, rfl, p⟩ := shortB_parts h2
    unfold statesB at h3
    split at h3
    · rename_i ss
      rw [Bool.and_eq_true, Bool.and_eq_true, decide_eq_true_eq, decide_eq_true_eq, List.all_eq_true] at h3
      exact ⟨z, w, ss, rfl, h1, p, h3.1.1, h3.1.2, h3.2⟩
    · cases h3
  · cases h
end Lk
namespace Lk
open PySem PySem.Spec PyProof.Rows L2 G
/-- what is drawn is an expander -/
theorem WordOf.short {z w : Str} {n : Nat} (h : WordOf z w n) (hn : n ≤ 2000) : shortB z (.str w) = true := by
  show (allIn z w && decide (w.length ≤ 2000)) = true
  rw [Bool.and_eq_true, decide_eq_true_eq]
  refine ⟨?_, Nat.le_trans h.1 hn⟩
  unfold allIn
  rw [List.all_eq_true]
  intro c hc
  rw [List.contains_iff_mem]
  exact h.2 c hc
theorem MoveD.ok {z : Str} {n : Nat} {d : PyData} (h : MoveD z n d) : (isNone d || moveB z (n : Nat) d) = true := by
  rcases h with rfl | ⟨a, b, g, rfl, ha, hb, hg⟩
  · rfl
  · show (shortB z (.str a) && (shortB z (.str b) && (decide (0 ≤ (g : Int)) && decide ((g : Int) < (n : Nat))))) = true
    rw [ha.short (by decide), hb.short (by decide), decide_eq_true (show (0 : Int) ≤ (g : Int) by omega), decide_eq_true (show (g : Int) < (n : Nat) by omega)]
    rfl
theorem StateD.ok {z : Str} {n : Nat} {d : PyData} (h : StateD z n d) : stateB z (n : Nat) d = true := by
  obtain ⟨ms, l, rfl, e, hm, hl⟩ := h
  show (decide (ms.length = z.length) && ((isNone l || shortB z l) && ms.all fun m => isNone m || moveB z (n : Nat) m)) = true
  have a1 : (ms.all fun m => isNone m || moveB z (n : Nat) m) = true := List.all_eq_true.mpr fun m h => (hm m h).ok
  have a2 : (isNone l || shortB z l) = true := by
    rcases hl with rfl | ⟨w, rfl, hw⟩
    · rfl
    · rw [hw.short (by decide), Bool.or_true]
  rw [a1, a2, decide_eq_true e]
  rfl
theorem ExpD.ok {d : PyData} (h : ExpD d) : expB d = true := by
  obtain ⟨z, f, ss, rfl, hz, hf, l1, l4, hss⟩ := h
  show (signsB (.str z) && (shortB z (.str f) && ((decide (1 ≤ ss.length) && decide (ss.length ≤ 60)) && ss.all (stateB z (ss.length : Nat))))) = true
  have a1 : ss.all (stateB z (ss.length : Nat)) = true := List.all_eq_true.mpr fun s h => (hss s h).ok
  have a0 : signsB (.str z) = true := hz.1
  rw [a0, a1, hf.short (by decide), decide_eq_true l1, decide_eq_true (show ss.length ≤ 60 by omega)]
  rfl
theorem DqAll.ix {K : PySem.W.Frag} {H : Hp} {xs : List V} {ds : List PyData} {i : Nat} {d : PyData} (h : DqAll K H xs ds) (e : ds[i]? = some d) : ∃ x, xs[i]? = some x ∧ Dq K H x d := by
  have hi : i < ds.length := (List.getElem?_eq_some_iff.mp e).1
  have hx : i < xs.length := by rw [h.length]; exact hi
  have ex := List.getElem?_eq_getElem hx
  obtain ⟨d', e', q⟩ := h.get ex
  rw [e] at e'
  cases e'
  exact ⟨_, ex, q⟩
end Lk

/-! Drawn data are data that == takes. -/
namespace Lk
open PySem PySem.Spec PyProof.Rows L2 G
theorem eqv_nil (ds : List PyData) : PyData.eqv (.list ds) (.list []) = decide (ds = []) := by
  cases ds with
  | nil => simp [PyData.eqv, PyData.eqvAll]
  | cons n r => simp [PyData.eqv, PyData.eqvAll]
theorem MoveD.eqb {z : Str} {n : Nat} {d : PyData} (h : MoveD z n d) (hz : ∀ c ∈ z.cps.toList, c < 1000) : Eqb 1 d := by
  rcases h with rfl | ⟨a, b, g, rfl, ha, hb, hg⟩
  · exact .none
  · refine .tup (n := 0) fun d hd => ?_
    simp only [List.mem_cons, List.not_mem_nil, or_false] at hd
    rcases hd with rfl | rfl | rfl
    · exact .str fun c hc => hz c (ha.2 c hc)
    · exact .str fun c hc => hz c (hb.2 c hc)
    · exact .int _
theorem StateD.eqb {z : Str} {n : Nat} {d : PyData} (h : StateD z n d) (hz : ∀ c ∈ z.cps.toList, c < 1000) : Eqb 3 d := by
  obtain ⟨ms, l, rfl, _, hm, hl⟩ := h
  refine .tup (n := 2) fun d hd => ?_
  simp only [List.mem_cons, List.not_mem_nil, or_false] at hd
  rcases hd with rfl | rfl
  · exact .tup fun m h => (hm m h).eqb hz
  · rcases hl with rfl | ⟨w, rfl, hw⟩
    · exact .none
    · exact .str fun c hc => hz c (hw.2 c hc)
theorem ExpD.eqb {d : PyData} (h : ExpD d) : Eqb 5 d := by
  obtain ⟨z, f, ss, rfl, hz, hf, _, _, hss⟩ := h
  have zc := hz.small.2.2
  refine .tup (n := 4) fun d hd => ?_
  simp only [List.mem_cons, List.not_mem_nil, or_false] at hd
  rcases hd with rfl | rfl | rfl
  · exact .str zc
  · exact .str fun c hc => zc c (hf.2 c hc)
  · exact .tup fun s h => (hss s h).eqb zc
theorem eqv_same {d : PyData} {n : Nat} (h : Eqb n d) : (!PyData.eqv d d) = false := by
  rw [SeqAt.eqv_refl d h.lay]
  rfl
theorem letter_lt {z : Str} (h : SignsP z) : ∀ c ∈ z.cps.toList, 97 ≤ c := by
  have h : (allIn "abcdefghijklmnopqrstuvwxyz" z && ((decide (1 ≤ z.length) && decide (z.length ≤ 4)) && Ls.ascB z)) = true := h
  rw [Bool.and_eq_true] at h
  intro c hc
  have := List.all_eq_true.mp h.1 c hc
  rw [List.contains_iff_mem] at this
  have all : ∀ c ∈ ("abcdefghijklmnopqrstuvwxyz" : Str).cps.toList, 97 ≤ c := by decide +kernel
  exact all c this
end Lk

/-! Runs, told of data: the stand behind a step. -/
namespace Lk
open PySem PySem.Spec PyProof.Rows L2 G
theorem str_cases (b : Str) : b = "" ∨ ∃ c r, b = tx (c :: r) := by
  have e : b = tx b.cps.toList := str_ext (by rw [tx_codes])
  cases h : b.cps.toList with
  | nil =>
    left
    rw [e, h]
    rfl
  | cons c r =>
    right
    exact ⟨c, r, by rw [e, h]⟩
theorem cutS_from (z : Str) (n : Nat) : cutS z (some (n : Int)) none = tx (z.cps.toList.drop n) := by
  unfold cutS
  rw [HT.sIx_nat, HT.sIx_none]
  have l : z.cps.toList.length = z.length := by simp [Str.length]
  refine str_ext ?_
  rw [tx_codes]
  show ((z.cps.toList.drop _).take _) = _
  by_cases h : n ≤ z.length
  · rw [Nat.min_eq_left h, List.take_of_length_le (by rw [List.length_drop, l]; exact Nat.le_refl _)]
  · rw [Nat.min_eq_right (by omega), List.drop_eq_nil_of_le (by rw [l]; exact Nat.le_refl _), List.drop_eq_nil_of_le (by rw [l]; omega), List.take_nil]
def movesOf : PyData → List PyData
  | .tuple [.tuple ms, _] => ms
  | _ => []
/-- the move for a state and a sign -/
def moveD (z : Str) (ss : List PyData) (s c : Nat) : PyData :=
  match Builtin.Str.occurrences z (Ls.one c) 0 z.length 1 with
  | k :: _ => (movesOf (ss.getD s .none)).getD k .none
  | [] => .none
def stepM (a : Str) (r : List Nat) : PyData → Option (Str × Str × Nat)
  | .tuple [.str x, .str y, .int g] => some (a ++ x, y ++ tx r, g.toNat)
  | _ => none
/-- the stand behind a step -/
def nextD (z : Str) (ss : List PyData) (a b : Str) (s : Nat) : Option (Str × Str × Nat) :=
  match b.cps.toList with
  | [] => none
  | c :: r => stepM a r (moveD z ss s c)
def standD (p : Str × Str × Nat) : PyData := .tuple [.str p.1, .str p.2.1, .int (p.2.2 : Int)]
def whyK (b : Str) : Str := match b.cps.toList with
  | [] => "ends"
  | _ :: _ => "breaks"
def whyT (b : Str) (s : Nat) : List PyData := match b.cps.toList with
  | [] => []
  | c :: _ => [.tuple [.int (s : Int), .str (Ls.one c)]]
def afterD (z : Str) (ss : List PyData) (a b : Str) (s : Nat) : PyData := match nextD z ss a b s with
  | some p => standD p
  | none => .list [.str (whyK b), .list (whyT b s)]
/-- what is known of states of an expander -/
def StatesOk (z : Str) (ss : List PyData) : Prop := SignsP z ∧ 1 ≤ ss.length ∧ ss.length ≤ 60 ∧ ∀ s ∈ ss, stateB z (ss.length : Nat) s = true
theorem place_in {z : Str} {ss : List PyData} {s c : Nat} (h : StatesOk z ss) (hs : s < ss.length) (hc : c ∈ z.cps.toList) :
    ∃ (ms : List PyData) (l : PyData) (k : Nat) (rest : List Nat), ss[s]? = some (.tuple [.tuple ms, l]) ∧ Builtin.Str.occurrences z (Ls.one c) 0 z.length 1 = k :: rest ∧ ms[k]? = some (moveD z ss s c) ∧ (isNone (moveD z ss s c) || moveB z (ss.length : Nat) (moveD z ss s c)) = true := by
  have es := List.getElem?_eq_getElem hs
  obtain ⟨ms, l, e, lms, _, hms⟩ := stateB_parts (h.2.2.2 ss[s] (List.getElem_mem hs))
  obtain ⟨k, rest, ho, hk⟩ := place_of hc
  have hk' : k < ms.length := by omega
  have em : moveD z ss s c = ms[k] := by
    unfold moveD
    rw [ho]
    show (movesOf (ss.getD s .none)).getD k .none = _
    have eg : ss.getD s .none = .tuple [.tuple ms, l] := by
      rw [List.getD_eq_getElem?_getD, es]
      exact e
    rw [eg]
    show ms.getD k .none = _
    rw [List.getD_eq_getElem?_getD, List.getElem?_eq_getElem hk']
    rfl
  refine ⟨ms, l, k, rest, by rw [es, e], ho, by rw [em]; exact List.getElem?_eq_getElem hk', ?_⟩
  rw [em]
  exact hms _ (List.getElem_mem hk')
theorem one_tx (c : Nat) : Ls.one c = tx [c] := rfl
theorem next_empty (z : Str) (ss : List PyData) (a : Str) (s : Nat) : nextD z ss a "" s = none := rfl
theorem next_cons (z : Str) (ss : List PyData) (a : Str) (c : Nat) (r : List Nat) (s : Nat) : nextD z ss a (tx (c :: r)) s = stepM a r (moveD z ss s c) := by
  unfold nextD
  rw [tx_codes]
/-- a stand of these signs and states, of no more than n signs -/
structure Stood (z : Str) (m n : Nat) (p : Str × Str × Nat) : Prop where
  done : p.1.length ≤ n
  doneIn : allIn z p.1 = true
  front : p.2.1.length ≤ n
  frontIn : allIn z p.2.1 = true
  state : p.2.2 < m
theorem allIn_mem {z w : Str} (h : allIn z w = true) : ∀ c ∈ w.cps.toList, c ∈ z.cps.toList := fun c hc => by
  have := List.all_eq_true.mp h c hc
  rwa [List.contains_iff_mem] at this
theorem allIn_of {z w : Str} (h : ∀ c ∈ w.cps.toList, c ∈ z.cps.toList) : allIn z w = true := by
  unfold allIn
  rw [List.all_eq_true]
  intro c hc
  rw [List.contains_iff_mem]
  exact h c hc
theorem allIn_cat {z a b : Str} (ha : allIn z a = true) (hb : allIn z b = true) : allIn z (a ++ b) = true := allIn_of fun c hc => by
  rw [cat_codes] at hc
  rcases List.mem_append.mp hc with h | h
  · exact allIn_mem ha c h
  · exact allIn_mem hb c h
theorem Stood.next {z : Str} {ss : List PyData} {n : Nat} {p q : Str × Str × Nat} (ok : StatesOk z ss) (h : Stood z ss.length n p) (e : nextD z ss p.1 p.2.1 p.2.2 = some q) : Stood z ss.length (n + 2000) q := by
  obtain ⟨a, b, s⟩ := p
  obtain ⟨h1, h2, h3, h4, h5⟩ := h
  rcases str_cases b with rfl | ⟨c, r, rfl⟩
  · cases e
  · have e : nextD z ss a (tx (c :: r)) s = some q := e
    rw [next_cons] at e
    have hc : c ∈ z.cps.toList := allIn_mem h4 c (by rw [tx_codes]; exact List.mem_cons_self ..)
    obtain ⟨ms, l, k, rest, _, _, _, e4⟩ := place_in ok h5 hc
    generalize moveD z ss s c = md at e e4
    rcases moveB_parts e4 with rfl | ⟨x, y, g, rfl, ⟨hx, lx⟩, ⟨hy, ly⟩, hg⟩
    · cases e
    · have e := Option.some.inj e
      subst e
      have h3 : (tx (c :: r)).length ≤ n := h3
      rw [tx_len] at h3
      refine ⟨?_, allIn_cat h2 hx, ?_, allIn_cat hy (allIn_of fun d hd => ?_), ?_⟩
      · show (a ++ x).length ≤ n + 2000
        rw [cat_len]
        exact Nat.add_le_add h1 lx
      · show (y ++ tx r).length ≤ n + 2000
        have e1 : (y ++ tx r).length = y.length + (tx r).length := by rw [cat_len]
        have e2 : (tx r).length = r.length := tx_len r
        have e3 : r.length ≤ n := Nat.le_trans (Nat.le_succ _) h3
        rw [e1, e2, Nat.add_comm]
        exact Nat.add_le_add e3 ly
      · rw [tx_codes] at hd
        exact allIn_mem h4 d (by rw [tx_codes]; exact List.mem_cons_of_mem _ hd)
      · show (g : Int).toNat < ss.length
        omega
end Lk
namespace Lk
open PySem PySem.Spec PyProof.Rows L2 G
/-- __init__ of NoOutcome with a list: a copy of it is kept; the dict and the copy are new -/
def spInitR (K : PySem.W.Frag) (C : Addr) (f g : Str) : Sp := fun vs H Q _ => ∃ (a l : Addr) (v : V) (xs : List V), vs = [.ref a, v, .ref l] ∧ H a = some (exo a C none) ∧ SqL K H l xs ∧
  ∀ (H' : Hp) (d n : Addr), But a H H' → H' a = some (exo a C (some d)) → H' d = some (exd d [(g, .ref n), (f, v)]) → H' n = some (.lst xs) → H n = none → H d = none → Q .non H'
end Lk
namespace Lk
open PySem PySem.Spec PyProof.Rows L2 G
theorem exd_ne_lst {e : Addr} {fs : List (Str × V)} {xs : List V} : exd e fs ≠ .lst xs := fun z => by
  have z' : HO.ext _ = HO.lst xs := z
  cases z'
/-- NoOutcome is wished for: its kind, and at n a new list, the thread -/
def noOutE (K : PySem.W.Frag) (C : Addr) (E : XK) (H : Hp) (kind : Str) (th : List PyData) : Prop :=
  ∀ (H' : Hp) (d n : Addr), Same H H' → H' d = some (.xd [("thread", .ref n), ("kind", .str kind)]) → Dq K H' (.ref n) (.list th) → E (.ref C) (some d) H'
theorem noOutE.mono {K : PySem.W.Frag} {C : Addr} {E : XK} {H H1 : Hp} {kind : Str} {th : List PyData} (h : noOutE K C E H kind th) (s : Same H H1) : noOutE K C E H1 kind th := fun H' d n s' => h H' d n (Same.trans s s')
theorem raise_out {K : PySem.W.Frag} {C l : Addr} {E : XK} {H : Hp} {kind : Str} {xs : List V} {th : List PyData} (hl : H l = some (.lst xs)) (hA : DqAll K H xs th) (k : noOutE K C E H kind th) :
    [V.str kind, .ref l].length ≤ 1000 ∧ ∀ a, H a = none → spInitR K C "kind" "thread" (.ref a :: ([V.str kind, .ref l] ++ [])) (upd H a (exo a C none))
      (fun v H2 => v = .non ∧ ∃ (d : Addr) (fs : List (Str × V)), H2 a = some (exo a C (some d)) ∧ H2 d = some (exd d fs) ∧ H d = none ∧ E (.ref C) (some d) (upd (del H2 a) d (.xd fs))) (fun _ _ _ => False) := by
  refine ⟨(by show 2 ≤ 1000; decide), fun a na => ?_⟩
  refine ⟨a, l, .str kind, xs, rfl, upd_same, SqL.of ((upd_ne (ne_of_none hl na)).trans hl), fun H2 d n bt ha hd hn fn fd => ?_⟩
  have nna : n ≠ a := fun e => by
    rw [e, upd_same] at fn
    cases fn
  have nda : d ≠ a := fun e => by
    rw [e, upd_same] at fd
    cases fd
  have nnd : n ≠ d := fun e => by
    rw [e, hd] at hn
    exact exd_ne_lst (Option.some.inj hn)
  have fd' : H d = none := (upd_ne nda).symm.trans fd
  have s : Same H (upd (del H2 a) d (.xd [("thread", .ref n), ("kind", .str kind)])) := fun b o e => by
    have ba : b ≠ a := ne_of_none e na
    rw [upd_ne (ne_of_none e fd'), del_ne ba]
    exact bt b o ba ((upd_ne ba).trans e)
  refine ⟨rfl, d, _, ha, hd, fd', k _ d n s upd_same ?_⟩
  refine .lst (SqL.of ?_) (hA.mono s)
  rw [upd_ne nnd, del_ne nna]
  exact hn
end Lk
namespace Lk
open PySem PySem.Spec PyProof.Rows L2 G
theorem standV {K : PySem.W.Frag} {H : Hp} {st : V} {a b : Str} {s : Nat} (h : Dq K H st (standD (a, b, s))) : ∃ p, st = .ref p ∧ SqT K H p [.str a, .str b, .int (s : Int)] := by
  obtain ⟨p, xs, rfl, hp, hq⟩ := h.items
  obtain ⟨x1, ys, rfl, h1, hq⟩ := hq.one
  obtain ⟨x2, ys, rfl, h2, hq⟩ := hq.one
  obtain ⟨x3, ys, rfl, h3, hq⟩ := hq.one
  obtain rfl := hq.none
  obtain rfl := h1.strV
  obtain rfl := h2.strV
  obtain rfl := h3.intV
  exact ⟨p, rfl, hp⟩
theorem tx_cons_ne {c : Nat} {r : List Nat} (e : tx (c :: r) = "") : False := by
  have h : (tx (c :: r)).length = ("" : Str).length := congrArg (fun x : Str => x.length) e
  rw [tx_len] at h
  exact Nat.succ_ne_zero _ h
end Lk

/-! Stands: sizes, and that == takes them. -/
namespace Lk
open PySem PySem.Spec PyProof.Rows L2 G
theorem Stood.mono {z : Str} {m n n' : Nat} {p : Str × Str × Nat} (h : Stood z m n p) (e : n ≤ n') : Stood z m n' p := ⟨Nat.le_trans h.done e, h.doneIn, Nat.le_trans h.front e, h.frontIn, h.state⟩
theorem Stood.q {z : Str} {m n : Nat} {p : Str × Str × Nat} {k : Bool} (h : Stood z m n p) (hz : ∀ c ∈ z.cps.toList, c < 1000) (hm : m ≤ 4) (hn : 3 ≤ n) : Qk k 1 (3 * (n + 1)) (standD p) := by
  have hs := h.state
  refine tup3 (k := k) (n := 0) (B := n) (.str h.done fun c hc => hz c (allIn_mem h.doneIn c hc)) (.str h.front fun c hc => hz c (allIn_mem h.frontIn c hc)) (.int (by omega) (by omega) hn) (Nat.le_refl _)
theorem Stood.eqb {z : Str} {m n : Nat} {p : Str × Str × Nat} (h : Stood z m n p) (hz : ∀ c ∈ z.cps.toList, c < 1000) : Eqb 1 (standD p) := by
  refine .tup (n := 0) fun d hd => ?_
  simp only [List.mem_cons, List.not_mem_nil, or_false] at hd
  rcases hd with rfl | rfl | rfl
  · exact .str fun c hc => hz c (allIn_mem h.doneIn c hc)
  · exact .str fun c hc => hz c (allIn_mem h.frontIn c hc)
  · exact .int _
theorem after_eqb {z : Str} {ss : List PyData} {n : Nat} {a b : Str} {s : Nat} (ok : StatesOk z ss) (h : Stood z ss.length n (a, b, s)) : Eqb 3 (afterD z ss a b s) := by
  have hz := ok.1.small.2.2
  unfold afterD
  cases e : nextD z ss a b s with
  | some q => exact ((h.next ok e).eqb hz).mono (by decide)
  | none =>
    refine .lst (n := 2) fun d hd => ?_
    simp only [List.mem_cons, List.not_mem_nil, or_false] at hd
    rcases str_cases b with rfl | ⟨c, r, rfl⟩
    · rcases hd with rfl | rfl
      · exact .str (by show ∀ c ∈ (("ends" : Str)).cps.toList, c < 1000; decide +kernel)
      · exact .lst (n := 1) fun d hd => (List.not_mem_nil (show d ∈ ([] : List PyData) from hd)).elim
    · have hc : c ∈ z.cps.toList := allIn_mem h.frontIn c (by show c ∈ (tx (c :: r)).cps.toList; rw [tx_codes]; exact List.mem_cons_self ..)
      have e5 : whyK (tx (c :: r)) = "breaks" := by
        unfold whyK
        rw [tx_codes]
      have e6 : whyT (tx (c :: r)) s = [.tuple [.int (s : Int), .str (Ls.one c)]] := by
        unfold whyT
        rw [tx_codes]
      rw [e5, e6] at hd
      rcases hd with rfl | rfl
      · exact .str (by decide +kernel)
      · refine .lst (n := 1) fun d hd => ?_
        rw [List.mem_singleton.mp hd]
        refine .tup (n := 0) fun d hd => ?_
        simp only [List.mem_cons, List.not_mem_nil, or_false] at hd
        rcases hd with rfl | rfl
        · exact .int _
        · refine .str fun c' hc' => ?_
          rw [one_tx, tx_codes] at hc'
          rw [List.mem_singleton.mp hc']
          exact hz c hc
theorem ExpD.states {z f : Str} {ss : List PyData} (h : ExpD (.tuple [.str z, .str f, .tuple ss])) : StatesOk z ss := by
  obtain ⟨z', f', ss', e, h1, h2, l1, l4, hs⟩ := h
  cases e
  exact ⟨h1.1, l1, by omega, fun s hs' => (hs s hs').ok⟩
theorem list_out {K : PySem.W.Frag} {H : Hp} {p L : Addr} {ys : List V} {ds : List PyData} (eP : H p = some (.lst ys)) (ne : L ≠ p) (h : Dq K H (.ref L) (.list ds)) (hf : ∀ d ∈ ds, hasList d = false) : Dq K (sans H p) (.ref L) (.list ds) := by
  cases h with
  | lst h1 h2 =>
    refine .lst ?_ (h2.out eP (hasListAll_of hf))
    rcases h1 with (h | ⟨o, h⟩) | h
    · exact .inl (.inl (sans_of ne h))
    · exact .inl (.inr ⟨o, sans_of ne h⟩)
    · exact .inr h
theorem standD_flat (q : Str × Str × Nat) : hasList (standD q) = false := by
  unfold standD
  simp [hasList, hasListAll]
theorem Dq.listV {K : PySem.W.Frag} {H : Hp} {v : V} {ds : List PyData} (h : Dq K H v (.list ds)) : ∃ L xs, v = .ref L ∧ SqL K H L xs ∧ DqAll K H xs ds := by
  cases h with
  | lst h1 h2 => exact ⟨_, _, rfl, h1, h2⟩
theorem allIn_not {z w : Str} {c : Nat} (hc : c ∈ w.cps.toList) (h : c ∉ z.cps.toList) : allIn z w = false := by
  rw [Bool.eq_false_iff]
  exact fun e => h (allIn_mem e c hc)
end Lk

/-! Values of calls, by plain mathematics. -/
namespace Lk
open PySem PySem.Spec PyProof.Rows L2 G
/-- a call: its state, its sign's code -/
abbrev Cl := Nat × Nat
/-- a word's codes, a state -/
abbrev Wt := List Nat × Nat
/-- what a move has: done, back, next -/
def mvM : PyData → Option (List Nat × List Nat × Nat)
  | .tuple [.str x, .str y, .int g] => some (x.cps.toList, y.cps.toList, g.toNat)
  | _ => none
def mv (z : Str) (ss : List PyData) (c : Cl) : Option (List Nat × List Nat × Nat) := mvM (moveD z ss c.1 c.2)
/-- signs read one by one, each by what f tells of its call -/
def rd (f : Cl → Option Wt) : List Nat → Wt → Option Wt
  | [], a => some a
  | d :: r, a => match f (a.2, d) with
    | some v => rd f r (a.1 ++ v.1, v.2)
    | none => none
theorem rd_nil (f : Cl → Option Wt) (a : Wt) : rd f [] a = some a := rfl
theorem rd_some {f : Cl → Option Wt} {d : Nat} {r : List Nat} {a v : Wt} (h : f (a.2, d) = some v) : rd f (d :: r) a = rd f r (a.1 ++ v.1, v.2) := by
  show (match f (a.2, d) with | some v => rd f r (a.1 ++ v.1, v.2) | none => none) = _
  rw [h]
theorem rd_none {f : Cl → Option Wt} {d : Nat} {r : List Nat} {a : Wt} (h : f (a.2, d) = none) : rd f (d :: r) a = none := by
  show (match f (a.2, d) with | some v => rd f r (a.1 ++ v.1, v.2) | none => none) = _
  rw [h]
theorem rd_cons {f : Cl → Option Wt} {d : Nat} {r : List Nat} {a b : Wt} (h : rd f (d :: r) a = some b) : ∃ v, f (a.2, d) = some v ∧ rd f r (a.1 ++ v.1, v.2) = some b := by
  cases e : f (a.2, d) with
  | none =>
    rw [rd_none e] at h
    cases h
  | some v =>
    rw [rd_some e] at h
    exact ⟨v, rfl, h⟩
theorem rd_append (f : Cl → Option Wt) : ∀ (l r : List Nat) (a : Wt), rd f (l ++ r) a = (rd f l a).bind (rd f r)
  | [], r, a => rfl
  | d :: l, r, a => by
    rw [List.cons_append]
    cases e : f (a.2, d) with
    | none =>
      rw [rd_none e, rd_none e]
      rfl
    | some v =>
      rw [rd_some e, rd_some e]
      exact rd_append f l r _
theorem rdl_mono {f g : Cl → Option Wt} (h : ∀ c v, f c = some v → g c = some v) : ∀ {l : List Nat} {a b : Wt}, rd f l a = some b → rd g l a = some b
  | [], a, b, e => e
  | d :: l, a, b, e => by
    obtain ⟨v, e1, e2⟩ := rd_cons e
    rw [rd_some (h _ _ e1)]
    exact rdl_mono h e2
section
variable {z : Str} {ss : List PyData}
/-- the value of a call, by so many calls within one another -/
def ev (z : Str) (ss : List PyData) : Nat → Cl → Option Wt
  | 0, _ => none
  | n + 1, c => match mv z ss c with
    | none => none
    | some m => rd (ev z ss n) m.2.1 (m.1, m.2.2)
theorem ev_step {n : Nat} {c : Cl} {m : List Nat × List Nat × Nat} (h : mv z ss c = some m) : ev z ss (n + 1) c = rd (ev z ss n) m.2.1 (m.1, m.2.2) := by
  show (match mv z ss c with | none => none | some m => rd (ev z ss n) m.2.1 (m.1, m.2.2)) = _
  rw [h]
theorem ev_stop {n : Nat} {c : Cl} (h : mv z ss c = none) : ev z ss n c = none := by
  cases n with
  | zero => rfl
  | succ n =>
    show (match mv z ss c with | none => none | some m => rd (ev z ss n) m.2.1 (m.1, m.2.2)) = _
    rw [h]
theorem ev_succ : ∀ (n : Nat) (c : Cl) (v : Wt), ev z ss n c = some v → ev z ss (n + 1) c = some v
  | 0, c, v, h => by cases h
  | n + 1, c, v, h => by
    cases e : mv z ss c with
    | none =>
      rw [ev_stop e] at h
      cases h
    | some m =>
      rw [ev_step e] at h ⊢
      exact rdl_mono (fun c v => ev_succ n c v) h
theorem ev_le {n k : Nat} {c : Cl} {v : Wt} (h : ev z ss n c = some v) (e : n ≤ k) : ev z ss k c = some v := by
  obtain ⟨d, rfl⟩ := Nat.exists_eq_add_of_le e
  clear e
  induction d with
  | zero => exact h
  | succ d ih => exact ev_succ _ _ _ ih
/-- a call's value -/
def Val (z : Str) (ss : List PyData) (c : Cl) (v : Wt) : Prop := ∃ n, ev z ss n c = some v
theorem Val.det {c : Cl} {v w : Wt} (h : Val z ss c v) (k : Val z ss c w) : v = w := by
  obtain ⟨n, h⟩ := h
  obtain ⟨m, k⟩ := k
  have h' := ev_le h (Nat.le_max_left n m)
  rw [ev_le k (Nat.le_max_right n m)] at h'
  exact (Option.some.inj h').symm
/-- a reading by values is one by fuel -/
theorem rd_fuel {f : Cl → Option Wt} (hf : ∀ c v, f c = some v → Val z ss c v) : ∀ {l : List Nat} {a b : Wt}, rd f l a = some b → ∃ n, rd (ev z ss n) l a = some b
  | [], a, b, e => ⟨0, e⟩
  | d :: l, a, b, e => by
    obtain ⟨v, e1, e2⟩ := rd_cons e
    obtain ⟨n, hn⟩ := hf _ _ e1
    obtain ⟨k, hk⟩ := rd_fuel hf e2
    refine ⟨max n k, ?_⟩
    rw [rd_some (ev_le hn (Nat.le_max_left n k))]
    exact rdl_mono (fun c v h => ev_le h (Nat.le_max_right n k)) hk
theorem Val.of {f : Cl → Option Wt} (hf : ∀ c v, f c = some v → Val z ss c v) {c : Cl} {m : List Nat × List Nat × Nat} {v : Wt} (hm : mv z ss c = some m) (h : rd f m.2.1 (m.1, m.2.2) = some v) : Val z ss c v := by
  obtain ⟨n, hn⟩ := rd_fuel hf h
  exact ⟨n + 1, by rw [ev_step hm]; exact hn⟩
/-- c waits for d: what stands ahead of d in its back is known, d is not -/
def Waits (z : Str) (ss : List PyData) (f : Cl → Option Wt) (c d : Cl) : Prop := ∃ (m : List Nat × List Nat × Nat) (l r : List Nat) (w : List Nat), mv z ss c = some m ∧ m.2.1 = l ++ d.2 :: r ∧ rd f l (m.1, m.2.2) = some (w, d.1)
theorem Waits.mono {f g : Cl → Option Wt} {c d : Cl} (h : Waits z ss f c d) (k : ∀ c v, f c = some v → g c = some v) : Waits z ss g c d := by
  obtain ⟨m, l, r, w, e1, e2, e3⟩ := h
  exact ⟨m, l, r, w, e1, e2, rdl_mono k e3⟩
/-- calls that wait for one another, or break off, have no value -/
theorem no_value {f : Cl → Option Wt} (hf : ∀ c v, f c = some v → Val z ss c v) {S : Cl → Prop} (hS : ∀ c, S c → mv z ss c = none ∨ ∃ d, Waits z ss f c d ∧ S d) : ∀ (n : Nat) (c : Cl), S c → ev z ss n c = none
  | 0, c, _ => rfl
  | n + 1, c, h => by
    rcases hS c h with e | ⟨d, ⟨m, l, r, w, e1, e2, e3⟩, hd⟩
    · exact ev_stop e
    · rw [ev_step e1, e2, rd_append]
      cases e4 : rd (ev z ss n) l (m.1, m.2.2) with
      | none => rfl
      | some v =>
        obtain ⟨k, e5⟩ := rd_fuel hf e3
        have a1 := rdl_mono (fun c v h => ev_le h (Nat.le_max_left n k)) e4
        have a2 := rdl_mono (fun c v h => ev_le h (Nat.le_max_right n k)) e5
        rw [a1] at a2
        obtain rfl := Option.some.inj a2
        exact rd_none (no_value hf hS n _ hd)
/-! ### entries, each behind those that it needs -/
abbrev Ent := List (Cl × Wt)
def look (E : Ent) (c : Cl) : Option Wt := (E.find? fun e => decide (e.1 = c)).map (·.2)
theorem look_snoc (E : Ent) (c d : Cl) (v : Wt) : look (E ++ [(c, v)]) d = if (look E d).isSome then look E d else if c = d then some v else none := by
  unfold look
  rw [List.find?_append]
  cases e : E.find? fun e => decide (e.1 = d) with
  | some x => rfl
  | none =>
    by_cases h : c = d
    · subst h
      simp [List.find?]
    · simp [List.find?, h]
inductive Closed (z : Str) (ss : List PyData) : Ent → Prop
  | nil : Closed z ss []
  | snoc {E : Ent} {c : Cl} {v : Wt} {m : List Nat × List Nat × Nat} : Closed z ss E → look E c = none → mv z ss c = some m → rd (look E) m.2.1 (m.1, m.2.2) = some v → Closed z ss (E ++ [(c, v)])
theorem look_more {E : Ent} {c d : Cl} {v w : Wt} (h : look E d = some w) : look (E ++ [(c, v)]) d = some w := by
  rw [look_snoc, h]
  rfl
theorem look_new {E : Ent} {c : Cl} {v : Wt} (h : look E c = none) : look (E ++ [(c, v)]) c = some v := by
  rw [look_snoc, h, if_pos rfl]
  rfl
theorem look_other {E : Ent} {c d : Cl} {v : Wt} (n : c ≠ d) : look (E ++ [(c, v)]) d = look E d := by
  rw [look_snoc, if_neg n]
  cases look E d <;> rfl
theorem Closed.val {E : Ent} (h : Closed z ss E) : ∀ c v, look E c = some v → Val z ss c v := by
  induction h with
  | nil =>
    intro c v h
    cases h
  | @snoc E c v m hE hn hm hr ih =>
    intro d w hd
    by_cases e : c = d
    · subst e
      rw [look_new hn] at hd
      obtain rfl := Option.some.inj hd
      exact Val.of ih hm hr
    · rw [look_other e] at hd
      exact ih d w hd
end
end Lk

/-! Calls that are measured one behind another, and by laps: plain mathematics. -/
namespace Lk
open PySem PySem.Spec PyProof.Rows L2 G
section
variable {z : Str} {ss : List PyData}
theorem look_grow {E : Ent} {c : Cl} {v : Wt} : ∀ d w, look E d = some w → look (E ++ [(c, v)]) d = some w := fun d w h => look_more h
/-- a reading that comes to no end stops at a call that is not known -/
theorem rd_stuck {f : Cl → Option Wt} : ∀ {l : List Nat} {a : Wt}, rd f l a = none → ∃ (k : List Nat) (d : Nat) (r : List Nat) (b : Wt), l = k ++ d :: r ∧ rd f k a = some b ∧ f (b.2, d) = none
  | [], a, h => by cases h
  | d :: l, a, h => by
    cases e : f (a.2, d) with
    | none => exact ⟨[], d, l, a, rfl, rfl, e⟩
    | some v =>
      rw [rd_some e] at h
      obtain ⟨k, x, r, b, e1, e2, e3⟩ := rd_stuck h
      exact ⟨d :: k, x, r, b, by rw [e1]; rfl, by rw [rd_some e]; exact e2, e3⟩
theorem rd_len {f : Cl → Option Wt} : ∀ {l : List Nat} {a b : Wt}, rd f l a = some b → ∀ u : List Nat, rd f l (u ++ a.1, a.2) = some (u ++ b.1, b.2)
  | [], a, b, h, u => by
    cases h
    rfl
  | d :: l, a, b, h, u => by
    obtain ⟨v, e1, e2⟩ := rd_cons h
    rw [rd_some (a := (u ++ a.1, a.2)) e1, show ((u ++ a.1, a.2) : Wt).1 ++ v.1 = u ++ (a.1 ++ v.1) from List.append_assoc u a.1 v.1]
    exact rd_len e2 u
/-- calls without a value, each with its reason -/
def Stuck (z : Str) (ss : List PyData) (E : Ent) (S : Cl → Prop) : Prop := ∀ c, S c → mv z ss c = none ∨ ∃ d, Waits z ss (look E) c d ∧ S d
theorem Stuck.grow {E F : Ent} {S : Cl → Prop} (h : Stuck z ss E S) (k : ∀ c v, look E c = some v → look F c = some v) : Stuck z ss F S := fun c hc => by
  rcases h c hc with e | ⟨d, w, hd⟩
  · exact .inl e
  · exact .inr ⟨d, w.mono k, hd⟩
theorem Stuck.none {E : Ent} {S : Cl → Prop} (cl : Closed z ss E) (h : Stuck z ss E S) {c : Cl} (hc : S c) : ∀ v, ¬ Val z ss c v := fun v ⟨n, e⟩ => by
  rw [no_value cl.val h n c hc] at e
  cases e
/-- the calls that are being read, the last one ahead: its call, place, size, state -/
abbrev Re := Cl × Nat × Nat × Nat
/-- a call that is read up to its place -/
def ReadTo (z : Str) (ss : List PyData) (E : Ent) (r : Re) (m : List Nat × List Nat × Nat) (rest : List Nat) : Prop :=
  ∃ (l w : List Nat), mv z ss r.1 = some m ∧ m.2.1 = l ++ rest ∧ l.length = r.2.1 ∧ rd (look E) l (m.1, m.2.2) = some (w, r.2.2.2) ∧ w.length = r.2.2.1
theorem ReadTo.first {E : Ent} {c : Cl} {m : List Nat × List Nat × Nat} (h : mv z ss c = some m) : ReadTo z ss E (c, 0, m.1.length, m.2.2) m m.2.1 :=
  ⟨[], m.1, h, rfl, rfl, rfl, rfl⟩
theorem ReadTo.grow {E F : Ent} {r : Re} {m : List Nat × List Nat × Nat} {rest : List Nat} (h : ReadTo z ss E r m rest) (k : ∀ c v, look E c = some v → look F c = some v) : ReadTo z ss F r m rest := by
  obtain ⟨l, w, e1, e2, e3, e4, e5⟩ := h
  exact ⟨l, w, e1, e2, e3, rdl_mono k e4, e5⟩
theorem ReadTo.go {E : Ent} {c : Cl} {p n g : Nat} {m : List Nat × List Nat × Nat} {d : Nat} {rest : List Nat} {v : Wt} (h : ReadTo z ss E (c, p, n, g) m (d :: rest)) (e : look E (g, d) = some v) :
    ReadTo z ss E (c, p + 1, n + v.1.length, v.2) m rest := by
  obtain ⟨l, w, e1, e2, e3, e4, e5⟩ := h
  refine ⟨l ++ [d], w ++ v.1, e1, by rw [e2]; simp, by simp only [List.length_append, List.length_singleton]; exact congrArg (· + 1) e3, ?_, by rw [List.length_append]; exact congrArg (· + _) e5⟩
  rw [rd_append, e4]
  show rd (look E) [d] (w, g) = _
  rw [rd_some e]
  rfl
theorem ReadTo.waits {E : Ent} {c : Cl} {p n g : Nat} {m : List Nat × List Nat × Nat} {d : Nat} {rest : List Nat} (h : ReadTo z ss E (c, p, n, g) m (d :: rest)) : Waits z ss (look E) c (g, d) := by
  obtain ⟨l, w, e1, e2, e3, e4, e5⟩ := h
  exact ⟨m, l, rest, w, e1, e2, e4⟩
theorem ReadTo.done {E : Ent} {c : Cl} {p n g : Nat} {m : List Nat × List Nat × Nat} (cl : Closed z ss E) (hn : look E c = none) (h : ReadTo z ss E (c, p, n, g) m []) :
    ∃ w : List Nat, w.length = n ∧ Closed z ss (E ++ [(c, (w, g))]) := by
  obtain ⟨l, w, e1, e2, e3, e4, e5⟩ := h
  rw [List.append_nil] at e2
  exact ⟨w, e5, .snoc cl hn e1 (by rw [e2]; exact e4)⟩
/-- a row of calls, each waiting for the one behind it, the last for c -/
inductive Row (z : Str) (ss : List PyData) (E : Ent) : List Re → Cl → Prop
  | nil (c : Cl) : Row z ss E [] c
  | cons {r : Re} {row : List Re} {m : List Nat × List Nat × Nat} {d : Nat} {rest : List Nat} : ReadTo z ss E r m (d :: rest) → Row z ss E row r.1 → Row z ss E (r :: row) (r.2.2.2, d)
theorem Row.grow {E F : Ent} {row : List Re} {c : Cl} (h : Row z ss E row c) (k : ∀ c v, look E c = some v → look F c = some v) : Row z ss F row c := by
  induction h with
  | nil c => exact .nil c
  | cons a _ ih => exact .cons (a.grow k) ih
/-- what stands between two calls -/
structure Meas (z : Str) (ss : List PyData) (E : Ent) (O : Cl → Prop) (row : List Re) (S : Cl → Prop) : Prop where
  closed : Closed z ss E
  stuck : Stuck z ss E S
  opened : ∀ c, O c → look E c = none → (∃ r ∈ row, r.1 = c) ∨ S c
  found : ∀ c v, look E c = some v → O c
  inRow : ∀ r ∈ row, O r.1 ∧ look E r.1 = none
  nodup : (row.map (·.1)).Nodup
theorem Meas.start : Meas z ss [] (fun _ => False) [] (fun _ => False) :=
  ⟨.nil, fun _ h => h.elim, fun _ h => h.elim, fun _ _ h => (by cases h), fun _ h => (by cases h), .nil⟩
/-- one more call in the row -/
theorem Meas.push {E : Ent} {O S : Cl → Prop} {row : List Re} {c : Cl} {p n g : Nat} (M : Meas z ss E O row S) (hc : ¬ O c) : Meas z ss E (fun x => O x ∨ x = c) ((c, p, n, g) :: row) S := by
  have hn : look E c = none := by
    cases e : look E c with
    | none => rfl
    | some v => exact absurd (M.found _ _ e) hc
  refine ⟨M.closed, M.stuck, fun x hx h => ?_, fun x v h => .inl (M.found x v h), fun r hr => ?_, ?_⟩
  · rcases hx with hx | rfl
    · rcases M.opened x hx h with ⟨r, hr, e⟩ | h
      · exact .inl ⟨r, List.mem_cons_of_mem _ hr, e⟩
      · exact .inr h
    · exact .inl ⟨_, List.mem_cons_self, rfl⟩
  · rcases List.mem_cons.1 hr with rfl | hr
    · exact ⟨.inr rfl, hn⟩
    · exact ⟨.inl (M.inRow r hr).1, (M.inRow r hr).2⟩
  · refine List.nodup_cons.2 ⟨fun h => ?_, M.nodup⟩
    obtain ⟨r, hr, e⟩ := List.mem_map.1 h
    exact hc ((show r.1 = c from e) ▸ (M.inRow r hr).1)
/-- the same call, read further -/
theorem Meas.further {E : Ent} {O S : Cl → Prop} {row : List Re} {c : Cl} {p n g p' n' g' : Nat} (M : Meas z ss E O ((c, p, n, g) :: row) S) : Meas z ss E O ((c, p', n', g') :: row) S := by
  refine ⟨M.closed, M.stuck, fun x hx h => ?_, M.found, fun r hr => ?_, ?_⟩
  · rcases M.opened x hx h with ⟨r, hr, e⟩ | h
    · rcases List.mem_cons.1 hr with rfl | hr
      · exact .inl ⟨_, List.mem_cons_self, e⟩
      · exact .inl ⟨r, List.mem_cons_of_mem _ hr, e⟩
    · exact .inr h
  · rcases List.mem_cons.1 hr with rfl | hr
    · exact M.inRow (c, p, n, g) (List.mem_cons_self (a := (c, p, n, g)) (l := row))
    · exact M.inRow r (List.mem_cons_of_mem _ hr)
  · exact M.nodup
/-- a call that is read to its end -/
theorem Meas.done {E : Ent} {O S : Cl → Prop} {row : List Re} {c : Cl} {p n g : Nat} {m : List Nat × List Nat × Nat} (M : Meas z ss E O ((c, p, n, g) :: row) S) (h : ReadTo z ss E (c, p, n, g) m []) :
    ∃ w : List Nat, w.length = n ∧ Meas z ss (E ++ [(c, (w, g))]) O row S := by
  obtain ⟨hO, hn⟩ := M.inRow _ (List.mem_cons_self (a := (c, p, n, g)))
  obtain ⟨w, e, cl⟩ := h.done M.closed hn
  obtain ⟨nc, nd⟩ := List.nodup_cons.1 M.nodup
  refine ⟨w, e, cl, M.stuck.grow look_grow, fun x hx h => ?_, fun x v h => ?_, fun r hr => ?_, nd⟩
  · by_cases e : c = x
    · subst e
      rw [look_new hn] at h
      cases h
    · rw [look_other e] at h
      rcases M.opened x hx h with ⟨r, hr, er⟩ | h
      · rcases List.mem_cons.1 hr with rfl | hr
        · exact absurd er e
        · exact .inl ⟨r, hr, er⟩
      · exact .inr h
  · by_cases e : c = x
    · subst e
      exact hO
    · rw [look_other e] at h
      exact M.found x v h
  · have ne : c ≠ r.1 := fun e => nc (List.mem_map.2 ⟨r, hr, e.symm⟩)
    rw [look_other ne]
    exact M.inRow r (List.mem_cons_of_mem _ hr)
theorem Row.stuck {E : Ent} {row : List Re} {c : Cl} (h : Row z ss E row c) {T : Cl → Prop} (hc : T c) (hr : ∀ r ∈ row, T r.1) : ∀ r ∈ row, ∃ d, Waits z ss (look E) r.1 d ∧ T d := by
  induction h with
  | nil c => exact fun r hr => by cases hr
  | @cons r row m d rest a b ih =>
    intro x hx
    rcases List.mem_cons.1 hx with rfl | hx
    · exact ⟨_, a.waits, hc⟩
    · exact ih (hr r List.mem_cons_self) (fun y hy => hr y (List.mem_cons_of_mem _ hy)) x hx
/-- the row waits for one that is opened and not found -/
theorem Meas.waits {E : Ent} {O S : Cl → Prop} {row : List Re} {c : Cl} (M : Meas z ss E O row S) (R : Row z ss E row c) (hc : O c) (hn : look E c = none) :
    Meas z ss E O [] (fun x => S x ∨ ∃ r ∈ row, r.1 = x) := by
  have hT : S c ∨ ∃ r ∈ row, r.1 = c := (M.opened c hc hn).symm
  refine ⟨M.closed, fun x hx => ?_, fun x hx h => .inr (M.opened x hx h).symm, M.found, fun _ h => (by cases h), .nil⟩
  rcases hx with hx | ⟨r, hr, rfl⟩
  · rcases M.stuck x hx with e | ⟨d, w, hd⟩
    · exact .inl e
    · exact .inr ⟨d, w, .inl hd⟩
  · exact .inr (R.stuck (T := fun x => S x ∨ ∃ r ∈ row, r.1 = x) hT (fun r hr => .inr ⟨r, hr, rfl⟩) r hr)
/-- the row waits for one that has no move -/
theorem Meas.breaks {E : Ent} {O S : Cl → Prop} {row : List Re} {c : Cl} (M : Meas z ss E O row S) (R : Row z ss E row c) (hc : ¬ O c) (hm : mv z ss c = none) :
    Meas z ss E (fun x => O x ∨ x = c) [] (fun x => (S x ∨ x = c) ∨ ∃ r ∈ row, r.1 = x) := by
  refine ⟨M.closed, fun x hx => ?_, fun x hx h => ?_, fun x v h => .inl (M.found x v h), fun _ h => (by cases h), .nil⟩
  · rcases hx with (hx | rfl) | ⟨r, hr, rfl⟩
    · rcases M.stuck x hx with e | ⟨d, w, hd⟩
      · exact .inl e
      · exact .inr ⟨d, w, .inl (.inl hd)⟩
    · exact .inl hm
    · exact .inr (R.stuck (T := fun x => (S x ∨ x = c) ∨ ∃ r ∈ row, r.1 = x) (.inl (.inr rfl)) (fun r hr => .inr ⟨r, hr, rfl⟩) r hr)
  · rcases hx with hx | rfl
    · rcases M.opened x hx h with h | h
      · exact .inr (.inr h)
      · exact .inr (.inl (.inl h))
    · exact .inr (.inl (.inr rfl))
/-- behind the last call all that have a value are found -/
theorem Meas.all {E : Ent} {O S : Cl → Prop} (M : Meas z ss E O [] S) {c : Cl} (hc : O c) {v : Wt} : Val z ss c v ↔ look E c = some v := by
  refine ⟨fun h => ?_, fun h => M.closed.val c v h⟩
  cases e : look E c with
  | none =>
    rcases M.opened c hc e with ⟨r, hr, _⟩ | hs
    · cases hr
    · exact absurd h (M.stuck.none M.closed hs v)
  | some w => rw [h.det (M.closed.val c w e)]
end
end Lk

/-! Values by laps over all calls: plain mathematics. -/
namespace Lk
open PySem PySem.Spec PyProof.Rows L2 G
section
variable {z : Str} {ss : List PyData}
/-- one call of a lap -/
def lapOne (z : Str) (ss : List PyData) (E : Ent) (c : Cl) : Ent := match look E c with
  | some _ => E
  | none => match mv z ss c with
    | none => E
    | some m => match rd (look E) m.2.1 (m.1, m.2.2) with
      | none => E
      | some v => E ++ [(c, v)]
theorem lapOne_known {E : Ent} {c : Cl} {v : Wt} (h : look E c = some v) : lapOne z ss E c = E := by
  unfold lapOne
  rw [h]
theorem lapOne_stop {E : Ent} {c : Cl} (h : mv z ss c = none) : lapOne z ss E c = E := by
  unfold lapOne
  rw [h]
  cases look E c <;> rfl
theorem lapOne_waits {E : Ent} {c : Cl} {m : List Nat × List Nat × Nat} (hm : mv z ss c = some m) (h : rd (look E) m.2.1 (m.1, m.2.2) = none) : lapOne z ss E c = E := by
  unfold lapOne
  rw [hm]
  dsimp only
  rw [h]
  cases look E c <;> rfl
theorem lapOne_new {E : Ent} {c : Cl} {m : List Nat × List Nat × Nat} {v : Wt} (hn : look E c = none) (hm : mv z ss c = some m) (h : rd (look E) m.2.1 (m.1, m.2.2) = some v) : lapOne z ss E c = E ++ [(c, v)] := by
  unfold lapOne
  rw [hn, hm]
  dsimp only
  rw [h]
theorem lapOne_ways (E : Ent) (c : Cl) : (lapOne z ss E c = E ∧ ((∃ v, look E c = some v) ∨ mv z ss c = none ∨ ∃ m, mv z ss c = some m ∧ rd (look E) m.2.1 (m.1, m.2.2) = none)) ∨
    ∃ m v, look E c = none ∧ mv z ss c = some m ∧ rd (look E) m.2.1 (m.1, m.2.2) = some v ∧ lapOne z ss E c = E ++ [(c, v)] := by
  cases e : look E c with
  | some v => exact .inl ⟨lapOne_known e, .inl ⟨v, rfl⟩⟩
  | none =>
    cases e1 : mv z ss c with
    | none => exact .inl ⟨lapOne_stop e1, .inr (.inl rfl)⟩
    | some m =>
      cases e2 : rd (look E) m.2.1 (m.1, m.2.2) with
      | none => exact .inl ⟨lapOne_waits e1 e2, .inr (.inr ⟨m, rfl, e2⟩)⟩
      | some v => exact .inr ⟨m, v, rfl, rfl, e2, lapOne_new e e1 e2⟩
theorem Closed.lapOne {E : Ent} (h : Closed z ss E) (c : Cl) : Closed z ss (Lk.lapOne z ss E c) := by
  rcases lapOne_ways (z := z) (ss := ss) E c with ⟨e, _⟩ | ⟨m, v, e1, e2, e3, e⟩
  · rw [e]
    exact h
  · rw [e]
    exact .snoc h e1 e2 e3
def lap (z : Str) (ss : List PyData) (cs : List Cl) (E : Ent) : Ent := cs.foldl (lapOne z ss) E
def laps (z : Str) (ss : List PyData) (cs : List Cl) : Nat → Ent → Ent
  | 0, E => E
  | n + 1, E => laps z ss cs n (lap z ss cs E)
theorem Closed.lap {cs : List Cl} : ∀ {E : Ent}, Closed z ss E → Closed z ss (Lk.lap z ss cs E) := by
  induction cs with
  | nil => exact fun h => h
  | cons c r ih => exact fun h => ih (h.lapOne c)
theorem Closed.laps {cs : List Cl} : ∀ (n : Nat) {E : Ent}, Closed z ss E → Closed z ss (Lk.laps z ss cs n E)
  | 0, E, h => h
  | n + 1, E, h => Closed.laps n h.lap
/-- only these calls stand in it, each once -/
def Among (cs : List Cl) (E : Ent) : Prop := (∀ e ∈ E, e.1 ∈ cs) ∧ (E.map (·.1)).Nodup
theorem look_none {E : Ent} {c : Cl} (h : look E c = none) : c ∉ E.map (·.1) := fun hc => by
  obtain ⟨e, he, rfl⟩ := List.mem_map.1 hc
  unfold look at h
  rw [Option.map_eq_none_iff, List.find?_eq_none] at h
  exact h e he (decide_eq_true rfl)
theorem look_mem {E : Ent} {c : Cl} {v : Wt} (h : look E c = some v) : (c, v) ∈ E := by
  unfold look at h
  obtain ⟨e, e1, e2⟩ := Option.map_eq_some_iff.1 h
  have h1 := List.mem_of_find?_eq_some e1
  have h2 : e.1 = c := of_decide_eq_true (List.find?_some (p := fun e : Cl × Wt => decide (e.1 = c)) e1)
  rw [← h2, ← e2]
  exact h1
theorem Among.lapOne {cs : List Cl} {E : Ent} (h : Among cs E) {c : Cl} (hc : c ∈ cs) : Among cs (Lk.lapOne z ss E c) := by
  rcases lapOne_ways (z := z) (ss := ss) E c with ⟨e, _⟩ | ⟨m, v, e1, e2, e3, e⟩
  · rw [e]
    exact h
  · rw [e]
    refine ⟨fun x hx => ?_, ?_⟩
    · rcases List.mem_append.1 hx with hx | hx
      · exact h.1 x hx
      · obtain rfl := List.mem_singleton.1 hx
        exact hc
    · rw [List.map_append]
      refine List.nodup_append.2 ⟨h.2, List.nodup_cons.2 ⟨fun x => (by cases x), .nil⟩, fun a ha b hb eab => ?_⟩
      have hbc : b = c := List.mem_singleton.1 hb
      rw [eab, hbc] at ha
      exact look_none e1 ha
theorem Among.fold {cs : List Cl} : ∀ {l : List Cl} {E : Ent}, Among cs E → (∀ c ∈ l, c ∈ cs) → Among cs (l.foldl (Lk.lapOne z ss) E)
  | [], E, h, _ => h
  | c :: l, E, h, k => Among.fold (l := l) (E := Lk.lapOne z ss E c) (h.lapOne (k c List.mem_cons_self)) fun x hx => k x (List.mem_cons_of_mem _ hx)
theorem Among.lap {cs : List Cl} {E : Ent} (h : Among cs E) : Among cs (Lk.lap z ss cs E) := h.fold fun _ h => h
theorem sub_len : ∀ {a b : List Cl}, a.Nodup → (∀ x ∈ a, x ∈ b) → a.length ≤ b.length
  | [], b, _, _ => Nat.zero_le _
  | x :: a, b, n, h => by
    obtain ⟨n1, n2⟩ := List.nodup_cons.1 n
    have hb := h x List.mem_cons_self
    have hl := sub_len (b := b.erase x) n2 fun y hy => (List.mem_erase_of_ne (show y ≠ x from fun e => n1 (by rw [← e]; exact hy))).2 (h y (List.mem_cons_of_mem _ hy))
    rw [List.length_erase_of_mem hb] at hl
    have : 0 < b.length := List.length_pos_of_mem hb
    simp only [List.length_cons]
    omega
theorem Among.len {cs : List Cl} {E : Ent} (h : Among cs E) : E.length ≤ cs.length := by
  rw [← List.length_map (f := fun e : Cl × Wt => e.1)]
  exact sub_len h.2 fun x hx => by
    obtain ⟨e, he, rfl⟩ := List.mem_map.1 hx
    exact h.1 e he
theorem lapOne_len (E : Ent) (c : Cl) : E.length ≤ (lapOne z ss E c).length := by
  rcases lapOne_ways (z := z) (ss := ss) E c with ⟨e, _⟩ | ⟨m, v, e1, e2, e3, e⟩
  · rw [e]
    exact Nat.le_refl _
  · rw [e, List.length_append]
    exact Nat.le_add_right _ _
theorem fold_len : ∀ (l : List Cl) (E : Ent), E.length ≤ (l.foldl (lapOne z ss) E).length
  | [], E => Nat.le_refl _
  | c :: l, E => Nat.le_trans (lapOne_len E c) (fold_len l _)
/-- a lap that finds nothing new leaves all as it is, and each call without a value waits or breaks off -/
theorem fold_same : ∀ {l : List Cl} {E : Ent}, (l.foldl (lapOne z ss) E).length ≤ E.length → (l.foldl (lapOne z ss) E) = E ∧ ∀ c ∈ l, look E c = none → mv z ss c = none ∨ ∃ m, mv z ss c = some m ∧ rd (look E) m.2.1 (m.1, m.2.2) = none
  | [], E, _ => ⟨rfl, fun c h => by cases h⟩
  | c :: l, E, h => by
    rw [List.foldl_cons] at h ⊢
    rcases lapOne_ways (z := z) (ss := ss) E c with ⟨e, k⟩ | ⟨m, v, e1, e2, e3, e⟩
    · rw [e] at h ⊢
      obtain ⟨h1, h2⟩ := fold_same h
      refine ⟨h1, fun x hx hn => ?_⟩
      rcases List.mem_cons.1 hx with rfl | hx
      · rcases k with ⟨v, k⟩ | k
        · rw [k] at hn
          cases hn
        · exact k
      · exact h2 x hx hn
    · rw [e] at h
      have := fold_len (z := z) (ss := ss) l (E ++ [(c, v)])
      rw [List.length_append] at this
      have h1 : [(c, v)].length = 1 := rfl
      omega
/-- so many laps find all, or the last one finds nothing new -/
theorem laps_fix {cs : List Cl} : ∀ (n : Nat) {E : Ent}, Among cs E → cs.length ≤ n + E.length → ∃ F, laps z ss cs n E = F ∧ Among cs F ∧ (lap z ss cs F).length ≤ F.length
  | 0, E, h, k => ⟨E, rfl, h, by
    have := (Among.lap (z := z) (ss := ss) h).len
    omega⟩
  | n + 1, E, h, k => by
    by_cases e : (lap z ss cs E).length ≤ E.length
    · have h1 : lap z ss cs E = E := (fold_same e).1
      have : ∀ n, laps z ss cs n E = E := fun n => by
        induction n with
        | zero => rfl
        | succ n ih =>
          show laps z ss cs n (lap z ss cs E) = E
          rw [h1]
          exact ih
      exact ⟨E, this _, h, e⟩
    · exact laps_fix n h.lap (by omega)
/-- the laps find all values -/
theorem laps_all {cs : List Cl} {n : Nat} (k : cs.length ≤ n) (hd : ∀ c ∈ cs, ∀ m, mv z ss c = some m → ∀ (f : Cl → Option Wt) (l : List Nat) (d : Nat) (r : List Nat) (b : Wt), (∀ c v, f c = some v → Val z ss c v) → m.2.1 = l ++ d :: r → rd f l (m.1, m.2.2) = some b → (b.2, d) ∈ cs)
    {c : Cl} (hc : c ∈ cs) {v : Wt} : Val z ss c v ↔ look (laps z ss cs n []) c = some v := by
  obtain ⟨F, e, hA, hF⟩ := laps_fix (z := z) (ss := ss) n (E := []) ⟨fun _ h => (by cases h), .nil⟩ (Nat.le_trans k (Nat.le_add_right _ _))
  have cl : Closed z ss F := by
    rw [← e]
    exact Closed.laps n .nil
  rw [e]
  obtain ⟨_, h2⟩ := fold_same hF
  have st : Stuck z ss F (fun x => x ∈ cs ∧ look F x = none) := fun x ⟨hx, hn⟩ => by
    rcases h2 x hx hn with h | ⟨m, h3, h4⟩
    · exact .inl h
    · obtain ⟨l, d, r, b, e1, e2, e3⟩ := rd_stuck h4
      exact .inr ⟨(b.2, d), ⟨m, l, r, b.1, h3, e1, e2⟩, hd x hx m h3 _ l d r b cl.val e1 e2, e3⟩
  refine ⟨fun h => ?_, fun h => cl.val c v h⟩
  cases e1 : look F c with
  | none => exact absurd h (st.none cl ⟨hc, e1⟩ v)
  | some w => rw [h.det (cl.val c w e1)]
end
end Lk

/-! Calls as they lie: dicts of calls, rows of calls that are being read. -/
namespace Lk
open PySem PySem.Spec PyProof.Rows L2 G
/-- a heap without some places -/
def off (S : List Addr) (H : Hp) : Hp := fun b => if b ∈ S then none else H b
theorem off_some {S : List Addr} {H : Hp} {b : Addr} {o : HO} (h : off S H b = some o) : b ∉ S ∧ H b = some o := by
  unfold off at h
  split at h
  · cases h
  · exact ⟨‹_›, h⟩
theorem off_of {S : List Addr} {H : Hp} {b : Addr} {o : HO} (n : b ∉ S) (h : H b = some o) : off S H b = some o := (if_neg n).trans h
theorem off_same {S : List Addr} {H : Hp} : Same (off S H) H := fun _ _ h => (off_some h).2
/-- all but some places stays -/
def Keep (S : List Addr) (H H' : Hp) : Prop := Same (off S H) (off S H')
theorem Keep.refl {S H} : Keep S H H := Same.refl _
theorem Keep.trans {S H H1 H2} (x : Keep S H H1) (y : Keep S H1 H2) : Keep S H H2 := Same.trans x y
theorem Keep.of {S H H'} (x : Same H H') : Keep S H H' := fun b o h => off_of (off_some h).1 (x b o (off_some h).2)
theorem Keep.pot {S : List Addr} {H : Hp} {a : Addr} {o : HO} (h : a ∈ S) : Keep S H (upd H a o) := fun b u e => by
  obtain ⟨n, e⟩ := off_some e
  exact off_of n ((upd_ne (show b ≠ a from fun z => n (by rw [z]; exact h))).trans e)
theorem Keep.more {S T : List Addr} {H H' : Hp} (k : Keep S H H') (h : ∀ a ∈ S, a ∈ T) : Keep T H H' := fun b u e => by
  obtain ⟨n, e⟩ := off_some e
  exact off_of n (off_some (k b u (off_of (fun z => n (h b z)) e))).2
theorem Keep.at_ {S : List Addr} {H H' : Hp} {b : Addr} {o : HO} (k : Keep S H H') (n : b ∉ S) (e : H b = some o) : H' b = some o := (off_some (k b o (off_of n e))).2
theorem Keep.same {S : List Addr} {H H' : Hp} (k : Keep S H H') : Same (off S H) H' := Same.trans k off_same
/-- places that were free: all that stood stays -/
theorem Keep.free {S : List Addr} {H0 H H' : Hp} (s : Same H0 H) (k : Keep S H H') (f : ∀ a ∈ S, H0 a = none) : Same H0 H' := fun b o e => k.at_ (fun z => by
  rw [f b z] at e
  cases e) (s b o e)
/-- a call as a key -/
def ckey (c : Cl) : List Key := [.inl (c.1 : Int), .inr (Ls.one c.2)]
theorem one_inj {a b : Nat} (h : Ls.one a = Ls.one b) : a = b := by
  have e : (tx [a]).cps.toList = (tx [b]).cps.toList := congrArg (fun x : Str => x.cps.toList) h
  rw [tx_codes, tx_codes] at e
  injection e
theorem ckey_inj {c d : Cl} (h : ckey c = ckey d) : c = d := by
  unfold ckey at h
  injection h with h1 h2
  injection h2 with h2 _
  injection h1 with h1
  injection h2 with h2
  exact Prod.ext (Int.ofNat.inj h1) (one_inj h2)
/-- the pair of a call -/
def CallAt (H : Hp) (p : Addr) (c : Cl) : Prop := H p = some (.tup [.int (c.1 : Int), .str (Ls.one c.2)])
theorem CallAt.key {H : Hp} {p : Addr} {c : Cl} (h : CallAt H p c) : H p = some (.tup ((ckey c).map kV)) := h
/-- the pair of a size and a state -/
def SzAt (H : Hp) (v : V) (w : Wt) : Prop := ∃ p, v = .ref p ∧ H p = some (.tup [.int (w.1.length : Int), .int (w.2 : Int)])
theorem SzAt.mono {H H' : Hp} {v : V} {w : Wt} (h : SzAt H v w) (s : Same H H') : SzAt H' v w := by
  obtain ⟨p, e, h⟩ := h
  exact ⟨p, e, s _ _ h⟩
/-- entries of a dict of sizes -/
inductive SzE (H : Hp) : List (List Key × V) → Ent → Prop
  | nil : SzE H [] []
  | cons {c : Cl} {w : Wt} {v : V} {kvs : List (List Key × V)} {E : Ent} : SzAt H v w → SzE H kvs E → SzE H ((ckey c, v) :: kvs) ((c, w) :: E)
theorem SzE.mono {H H' : Hp} {kvs : List (List Key × V)} {E : Ent} (h : SzE H kvs E) (s : Same H H') : SzE H' kvs E := by
  induction h with
  | nil => exact .nil
  | cons a _ ih => exact .cons (a.mono s) ih
theorem look_cons (c d : Cl) (w : Wt) (E : Ent) : look ((c, w) :: E) d = if c = d then some w else look E d := by
  unfold look
  rw [List.find?_cons]
  by_cases h : c = d
  · rw [if_pos h, decide_eq_true h]
    rfl
  · rw [if_neg h, decide_eq_false h]
theorem SzE.get {H : Hp} {kvs : List (List Key × V)} {E : Ent} (h : SzE H kvs E) (d : Cl) : (∃ v w, valV kvs (ckey d) = some v ∧ look E d = some w ∧ SzAt H v w) ∨ (valV kvs (ckey d) = none ∧ look E d = none) := by
  induction h with
  | nil => exact .inr ⟨rfl, rfl⟩
  | @cons c w v kvs E a _ ih =>
    rw [look_cons]
    by_cases e : c = d
    · subst e
      exact .inl ⟨v, w, valV_pos rfl, if_pos rfl, a⟩
    · rw [if_neg e, valV_neg (fun z => e (ckey_inj z))]
      exact ih
theorem SzE.snoc {H : Hp} {kvs : List (List Key × V)} {E : Ent} {c : Cl} {v : V} {w : Wt} (h : SzE H kvs E) (a : SzAt H v w) : SzE H (kvs ++ [(ckey c, v)]) (E ++ [(c, w)]) := by
  induction h with
  | nil => exact .cons a .nil
  | cons b _ ih => exact .cons b ih
theorem putK_new {kvs : List (List Key × V)} {k : List Key} {v : V} (h : valV kvs k = none) : putK kvs k v = kvs ++ [(k, v)] := by
  unfold putK
  rw [valV_any, h]
  rfl
theorem SzE.put {H : Hp} {kvs : List (List Key × V)} {E : Ent} {c : Cl} {v : V} {w : Wt} (h : SzE H kvs E) (n : look E c = none) (a : SzAt H v w) : SzE H (putK kvs (ckey c) v) (E ++ [(c, w)]) := by
  rcases h.get c with ⟨_, _, _, e, _⟩ | ⟨e, _⟩
  · rw [n] at e
    cases e
  · rw [putK_new e]
    exact h.snoc a
theorem SzE.len {H : Hp} {kvs : List (List Key × V)} {E : Ent} (h : SzE H kvs E) : kvs.length = E.length := by
  induction h with
  | nil => rfl
  | cons _ _ ih => exact congrArg (· + 1) ih
/-- a dict of calls' sizes -/
def Found (S : List Addr) (H : Hp) (d : Addr) (E : Ent) : Prop := ∃ kvs, H d = some (.dT kvs) ∧ SzE (off S H) kvs E
theorem Found.keep {S : List Addr} {H H' : Hp} {d : Addr} {E : Ent} (h : Found S H d E) (k : Keep S H H') (e : H' d = H d) : Found S H' d E := by
  obtain ⟨kvs, h1, h2⟩ := h
  exact ⟨kvs, e.trans h1, h2.mono k⟩
theorem Found.same {S : List Addr} {H H' : Hp} {d : Addr} {E : Ent} (h : Found S H d E) (s : Same H H') : Found S H' d E := by
  obtain ⟨kvs, h1, h2⟩ := h
  exact ⟨kvs, s _ _ h1, h2.mono (Keep.of s)⟩
/-- a call that is being read, as it lies -/
def ReAt (H : Hp) (v : V) (r : Re) : Prop := ∃ p q, v = .ref p ∧ H p = some (.tup [.ref q, .int (r.2.1 : Int), .int (r.2.2.1 : Int), .int (r.2.2.2 : Int)]) ∧ CallAt H q r.1
theorem ReAt.mono {H H' : Hp} {v : V} {r : Re} (h : ReAt H v r) (s : Same H H') : ReAt H' v r := by
  obtain ⟨p, q, e, h1, h2⟩ := h
  exact ⟨p, q, e, s _ _ h1, s _ _ h2⟩
/-- a row, its last item ahead -/
inductive RowAt (H : Hp) : List V → List Re → Prop
  | nil : RowAt H [] []
  | snoc {xs : List V} {x : V} {r : Re} {row : List Re} : RowAt H xs row → ReAt H x r → RowAt H (xs ++ [x]) (r :: row)
theorem RowAt.mono {H H' : Hp} {xs : List V} {row : List Re} (h : RowAt H xs row) (s : Same H H') : RowAt H' xs row := by
  induction h with
  | nil => exact .nil
  | snoc _ a ih => exact .snoc ih (a.mono s)
theorem RowAt.len {H : Hp} {xs : List V} {row : List Re} (h : RowAt H xs row) : xs.length = row.length := by
  induction h with
  | nil => rfl
  | snoc _ _ ih => rw [List.length_append, ih]; rfl
theorem RowAt.top {H : Hp} {xs : List V} {r : Re} {row : List Re} (h : RowAt H xs (r :: row)) : ∃ ys y, xs = ys ++ [y] ∧ RowAt H ys row ∧ ReAt H y r := by
  cases h with
  | snoc a b => exact ⟨_, _, rfl, a, b⟩
theorem RowAt.none {H : Hp} {xs : List V} (h : RowAt H xs []) : xs = [] := by
  cases h
  rfl
def RowL (S : List Addr) (H : Hp) (l : Addr) (row : List Re) : Prop := ∃ xs, H l = some (.lst xs) ∧ RowAt (off S H) xs row
theorem RowL.keep {S : List Addr} {H H' : Hp} {l : Addr} {row : List Re} (h : RowL S H l row) (k : Keep S H H') (e : H' l = H l) : RowL S H' l row := by
  obtain ⟨xs, h1, h2⟩ := h
  exact ⟨xs, e.trans h1, h2.mono k⟩
theorem RowL.same {S : List Addr} {H H' : Hp} {l : Addr} {row : List Re} (h : RowL S H l row) (s : Same H H') : RowL S H' l row := by
  obtain ⟨xs, h1, h2⟩ := h
  exact ⟨xs, s _ _ h1, h2.mono (Keep.of s)⟩
section
variable {z : Str} {ss : List PyData}
/-- what is known of a move -/
theorem mv_ok (ok : StatesOk z ss) {c : Cl} {m : List Nat × List Nat × Nat} (h : mv z ss c = some m) : (c.1 < ss.length ∧ c.2 ∈ z.cps.toList) ∧ ∃ x y : Str, moveD z ss c.1 c.2 = .tuple [.str x, .str y, .int (m.2.2 : Int)] ∧
    m.1 = x.cps.toList ∧ m.2.1 = y.cps.toList ∧ x.length ≤ 2000 ∧ y.length ≤ 2000 ∧ allIn z x = true ∧ allIn z y = true ∧ m.2.2 < ss.length := by
  have v : c.1 < ss.length ∧ c.2 ∈ z.cps.toList := by
    unfold mv moveD at h
    have hc : c.2 ∈ z.cps.toList := by
      have e := PySem.StrLaws.found_one z c.2
      cases q : Builtin.Str.occurrences z (Ls.one c.2) 0 z.length 1 with
      | nil =>
        rw [q] at h
        cases h
      | cons k r =>
        have e' : (!(Builtin.Str.occurrences z (Ls.one c.2) 0 z.length 1).isEmpty) = decide (c.2 ∈ z.cps.toList) := e
        rw [q] at e'
        exact of_decide_eq_true e'.symm
    refine ⟨?_, hc⟩
    by_cases hs : c.1 < ss.length
    · exact hs
    · have eg : ss.getD c.1 .none = .none := by
        rw [List.getD_eq_getElem?_getD, List.getElem?_eq_none (Nat.le_of_not_lt hs)]
        rfl
      cases q : Builtin.Str.occurrences z (Ls.one c.2) 0 z.length 1 with
      | nil =>
        rw [q] at h
        cases h
      | cons k r =>
        rw [q, eg] at h
        dsimp only [movesOf] at h
        rw [List.getD_nil] at h
        cases h
  refine ⟨v, ?_⟩
  obtain ⟨ms, l, k, rest, _, _, _, e4⟩ := place_in ok v.1 v.2
  unfold mv at h
  generalize moveD z ss c.1 c.2 = md at h e4
  rcases moveB_parts e4 with rfl | ⟨x, y, g, rfl, ⟨hx, lx⟩, ⟨hy, ly⟩, hg⟩
  · cases h
  · have h := Option.some.inj h
    subst h
    refine ⟨x, y, ?_, rfl, rfl, lx, ly, hx, hy, ?_⟩
    · show PyData.tuple [.str x, .str y, .int (g : Int)] = .tuple [.str x, .str y, .int (((g : Int).toNat : Nat) : Int)]
      rw [Int.toNat_natCast]
    · show (g : Int).toNat < ss.length
      omega
/-- a call that has no move -/
theorem mv_none (ok : StatesOk z ss) {c : Cl} (h1 : c.1 < ss.length) (h2 : c.2 ∈ z.cps.toList) (h : mv z ss c = none) : moveD z ss c.1 c.2 = .none := by
  obtain ⟨ms, l, k, rest, _, _, _, e4⟩ := place_in ok h1 h2
  unfold mv at h
  generalize moveD z ss c.1 c.2 = md at h e4
  rcases moveB_parts e4 with rfl | ⟨x, y, g, rfl, _⟩
  · rfl
  · cases h
/-- a call of the expander -/
def Good (z : Str) (ss : List PyData) (c : Cl) : Prop := c.1 < ss.length ∧ c.2 ∈ z.cps.toList
theorem rd_good {f : Cl → Option Wt} {n : Nat} (hf : ∀ c v, f c = some v → v.2 < n) : ∀ {l : List Nat} {a b : Wt}, a.2 < n → rd f l a = some b → b.2 < n
  | [], a, b, h, e => by
    cases e
    exact h
  | d :: l, a, b, h, e => by
    obtain ⟨v, e1, e2⟩ := rd_cons e
    exact rd_good (a := (a.1 ++ v.1, v.2)) hf (show v.2 < n from hf _ _ e1) e2
theorem Closed.state (ok : StatesOk z ss) {E : Ent} (h : Closed z ss E) : ∀ c v, look E c = some v → v.2 < ss.length := by
  induction h with
  | nil =>
    intro c v h
    cases h
  | @snoc E c v m hE hn hm hr ih =>
    intro d w hd
    by_cases e : c = d
    · subst e
      rw [look_new hn] at hd
      obtain rfl := Option.some.inj hd
      obtain ⟨_, x, y, _, _, _, _, _, _, _, hg⟩ := mv_ok ok hm
      exact rd_good (a := (m.1, m.2.2)) ih hg hr
    · rw [look_other e] at hd
      exact ih d w hd
theorem Closed.good (ok : StatesOk z ss) {E : Ent} (h : Closed z ss E) : ∀ c v, look E c = some v → Good z ss c := by
  induction h with
  | nil =>
    intro c v h
    cases h
  | @snoc E c v m hE hn hm hr ih =>
    intro d w hd
    by_cases e : c = d
    · subst e
      exact (mv_ok ok hm).1
    · rw [look_other e] at hd
      exact ih d w hd
theorem ReadTo.good (ok : StatesOk z ss) {E : Ent} (cl : Closed z ss E) {r : Re} {m : List Nat × List Nat × Nat} {rest : List Nat} (h : ReadTo z ss E r m rest) : r.2.2.2 < ss.length ∧ ∀ d ∈ rest, d ∈ z.cps.toList := by
  obtain ⟨l, w, e1, e2, e3, e4, e5⟩ := h
  obtain ⟨_, x, y, _, _, ey, _, _, _, hy, hg⟩ := mv_ok ok e1
  refine ⟨rd_good (a := (m.1, m.2.2)) (cl.state ok) hg e4, fun d hd => ?_⟩
  refine allIn_mem hy d ?_
  rw [← ey, e2]
  exact List.mem_append_right _ hd
theorem Meas.congr {E : Ent} {O O' S : Cl → Prop} {row : List Re} (M : Meas z ss E O row S) (h : ∀ c, O c ↔ O' c) : Meas z ss E O' row S :=
  ⟨M.closed, M.stuck, fun c hc hn => M.opened c ((h c).2 hc) hn, fun c v e => (h c).1 (M.found c v e), fun r hr => ⟨(h _).1 (M.inRow r hr).1, (M.inRow r hr).2⟩, M.nodup⟩
end
end Lk
namespace Lk
open PySem PySem.Spec PyProof.Rows L2 G
section
variable {z : Str} {ss : List PyData}
/-- all calls, in their order -/
def callsOf (z : Str) (n : Nat) : List Cl := (List.range n).flatMap fun s => z.cps.toList.map fun c => (s, c)
theorem callsOf_mem {n : Nat} {c : Cl} : c ∈ callsOf z n ↔ c.1 < n ∧ c.2 ∈ z.cps.toList := by
  unfold callsOf
  rw [List.mem_flatMap]
  constructor
  · rintro ⟨s, hs, h⟩
    obtain ⟨d, hd, rfl⟩ := List.mem_map.1 h
    exact ⟨List.mem_range.1 hs, hd⟩
  · rintro ⟨h1, h2⟩
    exact ⟨c.1, List.mem_range.2 h1, List.mem_map.2 ⟨c.2, h2, rfl⟩⟩
theorem callsOf_len (z : Str) (n : Nat) : (callsOf z n).length = n * z.length := by
  unfold callsOf
  rw [List.length_flatMap]
  have e : (List.range n).map (fun s => (z.cps.toList.map fun c => ((s, c) : Cl)).length) = List.replicate n z.length := by
    rw [List.eq_replicate_iff]
    refine ⟨by rw [List.length_map, List.length_range], fun x hx => ?_⟩
    obtain ⟨s, _, rfl⟩ := List.mem_map.1 hx
    rw [List.length_map]
    simp [Str.length]
  rw [e, List.sum_replicate_nat]
theorem Closed.among (ok : StatesOk z ss) {E : Ent} (h : Closed z ss E) : Among (callsOf z ss.length) E := by
  induction h with
  | nil => exact ⟨fun _ h => (by cases h), .nil⟩
  | @snoc E c v m hE hn hm hr ih =>
    refine ⟨fun x hx => ?_, ?_⟩
    · rcases List.mem_append.1 hx with hx | hx
      · exact ih.1 x hx
      · obtain rfl := List.mem_singleton.1 hx
        exact callsOf_mem.2 (mv_ok ok hm).1
    · rw [List.map_append]
      refine List.nodup_append.2 ⟨ih.2, List.nodup_cons.2 ⟨fun x => (by cases x), .nil⟩, fun a ha b hb eab => ?_⟩
      have hbc : b = c := List.mem_singleton.1 hb
      rw [eab, hbc] at ha
      exact look_none hn ha
theorem calls_few (ok : StatesOk z ss) : (callsOf z ss.length).length ≤ 240 := by
  rw [callsOf_len]
  exact Nat.mul_le_mul ok.2.2.1 ok.1.small.2.1
theorem Closed.few (ok : StatesOk z ss) {E : Ent} (h : Closed z ss E) : E.length ≤ 240 := Nat.le_trans (h.among ok).len (calls_few ok)
theorem Meas.few (ok : StatesOk z ss) {E : Ent} {O S : Cl → Prop} {row : List Re} (M : Meas z ss E O row S) (g : ∀ r ∈ row, Good z ss r.1) : row.length ≤ 240 := by
  rw [← List.length_map (f := fun r : Re => r.1)]
  exact Nat.le_trans (sub_len M.nodup fun c hc => by
    obtain ⟨r, hr, rfl⟩ := List.mem_map.1 hc
    exact callsOf_mem.2 (g r hr)) (calls_few ok)
theorem Row.good (ok : StatesOk z ss) {E : Ent} {row : List Re} {c : Cl} (h : Row z ss E row c) : ∀ r ∈ row, Good z ss r.1 := by
  induction h with
  | nil => exact fun r hr => by cases hr
  | cons a _ ih =>
    intro x hx
    rcases List.mem_cons.1 hx with rfl | hx
    · obtain ⟨l, w, e1, _⟩ := a
      exact (mv_ok ok e1).1
    · exact ih x hx
/-- the data of a call's move -/
theorem move_is (ok : StatesOk z ss) {f : Str} {c : Cl} (h : Good z ss c) : ∃ (ms : List PyData) (l : PyData) (k : Nat) (rest : List Nat), ss[c.1]? = some (.tuple [.tuple ms, l]) ∧ Builtin.Str.occurrences z (Ls.one c.2) 0 z.length 1 = k :: rest ∧ ms[k]? = some (moveD z ss c.1 c.2) := by
  obtain ⟨ms, l, k, rest, e1, e2, e3, _⟩ := place_in ok h.1 h.2
  exact ⟨ms, l, k, rest, e1, e2, e3⟩
end
end Lk

/-! Calls as they lie, further: other places left out; the dict of opened calls. -/
namespace Lk
open PySem PySem.Spec PyProof.Rows L2 G
/-- no tuple lies there -/
def NoTup (H : Hp) (a : Addr) : Prop := ∀ xs, H a ≠ some (.tup xs)
theorem NoTup.dT {H : Hp} {a : Addr} {kvs : List (List Key × V)} (h : H a = some (.dT kvs)) : NoTup H a := fun xs e => by
  rw [h] at e
  cases e
theorem NoTup.lst {H : Hp} {a : Addr} {us : List V} (h : H a = some (.lst us)) : NoTup H a := fun xs e => by
  rw [h] at e
  cases e
theorem tup_off {H : Hp} {T : List Addr} {p : Addr} {xs : List V} (h : H p = some (.tup xs)) (n : ∀ a ∈ T, NoTup H a) : off T H p = some (.tup xs) := off_of (fun z => n p z xs h) h
theorem CallAt.any {S T : List Addr} {H : Hp} {p : Addr} {c : Cl} (h : CallAt (off S H) p c) (n : ∀ a ∈ T, NoTup H a) : CallAt (off T H) p c := tup_off (off_some h).2 n
theorem CallAt.out {T : List Addr} {H : Hp} {p : Addr} {c : Cl} (h : CallAt H p c) (n : ∀ a ∈ T, NoTup H a) : CallAt (off T H) p c := tup_off h n
theorem SzAt.any {S T : List Addr} {H : Hp} {v : V} {w : Wt} (h : SzAt (off S H) v w) (n : ∀ a ∈ T, NoTup H a) : SzAt (off T H) v w := by
  obtain ⟨p, e, h⟩ := h
  exact ⟨p, e, tup_off (off_some h).2 n⟩
theorem SzE.any {S T : List Addr} {H : Hp} {kvs : List (List Key × V)} {E : Ent} (h : SzE (off S H) kvs E) (n : ∀ a ∈ T, NoTup H a) : SzE (off T H) kvs E := by
  induction h with
  | nil => exact .nil
  | cons a _ ih => exact .cons (a.any n) ih
theorem Found.any {S T : List Addr} {H : Hp} {d : Addr} {E : Ent} (h : Found S H d E) (n : ∀ a ∈ T, NoTup H a) : Found T H d E := by
  obtain ⟨kvs, h1, h2⟩ := h
  exact ⟨kvs, h1, h2.any n⟩
theorem ReAt.any {S T : List Addr} {H : Hp} {v : V} {r : Re} (h : ReAt (off S H) v r) (n : ∀ a ∈ T, NoTup H a) : ReAt (off T H) v r := by
  obtain ⟨p, q, e, h1, h2⟩ := h
  exact ⟨p, q, e, tup_off (off_some h1).2 n, h2.any n⟩
theorem RowAt.any {S T : List Addr} {H : Hp} {xs : List V} {row : List Re} (h : RowAt (off S H) xs row) (n : ∀ a ∈ T, NoTup H a) : RowAt (off T H) xs row := by
  induction h with
  | nil => exact .nil
  | snoc _ a ih => exact .snoc ih (a.any n)
theorem RowL.any {S T : List Addr} {H : Hp} {l : Addr} {row : List Re} (h : RowL S H l row) (n : ∀ a ∈ T, NoTup H a) : RowL T H l row := by
  obtain ⟨xs, h1, h2⟩ := h
  exact ⟨xs, h1, h2.any n⟩
theorem Keep.drop {S T : List Addr} {H H1 H' : Hp} (s : Same H H1) (k : Keep T H1 H') (f : ∀ a ∈ T, a ∈ S ∨ H a = none) : Keep S H H' := fun b o e => by
  obtain ⟨n, e⟩ := off_some e
  refine off_of n (k.at_ (fun z => ?_) (s b o e))
  rcases f b z with h | h
  · exact n h
  · rw [h] at e
    cases e
theorem off_less {S T : List Addr} {H : Hp} (h : ∀ a ∈ S, a ∈ T) : Same (off T H) (off S H) := fun b o e => off_of (fun z => (off_some e).1 (h b z)) (off_some e).2
/-- the dict of opened calls -/
def Opened (H : Hp) (o : Addr) (OL : List Cl) : Prop := ∃ kvs : List (List Key × V), H o = some (.dT kvs) ∧ kvs.map (·.1) = OL.map ckey
theorem Opened.same {H H' : Hp} {o : Addr} {OL : List Cl} (h : Opened H o OL) (s : H' o = H o) : Opened H' o OL := by
  obtain ⟨kvs, h1, h2⟩ := h
  exact ⟨kvs, s.trans h1, h2⟩
theorem Opened.noTup {H : Hp} {o : Addr} {OL : List Cl} (h : Opened H o OL) : NoTup H o := by
  obtain ⟨kvs, h1, _⟩ := h
  exact .dT h1
theorem Found.noTup {S : List Addr} {H : Hp} {d : Addr} {E : Ent} (h : Found S H d E) : NoTup H d := by
  obtain ⟨kvs, h1, _⟩ := h
  exact .dT h1
theorem RowL.noTup {S : List Addr} {H : Hp} {l : Addr} {row : List Re} (h : RowL S H l row) : NoTup H l := by
  obtain ⟨us, h1, _⟩ := h
  exact .lst h1
theorem valV_key {kvs : List (List Key × V)} {k : List Key} : (valV kvs k).isSome = true ↔ k ∈ kvs.map (·.1) := by
  rw [← valV_any, List.any_eq_true, List.mem_map]
  constructor
  · rintro ⟨x, hx, e⟩
    exact ⟨x, hx, of_decide_eq_true e⟩
  · rintro ⟨x, hx, e⟩
    exact ⟨x, hx, decide_eq_true e⟩
theorem opened_get {kvs : List (List Key × V)} {OL : List Cl} (h : kvs.map (·.1) = OL.map ckey) (c : Cl) : (valV kvs (ckey c)).isSome = true ↔ c ∈ OL := by
  rw [valV_key, h, List.mem_map]
  constructor
  · rintro ⟨x, hx, e⟩
    exact ckey_inj e ▸ hx
  · exact fun h => ⟨c, h, rfl⟩
theorem opened_put {kvs : List (List Key × V)} {OL : List Cl} (h : kvs.map (·.1) = OL.map ckey) {c : Cl} (n : c ∉ OL) (v : V) : (putK kvs (ckey c) v).map (·.1) = (OL ++ [c]).map ckey := by
  have e : valV kvs (ckey c) = none := by
    cases e : valV kvs (ckey c) with
    | none => rfl
    | some x => exact absurd ((opened_get h c).1 (by rw [e]; rfl)) n
  rw [putK_new e, List.map_append, List.map_append, h]
  rfl
theorem opened_len {kvs : List (List Key × V)} {OL : List Cl} (h : kvs.map (·.1) = OL.map ckey) : kvs.length = OL.length := by
  rw [← List.length_map (f := fun kv : List Key × V => kv.1), h, List.length_map]
/-- calls, each once -/
def Calls (z : Str) (ss : List PyData) (OL : List Cl) : Prop := OL.Nodup ∧ ∀ c ∈ OL, Good z ss c
theorem Calls.few {z : Str} {ss : List PyData} {OL : List Cl} (ok : StatesOk z ss) (h : Calls z ss OL) : OL.length ≤ 240 :=
  Nat.le_trans (sub_len h.1 fun c hc => callsOf_mem.2 (h.2 c hc)) (calls_few ok)
theorem Calls.snoc {z : Str} {ss : List PyData} {OL : List Cl} {c : Cl} (h : Calls z ss OL) (n : c ∉ OL) (g : Good z ss c) : Calls z ss (OL ++ [c]) := by
  refine ⟨List.nodup_append.2 ⟨h.1, List.nodup_cons.2 ⟨fun x => (by cases x), .nil⟩, fun a ha b hb e => ?_⟩, fun x hx => ?_⟩
  · obtain rfl := List.mem_singleton.1 hb
    rw [e] at ha
    exact n ha
  · rcases List.mem_append.1 hx with hx | hx
    · exact h.2 x hx
    · obtain rfl := List.mem_singleton.1 hx
      exact g
end Lk

/-! Comprehensions with two walks of any kind; the list of all calls. -/
namespace Lk
open PySem PySem.Spec PyProof.Rows L2 G
section
variable {K : PySem.W.Frag} {D : Addr} {J : It} {n n1 : Nat} {Gd Gd1 : Hp → Prop} {Y Y1 : Nat → Hp → V → Hp → Prop} {g g1 : TG} {tt tt1 : TT} {wi1 : TI} {te : TE} {vs vs1 : List Nat} {σ σ2 : L2.St} {H1 H4 : Hp} {Qd Nx : Hp → Prop}
/-- the outer walk of two -/
theorem lc2_o (w : Walk J n Gd Y) (Pv : Nat → Hp → Prop) (h0 : Pv 0 (upd H1 D (.lst []))) (hG : ∀ i H, i ≤ n → Pv i H → Gd H)
    (hs : ∀ i x H H', i < n → Pv i H → Y i H x H' → g x (wipe σ vs) H' fun σ2 H2 => wipe σ2 vs = wipe σ vs ∧ tt σ2 H2 fun b H3 =>
      if b = true then wi1 σ2 H3 fun J1 H4 => ∃ W1 : Nat → Nat → Hp → Prop, (∃ m, W1 0 m H4) ∧ ∀ j k H, W1 j k H →
        (J1.stop j H ∧ Pv (i + 1) H) ∨ (J1.go j H ∧ ∃ Nx1 : Hp → Prop, (∀ H', Nx1 H' → ∃ k', k' < k ∧ W1 (j + 1) k' H') ∧ ∀ x H', J1.yld j H x H' → g1 x (wipe σ2 vs1) H' fun σ3 H5 => wipe σ3 vs1 = wipe σ2 vs1 ∧ tt1 σ3 H5 fun b H6 =>
          if b = true then te σ3 H6 fun y H7 => ∃ acc, H7 D = some (.lst acc) ∧ acc.length < sizeLine ∧ Nx1 (upd H7 D (.lst (acc ++ [y]))) else Nx1 H6)
      else Pv (i + 1) H3)
    (hd : ∀ H, Pv n H → Qd H) :
    ∃ W : Nat → Nat → Hp → Prop, (∃ m, W 0 m (upd H1 D (.lst []))) ∧ ∀ i m H, W i m H →
      (J.stop i H ∧ Qd H) ∨ (J.go i H ∧ ∃ Nx : Hp → Prop, (∀ H', Nx H' → ∃ m', m' < m ∧ W (i + 1) m' H') ∧ ∀ x H', J.yld i H x H' → g x (wipe σ vs) H' fun σ2 H2 => wipe σ2 vs = wipe σ vs ∧ tt σ2 H2 fun b H3 =>
        if b = true then wi1 σ2 H3 fun J1 H4 => ∃ W1 : Nat → Nat → Hp → Prop, (∃ m, W1 0 m H4) ∧ ∀ j k H, W1 j k H →
          (J1.stop j H ∧ Nx H) ∨ (J1.go j H ∧ ∃ Nx1 : Hp → Prop, (∀ H', Nx1 H' → ∃ k', k' < k ∧ W1 (j + 1) k' H') ∧ ∀ x H', J1.yld j H x H' → g1 x (wipe σ2 vs1) H' fun σ3 H5 => wipe σ3 vs1 = wipe σ2 vs1 ∧ tt1 σ3 H5 fun b H6 =>
            if b = true then te σ3 H6 fun y H7 => ∃ acc, H7 D = some (.lst acc) ∧ acc.length < sizeLine ∧ Nx1 (upd H7 D (.lst (acc ++ [y]))) else Nx1 H6)
        else Nx H3) := by
  refine ⟨fun i m H => m = n - i ∧ i ≤ n ∧ Pv i H, ⟨n, rfl, Nat.zero_le _, h0⟩, ?_⟩
  rintro i m H ⟨rfl, le, p⟩
  have q := hG i H le p
  by_cases lt : i < n
  · exact .inr ⟨w.goes i H lt q, Pv (i + 1), fun H' p' => ⟨_, by omega, rfl, lt, p'⟩, fun x H' y => hs i x H H' lt p (w.yields i H x H' lt q y)⟩
  · obtain rfl : i = n := by omega
    exact .inl ⟨w.stops H q, hd H p⟩
/-- the inner walk of two -/
theorem lc2_i (w : Walk J n1 Gd1 Y1) (Pw : Nat → Hp → Prop) (h0 : Pw 0 H4) (hG : ∀ j H, j ≤ n1 → Pw j H → Gd1 H)
    (hs : ∀ j y H H', j < n1 → Pw j H → Y1 j H y H' → g1 y (wipe σ2 vs1) H' fun σ3 H5 => wipe σ3 vs1 = wipe σ2 vs1 ∧ tt1 σ3 H5 fun b H6 =>
      if b = true then te σ3 H6 fun y H7 => ∃ acc, H7 D = some (.lst acc) ∧ acc.length < sizeLine ∧ Pw (j + 1) (upd H7 D (.lst (acc ++ [y]))) else Pw (j + 1) H6)
    (hd : ∀ H, Pw n1 H → Nx H) :
    ∃ W1 : Nat → Nat → Hp → Prop, (∃ m, W1 0 m H4) ∧ ∀ j k H, W1 j k H →
      (J.stop j H ∧ Nx H) ∨ (J.go j H ∧ ∃ Nx1 : Hp → Prop, (∀ H', Nx1 H' → ∃ k', k' < k ∧ W1 (j + 1) k' H') ∧ ∀ x H', J.yld j H x H' → g1 x (wipe σ2 vs1) H' fun σ3 H5 => wipe σ3 vs1 = wipe σ2 vs1 ∧ tt1 σ3 H5 fun b H6 =>
        if b = true then te σ3 H6 fun y H7 => ∃ acc, H7 D = some (.lst acc) ∧ acc.length < sizeLine ∧ Nx1 (upd H7 D (.lst (acc ++ [y]))) else Nx1 H6) := by
  refine ⟨fun j m H => m = n1 - j ∧ j ≤ n1 ∧ Pw j H, ⟨n1, rfl, Nat.zero_le _, h0⟩, ?_⟩
  rintro j m H ⟨rfl, le, p⟩
  have q := hG j H le p
  by_cases lt : j < n1
  · exact .inr ⟨w.goes j H lt q, Pw (j + 1), fun H' p' => ⟨_, by omega, rfl, lt, p'⟩, fun x H' y => hs j x H H' lt p (w.yields j H x H' lt q y)⟩
  · obtain rfl : j = n1 := by omega
    exact .inl ⟨w.stops H q, hd H p⟩
end
/-- calls as they lie -/
inductive CallsAt (H : Hp) : List V → List Cl → Prop
  | nil : CallsAt H [] []
  | cons {p : Addr} {c : Cl} {xs : List V} {cs : List Cl} : CallAt H p c → CallsAt H xs cs → CallsAt H (.ref p :: xs) (c :: cs)
theorem CallsAt.mono {H H' : Hp} {xs : List V} {cs : List Cl} (h : CallsAt H xs cs) (s : Same H H') : CallsAt H' xs cs := by
  induction h with
  | nil => exact .nil
  | cons a _ ih => exact .cons (s _ _ a) ih
theorem CallsAt.append {H : Hp} {xs ys : List V} {cs ds : List Cl} (h : CallsAt H xs cs) (k : CallsAt H ys ds) : CallsAt H (xs ++ ys) (cs ++ ds) := by
  induction h with
  | nil => exact k
  | cons a _ ih => exact .cons a ih
theorem CallsAt.len {H : Hp} {xs : List V} {cs : List Cl} (h : CallsAt H xs cs) : xs.length = cs.length := by
  induction h with
  | nil => rfl
  | cons _ _ ih => exact congrArg (· + 1) ih
theorem CallsAt.get {H : Hp} {xs : List V} {cs : List Cl} (h : CallsAt H xs cs) {i : Nat} {x : V} (e : xs[i]? = some x) : ∃ p c, x = .ref p ∧ cs[i]? = some c ∧ CallAt H p c := by
  induction h generalizing i with
  | nil => cases e
  | @cons p c xs cs a _ ih =>
    cases i with
    | zero =>
      cases e
      exact ⟨p, c, rfl, rfl, a⟩
    | succ i => exact ih e
theorem callsOf_succ (z : Str) (n : Nat) : callsOf z (n + 1) = callsOf z n ++ z.cps.toList.map fun c => (n, c) := by
  unfold callsOf
  rw [List.range_succ, List.flatMap_append]
  simp
theorem take_snoc {l : List Nat} {j c : Nat} (h : l[j]? = some c) : l.take (j + 1) = l.take j ++ [c] := by
  rw [List.take_add_one, h]
  rfl
end Lk

/-! The values of a dict whose keys are tuples, walked. -/
namespace Lk
open PySem PySem.Spec PyProof.Rows L2 G
section
variable {X : Cx} {pins : List (Addr × Obj)} {σ : L2.St} {H : Hp} {s : Shared} {d : Addr} {o : Obj}
/-- a locked dict with pairs as keys: its entries' values -/
theorem frz_vals {kvs : List (List Key × V)} (I : Inv X pins σ H s) (fz : H d = some (.frz o (.dT kvs))) :
    (d == sysModules) = false ∧ ∃ (es : Array DictEntry) (ep : Nat), s.heap.DictRaw d es ep ∧ o.data = .dict es ep ∧ es.size = kvs.length ∧ ∀ (i : Nat) (lt : i < es.size) (kv : List Key × V), kvs[i]? = some kv → RelV kv.2 es[i].val := by
  obtain ⟨at_, _, sm, xs, pr, o', es, ep, at2, ex, dt, en, _⟩ := I.hok d _ fz
  rw [at_] at at2
  cases at2
  have z1 : es.size = xs.length := size_of_entries en
  refine ⟨sm, es, ep, ⟨o, at_, ex, dt⟩, dt, z1.trans (Paired.length pr).symm, fun i lt kv e => ?_⟩
  obtain ⟨b, eb, _, _, rv⟩ := paired_get pr e
  have q := entry_at en i
  rw [eb, Array.getElem?_eq_getElem lt] at q
  have q := Option.some.inj q
  rw [q]
  exact rv
end
/-- the values of a locked dict with pairs as keys -/
def Itdt (d : Addr) (o : Obj) (kvs : List (List Key × V)) : It where
  go := fun i H => H d = some (.frz o (.dT kvs)) ∧ i < kvs.length
  yld := fun i H x H' => H' = H ∧ ∃ k, kvs[i]? = some (k, x)
  stop := fun i H => H d = some (.frz o (.dT kvs)) ∧ kvs.length ≤ i
section
variable {P : Program} {w : World} {K : PySem.W.Frag} {tg : Expr} {d : Addr} {o : Obj} {es : Array DictEntry} {ep : Nat}
theorem turn_valsT {kvs : List (List Key × V)} (it : Addr) (od : o.data = .dict es ep) : Turn P w K tg (Itdt d o kvs) [it] it fun i h => h.IsValIter it d i kvs.length ep where
  mem := List.mem_singleton.2 rfl
  obj := fun i h ⟨oi, e, c, dd⟩ b hb => by
    rw [List.mem_singleton.1 hb]
    exact ⟨oi, e, fun v z => by rw [dd] at z; cases z⟩
  keep := fun i h h' st k => st.at fun oi e => k it (List.mem_singleton.2 rfl) oi e
  item := by
    intro X e1 e2 e3 cm i pins s σ H E I hf st ⟨fz, lt⟩
    subst e1 e2 e3
    obtain ⟨f0, f1, _, f3, f4, f5⟩ := hf it (List.mem_singleton.2 rfl)
    obtain ⟨sm, es', ep', raw, dt, sz, vals⟩ := frz_vals I fz
    obtain ⟨rfl, rfl⟩ := dict_ep od dt
    have lt' : i < es'.size := by omega
    have ek : kvs[i]? = some kvs[i] := List.getElem?_eq_getElem lt
    have rv := vals i lt' _ ek
    rw [← sz] at st
    refine wpAny_pyNext_values_item_raw st raw lt' fun h' st' sb => ?_
    have I1 : Inv X pins σ H { s with heap := h' } := I.turned (t' := s.toks) (fun b ob nb e => (sb.2 b nb).trans e) f0 f1 f3 f4 f5
    obtain ⟨oi, e, c, dd⟩ := id st'
    refine ⟨_, rfl, go_of (s := { s with heap := h' }) e c dd (by decide) ⟨kvs[i].2, H, I1, rv, ⟨rfl, kvs[i].1, ek⟩, ?_, fun b hb => (hf b hb).1⟩⟩
    show h'.IsValIter it d (i + 1) kvs.length _
    rw [← sz]
    exact st'
  done := by
    intro X e1 e2 e3 cm i pins s σ H E I hf st ⟨fz, ge⟩
    subst e1 e2 e3
    obtain ⟨f0, f1, _, f3, f4, f5⟩ := hf it (List.mem_singleton.2 rfl)
    obtain ⟨sm, es', ep', raw, dt, sz, vals⟩ := frz_vals I fz
    obtain ⟨rfl, rfl⟩ := dict_ep od dt
    rw [← sz] at st ge
    exact wpAny_pyNext_values_end_raw (I.ok.hd cm) st raw ge fun h' eb => ⟨rfl, I.turned (t' := s.toks) (fun b ob nb e => eb b ob nb e) f0 f1 f3 f4 f5⟩
  self := fun A i s Q E st h => wpAny_pyIter_valiter st h
end
def iValsT (td : TE) : TI := fun σ H R => td σ H fun x H1 => ∃ d o kvs, x = .ref d ∧ H1 d = some (.frz o (.dT kvs)) ∧ R (Itdt d o kvs) H1
theorem walk_valuesT {d : Addr} {o : Obj} {kvs : List (List Key × V)} : Walk (Itdt d o kvs) kvs.length (fun H => H d = some (.frz o (.dT kvs))) (fun i H x H' => H' = H ∧ ∃ k, kvs[i]? = some (k, x)) :=
  ⟨fun _ _ lt fz => ⟨fz, lt⟩, fun _ fz => ⟨fz, Nat.le_refl _⟩, fun _ _ _ _ _ _ y => y⟩
section
variable {X : Cx} {tg e : Expr} {td : TE} {apos cpos : Pos}
theorem pi_valuesT (he : PE X e td) (b1 : attributeBase e "values" X.env (eval e X.env) = eval e X.env := by rfl) (b2 : (apos.endLine == cpos.line) = true := by rfl) : PI X tg (.Call (.Attribute e "values" apos) [] [] cpos) (iValsT td) := by
  constructor
  intro pins s σ H R I h
  refine wpAny_Call_method (T := "dict") (id := "dict.values") b1 rfl b2 F.plainAttrs_dict F.slot_dict_values F.type_dict_values (thn (he.run pins s σ H _ I h) fun u s1 got => ?_)
  obtain ⟨x, H1, I1, rx, d, o, kvs, ex, fz, q⟩ := got
  subst ex
  obtain rfl : u = Value.ref d := rx
  obtain ⟨sm, es, ep, raw, dt, sz, _⟩ := frz_vals I1 fz
  have nod : ∀ b, Value.ref d = .ref b → ∃ ob, s1.heap.get? b = some ob ∧ ob.dict = none := fun b e => by
    cases e
    obtain ⟨ob, h1, h2, _⟩ := id raw
    exact ⟨ob, h1, h2.2.1⟩
  refine ⟨raw.typeIs, nod, ?_⟩
  have I2 : Inv X pins σ H1 { s1 with heap := s1.heap.push { cls := .type "dict_values", data := .fields #[.ref d] } } := I1.kept (t' := s1.toks) fun _ _ e => Heap.get?_push_of_some _ e
  have raw2 : (s1.heap.push { cls := .type "dict_values", data := .fields #[.ref d] }).DictRaw d es ep := raw.at fun _ e => Heap.get?_push_of_some _ e
  refine method_meetsIn F.slot_dict_values F.entry_dict_values rfl (PySem.evalArgs_none ⟨rfl, raw.typeIs, F.args_dict_values_1 _, _, meets_dict_values_raw d sm, ⟨es, ep, raw⟩, ?_⟩)
  refine wpAny_pyIter_values_raw (d := d) (es := es) (ep := ep) ⟨_, Heap.get?_push_size _ rfl, rfl, rfl⟩ raw2 (pi_one (tk := s1.toks) I2 _ (turn_valsT _ dt) ⟨_, Heap.get?_push_size _ rfl, rfl, ?_⟩ q)
  rw [sz] <;> rfl
end
end Lk

/-! Values of calls as they lie; TooMany raised. -/
namespace Lk
open PySem PySem.Spec PyProof.Rows L2 G
section
variable {z : Str} {ss : List PyData}
/-- each entry stands behind those that it needs -/
theorem Closed.at_ {E : Ent} (h : Closed z ss E) : ∀ {i : Nat} {c : Cl} {v : Wt}, E[i]? = some (c, v) → ∃ m, look (E.take i) c = none ∧ mv z ss c = some m ∧ rd (look (E.take i)) m.2.1 (m.1, m.2.2) = some v := by
  induction h with
  | nil =>
    intro i c v e
    cases e
  | @snoc E c v m hE hn hm hr ih =>
    intro i d w e
    by_cases lt : i < E.length
    · rw [List.getElem?_append_left lt] at e
      rw [List.take_append_of_le_length (Nat.le_of_lt lt)]
      exact ih e
    · rw [List.getElem?_append_right (Nat.le_of_not_lt lt)] at e
      have e0 : i - E.length = 0 := by
        cases q : i - E.length with
        | zero => rfl
        | succ k =>
          rw [q] at e
          cases e
      rw [e0] at e
      cases e
      have ei : i = E.length := by omega
      subst ei
      rw [List.take_left' rfl]
      exact ⟨m, hn, hm, hr⟩
theorem take_entry {E : Ent} {i : Nat} {e : Cl × Wt} (h : E[i]? = some e) : E.take (i + 1) = E.take i ++ [e] := by
  rw [List.take_add_one, h]
  rfl
theorem Closed.lookup {E : Ent} (ok : StatesOk z ss) (h : Closed z ss E) {e : Cl × Wt} (he : e ∈ E) : look E e.1 = some e.2 := by
  induction h with
  | nil => cases he
  | @snoc E c v m hE hn hm hr ih =>
    rcases List.mem_append.1 he with h | h
    · exact look_more (ih h)
    · obtain rfl := List.mem_singleton.1 h
      exact look_new hn
end
/-- the pair of a word and a state -/
def VlAt (H : Hp) (v : V) (w : Wt) : Prop := ∃ p, v = .ref p ∧ H p = some (.tup [.str (tx w.1), .int (w.2 : Int)])
theorem VlAt.mono {H H' : Hp} {v : V} {w : Wt} (h : VlAt H v w) (s : Same H H') : VlAt H' v w := by
  obtain ⟨p, e, h⟩ := h
  exact ⟨p, e, s _ _ h⟩
theorem VlAt.any {S T : List Addr} {H : Hp} {v : V} {w : Wt} (h : VlAt (off S H) v w) (n : ∀ a ∈ T, NoTup H a) : VlAt (off T H) v w := by
  obtain ⟨p, e, h⟩ := h
  exact ⟨p, e, tup_off (off_some h).2 n⟩
/-- entries of a dict of values -/
inductive VlE (H : Hp) : List (List Key × V) → Ent → Prop
  | nil : VlE H [] []
  | cons {c : Cl} {w : Wt} {v : V} {kvs : List (List Key × V)} {E : Ent} : VlAt H v w → VlE H kvs E → VlE H ((ckey c, v) :: kvs) ((c, w) :: E)
theorem VlE.mono {H H' : Hp} {kvs : List (List Key × V)} {E : Ent} (h : VlE H kvs E) (s : Same H H') : VlE H' kvs E := by
  induction h with
  | nil => exact .nil
  | cons a _ ih => exact .cons (a.mono s) ih
theorem VlE.any {S T : List Addr} {H : Hp} {kvs : List (List Key × V)} {E : Ent} (h : VlE (off S H) kvs E) (n : ∀ a ∈ T, NoTup H a) : VlE (off T H) kvs E := by
  induction h with
  | nil => exact .nil
  | cons a _ ih => exact .cons (a.any n) ih
theorem VlE.get {H : Hp} {kvs : List (List Key × V)} {E : Ent} (h : VlE H kvs E) (d : Cl) : (∃ v w, valV kvs (ckey d) = some v ∧ look E d = some w ∧ VlAt H v w) ∨ (valV kvs (ckey d) = none ∧ look E d = none) := by
  induction h with
  | nil => exact .inr ⟨rfl, rfl⟩
  | @cons c w v kvs E a _ ih =>
    rw [look_cons]
    by_cases e : c = d
    · subst e
      exact .inl ⟨v, w, valV_pos rfl, if_pos rfl, a⟩
    · rw [if_neg e, valV_neg (fun z => e (ckey_inj z))]
      exact ih
theorem VlE.snoc {H : Hp} {kvs : List (List Key × V)} {E : Ent} {c : Cl} {v : V} {w : Wt} (h : VlE H kvs E) (a : VlAt H v w) : VlE H (kvs ++ [(ckey c, v)]) (E ++ [(c, w)]) := by
  induction h with
  | nil => exact .cons a .nil
  | cons b _ ih => exact .cons b ih
theorem VlE.put {H : Hp} {kvs : List (List Key × V)} {E : Ent} {c : Cl} {v : V} {w : Wt} (h : VlE H kvs E) (n : look E c = none) (a : VlAt H v w) : VlE H (putK kvs (ckey c) v) (E ++ [(c, w)]) := by
  rcases h.get c with ⟨_, _, _, e, _⟩ | ⟨e, _⟩
  · rw [n] at e
    cases e
  · rw [putK_new e]
    exact h.snoc a
theorem VlE.len {H : Hp} {kvs : List (List Key × V)} {E : Ent} (h : VlE H kvs E) : kvs.length = E.length := by
  induction h with
  | nil => rfl
  | cons _ _ ih => exact congrArg (· + 1) ih
/-- a dict of calls' values -/
def ValD (S : List Addr) (H : Hp) (d : Addr) (E : Ent) : Prop := ∃ kvs, H d = some (.dT kvs) ∧ VlE (off S H) kvs E
theorem ValD.keep {S : List Addr} {H H' : Hp} {d : Addr} {E : Ent} (h : ValD S H d E) (k : Keep S H H') (e : H' d = H d) : ValD S H' d E := by
  obtain ⟨kvs, h1, h2⟩ := h
  exact ⟨kvs, e.trans h1, h2.mono k⟩
theorem ValD.same {S : List Addr} {H H' : Hp} {d : Addr} {E : Ent} (h : ValD S H d E) (s : Same H H') : ValD S H' d E := by
  obtain ⟨kvs, h1, h2⟩ := h
  exact ⟨kvs, s _ _ h1, h2.mono (Keep.of s)⟩
theorem ValD.any {S T : List Addr} {H : Hp} {d : Addr} {E : Ent} (h : ValD S H d E) (n : ∀ a ∈ T, NoTup H a) : ValD T H d E := by
  obtain ⟨kvs, h1, h2⟩ := h
  exact ⟨kvs, h1, h2.any n⟩
theorem ValD.noTup {S : List Addr} {H : Hp} {d : Addr} {E : Ent} (h : ValD S H d E) : NoTup H d := by
  obtain ⟨kvs, h1, _⟩ := h
  exact .dT h1
theorem SzE.at_ {H : Hp} {kvs : List (List Key × V)} {E : Ent} (h : SzE H kvs E) : ∀ {i : Nat} {kv : List Key × V}, kvs[i]? = some kv → ∃ c w, E[i]? = some (c, w) ∧ kv.1 = ckey c ∧ SzAt H kv.2 w := by
  induction h with
  | nil =>
    intro i kv e
    cases e
  | @cons c w v kvs E a _ ih =>
    intro i kv e
    cases i with
    | zero =>
      cases e
      exact ⟨c, w, rfl, rfl, a⟩
    | succ i => exact ih e
/-- __init__ of an error with one field; its dict is new -/
def spInit1R (K : PySem.W.Frag) (C : Addr) (f : Str) : Sp := fun vs H Q _ => ∃ (a : Addr) (v : V), vs = [.ref a, v] ∧ H a = some (exo a C none) ∧
  ∀ (H' : Hp) (d : Addr), But a H H' → H' a = some (exo a C (some d)) → H' d = some (exd d [(f, v)]) → H d = none → Q .non H'
/-- TooMany is wished for -/
def tooManyE (C : Addr) (E : XK) (H : Hp) (n : Int) : Prop := ∀ (H' : Hp) (d : Addr), Same H H' → H' d = some (.xd [("limit", .int n)]) → E (.ref C) (some d) H'
theorem tooManyE.mono {C : Addr} {E : XK} {H H1 : Hp} {n : Int} (h : tooManyE C E H n) (s : Same H H1) : tooManyE C E H1 n := fun H' d s' => h H' d (Same.trans s s')
theorem raise1_out {K : PySem.W.Frag} {C : Addr} {E : XK} {H : Hp} {n : Int} (k : tooManyE C E H n) :
    [V.int n].length ≤ 1000 ∧ ∀ a, H a = none → spInit1R K C "limit" (.ref a :: ([V.int n] ++ [])) (upd H a (exo a C none))
      (fun v H2 => v = .non ∧ ∃ (d : Addr) (fs : List (Str × V)), H2 a = some (exo a C (some d)) ∧ H2 d = some (exd d fs) ∧ H d = none ∧ E (.ref C) (some d) (upd (del H2 a) d (.xd fs))) (fun _ _ _ => False) := by
  refine ⟨(by show 1 ≤ 1000; decide), fun a na => ?_⟩
  refine ⟨a, .int n, rfl, upd_same, fun H2 d bt ha hd fd => ?_⟩
  have nda : d ≠ a := fun e => by
    rw [e, upd_same] at fd
    cases fd
  have fd' : H d = none := (upd_ne nda).symm.trans fd
  refine ⟨rfl, d, _, ha, hd, fd', k _ d (fun b o e => ?_) upd_same⟩
  have ba : b ≠ a := ne_of_none e na
  rw [upd_ne (ne_of_none e fd'), del_ne ba]
  exact bt b o ba ((upd_ne ba).trans e)
end Lk
namespace Lk
open PySem PySem.Spec PyProof.Rows L2 G
theorem rd_more {f : Cl → Option Wt} : ∀ {l : List Nat} {a b : Wt}, rd f l a = some b → ∃ u, b.1 = a.1 ++ u
  | [], a, b, h => by
    cases h
    exact ⟨[], (List.append_nil _).symm⟩
  | d :: l, a, b, h => by
    obtain ⟨v, e1, e2⟩ := rd_cons h
    obtain ⟨u, e⟩ := rd_more e2
    exact ⟨v.1 ++ u, by rw [e, List.append_assoc]⟩
/-- a reading that comes to its end, told up to a place -/
theorem rd_at {f : Cl → Option Wt} {l : List Nat} {a b c : Wt} {j d : Nat} (h : rd f l a = some b) (hj : l[j]? = some d) (hc : rd f (l.take j) a = some c) :
    ∃ v, f (c.2, d) = some v ∧ rd f (l.take (j + 1)) a = some (c.1 ++ v.1, v.2) ∧ (c.1 ++ v.1).length ≤ b.1.length := by
  have lt : j < l.length := (List.getElem?_eq_some_iff.mp hj).1
  have e : l = l.take j ++ d :: l.drop (j + 1) := by
    have e1 : l[j] = d := (List.getElem?_eq_some_iff.mp hj).2
    rw [← e1, List.getElem_cons_drop, List.take_append_drop]
  rw [e, rd_append, hc] at h
  obtain ⟨v, e1, e2⟩ := rd_cons (show rd f (d :: l.drop (j + 1)) c = some b from h)
  refine ⟨v, e1, ?_, ?_⟩
  · rw [take_snoc hj, rd_append, hc]
    show rd f [d] c = _
    rw [rd_some e1]
    rfl
  · obtain ⟨u, eu⟩ := rd_more e2
    rw [eu]
    show (c.1 ++ v.1).length ≤ (c.1 ++ v.1 ++ u).length
    rw [List.length_append (bs := u)]
    exact Nat.le_add_right _ _
/-- a place is locked and opened again -/
theorem Keep.unlock {d : Addr} {H H' : Hp} {u : HO} (h : H d = some u) (k : Keep [d] H H') : Same H (upd H' d u) := fun b o e => by
  by_cases z : b = d
  · rw [z, upd_same, ← h, ← z]
    exact e
  · rw [upd_ne z]
    exact k.at_ (fun w => z (List.mem_singleton.1 w)) e
theorem sum_cat (ps : List Str) : (ps.map (·.length)).sum = (catS ps).length := by
  unfold catS
  induction ps with
  | nil => rfl
  | cons p r ih =>
    rw [List.map_cons, List.sum_cons, ih, List.map_cons, List.flatten_cons, List.length_append]
    simp [Str.length]
theorem cat_snoc (ps : List Str) (l : List Nat) : catS (ps ++ [tx l]) = catS ps ++ l := by
  unfold catS
  rw [List.map_append, List.flatten_append]
  simp
end Lk

/-! Values told of calls; threads. -/
namespace Lk
open PySem PySem.Spec PyProof.Rows L2 G
section
variable {z : Str} {ss : List PyData}
open Classical in
/-- a call's value, or none -/
noncomputable def valOf (z : Str) (ss : List PyData) (c : Cl) : Option Wt := if h : ∃ w, Val z ss c w then some h.choose else none
theorem valOf_some {c : Cl} {w : Wt} : valOf z ss c = some w ↔ Val z ss c w := by
  unfold valOf
  split
  · rename_i h
    constructor
    · intro e
      rw [← Option.some.inj e]
      exact h.choose_spec
    · intro hw
      rw [h.choose_spec.det hw]
  · rename_i h
    exact ⟨fun e => (by cases e), fun hw => absurd ⟨w, hw⟩ h⟩
theorem valOf_none {c : Cl} : valOf z ss c = none ↔ ∀ w, ¬ Val z ss c w := by
  constructor
  · intro e w hw
    rw [valOf_some.2 hw] at e
    cases e
  · intro h
    cases e : valOf z ss c with
    | none => rfl
    | some w => exact absurd (valOf_some.1 e) (h w)
theorem Val.good (ok : StatesOk z ss) {c : Cl} {w : Wt} (h : Val z ss c w) : Good z ss c := by
  obtain ⟨n, hn⟩ := h
  cases n with
  | zero => cases hn
  | succ n =>
    cases em : mv z ss c with
    | none =>
      rw [ev_stop em] at hn
      cases hn
    | some m => exact (mv_ok ok em).1
/-- what is found of all calls -/
theorem look_all (ok : StatesOk z ss) {E : Ent} (cl : Closed z ss E) (all : ∀ c, Good z ss c → ∀ w, Val z ss c w ↔ look E c = some w) : look E = valOf z ss := funext fun c => by
  cases e : valOf z ss c with
  | some w =>
    have hw := valOf_some.1 e
    exact (all c (hw.good ok) w).1 hw
  | none =>
    cases e1 : look E c with
    | none => rfl
    | some w => exact absurd (cl.val c w e1) (valOf_none.1 e w)
/-- the first call without a value that a back is read by -/
def stuckAt (f : Cl → Option Wt) : List Nat → Nat → Option Cl
  | [], _ => none
  | d :: r, g => match f (g, d) with
    | some v => stuckAt f r v.2
    | none => some (g, d)
def nxt (z : Str) (ss : List PyData) (f : Cl → Option Wt) (c : Cl) : Option Cl := match mv z ss c with
  | none => none
  | some m => stuckAt f m.2.1 m.2.2
theorem stuckAt_some {f : Cl → Option Wt} {d g : Nat} {r : List Nat} {v : Wt} (h : f (g, d) = some v) : stuckAt f (d :: r) g = stuckAt f r v.2 := by
  show (match f (g, d) with | some v => stuckAt f r v.2 | none => some (g, d)) = _
  rw [h]
theorem stuckAt_none {f : Cl → Option Wt} {d g : Nat} {r : List Nat} (h : f (g, d) = none) : stuckAt f (d :: r) g = some (g, d) := by
  show (match f (g, d) with | some v => stuckAt f r v.2 | none => some (g, d)) = _
  rw [h]
/-- a call without a value is read to no end -/
theorem rd_not {c : Cl} {m : List Nat × List Nat × Nat} (hm : mv z ss c = some m) (hn : valOf z ss c = none) : rd (valOf z ss) m.2.1 (m.1, m.2.2) = none := by
  cases e : rd (valOf z ss) m.2.1 (m.1, m.2.2) with
  | none => rfl
  | some w => exact absurd (Val.of (fun c v h => valOf_some.1 h) hm e) (valOf_none.1 hn w)
theorem rd_none_at {f : Cl → Option Wt} : ∀ {l : List Nat} {a b : Wt}, a.2 = b.2 → rd f l a = none → rd f l b = none
  | [], a, b, _, h => by cases h
  | d :: l, a, b, e, h => by
    cases e1 : f (a.2, d) with
    | none => exact rd_none (by rw [← e]; exact e1)
    | some v =>
      rw [rd_some e1] at h
      rw [rd_some (by rw [← e]; exact e1)]
      exact rd_none_at (a := (a.1 ++ v.1, v.2)) rfl h
/-- the row of calls that wait for one another, from a call on -/
def thr (z : Str) (ss : List PyData) (f : Cl → Option Wt) : Nat → List Cl → Option Cl → List Cl
  | _, row, none => row
  | 0, row, some _ => row
  | n + 1, row, some c => if c ∈ row then row ++ [c] else thr z ss f n (row ++ [c]) (nxt z ss f c)
/-- a call's thread -/
noncomputable def threadOf (z : Str) (ss : List PyData) (c : Cl) : List Cl := match valOf z ss c with
  | some _ => []
  | none => thr z ss (valOf z ss) 241 [] (some c)
def kindT (z : Str) (ss : List PyData) (T : List Cl) : Str := match T.getLast? with
  | some c => match mv z ss c with | none => "breaks" | some _ => "endless"
  | none => "endless"
def callD (c : Cl) : PyData := .tuple [.int (c.1 : Int), .str (Ls.one c.2)]
theorem callD_eqb (ok : StatesOk z ss) {c : Cl} (h : Good z ss c) : Eqb 1 (callD c) := by
  refine .tup (n := 0) fun d hd => ?_
  simp only [List.mem_cons, List.not_mem_nil, or_false] at hd
  rcases hd with rfl | rfl
  · exact .int _
  · refine .str fun x hx => ?_
    have e : x = c.2 := by
      have hx : x ∈ (tx [c.2]).cps.toList := hx
      rw [tx_codes] at hx
      exact List.mem_singleton.1 hx
    rw [e]
    exact ok.1.small.2.2 _ h.2
theorem callD_inj {c d : Cl} (h : callD c = callD d) : c = d := by
  unfold callD at h
  injection h with h
  injection h with h1 h2
  injection h2 with h2 _
  injection h1 with h1
  injection h2 with h2
  exact Prod.ext (Int.ofNat.inj h1) (one_inj h2)
theorem callD_eqv (c d : Cl) : PyData.eqv (callD c) (callD d) = decide (c = d) := by
  unfold callD
  simp only [PyData.eqv, PyData.eqvAll, Bool.and_true]
  by_cases h : c = d
  · subst h
    simp
  · rw [decide_eq_false h]
    by_cases h1 : c.1 = d.1
    · by_cases h2 : c.2 = d.2
      · exact absurd (Prod.ext h1 h2) h
      · have : Ls.one c.2 ≠ Ls.one d.2 := fun e => h2 (one_inj e)
        simp [this]
    · have : ¬ ((c.1 : Int) = (d.1 : Int)) := fun e => h1 (Int.ofNat.inj e)
      simp [this]
theorem calls_any (c : Cl) (row : List Cl) : ((row.map callD).any fun d => PyData.eqv d (callD c)) = decide (c ∈ row) := by
  induction row with
  | nil => simp
  | cons d r ih =>
    rw [List.map_cons, List.any_cons, ih, callD_eqv]
    by_cases h : c = d
    · subst h
      simp
    · have : d ≠ c := fun e => h e.symm
      simp [h, this]
theorem CallAt.dq {K : PySem.W.Frag} {H : Hp} {p : Addr} {c : Cl} (h : CallAt H p c) : Dq K H (.ref p) (callD c) := .tup (SqT.of h) (.cons (.int _) (.cons (.str _) .nil))
theorem CallsAt.dq {K : PySem.W.Frag} {H : Hp} {xs : List V} {cs : List Cl} (h : CallsAt H xs cs) : DqAll K H xs (cs.map callD) := by
  induction h with
  | nil => exact .nil
  | cons a _ ih => exact .cons a.dq ih
end
end Lk
namespace Lk
open PySem PySem.Spec PyProof.Rows L2 G
theorem units65 {k : Nat} {A : Around} (r : Room k A) : A.units + 65 < cLine := by
  have := r.un
  omega
end Lk
namespace Lk
open PySem PySem.Spec PyProof.Rows L2 G
section
variable {z : Str} {ss : List PyData}
theorem valOf_state (ok : StatesOk z ss) {c : Cl} {v : Wt} (h : valOf z ss c = some v) : v.2 < ss.length := by
  obtain ⟨n, hn⟩ := valOf_some.1 h
  clear h
  induction n generalizing c v with
  | zero => cases hn
  | succ n ih =>
    cases em : mv z ss c with
    | none =>
      rw [ev_stop em] at hn
      cases hn
    | some m =>
      rw [ev_step em] at hn
      obtain ⟨_, _, _, _, _, _, _, _, _, _, hg⟩ := mv_ok ok em
      exact rd_good (a := (m.1, m.2.2)) (fun c v h => ih h) hg hn
theorem stuckAt_good (ok : StatesOk z ss) : ∀ {l : List Nat} {g : Nat} {e : Cl}, g < ss.length → (∀ d ∈ l, d ∈ z.cps.toList) → stuckAt (valOf z ss) l g = some e → Good z ss e
  | [], g, e, _, _, h => by cases h
  | d :: l, g, e, hg, hl, h => by
    cases e1 : valOf z ss (g, d) with
    | none =>
      rw [stuckAt_none e1] at h
      cases h
      exact ⟨hg, hl d List.mem_cons_self⟩
    | some v =>
      rw [stuckAt_some e1] at h
      exact stuckAt_good ok (valOf_state ok e1) (fun x hx => hl x (List.mem_cons_of_mem _ hx)) h
theorem nxt_good (ok : StatesOk z ss) {c e : Cl} (h : nxt z ss (valOf z ss) c = some e) : Good z ss e := by
  unfold nxt at h
  cases em : mv z ss c with
  | none =>
    rw [em] at h
    cases h
  | some m =>
    rw [em] at h
    obtain ⟨_, x, y, _, _, ey, _, _, _, ay, hg⟩ := mv_ok ok em
    exact stuckAt_good ok hg (fun d hd => allIn_mem ay d (by rw [← ey]; exact hd)) h
theorem thr_parts (ok : StatesOk z ss) : ∀ (n : Nat) (row : List Cl) (cur : Option Cl), (∀ x ∈ row, Good z ss x) → (∀ x, cur = some x → Good z ss x) → (∀ x ∈ thr z ss (valOf z ss) n row cur, Good z ss x) ∧ ∃ u, thr z ss (valOf z ss) n row cur = row ++ u
  | n, row, none, h, _ => by
    have e : thr z ss (valOf z ss) n row none = row := by cases n <;> rfl
    rw [e]
    exact ⟨h, [], (List.append_nil _).symm⟩
  | 0, row, some c, h, _ => ⟨h, [], (List.append_nil _).symm⟩
  | n + 1, row, some c, h, k => by
    have h2 : ∀ x ∈ row ++ [c], Good z ss x := fun x hx => by
      rcases List.mem_append.1 hx with hx | hx
      · exact h x hx
      · obtain rfl := List.mem_singleton.1 hx
        exact k _ rfl
    show (∀ x ∈ (if c ∈ row then row ++ [c] else thr z ss (valOf z ss) n (row ++ [c]) (nxt z ss (valOf z ss) c)), Good z ss x) ∧ ∃ u, (if c ∈ row then row ++ [c] else thr z ss (valOf z ss) n (row ++ [c]) (nxt z ss (valOf z ss) c)) = row ++ u
    by_cases hin : c ∈ row
    · rw [if_pos hin]
      exact ⟨h2, [c], rfl⟩
    · rw [if_neg hin]
      obtain ⟨h3, u, h4⟩ := thr_parts ok n (row ++ [c]) (nxt z ss (valOf z ss) c) h2 fun x e => nxt_good ok e
      exact ⟨h3, [c] ++ u, by rw [h4, List.append_assoc]⟩
theorem threadOf_last (ok : StatesOk z ss) {c : Cl} (gc : Good z ss c) (h : valOf z ss c = none) : ∃ xs e, threadOf z ss c = xs ++ [e] ∧ Good z ss e := by
  unfold threadOf
  rw [h]
  show ∃ xs e, (if c ∈ [] then [] ++ [c] else thr z ss (valOf z ss) 240 ([] ++ [c]) (nxt z ss (valOf z ss) c)) = xs ++ [e] ∧ Good z ss e
  rw [if_neg (fun h => by cases h)]
  obtain ⟨h3, u, h4⟩ := thr_parts ok 240 ([] ++ [c]) (nxt z ss (valOf z ss) c) (fun x hx => by
    obtain rfl := List.mem_singleton.1 hx
    exact gc) fun x e => nxt_good ok e
  have ne : thr z ss (valOf z ss) 240 ([] ++ [c]) (nxt z ss (valOf z ss) c) ≠ [] := fun e => by
    rw [e] at h4
    cases h4
  exact ⟨_, _, (List.dropLast_concat_getLast ne).symm, h3 _ (List.getLast_mem ne)⟩
theorem CallsAt.last {H : Hp} {xs : List V} {cs : List Cl} {c : Cl} (h : CallsAt H xs (cs ++ [c])) : ∃ ys p, xs = ys ++ [.ref p] ∧ CallAt H p c := by
  induction cs generalizing xs with
  | nil =>
    cases h with
    | cons a b =>
      cases b
      exact ⟨[], _, rfl, a⟩
  | cons d cs ih =>
    cases h with
    | cons a b =>
      obtain ⟨ys, p, e, h⟩ := ih b
      exact ⟨_ :: ys, p, by rw [e]; rfl, h⟩
end
end Lk
namespace Lk
open PySem PySem.Spec PyProof.Rows L2 G
section
variable {z : Str} {ss : List PyData}
/-- a reading that is stopped at a place -/
theorem stuckAt_at {f : Cl → Option Wt} : ∀ {l : List Nat} {j d : Nat} {a b : Wt}, rd f (l.take j) a = some b → l[j]? = some d → f (b.2, d) = none → stuckAt f l a.2 = some (b.2, d)
  | [], j, d, a, b, h, hj, hn => by cases hj
  | x :: l, 0, d, a, b, h, hj, hn => by
    cases hj
    cases h
    exact stuckAt_none hn
  | x :: l, j + 1, d, a, b, h, hj, hn => by
    obtain ⟨v, e1, e2⟩ := rd_cons (show rd f (x :: l.take j) a = some b from h)
    rw [stuckAt_some e1]
    exact stuckAt_at (a := (a.1 ++ v.1, v.2)) e2 hj hn
/-- a state's last -/
def lastD (ss : List PyData) (g : Nat) : PyData := match ss.getD g .none with
  | .tuple [_, l] => l
  | _ => .none
theorem last_in (ok : StatesOk z ss) {g : Nat} (h : g < ss.length) : ∃ ms l, ss[g]? = some (.tuple [.tuple ms, l]) ∧ lastD ss g = l ∧ (l = .none ∨ ∃ w, l = .str w ∧ allIn z w = true ∧ w.length ≤ 2000) := by
  have es := List.getElem?_eq_getElem h
  obtain ⟨ms, l, e, _, hl, _⟩ := stateB_parts (ok.2.2.2 ss[g] (List.getElem_mem h))
  refine ⟨ms, l, by rw [es, e], ?_, hl⟩
  unfold lastD
  rw [List.getD_eq_getElem?_getD, es, e]
  rfl
end
end Lk
namespace Lk
open PySem PySem.Spec PyProof.Rows L2 G
section
variable {z : Str} {ss : List PyData}
/-- the laps over all calls find all values -/
theorem laps_vals (ok : StatesOk z ss) {c : Cl} {w : Wt} : Val z ss c w ↔ look (laps z ss (callsOf z ss.length) (callsOf z ss.length).length []) c = some w := by
  have cl : Closed z ss (laps z ss (callsOf z ss.length) (callsOf z ss.length).length []) := Closed.laps _ .nil
  by_cases hc : c ∈ callsOf z ss.length
  · refine laps_all (Nat.le_refl _) (fun c hc m hm f l d r b hf el hr => ?_) hc
    obtain ⟨_, x, y, _, _, ey, _, _, _, ay, hg⟩ := mv_ok ok hm
    refine callsOf_mem.2 ⟨rd_good (a := (m.1, m.2.2)) (fun c v h => valOf_state ok (valOf_some.2 (hf c v h))) hg hr, allIn_mem ay d ?_⟩
    rw [← ey, el]
    exact List.mem_append_right _ List.mem_cons_self
  · refine ⟨fun h => absurd (callsOf_mem.2 (h.good ok)) hc, fun h => absurd (callsOf_mem.2 (cl.good ok c w h)) hc⟩
/-- all values are short -/
def Sized (d : PyData) : Prop := ∀ z f ss, d = .tuple [.str z, .str f, .tuple ss] → ∀ c w, Val z ss c w → w.1.length ≤ 30
/-- a move that puts nothing back -/
def PlainM (d : PyData) : Prop := d = .none ∨ ∃ (a : Str) (g : Nat), d = .tuple [.str a, .str "", .int (g : Int)]
def PlainS (d : PyData) : Prop := ∀ ms l, d = .tuple [.tuple ms, l] → ∀ m ∈ ms, PlainM m
theorem plain_sized {n : Nat} (hs : ∀ s ∈ ss, StateD z n s) (hp : ∀ s ∈ ss, PlainS s) {c : Cl} {w : Wt} (h : Val z ss c w) : w.1.length ≤ 30 := by
  obtain ⟨k, hk⟩ := h
  cases k with
  | zero => cases hk
  | succ k =>
    cases em : mv z ss c with
    | none =>
      rw [ev_stop em] at hk
      cases hk
    | some m =>
      rw [ev_step em] at hk
      unfold mv moveD at em
      cases q : Builtin.Str.occurrences z (Ls.one c.2) 0 z.length 1 with
      | nil =>
        rw [q] at em
        cases em
      | cons i r =>
        rw [q] at em
        dsimp only at em
        cases e1 : ss[c.1]? with
        | none =>
          have eg : ss.getD c.1 .none = .none := by
            rw [List.getD_eq_getElem?_getD, e1]
            rfl
          rw [eg] at em
          dsimp only [movesOf] at em
          rw [List.getD_nil] at em
          cases em
        | some s =>
          have eg : ss.getD c.1 .none = s := by
            rw [List.getD_eq_getElem?_getD, e1]
            rfl
          rw [eg] at em
          have hmem := List.mem_of_getElem? e1
          obtain ⟨ms, l, es, _, hms, _⟩ := hs s hmem
          have hps := hp s hmem ms l es
          rw [es] at em
          dsimp only [movesOf] at em
          rw [List.getD_eq_getElem?_getD] at em
          cases e2 : ms[i]? with
          | none =>
            rw [e2] at em
            cases em
          | some md =>
            rw [e2] at em
            have hm2 := List.mem_of_getElem? e2
            rcases hps md hm2 with rfl | ⟨a, g, rfl⟩
            · cases em
            · have em := Option.some.inj em
              subst em
              cases hk
              rcases hms _ hm2 with h | ⟨a', b', g', h, ha, _, _⟩
              · cases h
              · cases h
                have := ha.1
                show a.cps.toList.length ≤ 30
                have e : a.cps.toList.length = a.length := by simp [Str.length]
                omega
end
end Lk

/-! Calls of defs in a list, of which one has an argument left out. -/
namespace Lk
open PySem PySem.Spec PyProof.Rows L2 G
/-- a def that is held in a list: its promise, with what it puts in itself -/
structure HeldD (P : Program) (w : World) (K : PySem.W.Frag) (mg : Str → Option Value) (base : Heap) (k : Nat) (f : Addr) (sp : Sp) : Prop where
  ex : ∃ (fd : FuncData) (ps : List Str) (j : Nat) (sp' : Sp) (zs : List V) (ds : List Value), FnOk P w K mg base (L2.CX P w) j f fd ps sp' ∧ j ≤ k ∧ PySem.W.keepIn K (.ref f) = true ∧ Binds K fd ps ds ∧ Vals zs ds ∧ ∀ vs H Q E, sp vs H Q E → sp' (vs ++ zs) H Q E
section
variable {X : Cx} {k : Nat} {E : XK} {o i e : Expr} {es : List Expr} {p pos : Pos} {t0 : TE} {t : TA} {S : Addr → Sp → Prop}
theorem pe_callD (A : ∀ f sp, S f sp → HeldD X.prog X.w X.K X.mg X.base k f sp) (room : Room k X.A) (h0 : PE X (.Subscript o i p) t0) (hx : Passes (L2.CX X.prog X.w) X E) (ha : PA X (e :: es) t)
    (he : starEach (e :: es) X.env = (false, eval e X.env) :: starEach es X.env := by rfl) (hpl : (backTo pos (starEach es X.env)).any (·.1) = false := by rfl) :
    PE X (.Call (.Subscript o i p) (e :: es) [] pos) (tCallE S E t0 t) := ⟨fun pins s σ H Q I h => by
  rw [eval_call_sub]
  refine wpAny_bind (thn (h0.run pins s σ H _ I h) fun u s1 ⟨v, H1, I1, r1, f, sp, ev, hS, ht⟩ => ?_)
  subst ev
  cases r1
  obtain ⟨fd, ps, j, sp', zs, ds, F, hj, kp, b, dv, up⟩ := (A f sp hS).ex
  refine PySem.W.callWith_K (h₀ := X.base) I1.ok.mod.kin kp (thn (ha.run pos pins s1 σ _ _ I1 ht) fun us s2 ⟨vs, H2, I2, r, q⟩ => ?_) he hpl
  exact ⟨I2.kIn, run_fn F (room.mono hj) b dv hx I2 r (up _ _ _ _ q)⟩⟩
end
end Lk

/-! The items of a dict whose keys are tuples, walked: a new pair at each turn. -/
namespace Lk
open PySem PySem.Spec PyProof.Rows L2 G
section
variable {X : Cx} {pins : List (Addr × Obj)} {σ : L2.St} {H : Hp} {s : Shared} {d : Addr} {o : Obj}
/-- a locked dict with pairs as keys: its entries -/
theorem frz_ents {kvs : List (List Key × V)} (I : Inv X pins σ H s) (fz : H d = some (.frz o (.dT kvs))) :
    (d == sysModules) = false ∧ ∃ (es : Array DictEntry) (ep : Nat), s.heap.DictRaw d es ep ∧ o.data = .dict es ep ∧ es.size = kvs.length ∧ ∀ (i : Nat) (lt : i < es.size) (kv : List Key × V), kvs[i]? = some kv → RelV kv.2 es[i].val ∧ ∃ q, es[i].key = .ref q ∧ H q = some (.tup (kv.1.map kV)) := by
  obtain ⟨at_, _, sm, xs, pr, o', es, ep, at2, ex, dt, en, _⟩ := I.hok d _ fz
  rw [at_] at at2
  cases at2
  have z1 : es.size = xs.length := size_of_entries en
  refine ⟨sm, es, ep, ⟨o, at_, ex, dt⟩, dt, z1.trans (Paired.length pr).symm, fun i lt kv e => ?_⟩
  obtain ⟨b, eb, _, e2, rv⟩ := paired_get pr e
  have q := entry_at en i
  rw [eb, Array.getElem?_eq_getElem lt] at q
  have q := Option.some.inj q
  rw [q]
  exact ⟨rv, b.2.1, rfl, e2⟩
end
/-- the items of a locked dict with pairs as keys -/
def Itit (d : Addr) (o : Obj) (kvs : List (List Key × V)) : It where
  go := fun i H => H d = some (.frz o (.dT kvs)) ∧ i < kvs.length
  yld := fun i H x H' => ∃ (T q : Addr) (k : List Key) (v : V), kvs[i]? = some (k, v) ∧ x = .ref T ∧ H T = none ∧ H q = some (.tup (k.map kV)) ∧ H' = upd H T (.tup [.ref q, v])
  stop := fun i H => H d = some (.frz o (.dT kvs)) ∧ kvs.length ≤ i
section
variable {P : Program} {w : World} {K : PySem.W.Frag} {d : Addr} {o : Obj} {es : Array DictEntry} {ep : Nat}
theorem turn_itemsT {kvs : List (List Key × V)} {elts : List Expr} {kk : Nat} {tpos : Pos} (it : Addr) (od : o.data = .dict es ep) :
    Turn P w K (.Tuple elts kk tpos) (Itit d o kvs) [it] it fun i h => ∃ ok ov, IsItemIter h it d i kvs.length ep ok ov where
  mem := List.mem_singleton.2 rfl
  obj := fun i h ⟨_, _, e⟩ b hb => by
    rw [List.mem_singleton.1 hb]
    exact ⟨_, e, fun v z => nomatch z⟩
  keep := fun i h h' ⟨ok, ov, e⟩ k => ⟨ok, ov, k it (List.mem_singleton.2 rfl) _ e⟩
  item := by
    intro X e1 e2 e3 cm i pins s σ H E I hf st ⟨fz, lt⟩
    subst e1 e2 e3
    obtain ⟨sm, es', ep', raw, dt, sz, ents⟩ := frz_ents I fz
    obtain ⟨rfl, rfl⟩ := dict_ep od dt
    have lt' : i < es'.size := by omega
    have ek : kvs[i]? = some kvs[i] := List.getElem?_eq_getElem lt
    obtain ⟨rv, q, hk, hq⟩ := ents i lt' _ ek
    obtain ⟨ok, ov, he⟩ := st
    rw [← sz] at he
    have hlt : it < s.heap.objs.size := Heap.lt_size he
    refine wpAny_pyNext_items_item_raw he raw lt' fun h' ho hT hz kp => ?_
    refine ⟨_, rfl, wpAny_letOwnedTupleGo_items (s := { s with heap := h' }) ho fun h'' he' sb => ?_⟩
    have hT2 : h''.get? s.heap.objs.size = some { cls := .type "tuple", data := .seq #[es'[i].key, es'[i].val] } := (sb.2 _ (Nat.ne_of_gt hlt)).trans hT
    have new : ObjOk X.prog X.w (upd H s.heap.objs.size (.tup [.ref q, kvs[i].2])) h'' s.heap.objs.size (.tup [.ref q, kvs[i].2]) :=
      ⟨by show 2 ≤ sizeLine; decide, [es'[i].key, es'[i].val], .cons hk (.cons rv .nil), ⟨_, hT2, rfl, _, rfl⟩⟩
    have I1 : Inv X pins σ (upd H s.heap.objs.size (.tup [.ref q, kvs[i].2])) { s with heap := h'' } :=
      I.turnedNew (t' := s.toks) (ch := [it]) (fun b ob hb e => (sb.2 b (fun z => hb (List.mem_singleton.2 z))).trans (kp b ob (fun z => hb (List.mem_singleton.2 z)) e)) hf (Nat.le_refl _) new
    refine ⟨.ref s.heap.objs.size, _, I1, rfl, ⟨_, q, _, _, ek, rfl, I.hok.fresh (Nat.le_refl _), hq, rfl⟩, ⟨_, _, by rw [← sz]; exact he'⟩, fun b hb => ?_⟩
    rw [List.mem_singleton.1 hb, upd_ne (Nat.ne_of_lt hlt)]
    exact (hf it (List.mem_singleton.2 rfl)).1
  done := by
    intro X e1 e2 e3 cm i pins s σ H E I hf st ⟨fz, ge⟩
    subst e1 e2 e3
    obtain ⟨f0, f1, _, f3, f4, f5⟩ := hf it (List.mem_singleton.2 rfl)
    obtain ⟨sm, es', ep', raw, dt, sz, _⟩ := frz_ents I fz
    obtain ⟨rfl, rfl⟩ := dict_ep od dt
    obtain ⟨ok, ov, he⟩ := st
    rw [← sz] at he ge
    exact wpAny_pyNext_items_end_raw (I.ok.hd cm) he raw ge fun h' eb => ⟨rfl, I.turned (t' := s.toks) (fun b ob nb e => eb b ob nb e) f0 f1 f3 f4 f5⟩
  self := fun A i s Q E ⟨_, _, e⟩ h => wpAny_pyIter_itemiter e h
end
def iItemsT (td : TE) : TI := fun σ H R => td σ H fun x H1 => ∃ d o kvs, x = .ref d ∧ H1 d = some (.frz o (.dT kvs)) ∧ R (Itit d o kvs) H1
theorem walk_itemsT {d : Addr} {o : Obj} {kvs : List (List Key × V)} : Walk (Itit d o kvs) kvs.length (fun H => H d = some (.frz o (.dT kvs)))
    (fun i H x H' => ∃ (T q : Addr) (k : List Key) (v : V), kvs[i]? = some (k, v) ∧ x = .ref T ∧ H T = none ∧ H q = some (.tup (k.map kV)) ∧ H' = upd H T (.tup [.ref q, v])) :=
  ⟨fun _ _ lt fz => ⟨fz, lt⟩, fun _ fz => ⟨fz, Nat.le_refl _⟩, fun _ _ _ _ _ _ y => y⟩
section
variable {X : Cx} {e : Expr} {td : TE} {apos cpos : Pos}
theorem pi_itemsT {elts : List Expr} {kk : Nat} {tpos : Pos} (he : PE X e td) (b1 : attributeBase e "items" X.env (eval e X.env) = eval e X.env := by rfl) (b2 : (apos.endLine == cpos.line) = true := by rfl) :
    PI X (.Tuple elts kk tpos) (.Call (.Attribute e "items" apos) [] [] cpos) (iItemsT td) := by
  constructor
  intro pins s σ H R I h
  refine wpAny_Call_method (T := "dict") (id := "dict.items") b1 rfl b2 F.plainAttrs_dict F.slot_dict_items F.type_dict_items (thn (he.run pins s σ H _ I h) fun u s1 got => ?_)
  obtain ⟨x, H1, I1, rx, d, o, kvs, ex, fz, q⟩ := got
  subst ex
  obtain rfl : u = Value.ref d := rx
  obtain ⟨sm, es, ep, raw, dt, sz, _⟩ := frz_ents I1 fz
  have nod : ∀ b, Value.ref d = .ref b → ∃ ob, s1.heap.get? b = some ob ∧ ob.dict = none := fun b e => by
    cases e
    obtain ⟨ob, h1, h2, _⟩ := id raw
    exact ⟨ob, h1, h2.2.1⟩
  refine ⟨raw.typeIs, nod, ?_⟩
  have I2 : Inv X pins σ H1 { s1 with heap := s1.heap.push { cls := .type "dict_items", data := .fields #[.ref d] } } := I1.kept (t' := s1.toks) fun _ _ e => Heap.get?_push_of_some _ e
  have raw2 : (s1.heap.push { cls := .type "dict_items", data := .fields #[.ref d] }).DictRaw d es ep := raw.at fun _ e => Heap.get?_push_of_some _ e
  refine method_meetsIn F.slot_dict_items F.entry_dict_items rfl (PySem.evalArgs_none ⟨rfl, raw.typeIs, F.args_dict_items_1 _, _, meets_dict_items_raw d sm, ⟨es, ep, raw⟩, ?_⟩)
  refine wpAny_pyIter_items_raw (d := d) (es := es) (ep := ep) ⟨_, Heap.get?_push_size _ rfl, rfl, rfl⟩ raw2 (pi_one (tk := s1.toks) I2 _ (turn_itemsT _ dt) ⟨.none, .none, ?_⟩ q)
  rw [← sz]
  exact Heap.get?_push_size _ rfl
end
end Lk
/-! A dict from calls to pairs whose second part is the state: of values, or of sizes. -/
namespace Lk
open PySem PySem.Spec PyProof.Rows L2 G
def PrAt (H : Hp) (v : V) (w : Wt) : Prop := ∃ p, v = .ref p ∧ ∃ x, H p = some (.tup [x, .int (w.2 : Int)])
theorem PrAt.mono {H H' : Hp} {v : V} {w : Wt} (h : PrAt H v w) (s : Same H H') : PrAt H' v w := by
  obtain ⟨p, e, x, h⟩ := h
  exact ⟨p, e, x, s _ _ h⟩
theorem PrAt.any {S T : List Addr} {H : Hp} {v : V} {w : Wt} (h : PrAt (off S H) v w) (n : ∀ a ∈ T, NoTup H a) : PrAt (off T H) v w := by
  obtain ⟨p, e, x, h⟩ := h
  exact ⟨p, e, x, tup_off (off_some h).2 n⟩
inductive PrE (H : Hp) : List (List Key × V) → Ent → Prop
  | nil : PrE H [] []
  | cons {c : Cl} {w : Wt} {v : V} {kvs : List (List Key × V)} {E : Ent} : PrAt H v w → PrE H kvs E → PrE H ((ckey c, v) :: kvs) ((c, w) :: E)
theorem PrE.mono {H H' : Hp} {kvs : List (List Key × V)} {E : Ent} (h : PrE H kvs E) (s : Same H H') : PrE H' kvs E := by
  induction h with
  | nil => exact .nil
  | cons a _ ih => exact .cons (a.mono s) ih
theorem PrE.any {S T : List Addr} {H : Hp} {kvs : List (List Key × V)} {E : Ent} (h : PrE (off S H) kvs E) (n : ∀ a ∈ T, NoTup H a) : PrE (off T H) kvs E := by
  induction h with
  | nil => exact .nil
  | cons a _ ih => exact .cons (a.any n) ih
theorem PrE.get {H : Hp} {kvs : List (List Key × V)} {E : Ent} (h : PrE H kvs E) (d : Cl) : (∃ v w, valV kvs (ckey d) = some v ∧ look E d = some w ∧ PrAt H v w) ∨ (valV kvs (ckey d) = none ∧ look E d = none) := by
  induction h with
  | nil => exact .inr ⟨rfl, rfl⟩
  | @cons c w v kvs E a _ ih =>
    rw [look_cons]
    by_cases e : c = d
    · subst e
      exact .inl ⟨v, w, valV_pos rfl, if_pos rfl, a⟩
    · rw [if_neg e, valV_neg (fun z => e (ckey_inj z))]
      exact ih
theorem VlE.pr {H : Hp} {kvs : List (List Key × V)} {E : Ent} (h : VlE H kvs E) : PrE H kvs E := by
  induction h with
  | nil => exact .nil
  | cons a _ ih =>
    obtain ⟨p, e, h⟩ := a
    exact .cons ⟨p, e, _, h⟩ ih
theorem SzE.pr {H : Hp} {kvs : List (List Key × V)} {E : Ent} (h : SzE H kvs E) : PrE H kvs E := by
  induction h with
  | nil => exact .nil
  | cons a _ ih =>
    obtain ⟨p, e, h⟩ := a
    exact .cons ⟨p, e, _, h⟩ ih
def PrD (S : List Addr) (H : Hp) (d : Addr) (E : Ent) : Prop := ∃ kvs, H d = some (.dT kvs) ∧ PrE (off S H) kvs E
theorem PrD.keep {S : List Addr} {H H' : Hp} {d : Addr} {E : Ent} (h : PrD S H d E) (k : Keep S H H') (e : H' d = H d) : PrD S H' d E := by
  obtain ⟨kvs, h1, h2⟩ := h
  exact ⟨kvs, e.trans h1, h2.mono k⟩
theorem PrD.same {S : List Addr} {H H' : Hp} {d : Addr} {E : Ent} (h : PrD S H d E) (s : Same H H') : PrD S H' d E := by
  obtain ⟨kvs, h1, h2⟩ := h
  exact ⟨kvs, s _ _ h1, h2.mono (Keep.of s)⟩
theorem PrD.any {S T : List Addr} {H : Hp} {d : Addr} {E : Ent} (h : PrD S H d E) (n : ∀ a ∈ T, NoTup H a) : PrD T H d E := by
  obtain ⟨kvs, h1, h2⟩ := h
  exact ⟨kvs, h1, h2.any n⟩
theorem PrD.noTup {S : List Addr} {H : Hp} {d : Addr} {E : Ent} (h : PrD S H d E) : NoTup H d := by
  obtain ⟨kvs, h1, _⟩ := h
  exact .dT h1
theorem ValD.pr {S : List Addr} {H : Hp} {d : Addr} {E : Ent} (h : ValD S H d E) : PrD S H d E := by
  obtain ⟨kvs, h1, h2⟩ := h
  exact ⟨kvs, h1, h2.pr⟩
theorem Found.pr {S : List Addr} {H : Hp} {d : Addr} {E : Ent} (h : Found S H d E) : PrD S H d E := by
  obtain ⟨kvs, h1, h2⟩ := h
  exact ⟨kvs, h1, h2.pr⟩
section
variable {z : Str} {ss : List PyData}
/-- the entries whose words are not too long -/
def shortE (E : Ent) : Ent := E.filter fun e => decide (e.2.1.length ≤ 2000)
theorem shortE_snoc {E : Ent} {c : Cl} {w : Wt} (h : w.1.length ≤ 2000) : shortE (E ++ [(c, w)]) = shortE E ++ [(c, w)] := by
  unfold shortE
  rw [List.filter_append, List.filter_cons, if_pos (decide_eq_true h)]
  rfl
theorem shortE_long {E : Ent} {c : Cl} {w : Wt} (h : 2000 < w.1.length) : shortE (E ++ [(c, w)]) = shortE E := by
  unfold shortE
  rw [List.filter_append, List.filter_cons, if_neg (by
    show ¬ (decide (w.1.length ≤ 2000) = true)
    rw [decide_eq_true_eq]
    omega)]
  exact List.append_nil _
theorem shortE_all {E : Ent} (h : ∀ e ∈ E, e.2.1.length ≤ 2000) : shortE E = E := List.filter_eq_self.2 fun e he => decide_eq_true (h e he)
theorem shortE_len (E : Ent) : (shortE E).length ≤ E.length := List.length_filter_le _ _
theorem look_shortE {E : Ent} (h : Closed z ss E) : ∀ c v, look (shortE E) c = some v ↔ (look E c = some v ∧ v.1.length ≤ 2000) := by
  induction h with
  | nil =>
    intro c v
    exact ⟨fun h => (by cases h), fun h => (by cases h.1)⟩
  | @snoc E c v m hE hn hm hr ih =>
    intro d w
    have hn' : look (shortE E) c = none := by
      cases e : look (shortE E) c with
      | none => rfl
      | some u =>
        have := ((ih c u).1 e).1
        rw [hn] at this
        cases this
    by_cases lv : v.1.length ≤ 2000
    · rw [shortE_snoc lv]
      by_cases e : c = d
      · subst e
        rw [look_new hn', look_new hn]
        constructor
        · intro e
          cases e
          exact ⟨rfl, lv⟩
        · exact fun e => e.1
      · rw [look_other e, look_other e]
        exact ih d w
    · rw [shortE_long (Nat.lt_of_not_le lv)]
      by_cases e : c = d
      · subst e
        rw [hn', look_new hn]
        constructor
        · intro e
          cases e
        · rintro ⟨e, l⟩
          cases e
          exact absurd l lv
      · rw [look_other e]
        exact ih d w
theorem Closed.take {E : Ent} (h : Closed z ss E) : ∀ i, Closed z ss (E.take i) := by
  induction h with
  | nil => exact fun i => by rw [List.take_nil]; exact .nil
  | @snoc E c v m hE hn hm hr ih =>
    intro i
    by_cases l : i ≤ E.length
    · rw [List.take_append_of_le_length l]
      exact ih i
    · rw [List.take_of_length_le (by rw [List.length_append, List.length_singleton]; omega)]
      exact .snoc hE hn hm hr
/-- the calls that a text is read by -/
def runC (f : Cl → Option Wt) : List Nat → Nat → List Cl
  | [], _ => []
  | d :: r, g => (g, d) :: match f (g, d) with
    | some v => runC f r v.2
    | none => []
theorem runC_some {f : Cl → Option Wt} {d g : Nat} {r : List Nat} {v : Wt} (h : f (g, d) = some v) : runC f (d :: r) g = (g, d) :: runC f r v.2 := by
  show (g, d) :: (match f (g, d) with | some v => runC f r v.2 | none => []) = _
  rw [h]
theorem runC_snoc {f : Cl → Option Wt} {c : Nat} : ∀ {l : List Nat} {a b : Wt}, rd f l a = some b → runC f (l ++ [c]) a.2 = runC f l a.2 ++ [(b.2, c)]
  | [], a, b, h => by
    cases h
    show (a.2, c) :: (match f (a.2, c) with | some v => runC f [] v.2 | none => []) = [(a.2, c)]
    cases f (a.2, c) <;> rfl
  | d :: l, a, b, h => by
    obtain ⟨v, e1, e2⟩ := rd_cons h
    rw [List.cons_append, runC_some e1, runC_some e1, runC_snoc (a := (a.1 ++ v.1, v.2)) e2]
    rfl
/-- what a call does -/
def wordOf (f : Cl → Option Wt) (c : Cl) : List Nat := match f c with
  | some v => v.1
  | none => []
theorem rd_words {f : Cl → Option Wt} : ∀ {l : List Nat} {a b : Wt}, rd f l a = some b → b.1 = a.1 ++ ((runC f l a.2).map (wordOf f)).flatten
  | [], a, b, h => by
    cases h
    exact (List.append_nil _).symm
  | d :: l, a, b, h => by
    obtain ⟨v, e1, e2⟩ := rd_cons h
    have e3 : wordOf f (a.2, d) = v.1 := by
      unfold wordOf
      rw [e1]
    rw [rd_words e2, runC_some e1, List.map_cons, List.flatten_cons, e3]
    exact List.append_assoc _ _ _
theorem runC_len {f : Cl → Option Wt} : ∀ {l : List Nat} {g : Nat}, (runC f l g).length ≤ l.length
  | [], g => Nat.le_refl _
  | d :: l, g => by
    cases e : f (g, d) with
    | some v =>
      rw [runC_some e]
      exact Nat.succ_le_succ runC_len
    | none =>
      show ((g, d) :: (match f (g, d) with | some v => runC f l v.2 | none => [])).length ≤ _
      rw [e]
      exact Nat.succ_le_succ (Nat.zero_le _)
/-- each call of a text that is read to its end has a value -/
theorem runC_all {f : Cl → Option Wt} : ∀ {l : List Nat} {a b : Wt}, rd f l a = some b → ∀ c ∈ runC f l a.2, ∃ v, f c = some v
  | [], a, b, h, c, hc => by cases hc
  | d :: l, a, b, h, c, hc => by
    obtain ⟨v, e1, e2⟩ := rd_cons h
    rw [runC_some e1] at hc
    rcases List.mem_cons.1 hc with rfl | hc
    · exact ⟨v, e1⟩
    · exact runC_all (a := (a.1 ++ v.1, v.2)) e2 c hc
theorem CallsAt.mono' {H H' : Hp} {xs : List V} {cs : List Cl} (h : CallsAt H xs cs) (s : Same H H') : CallsAt H' xs cs := h.mono s
end
end Lk

namespace K14
open PySem PySem.Spec PyProof.Rows L2 G Lk
/-! ### the text by places -/
def top (i : Nat) : Stmt := PySem.Challenge.pw_rescans_k14_calls_refused.main.body.getD i (.Pass ⟨0, 0, 0, 0⟩)
abbrev s_is_word : Stmt := top 10
abbrev N_is_word : List Str := ["signs", "thing"]
theorem sc_is_word : FnScope N_is_word ["signs", "thing"] (defScope s_is_word) := ⟨rfl, rfl, rfl, by decide +kernel, rfl, by decide +kernel, by decide +kernel⟩
abbrev s_is_text : Stmt := top 11
abbrev N_is_text : List Str := ["signs", "thing"]
theorem sc_is_text : FnScope N_is_text ["signs", "thing"] (defScope s_is_text) := ⟨rfl, rfl, rfl, by decide +kernel, rfl, by decide +kernel, by decide +kernel⟩
abbrev s_need_text : Stmt := top 12
abbrev N_need_text : List Str := ["signs", "thing"]
theorem sc_need_text : FnScope N_need_text ["signs", "thing"] (defScope s_need_text) := ⟨rfl, rfl, rfl, by decide +kernel, rfl, by decide +kernel, by decide +kernel⟩
abbrev s_is_expander : Stmt := top 18
abbrev N_is_expander : List Str := ["thing", "signs", "first", "states"]
theorem sc_is_expander : FnScope N_is_expander ["thing"] (defScope s_is_expander) := ⟨rfl, rfl, rfl, by decide +kernel, rfl, by decide +kernel, by decide +kernel⟩
abbrev s_need_expander : Stmt := top 19
abbrev N_need_expander : List Str := ["expander"]
theorem sc_need_expander : FnScope N_need_expander ["expander"] (defScope s_need_expander) := ⟨rfl, rfl, rfl, by decide +kernel, rfl, by decide +kernel, by decide +kernel⟩
abbrev s_need_call : Stmt := top 20
abbrev N_need_call : List Str := ["expander", "state", "sign"]
theorem sc_need_call : FnScope N_need_call ["expander", "state", "sign"] (defScope s_need_call) := ⟨rfl, rfl, rfl, by decide +kernel, rfl, by decide +kernel, by decide +kernel⟩
abbrev s_is_call : Stmt := top 21
abbrev N_is_call : List Str := ["expander", "state", "sign", "signs", "_", "states"]
theorem sc_is_call : FnScope N_is_call ["expander", "state", "sign"] (defScope s_is_call) := ⟨rfl, rfl, rfl, by decide +kernel, rfl, by decide +kernel, by decide +kernel⟩
abbrev s_is_sign : Stmt := top 22
abbrev N_is_sign : List Str := ["signs", "thing"]
theorem sc_is_sign : FnScope N_is_sign ["signs", "thing"] (defScope s_is_sign) := ⟨rfl, rfl, rfl, by decide +kernel, rfl, by decide +kernel, by decide +kernel⟩
abbrev s_is_number : Stmt := top 23
abbrev N_is_number : List Str := ["many", "thing"]
theorem sc_is_number : FnScope N_is_number ["many", "thing"] (defScope s_is_number) := ⟨rfl, rfl, rfl, by decide +kernel, rfl, by decide +kernel, by decide +kernel⟩
abbrev s_is_whole : Stmt := top 24
abbrev N_is_whole : List Str := ["thing"]
theorem sc_is_whole : FnScope N_is_whole ["thing"] (defScope s_is_whole) := ⟨rfl, rfl, rfl, by decide +kernel, rfl, by decide +kernel, by decide +kernel⟩
abbrev s_move_of : Stmt := top 25
abbrev N_move_of : List Str := ["expander", "state", "sign"]
theorem sc_move_of : FnScope N_move_of ["expander", "state", "sign"] (defScope s_move_of) := ⟨rfl, rfl, rfl, by decide +kernel, rfl, by decide +kernel, by decide +kernel⟩
abbrev s_are_signs : Stmt := top 26
abbrev N_are_signs : List Str := ["thing"]
theorem sc_are_signs : FnScope N_are_signs ["thing"] (defScope s_are_signs) := ⟨rfl, rfl, rfl, by decide +kernel, rfl, by decide +kernel, by decide +kernel⟩
abbrev s_is_short_word : Stmt := top 27
abbrev N_is_short_word : List Str := ["signs", "thing"]
theorem sc_is_short_word : FnScope N_is_short_word ["signs", "thing"] (defScope s_is_short_word) := ⟨rfl, rfl, rfl, by decide +kernel, rfl, by decide +kernel, by decide +kernel⟩
abbrev s_are_states : Stmt := top 28
abbrev N_are_states : List Str := ["signs", "thing", "state"]
theorem sc_are_states : FnScope N_are_states ["signs", "thing"] (defScope s_are_states) := ⟨rfl, rfl, rfl, by decide +kernel, rfl, by decide +kernel, by decide +kernel⟩
abbrev s_is_state : Stmt := top 29
abbrev N_is_state : List Str := ["signs", "many", "thing", "moves", "last", "move"]
theorem sc_is_state : FnScope N_is_state ["signs", "many", "thing"] (defScope s_is_state) := ⟨rfl, rfl, rfl, by decide +kernel, rfl, by decide +kernel, by decide +kernel⟩
abbrev s_is_move : Stmt := top 30
abbrev N_is_move : List Str := ["signs", "many", "thing", "done", "back", "goal"]
theorem sc_is_move : FnScope N_is_move ["signs", "many", "thing"] (defScope s_is_move) := ⟨rfl, rfl, rfl, by decide +kernel, rfl, by decide +kernel, by decide +kernel⟩
abbrev s_value : Stmt := top 36
abbrev N_value : List Str := ["expander", "state", "sign", "found"]
theorem sc_value : FnScope N_value ["expander", "state", "sign"] (defScope s_value) := ⟨rfl, rfl, rfl, by decide +kernel, rfl, by decide +kernel, by decide +kernel⟩
abbrev s_thread : Stmt := top 37
abbrev N_thread : List Str := ["expander", "state", "sign"]
theorem sc_thread : FnScope N_thread ["expander", "state", "sign"] (defScope s_thread) := ⟨rfl, rfl, rfl, by decide +kernel, rfl, by decide +kernel, by decide +kernel⟩
abbrev s_values : Stmt := top 38
abbrev N_values : List Str := ["expander", "found", "call"]
theorem sc_values : FnScope N_values ["expander"] (defScope s_values) := ⟨rfl, rfl, rfl, by decide +kernel, rfl, by decide +kernel, by decide +kernel⟩
abbrev s_shows_thread : Stmt := top 39
abbrev N_shows_thread : List Str := ["expander", "thing", "found", "one"]
theorem sc_shows_thread : FnScope N_shows_thread ["expander", "thing"] (defScope s_shows_thread) := ⟨rfl, rfl, rfl, by decide +kernel, rfl, by decide +kernel, by decide +kernel⟩
abbrev s_plain : Stmt := top 40
abbrev N_plain : List Str := ["expander"]
theorem sc_plain : FnScope N_plain ["expander"] (defScope s_plain) := ⟨rfl, rfl, rfl, by decide +kernel, rfl, by decide +kernel, by decide +kernel⟩
abbrev s_outcome : Stmt := top 41
abbrev N_outcome : List Str := ["expander", "text"]
theorem sc_outcome : FnScope N_outcome ["expander", "text"] (defScope s_outcome) := ⟨rfl, rfl, rfl, by decide +kernel, rfl, by decide +kernel, by decide +kernel⟩
abbrev s_ends_always : Stmt := top 42
abbrev N_ends_always : List Str := ["expander", "states", "reached", "state", "moves", "last"]
theorem sc_ends_always : FnScope N_ends_always ["expander"] (defScope s_ends_always) := ⟨rfl, rfl, rfl, by decide +kernel, rfl, by decide +kernel, by decide +kernel⟩
abbrev s_words_of_text : Stmt := top 43
abbrev N_words_of_text : List Str := ["expander", "found", "text", "words", "calls", "last", "call", "word"]
theorem sc_words_of_text : FnScope N_words_of_text ["expander", "found", "text"] (defScope s_words_of_text) := ⟨rfl, rfl, rfl, by decide +kernel, rfl, by decide +kernel, by decide +kernel⟩
abbrev s_calls_of_text : Stmt := top 44
abbrev N_calls_of_text : List Str := ["expander", "found", "text", "calls", "state", "sign", "last"]
theorem sc_calls_of_text : FnScope N_calls_of_text ["expander", "found", "text"] (defScope s_calls_of_text) := ⟨rfl, rfl, rfl, by decide +kernel, rfl, by decide +kernel, by decide +kernel⟩
abbrev s_sizes_of : Stmt := top 45
abbrev N_sizes_of : List Str := ["expander", "found", "opened", "call"]
theorem sc_sizes_of : FnScope N_sizes_of ["expander"] (defScope s_sizes_of) := ⟨rfl, rfl, rfl, by decide +kernel, rfl, by decide +kernel, by decide +kernel⟩
abbrev s_values_of : Stmt := top 46
abbrev N_values_of : List Str := ["expander", "sizes", "size", "_"]
theorem sc_values_of : FnScope N_values_of ["expander"] (defScope s_values_of) := ⟨rfl, rfl, rfl, by decide +kernel, rfl, by decide +kernel, by decide +kernel⟩
abbrev s_short_values : Stmt := top 47
abbrev N_short_values : List Str := ["expander", "sizes", "found", "call", "parts", "inner", "size", "_", "done", "back", "goal", "word"]
theorem sc_short_values : FnScope N_short_values ["expander", "sizes"] (defScope s_short_values) := ⟨rfl, rfl, rfl, by decide +kernel, rfl, by decide +kernel, by decide +kernel⟩
abbrev s_all_calls : Stmt := top 50
abbrev N_all_calls : List Str := ["expander", "signs", "_", "states", "state", "sign"]
theorem sc_all_calls : FnScope N_all_calls ["expander"] (defScope s_all_calls) := ⟨rfl, rfl, rfl, by decide +kernel, rfl, by decide +kernel, by decide +kernel⟩
abbrev s_measure : Stmt := top 52
abbrev N_measure : List Str := ["expander", "found", "opened", "call", "row", "move"]
theorem sc_measure : FnScope N_measure ["expander", "found", "opened", "call"] (defScope s_measure) := ⟨rfl, rfl, rfl, by decide +kernel, rfl, by decide +kernel, by decide +kernel⟩
abbrev s_read_on : Stmt := top 53
abbrev N_read_on : List Str := ["expander", "found", "row", "back", "call", "place", "size", "state", "more"]
theorem sc_read_on : FnScope N_read_on ["expander", "found", "row"] (defScope s_read_on) := ⟨rfl, rfl, rfl, by decide +kernel, rfl, by decide +kernel, by decide +kernel⟩
abbrev s_need_value : Stmt := top 54
abbrev N_need_value : List Str := ["expander", "found", "call", "told", "kind", "state", "sign"]
theorem sc_need_value : FnScope N_need_value ["expander", "found", "call"] (defScope s_need_value) := ⟨rfl, rfl, rfl, by decide +kernel, rfl, by decide +kernel, by decide +kernel⟩
abbrev s_thread_of : Stmt := top 55
abbrev N_thread_of : List Str := ["expander", "found", "call", "row"]
theorem sc_thread_of : FnScope N_thread_of ["expander", "found", "call"] (defScope s_thread_of) := ⟨rfl, rfl, rfl, by decide +kernel, rfl, by decide +kernel, by decide +kernel⟩
abbrev s_first_without : Stmt := top 56
abbrev N_first_without : List Str := ["expander", "found", "call", "move", "place", "_", "back", "state"]
theorem sc_first_without : FnScope N_first_without ["expander", "found", "call"] (defScope s_first_without) := ⟨rfl, rfl, rfl, by decide +kernel, rfl, by decide +kernel, by decide +kernel⟩
abbrev s_begin : Stmt := top 58
abbrev N_begin : List Str := ["expander", "text"]
theorem sc_begin : FnScope N_begin ["expander", "text"] (defScope s_begin) := ⟨rfl, rfl, rfl, by decide +kernel, rfl, by decide +kernel, by decide +kernel⟩
abbrev s_step : Stmt := top 59
abbrev N_step : List Str := ["expander", "stand", "following", "_", "front", "state"]
theorem sc_step : FnScope N_step ["expander", "stand"] (defScope s_step) := ⟨rfl, rfl, rfl, by decide +kernel, rfl, by decide +kernel, by decide +kernel⟩
abbrev s_stands : Stmt := top 60
abbrev N_stands : List Str := ["expander", "text", "most", "found", "stand"]
theorem sc_stands : FnScope N_stands ["expander", "text", "most"] (defScope s_stands) := ⟨rfl, rfl, rfl, by decide +kernel, rfl, by decide +kernel, by decide +kernel⟩
abbrev s_first_stand : Stmt := top 61
abbrev N_first_stand : List Str := ["expander", "text"]
theorem sc_first_stand : FnScope N_first_stand ["expander", "text"] (defScope s_first_stand) := ⟨rfl, rfl, rfl, by decide +kernel, rfl, by decide +kernel, by decide +kernel⟩
abbrev s_next_stand : Stmt := top 62
abbrev N_next_stand : List Str := ["expander", "stand", "move", "done", "front", "state"]
theorem sc_next_stand : FnScope N_next_stand ["expander", "stand"] (defScope s_next_stand) := ⟨rfl, rfl, rfl, by decide +kernel, rfl, by decide +kernel, by decide +kernel⟩
abbrev s_is_stand : Stmt := top 63
abbrev N_is_stand : List Str := ["expander", "thing", "signs", "_", "states", "done", "front", "state"]
theorem sc_is_stand : FnScope N_is_stand ["expander", "thing"] (defScope s_is_stand) := ⟨rfl, rfl, rfl, by decide +kernel, rfl, by decide +kernel, by decide +kernel⟩
abbrev s_Lkneaded : Stmt := top 65
abbrev N_Lkneaded : List Str := ["seed", "lap", "prime", "amount", "again"]
theorem sc_Lkneaded : FnScope N_Lkneaded ["seed", "lap"] (defScope s_Lkneaded) := ⟨rfl, rfl, rfl, by decide +kernel, rfl, by decide +kernel, by decide +kernel⟩
abbrev s_Lpot_of : Stmt := top 66
abbrev N_Lpot_of : List Str := ["script", "cells", "place", "cell"]
theorem sc_Lpot_of : FnScope N_Lpot_of ["script"] (defScope s_Lpot_of) := ⟨rfl, rfl, rfl, by decide +kernel, rfl, by decide +kernel, by decide +kernel⟩
abbrev s_Lbelow : Stmt := top 67
abbrev N_Lbelow : List Str := ["pot", "bound", "found", "amount", "cells", "place"]
theorem sc_Lbelow : FnScope N_Lbelow ["pot", "bound"] (defScope s_Lbelow) := ⟨rfl, rfl, rfl, by decide +kernel, rfl, by decide +kernel, by decide +kernel⟩
abbrev s_Lpick : Stmt := top 68
abbrev N_Lpick : List Str := ["pot", "items"]
theorem sc_Lpick : FnScope N_Lpick ["pot", "items"] (defScope s_Lpick) := ⟨rfl, rfl, rfl, by decide +kernel, rfl, by decide +kernel, by decide +kernel⟩
abbrev s_Lsome_word : Stmt := top 69
abbrev N_Lsome_word : List Str := ["pot", "signs", "limit", "lap"]
theorem sc_Lsome_word : FnScope N_Lsome_word ["pot", "signs", "limit"] (defScope s_Lsome_word) := ⟨rfl, rfl, rfl, by decide +kernel, rfl, by decide +kernel, by decide +kernel⟩
abbrev s_Lsome_expander : Stmt := top 70
abbrev N_Lsome_expander : List Str := ["pot", "many", "signs", "state", "found", "spans", "count", "kind", "states", "moves", "sign", "last", "back", "done", "move", "call"]
theorem sc_Lsome_expander : FnScope N_Lsome_expander ["pot", "many"] (defScope s_Lsome_expander) := ⟨rfl, rfl, rfl, by decide +kernel, rfl, by decide +kernel, by decide +kernel⟩
abbrev s_Lplainer : Stmt := top 71
abbrev N_Lplainer : List Str := ["state", "move"]
theorem sc_Lplainer : FnScope N_Lplainer ["state"] (defScope s_Lplainer) := ⟨rfl, rfl, rfl, by decide +kernel, rfl, by decide +kernel, by decide +kernel⟩
abbrev s_Lcalls : Stmt := top 72
abbrev N_Lcalls : List Str := ["expander", "found", "state", "sign"]
theorem sc_Lcalls : FnScope N_Lcalls ["expander"] (defScope s_Lcalls) := ⟨rfl, rfl, rfl, by decide +kernel, rfl, by decide +kernel, by decide +kernel⟩
abbrev s_Lsizes : Stmt := top 73
abbrev N_Lsizes : List Str := ["expander", "found", "lap", "state", "sign", "move", "one", "size", "here", "more"]
theorem sc_Lsizes : FnScope N_Lsizes ["expander"] (defScope s_Lsizes) := ⟨rfl, rfl, rfl, by decide +kernel, rfl, by decide +kernel, by decide +kernel⟩
abbrev s_Lis_short : Stmt := top 74
abbrev N_Lis_short : List Str := ["signs", "thing", "sign"]
theorem sc_Lis_short : FnScope N_Lis_short ["signs", "thing"] (defScope s_Lis_short) := ⟨rfl, rfl, rfl, by decide +kernel, rfl, by decide +kernel, by decide +kernel⟩
abbrev s_Lis_count : Stmt := top 75
abbrev N_Lis_count : List Str := ["thing", "bound"]
theorem sc_Lis_count : FnScope N_Lis_count ["thing", "bound"] (defScope s_Lis_count) := ⟨rfl, rfl, rfl, by decide +kernel, rfl, by decide +kernel, by decide +kernel⟩
abbrev s_Lis_move : Stmt := top 76
abbrev N_Lis_move : List Str := ["signs", "many", "thing"]
theorem sc_Lis_move : FnScope N_Lis_move ["signs", "many", "thing"] (defScope s_Lis_move) := ⟨rfl, rfl, rfl, by decide +kernel, rfl, by decide +kernel, by decide +kernel⟩
abbrev s_Lis_state : Stmt := top 77
abbrev N_Lis_state : List Str := ["signs", "many", "thing", "move"]
theorem sc_Lis_state : FnScope N_Lis_state ["signs", "many", "thing"] (defScope s_Lis_state) := ⟨rfl, rfl, rfl, by decide +kernel, rfl, by decide +kernel, by decide +kernel⟩
abbrev s_Lis_expander : Stmt := top 78
abbrev N_Lis_expander : List Str := ["thing", "letters", "signs", "states", "state", "sign"]
theorem sc_Lis_expander : FnScope N_Lis_expander ["thing"] (defScope s_Lis_expander) := ⟨rfl, rfl, rfl, by decide +kernel, rfl, by decide +kernel, by decide +kernel⟩
abbrev s_Lspoilt : Stmt := top 79
abbrev N_Lspoilt : List Str := ["pot", "expander", "odd", "spot", "signs", "first", "states", "choice", "at", "some", "moves", "last", "state", "place", "move"]
theorem sc_Lspoilt : FnScope N_Lspoilt ["pot", "expander"] (defScope s_Lspoilt) := ⟨rfl, rfl, rfl, by decide +kernel, rfl, by decide +kernel, by decide +kernel⟩
abbrev s_Ldo : Stmt := top 80
abbrev N_Ldo : List Str := ["choice", "one", "two", "three"]
theorem sc_Ldo : FnScope N_Ldo ["choice", "one", "two", "three"] (defScope s_Ldo) := ⟨rfl, rfl, rfl, by decide +kernel, rfl, by decide +kernel, by decide +kernel⟩
abbrev s_Lword : Stmt := top 81
abbrev N_Lword : List Str := ["choice", "one", "two", "three", "caught", "before", "error"]
theorem sc_Lword : FnScope N_Lword ["choice", "one", "two", "three"] (defScope s_Lword) := ⟨rfl, rfl, rfl, by decide +kernel, rfl, by decide +kernel, by decide +kernel⟩
abbrev s_law : Stmt := top 82
abbrev N_law : List Str := ["script", "pot", "turn", "expander", "thing", "text", "choice", "signs", "bad", "state", "sign"]
theorem sc_law : FnScope N_law ["script"] (defScope s_law) := ⟨rfl, rfl, rfl, by decide +kernel, rfl, by decide +kernel, by decide +kernel⟩
/-! ### what the top leaves -/
set_option maxHeartbeats 0 in
structure Tx (K : PySem.W.Frag) (mg : Str → Option Value) where
  a_is_word : Addr
  fd_is_word : FuncData
  g_is_word : mg "is_word" = some (.ref a_is_word)
  F_is_word : Fun K "is_word" "is_word" s_is_word a_is_word fd_is_word
  b_is_word : Binds K fd_is_word ["signs", "thing"] []
  a_is_text : Addr
  fd_is_text : FuncData
  g_is_text : mg "is_text" = some (.ref a_is_text)
  F_is_text : Fun K "is_text" "is_text" s_is_text a_is_text fd_is_text
  b_is_text : Binds K fd_is_text ["signs", "thing"] []
  a_need_text : Addr
  fd_need_text : FuncData
  g_need_text : mg "need_text" = some (.ref a_need_text)
  F_need_text : Fun K "need_text" "need_text" s_need_text a_need_text fd_need_text
  b_need_text : Binds K fd_need_text ["signs", "thing"] []
  a_is_expander : Addr
  fd_is_expander : FuncData
  g_is_expander : mg "is_expander" = some (.ref a_is_expander)
  F_is_expander : Fun K "is_expander" "is_expander" s_is_expander a_is_expander fd_is_expander
  b_is_expander : Binds K fd_is_expander ["thing"] []
  a_need_expander : Addr
  fd_need_expander : FuncData
  g_need_expander : mg "need_expander" = some (.ref a_need_expander)
  F_need_expander : Fun K "need_expander" "need_expander" s_need_expander a_need_expander fd_need_expander
  b_need_expander : Binds K fd_need_expander ["expander"] []
  a_need_call : Addr
  fd_need_call : FuncData
  g_need_call : mg "need_call" = some (.ref a_need_call)
  F_need_call : Fun K "need_call" "need_call" s_need_call a_need_call fd_need_call
  b_need_call : Binds K fd_need_call ["expander", "state", "sign"] []
  a_is_call : Addr
  fd_is_call : FuncData
  g_is_call : mg "is_call" = some (.ref a_is_call)
  F_is_call : Fun K "is_call" "is_call" s_is_call a_is_call fd_is_call
  b_is_call : Binds K fd_is_call ["expander", "state", "sign"] []
  a_is_sign : Addr
  fd_is_sign : FuncData
  g_is_sign : mg "is_sign" = some (.ref a_is_sign)
  F_is_sign : Fun K "is_sign" "is_sign" s_is_sign a_is_sign fd_is_sign
  b_is_sign : Binds K fd_is_sign ["signs", "thing"] []
  a_is_number : Addr
  fd_is_number : FuncData
  g_is_number : mg "is_number" = some (.ref a_is_number)
  F_is_number : Fun K "is_number" "is_number" s_is_number a_is_number fd_is_number
  b_is_number : Binds K fd_is_number ["many", "thing"] []
  a_is_whole : Addr
  fd_is_whole : FuncData
  g_is_whole : mg "is_whole" = some (.ref a_is_whole)
  F_is_whole : Fun K "is_whole" "is_whole" s_is_whole a_is_whole fd_is_whole
  b_is_whole : Binds K fd_is_whole ["thing"] []
  a_move_of : Addr
  fd_move_of : FuncData
  g_move_of : mg "move_of" = some (.ref a_move_of)
  F_move_of : Fun K "move_of" "move_of" s_move_of a_move_of fd_move_of
  b_move_of : Binds K fd_move_of ["expander", "state", "sign"] []
  a__are_signs : Addr
  fd__are_signs : FuncData
  g__are_signs : mg "_are_signs" = some (.ref a__are_signs)
  F__are_signs : Fun K "_are_signs" "_are_signs" s_are_signs a__are_signs fd__are_signs
  b__are_signs : Binds K fd__are_signs ["thing"] []
  a__is_short_word : Addr
  fd__is_short_word : FuncData
  g__is_short_word : mg "_is_short_word" = some (.ref a__is_short_word)
  F__is_short_word : Fun K "_is_short_word" "_is_short_word" s_is_short_word a__is_short_word fd__is_short_word
  b__is_short_word : Binds K fd__is_short_word ["signs", "thing"] []
  a__are_states : Addr
  fd__are_states : FuncData
  g__are_states : mg "_are_states" = some (.ref a__are_states)
  F__are_states : Fun K "_are_states" "_are_states" s_are_states a__are_states fd__are_states
  b__are_states : Binds K fd__are_states ["signs", "thing"] []
  a__is_state : Addr
  fd__is_state : FuncData
  g__is_state : mg "_is_state" = some (.ref a__is_state)
  F__is_state : Fun K "_is_state" "_is_state" s_is_state a__is_state fd__is_state
  b__is_state : Binds K fd__is_state ["signs", "many", "thing"] []
  a__is_move : Addr
  fd__is_move : FuncData
  g__is_move : mg "_is_move" = some (.ref a__is_move)
  F__is_move : Fun K "_is_move" "_is_move" s_is_move a__is_move fd__is_move
  b__is_move : Binds K fd__is_move ["signs", "many", "thing"] []
  a_value : Addr
  fd_value : FuncData
  g_value : mg "value" = some (.ref a_value)
  F_value : Fun K "value" "value" s_value a_value fd_value
  b_value : Binds K fd_value ["expander", "state", "sign"] []
  a_thread : Addr
  fd_thread : FuncData
  g_thread : mg "thread" = some (.ref a_thread)
  F_thread : Fun K "thread" "thread" s_thread a_thread fd_thread
  b_thread : Binds K fd_thread ["expander", "state", "sign"] []
  a_values : Addr
  fd_values : FuncData
  g_values : mg "values" = some (.ref a_values)
  F_values : Fun K "values" "values" s_values a_values fd_values
  b_values : Binds K fd_values ["expander"] []
  a_shows_thread : Addr
  fd_shows_thread : FuncData
  g_shows_thread : mg "shows_thread" = some (.ref a_shows_thread)
  F_shows_thread : Fun K "shows_thread" "shows_thread" s_shows_thread a_shows_thread fd_shows_thread
  b_shows_thread : Binds K fd_shows_thread ["expander", "thing"] []
  a_plain : Addr
  fd_plain : FuncData
  g_plain : mg "plain" = some (.ref a_plain)
  F_plain : Fun K "plain" "plain" s_plain a_plain fd_plain
  b_plain : Binds K fd_plain ["expander"] []
  a_outcome : Addr
  fd_outcome : FuncData
  g_outcome : mg "outcome" = some (.ref a_outcome)
  F_outcome : Fun K "outcome" "outcome" s_outcome a_outcome fd_outcome
  b_outcome : Binds K fd_outcome ["expander", "text"] []
  a_ends_always : Addr
  fd_ends_always : FuncData
  g_ends_always : mg "ends_always" = some (.ref a_ends_always)
  F_ends_always : Fun K "ends_always" "ends_always" s_ends_always a_ends_always fd_ends_always
  b_ends_always : Binds K fd_ends_always ["expander"] []
  a_words_of_text : Addr
  fd_words_of_text : FuncData
  g_words_of_text : mg "words_of_text" = some (.ref a_words_of_text)
  F_words_of_text : Fun K "words_of_text" "words_of_text" s_words_of_text a_words_of_text fd_words_of_text
  b_words_of_text : Binds K fd_words_of_text ["expander", "found", "text"] []
  a_calls_of_text : Addr
  fd_calls_of_text : FuncData
  g_calls_of_text : mg "calls_of_text" = some (.ref a_calls_of_text)
  F_calls_of_text : Fun K "calls_of_text" "calls_of_text" s_calls_of_text a_calls_of_text fd_calls_of_text
  b_calls_of_text : Binds K fd_calls_of_text ["expander", "found", "text"] []
  a_sizes_of : Addr
  fd_sizes_of : FuncData
  g_sizes_of : mg "sizes_of" = some (.ref a_sizes_of)
  F_sizes_of : Fun K "sizes_of" "sizes_of" s_sizes_of a_sizes_of fd_sizes_of
  b_sizes_of : Binds K fd_sizes_of ["expander"] []
  a_values_of : Addr
  fd_values_of : FuncData
  g_values_of : mg "values_of" = some (.ref a_values_of)
  F_values_of : Fun K "values_of" "values_of" s_values_of a_values_of fd_values_of
  b_values_of : Binds K fd_values_of ["expander"] []
  a_short_values : Addr
  fd_short_values : FuncData
  g_short_values : mg "short_values" = some (.ref a_short_values)
  F_short_values : Fun K "short_values" "short_values" s_short_values a_short_values fd_short_values
  b_short_values : Binds K fd_short_values ["expander", "sizes"] []
  a_all_calls : Addr
  fd_all_calls : FuncData
  g_all_calls : mg "all_calls" = some (.ref a_all_calls)
  F_all_calls : Fun K "all_calls" "all_calls" s_all_calls a_all_calls fd_all_calls
  b_all_calls : Binds K fd_all_calls ["expander"] []
  a__measure : Addr
  fd__measure : FuncData
  g__measure : mg "_measure" = some (.ref a__measure)
  F__measure : Fun K "_measure" "_measure" s_measure a__measure fd__measure
  b__measure : Binds K fd__measure ["expander", "found", "opened", "call"] []
  a__read_on : Addr
  fd__read_on : FuncData
  g__read_on : mg "_read_on" = some (.ref a__read_on)
  F__read_on : Fun K "_read_on" "_read_on" s_read_on a__read_on fd__read_on
  b__read_on : Binds K fd__read_on ["expander", "found", "row"] []
  a__need_value : Addr
  fd__need_value : FuncData
  g__need_value : mg "_need_value" = some (.ref a__need_value)
  F__need_value : Fun K "_need_value" "_need_value" s_need_value a__need_value fd__need_value
  b__need_value : Binds K fd__need_value ["expander", "found", "call"] []
  a__thread_of : Addr
  fd__thread_of : FuncData
  g__thread_of : mg "_thread_of" = some (.ref a__thread_of)
  F__thread_of : Fun K "_thread_of" "_thread_of" s_thread_of a__thread_of fd__thread_of
  b__thread_of : Binds K fd__thread_of ["expander", "found", "call"] []
  a__first_without : Addr
  fd__first_without : FuncData
  g__first_without : mg "_first_without" = some (.ref a__first_without)
  F__first_without : Fun K "_first_without" "_first_without" s_first_without a__first_without fd__first_without
  b__first_without : Binds K fd__first_without ["expander", "found", "call"] []
  a_begin : Addr
  fd_begin : FuncData
  g_begin : mg "begin" = some (.ref a_begin)
  F_begin : Fun K "begin" "begin" s_begin a_begin fd_begin
  b_begin : Binds K fd_begin ["expander", "text"] []
  a_step : Addr
  fd_step : FuncData
  g_step : mg "step" = some (.ref a_step)
  F_step : Fun K "step" "step" s_step a_step fd_step
  b_step : Binds K fd_step ["expander", "stand"] []
  a_stands : Addr
  fd_stands : FuncData
  g_stands : mg "stands" = some (.ref a_stands)
  F_stands : Fun K "stands" "stands" s_stands a_stands fd_stands
  ds_stands : List Value
  dv_stands : Vals [V.int 100] ds_stands
  b_stands : Binds K fd_stands ["expander", "text", "most"] ds_stands
  kb_stands : KBn K fd_stands ["expander", "text", "most"] 2 ["most"] (fun us ws => us ++ ws) (fun vs zs => vs ++ zs)
  a__first_stand : Addr
  fd__first_stand : FuncData
  g__first_stand : mg "_first_stand" = some (.ref a__first_stand)
  F__first_stand : Fun K "_first_stand" "_first_stand" s_first_stand a__first_stand fd__first_stand
  b__first_stand : Binds K fd__first_stand ["expander", "text"] []
  a__next_stand : Addr
  fd__next_stand : FuncData
  g__next_stand : mg "_next_stand" = some (.ref a__next_stand)
  F__next_stand : Fun K "_next_stand" "_next_stand" s_next_stand a__next_stand fd__next_stand
  b__next_stand : Binds K fd__next_stand ["expander", "stand"] []
  a__is_stand : Addr
  fd__is_stand : FuncData
  g__is_stand : mg "_is_stand" = some (.ref a__is_stand)
  F__is_stand : Fun K "_is_stand" "_is_stand" s_is_stand a__is_stand fd__is_stand
  b__is_stand : Binds K fd__is_stand ["expander", "thing"] []
  a__law_kneaded : Addr
  fd__law_kneaded : FuncData
  g__law_kneaded : mg "_law_kneaded" = some (.ref a__law_kneaded)
  F__law_kneaded : Fun K "_law_kneaded" "_law_kneaded" s_Lkneaded a__law_kneaded fd__law_kneaded
  b__law_kneaded : Binds K fd__law_kneaded ["seed", "lap"] []
  a__law_pot_of : Addr
  fd__law_pot_of : FuncData
  g__law_pot_of : mg "_law_pot_of" = some (.ref a__law_pot_of)
  F__law_pot_of : Fun K "_law_pot_of" "_law_pot_of" s_Lpot_of a__law_pot_of fd__law_pot_of
  b__law_pot_of : Binds K fd__law_pot_of ["script"] []
  a__law_below : Addr
  fd__law_below : FuncData
  g__law_below : mg "_law_below" = some (.ref a__law_below)
  F__law_below : Fun K "_law_below" "_law_below" s_Lbelow a__law_below fd__law_below
  b__law_below : Binds K fd__law_below ["pot", "bound"] []
  a__law_pick : Addr
  fd__law_pick : FuncData
  g__law_pick : mg "_law_pick" = some (.ref a__law_pick)
  F__law_pick : Fun K "_law_pick" "_law_pick" s_Lpick a__law_pick fd__law_pick
  b__law_pick : Binds K fd__law_pick ["pot", "items"] []
  a__law_some_word : Addr
  fd__law_some_word : FuncData
  g__law_some_word : mg "_law_some_word" = some (.ref a__law_some_word)
  F__law_some_word : Fun K "_law_some_word" "_law_some_word" s_Lsome_word a__law_some_word fd__law_some_word
  b__law_some_word : Binds K fd__law_some_word ["pot", "signs", "limit"] []
  a__law_some_expander : Addr
  fd__law_some_expander : FuncData
  g__law_some_expander : mg "_law_some_expander" = some (.ref a__law_some_expander)
  F__law_some_expander : Fun K "_law_some_expander" "_law_some_expander" s_Lsome_expander a__law_some_expander fd__law_some_expander
  b__law_some_expander : Binds K fd__law_some_expander ["pot", "many"] []
  a__law_plainer : Addr
  fd__law_plainer : FuncData
  g__law_plainer : mg "_law_plainer" = some (.ref a__law_plainer)
  F__law_plainer : Fun K "_law_plainer" "_law_plainer" s_Lplainer a__law_plainer fd__law_plainer
  b__law_plainer : Binds K fd__law_plainer ["state"] []
  a__law_calls : Addr
  fd__law_calls : FuncData
  g__law_calls : mg "_law_calls" = some (.ref a__law_calls)
  F__law_calls : Fun K "_law_calls" "_law_calls" s_Lcalls a__law_calls fd__law_calls
  b__law_calls : Binds K fd__law_calls ["expander"] []
  a__law_sizes : Addr
  fd__law_sizes : FuncData
  g__law_sizes : mg "_law_sizes" = some (.ref a__law_sizes)
  F__law_sizes : Fun K "_law_sizes" "_law_sizes" s_Lsizes a__law_sizes fd__law_sizes
  b__law_sizes : Binds K fd__law_sizes ["expander"] []
  a__law_is_short : Addr
  fd__law_is_short : FuncData
  g__law_is_short : mg "_law_is_short" = some (.ref a__law_is_short)
  F__law_is_short : Fun K "_law_is_short" "_law_is_short" s_Lis_short a__law_is_short fd__law_is_short
  b__law_is_short : Binds K fd__law_is_short ["signs", "thing"] []
  a__law_is_count : Addr
  fd__law_is_count : FuncData
  g__law_is_count : mg "_law_is_count" = some (.ref a__law_is_count)
  F__law_is_count : Fun K "_law_is_count" "_law_is_count" s_Lis_count a__law_is_count fd__law_is_count
  b__law_is_count : Binds K fd__law_is_count ["thing", "bound"] []
  a__law_is_move : Addr
  fd__law_is_move : FuncData
  g__law_is_move : mg "_law_is_move" = some (.ref a__law_is_move)
  F__law_is_move : Fun K "_law_is_move" "_law_is_move" s_Lis_move a__law_is_move fd__law_is_move
  b__law_is_move : Binds K fd__law_is_move ["signs", "many", "thing"] []
  a__law_is_state : Addr
  fd__law_is_state : FuncData
  g__law_is_state : mg "_law_is_state" = some (.ref a__law_is_state)
  F__law_is_state : Fun K "_law_is_state" "_law_is_state" s_Lis_state a__law_is_state fd__law_is_state
  b__law_is_state : Binds K fd__law_is_state ["signs", "many", "thing"] []
  a__law_is_expander : Addr
  fd__law_is_expander : FuncData
  g__law_is_expander : mg "_law_is_expander" = some (.ref a__law_is_expander)
  F__law_is_expander : Fun K "_law_is_expander" "_law_is_expander" s_Lis_expander a__law_is_expander fd__law_is_expander
  b__law_is_expander : Binds K fd__law_is_expander ["thing"] []
  a__law_spoilt : Addr
  fd__law_spoilt : FuncData
  g__law_spoilt : mg "_law_spoilt" = some (.ref a__law_spoilt)
  F__law_spoilt : Fun K "_law_spoilt" "_law_spoilt" s_Lspoilt a__law_spoilt fd__law_spoilt
  b__law_spoilt : Binds K fd__law_spoilt ["pot", "expander"] []
  a__law_do : Addr
  fd__law_do : FuncData
  g__law_do : mg "_law_do" = some (.ref a__law_do)
  F__law_do : Fun K "_law_do" "_law_do" s_Ldo a__law_do fd__law_do
  b__law_do : Binds K fd__law_do ["choice", "one", "two", "three"] []
  a__law_word : Addr
  fd__law_word : FuncData
  g__law_word : mg "_law_word" = some (.ref a__law_word)
  F__law_word : Fun K "_law_word" "_law_word" s_Lword a__law_word fd__law_word
  b__law_word : Binds K fd__law_word ["choice", "one", "two", "three"] []
  a_law : Addr
  fd_law : FuncData
  g_law : mg "law" = some (.ref a_law)
  F_law : Fun K "law" "law" s_law a_law fd_law
  b_law : Binds K fd_law ["script"] []
  z_abs : mg "abs" = none
  z_all : mg "all" = none
  z_any : mg "any" = none
  z_bool : mg "bool" = none
  z_enumerate : mg "enumerate" = none
  z_int : mg "int" = none
  z_isinstance : mg "isinstance" = none
  z_len : mg "len" = none
  z_list : mg "list" = none
  z_max : mg "max" = none
  z_range : mg "range" = none
  z_repr : mg "repr" = none
  z_set : mg "set" = none
  z_sorted : mg "sorted" = none
  z_str : mg "str" = none
  z_sum : mg "sum" = none
  z_tuple : mg "tuple" = none
  t_LETTERS : Tok
  m_LETTERS : mg "LETTERS" = some (.str "abcdefghijklmnopqrstuvwxyz" t_LETTERS)
  t_MOST_SIGNS : Tok
  m_MOST_SIGNS : mg "MOST_SIGNS" = some (.int 4 t_MOST_SIGNS)
  t_MOST_STATES : Tok
  m_MOST_STATES : mg "MOST_STATES" = some (.int 60 t_MOST_STATES)
  t_MOST_TEXT : Tok
  m_MOST_TEXT : mg "MOST_TEXT" = some (.int 200 t_MOST_TEXT)
  t_MOST_WORD : Tok
  m_MOST_WORD : mg "MOST_WORD" = some (.int 2000 t_MOST_WORD)
  a_NoExpander : Addr
  g_NoExpander : mg "NoExpander" = some (.ref a_NoExpander)
  a_NoText : Addr
  g_NoText : mg "NoText" = some (.ref a_NoText)
  a_NoCall : Addr
  g_NoCall : mg "NoCall" = some (.ref a_NoCall)
  a_Mismatch : Addr
  g_Mismatch : mg "Mismatch" = some (.ref a_Mismatch)
  a_NoOutcome : Addr
  g_NoOutcome : mg "NoOutcome" = some (.ref a_NoOutcome)
  a_TooMany : Addr
  g_TooMany : mg "TooMany" = some (.ref a_TooMany)
  xi_NoExpander : PySem.W.excIn K a_NoExpander veRest "ValueError.__new__" = true
  k_NoExpander : PySem.W.keepIn K (.ref a_NoExpander) = true
  b_NoExpander : PySem.W.subIn K (.ref a_NoExpander) (.type "BaseException") = some true
  t_NoExpander : PySem.W.typeIn K (.ref a_NoExpander) = some (.type "type")
  xi_NoText : PySem.W.excIn K a_NoText veRest "ValueError.__new__" = true
  k_NoText : PySem.W.keepIn K (.ref a_NoText) = true
  b_NoText : PySem.W.subIn K (.ref a_NoText) (.type "BaseException") = some true
  t_NoText : PySem.W.typeIn K (.ref a_NoText) = some (.type "type")
  xi_NoCall : PySem.W.excIn K a_NoCall veRest "ValueError.__new__" = true
  k_NoCall : PySem.W.keepIn K (.ref a_NoCall) = true
  b_NoCall : PySem.W.subIn K (.ref a_NoCall) (.type "BaseException") = some true
  t_NoCall : PySem.W.typeIn K (.ref a_NoCall) = some (.type "type")
  xi_Mismatch : PySem.W.excIn K a_Mismatch veRest "ValueError.__new__" = true
  k_Mismatch : PySem.W.keepIn K (.ref a_Mismatch) = true
  b_Mismatch : PySem.W.subIn K (.ref a_Mismatch) (.type "BaseException") = some true
  t_Mismatch : PySem.W.typeIn K (.ref a_Mismatch) = some (.type "type")
  b_NoOutcome : PySem.W.subIn K (.ref a_NoOutcome) (.type "BaseException") = some true
  t_NoOutcome : PySem.W.typeIn K (.ref a_NoOutcome) = some (.type "type")
  o_NoOutcome : OexC K a_NoOutcome
  x_NoOutcome : XfC K a_NoOutcome
  i_NoOutcome : Addr
  if_NoOutcome : FuncData
  ii_NoOutcome : PySem.W.findIn K (.ref a_NoOutcome) "__init__" = some (some (.ref i_NoOutcome))
  it_NoOutcome : PySem.W.typeIn K (.ref i_NoOutcome) = some (.type "function")
  iF_NoOutcome : Fun K "__init__" "NoOutcome.__init__" (inClass (top 3) 0) i_NoOutcome if_NoOutcome
  ib_NoOutcome : Binds K if_NoOutcome ["self", "kind", "thread"] []
  nf_NoOutcome_kind : PySem.W.findIn K (.ref a_NoOutcome) "kind" = some none
  nf_NoOutcome_thread : PySem.W.findIn K (.ref a_NoOutcome) "thread" = some none
  b_TooMany : PySem.W.subIn K (.ref a_TooMany) (.type "BaseException") = some true
  t_TooMany : PySem.W.typeIn K (.ref a_TooMany) = some (.type "type")
  o_TooMany : OexC K a_TooMany
  x_TooMany : XfC K a_TooMany
  i_TooMany : Addr
  if_TooMany : FuncData
  ii_TooMany : PySem.W.findIn K (.ref a_TooMany) "__init__" = some (some (.ref i_TooMany))
  it_TooMany : PySem.W.typeIn K (.ref i_TooMany) = some (.type "function")
  iF_TooMany : Fun K "__init__" "TooMany.__init__" (inClass (top 2) 0) i_TooMany if_TooMany
  ib_TooMany : Binds K if_TooMany ["self", "limit"] []
  nf_TooMany_limit : PySem.W.findIn K (.ref a_TooMany) "limit" = some none
  e_NoExpander_NoExpander : PySem.W.exmOne K (.ref a_NoExpander) (.ref a_NoExpander) = some true
  e_NoText_NoExpander : PySem.W.exmOne K (.ref a_NoText) (.ref a_NoExpander) = some false
  e_NoText_NoText : PySem.W.exmOne K (.ref a_NoText) (.ref a_NoText) = some true
  e_NoCall_NoExpander : PySem.W.exmOne K (.ref a_NoCall) (.ref a_NoExpander) = some false
  e_NoCall_NoText : PySem.W.exmOne K (.ref a_NoCall) (.ref a_NoText) = some false
  e_NoCall_NoCall : PySem.W.exmOne K (.ref a_NoCall) (.ref a_NoCall) = some true
  e_NoOutcome_NoExpander : PySem.W.exmOne K (.ref a_NoOutcome) (.ref a_NoExpander) = some false
  e_NoOutcome_NoText : PySem.W.exmOne K (.ref a_NoOutcome) (.ref a_NoText) = some false
  e_NoOutcome_NoCall : PySem.W.exmOne K (.ref a_NoOutcome) (.ref a_NoCall) = some false
  e_NoOutcome_NoOutcome : PySem.W.exmOne K (.ref a_NoOutcome) (.ref a_NoOutcome) = some true
end K14

namespace K14
open PySem PySem.Spec PyProof.Rows L2 G Lk
section
variable {P : Program} {w : World} {K : PySem.W.Frag} {mg : Str → Option Value} {base : Heap}
abbrev s_TooMany : Stmt := inClass (top 2) 0
theorem sc_TooMany : FnScope ["self", "limit"] ["self", "limit"] (defScope s_TooMany) := ⟨rfl, rfl, rfl, by decide +kernel, rfl, by decide +kernel, by decide +kernel⟩
theorem ok_TooMany_init (T : Tx K mg) : FnOk P w K mg base CX0 1 T.i_TooMany T.if_TooMany ["self", "limit"] (spInit1R K T.a_TooMany "limit") := by
  refine T.iF_TooMany.ok sc_TooMany (fun vs H Q E h => ?_) (fun cdv A outer s H vs Q E hr h => ?_)
  · obtain ⟨_, _, rfl, _⟩ := h
    rfl
  · obtain ⟨a, v, rfl, ha, q⟩ := h
    refine ⟨_, pss_one (ps_ost (pv 0) (pv 1)), ?_⟩
    refine ⟨_, rfl, _, rfl, a, T.a_TooMany, rfl, T.o_TooMany, T.nf_TooMany_limit, .inl ⟨ha, fun d nd da => ?_⟩⟩
    refine q _ d (fun b o nb e => ?_) upd_same ?_ nd
    · rw [upd_ne nb, upd_ne (ne_of_none e nd)]
      exact e
    · rw [upd_ne da, upd_same]
end
end K14

namespace K14
open PySem PySem.Spec PyProof.Rows L2 G Lk
section
variable {P : Program} {w : World} {K : PySem.W.Frag} {mg : Str → Option Value} {base : Heap}
abbrev s_NoOutcome : Stmt := inClass (top 3) 0
theorem sc_NoOutcome : FnScope ["self", "kind", "thread"] ["self", "kind", "thread"] (defScope s_NoOutcome) := ⟨rfl, rfl, rfl, by decide +kernel, rfl, by decide +kernel, by decide +kernel⟩
theorem ok_NoOutcome_init (T : Tx K mg) : FnOk P w K mg base CX0 1 T.i_NoOutcome T.if_NoOutcome ["self", "kind", "thread"] (spInitR K T.a_NoOutcome "kind" "thread") := by
  refine T.iF_NoOutcome.ok sc_NoOutcome (fun vs H Q E h => ?_) (fun cdv A outer s H vs Q E hr h => ?_)
  · obtain ⟨_, _, _, _, rfl, _⟩ := h
    rfl
  · obtain ⟨a, l, v, xs, rfl, ha, hl, q⟩ := h
    refine ⟨_, pss_cons (ps_ost (pv 0) (pv 1)) (pss_one (ps_ost (pv 0) (pe_ifExp (pt_val (pe_callB call_isi (by rfl) T.z_isinstance (by decide +kernel) (pa_cons (pv 2) (pa_cons (pe_bltn (v := .ty "list") (by rfl) T.z_list (by decide +kernel) rfl) pa_nil))))
      (pe_callTy call_list_of (by rfl) T.z_list (by decide +kernel) (pa_cons (pv 2) pa_nil)) (pv 2)))), ?_⟩
    have nla : l ≠ a ∨ K.lookup l ≠ none := by
      rcases hl with (h | ⟨o, h⟩) | ⟨o, its, n, h, _⟩
      · refine .inl fun e => ?_
        rw [e, ha] at h
        exact exo_ne_lst (Option.some.inj h)
      · refine .inl fun e => ?_
        rw [e, ha] at h
        exact exo_frz (Option.some.inj h)
      · exact .inr (by rw [h]; exact Option.some_ne_none _)
    refine ⟨_, rfl, _, rfl, a, T.a_NoOutcome, rfl, T.o_NoOutcome, T.nf_NoOutcome_kind, .inl ⟨ha, fun d nd da => ?_⟩⟩
    have hl1 : SqL K (upd (upd H d (exd d [("kind", v)])) a (exo a T.a_NoOutcome (some d))) l xs := by
      rcases hl with (h | ⟨o, h⟩) | h
      · have n : l ≠ a := fun e => by
          rw [e, ha] at h
          exact exo_ne_lst (Option.some.inj h)
        refine .inl (.inl ?_)
        rw [upd_ne n, upd_ne (ne_of_none h nd)]
        exact h
      · have n : l ≠ a := fun e => by
          rw [e, ha] at h
          exact exo_frz (Option.some.inj h)
        refine .inl (.inr ⟨o, ?_⟩)
        rw [upd_ne n, upd_ne (ne_of_none h nd)]
        exact h
      · exact .inr h
    refine ⟨_, rfl, .ref l, .ty "list", _, _, true, rfl, .ty "list", tyx_seqL hl1, kit_ty kit_list_list, _, rfl, ?_⟩
    refine iteT ⟨_, rfl, l, xs, rfl, .inl hl1, fun n nn => ?_⟩
    have nna : n ≠ a := fun e => by
      rw [e, upd_same] at nn
      cases nn
    have nnd : n ≠ d := fun e => by
      rw [e, upd_ne da, upd_same] at nn
      cases nn
    have nH : H n = none := by
      rw [upd_ne nna, upd_ne nnd] at nn
      exact nn
    refine ⟨_, rfl, a, T.a_NoOutcome, rfl, T.o_NoOutcome, T.nf_NoOutcome_thread, .inr ⟨d, [("kind", v)], by rw [upd_ne nna.symm, upd_same], by rw [upd_ne nnd.symm, upd_ne da, upd_same], (by show 1 ≤ 900; decide), ?_⟩⟩
    refine q _ d n (fun b o nb e => ?_) ?_ upd_same ?_ nH nd
    · rw [upd_ne (ne_of_none e nd), upd_ne (ne_of_none e nH), upd_ne nb, upd_ne (ne_of_none e nd)]
      exact e
    · rw [upd_ne da.symm, upd_ne nna.symm, upd_same]
    · rw [upd_ne nnd, upd_same]
end
end K14

namespace K14
open PySem PySem.Spec PyProof.Rows L2 G Lk
section
variable {P : Program} {w : World} {K : PySem.W.Frag} {mg : Str → Option Value} {base : Heap}
def sp_Lkneaded (K : PySem.W.Frag) : Sp := fun vs H Q _ => ∃ (a b : Int), vs = [.int a, .int b] ∧ ∀ k : Int, Q (.int k) H
/-- def _law_kneaded(seed, lap): -/
theorem ok_Lkneaded (T : Tx K mg) : FnOk P w K mg base CX0 1 T.a__law_kneaded T.fd__law_kneaded ["seed", "lap"] (sp_Lkneaded K) := by
  refine T.F__law_kneaded.ok sc_Lkneaded (fun vs H Q E h => ?_) (fun cdv A outer s H vs Q E hr h => ?_)
  · obtain ⟨_, _, rfl, _⟩ := h
    rfl
  · refine ⟨_, (pss_cons (ps_set (i := 2) sc_Lkneaded.nd rfl (by first | exact Or.inl rfl | exact Or.inr rfl) pe_int)
    (pss_cons (ps_set (i := 3) sc_Lkneaded.nd rfl (by first | exact Or.inl rfl | exact Or.inr rfl) (pe_op op_mod (pe_callTy call_int1 (by rfl) T.z_int (by decide +kernel) (pa_cons (pe_op op_add (pe_op op_add (pe_op op_mul (pv 0) pe_int) (pe_op op_mul (pv 1) pe_int)) pe_int) pa_nil)) (pv 2)))
    (pss_cons (ps_for PassesOwn.never rfl (pi_range1 (by rfl) T.z_range (pa_cons pe_int pa_nil)) (pg_name (i := 4) sc_Lkneaded.nd rfl (by first | exact Or.inl rfl | exact Or.inr rfl))
      (pss_one (ps_set (i := 3) sc_Lkneaded.nd rfl (by first | exact Or.inl rfl | exact Or.inr rfl) (pe_op op_mod (pe_callTy call_int1 (by rfl) T.z_int (by decide +kernel) (pa_cons (pe_op op_add (pe_op op_add (pe_op op_add (pe_op op_mul (pv 3) (pv 3)) (pe_op op_mul pe_int (pv 3))) (pe_op op_mul pe_int (pv 4))) (pv 1)) pa_nil)) (pv 2)))))
    (pss_one (ps_ret (pe_op op_add (pe_op op_mul (pv 3) (pv 2)) (pe_op op_mod (pe_callTy call_int1 (by rfl) T.z_int (by decide +kernel) (pa_cons (pe_op op_add (pe_op op_mul (pv 3) pe_int) (pv 1)) pa_nil)) (pv 2)))))))), ?_⟩
    obtain ⟨a, b, rfl, q⟩ := h
    have hp : (0 : Int) < 2305843009213693907 := by decide
    have lim : ∀ z : Int, -(2 ^ 64) < z % 2305843009213693907 ∧ z % 2305843009213693907 < 2 ^ 64 := fun z =>
      ⟨Int.lt_of_lt_of_le (by decide) (Int.emod_nonneg z (by decide)), Int.lt_trans (Int.emod_lt_of_pos z hp) (by decide)⟩
    refine ⟨_, rfl, _, _, rfl, rfl, .inr ⟨by decide, by decide⟩, _, rfl, _, _, rfl, rfl, .inr ⟨by decide, by decide⟩, _, _, rfl, rfl, _, _, rfl, rfl, .inl ⟨_, rfl, ?_⟩⟩
    refine ⟨_, rfl, _, _, rfl, rfl, hp, ?_⟩
    refine ⟨4, rfl, by decide, by decide, for_range (n := 4) (fun _ σ H' => ∃ (m : Int) (t : Option V), σ = [some (.int a), some (.int b), some (.int 2305843009213693907), some (.int m), t] ∧ H' = H ∧ -(2 ^ 64) < m ∧ m < 2 ^ 64)
      ⟨_, none, rfl, rfl, (lim _).1, (lim _).2⟩ ?_ ?_⟩
    · rintro i σ H' hi ⟨m, t, rfl, rfl, h1, h2⟩
      refine ⟨_, rfl, _, rfl, _, _, rfl, rfl, .inl ⟨h1, h2⟩, _, rfl, _, _, rfl, rfl, .inl ⟨by decide, by decide⟩, _, _, rfl, rfl, _, rfl, _, _, rfl, rfl, .inl ⟨by decide, by decide⟩, _, _, rfl, rfl, _, rfl, _, _, rfl, rfl, .inl ⟨_, rfl, ?_⟩⟩
      exact ⟨_, rfl, _, _, rfl, rfl, hp, _, _, rfl, rfl, (lim _).1, (lim _).2⟩
    · rintro σ H' ⟨m, t, rfl, rfl, h1, h2⟩
      refine ⟨_, rfl, _, rfl, _, _, rfl, rfl, .inl ⟨h1, h2⟩, _, rfl, _, _, rfl, rfl, .inr ⟨by decide, by decide⟩, _, rfl, _, _, rfl, rfl, .inl ⟨_, rfl, ?_⟩⟩
      exact ⟨_, rfl, _, _, rfl, rfl, hp, _, _, rfl, rfl, q _⟩
end
end K14

namespace K14
open PySem PySem.Spec PyProof.Rows L2 G Lk
section
variable {P : Program} {w : World} {K : PySem.W.Frag} {mg : Str → Option Value} {base : Heap}
def sp_Lbelow (K : PySem.W.Frag) : Sp := spBelow K
/-- def _law_below(pot, bound): -/
theorem ok_Lbelow (T : Tx K mg) : FnOk P w K mg base CX0 2 T.a__law_below T.fd__law_below ["pot", "bound"] (sp_Lbelow K) := by
  refine T.F__law_below.ok sc_Lbelow (fun vs H Q E h => ?_) (fun cdv A outer s H vs Q E hr h => ?_)
  · obtain ⟨_, _, _, rfl, _⟩ := h
    rfl
  · refine ⟨_, (C8.pss_cut (ps_if (pt_cmpR op_lt (pe_ix ix_list (pv 0) pe_int (fun _ _ => rfl)) (pv 1) (nomark _))
      (pss_cons (ps_par (i := 4) (j := 5) (by rfl) sc_Lbelow.nd rfl rfl (by decide) rfl rfl (pa_cons (pe_ix ix_list (pv 0) pe_int (fun _ _ => rfl)) (pa_cons (pe_ix ix_list (pv 0) pe_int (fun _ _ => rfl)) pa_nil)) (by rfl))
    (C8.pss_cut (ps_set (i := 3) sc_Lbelow.nd rfl (by first | exact Or.inl rfl | exact Or.inr rfl) (pe_ifExp (pt_cmpR (op_neD hr.units) (pv 4) (pe_lst pa_nil) (nomark _)) (pe_ix ix_list (pv 4) (pe_op op_mod (pv 5) (pe_callB call_len_seq (by rfl) T.z_len PySem.boot_len (pa_cons (pv 4) pa_nil))) (fun _ _ => rfl)) pe_int))
    (C8.pss_cut (ps_if (PW.pt (pw_or (pt_cmpR op_ge (pv 5) (pe_callB call_len_seq (by rfl) T.z_len PySem.boot_len (pa_cons (pv 4) pa_nil)) (nomark _)) (pw_or1 (pt_cmpR op_lt (pv 3) (pe_op op_pow pe_int pe_int) (nomark _)))))
      (pss_one (ps_set (i := 3) sc_Lbelow.nd rfl (by first | exact Or.inl rfl | exact Or.inr rfl) (pe_call (ok_Lkneaded T) (hr.mono (by decide)) (by rfl) T.g__law_kneaded T.F__law_kneaded.kp T.b__law_kneaded .nil pass0 (pa_cons (pe_op op_mod (pe_callTy call_int1 (by rfl) T.z_int (by decide +kernel) (pa_cons (pv 3) pa_nil)) pe_int) (pa_cons (pv 5) pa_nil)))))
      pss_nil)
    (pss_cons (ps_asg (pe_op op_add (pv 5) pe_int) (pg_sub (pv 0) pe_int set_list))
    (pss_cons (ps_asg (pv 3) (pg_sub (pv 0) pe_int set_list))
    (pss_one (ps_asg (pv 3) (pg_sub (pv 0) pe_int set_list))))))))
      pss_nil)
    (pss_cons (ps_set (i := 2) sc_Lbelow.nd rfl (by first | exact Or.inl rfl | exact Or.inr rfl) (pe_op op_mod (pe_callTy call_int1 (by rfl) T.z_int (by decide +kernel) (pa_cons (pe_ix ix_list (pv 0) pe_int (fun _ _ => rfl)) pa_nil)) (pv 1)))
    (pss_cons (ps_asg (pe_op op_fdiv (pe_ix ix_list (pv 0) pe_int (fun _ _ => rfl)) (pv 1)) (pg_sub (pv 0) pe_int set_list))
    (pss_cons (ps_asg (pe_op op_fdiv (pe_ix ix_list (pv 0) pe_int (fun _ _ => rfl)) (pv 1)) (pg_sub (pv 0) pe_int set_list))
    (pss_one (ps_ret (pv 2))))))), ?_⟩
    obtain ⟨a, c, b, rfl, hp, b1, b2, q⟩ := h
    obtain ⟨⟨p, x, y, ha⟩, ns, hc, hl⟩ := id hp
    have hc0 : SqL K H c (ns.map V.int) := seqL sans_same hc
    refine ⟨fun σ H' => ∃ s2 s3 s4 s5 : Option V, σ = [some (.ref a), some (.int b), s2, s3, s4, s5] ∧ Sm a H H' ∧ ∃ p x y : Int, H' a = some (.lst [.ref c, .int p, .int x, .int y]), ?_, ?_⟩
    · refine ⟨_, rfl, a, _, _, _, rfl, rfl, SqL.of ha, atI_nat (j := 3) rfl, _, rfl, _, _, rfl, rfl, _, rfl, ite2 (fun _ => ?_) (fun _ => ?_)⟩
      · refine ⟨_, rfl, a, _, _, _, rfl, rfl, SqL.of ha, atI_nat (j := 0) rfl, _, rfl, a, _, _, _, rfl, rfl, SqL.of ha, atI_nat (j := 1) rfl, _, _, rfl, ?_⟩
        refine ⟨fun σ H' => ∃ m : Int, σ = [some (.ref a), some (.int b), none, some (.int m), some (.ref c), some (.int p)] ∧ Same H H', ?_, ?_⟩
        · refine ⟨_, rfl, Nat.zero_le _, fun l nl => ?_⟩
          have s1 : Same H (upd H l (.lst [])) := same_new nl
          have hc1 : SqL K (upd H l (.lst [])) c (ns.map V.int) := seqL s1 hc0
          refine ⟨.list (ns.map PyData.int), .list [], .lst hc1 (dq_ints ns), .lst (SqL.of upd_same) .nil, shaped_ints ns, shaped_ints [], _, rfl, ?_⟩
          refine ite2 (fun e => ?_) (fun _ => ⟨0, rfl, s1⟩)
          have hpos : 0 < ns.length := by
            cases ns with
            | nil => exact absurd e (by decide)
            | cons n r => exact Nat.succ_pos _
          have hpi : (0 : Int) < (((ns.map V.int).length : Nat) : Int) := by
            rw [List.length_map]
            omega
          have h1 : (p % (((ns.map V.int).length : Nat) : Int)).toNat < ns.length := by
            have z1 := Int.emod_nonneg p (Int.ne_of_gt hpi)
            have z2 := Int.emod_lt_of_pos p hpi
            rw [List.length_map] at z1 z2 ⊢
            omega
          have e3 := atI_nat (xs := ns.map V.int) (j := (p % (((ns.map V.int).length : Nat) : Int)).toNat) (v := .int ns[(p % (((ns.map V.int).length : Nat) : Int)).toNat]) (by rw [List.getElem?_map, List.getElem?_eq_getElem h1]; rfl)
          have z1 := Int.emod_nonneg p (Int.ne_of_gt hpi)
          rw [Int.toNat_of_nonneg z1] at e3
          exact ⟨_, rfl, _, rfl, _, rfl, c, _, rfl, .inl hc1, _, _, rfl, rfl, hpi, c, _, _, _, rfl, rfl, hc1, e3, _, rfl, s1⟩
        · rintro σ H1 ⟨m, rfl, s1⟩
          have hc1 : SqL K H1 c (ns.map V.int) := seqL s1 hc0
          have ha1 := s1 _ _ ha
          refine ⟨fun σ H' => ∃ m : Int, σ = [some (.ref a), some (.int b), none, some (.int m), some (.ref c), some (.int p)] ∧ H' = H1, ?_, ?_⟩
          · refine ⟨_, rfl, _, rfl, c, _, rfl, .inl hc1, _, _, rfl, rfl, _, rfl, ite2 (fun _ => ?_) (fun _ => ?_)⟩
            · refine iteT ⟨_, rfl, .inl ⟨_, rfl, _, _, rfl, rfl, (show (0 : Int) < 982451629 by decide), _, rfl, _, _, rfl, fun k => ⟨k, rfl, rfl⟩⟩⟩
            · refine ⟨_, rfl, _, _, rfl, rfl, ⟨by decide, by decide, by decide⟩, _, _, rfl, rfl, _, rfl, ite2 (fun _ => ?_) (fun _ => ?_)⟩
              · exact ⟨_, rfl, .inl ⟨_, rfl, _, _, rfl, rfl, (show (0 : Int) < 982451629 by decide), _, rfl, _, _, rfl, fun k => ⟨k, rfl, rfl⟩⟩⟩
              · exact ⟨m, rfl, rfl⟩
          · rintro σ H2 ⟨m, rfl, rfl⟩
            refine ⟨_, rfl, _, _, rfl, rfl, _, rfl, a, _, _, 1, rfl, rfl, ha1, rfl, ?_⟩
            refine ⟨_, rfl, _, rfl, a, _, _, 2, rfl, rfl, upd_same, rfl, ?_⟩
            refine ⟨_, rfl, _, rfl, a, _, _, 3, rfl, rfl, upd_same, rfl, ?_⟩
            exact ⟨_, _, _, _, rfl, (((Sm.of s1).trans Sm.pot).trans Sm.pot).trans Sm.pot, _, _, _, upd_same⟩
      · exact ⟨_, _, _, _, rfl, Sm.refl, p, x, y, ha⟩
    · rintro σ H1 ⟨s2, s3, s4, s5, rfl, sm, p, x, y, ha1⟩
      have hb : (0 : Int) < b := by omega
      refine ⟨_, rfl, a, _, _, _, rfl, rfl, SqL.of ha1, atI_nat (j := 2) rfl, .inl ⟨_, rfl, _, rfl, _, _, rfl, rfl, hb, ?_⟩⟩
      refine ⟨_, rfl, a, _, _, _, rfl, rfl, SqL.of ha1, atI_nat (j := 2) rfl, _, rfl, _, _, rfl, rfl, ⟨hb, b2⟩, _, rfl, a, _, _, 2, rfl, rfl, ha1, rfl, ?_⟩
      refine ⟨_, rfl, a, _, _, _, rfl, rfl, SqL.of upd_same, atI_nat (j := 3) rfl, _, rfl, _, _, rfl, rfl, ⟨hb, b2⟩, _, rfl, a, _, _, 3, rfl, rfl, upd_same, rfl, ?_⟩
      have sm2 := (sm.trans Sm.pot).trans (Sm.pot (H := upd H1 a (.lst [.ref c, .int p, .int (x / b), .int y])) (o := .lst [.ref c, .int p, .int (x / b), .int (y / b)]))
      refine ⟨_, rfl, q _ _ sm2 (hp.to sm2 ⟨p, x / b, y / b, upd_same⟩) (Int.emod_nonneg x (by omega)) (Int.emod_lt_of_pos x hb)⟩
end
end K14

namespace K14
open PySem PySem.Spec PyProof.Rows L2 G Lk
section
variable {P : Program} {w : World} {K : PySem.W.Frag} {mg : Str → Option Value} {base : Heap}
def sp_Lcalls (K : PySem.W.Frag) : Sp := fun vs H Q _ => ∃ (v : V) (z f : Str) (ss : List PyData), vs = [v] ∧ Dq K H v (.tuple [.str z, .str f, .tuple ss]) ∧ StatesOk z ss ∧
  ∀ (H' : Hp) (l : Addr) (xs : List V), Same H H' → H l = none → H' l = some (.lst xs) → CallsAt H' xs (callsOf z ss.length) → Q (.ref l) H'
/-- def _law_calls(expander): -/
theorem ok_Lcalls (T : Tx K mg) : FnOk P w K mg base CX0 1 T.a__law_calls T.fd__law_calls ["expander"] (sp_Lcalls K) := by
  refine T.F__law_calls.ok sc_Lcalls (fun vs H Q E h => ?_) (fun cdv A outer s H vs Q E hr h => ?_)
  · obtain ⟨_, _, _, _, rfl, _⟩ := h
    rfl
  · refine ⟨_, (pss_cons (ps_set (i := 1) sc_Lcalls.nd rfl (by first | exact Or.inl rfl | exact Or.inr rfl) (pe_lst pa_nil))
    (pss_cons (ps_for PassesOwn.never rfl (pi_range1 (by rfl) T.z_range (pa_cons (pe_callB call_len_seq (by rfl) T.z_len PySem.boot_len (pa_cons (pe_ix ix_tup (pv 0) pe_int (fun _ _ => rfl)) pa_nil)) pa_nil)) (pg_name (i := 2) sc_Lcalls.nd rfl (by first | exact Or.inl rfl | exact Or.inr rfl))
      (pss_one (ps_set (i := 1) sc_Lcalls.nd rfl (by first | exact Or.inl rfl | exact Or.inr rfl) (pe_op op_cat (pv 1) (pe_lc (own := [("sign", 3)]) (g := gName 3) (by rfl) sc_Lcalls.nd (pi_str (pe_ix ix_tup (pv 0) pe_int (fun _ _ => rfl))) (blkOk_by (own := [("sign", 3)]) (N := N_Lcalls) (sc := defScope s_Lcalls) (by decide +kernel)) (fun _ _ _ _ _ => pg_name (i := 3) sc_Lcalls.nd rfl (by first | exact Or.inl rfl | exact Or.inr rfl)) (fun _ _ _ _ _ => pts_nil) (fun _ _ _ _ _ => (pe_tup (pa_cons (pv 2) (pa_cons (pv 3) pa_nil)))))))))
    (pss_one (ps_ret (pv 1))))), ?_⟩
    obtain ⟨v, z, f, ss, rfl, hd, ok, q⟩ := h
    obtain ⟨a, t, xs, rfl, h1, h2, h3⟩ := expV_of hd
    have hl := h3.length
    have hz4 := ok.1.small.2.1
    have h60 := ok.2.2.1
    have hz' : z.cps.size = z.length := rfl
    have el : z.cps.toList.length = z.length := by simp [Str.length]
    refine ⟨Nat.zero_le _, fun l nl => ?_⟩
    have s1 := same_new (o := .lst []) nl
    refine ⟨_, rfl, a, _, 2, _, rfl, rfl, seqT s1 h1, rfl, t, xs, rfl, .inr (seqT s1 h2), (xs.length : Nat), rfl, by omega, by omega, ?_⟩
    refine for_range (n := xs.length) (fun i σ H' => ∃ (l : Addr) (s2 : Option V) (ys : List V), σ = [some (.ref a), some (.ref l), s2, none] ∧ Same H H' ∧ H l = none ∧ H' l = some (.lst ys) ∧ CallsAt H' ys (callsOf z i)) ⟨l, none, [], rfl, s1, nl, upd_same, .nil⟩ ?_ ?_
    · rintro i σ H1 hi ⟨l, s2, ys, rfl, s3, nl, hy, hc⟩
      refine ⟨_, rfl, _, rfl, a, _, 0, _, rfl, rfl, seqT s3 h1, rfl, z, rfl, fun D nD => ?_⟩
      refine lc_it walk_str (fun j H' => Same H1 H' ∧ ∃ us, H' D = some (.lst us) ∧ CallsAt (off [D] H') us ((z.cps.toList.take j).map fun c => (i, c))) ⟨same_new nD, [], upd_same, .nil⟩ (fun _ _ _ _ => trivial) ?_ ?_
      · rintro j v H2 H3 hj ⟨s4, us, hu, hcu⟩ ⟨rfl, c, hcc, rfl⟩
        have hcl : z.cps.toList[j]? = some c := by simpa using hcc
        refine ⟨rfl, _, rfl, _, rfl, (by show 2 ≤ sizeLine; decide), fun p np => ?_⟩
        have s5 := same_new (o := .tup [.int (0 + ((i : Nat) : Int)), .str ⟨#[c]⟩]) np
        have nDp : D ≠ p := ne_of_none hu np
        refine ⟨us, (upd_ne nDp).trans hu, ?_, ?_⟩
        · rw [hcu.len, List.length_map, List.length_take]
          refine Nat.lt_of_le_of_lt (Nat.min_le_right _ _) (Nat.lt_of_le_of_lt (show z.cps.toList.length ≤ 4 by omega) (by decide))
        · have hp' : CallAt (upd H3 p (.tup [.int (0 + ((i : Nat) : Int)), .str ⟨#[c]⟩])) p (i, c) := by
            show upd H3 p (.tup [.int (0 + ((i : Nat) : Int)), .str ⟨#[c]⟩]) p = some (.tup [.int (i : Int), .str (Ls.one c)])
            rw [upd_same, Int.zero_add]
            rfl
          have hu5 : upd H3 p (.tup [.int (0 + ((i : Nat) : Int)), .str ⟨#[c]⟩]) D = some (.lst us) := (upd_ne nDp).trans hu
          revert s5 hp' hu5
          generalize upd H3 p (.tup [.int (0 + ((i : Nat) : Int)), .str ⟨#[c]⟩]) = H5
          intro s5 hp' hu5
          have kp : Keep [D] H5 (upd H5 D (.lst (us ++ [.ref p]))) := Keep.pot List.mem_cons_self
          refine ⟨fun b o e => (upd_ne (ne_of_none e nD)).trans (s5 _ _ (s4 b o e)), us ++ [.ref p], upd_same, ?_⟩
          rw [take_snoc hcl, List.map_append]
          exact ((hcu.mono (Keep.of s5)).mono kp).append (.cons (kp _ _ (off_of (fun z => nDp (List.mem_singleton.1 z).symm) hp')) .nil)
      · rintro H2 ⟨s4, us, hu, hcu⟩
        have hyl := s4 _ _ hy
        have ett : z.cps.toList.take z.cps.size = z.cps.toList := List.take_of_length_le (by simp)
        rw [ett] at hcu
        refine ⟨l, D, ys, us, rfl, rfl, hyl, hu, ?_, fun p np => ?_⟩
        · rw [hc.len, hcu.len, callsOf_len, List.length_map]
          have e2 : i * z.length ≤ 60 * 4 := Nat.mul_le_mul (by omega) hz4
          refine Nat.le_trans (show i * z.length + z.cps.toList.length ≤ 1000 by omega) (by decide)
        · have s5 := same_new (o := .lst (ys ++ us)) np
          have sA := Same.trans s4 s5
          refine ⟨p, _, _, rfl, Same.trans s3 sA, ?_, upd_same, ?_⟩
          · cases e : H p with
            | none => rfl
            | some o =>
              have := s4 _ _ (s3 _ _ e)
              rw [np] at this
              cases this
          · rw [callsOf_succ]
            exact (hc.mono sA).append (hcu.mono (Same.trans off_same s5))
    · rintro σ H1 ⟨l, s2, ys, rfl, s3, nl, hy, hc⟩
      refine ⟨_, rfl, q H1 l ys s3 nl hy ?_⟩
      rw [← hl]
      exact hc
end
end K14

namespace K14
open PySem PySem.Spec PyProof.Rows L2 G Lk
section
variable {P : Program} {w : World} {K : PySem.W.Frag} {mg : Str → Option Value} {base : Heap}
def sp_first_stand (K : PySem.W.Frag) : Sp := fun vs H Q _ => ∃ (v : V) (z f t : Str) (ss : List PyData), vs = [v, .str t] ∧ Dq K H v (.tuple [.str z, .str f, .tuple ss]) ∧
  ∀ H' r, Same H H' → Dq K H' r (standD (f, t, 0)) → Q r H'
/-- def _first_stand(expander, text): -/
theorem ok_first_stand (T : Tx K mg) : FnOk P w K mg base CX0 1 T.a__first_stand T.fd__first_stand ["expander", "text"] (sp_first_stand K) := by
  refine T.F__first_stand.ok sc_first_stand (fun vs H Q E h => ?_) (fun cdv A outer s H vs Q E hr h => ?_)
  · obtain ⟨_, _, _, _, _, rfl, _⟩ := h
    rfl
  · refine ⟨_, (pss_one (ps_ret (pe_tup (pa_cons (pe_ix ix_tup (pv 0) pe_int (fun _ _ => rfl)) (pa_cons (pv 1) (pa_cons pe_int pa_nil)))))), ?_⟩
    obtain ⟨v, z, f, t, ss, rfl, hv, q⟩ := h
    obtain ⟨a, t', xs, rfl, ht, hts, hA⟩ := expV_of hv
    refine ⟨_, rfl, a, _, _, _, rfl, rfl, ht, rfl, _, rfl, (by show 3 ≤ sizeLine; decide), fun p np => ?_⟩
    exact q _ _ (same_new np) (.tup (SqT.of upd_same) (.cons (.str _) (.cons (.str _) (.cons (.int _) .nil))))
end
end K14

namespace K14
open PySem PySem.Spec PyProof.Rows L2 G Lk
section
variable {P : Program} {w : World} {K : PySem.W.Frag} {mg : Str → Option Value} {base : Heap}
/-- is_word of a text and data -/
def sp_is_word (K : PySem.W.Frag) : Sp := fun vs H Q _ => ∃ (s : Str) (v : V) (d : PyData), vs = [.str s, v] ∧ Dq K H v d ∧ (∀ z, d = .str z → z.length ≤ sizeLine) ∧ Q (.bl (isWord s d)) H
/-- def is_word(signs, thing): -/
theorem ok_is_word (T : Tx K mg) : FnOk P w K mg base CX0 1 T.a_is_word T.fd_is_word ["signs", "thing"] (sp_is_word K) := by
  refine T.F_is_word.ok sc_is_word (fun vs H Q E h => ?_) (fun cdv A outer s H vs Q E hr h => ?_)
  · obtain ⟨_, _, _, rfl, _⟩ := h
    rfl
  · refine ⟨_, (pss_one (ps_ret (pe_and (pe_callB call_isi (by rfl) T.z_isinstance (by decide +kernel) (pa_cons (pv 1) (pa_cons (pe_bltn (v := .ty "str") (by rfl) T.z_str (by decide +kernel) rfl) pa_nil))) (pe_one (pe_cmpR op_eq (pe_bm PySem.F.plainAttrs_str PySem.F.slot_str_strip PySem.F.type_str_strip mt_stripChars (pv 1) (pa_cons (pv 0) pa_nil)) pe_str (nomark _)))))), ?_⟩
    obtain ⟨s, v, d, rfl, hd, hz, q⟩ := h
    refine ⟨v, rfl, v, .ty "str", _, _, _, rfl, .ty "str", hd.ty, kStr d, _, rfl, ?_⟩
    cases hd with
    | str z =>
      refine iteT ⟨.str z, rfl, rfl, .str s, rfl, z, s, rfl, rfl, hz z rfl, ?_⟩
      refine ⟨rfl, ?_⟩
      show Q (.bl (decide (V.str (Txt.stripChars z s) = V.str (tx [])))) H
      rw [strip_none]
      exact q
    | non => exact iteF q
    | bl b => exact iteF q
    | int i => exact iteF q
    | lst _ _ => exact iteF q
    | tup _ _ => exact iteF q
    | emp _ => exact iteF q
end
end K14

namespace K14
open PySem PySem.Spec PyProof.Rows L2 G Lk
section
variable {P : Program} {w : World} {K : PySem.W.Frag} {mg : Str → Option Value} {base : Heap}
def sp_are_signs (K : PySem.W.Frag) : Sp := fun vs H Q _ => ∃ (v : V) (d : PyData), vs = [v] ∧ Dq K H v d ∧ Light d ∧ ∀ H', Same H H' → Q (.bl (signsB d)) H'
/-- def _are_signs(thing): -/
theorem ok_are_signs (T : Tx K mg) : FnOk P w K mg base CX0 2 T.a__are_signs T.fd__are_signs ["thing"] (sp_are_signs K) := by
  refine T.F__are_signs.ok sc_are_signs (fun vs H Q E h => ?_) (fun cdv A outer s H vs Q E hr h => ?_)
  · obtain ⟨_, _, rfl, _⟩ := h
    rfl
  · refine ⟨_, (pss_cons (ps_if (PW.pt (pw_or (pt_not (pt_val (pe_call (ok_is_word T) (hr.mono (by decide)) (by rfl) T.g_is_word T.F_is_word.kp T.b_is_word .nil pass0 (pa_cons (pe_glob (v := .str "abcdefghijklmnopqrstuvwxyz") (by rfl) T.m_LETTERS ⟨_, rfl⟩) (pa_cons (pv 0) pa_nil))))) (pw_or1 (pt_not (pt_chain op_le op_le pe_int (pe_callB call_len_str (by rfl) T.z_len PySem.boot_len (pa_cons (pv 0) pa_nil)) (pe_glob (v := .int 4) (by rfl) T.m_MOST_SIGNS ⟨_, rfl⟩))))))
      (pss_one (ps_ret pe_bl))
      pss_nil)
    (pss_one (ps_ret (pe_cmpR (op_eqD hr.units) (pe_callTy (call_list_ofS rfl) (by rfl) T.z_list (by decide +kernel) (pa_cons (pv 0) pa_nil)) (pe_callB (Ls.cr_sortedT rfl) (by rfl) T.z_sorted (by decide +kernel) (pa_cons (pe_callTy (Ls.cr_setT rfl) (by rfl) T.z_set (by decide +kernel) (pa_cons (pv 0) pa_nil)) pa_nil)) (nomark _))))), ?_⟩
    obtain ⟨v, d, rfl, hd, hz, q⟩ := h
    refine ⟨v, rfl, "abcdefghijklmnopqrstuvwxyz", v, d, rfl, hd, (fun z e => light_str (e ▸ hz)), _, rfl, ?_⟩
    have no : signsB d = false → Q (.bl false) H := fun e => by
      have q := q H (Same.refl H)
      rw [e] at q
      exact q
    cases hd with
    | str z =>
      have q : ∀ H', Same H H' → Q (.bl (allIn "abcdefghijklmnopqrstuvwxyz" z && ((decide (1 ≤ z.length) && decide (z.length ≤ 4)) && Ls.ascB z))) H' := q
      show if (!allIn "abcdefghijklmnopqrstuvwxyz" z) = true then _ else _
      cases e : allIn "abcdefghijklmnopqrstuvwxyz" z with
      | false =>
        rw [e] at q
        exact iteT (iteT (q H (Same.refl H)))
      | true =>
        rw [e, tt_and] at q
        refine iteF ⟨_, rfl, z, rfl, light_str hz, 1, _, rfl, rfl, _, rfl, ?_⟩
        by_cases e1 : 1 ≤ z.length
        · rw [decide_eq_true e1, tt_and] at q
          rw [decide_eq_true (show (1 : Int) ≤ ((z.length : Nat) : Int) by omega)]
          refine iteT ⟨_, _, rfl, rfl, _, rfl, ?_⟩
          by_cases e2 : z.length ≤ 4
          · rw [decide_eq_true e2, tt_and] at q
            rw [decide_eq_true (show ((z.length : Nat) : Int) ≤ 4 by omega)]
            refine iteF ⟨_, rfl, z, rfl, light_str hz, fun l nl => ?_⟩
            have s1 := same_new (o := .lst (sg z)) nl
            refine ⟨_, rfl, z, rfl, (by have : z.cps.size = z.length := rfl; omega), fun S nS => ?_⟩
            have s2 := same_new (o := Ls.SetS w S (Ls.signsT z)) nS
            refine ⟨S, z, rfl, upd_same, (by have : z.cps.size = z.length := rfl; omega), fun cs p iff mem lc np => ?_⟩
            have s3 := same_new (o := .lst ((cs.map Ls.one).map V.str)) np
            have small : ∀ c ∈ z.cps.toList, c < 1000 := small_letters e
            refine ⟨.list ((z.cps.toList.map Ls.one).map PyData.str), .list ((cs.map Ls.one).map PyData.str), .lst (SqL.of (s3 _ _ (s2 _ _ ?_))) (dq_strs _), .lst (SqL.of upd_same) (dq_strs _), shaped_ones _ small, shaped_ones _ fun c hc => small c (mem c hc), ?_⟩
            · rw [upd_same, sg_ones]
            · rw [eqv_strs, asc_eq iff]
              exact q _ (Same.trans s1 (Same.trans s2 s3))
          · rw [decide_eq_false e2, ff_and] at q
            rw [decide_eq_false (show ¬ ((z.length : Nat) : Int) ≤ 4 by omega)]
            exact iteT (q H (Same.refl H))
        · rw [decide_eq_false e1, ff_and, ff_and] at q
          rw [decide_eq_false (show ¬ (1 : Int) ≤ ((z.length : Nat) : Int) by omega)]
          exact iteF ⟨_, rfl, iteT (q H (Same.refl H))⟩
    | non => exact iteT (iteT (no rfl))
    | bl b => exact iteT (iteT (no rfl))
    | int i => exact iteT (iteT (no rfl))
    | lst _ _ => exact iteT (iteT (no rfl))
    | tup _ _ => exact iteT (iteT (no rfl))
    | emp _ => exact iteT (iteT (no rfl))
end
end K14

namespace K14
open PySem PySem.Spec PyProof.Rows L2 G Lk
section
variable {P : Program} {w : World} {K : PySem.W.Frag} {mg : Str → Option Value} {base : Heap}
/-- an integer -/
def wholeB : PyData → Bool
  | .int _ => true
  | _ => false
def sp_is_whole (K : PySem.W.Frag) : Sp := fun vs H Q _ => ∃ (v : V) (d : PyData), vs = [v] ∧ Dq K H v d ∧ Q (.bl (wholeB d)) H
/-- def is_whole(thing): -/
theorem ok_is_whole (T : Tx K mg) : FnOk P w K mg base CX0 1 T.a_is_whole T.fd_is_whole ["thing"] (sp_is_whole K) := by
  refine T.F_is_whole.ok sc_is_whole (fun vs H Q E h => ?_) (fun cdv A outer s H vs Q E hr h => ?_)
  · obtain ⟨_, _, rfl, _⟩ := h
    rfl
  · refine ⟨_, (pss_one (ps_ret (pe_and (pe_callB call_isi (by rfl) T.z_isinstance (by decide +kernel) (pa_cons (pv 0) (pa_cons (pe_bltn (v := .ty "int") (by rfl) T.z_int (by decide +kernel) rfl) pa_nil))) (pe_one (pe_not (pe_callB call_isi (by rfl) T.z_isinstance (by decide +kernel) (pa_cons (pv 0) (pa_cons (pe_bltn (v := .ty "bool") (by rfl) T.z_bool (by decide +kernel) rfl) pa_nil)))))))), ?_⟩
    obtain ⟨v, d, rfl, hd, q⟩ := h
    refine ⟨v, rfl, v, .ty "int", _, _, _, rfl, .ty "int", hd.ty, kInt d, _, rfl, ?_⟩
    cases hd with
    | int i => exact iteT ⟨.int i, rfl, .int i, .ty "bool", _, _, _, rfl, .ty "bool", .base (.int i), kBool (.int i), _, rfl, q⟩
    | bl b => exact iteT ⟨.bl b, rfl, .bl b, .ty "bool", _, _, _, rfl, .ty "bool", .base (.bl b), kBool (.bool b), _, rfl, q⟩
    | non => exact iteF q
    | str z => exact iteF q
    | lst _ _ => exact iteF q
    | tup _ _ => exact iteF q
    | emp _ => exact iteF q
end
end K14

namespace K14
open PySem PySem.Spec PyProof.Rows L2 G Lk
section
variable {P : Program} {w : World} {K : PySem.W.Frag} {mg : Str → Option Value} {base : Heap}
def sp_is_number (K : PySem.W.Frag) : Sp := fun vs H Q _ => ∃ (n : Int) (v : V) (d : PyData), vs = [.int n, v] ∧ Dq K H v d ∧ Q (.bl (countB n d)) H
/-- def is_number(many, thing): -/
theorem ok_is_number (T : Tx K mg) : FnOk P w K mg base CX0 2 T.a_is_number T.fd_is_number ["many", "thing"] (sp_is_number K) := by
  refine T.F_is_number.ok sc_is_number (fun vs H Q E h => ?_) (fun cdv A outer s H vs Q E hr h => ?_)
  · obtain ⟨_, _, _, rfl, _⟩ := h
    rfl
  · refine ⟨_, (pss_one (ps_ret (pe_and (pe_call (ok_is_whole T) (hr.mono (by decide)) (by rfl) T.g_is_whole T.F_is_whole.kp T.b_is_whole .nil pass0 (pa_cons (pv 1) pa_nil)) (pe_one (pe_chain op_le op_lt pe_int (pv 1) (pv 0)))))), ?_⟩
    obtain ⟨n, v, d, rfl, hd, q⟩ := h
    refine ⟨_, rfl, v, d, rfl, hd, _, rfl, ?_⟩
    cases hd with
    | int i =>
      have q : Q (.bl (decide (0 ≤ i) && decide (i < n))) H := q
      refine iteT ⟨_, rfl, 0, i, rfl, rfl, _, rfl, ?_⟩
      cases e : decide (0 ≤ i) with
      | false =>
        rw [e] at q
        exact iteF q
      | true =>
        rw [e] at q
        exact iteT ⟨_, rfl, i, n, rfl, rfl, q⟩
    | bl b => exact iteF q
    | non => exact iteF q
    | str z => exact iteF q
    | lst _ _ => exact iteF q
    | tup _ _ => exact iteF q
    | emp _ => exact iteF q
end
end K14

namespace K14
open PySem PySem.Spec PyProof.Rows L2 G Lk
section
variable {P : Program} {w : World} {K : PySem.W.Frag} {mg : Str → Option Value} {base : Heap}
def sp_is_short_word (K : PySem.W.Frag) : Sp := fun vs H Q _ => ∃ (s : Str) (v : V) (d : PyData), vs = [.str s, v] ∧ Dq K H v d ∧ Light d ∧ Q (.bl (shortB s d)) H
/-- def _is_short_word(signs, thing): -/
theorem ok_is_short_word (T : Tx K mg) : FnOk P w K mg base CX0 2 T.a__is_short_word T.fd__is_short_word ["signs", "thing"] (sp_is_short_word K) := by
  refine T.F__is_short_word.ok sc_is_short_word (fun vs H Q E h => ?_) (fun cdv A outer s H vs Q E hr h => ?_)
  · obtain ⟨_, _, _, rfl, _⟩ := h
    rfl
  · refine ⟨_, (pss_one (ps_ret (pe_and (pe_call (ok_is_word T) (hr.mono (by decide)) (by rfl) T.g_is_word T.F_is_word.kp T.b_is_word .nil pass0 (pa_cons (pv 0) (pa_cons (pv 1) pa_nil))) (pe_one (pe_cmpR op_le (pe_callB call_len_str (by rfl) T.z_len PySem.boot_len (pa_cons (pv 1) pa_nil)) (pe_glob (v := .int 2000) (by rfl) T.m_MOST_WORD ⟨_, rfl⟩) (nomark _)))))), ?_⟩
    obtain ⟨s, v, d, rfl, hd, hz, q⟩ := h
    refine ⟨.str s, rfl, v, rfl, s, v, d, rfl, hd, (fun z e => light_str (e ▸ hz)), _, rfl, ?_⟩
    cases hd with
    | str z =>
      have q : Q (.bl (allIn s z && decide (z.length ≤ 2000))) H := q
      show if allIn s z = true then _ else _
      cases e : allIn s z with
      | false =>
        rw [e] at q
        exact iteF q
      | true =>
        rw [e] at q
        refine iteT ⟨.str z, rfl, z, rfl, light_str hz, _, _, rfl, rfl, ?_⟩
        have e2 : decide (((z.length : Nat) : Int) ≤ 2000) = (true && decide (z.length ≤ 2000)) := by
          rw [Bool.true_and]
          exact decide_eq_decide.mpr ⟨fun x => by omega, fun x => by omega⟩
        show Q (.bl (decide (((z.length : Nat) : Int) ≤ 2000))) H
        rw [e2]
        exact q
    | non => exact iteF q
    | bl b => exact iteF q
    | int i => exact iteF q
    | lst _ _ => exact iteF q
    | tup _ _ => exact iteF q
    | emp _ => exact iteF q
end
end K14

namespace K14
open PySem PySem.Spec PyProof.Rows L2 G Lk
section
variable {P : Program} {w : World} {K : PySem.W.Frag} {mg : Str → Option Value} {base : Heap}
def sp_is_move (K : PySem.W.Frag) : Sp := fun vs H Q _ => ∃ (s : Str) (n : Int) (v : V) (d : PyData), vs = [.str s, .int n, v] ∧ Dq K H v d ∧ Light d ∧ Q (.bl (moveB s n d)) H
/-- def _is_move(signs, many, thing): -/
theorem ok_is_move (T : Tx K mg) : FnOk P w K mg base CX0 3 T.a__is_move T.fd__is_move ["signs", "many", "thing"] (sp_is_move K) := by
  refine T.F__is_move.ok sc_is_move (fun vs H Q E h => ?_) (fun cdv A outer s H vs Q E hr h => ?_)
  · obtain ⟨_, _, _, _, rfl, _⟩ := h
    rfl
  · refine ⟨_, (pss_cons (ps_if (PW.pt (pw_or (pt_not (pt_val (pe_callB call_isi (by rfl) T.z_isinstance (by decide +kernel) (pa_cons (pv 2) (pa_cons (pe_bltn (v := .ty "tuple") (by rfl) T.z_tuple (by decide +kernel) rfl) pa_nil))))) (pw_or1 (pt_cmpR op_ne (pe_callB call_len_seq (by rfl) T.z_len PySem.boot_len (pa_cons (pv 2) pa_nil)) pe_int (nomark _)))))
      (pss_one (ps_ret pe_bl))
      pss_nil)
    (pss_cons (ps_asg (pv 2) (pg_tup rfl (pgs_cons (pg_name (i := 3) sc_is_move.nd rfl (by first | exact Or.inl rfl | exact Or.inr rfl)) (pgs_cons (pg_name (i := 4) sc_is_move.nd rfl (by first | exact Or.inl rfl | exact Or.inr rfl)) (pgs_cons (pg_name (i := 5) sc_is_move.nd rfl (by first | exact Or.inl rfl | exact Or.inr rfl)) pgs_nil)))))
    (pss_cons (ps_if (PW.pt (pw_or (pt_not (pt_val (pe_call (ok_is_short_word T) (hr.mono (by decide)) (by rfl) T.g__is_short_word T.F__is_short_word.kp T.b__is_short_word .nil pass0 (pa_cons (pv 0) (pa_cons (pv 3) pa_nil))))) (pw_or1 (pt_not (pt_val (pe_call (ok_is_short_word T) (hr.mono (by decide)) (by rfl) T.g__is_short_word T.F__is_short_word.kp T.b__is_short_word .nil pass0 (pa_cons (pv 0) (pa_cons (pv 4) pa_nil))))))))
      (pss_one (ps_ret pe_bl))
      pss_nil)
    (pss_one (ps_ret (pe_call (ok_is_number T) (hr.mono (by decide)) (by rfl) T.g_is_number T.F_is_number.kp T.b_is_number .nil pass0 (pa_cons (pv 1) (pa_cons (pv 5) pa_nil)))))))), ?_⟩
    obtain ⟨s, n, v, d, rfl, hd, hz, q⟩ := h
    refine ⟨v, rfl, v, .ty "tuple", _, _, _, rfl, .ty "tuple", hd.ty, kTup d, _, rfl, ?_⟩
    cases e : isTup d with
    | false =>
      rw [moveB_tup e] at q
      exact iteT (iteT q)
    | true =>
      obtain ⟨a, xs, ds, rfl, rfl, ht, ha⟩ := dq_tup hd e
      refine iteF ⟨_, rfl, a, xs, rfl, .inr ht, rfl, _, rfl, ?_⟩
      rw [Lk.ne_int]
      by_cases hl : xs.length = 3
      · rw [decide_eq_true (show ((xs.length : Nat) : Int) = 3 by omega)]
        refine iteF ?_
        obtain ⟨x, y, z, d1, d2, d3, rfl, rfl, h1, h2, h3⟩ := ha.three hl
        have hw := light_tup hz
        refine ⟨_, rfl, a, _, rfl, ht, rfl, x, _, rfl, y, _, rfl, z, _, rfl, rfl, ?_⟩
        refine ⟨_, rfl, x, rfl, s, x, d1, rfl, h1, hw d1 (by simp), _, rfl, ?_⟩
        have q : Q (.bl (shortB s d1 && (shortB s d2 && countB n d3))) H := q
        cases e1 : shortB s d1 with
        | false =>
          rw [e1] at q
          exact iteT (iteT q)
        | true =>
          rw [e1] at q
          refine iteF ⟨_, rfl, y, rfl, s, y, d2, rfl, h2, hw d2 (by simp), _, rfl, ?_⟩
          cases e2 : shortB s d2 with
          | false =>
            rw [e2] at q
            exact iteT q
          | true =>
            rw [e2] at q
            exact iteF ⟨_, rfl, z, rfl, n, z, d3, rfl, h3, q⟩
      · rw [decide_eq_false (show ¬ ((xs.length : Nat) : Int) = 3 by omega)]
        rw [moveB_len (fun z => hl (ha.length.trans z))] at q
        exact iteT q
end
end K14

namespace K14
open PySem PySem.Spec PyProof.Rows L2 G Lk
section
variable {P : Program} {w : World} {K : PySem.W.Frag} {mg : Str → Option Value} {base : Heap}
def sp_is_state (K : PySem.W.Frag) : Sp := fun vs H Q _ => ∃ (s : Str) (n : Int) (v : V) (d : PyData), vs = [.str s, .int n, v] ∧ Dq K H v d ∧ Light d ∧ s.length ≤ 4 ∧ ∀ H', Same H H' → Q (.bl (stateB s n d)) H'
/-- def _is_state(signs, many, thing): -/
theorem ok_is_state (T : Tx K mg) : FnOk P w K mg base CX0 4 T.a__is_state T.fd__is_state ["signs", "many", "thing"] (sp_is_state K) := by
  refine T.F__is_state.ok sc_is_state (fun vs H Q E h => ?_) (fun cdv A outer s H vs Q E hr h => ?_)
  · obtain ⟨_, _, _, _, rfl, _⟩ := h
    rfl
  · refine ⟨_, (pss_cons (ps_if (PW.pt (pw_or (pt_not (pt_val (pe_callB call_isi (by rfl) T.z_isinstance (by decide +kernel) (pa_cons (pv 2) (pa_cons (pe_bltn (v := .ty "tuple") (by rfl) T.z_tuple (by decide +kernel) rfl) pa_nil))))) (pw_or1 (pt_cmpR op_ne (pe_callB call_len_seq (by rfl) T.z_len PySem.boot_len (pa_cons (pv 2) pa_nil)) pe_int (nomark _)))))
      (pss_one (ps_ret pe_bl))
      pss_nil)
    (pss_cons (ps_asg (pv 2) (pg_tup rfl (pgs_cons (pg_name (i := 3) sc_is_state.nd rfl (by first | exact Or.inl rfl | exact Or.inr rfl)) (pgs_cons (pg_name (i := 4) sc_is_state.nd rfl (by first | exact Or.inl rfl | exact Or.inr rfl)) pgs_nil))))
    (pss_cons (ps_if (PW.pt (pw_or (pt_not (pt_val (pe_callB call_isi (by rfl) T.z_isinstance (by decide +kernel) (pa_cons (pv 3) (pa_cons (pe_bltn (v := .ty "tuple") (by rfl) T.z_tuple (by decide +kernel) rfl) pa_nil))))) (pw_or1 (pt_cmpR op_ne (pe_callB call_len_seq (by rfl) T.z_len PySem.boot_len (pa_cons (pv 3) pa_nil)) (pe_callB call_len_str (by rfl) T.z_len PySem.boot_len (pa_cons (pv 0) pa_nil)) (nomark _)))))
      (pss_one (ps_ret pe_bl))
      pss_nil)
    (pss_cons (ps_if (PW.pt (pw_and (pt_cmpR op_notN (pv 4) pe_non (nomark _)) (pw_and1 (pt_not (pt_val (pe_call (ok_is_short_word T) (hr.mono (by decide)) (by rfl) T.g__is_short_word T.F__is_short_word.kp T.b__is_short_word .nil pass0 (pa_cons (pv 0) (pa_cons (pv 4) pa_nil))))))))
      (pss_one (ps_ret pe_bl))
      pss_nil)
    (pss_one (ps_ret (pe_callB (cr_all rfl) (by rfl) T.z_all (by decide +kernel) (pa_cons (pe_lc (own := [("move", 5)]) (g := gName 5) (by rfl) sc_is_state.nd (pi_tup (pv 3)) (blkOk_by (own := [("move", 5)]) (N := N_is_state) (sc := defScope s_is_state) (by decide +kernel)) (fun _ _ _ _ _ => pg_name (i := 5) sc_is_state.nd rfl (by first | exact Or.inl rfl | exact Or.inr rfl)) (fun _ _ _ _ _ => pts_nil) (fun _ _ _ _ _ => (pe_or (pe_cmpR op_isN (pv 5) pe_non (nomark _)) (pe_one (pe_call (ok_is_move T) (hr.mono (by decide)) (by rfl) T.g__is_move T.F__is_move.kp T.b__is_move .nil pass0 (pa_cons (pv 0) (pa_cons (pv 1) (pa_cons (pv 5) pa_nil)))))))) pa_nil)))))))), ?_⟩
    obtain ⟨s, n, v, d, rfl, hd, hz, hs4, q⟩ := h
    refine ⟨v, rfl, v, .ty "tuple", _, _, _, rfl, .ty "tuple", hd.ty, kTup d, _, rfl, ?_⟩
    cases e : isTup d with
    | false =>
      rw [stateB_tup e] at q
      exact iteT (iteT (q H (Same.refl H)))
    | true =>
      obtain ⟨a, xs, ds, rfl, rfl, ht, ha⟩ := dq_tup hd e
      refine iteF ⟨_, rfl, a, xs, rfl, .inr ht, rfl, _, rfl, ?_⟩
      rw [Lk.ne_int]
      by_cases hl : xs.length = 2
      · rw [decide_eq_true (show ((xs.length : Nat) : Int) = 2 by omega)]
        refine iteF ?_
        obtain ⟨x, y, d1, d2, rfl, rfl, h1, h2⟩ := ha.two hl
        have hw := light_tup hz
        refine ⟨_, rfl, a, _, rfl, ht, rfl, x, _, rfl, y, _, rfl, rfl, ?_⟩
        refine ⟨x, rfl, x, .ty "tuple", _, _, _, rfl, .ty "tuple", h1.ty, kTup d1, _, rfl, ?_⟩
        cases e1 : isTup d1 with
        | false =>
          rw [stateB_first e1] at q
          exact iteT (iteT (q H (Same.refl H)))
        | true =>
          obtain ⟨a1, ms, es, rfl, rfl, ht1, ha1⟩ := dq_tup h1 e1
          have hw1 := hw _ (List.mem_cons_self ..)
          refine iteF ⟨_, rfl, a1, ms, rfl, .inr ht1, _, rfl, s, rfl, Nat.le_trans hs4 (by decide), rfl, _, rfl, ?_⟩
          rw [Lk.ne_int]
          have q : ∀ H', Same H H' → Q (.bl (decide (es.length = s.length) && ((isNone d2 || shortB s d2) && es.all fun m => isNone m || moveB s n m))) H' := q
          by_cases hl1 : ms.length = s.length
          · rw [decide_eq_true (show ((ms.length : Nat) : Int) = ((s.length : Nat) : Int) by omega)]
            rw [decide_eq_true (show es.length = s.length from ha1.length.symm.trans hl1)] at q
            refine iteF ?_
            rw [tt_and] at q
            refine ⟨y, rfl, rfl, _, rfl, ?_⟩
            rw [isNone_non h2]
            cases e3 : isNone d2 || shortB s d2 with
            | false =>
              rw [e3, ff_and] at q
              obtain ⟨e4, e5⟩ := Bool.or_eq_false_iff.mp e3
              rw [e4]
              refine iteT ⟨_, rfl, y, rfl, s, y, d2, rfl, h2, hw d2 (by simp), _, rfl, ?_⟩
              rw [e5]
              exact iteT (q H (Same.refl H))
            | true =>
              rw [e3, tt_and] at q
              refine two_ways ?_ (fun ec rest => ⟨_, rfl, y, rfl, s, y, d2, rfl, h2, hw d2 (by simp), _, rfl, ?_⟩)
              · refine ⟨_, rfl, a1, rfl, ⟨_, ht1⟩, fun D nD => ?_⟩
                refine lc_bools (fun m => isNone m || moveB s n m) ht1 ha1 nD (by omega) (fun x d H1 Nxt Els s1 hx hm k => ?_) (fun H1 s1 hD => ?_)
                · refine ⟨rfl, x, rfl, rfl, _, rfl, ?_⟩
                  rw [isNone_non hx]
                  have k := k H1 (Same.refl H1)
                  cases e4 : isNone d with
                  | true =>
                    rw [e4] at k
                    exact iteT k
                  | false =>
                    rw [e4] at k
                    exact iteF ⟨_, rfl, _, rfl, x, rfl, s, n, x, d, rfl, hx, light_tup hw1 d hm, k⟩
                · refine ⟨D, _, rfl, SqL.of hD, ?_⟩
                  have ea : (es.map fun m => isNone m || moveB s n m).all id = es.all fun m => isNone m || moveB s n m := by
                    rw [List.all_map]
                    rfl
                  rw [ea]
                  exact q H1 s1
              · have e4 : isNone d2 = false := by
                  cases z : isNone d2 with
                  | false => rfl
                  | true =>
                    rw [z] at ec
                    cases ec
                rw [e4, ff_or] at e3
                rw [e3]
                exact iteF rest
          · rw [decide_eq_false (show ¬ ((ms.length : Nat) : Int) = ((s.length : Nat) : Int) by omega)]
            rw [decide_eq_false (show ¬ es.length = s.length from fun z => hl1 (ha1.length.trans z))] at q
            exact iteT (q H (Same.refl H))
      · rw [decide_eq_false (show ¬ ((xs.length : Nat) : Int) = 2 by omega)]
        rw [stateB_len (fun z => hl (ha.length.trans z))] at q
        exact iteT (q H (Same.refl H))
end
end K14

namespace K14
open PySem PySem.Spec PyProof.Rows L2 G Lk
section
variable {P : Program} {w : World} {K : PySem.W.Frag} {mg : Str → Option Value} {base : Heap}
def sp_are_states (K : PySem.W.Frag) : Sp := fun vs H Q _ => ∃ (s : Str) (v : V) (d : PyData), vs = [.str s, v] ∧ Dq K H v d ∧ Light d ∧ s.length ≤ 4 ∧ ∀ H', Same H H' → Q (.bl (statesB s d)) H'
/-- def _are_states(signs, thing): -/
theorem ok_are_states (T : Tx K mg) : FnOk P w K mg base CX0 5 T.a__are_states T.fd__are_states ["signs", "thing"] (sp_are_states K) := by
  refine T.F__are_states.ok sc_are_states (fun vs H Q E h => ?_) (fun cdv A outer s H vs Q E hr h => ?_)
  · obtain ⟨_, _, _, rfl, _⟩ := h
    rfl
  · refine ⟨_, (pss_cons (ps_if (PW.pt (pw_or (pt_not (pt_val (pe_callB call_isi (by rfl) T.z_isinstance (by decide +kernel) (pa_cons (pv 1) (pa_cons (pe_bltn (v := .ty "tuple") (by rfl) T.z_tuple (by decide +kernel) rfl) pa_nil))))) (pw_or1 (pt_not (pt_chain op_le op_le pe_int (pe_callB call_len_seq (by rfl) T.z_len PySem.boot_len (pa_cons (pv 1) pa_nil)) (pe_glob (v := .int 60) (by rfl) T.m_MOST_STATES ⟨_, rfl⟩))))))
      (pss_one (ps_ret pe_bl))
      pss_nil)
    (pss_one (ps_ret (pe_callB (cr_all rfl) (by rfl) T.z_all (by decide +kernel) (pa_cons (pe_lc (own := [("state", 2)]) (g := gName 2) (by rfl) sc_are_states.nd (pi_tup (pv 1)) (blkOk_by (own := [("state", 2)]) (N := N_are_states) (sc := defScope s_are_states) (by decide +kernel)) (fun _ _ _ _ _ => pg_name (i := 2) sc_are_states.nd rfl (by first | exact Or.inl rfl | exact Or.inr rfl)) (fun _ _ _ _ _ => pts_nil) (fun _ _ _ _ _ => (pe_call (ok_is_state T) (hr.mono (by decide)) (by rfl) T.g__is_state T.F__is_state.kp T.b__is_state .nil pass0 (pa_cons (pv 0) (pa_cons (pe_callB (call_len_seq : CallR _ _ (rLenSeq K)) (by rfl) T.z_len PySem.boot_len (pa_cons (pv 1) pa_nil)) (pa_cons (pv 2) pa_nil)))))) pa_nil))))), ?_⟩
    obtain ⟨s, v, d, rfl, hd, hz, hs4, q⟩ := h
    refine ⟨v, rfl, v, .ty "tuple", _, _, _, rfl, .ty "tuple", hd.ty, kTup d, _, rfl, ?_⟩
    cases e : isTup d with
    | false =>
      rw [statesB_tup e] at q
      exact iteT (iteT (q H (Same.refl H)))
    | true =>
      obtain ⟨a, xs, ds, rfl, rfl, ht, ha⟩ := dq_tup hd e
      have q : ∀ H', Same H H' → Q (.bl ((decide (1 ≤ ds.length) && decide (ds.length ≤ 60)) && ds.all (stateB s (ds.length : Nat)))) H' := q
      have hl := ha.length
      refine iteF ⟨_, rfl, a, xs, rfl, .inr ht, 1, _, rfl, rfl, _, rfl, ?_⟩
      by_cases e1 : 1 ≤ ds.length
      · rw [decide_eq_true e1, tt_and] at q
        rw [decide_eq_true (show (1 : Int) ≤ ((xs.length : Nat) : Int) by omega)]
        refine iteT ⟨_, _, rfl, rfl, _, rfl, ?_⟩
        by_cases e2 : ds.length ≤ 60
        · rw [decide_eq_true e2, tt_and] at q
          rw [decide_eq_true (show ((xs.length : Nat) : Int) ≤ 60 by omega)]
          refine iteF ⟨_, rfl, a, rfl, ⟨_, ht⟩, fun D nD => ?_⟩
          refine lc_bools (stateB s (ds.length : Nat)) ht ha nD (by omega) (fun x d H1 Nxt Els s1 hx hm k => ?_) (fun H1 s1 hD => ?_)
          · refine ⟨rfl, _, rfl, _, rfl, a, xs, rfl, .inr (seqT s1 ht), x, rfl, s, _, x, d, ?_, hx, light_tup hz d hm, hs4, k⟩
            rw [hl] <;> rfl
          · refine ⟨D, _, rfl, SqL.of hD, ?_⟩
            have ea : (ds.map (stateB s (ds.length : Nat))).all id = ds.all (stateB s (ds.length : Nat)) := by
              rw [List.all_map]
              rfl
            rw [ea]
            exact q H1 s1
        · rw [decide_eq_false e2, ff_and] at q
          rw [decide_eq_false (show ¬ ((xs.length : Nat) : Int) ≤ 60 by omega)]
          exact iteT (q H (Same.refl H))
      · rw [decide_eq_false e1, ff_and, ff_and] at q
        rw [decide_eq_false (show ¬ (1 : Int) ≤ ((xs.length : Nat) : Int) by omega)]
        exact iteF ⟨_, rfl, iteT (q H (Same.refl H))⟩
end
end K14

namespace K14
open PySem PySem.Spec PyProof.Rows L2 G Lk
section
variable {P : Program} {w : World} {K : PySem.W.Frag} {mg : Str → Option Value} {base : Heap}
def sp_is_expander (K : PySem.W.Frag) : Sp := fun vs H Q _ => ∃ (v : V) (d : PyData), vs = [v] ∧ Dq K H v d ∧ Light d ∧ ∀ H', Same H H' → Q (.bl (expB d)) H'
/-- def is_expander(thing): -/
theorem ok_is_expander (T : Tx K mg) : FnOk P w K mg base CX0 6 T.a_is_expander T.fd_is_expander ["thing"] (sp_is_expander K) := by
  refine T.F_is_expander.ok sc_is_expander (fun vs H Q E h => ?_) (fun cdv A outer s H vs Q E hr h => ?_)
  · obtain ⟨_, _, rfl, _⟩ := h
    rfl
  · refine ⟨_, (pss_cons (ps_if (PW.pt (pw_or (pt_not (pt_val (pe_callB call_isi (by rfl) T.z_isinstance (by decide +kernel) (pa_cons (pv 0) (pa_cons (pe_bltn (v := .ty "tuple") (by rfl) T.z_tuple (by decide +kernel) rfl) pa_nil))))) (pw_or1 (pt_cmpR op_ne (pe_callB call_len_seq (by rfl) T.z_len PySem.boot_len (pa_cons (pv 0) pa_nil)) pe_int (nomark _)))))
      (pss_one (ps_ret pe_bl))
      pss_nil)
    (pss_cons (ps_asg (pv 0) (pg_tup rfl (pgs_cons (pg_name (i := 1) sc_is_expander.nd rfl (by first | exact Or.inl rfl | exact Or.inr rfl)) (pgs_cons (pg_name (i := 2) sc_is_expander.nd rfl (by first | exact Or.inl rfl | exact Or.inr rfl)) (pgs_cons (pg_name (i := 3) sc_is_expander.nd rfl (by first | exact Or.inl rfl | exact Or.inr rfl)) pgs_nil)))))
    (pss_one (ps_ret (pe_and (pe_call (ok_are_signs T) (hr.mono (by decide)) (by rfl) T.g__are_signs T.F__are_signs.kp T.b__are_signs .nil pass0 (pa_cons (pv 1) pa_nil)) (pe_and (pe_call (ok_is_short_word T) (hr.mono (by decide)) (by rfl) T.g__is_short_word T.F__is_short_word.kp T.b__is_short_word .nil pass0 (pa_cons (pv 1) (pa_cons (pv 2) pa_nil))) (pe_one (pe_call (ok_are_states T) (hr.mono (by decide)) (by rfl) T.g__are_states T.F__are_states.kp T.b__are_states .nil pass0 (pa_cons (pv 1) (pa_cons (pv 3) pa_nil)))))))))), ?_⟩
    obtain ⟨v, d, rfl, hd, hz, q⟩ := h
    refine ⟨v, rfl, v, .ty "tuple", _, _, _, rfl, .ty "tuple", hd.ty, kTup d, _, rfl, ?_⟩
    cases e : isTup d with
    | false =>
      rw [expB_tup e] at q
      exact iteT (iteT (q H (Same.refl H)))
    | true =>
      obtain ⟨a, xs, ds, rfl, rfl, ht, ha⟩ := dq_tup hd e
      refine iteF ⟨_, rfl, a, xs, rfl, .inr ht, rfl, _, rfl, ?_⟩
      rw [Lk.ne_int]
      by_cases hl : xs.length = 3
      · rw [decide_eq_true (show ((xs.length : Nat) : Int) = 3 by omega)]
        refine iteF ?_
        obtain ⟨x, y, z, d1, d2, d3, rfl, rfl, h1, h2, h3⟩ := ha.three hl
        have hw := light_tup hz
        refine ⟨_, rfl, a, _, rfl, ht, rfl, x, _, rfl, y, _, rfl, z, _, rfl, rfl, ?_⟩
        refine ⟨x, rfl, x, d1, rfl, h1, hw d1 (by simp), fun H1 s1 => ⟨_, rfl, ?_⟩⟩
        cases e1 : isStr d1 with
        | false =>
          rw [expB_first e1] at q
          have e2 : signsB d1 = false := by
            cases d1 with
            | str _ => cases e1
            | _ => rfl
          rw [e2]
          exact iteF (q H1 s1)
        | true =>
          obtain ⟨s, rfl, rfl⟩ := dq_str h1 e1
          have q : ∀ H', Same H H' → Q (.bl (signsB (.str s) && (shortB s d2 && statesB s d3))) H' := q
          cases e2 : signsB (.str s) with
          | false =>
            rw [e2] at q
            exact iteF (q H1 s1)
          | true =>
            have h4 : s.length ≤ 4 := signs_four e2
            rw [e2, tt_and] at q
            refine iteT ⟨_, rfl, y, rfl, s, y, d2, rfl, h2.mono s1, hw d2 (by simp), _, rfl, ?_⟩
            cases e3 : shortB s d2 with
            | false =>
              rw [e3] at q
              exact iteF (q H1 s1)
            | true =>
              rw [e3, tt_and] at q
              exact iteT ⟨_, rfl, z, rfl, s, z, d3, rfl, h3.mono s1, hw d3 (by simp), h4, fun H2 s2 => q H2 (Same.trans s1 s2)⟩
      · rw [decide_eq_false (show ¬ ((xs.length : Nat) : Int) = 3 by omega)]
        rw [expB_len (fun z => hl (ha.length.trans z))] at q
        exact iteT (q H (Same.refl H))
end
end K14

namespace K14
open PySem PySem.Spec PyProof.Rows L2 G Lk
section
variable {P : Program} {w : World} {K : PySem.W.Frag} {mg : Str → Option Value} {base : Heap}
def sp_need_expander (K : PySem.W.Frag) (mg : Str → Option Value) (T : Tx K mg) : Sp := fun vs H Q E => ∃ (v : V) (d : PyData), vs = [v] ∧ Dq K H v d ∧ Light d ∧
  (expB d = false → ∀ H', Same H H' → E (.ref T.a_NoExpander) none H') ∧ (expB d = true → ∀ H', Same H H' → Q .non H')
/-- def need_expander(expander): -/
theorem ok_need_expander (T : Tx K mg) : FnOk P w K mg base (L2.CX P w) 7 T.a_need_expander T.fd_need_expander ["expander"] (sp_need_expander K mg T) := by
  refine T.F_need_expander.okX sc_need_expander (fun vs H Q E h => ?_) (fun cdv A outer s H vs Q E hr h => ?_)
  · obtain ⟨_, _, rfl, _⟩ := h
    rfl
  · refine ⟨_, (pss_one (ps_if (pt_not (pt_val (pe_call (ok_is_expander T) (hr.mono (by decide)) (by rfl) T.g_is_expander T.F_is_expander.kp T.b_is_expander .nil pass0 (pa_cons (pv 0) pa_nil))))
      (pss_one (ps_raise rfl (takes_of rfl rfl rfl rfl) (pmk_own PySem.F.excBase_ValueError T.xi_NoExpander T.g_NoExpander T.k_NoExpander (raises_own T.b_NoExpander T.t_NoExpander) (by rfl))))
      pss_nil)), ?_⟩
    obtain ⟨v, d, rfl, hd, hz, kE, k⟩ := h
    refine ⟨_, rfl, v, d, rfl, hd, hz, fun H1 s1 => ⟨_, rfl, ?_⟩⟩
    cases e : expB d with
    | false => exact iteT (kE e H1 s1)
    | true => exact iteF (k e H1 s1)
end
end K14

namespace K14
open PySem PySem.Spec PyProof.Rows L2 G Lk
section
variable {P : Program} {w : World} {K : PySem.W.Frag} {mg : Str → Option Value} {base : Heap}
/-- is_text of a text and data -/
def isText (s : Str) : PyData → Bool
  | .str z => allIn s z && decide (z.length ≤ 200)
  | _ => false
def sp_is_text (K : PySem.W.Frag) : Sp := fun vs H Q _ => ∃ (s : Str) (v : V) (d : PyData), vs = [.str s, v] ∧ Dq K H v d ∧ (∀ z, d = .str z → z.length ≤ sizeLine) ∧ Q (.bl (isText s d)) H
/-- def is_text(signs, thing): -/
theorem ok_is_text (T : Tx K mg) : FnOk P w K mg base CX0 2 T.a_is_text T.fd_is_text ["signs", "thing"] (sp_is_text K) := by
  refine T.F_is_text.ok sc_is_text (fun vs H Q E h => ?_) (fun cdv A outer s H vs Q E hr h => ?_)
  · obtain ⟨_, _, _, rfl, _⟩ := h
    rfl
  · refine ⟨_, (pss_one (ps_ret (pe_and (pe_call (ok_is_word T) (hr.mono (by decide)) (by rfl) T.g_is_word T.F_is_word.kp T.b_is_word .nil pass0 (pa_cons (pv 0) (pa_cons (pv 1) pa_nil))) (pe_one (pe_cmpR op_le (pe_callB call_len_str (by rfl) T.z_len PySem.boot_len (pa_cons (pv 1) pa_nil)) (pe_glob (v := .int 200) (by rfl) T.m_MOST_TEXT ⟨_, rfl⟩) (nomark _)))))), ?_⟩
    obtain ⟨s, v, d, rfl, hd, hz, q⟩ := h
    refine ⟨.str s, rfl, v, rfl, s, v, d, rfl, hd, hz, _, rfl, ?_⟩
    cases hd with
    | str z =>
      have q : Q (.bl (allIn s z && decide (z.length ≤ 200))) H := q
      show if allIn s z = true then _ else _
      cases e : allIn s z with
      | false =>
        rw [e] at q
        exact iteF q
      | true =>
        rw [e] at q
        refine iteT ⟨.str z, rfl, z, rfl, hz z rfl, _, _, rfl, rfl, ?_⟩
        have e2 : decide (((z.length : Nat) : Int) ≤ 200) = (true && decide (z.length ≤ 200)) := by
          rw [Bool.true_and]
          exact decide_eq_decide.mpr ⟨fun x => by omega, fun x => by omega⟩
        show Q (.bl (decide (((z.length : Nat) : Int) ≤ 200))) H
        rw [e2]
        exact q
    | non => exact iteF q
    | bl b => exact iteF q
    | int i => exact iteF q
    | lst _ _ => exact iteF q
    | tup _ _ => exact iteF q
    | emp _ => exact iteF q
end
end K14

namespace K14
open PySem PySem.Spec PyProof.Rows L2 G Lk
section
variable {P : Program} {w : World} {K : PySem.W.Frag} {mg : Str → Option Value} {base : Heap}
def sp_need_text (K : PySem.W.Frag) (mg : Str → Option Value) (T : Tx K mg) : Sp := fun vs H Q E => ∃ (z : Str) (v : V) (d : PyData), vs = [.str z, v] ∧ Dq K H v d ∧ (∀ w, d = .str w → w.length ≤ sizeLine) ∧
  (isText z d = false → E (.ref T.a_NoText) none H) ∧ (isText z d = true → Q .non H)
theorem text_str {z : Str} {d : PyData} (h : isText z d = true) : ∃ t, d = .str t := by
  cases d with
  | str t => exact ⟨t, rfl⟩
  | _ => cases h
/-- def need_text(signs, thing): -/
theorem ok_need_text (T : Tx K mg) : FnOk P w K mg base (L2.CX P w) 3 T.a_need_text T.fd_need_text ["signs", "thing"] (sp_need_text K mg T) := by
  refine T.F_need_text.okX sc_need_text (fun vs H Q E h => ?_) (fun cdv A outer s H vs Q E hr h => ?_)
  · obtain ⟨_, _, _, rfl, _⟩ := h
    rfl
  · refine ⟨_, (pss_one (ps_if (pt_not (pt_val (pe_call (ok_is_text T) (hr.mono (by decide)) (by rfl) T.g_is_text T.F_is_text.kp T.b_is_text .nil pass0 (pa_cons (pv 0) (pa_cons (pv 1) pa_nil)))))
      (pss_one (ps_raise rfl (takes_of rfl rfl rfl rfl) (pmk_own PySem.F.excBase_ValueError T.xi_NoText T.g_NoText T.k_NoText (raises_own T.b_NoText T.t_NoText) (by rfl))))
      pss_nil)), ?_⟩
    obtain ⟨z, v, d, rfl, hd, hz, kE, k⟩ := h
    refine ⟨_, rfl, _, rfl, z, v, d, rfl, hd, hz, _, rfl, ?_⟩
    cases e : isText z d with
    | false => exact iteT (kE e)
    | true => exact iteF (k e)
end
end K14

namespace K14
open PySem PySem.Spec PyProof.Rows L2 G Lk
section
variable {P : Program} {w : World} {K : PySem.W.Frag} {mg : Str → Option Value} {base : Heap}
def sp_begin (K : PySem.W.Frag) (mg : Str → Option Value) (T : Tx K mg) : Sp := fun vs H Q E => ∃ (v x : V) (d dx : PyData), vs = [v, x] ∧ Dq K H v d ∧ Dq K H x dx ∧ Light d ∧ Light dx ∧
  (expB d = false → ∀ H', Same H H' → E (.ref T.a_NoExpander) none H') ∧
  (∀ z f ss, d = .tuple [.str z, .str f, .tuple ss] → expB d = true → (isText z dx = false → ∀ H', Same H H' → E (.ref T.a_NoText) none H') ∧
    ∀ t, dx = .str t → isText z dx = true → ∀ H' r, Same H H' → Dq K H' r (standD (f, t, 0)) → Q r H')
section
variable {T : Tx K mg} {H : Hp} {Q : VK} {v : V} {z f t : Str} {ss : List PyData}
theorem begin_k (hd : Dq K H v (.tuple [.str z, .str f, .tuple ss])) (lE : Light (.tuple [.str z, .str f, .tuple ss])) (he : expB (.tuple [.str z, .str f, .tuple ss]) = true) (ht : allIn z t = true) (lt : t.length ≤ 200)
    (k : ∀ H' r, Same H H' → Dq K H' r (standD (f, t, 0)) → Q r H') : sp_begin K mg T [v, .str t] H Q E0 := by
  have e1 : isText z (.str t) = true := by
    show (allIn z t && decide (t.length ≤ 200)) = true
    rw [ht, decide_eq_true lt]
    rfl
  refine ⟨v, .str t, _, .str t, rfl, hd, .str t, lE, by unfold Light; simp only [PyData.weight]; exact Nat.le_trans lt (by decide), fun e => (Bool.false_ne_true (e.symm.trans he)).elim, fun z' f' ss' e _ => ?_⟩
  cases e
  refine ⟨fun e => (Bool.false_ne_true (e.symm.trans e1)).elim, fun t' et _ H' r s hr => ?_⟩
  cases et
  exact k H' r s hr
end
/-- def begin(expander, text): -/
theorem ok_begin (T : Tx K mg) : FnOk P w K mg base (L2.CX P w) 8 T.a_begin T.fd_begin ["expander", "text"] (sp_begin K mg T) := by
  refine T.F_begin.okX sc_begin (fun vs H Q E h => ?_) (fun cdv A outer s H vs Q E hr h => ?_)
  · obtain ⟨_, _, _, _, rfl, _⟩ := h
    rfl
  · refine ⟨_, (pss_cons (ps_expr (pe_call (ok_need_expander T) (hr.mono (by decide)) (by rfl) T.g_need_expander T.F_need_expander.kp T.b_need_expander .nil (passes_call (takes_of rfl rfl rfl rfl) (fun _ _ _ _ h => h)) (pa_cons (pv 0) pa_nil)))
    (pss_cons (ps_expr (pe_call (ok_need_text T) (hr.mono (by decide)) (by rfl) T.g_need_text T.F_need_text.kp T.b_need_text .nil (passes_call (takes_of rfl rfl rfl rfl) (fun _ _ _ _ h => h)) (pa_cons (pe_ix ix_tup (pv 0) pe_int (fun _ _ => rfl)) (pa_cons (pv 1) pa_nil))))
    (pss_one (ps_ret (pe_call (ok_first_stand T) (hr.mono (by decide)) (by rfl) T.g__first_stand T.F__first_stand.kp T.b__first_stand .nil pass0 (pa_cons (pv 0) (pa_cons (pv 1) pa_nil))))))), ?_⟩
    obtain ⟨v, x, d, dx, rfl, hv, hx, hz, hzx, kE, k⟩ := h
    refine ⟨_, rfl, v, d, rfl, hv, hz, kE, fun eb H1 s1 => ?_⟩
    obtain ⟨z, f, ss, rfl, _⟩ := expB_parts eb
    obtain ⟨k1, k2⟩ := k z f ss rfl eb
    have hv1 := hv.mono s1
    obtain ⟨a, t', xs, rfl, ht, hts, hA⟩ := expV_of hv1
    refine ⟨_, rfl, a, _, _, _, rfl, rfl, ht, rfl, _, rfl, z, x, dx, rfl, hx.mono s1, fun w e => by subst e; exact light_str hzx, fun e => k1 e H1 s1, fun e => ?_⟩
    obtain ⟨t, rfl⟩ := text_str e
    obtain rfl := hx.strV
    exact ⟨_, rfl, _, rfl, _, z, f, t, ss, rfl, hv1, fun H2 r s2 hr => k2 t rfl e H2 r (Same.trans s1 s2) hr⟩
end
end K14

namespace K14
open PySem PySem.Spec PyProof.Rows L2 G Lk
section
variable {P : Program} {w : World} {K : PySem.W.Frag} {mg : Str → Option Value} {base : Heap}
def sp_ends_always (K : PySem.W.Frag) (mg : Str → Option Value) (T : Tx K mg) : Sp := fun vs H Q E => ∃ (v : V) (d : PyData), vs = [v] ∧ Dq K H v d ∧ Light d ∧ expB d = false ∧ ∀ H', Same H H' → E (.ref T.a_NoExpander) none H'
/-- def ends_always(expander): -/
theorem ok_ends_always (T : Tx K mg) : FnOk P w K mg base (L2.CX P w) 8 T.a_ends_always T.fd_ends_always ["expander"] (sp_ends_always K mg T) := by
  refine T.F_ends_always.okX sc_ends_always (fun vs H Q E h => ?_) (fun cdv A outer s H vs Q E hr h => ?_)
  · obtain ⟨_, _, rfl, _⟩ := h
    rfl
  · refine ⟨_, (pss_cons (ps_expr (pe_call (ok_need_expander T) (hr.mono (by decide)) (by rfl) T.g_need_expander T.F_need_expander.kp T.b_need_expander .nil (passes_call (takes_of rfl rfl rfl rfl) (fun _ _ _ _ h => h)) (pa_cons (pv 0) pa_nil)))
    (pss_cons ps_never
    (pss_cons ps_never
    (pss_one ps_never)))), ?_⟩
    obtain ⟨v, d, rfl, hv, hz, he, kE⟩ := h
    exact ⟨_, rfl, v, d, rfl, hv, hz, fun _ => kE, fun eb => (Bool.false_ne_true (he.symm.trans eb)).elim⟩
end
end K14

namespace K14
open PySem PySem.Spec PyProof.Rows L2 G Lk
section
variable {P : Program} {w : World} {K : PySem.W.Frag} {mg : Str → Option Value} {base : Heap}
/-- the move for a call -/
def IsMove (d x y m : PyData) : Prop := ∃ (z f : Str) (ss : List PyData) (i : Nat) (c : Str) (ms : List PyData) (l : PyData) (k : Nat) (rest : List Nat), d = .tuple [.str z, .str f, .tuple ss] ∧ x = .int (i : Int) ∧ y = .str c ∧
  ss[i]? = some (.tuple [.tuple ms, l]) ∧ Builtin.Str.occurrences z c 0 z.length 1 = k :: rest ∧ ms[k]? = some m
def sp_move_of (K : PySem.W.Frag) : Sp := fun vs H Q _ => ∃ (v x y : V) (d dx dy m : PyData), vs = [v, x, y] ∧ Dq K H v d ∧ Dq K H x dx ∧ Dq K H y dy ∧ IsMove d dx dy m ∧ ∀ r, Dq K H r m → Q r H
/-- def move_of(expander, state, sign): -/
theorem ok_move_of (T : Tx K mg) : FnOk P w K mg base CX0 1 T.a_move_of T.fd_move_of ["expander", "state", "sign"] (sp_move_of K) := by
  refine T.F_move_of.ok sc_move_of (fun vs H Q E h => ?_) (fun cdv A outer s H vs Q E hr h => ?_)
  · obtain ⟨_, _, _, _, _, _, _, rfl, _⟩ := h
    rfl
  · refine ⟨_, (pss_one (ps_ret (pe_ix ix_tup (pe_ix ix_tup (pe_ix ix_tup (pe_ix ix_tup (pv 0) pe_int (fun _ _ => rfl)) (pv 1) (fun _ _ => rfl)) pe_int (fun _ _ => rfl)) (pe_bm PySem.F.plainAttrs_str PySem.F.slot_str_index PySem.F.type_str_index mt_sindex (pe_ix ix_tup (pv 0) pe_int (fun _ _ => rfl)) (pa_cons (pv 2) pa_nil)) (fun _ _ => rfl)))), ?_⟩
    obtain ⟨v, x, y, d, dx, dy, m, rfl, hv, hx, hy, ⟨z, f, ss, i, c, ms, l, k, rest, rfl, rfl, rfl, e1, e2, e3⟩, q⟩ := h
    obtain ⟨a, t, xs, rfl, ht, hts, hA⟩ := expV_of hv
    obtain rfl := hx.intV
    obtain rfl := hy.strV
    obtain ⟨s, ex, hs⟩ := hA.ix e1
    obtain ⟨p, us, rfl, hp, hq⟩ := hs.items
    obtain ⟨mv, us', rfl, hM, hq⟩ := hq.one
    obtain ⟨lv, us'', rfl, _, hq⟩ := hq.one
    obtain rfl := hq.none
    obtain ⟨m0, mss, rfl, hm0, hms⟩ := hM.items
    obtain ⟨r, er, hr'⟩ := hms.ix e3
    refine ⟨_, rfl, a, _, 2, _, rfl, rfl, ht, rfl, _, rfl, t, xs, (i : Int), _, rfl, rfl, hts, atI_nat ex, p, _, 0, _, rfl, rfl, hp, rfl, _, rfl, a, _, 0, _, rfl, rfl, ht, rfl, rfl, _, rfl, z, c, k, rest, rfl, rfl, e2, m0, mss, (k : Int), _, rfl, rfl, hm0, atI_nat er, q r hr'⟩
end
end K14

namespace K14
open PySem PySem.Spec PyProof.Rows L2 G Lk
section
variable {P : Program} {w : World} {K : PySem.W.Frag} {mg : Str → Option Value} {base : Heap}
def sp_short_values (K : PySem.W.Frag) : Sp := fun vs H Q _ => ∃ (v : V) (d1 : Addr) (z f : Str) (ss : List PyData) (E : Ent), vs = [v, .ref d1] ∧ Dq K (off [d1] H) v (.tuple [.str z, .str f, .tuple ss]) ∧ StatesOk z ss ∧ Found [d1] H d1 E ∧ Closed z ss E ∧
  ∀ (H' : Hp) (d : Addr), Same H H' → H d = none → ValD [d] H' d (shortE E) → Q (.ref d) H'
/-- def short_values(expander, sizes): -/
theorem ok_short_values (T : Tx K mg) : FnOk P w K mg base CX0 2 T.a_short_values T.fd_short_values ["expander", "sizes"] (sp_short_values K) := by
  refine T.F_short_values.ok sc_short_values (fun vs H Q E h => ?_) (fun cdv A outer s H vs Q E hr h => ?_)
  · obtain ⟨_, _, _, _, _, _, rfl, _⟩ := h
    rfl
  · refine ⟨_, (pss_cons (ps_set (i := 2) sc_short_values.nd rfl (by first | exact Or.inl rfl | exact Or.inr rfl) pe_dnewT)
    (pss_cons (ps_lock (ps_for PassesOwn.never rfl (pi_itemsT (pv 1)) (pg_tup rfl (pgs_cons (pg_name (i := 3) sc_short_values.nd rfl (by first | exact Or.inl rfl | exact Or.inr rfl)) (pgs_cons (pg_tup rfl (pgs_cons (pg_name (i := 6) sc_short_values.nd rfl (by first | exact Or.inl rfl | exact Or.inr rfl)) (pgs_cons (pg_name (i := 7) sc_short_values.nd rfl (by first | exact Or.inl rfl | exact Or.inr rfl)) pgs_nil))) pgs_nil)))
      (pss_cons (ps_if (pt_cmpR op_gt (pv 6) (pe_glob (v := .int 2000) (by rfl) T.m_MOST_WORD ⟨_, rfl⟩) (nomark _))
      (pss_one ps_continue)
      pss_nil)
    (pss_cons (ps_asg (pe_call (ok_move_of T) (hr.mono (by decide)) (by rfl) T.g_move_of T.F_move_of.kp T.b_move_of .nil pass0 (pa_cons (pv 0) (pa_cons (pe_ix ix_tup (pv 3) pe_int (fun _ _ => rfl)) (pa_cons (pe_ix ix_tup (pv 3) pe_int (fun _ _ => rfl)) pa_nil)))) (pg_tup rfl (pgs_cons (pg_name (i := 8) sc_short_values.nd rfl (by first | exact Or.inl rfl | exact Or.inr rfl)) (pgs_cons (pg_name (i := 9) sc_short_values.nd rfl (by first | exact Or.inl rfl | exact Or.inr rfl)) (pgs_cons (pg_name (i := 10) sc_short_values.nd rfl (by first | exact Or.inl rfl | exact Or.inr rfl)) pgs_nil)))))
    (pss_cons (ps_set (i := 4) sc_short_values.nd rfl (by first | exact Or.inl rfl | exact Or.inr rfl) (pe_lst (pa_cons (pv 8) pa_nil)))
    (pss_cons (ps_for PassesOwn.never rfl (pi_str (pv 9)) (pg_name (i := 5) sc_short_values.nd rfl (by first | exact Or.inl rfl | exact Or.inr rfl))
      (pss_cons (ps_asg (pe_dget (unit1 hr.units) (pv 2) (pe_tup (pa_cons (pv 10) (pa_cons (pv 5) pa_nil))) (fun _ _ => rfl)) (pg_tup rfl (pgs_cons (pg_name (i := 11) sc_short_values.nd rfl (by first | exact Or.inl rfl | exact Or.inr rfl)) (pgs_cons (pg_name (i := 10) sc_short_values.nd rfl (by first | exact Or.inl rfl | exact Or.inr rfl)) pgs_nil))))
    (pss_one (ps_expr (pe_bm PySem.F.plainAttrs_list PySem.F.slot_list_append PySem.F.type_list_append mt_append (pv 4) (pa_cons (pv 11) pa_nil))))))
    (pss_one (ps_dput (unit1 hr.units) (pv 2) (pv 3) (pe_tup (pa_cons (pe_join pe_str (pv 4)) (pa_cons (pv 10) pa_nil))) (by rfl)))))))))
    (pss_one (ps_ret (pv 2))))), ?_⟩
    obtain ⟨v, d1, z, f, ss, E, rfl, hv, ok, ⟨kvs, hd1, hE1⟩, cl, q⟩ := h
    have lE := cl.few ok
    have lk := hE1.len
    intro d2 nd2
    have s4 := same_new (o := .dT []) nd2
    have hd4 : upd H d2 (.dT []) d2 = some (.dT []) := upd_same
    revert s4 hd4
    generalize upd H d2 (.dT []) = H4
    intro s4 hd4
    have d12 : d1 ≠ d2 := fun e => by
      rw [← e, hd1] at nd2
      cases nd2
    have hd14 := s4 _ _ hd1
    refine ⟨d1, _, hd14, trivial, fun od2 => ?_⟩
    have kG : Keep [d1] H4 (upd H4 d1 (.frz od2 (.dT kvs))) := Keep.pot List.mem_cons_self
    have hG : upd H4 d1 (.frz od2 (.dT kvs)) d1 = some (.frz od2 (.dT kvs)) := upd_same
    have hd5 : upd H4 d1 (.frz od2 (.dT kvs)) d2 = some (.dT []) := (upd_ne d12.symm).trans hd4
    revert kG hG hd5
    generalize upd H4 d1 (.frz od2 (.dT kvs)) = HG
    intro kG hG hd5
    have k1G : Keep [d1] H HG := (Keep.of s4).trans kG
    have hEG := hE1.mono k1G
    refine ⟨_, rfl, d1, od2, kvs, rfl, hG, ?_⟩
    refine for_it walk_itemsT (fun i σ H' => ∃ s3 s4 s5 s6 s7 s8 s9 s10 s11 : Option V, σ = [some v, some (.ref d1), some (.ref d2), s3, s4, s5, s6, s7, s8, s9, s10, s11] ∧ Keep [d2] HG H' ∧ ValD [d2] H' d2 (shortE (E.take i)))
      ⟨_, _, _, _, _, _, _, _, _, rfl, Keep.refl, [], hd5, .nil⟩ (fun _ _ _ _ ⟨_, _, _, _, _, _, _, _, _, _, k, _⟩ => k.at_ (fun zz => d12 (List.mem_singleton.1 zz)) hG) ?_ ?_
    · rintro i x σ H5' H5 hi ⟨s3', s4', s5', s6', s7', s8', s9', s10', s11', rfl, k5', hV5'⟩ ⟨pT, qa, k, vv, hk, rfl, nT, hq, rfl⟩
      obtain ⟨c, w, he, ek, p, ep, hp⟩ := hEG.at_ hk
      have ek : k = ckey c := ek
      subst ek
      have ep : vv = .ref p := ep
      subst ep
      have hq : H5' qa = some (.tup [.int (c.1 : Int), .str (Ls.one c.2)]) := hq
      have sT := same_new (o := .tup [.ref qa, .ref p]) nT
      have hT : upd H5' pT (.tup [.ref qa, .ref p]) pT = some (.tup [.ref qa, .ref p]) := upd_same
      have k5 : Keep [d2] HG (upd H5' pT (.tup [.ref qa, .ref p])) := k5'.trans (Keep.of sT)
      have hV5 := hV5'.same sT
      have hq := sT _ _ hq
      revert hT k5 hV5 hq
      generalize upd H5' pT (.tup [.ref qa, .ref p]) = H5
      intro hT k5 hV5 hq
      have hp5 := k5.at_ (fun zz => by
        have hp := (off_some hp).2
        rw [List.mem_singleton.1 zz, hd5] at hp
        cases hp) (off_some hp).2
      obtain ⟨m, hn, hm, hr⟩ := cl.at_ he
      have clT := cl.take i
      obtain ⟨gc, xw, yw, emv, ex, ey, lx, ly, ax, ay, hg⟩ := mv_ok ok hm
      obtain ⟨ms, lst, kk, rst, e1, e2, e3⟩ := move_is (f := f) ok gc
      have hv5 : Dq K H5 v (.tuple [.str z, .str f, .tuple ss]) := hv.mono fun b o e => by
        obtain ⟨n1, e⟩ := off_some e
        exact k5.at_ (fun zz => by
          rw [List.mem_singleton.1 zz, nd2] at e
          cases e) (kG.at_ n1 (s4 _ _ e))
      refine ⟨pT, _, rfl, SqT.of hT, rfl, _, _, rfl, _, _, rfl, p, _, rfl, SqT.of hp5, rfl, _, _, rfl, _, _, rfl, rfl, rfl, ?_⟩
      refine ⟨_, rfl, _, _, rfl, rfl, _, rfl, ?_⟩
      by_cases lw : 2000 < w.1.length
      · refine if_true (decide_eq_true (show (2000 : Int) < (w.1.length : Int) by omega)) ?_
        refine ⟨_, _, _, _, _, _, _, _, _, rfl, k5, ?_⟩
        rw [take_entry he, shortE_long lw]
        exact hV5
      refine if_false (decide_eq_false (show ¬ (2000 : Int) < (w.1.length : Int) by omega)) ?_
      have lv : w.1.length ≤ 2000 := Nat.le_of_not_lt lw
      refine ⟨_, rfl, _, rfl, qa, _, 0, _, rfl, rfl, SqT.of hq, rfl, _, rfl, qa, _, 1, _, rfl, rfl, SqT.of hq, rfl, ?_⟩
      refine ⟨v, _, _, _, _, _, moveD z ss c.1 c.2, rfl, hv5, .int _, .str _, ⟨z, f, ss, c.1, Ls.one c.2, ms, lst, kk, rst, rfl, rfl, rfl, e1, e2, e3⟩, fun mr hmr => ?_⟩
      rw [emv] at hmr
      obtain ⟨pm, rfl, hpm⟩ := standV (a := xw) (b := yw) (s := m.2.2) hmr
      refine ⟨pm, _, rfl, hpm, rfl, _, _, rfl, _, _, rfl, _, _, rfl, rfl, ?_⟩
      refine ⟨_, rfl, (by show 1 ≤ sizeLine; decide), fun D2 nD2 => ?_⟩
      have s7 := same_new (o := .lst [.str xw]) nD2
      have hD7 : upd H5 D2 (.lst [.str xw]) D2 = some (.lst [.str xw]) := upd_same
      revert s7 hD7
      generalize upd H5 D2 (.lst [.str xw]) = H7
      intro s7 hD7
      obtain ⟨kvs7, hd7, hV7⟩ := hV5.same s7
      have hq7 := s7 _ _ hq
      have D2d : D2 ≠ d2 := fun e => by
        rw [e, hd7] at hD7
        cases hD7
      have D2q : D2 ≠ qa := fun e => by
        rw [e, hq7] at hD7
        cases hD7
      have hV7' : VlE (off [d2, D2] H7) kvs7 (shortE (E.take i)) := hV7.any fun a ha => by
        rcases List.mem_cons.1 ha with rfl | ha
        · exact .dT hd7
        · rw [List.mem_singleton.1 ha]
          exact .lst hD7
      have exl : xw.cps.toList = m.1 := ex.symm
      have k07 := k5.trans (Keep.of s7)
      refine ⟨_, rfl, yw, rfl, ?_⟩
      refine for_it walk_str (fun j σ H' => ∃ (s5 s11 : Option V) (g : Nat) (ps : List Str) (u : List Nat), σ = [some v, some (.ref d1), some (.ref d2), some (.ref qa), some (.ref D2), s5, some (.int (w.1.length : Int)), some (.int (w.2 : Int)), some (.str xw), some (.str yw), some (.int (g : Int)), s11] ∧
        Keep [D2] H7 H' ∧ H' D2 = some (.lst (ps.map V.str)) ∧ ps.length = j + 1 ∧ catS ps = u ∧ rd (look (E.take i)) (m.2.1.take j) (m.1, m.2.2) = some (u, g) ∧ u.length ≤ 2000)
        ⟨_, _, m.2.2, [xw], m.1, rfl, Keep.refl, hD7, rfl, by unfold catS; rw [List.map_cons, List.map_nil, exl]; simp, by rw [List.take_zero]; rfl, ?_⟩ (fun _ _ _ _ _ => trivial) ?_ ?_
      · rw [ex]
        simpa [Str.length] using lx
      · rintro j y σ H8 H9 hj ⟨s5, s11, g, ps, u, rfl, k8, hD8, lps, eps, hrd, lu⟩ ⟨rfl, c1, hc1, rfl⟩
        have hc1 : m.2.1[j]? = some c1 := by
          rw [ey]
          simpa using hc1
        obtain ⟨v1, ev1, hrd1, lu1⟩ := rd_at hr hc1 hrd
        have ev1 : look (shortE (E.take i)) (g, c1) = some v1 := (look_shortE clT _ _).2 ⟨ev1, by
          rw [List.length_append] at lu1
          omega⟩
        have hd8 := k8.at_ (fun zz => D2d.symm (List.mem_singleton.1 zz)) hd7
        refine ⟨_, rfl, _, rfl, _, rfl, (by show 2 ≤ sizeLine; decide), fun pk npk => ?_⟩
        have s9 := same_new (o := .tup [.int (g : Int), .str ⟨#[c1]⟩]) npk
        have hpk : CallAt (upd H9 pk (.tup [.int (g : Int), .str ⟨#[c1]⟩])) pk (g, c1) := upd_same
        revert s9 hpk
        generalize upd H9 pk (.tup [.int (g : Int), .str ⟨#[c1]⟩]) = H10
        intro s9 hpk
        have k10 : Keep [D2] H7 H10 := k8.trans (Keep.of s9)
        rcases hV7'.get (g, c1) with ⟨vv1, ww1, e5, e6, e7⟩ | ⟨e5, e6⟩
        · rw [ev1] at e6
          obtain rfl := Option.some.inj e6
          refine ⟨d2, vv1, rfl, ?_, ?_⟩
          · rw [← e5]
            exact DGet.t (k := ckey (g, c1)) (s9 _ _ hd8) hpk.key
          · obtain ⟨pw, rfl, e8⟩ := e7
            obtain ⟨npw, e8⟩ := off_some e8
            have e9 := k10.at_ (fun zz => npw (List.mem_cons_of_mem _ zz)) e8
            have hD10 := s9 _ _ hD8
            refine ⟨pw, _, rfl, SqT.of e9, rfl, _, _, rfl, _, _, rfl, rfl, ?_⟩
            refine ⟨_, rfl, .inl ⟨rfl, _, SqL.of hD10⟩, _, rfl, D2, _, _, rfl, rfl, hD10, ?_, ?_⟩
            · rw [List.length_map, lps]
              have hj' : j < yw.length := hj
              exact Nat.lt_of_lt_of_le (show j + 1 < 3000 by omega) (by decide)
            · refine ⟨_, _, v1.2, ps ++ [tx v1.1], u ++ v1.1, rfl, k10.trans (Keep.pot List.mem_cons_self), ?_, by rw [List.length_append, lps]; rfl, by rw [cat_snoc, eps], hrd1, ?_⟩
              · rw [upd_same, List.map_append]
                rfl
              · exact Nat.le_trans lu1 lv
        · rw [ev1] at e6
          cases e6
      · rintro σ H8 ⟨s5, s11, g, ps, u, rfl, k8, hD8, lps, eps, hrd, lu⟩
        have et : m.2.1.take yw.cps.size = m.2.1 := List.take_of_length_le (by rw [ey]; simp)
        rw [et, hr] at hrd
        cases hrd
        refine ⟨⟨_, rfl⟩, _, rfl, tx [], D2, ps, rfl, rfl, .inl (SqL.of hD8), ?_, ?_⟩
        · rw [sum_cat, eps]
          show _ + _ * 0 ≤ _
          omega
        rw [join_empty, eps]
        refine ⟨_, rfl, (by show 2 ≤ sizeLine; decide), fun pn np => ?_⟩
        have s9 := same_new (o := .tup [.str (tx u), .int (g : Int)]) np
        have hpn : upd H8 pn (.tup [.str (tx u), .int (g : Int)]) pn = some (.tup [.str (tx u), .int (g : Int)]) := upd_same
        revert s9 hpn
        generalize upd H8 pn (.tup [.str (tx u), .int (g : Int)]) = H9
        intro s9 hpn
        have k10 : Keep [D2] H7 H9 := k8.trans (Keep.of s9)
        have hd10 := k10.at_ (fun zz => D2d.symm (List.mem_singleton.1 zz)) hd7
        have hq10 : CallAt H9 qa c := k10.at_ (fun zz => D2q.symm (List.mem_singleton.1 zz)) hq7
        have lk7 := hV7.len
        have l7 : kvs7.length < 300 := by
          rw [lk7]
          refine Nat.lt_of_le_of_lt (shortE_len _) ?_
          rw [List.length_take]
          omega
        refine ⟨_, rfl, _, rfl, d2, _, rfl, DPut.t (k := ckey c) hd10 hq10.key (Nat.lt_trans l7 (by decide)), ?_⟩
        have npn : pn ∉ [d2] := fun zz => by
          rw [List.mem_singleton.1 zz, hd10] at hpn
          cases hpn
        have kP : Keep [d2] H9 (upd H9 d2 (.dT (putK kvs7 (ckey c) (.ref pn)))) := Keep.pot List.mem_cons_self
        have hV10 : VlE (off [d2] H9) kvs7 (shortE (E.take i)) := by
          have h1 : VlE (off [d2, D2] H9) kvs7 (shortE (E.take i)) := hV7'.mono (k10.more fun a ha => List.mem_cons_of_mem _ ha)
          exact h1.any fun a ha => by
            rw [List.mem_singleton.1 ha]
            exact .dT hd10
        have hn' : look (shortE (E.take i)) c = none := by
          cases e : look (shortE (E.take i)) c with
          | none => rfl
          | some u =>
            have := ((look_shortE clT c u).1 e).1
            rw [hn] at this
            cases this
        refine ⟨_, _, _, _, _, _, _, _, _, rfl, ?_, _, upd_same, ?_⟩
        · have kA : Keep [d2] H5 H9 := Keep.drop s7 k10 fun a ha => .inr (by rw [List.mem_singleton.1 ha]; exact nD2)
          exact k5.trans (kA.trans kP)
        · rw [take_entry he, shortE_snoc lv]
          exact ((hV10.put hn' ⟨pn, rfl, off_of npn hpn⟩).mono kP)
    · rintro σ H5 ⟨s3', s4', s5', s6', s7', s8', s9', s10', s11', rfl, k5, hV5⟩
      have hG5 := k5.at_ (fun zz => d12 (List.mem_singleton.1 zz)) hG
      refine ⟨hG5, _, rfl, ?_⟩
      rw [lk, List.take_length] at hV5
      have kU : Keep [d1] H5 (upd H5 d1 (.dT kvs)) := Keep.pot List.mem_cons_self
      have hV6 : ValD [d2] (upd H5 d1 (.dT kvs)) d2 (shortE E) := by
        obtain ⟨kv5, h1, h2⟩ := hV5
        refine ⟨kv5, (upd_ne d12.symm).trans h1, ?_⟩
        have h3 : VlE (off [d1] H5) kv5 (shortE E) := h2.any fun a ha => by
          rw [List.mem_singleton.1 ha]
          exact fun xs e => by
            rw [hG5] at e
            cases e
        exact (h3.mono kU).any fun a ha => by
          rw [List.mem_singleton.1 ha]
          exact .dT ((upd_ne d12.symm).trans h1)
      refine q (upd H5 d1 (.dT kvs)) d2 (fun b o e => ?_) nd2 hV6
      by_cases nb1 : b = d1
      · rw [nb1, upd_same, ← hd1, ← nb1]
        exact e
      have nb2 : b ≠ d2 := fun e' => by
        rw [e', nd2] at e
        cases e
      rw [upd_ne nb1]
      exact k5.at_ (fun zz => nb2 (List.mem_singleton.1 zz)) (kG.at_ (fun zz => nb1 (List.mem_singleton.1 zz)) (s4 _ _ e))
end
end K14

namespace K14
open PySem PySem.Spec PyProof.Rows L2 G Lk
section
variable {P : Program} {w : World} {K : PySem.W.Frag} {mg : Str → Option Value} {base : Heap}
def sp_all_calls (K : PySem.W.Frag) : Sp := fun vs H Q _ => ∃ (v : V) (z f : Str) (ss : List PyData), vs = [v] ∧ Dq K H v (.tuple [.str z, .str f, .tuple ss]) ∧ StatesOk z ss ∧
  ∀ (H' : Hp) (r : Addr) (xs : List V), Same H H' → H r = none → H' r = some (.lst xs) → CallsAt H' xs (callsOf z ss.length) → Q (.ref r) H'
/-- def all_calls(expander): -/
theorem ok_all_calls (T : Tx K mg) : FnOk P w K mg base CX0 1 T.a_all_calls T.fd_all_calls ["expander"] (sp_all_calls K) := by
  refine T.F_all_calls.ok sc_all_calls (fun vs H Q E h => ?_) (fun cdv A outer s H vs Q E hr h => ?_)
  · obtain ⟨_, _, _, _, rfl, _⟩ := h
    rfl
  · refine ⟨_, (pss_cons (ps_asg (pv 0) (pg_tup rfl (pgs_cons (pg_name (i := 1) sc_all_calls.nd rfl (by first | exact Or.inl rfl | exact Or.inr rfl)) (pgs_cons (pg_name (i := 2) sc_all_calls.nd rfl (by first | exact Or.inl rfl | exact Or.inr rfl)) (pgs_cons (pg_name (i := 3) sc_all_calls.nd rfl (by first | exact Or.inl rfl | exact Or.inr rfl)) pgs_nil)))))
    (pss_one (ps_ret (pe_lc2 (own := [("state", 4), ("sign", 5)]) (vs1 := [5]) (g := gName 4) (g1 := gName 5) (by rfl) sc_all_calls.nd (pi_range1 (by rfl) T.z_range (pa_cons (pe_callB call_len_seq (by rfl) T.z_len PySem.boot_len (pa_cons (pv 3) pa_nil)) pa_nil)) (blkOk_by (own := [("state", 4), ("sign", 5)]) (N := N_all_calls) (sc := defScope s_all_calls) (by decide +kernel)) (by decide) (fun _ _ _ _ _ => pg_name (i := 4) sc_all_calls.nd rfl (by first | exact Or.inl rfl | exact Or.inr rfl)) (fun _ _ _ _ _ => pts_nil) (fun _ _ _ _ _ => (pi_str (pv 1))) (fun _ _ _ _ _ => pg_name (i := 5) sc_all_calls.nd rfl (by first | exact Or.inl rfl | exact Or.inr rfl)) (fun _ _ _ _ _ => pts_nil) (fun _ _ _ _ _ => (pe_tup (pa_cons (pv 4) (pa_cons (pv 5) pa_nil)))) )))), ?_⟩
    obtain ⟨v, z, f, ss, rfl, hv, ok, q⟩ := h
    obtain ⟨a, t, xs, rfl, ht, hts, hA⟩ := expV_of hv
    have hl := hA.length
    have h60 := ok.2.2.1
    have hz4 := ok.1.small.2.1
    have hz' : z.cps.size = z.length := rfl
    refine ⟨_, rfl, a, _, rfl, ht, rfl, _, _, rfl, _, _, rfl, _, _, rfl, rfl, ?_⟩
    refine ⟨_, rfl, t, xs, rfl, .inr hts, (xs.length : Nat), rfl, by omega, by omega, fun D nD => ?_⟩
    refine lc2_o (walk_range (n := xs.length)) (fun i H' => Same H H' ∧ ∃ us, H' D = some (.lst us) ∧ CallsAt (off [D] H') us (callsOf z i)) ⟨same_new nD, [], upd_same, .nil⟩ (fun _ _ _ _ => trivial) ?_ ?_
    · rintro i x H1 H2 hi ⟨s1, us, hD, hus⟩ ⟨rfl, rfl⟩
      refine ⟨rfl, _, rfl, z, rfl, ?_⟩
      refine lc2_i (walk_str (z := z)) (fun j H' => Same H H' ∧ ∃ us, H' D = some (.lst us) ∧ CallsAt (off [D] H') us (callsOf z i ++ (z.cps.toList.take j).map fun c => (i, c))) ⟨s1, us, hD, by rw [List.take_zero, List.map_nil, List.append_nil]; exact hus⟩ (fun _ _ _ _ => trivial) ?_ ?_
      · rintro j y H3 H4 hj ⟨s3, us, hD3, hus3⟩ ⟨rfl, c, hc, rfl⟩
        refine ⟨rfl, _, rfl, _, rfl, (by show 2 ≤ sizeLine; decide), fun p np => ?_⟩
        have nDp : D ≠ p := ne_of_none hD3 np
        have hcl : z.cps.toList[j]? = some c := by simpa using hc
        have few : us.length ≤ 240 := by
          rw [hus3.len, List.length_append, callsOf_len, List.length_map, List.length_take]
          have e1 : min j z.cps.toList.length ≤ z.length := by
            have : z.cps.toList.length = z.length := by simp [Str.length]
            omega
          have e2 : i * z.length + z.length ≤ 60 * 4 := by
            rw [← Nat.succ_mul]
            exact Nat.mul_le_mul (by omega) hz4
          omega
        have s4 := same_new (o := .tup [.int (0 + ((i : Nat) : Int)), .str ⟨#[c]⟩]) np
        refine ⟨us, (upd_ne nDp).trans hD3, Nat.lt_of_le_of_lt few (by decide), ?_⟩
        have hp : upd H4 p (.tup [.int (0 + ((i : Nat) : Int)), .str ⟨#[c]⟩]) p = some (.tup [.int (i : Int), .str (Ls.one c)]) := by
          rw [upd_same, Int.zero_add]
          rfl
        revert s4 hp
        generalize upd H4 p (.tup [.int (0 + ((i : Nat) : Int)), .str ⟨#[c]⟩]) = H5
        intro s4 hp
        have kp : Keep [D] H5 (upd H5 D (.lst (us ++ [.ref p]))) := Keep.pot List.mem_cons_self
        refine ⟨fun b o e => (upd_ne (ne_of_none e nD)).trans (s4 _ _ (s3 _ _ e)), _, upd_same, ?_⟩
        rw [take_snoc hcl, List.map_append, ← List.append_assoc]
        exact ((hus3.mono (Keep.of s4)).mono kp).append (.cons (kp _ _ (off_of (fun z => nDp (List.mem_singleton.1 z).symm) hp)) .nil)
      · rintro H3 ⟨s3, us, hD3, hus3⟩
        refine ⟨s3, us, hD3, ?_⟩
        rw [callsOf_succ]
        have e : z.cps.toList.take z.cps.size = z.cps.toList := List.take_of_length_le (by simp)
        rw [e] at hus3
        exact hus3
    · rintro H2 ⟨s2, us, hD, hus⟩
      refine q H2 D us s2 nD hD ?_
      rw [← hl]
      exact hus.mono off_same
end
end K14

namespace K14
open PySem PySem.Spec PyProof.Rows L2 G Lk
section
variable {P : Program} {w : World} {K : PySem.W.Frag} {mg : Str → Option Value} {base : Heap}
def sp_read_on (K : PySem.W.Frag) : Sp := fun vs H Q _ => ∃ (v : V) (d l : Addr) (z f : Str) (ss : List PyData) (E : Ent) (O S : Cl → Prop) (row : List Re) (r : Re) (m : List Nat × List Nat × Nat) (rest : List Nat),
  vs = [v, .ref d, .ref l] ∧ Dq K (off [d, l] H) v (.tuple [.str z, .str f, .tuple ss]) ∧ StatesOk z ss ∧ Found [d, l] H d E ∧ RowL [d, l] H l (r :: row) ∧ ReadTo z ss E r m rest ∧ Row z ss E row r.1 ∧ Meas z ss E O (r :: row) S ∧
  ∀ H' v' E' row', Keep [d, l] H H' → Found [d, l] H' d E' → RowL [d, l] H' l row' → Meas z ss E' O row' S →
    ((v' = .non ∧ row' = []) ∨ ∃ c p, v' = .ref p ∧ CallAt (off [d, l] H') p c ∧ Good z ss c ∧ look E' c = none ∧ Row z ss E' row' c) → Q v' H'
/-- def _read_on(expander, found, row): -/
theorem ok_read_on (T : Tx K mg) : FnOk P w K mg base CX0 2 T.a__read_on T.fd__read_on ["expander", "found", "row"] (sp_read_on K) := by
  refine T.F__read_on.ok sc_read_on (fun vs H Q E h => ?_) (fun cdv A outer s H vs Q E hr h => ?_)
  · obtain ⟨_, _, _, _, _, _, _, _, _, _, _, _, _, rfl, _⟩ := h
    rfl
  · refine ⟨_, (pss_cons (ps_while PassesOwn.never (pt_truth (pv 2) (by intro _; rfl))
      (pss_cons (ps_asg (pe_bm0 PySem.F.plainAttrs_list PySem.F.slot_list_pop PySem.F.type_list_pop mt_pop (pv 2)) (pg_tup rfl (pgs_cons (pg_name (i := 4) sc_read_on.nd rfl (by first | exact Or.inl rfl | exact Or.inr rfl)) (pgs_cons (pg_name (i := 5) sc_read_on.nd rfl (by first | exact Or.inl rfl | exact Or.inr rfl)) (pgs_cons (pg_name (i := 6) sc_read_on.nd rfl (by first | exact Or.inl rfl | exact Or.inr rfl)) (pgs_cons (pg_name (i := 7) sc_read_on.nd rfl (by first | exact Or.inl rfl | exact Or.inr rfl)) pgs_nil))))))
    (pss_cons (ps_set (i := 3) sc_read_on.nd rfl (by first | exact Or.inl rfl | exact Or.inr rfl) (pe_ix ix_tup (pe_call (ok_move_of T) (hr.mono (by decide)) (by rfl) T.g_move_of T.F_move_of.kp T.b_move_of .nil pass0 (pa_cons (pv 0) (pa_cons (pe_ix ix_tup (pv 4) pe_int (fun _ _ => rfl)) (pa_cons (pe_ix ix_tup (pv 4) pe_int (fun _ _ => rfl)) pa_nil)))) pe_int (fun _ _ => rfl)))
    (pss_cons (ps_while PassesOwn.never (PW.pt (pw_and (pt_cmpR op_lt (pv 5) (pe_callB call_len_str (by rfl) T.z_len PySem.boot_len (pa_cons (pv 3) pa_nil)) (nomark _)) (pw_and1 (pt_cmp (pc_din (unit1 hr.units) (pe_tup (pa_cons (pv 7) (pa_cons (pe_ix ix_str (pv 3) (pv 5) (fun _ _ => rfl)) pa_nil))) (pv 1))))))
      (pss_cons (ps_asg (pe_dget (unit1 hr.units) (pv 1) (pe_tup (pa_cons (pv 7) (pa_cons (pe_ix ix_str (pv 3) (pv 5) (fun _ _ => rfl)) pa_nil))) (fun _ _ => rfl)) (pg_tup rfl (pgs_cons (pg_name (i := 8) sc_read_on.nd rfl (by first | exact Or.inl rfl | exact Or.inr rfl)) (pgs_cons (pg_name (i := 7) sc_read_on.nd rfl (by first | exact Or.inl rfl | exact Or.inr rfl)) pgs_nil))))
    (pss_cons (ps_aug (i := 6) sc_read_on.nd rfl (by first | exact Or.inl rfl | exact Or.inr rfl) (pv 8) ip_add)
    (pss_one (ps_aug (i := 5) sc_read_on.nd rfl (by first | exact Or.inl rfl | exact Or.inr rfl) pe_int ip_add)))))
    (pss_cons (ps_if (pt_cmpR op_lt (pv 5) (pe_callB call_len_str (by rfl) T.z_len PySem.boot_len (pa_cons (pv 3) pa_nil)) (nomark _))
      (pss_cons (ps_expr (pe_bm PySem.F.plainAttrs_list PySem.F.slot_list_append PySem.F.type_list_append mt_append (pv 2) (pa_cons (pe_tup (pa_cons (pv 4) (pa_cons (pv 5) (pa_cons (pv 6) (pa_cons (pv 7) pa_nil))))) pa_nil)))
    (pss_one (ps_ret (pe_tup (pa_cons (pv 7) (pa_cons (pe_ix ix_str (pv 3) (pv 5) (fun _ _ => rfl)) pa_nil))))))
      pss_nil)
    (pss_one (ps_dput (unit1 hr.units) (pv 1) (pv 4) (pe_tup (pa_cons (pv 6) (pa_cons (pv 7) pa_nil))) (by rfl))))))))
    (pss_one (ps_ret pe_non))), ?_⟩
    obtain ⟨v, d, l, z, f, ss, E0, O, S, row0, r0, m0, rest0, rfl, hv, ok, hF0, hL0, hR0, hW0, hM0, q⟩ := h
    have dl : d ≠ l := fun e => by
      obtain ⟨_, e1, _⟩ := hF0
      obtain ⟨_, e2, _⟩ := hL0
      rw [e, e2] at e1
      cases e1
    refine while_by (fun σ H' => ∃ (E : Ent) (row : List Re) (s3 s4 s5 s6 s7 s8 : Option V), σ = [some v, some (.ref d), some (.ref l), s3, s4, s5, s6, s7, s8] ∧ Keep [d, l] H H' ∧ Found [d, l] H' d E ∧ RowL [d, l] H' l row ∧ Meas z ss E O row S ∧
      ∀ r row1, row = r :: row1 → ∃ m rest, ReadTo z ss E r m rest ∧ Row z ss E row1 r.1)
      (fun _ H' => match H' l with | some (.lst us) => us.length | _ => 0) ?_ ?_ ?_
    · refine ⟨E0, r0 :: row0, _, _, _, _, _, _, rfl, Keep.refl, hF0, hL0, hM0, fun r row1 e => ?_⟩
      cases e
      exact ⟨m0, rest0, hR0, hW0⟩
    · rintro σ H1 ⟨E, row, s3, s4, s5, s6, s7, s8, rfl, k1, hF, ⟨xs, hl, hxs⟩, hM, hrow⟩
      refine ⟨_, rfl, _, .inl ⟨xs, SqL.of hl, rfl⟩, ?_⟩
      cases row with
      | nil =>
        obtain rfl := hxs.none
        refine if_false rfl ?_
        exact q H1 .non E [] k1 hF ⟨[], hl, .nil⟩ hM (.inl ⟨rfl, rfl⟩)
      | cons r row =>
        obtain ⟨m, rest, hR, hW⟩ := hrow r row rfl
        obtain ⟨ys, y, rfl, hys, pa, qa, rfl, hpa, hqa⟩ := hxs.top
        obtain ⟨c, p0, n0, g0⟩ := r
        refine if_true (by cases ys <;> rfl) ?_
        have hpa1 := (off_some hpa).2
        have npa := (off_some hpa).1
        have nqa := (off_some hqa).1
        have hqa1 := (off_some hqa).2
        refine ⟨_, rfl, .inl ⟨rfl, _, SqL.of hl⟩, l, _, .ref pa, rfl, rfl, hl, by rw [List.length_append, List.getElem?_append_right (by simp)]; simp, ?_⟩
        rw [List.dropLast_concat]
        have k2 : Keep [d, l] H1 (upd H1 l (.lst ys)) := Keep.pot (List.mem_cons_of_mem _ List.mem_cons_self)
        have hl2 : upd H1 l (.lst ys) l = some (.lst ys) := upd_same
        have hF2 : Found [d, l] (upd H1 l (.lst ys)) d E := hF.keep k2 (upd_ne dl)
        revert k2 hl2 hF2
        generalize upd H1 l (.lst ys) = H2
        intro k2 hl2 hF2
        have k02 := k1.trans k2
        have hpa2 := k2.at_ npa hpa1
        refine ⟨pa, _, rfl, SqT.of hpa2, rfl, _, _, rfl, _, _, rfl, _, _, rfl, _, _, rfl, rfl, ?_⟩
        have hqa2 : CallAt H2 qa c := k2.at_ nqa hqa1
        have gc : Good z ss c := by
          obtain ⟨_, _, e1, _⟩ := hR
          exact (mv_ok ok e1).1
        obtain ⟨ms, lst, kk, rst, e1, e2, e3⟩ := move_is (f := f) ok gc
        obtain ⟨xw, yw, emv, ex, ey, lx, ly, ax, ay, hg⟩ : ∃ x y : Str, moveD z ss c.1 c.2 = .tuple [.str x, .str y, .int (m.2.2 : Int)] ∧ m.1 = x.cps.toList ∧ m.2.1 = y.cps.toList ∧ x.length ≤ 2000 ∧ y.length ≤ 2000 ∧ allIn z x = true ∧ allIn z y = true ∧ m.2.2 < ss.length := by
          obtain ⟨_, _, e1, _⟩ := hR
          exact (mv_ok ok e1).2
        have hv2 : Dq K H2 v (.tuple [.str z, .str f, .tuple ss]) := hv.mono k02.same
        refine ⟨_, rfl, _, rfl, qa, _, 0, _, rfl, rfl, SqT.of hqa2, rfl, _, rfl, qa, _, 1, _, rfl, rfl, SqT.of hqa2, rfl, ?_⟩
        refine ⟨v, _, _, _, _, _, moveD z ss c.1 c.2, rfl, hv2, .int _, .str _, ⟨z, f, ss, c.1, Ls.one c.2, ms, lst, kk, rst, rfl, rfl, rfl, e1, e2, e3⟩, fun mr hmr => ?_⟩
        rw [emv] at hmr
        obtain ⟨pm, rfl, hpm⟩ := standV (a := xw) (b := yw) (s := m.2.2) hmr
        refine ⟨pm, _, 1, _, rfl, rfl, hpm, rfl, ?_⟩
        have lyl : yw.cps.toList.length = yw.length := by simp [Str.length]
        have lyz : yw.length ≤ sizeLine := Nat.le_trans ly (by decide)
        have at_ : ∀ (p n g dd : Nat) (rr : List Nat), ReadTo z ss E (c, p, n, g) m (dd :: rr) → yw.cps.toList[p]? = some dd := fun p n g dd rr h => by
          obtain ⟨la, w, _, e2, e3, _, _⟩ := h
          have e3 : la.length = p := e3
          rw [← ey, e2, ← e3, List.getElem?_append_right (Nat.le_refl _), Nat.sub_self]
          rfl
        have len_ : ∀ (p n g : Nat) (rr : List Nat), ReadTo z ss E (c, p, n, g) m rr → p + rr.length = yw.length := fun p n g rr h => by
          obtain ⟨la, w, _, e2, e3, _, _⟩ := h
          have e3 : la.length = p := e3
          rw [← lyl, ← ey, e2, List.length_append, e3]
        refine while_by (fun σ H' => ∃ (p n g : Nat) (rest : List Nat) (s8 : Option V), σ = [some v, some (.ref d), some (.ref l), some (.str yw), some (.ref qa), some (.int (p : Int)), some (.int (n : Int)), some (.int (g : Int)), s8] ∧ Same H2 H' ∧ ReadTo z ss E (c, p, n, g) m rest)
          (fun σ _ => match σ with | [_, _, _, _, _, some (.int p), _, _, _] => yw.length - p.toNat | _ => 0) ?_ ?_ ?_
        · exact ⟨p0, n0, g0, rest, _, rfl, Same.refl _, hR⟩
        · rintro σ H3 ⟨p, n, g, rest, s8, rfl, s3, hR3⟩
          have lp := len_ _ _ _ _ hR3
          refine ⟨_, rfl, _, rfl, yw, rfl, lyz, _, _, rfl, rfl, _, rfl, ?_⟩
          have hF3 := hF2.same s3
          have hl3 := s3 _ _ hl2
          have k03 := k02.trans (Keep.of s3)
          -- behind the inner loop
          cases rest with
          | nil =>
            have lp : p + 0 = yw.length := lp
            have en : decide ((p : Int) < (yw.length : Int)) = false := decide_eq_false (by omega)
            refine if_false en (if_false rfl ?_)
            refine ⟨_, rfl, _, rfl, yw, rfl, lyz, _, _, rfl, rfl, _, rfl, if_false en ?_⟩
            refine ⟨_, rfl, _, rfl, (by show 2 ≤ sizeLine; decide), fun pn np => ?_⟩
            have s4 := same_new (o := .tup [.int (n : Int), .int (g : Int)]) np
            have hpn : upd H3 pn (.tup [.int (n : Int), .int (g : Int)]) pn = some (.tup [.int (n : Int), .int (g : Int)]) := upd_same
            revert s4 hpn
            generalize upd H3 pn (.tup [.int (n : Int), .int (g : Int)]) = H4
            intro s4 hpn
            obtain ⟨kvs, hd4, hE4⟩ := hF3.same s4
            have hl4 := s4 _ _ hl3
            have hqa4 : CallAt H4 qa c := s4 _ _ (s3 _ _ hqa2)
            obtain ⟨w, ew, hM5⟩ := hM.further.done hR3
            have nlook := (hM.inRow _ List.mem_cons_self).2
            have nl : kvs.length < sizeLine := by
              rw [hE4.len]
              exact Nat.lt_of_le_of_lt (hM.closed.few ok) (by decide)
            refine ⟨_, rfl, _, rfl, d, _, rfl, DPut.t (k := ckey c) hd4 hqa4.key nl, ?_⟩
            have npn : pn ∉ [d, l] := fun z => by
              rcases List.mem_cons.1 z with e | z
              · rw [e, hd4] at hpn
                cases hpn
              · rw [List.mem_singleton.1 z, hl4] at hpn
                cases hpn
            have kP : Keep [d, l] H4 (upd H4 d (.dT (putK kvs (ckey c) (.ref pn)))) := Keep.pot List.mem_cons_self
            have kB := (k2.trans (Keep.of s3)).trans ((Keep.of s4).trans kP)
            have hlB : upd H4 d (.dT (putK kvs (ckey c) (.ref pn))) l = some (.lst ys) := (upd_ne (Ne.symm dl)).trans hl4
            refine ⟨⟨E ++ [(c, (w, g))], row, _, _, _, _, _, _, rfl, k1.trans kB, ⟨_, upd_same, (hE4.put nlook ⟨pn, rfl, off_of npn (ew ▸ hpn)⟩).mono kP⟩, ⟨ys, hlB, hys.mono kB⟩, hM5, fun r row1 er => ?_⟩, ?_⟩
            · subst er
              have hW' := hW.grow (F := E ++ [(c, (w, g))]) look_grow
              cases hW' with
              | cons a b => exact ⟨_, _, a, b⟩
            · rw [hlB, hl]
              show ys.length < (ys ++ [V.ref pa]).length
              rw [List.length_append]
              exact Nat.lt_succ_self _
          | cons dd rest =>
            have lp : p + (rest.length + 1) = yw.length := lp
            have en : decide ((p : Int) < (yw.length : Int)) = true := decide_eq_true (by omega)
            have aty := at_ _ _ _ _ _ hR3
            refine if_true en ⟨_, rfl, _, rfl, _, rfl, yw, _, dd, rfl, rfl, lyz, atI_nat aty, (by show 2 ≤ sizeLine; decide), fun pn np => ?_⟩
            have s4 := same_new (o := .tup [.int (g : Int), .str ⟨#[dd]⟩]) np
            have hpn : CallAt (upd H3 pn (.tup [.int (g : Int), .str ⟨#[dd]⟩])) pn (g, dd) := upd_same
            revert s4 hpn
            generalize upd H3 pn (.tup [.int (g : Int), .str ⟨#[dd]⟩]) = H4
            intro s4 hpn
            obtain ⟨kvs, hd4, hE4⟩ := hF3.same s4
            refine ⟨_, rfl, d, _, rfl, DGet.t (k := ckey (g, dd)) hd4 hpn.key, _, rfl, ?_⟩
            rcases hE4.get (g, dd) with ⟨vv, ww, e5, e6, e7⟩ | ⟨e5, e6⟩
            · rw [e5]
              refine if_true rfl ?_
              refine ⟨_, rfl, _, rfl, _, rfl, _, rfl, yw, _, dd, rfl, rfl, lyz, atI_nat aty, (by show 2 ≤ sizeLine; decide), fun pn2 np2 => ?_⟩
              have s5 := same_new (o := .tup [.int (g : Int), .str ⟨#[dd]⟩]) np2
              have hpn2 : CallAt (upd H4 pn2 (.tup [.int (g : Int), .str ⟨#[dd]⟩])) pn2 (g, dd) := upd_same
              revert s5 hpn2
              generalize upd H4 pn2 (.tup [.int (g : Int), .str ⟨#[dd]⟩]) = H5
              intro s5 hpn2
              refine ⟨d, vv, rfl, ?_, ?_⟩
              · rw [← e5]
                exact DGet.t (k := ckey (g, dd)) (s5 _ _ hd4) hpn2.key
              · obtain ⟨pw, rfl, e8⟩ := e7
                have e9 := s5 _ _ (off_some e8).2
                refine ⟨pw, _, rfl, SqT.of e9, rfl, _, _, rfl, _, _, rfl, rfl, ?_⟩
                refine ⟨_, rfl, _, rfl, _, _, rfl, rfl, ?_⟩
                refine ⟨_, rfl, _, _, rfl, rfl, ?_⟩
                refine ⟨⟨p + 1, n + ww.1.length, ww.2, rest, _, rfl, Same.trans s3 (Same.trans s4 s5), hR3.go e6⟩, ?_⟩
                show yw.length - ((p : Int) + 1).toNat < yw.length - (p : Int).toNat
                omega
            · rw [e5]
              refine if_false rfl ?_
              have hl4 := s4 _ _ hl3
              refine ⟨_, rfl, _, rfl, yw, rfl, lyz, _, _, rfl, rfl, _, rfl, if_true en ?_⟩
              refine ⟨_, rfl, .inl ⟨rfl, _, SqL.of hl4⟩, _, rfl, _, rfl, _, rfl, _, rfl, (by show 4 ≤ sizeLine; decide), fun pe npe => ?_⟩
              have s5 := same_new (o := .tup [.ref qa, .int (p : Int), .int (n : Int), .int (g : Int)]) npe
              have hpe : upd H4 pe (.tup [.ref qa, .int (p : Int), .int (n : Int), .int (g : Int)]) pe = some (.tup [.ref qa, .int (p : Int), .int (n : Int), .int (g : Int)]) := upd_same
              revert s5 hpe
              generalize upd H4 pe (.tup [.ref qa, .int (p : Int), .int (n : Int), .int (g : Int)]) = H5
              intro s5 hpe
              have hl5 := s5 _ _ hl4
              have hd5 := s5 _ _ hd4
              have hqa5 : CallAt H5 qa c := s5 _ _ (s4 _ _ (s3 _ _ hqa2))
              have kA := (Keep.of (S := [d, l]) s3).trans ((Keep.of s4).trans (Keep.of s5))
              have hys5 := hys.mono (k2.trans kA)
              have npe' : pe ∉ [d, l] := fun z => by
                rcases List.mem_cons.1 z with e | z
                · rw [e, hd5] at hpe
                  cases hpe
                · rw [List.mem_singleton.1 z, hl5] at hpe
                  cases hpe
              have lys : ys.length < sizeLine := by
                rw [hys.len]
                exact Nat.lt_of_le_of_lt (hM.few ok (fun r hr => by
                  rcases List.mem_cons.1 hr with rfl | hr
                  · exact gc
                  · exact hW.good ok r hr) |> Nat.le_trans (Nat.le_succ _)) (by decide)
              refine ⟨l, ys, _, rfl, rfl, hl5, lys, ?_⟩
              have k6 : Keep [d, l] H5 (upd H5 l (.lst (ys ++ [.ref pe]))) := Keep.pot (List.mem_cons_of_mem _ List.mem_cons_self)
              have hl6 : upd H5 l (.lst (ys ++ [.ref pe])) l = some (.lst (ys ++ [.ref pe])) := upd_same
              have hd6 : upd H5 l (.lst (ys ++ [.ref pe])) d = some (.dT kvs) := (upd_ne dl).trans hd5
              revert k6 hl6 hd6
              generalize upd H5 l (.lst (ys ++ [.ref pe])) = H6
              intro k6 hl6 hd6
              refine ⟨_, rfl, _, rfl, _, rfl, yw, _, dd, rfl, rfl, lyz, atI_nat aty, (by show 2 ≤ sizeLine; decide), fun pr npr => ?_⟩
              have s7 := same_new (o := .tup [.int (g : Int), .str ⟨#[dd]⟩]) npr
              have hpr : CallAt (upd H6 pr (.tup [.int (g : Int), .str ⟨#[dd]⟩])) pr (g, dd) := upd_same
              revert s7 hpr
              generalize upd H6 pr (.tup [.int (g : Int), .str ⟨#[dd]⟩]) = H7
              intro s7 hpr
              have hd7 := s7 _ _ hd6
              have hl7 := s7 _ _ hl6
              have npr' : pr ∉ [d, l] := fun z => by
                rcases List.mem_cons.1 z with e | z
                · have hpr' : H7 pr = some (.tup [.int (g : Int), .str (Ls.one dd)]) := hpr
                  rw [e, hd7] at hpr'
                  cases hpr'
                · have hpr' : H7 pr = some (.tup [.int (g : Int), .str (Ls.one dd)]) := hpr
                  rw [List.mem_singleton.1 z, hl7] at hpr'
                  cases hpr'
              have kC := kA.trans (k6.trans (Keep.of s7))
              obtain ⟨gg, gr⟩ := hR3.good ok hM.closed
              refine q H7 (.ref pr) E ((c, p, n, g) :: row) (k02.trans kC) ⟨kvs, hd7, hE4.mono ((Keep.of s5).trans (k6.trans (Keep.of s7)))⟩ ⟨ys ++ [.ref pe], hl7, .snoc (hys5.mono (k6.trans (Keep.of s7))) (ReAt.mono ⟨pe, qa, rfl, off_of npe' hpe, off_of nqa hqa5⟩ (k6.trans (Keep.of s7)))⟩ hM.further (.inr ⟨(g, dd), pr, rfl, off_of npr' hpr, ⟨gg, gr dd List.mem_cons_self⟩, e6, .cons hR3 hW⟩)
        · rintro σ H' Q1 Q2 hQ h
          obtain ⟨v1, e1, v2, e2, y1, e3, e4, i, j, e5, e6, k, e7, h⟩ := h
          refine ⟨v1, e1, v2, e2, y1, e3, e4, i, j, e5, e6, k, e7, ?_⟩
          cases k with
          | false => exact hQ _ _ h
          | true =>
            obtain ⟨u1, e1, u2, e2, u3, e3, zz, ii, cc, e4, e5, e6, e7, e8, h⟩ := h
            refine ⟨u1, e1, u2, e2, u3, e3, zz, ii, cc, e4, e5, e6, e7, e8, fun p np => ?_⟩
            obtain ⟨u4, e9, a, o, e10, e11, kk, e12, h⟩ := h p np
            exact ⟨u4, e9, a, o, e10, e11, kk, e12, hQ _ _ h⟩
    · rintro σ H' Q1 Q2 hQ h
      obtain ⟨v, hv, k, e2, h⟩ := h
      exact ⟨v, hv, k, e2, hQ _ _ h⟩
end
end K14

namespace K14
open PySem PySem.Spec PyProof.Rows L2 G Lk
section
variable {P : Program} {w : World} {K : PySem.W.Frag} {mg : Str → Option Value} {base : Heap}
def sp_measure (K : PySem.W.Frag) : Sp := fun vs H Q _ => ∃ (v : V) (d o pc : Addr) (z f : Str) (ss : List PyData) (E : Ent) (OL : List Cl) (S : Cl → Prop) (c : Cl),
  vs = [v, .ref d, .ref o, .ref pc] ∧ Dq K (off [d, o] H) v (.tuple [.str z, .str f, .tuple ss]) ∧ StatesOk z ss ∧ d ≠ o ∧ Found [d, o] H d E ∧ Opened H o OL ∧ Calls z ss OL ∧ CallAt (off [d, o] H) pc c ∧ Good z ss c ∧ Meas z ss E (fun x => x ∈ OL) [] S ∧
  ∀ H' E' OL' S', Keep [d, o] H H' → Found [d, o] H' d E' → Opened H' o OL' → Calls z ss OL' → (∀ x ∈ OL, x ∈ OL') → c ∈ OL' → Meas z ss E' (fun x => x ∈ OL') [] S' → Q .non H'
/-- def _measure(expander, found, opened, call): -/
theorem ok_measure (T : Tx K mg) : FnOk P w K mg base CX0 3 T.a__measure T.fd__measure ["expander", "found", "opened", "call"] (sp_measure K) := by
  refine T.F__measure.ok sc_measure (fun vs H Q E h => ?_) (fun cdv A outer s H vs Q E hr h => ?_)
  · obtain ⟨_, _, _, _, _, _, _, _, _, _, _, rfl, _⟩ := h
    rfl
  · refine ⟨_, (pss_cons (ps_set (i := 4) sc_measure.nd rfl (by first | exact Or.inl rfl | exact Or.inr rfl) (pe_lst pa_nil))
    (pss_one (ps_while PassesOwn.never (PW.pt (pw_and (pt_cmpR op_notN (pv 3) pe_non (nomark _)) (pw_and1 (pt_cmp (pc_dnotin (unit1 hr.units) (pv 3) (pv 2))))))
      (pss_cons (ps_dput (unit1 hr.units) (pv 2) (pv 3) pe_bl (by rfl))
    (pss_cons (ps_set (i := 5) sc_measure.nd rfl (by first | exact Or.inl rfl | exact Or.inr rfl) (pe_call (ok_move_of T) (hr.mono (by decide)) (by rfl) T.g_move_of T.F_move_of.kp T.b_move_of .nil pass0 (pa_cons (pv 0) (pa_cons (pe_ix ix_tup (pv 3) pe_int (fun _ _ => rfl)) (pa_cons (pe_ix ix_tup (pv 3) pe_int (fun _ _ => rfl)) pa_nil)))))
    (pss_cons (ps_if (pt_cmpR op_isN (pv 5) pe_non (nomark _))
      (pss_one ps_retN)
      pss_nil)
    (pss_cons (ps_expr (pe_bm PySem.F.plainAttrs_list PySem.F.slot_list_append PySem.F.type_list_append mt_append (pv 4) (pa_cons (pe_tup (pa_cons (pv 3) (pa_cons pe_int (pa_cons (pe_callB call_len_str (by rfl) T.z_len PySem.boot_len (pa_cons (pe_ix ix_tup (pv 5) pe_int (fun _ _ => rfl)) pa_nil)) (pa_cons (pe_ix ix_tup (pv 5) pe_int (fun _ _ => rfl)) pa_nil))))) pa_nil)))
    (pss_one (ps_set (i := 3) sc_measure.nd rfl (by first | exact Or.inl rfl | exact Or.inr rfl) (pe_call (ok_read_on T) (hr.mono (by decide)) (by rfl) T.g__read_on T.F__read_on.kp T.b__read_on .nil pass0 (pa_cons (pv 0) (pa_cons (pv 1) (pa_cons (pv 4) pa_nil))))))))))))), ?_⟩
    obtain ⟨v, d, o, pc, z, f, ss, E0, OL0, S0, c0, rfl, hv, ok, do_, hF0, hO0, hC0, hpc, gc0, hM0, q⟩ := h
    refine ⟨Nat.zero_le _, fun l nl => ?_⟩
    have s1 := same_new (o := .lst []) nl
    have hl1 : upd H l (.lst []) l = some (.lst []) := upd_same
    revert s1 hl1
    generalize upd H l (.lst []) = H1
    intro s1 hl1
    have ld : l ≠ d := fun e => by
      obtain ⟨_, h1, _⟩ := hF0
      rw [← e, nl] at h1
      cases h1
    have lo : l ≠ o := fun e => by
      obtain ⟨_, h1, _⟩ := hO0
      rw [← e, nl] at h1
      cases h1
    have fin : ∀ {H'}, Keep [d, o, l] H1 H' → Keep [d, o] H H' := fun k => Keep.drop s1 k fun a ha => by
      rcases List.mem_cons.1 ha with rfl | ha
      · exact .inl List.mem_cons_self
      · rcases List.mem_cons.1 ha with rfl | ha
        · exact .inl (List.mem_cons_of_mem _ List.mem_cons_self)
        · obtain rfl := List.mem_singleton.1 ha
          exact .inr nl
    have hd1 : Found [d, o] H1 d E0 := hF0.same s1
    have ho1 : Opened H1 o OL0 := hO0.same (by
      obtain ⟨_, h1, _⟩ := hO0
      rw [h1]
      exact s1 _ _ h1)
    have nt1 : ∀ a ∈ [d, o, l], NoTup H1 a := fun a ha => by
      rcases List.mem_cons.1 ha with rfl | ha
      · exact hd1.noTup
      · rcases List.mem_cons.1 ha with rfl | ha
        · exact ho1.noTup
        · obtain rfl := List.mem_singleton.1 ha
          exact .lst hl1
    have hv1 : Dq K (off [d, o, l] H1) v (.tuple [.str z, .str f, .tuple ss]) := hv.mono fun b u e => by
      obtain ⟨n, e⟩ := off_some e
      refine off_of (fun hb => ?_) (s1 b u e)
      rcases List.mem_cons.1 hb with rfl | hb
      · exact n List.mem_cons_self
      · rcases List.mem_cons.1 hb with rfl | hb
        · exact n (List.mem_cons_of_mem _ List.mem_cons_self)
        · rw [List.mem_singleton.1 hb, nl] at e
          cases e
    refine while_by (fun σ H' => ∃ (E : Ent) (OL : List Cl) (row : List Re) (S : Cl → Prop) (cv : V) (s5 : Option V), σ = [some v, some (.ref d), some (.ref o), some cv, some (.ref l), s5] ∧ Keep [d, o, l] H1 H' ∧ Found [d, o, l] H' d E ∧ Opened H' o OL ∧ Calls z ss OL ∧
      RowL [d, o, l] H' l row ∧ Meas z ss E (fun x => x ∈ OL) row S ∧ (∀ x ∈ OL0, x ∈ OL) ∧
      ((cv = .non ∧ row = [] ∧ c0 ∈ OL) ∨ ∃ c p, cv = .ref p ∧ CallAt (off [d, o, l] H') p c ∧ Good z ss c ∧ Row z ss E row c ∧ (c0 ∈ OL ∨ c0 = c) ∧ (row = [] ∨ look E c = none)))
      (fun _ H' => match H' o with | some (.dT kvs) => 241 - kvs.length | _ => 0) ?_ ?_ ?_
    · exact ⟨E0, OL0, [], S0, .ref pc, _, rfl, Keep.refl, hd1.any nt1, ho1, hC0, ⟨[], hl1, .nil⟩, hM0, fun x h => h, .inr ⟨c0, pc, rfl, CallAt.out (s1 _ _ (off_some hpc).2) nt1, gc0, .nil c0, .inr rfl, .inl rfl⟩⟩
    · rintro σ H2 ⟨E, OL, row, S, cv, s5, rfl, k2, hF2, hO2, hC2, hL2, hM2, hin, hcv⟩
      have nt2 : ∀ a ∈ [d, o, l], NoTup H2 a := fun a ha => by
        rcases List.mem_cons.1 ha with rfl | ha
        · exact hF2.noTup
        · rcases List.mem_cons.1 ha with rfl | ha
          · exact hO2.noTup
          · obtain rfl := List.mem_singleton.1 ha
            exact hL2.noTup
      have nt2' : ∀ a ∈ [d, o], NoTup H2 a := fun a ha => nt2 a (by
        rcases List.mem_cons.1 ha with rfl | ha
        · exact List.mem_cons_self
        · obtain rfl := List.mem_singleton.1 ha
          exact List.mem_cons_of_mem _ List.mem_cons_self)
      rcases hcv with ⟨rfl, rfl, h0⟩ | ⟨c, p, rfl, hp, gc, hW, h0, hn⟩
      · refine ⟨_, rfl, rfl, _, rfl, if_false rfl (if_false rfl ?_)⟩
        exact q H2 E OL S (fin k2) (hF2.any nt2') hO2 hC2 hin h0 hM2
      · refine ⟨_, rfl, rfl, _, rfl, if_true rfl ?_⟩
        obtain ⟨kvs, ho2, hkeys⟩ := hO2
        have hp2 : CallAt H2 p c := (off_some hp).2
        refine ⟨_, rfl, _, rfl, o, _, rfl, DGet.t (k := ckey c) ho2 hp2.key, _, rfl, ?_⟩
        by_cases hc : c ∈ OL
        · rw [(opened_get hkeys c).2 hc]
          refine if_false rfl ?_
          rcases hn with rfl | hn
          · refine q H2 E OL S (fin k2) (hF2.any nt2') ⟨kvs, ho2, hkeys⟩ hC2 hin ?_ hM2
            rcases h0 with h0 | rfl
            · exact h0
            · exact hc
          · refine q H2 E OL _ (fin k2) (hF2.any nt2') ⟨kvs, ho2, hkeys⟩ hC2 hin ?_ (hM2.waits hW hc hn)
            rcases h0 with h0 | rfl
            · exact h0
            · exact hc
        · have e1 : (valV kvs (ckey c)).isSome = false := by
            cases e : (valV kvs (ckey c)).isSome with
            | false => rfl
            | true => exact absurd ((opened_get hkeys c).1 e) hc
          rw [e1]
          refine if_true rfl ?_
          have lk := opened_len hkeys
          have l240 := (hC2.snoc hc gc).few ok
          rw [List.length_append] at l240
          have l240 : OL.length + 1 ≤ 240 := l240
          refine ⟨_, rfl, _, rfl, o, _, rfl, DPut.t (k := ckey c) ho2 hp2.key (Nat.lt_of_lt_of_le (show kvs.length < 240 by omega) (by decide)), ?_⟩
          have k3 : Keep [d, o, l] H2 (upd H2 o (.dT (putK kvs (ckey c) (.bl true)))) := Keep.pot (List.mem_cons_of_mem _ List.mem_cons_self)
          have ho3 : upd H2 o (.dT (putK kvs (ckey c) (.bl true))) o = some (.dT (putK kvs (ckey c) (.bl true))) := upd_same
          have hF3 : Found [d, o, l] (upd H2 o (.dT (putK kvs (ckey c) (.bl true)))) d E := hF2.keep k3 (upd_ne do_)
          have hL3 : RowL [d, o, l] (upd H2 o (.dT (putK kvs (ckey c) (.bl true)))) l row := hL2.keep k3 (upd_ne lo)
          have hO3 : Opened (upd H2 o (.dT (putK kvs (ckey c) (.bl true)))) o (OL ++ [c]) := ⟨_, ho3, opened_put hkeys hc _⟩
          have lk3 : (putK kvs (ckey c) (.bl true)).length = OL.length + 1 := by
            rw [opened_len (opened_put hkeys hc (.bl true)), List.length_append]
            rfl
          revert k3 ho3 hF3 hL3 hO3 lk3
          generalize putK kvs (ckey c) (.bl true) = kvs3
          generalize upd H2 o (.dT kvs3) = H3
          intro k3 ho3 hF3 hL3 hO3 lk3
          have k13 := k2.trans k3
          have hp3 : CallAt H3 p c := k3.at_ (off_some hp).1 hp2
          have hC3 := hC2.snoc hc gc
          have hin3 : ∀ x ∈ OL0, x ∈ OL ++ [c] := fun x h => List.mem_append_left _ (hin x h)
          have h03 : c0 ∈ OL ++ [c] := by
            rcases h0 with h0 | rfl
            · exact List.mem_append_left _ h0
            · exact List.mem_append_right _ List.mem_cons_self
          have omem : ∀ x : Cl, (x ∈ OL ∨ x = c) ↔ x ∈ OL ++ [c] := fun x => by
            rw [List.mem_append, List.mem_singleton]
          obtain ⟨ms, lst, kk, rst, e1, e2, e3⟩ := move_is (f := f) ok gc
          have hv3 : Dq K H3 v (.tuple [.str z, .str f, .tuple ss]) := (hv1.mono k13).mono off_same
          refine ⟨_, rfl, _, rfl, p, _, 0, _, rfl, rfl, SqT.of hp3, rfl, _, rfl, p, _, 1, _, rfl, rfl, SqT.of hp3, rfl, ?_⟩
          refine ⟨v, _, _, _, _, _, moveD z ss c.1 c.2, rfl, hv3, .int _, .str _, ⟨z, f, ss, c.1, Ls.one c.2, ms, lst, kk, rst, rfl, rfl, rfl, e1, e2, e3⟩, fun mr hmr => ?_⟩
          refine ⟨_, rfl, rfl, _, rfl, ?_⟩
          cases emv : mv z ss c with
          | none =>
            rw [mv_none ok gc.1 gc.2 emv] at hmr
            obtain rfl := hmr.noneV
            refine if_true rfl ?_
            have nt3' : ∀ a ∈ [d, o], NoTup H3 a := fun a ha => by
              rcases List.mem_cons.1 ha with rfl | ha
              · exact hF3.noTup
              · obtain rfl := List.mem_singleton.1 ha
                exact hO3.noTup
            exact q H3 E (OL ++ [c]) _ (fin k13) (hF3.any nt3') hO3 hC3 hin3 h03 ((hM2.breaks hW hc emv).congr omem)
          | some m =>
            obtain ⟨_, x, y, emd, ex, ey, lx, ly, ax, ay, hg⟩ := mv_ok ok emv
            rw [emd] at hmr
            obtain ⟨pm, rfl, hpm⟩ := standV (a := x) (b := y) (s := m.2.2) hmr
            refine if_false rfl ?_
            obtain ⟨us, hl3, hus⟩ := hL3
            refine ⟨_, rfl, .inl ⟨rfl, _, SqL.of hl3⟩, _, rfl, _, rfl, pm, _, 0, _, rfl, rfl, hpm, rfl, x, rfl, Nat.le_trans lx (by decide), _, rfl, pm, _, 2, _, rfl, rfl, hpm, rfl, (by show 4 ≤ sizeLine; decide), fun pe npe => ?_⟩
            have s4 := same_new (o := .tup [.ref p, .int 0, .int (x.length : Int), .int (m.2.2 : Int)]) npe
            have hpe : upd H3 pe (.tup [.ref p, .int 0, .int (x.length : Int), .int (m.2.2 : Int)]) pe = some (.tup [.ref p, .int 0, .int (x.length : Int), .int (m.2.2 : Int)]) := upd_same
            revert s4 hpe
            generalize upd H3 pe (.tup [.ref p, .int 0, .int (x.length : Int), .int (m.2.2 : Int)]) = H4
            intro s4 hpe
            have hl4 := s4 _ _ hl3
            have hF4 := hF3.same s4
            have ho4 := s4 _ _ ho3
            have hO4 : Opened H4 o (OL ++ [c]) := hO3.same (ho4.trans ho3.symm)
            have nt4 : ∀ a ∈ [d, o, l], NoTup H4 a := fun a ha => by
              rcases List.mem_cons.1 ha with rfl | ha
              · exact hF4.noTup
              · rcases List.mem_cons.1 ha with rfl | ha
                · exact hO4.noTup
                · obtain rfl := List.mem_singleton.1 ha
                  exact .lst hl4
            have hre : ReAt (off [d, o, l] H4) (.ref pe) (c, 0, m.1.length, m.2.2) := by
              refine ⟨pe, p, rfl, tup_off ?_ nt4, CallAt.out (s4 _ _ hp3) nt4⟩
              have elx : m.1.length = x.length := by
                rw [ex]
                simp [Str.length]
              show H4 pe = some (.tup [.ref p, .int ((0 : Nat) : Int), .int (m.1.length : Int), .int (m.2.2 : Int)])
              rw [elx]
              exact hpe
            have lus : us.length < sizeLine := by
              rw [hus.len]
              exact Nat.lt_of_le_of_lt (hM2.few ok (hW.good ok)) (by decide)
            refine ⟨l, us, _, rfl, rfl, hl4, lus, ?_⟩
            have k5 : Keep [d, o, l] H4 (upd H4 l (.lst (us ++ [.ref pe]))) := Keep.pot (List.mem_cons_of_mem _ (List.mem_cons_of_mem _ List.mem_cons_self))
            have hL5 : RowL [d, o, l] (upd H4 l (.lst (us ++ [.ref pe]))) l ((c, 0, m.1.length, m.2.2) :: row) := ⟨_, upd_same, .snoc ((hus.mono (Keep.of s4)).mono k5) (hre.mono k5)⟩
            have hF5 : Found [d, o, l] (upd H4 l (.lst (us ++ [.ref pe]))) d E := hF4.keep k5 (upd_ne ld.symm)
            have ho5 : upd H4 l (.lst (us ++ [.ref pe])) o = some (.dT kvs3) := (upd_ne lo.symm).trans ho4
            have hO5 : Opened (upd H4 l (.lst (us ++ [.ref pe]))) o (OL ++ [c]) := hO4.same (ho5.trans ho4.symm)
            revert k5 hL5 hF5 ho5 hO5
            generalize upd H4 l (.lst (us ++ [.ref pe])) = H5
            intro k5 hL5 hF5 ho5 hO5
            have k15 := k13.trans ((Keep.of s4).trans k5)
            have nt5 : ∀ a ∈ [d, l], NoTup H5 a := fun a ha => by
              rcases List.mem_cons.1 ha with rfl | ha
              · exact hF5.noTup
              · obtain rfl := List.mem_singleton.1 ha
                exact hL5.noTup
            have sub3 : ∀ a ∈ [d, l], a ∈ [d, o, l] := fun a ha => by
              rcases List.mem_cons.1 ha with rfl | ha
              · exact List.mem_cons_self
              · obtain rfl := List.mem_singleton.1 ha
                exact List.mem_cons_of_mem _ (List.mem_cons_of_mem _ List.mem_cons_self)
            have hv5 : Dq K (off [d, l] H5) v (.tuple [.str z, .str f, .tuple ss]) := (hv1.mono k15).mono (off_less sub3)
            refine ⟨_, rfl, _, rfl, _, rfl, ?_⟩
            refine ⟨v, d, l, z, f, ss, E, _, S, row, (c, 0, m.1.length, m.2.2), m, m.2.1, rfl, hv5, ok, hF5.any nt5, hL5.any nt5, ReadTo.first emv, hW, (hM2.push hc).congr omem, fun H6 v6 E6 row6 k6 hF6 hL6 hM6 hv6 => ?_⟩
            have ho6 : H6 o = some (.dT kvs3) := k6.at_ (fun ha => by
              rcases List.mem_cons.1 ha with e | ha
              · exact do_ e.symm
              · exact lo (List.mem_singleton.1 ha).symm) ho5
            have hO6 : Opened H6 o (OL ++ [c]) := hO5.same (ho6.trans ho5.symm)
            have nt6 : ∀ a ∈ [d, o, l], NoTup H6 a := fun a ha => by
              rcases List.mem_cons.1 ha with rfl | ha
              · exact hF6.noTup
              · rcases List.mem_cons.1 ha with rfl | ha
                · exact hO6.noTup
                · obtain rfl := List.mem_singleton.1 ha
                  exact hL6.noTup
            refine ⟨⟨E6, OL ++ [c], row6, S, v6, _, rfl, k15.trans (k6.more sub3), hF6.any nt6, hO6, hC3, hL6.any nt6, hM6, hin3, ?_⟩, ?_⟩
            · rcases hv6 with ⟨e, e'⟩ | ⟨c6, p6, e, h1, h2, h3, h4⟩
              · exact .inl ⟨e, e', h03⟩
              · exact .inr ⟨c6, p6, e, h1.any nt6, h2, h4, .inl h03, .inr h3⟩
            · rw [ho6, ho2]
              show 241 - kvs3.length < 241 - kvs.length
              omega
    · rintro σ H' Q1 Q2 hQ h
      obtain ⟨v1, e1, e2, k, e3, h⟩ := h
      refine ⟨v1, e1, e2, k, e3, ?_⟩
      cases k with
      | false => exact hQ _ _ h
      | true =>
        obtain ⟨v2, e4, v3, e5, a, oo, e6, e7, kk, e8, h⟩ := h
        exact ⟨v2, e4, v3, e5, a, oo, e6, e7, kk, e8, hQ _ _ h⟩
end
end K14

namespace K14
open PySem PySem.Spec PyProof.Rows L2 G Lk
section
variable {P : Program} {w : World} {K : PySem.W.Frag} {mg : Str → Option Value} {base : Heap}
def sp_sizes_of (K : PySem.W.Frag) : Sp := fun vs H Q _ => ∃ (v : V) (z f : Str) (ss : List PyData), vs = [v] ∧ Dq K H v (.tuple [.str z, .str f, .tuple ss]) ∧ StatesOk z ss ∧
  ∀ (H' : Hp) (d : Addr) (E : Ent), Same H H' → H d = none → Found [d] H' d E → Closed z ss E → (∀ c, Good z ss c → ∀ w, Val z ss c w ↔ look E c = some w) → Q (.ref d) H'
/-- def sizes_of(expander): -/
theorem ok_sizes_of (T : Tx K mg) : FnOk P w K mg base CX0 4 T.a_sizes_of T.fd_sizes_of ["expander"] (sp_sizes_of K) := by
  refine T.F_sizes_of.ok sc_sizes_of (fun vs H Q E h => ?_) (fun cdv A outer s H vs Q E hr h => ?_)
  · obtain ⟨_, _, _, _, rfl, _⟩ := h
    rfl
  · refine ⟨_, (pss_cons (ps_set (i := 1) sc_sizes_of.nd rfl (by first | exact Or.inl rfl | exact Or.inr rfl) pe_dnewT)
    (pss_cons (ps_set (i := 2) sc_sizes_of.nd rfl (by first | exact Or.inl rfl | exact Or.inr rfl) pe_dnewT)
    (pss_cons (ps_for PassesOwn.never rfl (pi_list (pe_call (ok_all_calls T) (hr.mono (by decide)) (by rfl) T.g_all_calls T.F_all_calls.kp T.b_all_calls .nil pass0 (pa_cons (pv 0) pa_nil))) (pg_name (i := 3) sc_sizes_of.nd rfl (by first | exact Or.inl rfl | exact Or.inr rfl))
      (pss_one (ps_expr (pe_call (ok_measure T) (hr.mono (by decide)) (by rfl) T.g__measure T.F__measure.kp T.b__measure .nil pass0 (pa_cons (pv 0) (pa_cons (pv 1) (pa_cons (pv 2) (pa_cons (pv 3) pa_nil))))))))
    (pss_one (ps_ret (pv 1)))))), ?_⟩
    obtain ⟨v, z, f, ss, rfl, hv, ok, q⟩ := h
    intro d nd
    have s1 := same_new (o := .dT []) nd
    have hd1 : upd H d (.dT []) d = some (.dT []) := upd_same
    revert s1 hd1
    generalize upd H d (.dT []) = H1
    intro s1 hd1 o no
    have s2 := same_new (o := .dT []) no
    have ho2 : upd H1 o (.dT []) o = some (.dT []) := upd_same
    revert s2 ho2
    generalize upd H1 o (.dT []) = H2
    intro s2 ho2
    have hd2 := s2 _ _ hd1
    have s12 := Same.trans s1 s2
    have do_ : d ≠ o := fun e => by
      rw [← e, hd1] at no
      cases no
    have no' : H o = none := by
      cases e : H o with
      | none => rfl
      | some u =>
        rw [s1 _ _ e] at no
        cases no
    refine ⟨_, rfl, v, z, f, ss, rfl, hv.mono s12, ok, fun H3 r xs s3 nr hr hxs => ?_⟩
    have fresh : ∀ {H' : Hp}, Keep [d, o] H3 H' → Same H (off [d, o] H') := fun {H'} k b u e => by
      have n : b ∉ [d, o] := fun z => by
        rcases List.mem_cons.1 z with rfl | z
        · rw [nd] at e
          cases e
        · rw [List.mem_singleton.1 z, no'] at e
          cases e
      exact k _ _ (off_of n (s3 _ _ (s12 _ _ e)))
    have rd_ : r ≠ d := fun e => by
      rw [e, hd2] at nr
      cases nr
    have ro : r ≠ o := fun e => by
      rw [e, ho2] at nr
      cases nr
    have nr' : r ∉ [d, o] := fun z => by
      rcases List.mem_cons.1 z with e | z
      · exact rd_ e
      · exact ro (List.mem_singleton.1 z)
    have hF3 : Found [d, o] H3 d [] := ⟨[], s3 _ _ hd2, .nil⟩
    have hO3 : Opened H3 o [] := ⟨[], s3 _ _ ho2, rfl⟩
    have nt : ∀ {H' : Hp} {E OL}, Found [d, o] H' d E → Opened H' o OL → ∀ a ∈ [d, o], NoTup H' a := fun h1 h2 a ha => by
      rcases List.mem_cons.1 ha with rfl | ha
      · exact h1.noTup
      · obtain rfl := List.mem_singleton.1 ha
        exact h2.noTup
    refine ⟨r, rfl, ⟨xs, SqL.of hr⟩, for_list (xs := xs) (fun i σ H' => ∃ (E : Ent) (OL : List Cl) (S : Cl → Prop) (s3 : Option V), σ = [some v, some (.ref d), some (.ref o), s3] ∧ Keep [d, o] H3 H' ∧ Found [d, o] H' d E ∧ Opened H' o OL ∧ Calls z ss OL ∧
      Meas z ss E (fun x => x ∈ OL) [] S ∧ ∀ x ∈ (callsOf z ss.length).take i, x ∈ OL)
      ⟨[], [], fun _ => False, _, rfl, Keep.refl, hF3, hO3, ⟨.nil, fun _ h => nomatch h⟩, Meas.start.congr fun c => ⟨fun h => h.elim, fun h => nomatch h⟩, fun x h => by rw [List.take_zero] at h; cases h⟩
      (fun i σ H' _ ⟨_, _, _, _, _, k, _⟩ => SqL.of (k.at_ nr' hr)) ?_ ?_⟩
    · rintro i x σ H4 hx ⟨E, OL, S, s3', rfl, k4, hF4, hO4, hC4, hM4, hin⟩
      obtain ⟨p, c, rfl, hc, hp⟩ := hxs.get hx
      have hp' : CallAt (off [d, o] H4) p c := k4 _ _ (tup_off hp (nt hF3 hO3))
      have gc : Good z ss c := callsOf_mem.1 (List.mem_of_getElem? hc)
      refine ⟨_, rfl, _, rfl, _, rfl, _, rfl, ?_⟩
      refine ⟨v, d, o, p, z, f, ss, E, OL, S, c, rfl, hv.mono (fresh k4), ok, do_, hF4, hO4, hC4, hp', gc, hM4, fun H5 E5 OL5 S5 k5 hF5 hO5 hC5 in5 c5 hM5 => ?_⟩
      refine ⟨E5, OL5, S5, _, rfl, k4.trans k5, hF5, hO5, hC5, hM5, fun y hy => ?_⟩
      rw [List.take_add_one, hc] at hy
      rcases List.mem_append.1 hy with hy | hy
      · exact in5 y (hin y hy)
      · obtain rfl := List.mem_singleton.1 hy
        exact c5
    · rintro σ H4 ⟨E, OL, S, s3', rfl, k4, hF4, hO4, hC4, hM4, hin⟩
      refine ⟨_, rfl, ?_⟩
      refine q H4 d E (Same.trans (fresh k4) off_same) nd (hF4.any fun a ha => by
        obtain rfl := List.mem_singleton.1 ha
        exact hF4.noTup) hM4.closed fun c gc w => hM4.all (hin c ?_)
      rw [hxs.len, List.take_length]
      exact callsOf_mem.2 gc
end
end K14

namespace K14
open PySem PySem.Spec PyProof.Rows L2 G Lk
section
variable {P : Program} {w : World} {K : PySem.W.Frag} {mg : Str → Option Value} {base : Heap}
def sp_values_of (K : PySem.W.Frag) (mg : Str → Option Value) (T : Tx K mg) : Sp := fun vs H Q X => ∃ (v : V) (z f : Str) (ss : List PyData), vs = [v] ∧ Dq K H v (.tuple [.str z, .str f, .tuple ss]) ∧ StatesOk z ss ∧
  ((∃ c w, Val z ss c w ∧ 2000 < w.1.length) → tooManyE T.a_TooMany X H 2000) ∧
  ((∀ c w, Val z ss c w → w.1.length ≤ 2000) → ∀ (H' : Hp) (d : Addr) (E : Ent), Same H H' → H d = none → ValD [d] H' d E → Closed z ss E → (∀ c, Good z ss c → ∀ w, Val z ss c w ↔ look E c = some w) → Q (.ref d) H')
/-- def values_of(expander): -/
theorem ok_values_of (T : Tx K mg) : FnOk P w K mg base (L2.CX P w) 5 T.a_values_of T.fd_values_of ["expander"] (sp_values_of K mg T) := by
  refine T.F_values_of.okX sc_values_of (fun vs H Q E h => ?_) (fun cdv A outer s H vs Q E hr h => ?_)
  · obtain ⟨_, _, _, _, rfl, _⟩ := h
    rfl
  · refine ⟨_, (pss_cons (ps_set (i := 1) sc_values_of.nd rfl (by first | exact Or.inl rfl | exact Or.inr rfl) (pe_call (ok_sizes_of T) (hr.mono (by decide)) (by rfl) T.g_sizes_of T.F_sizes_of.kp T.b_sizes_of .nil pass0 (pa_cons (pv 0) pa_nil)))
    (pss_cons (ps_if (pt_val (pe_callB (cr_any rfl) (by rfl) T.z_any (by decide +kernel) (pa_cons (pe_lock (pe_lc (own := [("size", 2), ("_", 3)]) (g := gTup K 2 (gCons (gName 2) (gCons (gName 3) gNil))) (by rfl) sc_values_of.nd (pi_valuesT (pv 1)) (blkOk_by (own := [("size", 2), ("_", 3)]) (N := N_values_of) (sc := defScope s_values_of) (by decide +kernel)) (fun _ _ _ _ _ => (pg_tup rfl (pgs_cons (pg_name (i := 2) sc_values_of.nd rfl (by first | exact Or.inl rfl | exact Or.inr rfl)) (pgs_cons (pg_name (i := 3) sc_values_of.nd rfl (by first | exact Or.inl rfl | exact Or.inr rfl)) pgs_nil)))) (fun _ _ _ _ _ => pts_nil) (fun _ _ _ _ _ => (pe_cmpR op_gt (pv 2) (pe_glob (v := .int 2000) (by rfl) T.m_MOST_WORD ⟨_, rfl⟩) (nomark _))))) pa_nil)))
      (pss_one (ps_raise rfl (takes_of rfl rfl rfl rfl) (pmk_oex T.o_TooMany T.ii_TooMany T.it_TooMany (ok_TooMany_init T) (hr.mono (by decide)) T.ib_TooMany .nil pass0 (by rfl) T.g_TooMany (pa_cons (pe_glob (v := .int 2000) (by rfl) T.m_MOST_WORD ⟨_, rfl⟩) pa_nil))))
      pss_nil)
    (pss_one (ps_ret (pe_call (ok_short_values T) (hr.mono (by decide)) (by rfl) T.g_short_values T.F_short_values.kp T.b_short_values .nil pass0 (pa_cons (pv 0) (pa_cons (pv 1) pa_nil))))))), ?_⟩
    obtain ⟨v, z, f, ss, rfl, hv, ok, qE, q⟩ := h
    refine ⟨_, rfl, v, z, f, ss, rfl, hv, ok, fun H1 d1 E s1 nd1 ⟨kvs, hd1, hE1⟩ cl all => ?_⟩
    have lE := cl.few ok
    have lk := hE1.len
    refine ⟨d1, _, hd1, trivial, fun od => ?_⟩
    have kF : Keep [d1] H1 (upd H1 d1 (.frz od (.dT kvs))) := Keep.pot List.mem_cons_self
    have hF : upd H1 d1 (.frz od (.dT kvs)) d1 = some (.frz od (.dT kvs)) := upd_same
    revert kF hF
    generalize upd H1 d1 (.frz od (.dT kvs)) = HF
    intro kF hF
    refine ⟨_, rfl, d1, od, kvs, rfl, hF, fun D nD => ?_⟩
    have nDd : D ≠ d1 := fun e => by
      rw [e, hF] at nD
      cases nD
    have hEF := hE1.mono kF
    let big : Cl × Wt → Bool := fun e => decide ((2000 : Int) < (e.2.1.length : Int))
    refine lc_it walk_valuesT (fun i H' => Same HF H' ∧ H' D = some (.lst (((E.take i).map big).map V.bl))) ⟨same_new nD, upd_same⟩ (fun _ _ _ p => p.1 _ _ hF) ?_ ?_
    · rintro i x H2 H3 hi ⟨s2, hD⟩ ⟨rfl, k, hk⟩
      obtain ⟨c, w, he, _, p, ep, hp⟩ := hEF.at_ hk
      have ep : x = .ref p := ep
      subst ep
      have hp3 := s2 _ _ (off_some hp).2
      refine ⟨p, _, rfl, SqT.of hp3, rfl, _, _, rfl, _, _, rfl, rfl, rfl, _, rfl, _, _, rfl, rfl, ?_⟩
      refine ⟨_, hD, ?_, fun b o e => (upd_ne (ne_of_none e nD)).trans (s2 b o e), ?_⟩
      · rw [List.length_map, List.length_map, List.length_take]
        exact Nat.lt_of_le_of_lt (Nat.min_le_right _ _) (Nat.lt_of_le_of_lt lE (by decide))
      · rw [upd_same, take_entry he, List.map_append, List.map_append]
        rfl
    · rintro H2 ⟨s2, hD⟩
      have k2 : Keep [d1] H1 H2 := kF.trans (Keep.of s2)
      refine ⟨s2 _ _ hF, D, (E.map big), rfl, ?_, _, rfl, ?_⟩
      · rw [lk, List.take_length] at hD
        exact SqL.of ((upd_ne nDd).trans hD)
      have s3 : Same H1 (upd H2 d1 (.dT kvs)) := k2.unlock hd1
      have hd3 : upd H2 d1 (.dT kvs) d1 = some (.dT kvs) := upd_same
      revert s3 hd3
      generalize upd H2 d1 (.dT kvs) = H3
      intro s3 hd3
      have s03 := Same.trans s1 s3
      cases hb : (E.map big).any id with
      | true =>
        refine if_true rfl (raise1_out ((qE ?_).mono s03))
        rw [List.any_map, List.any_eq_true] at hb
        obtain ⟨e, he, hb⟩ := hb
        have hb : (2000 : Int) < (e.2.1.length : Int) := of_decide_eq_true hb
        exact ⟨e.1, e.2, cl.val _ _ (cl.lookup ok he), by omega⟩
      | false =>
        refine if_false rfl ?_
        have small : ∀ e ∈ E, e.2.1.length ≤ 2000 := fun e he => by
          rw [List.any_map, List.any_eq_false] at hb
          have hb : ¬ (decide ((2000 : Int) < (e.2.1.length : Int)) = true) := hb e he
          rw [decide_eq_true_eq] at hb
          omega
        have q := q fun c w hw => by
          have gc : Good z ss c := by
            obtain ⟨n, hn⟩ := hw
            cases n with
            | zero => cases hn
            | succ n =>
              cases em : mv z ss c with
              | none =>
                rw [ev_stop em] at hn
                cases hn
              | some m => exact (mv_ok ok em).1
          exact small _ (look_mem ((all c gc w).1 hw))
        refine ⟨_, rfl, _, rfl, v, d1, z, f, ss, E, rfl, hv.mono (fun b o e => off_of (fun zz => by
          rw [List.mem_singleton.1 zz, nd1] at e
          cases e) (s03 _ _ e)), ok, ⟨kvs, hd3, hE1.mono (Keep.of s3)⟩, cl, fun H' d2 s4 nd2 hV => ?_⟩
        rw [shortE_all small] at hV
        refine q H' d2 E (Same.trans s03 s4) ?_ hV cl all
        cases e : H d2 with
        | none => rfl
        | some u =>
          rw [s03 _ _ e] at nd2
          cases nd2
end
end K14

namespace K14
open PySem PySem.Spec PyProof.Rows L2 G Lk
section
variable {P : Program} {w : World} {K : PySem.W.Frag} {mg : Str → Option Value} {base : Heap}
def sp_first_without (K : PySem.W.Frag) : Sp := fun vs H Q _ => ∃ (v : V) (d pc : Addr) (z f : Str) (ss : List PyData) (E : Ent) (c : Cl), vs = [v, .ref d, .ref pc] ∧ Dq K H v (.tuple [.str z, .str f, .tuple ss]) ∧ StatesOk z ss ∧ PrD [] H d E ∧ look E = valOf z ss ∧
  CallAt H pc c ∧ Good z ss c ∧ valOf z ss c = none ∧
  ∀ H' r, Same H H' → ((nxt z ss (valOf z ss) c = none ∧ r = .non) ∨ ∃ e p, nxt z ss (valOf z ss) c = some e ∧ r = .ref p ∧ CallAt H' p e ∧ Good z ss e ∧ valOf z ss e = none) → Q r H'
/-- def _first_without(expander, found, call): -/
theorem ok_first_without (T : Tx K mg) : FnOk P w K mg base CX0 2 T.a__first_without T.fd__first_without ["expander", "found", "call"] (sp_first_without K) := by
  refine T.F__first_without.ok sc_first_without (fun vs H Q E h => ?_) (fun cdv A outer s H vs Q E hr h => ?_)
  · obtain ⟨_, _, _, _, _, _, _, _, rfl, _⟩ := h
    rfl
  · refine ⟨_, (pss_cons (ps_set (i := 3) sc_first_without.nd rfl (by first | exact Or.inl rfl | exact Or.inr rfl) (pe_call (ok_move_of T) (hr.mono (by decide)) (by rfl) T.g_move_of T.F_move_of.kp T.b_move_of .nil pass0 (pa_cons (pv 0) (pa_cons (pe_ix ix_tup (pv 2) pe_int (fun _ _ => rfl)) (pa_cons (pe_ix ix_tup (pv 2) pe_int (fun _ _ => rfl)) pa_nil)))))
    (pss_cons (ps_if (pt_cmpR op_isN (pv 3) pe_non (nomark _))
      (pss_one (ps_ret pe_non))
      pss_nil)
    (pss_cons (ps_asg (pv 3) (pg_tup rfl (pgs_cons (pg_name (i := 5) sc_first_without.nd rfl (by first | exact Or.inl rfl | exact Or.inr rfl)) (pgs_cons (pg_name (i := 6) sc_first_without.nd rfl (by first | exact Or.inl rfl | exact Or.inr rfl)) (pgs_cons (pg_name (i := 7) sc_first_without.nd rfl (by first | exact Or.inl rfl | exact Or.inr rfl)) pgs_nil)))))
    (pss_cons (ps_set (i := 4) sc_first_without.nd rfl (by first | exact Or.inl rfl | exact Or.inr rfl) pe_int)
    (pss_cons (ps_while PassesOwn.never (pt_cmp (pc_din (unit1 hr.units) (pe_tup (pa_cons (pv 7) (pa_cons (pe_ix ix_str (pv 6) (pv 4) (fun _ _ => rfl)) pa_nil))) (pv 1)))
      (pss_cons (ps_set (i := 7) sc_first_without.nd rfl (by first | exact Or.inl rfl | exact Or.inr rfl) (pe_ix ix_seq (pe_dget (unit1 hr.units) (pv 1) (pe_tup (pa_cons (pv 7) (pa_cons (pe_ix ix_str (pv 6) (pv 4) (fun _ _ => rfl)) pa_nil))) (fun _ _ => rfl)) pe_int (fun _ _ => rfl)))
    (pss_one (ps_aug (i := 4) sc_first_without.nd rfl (by first | exact Or.inl rfl | exact Or.inr rfl) pe_int ip_add))))
    (pss_one (ps_ret (pe_tup (pa_cons (pv 7) (pa_cons (pe_ix ix_str (pv 6) (pv 4) (fun _ _ => rfl)) pa_nil)))))))))), ?_⟩
    obtain ⟨v, d, pc, z, f, ss, E, c, rfl, hv, ok, ⟨kvs, hd, hE⟩, hl, hpc, gc, hn, q⟩ := h
    obtain ⟨ms, lst, kk, rst, e1, e2, e3⟩ := move_is (f := f) ok gc
    refine ⟨_, rfl, _, rfl, pc, _, 0, _, rfl, rfl, SqT.of hpc, rfl, _, rfl, pc, _, 1, _, rfl, rfl, SqT.of hpc, rfl, ?_⟩
    refine ⟨v, _, _, _, _, _, moveD z ss c.1 c.2, rfl, hv, .int _, .str _, ⟨z, f, ss, c.1, Ls.one c.2, ms, lst, kk, rst, rfl, rfl, rfl, e1, e2, e3⟩, fun mr hmr => ?_⟩
    refine ⟨_, rfl, rfl, _, rfl, ?_⟩
    cases emv : mv z ss c with
    | none =>
      rw [mv_none ok gc.1 gc.2 emv] at hmr
      obtain rfl := hmr.noneV
      refine if_true rfl (q H .non (Same.refl H) (.inl ⟨?_, rfl⟩))
      unfold nxt
      rw [emv]
    | some m =>
      obtain ⟨_, x, y, emd, ex, ey, lx, ly, ax, ay, hg⟩ := mv_ok ok emv
      rw [emd] at hmr
      obtain ⟨pm, rfl, hpm⟩ := standV (a := x) (b := y) (s := m.2.2) hmr
      refine if_false rfl ?_
      refine ⟨_, rfl, pm, _, rfl, hpm, rfl, _, _, rfl, _, _, rfl, _, _, rfl, rfl, ?_⟩
      have lyl : y.cps.toList.length = y.length := by simp [Str.length]
      have lyz : y.length ≤ sizeLine := Nat.le_trans ly (by decide)
      have enx : nxt z ss (valOf z ss) c = stuckAt (valOf z ss) m.2.1 m.2.2 := by
        unfold nxt
        rw [emv]
      have hF : ∀ c v, valOf z ss c = some v → v.2 < ss.length := fun c v h => by
        obtain ⟨n, hn⟩ := valOf_some.1 h
        clear h
        induction n generalizing c v with
        | zero => cases hn
        | succ n ih =>
          cases em : mv z ss c with
          | none =>
            rw [ev_stop em] at hn
            cases hn
          | some m =>
            rw [ev_step em] at hn
            obtain ⟨_, _, _, _, _, _, _, _, _, _, hg⟩ := mv_ok ok em
            exact rd_good (a := (m.1, m.2.2)) (fun c v h => ih c v h) hg hn
      have hgd : ∀ dd ∈ m.2.1, dd ∈ z.cps.toList := fun dd h => allIn_mem ay dd (by rw [← ey]; exact h)
      refine while_by (fun σ H' => ∃ (p g : Nat) (l rest : List Nat), σ = [some v, some (.ref d), some (.ref pc), some (.ref pm), some (.int (p : Int)), some (.str x), some (.str y), some (.int (g : Int))] ∧ Same H H' ∧ m.2.1 = l ++ rest ∧ l.length = p ∧
        rd (valOf z ss) rest ([], g) = none ∧ stuckAt (valOf z ss) rest g = stuckAt (valOf z ss) m.2.1 m.2.2 ∧ g < ss.length)
        (fun σ _ => match σ with | [_, _, _, _, some (.int p), _, _, _] => y.length - p.toNat | _ => 0) ?_ ?_ ?_
      · exact ⟨0, m.2.2, [], m.2.1, rfl, Same.refl _, rfl, rfl, rd_none_at (a := (m.1, m.2.2)) rfl (rd_not emv hn), rfl, hg⟩
      · rintro σ H1 ⟨p, g, l, rest, rfl, s1, el, lp, hr, hst, gg⟩
        cases rest with
        | nil => cases hr
        | cons dd rest =>
          have aty : y.cps.toList[p]? = some dd := by
            rw [← ey, el, ← lp, List.getElem?_append_right (Nat.le_refl _), Nat.sub_self]
            rfl
          have ply : p < y.length := by
            rw [← lyl]
            exact (List.getElem?_eq_some_iff.mp aty).1
          refine ⟨_, rfl, _, rfl, _, rfl, y, _, dd, rfl, rfl, lyz, atI_nat aty, (by show 2 ≤ sizeLine; decide), fun pn np => ?_⟩
          have s2 := same_new (o := .tup [.int (g : Int), .str ⟨#[dd]⟩]) np
          have hpn : CallAt (upd H1 pn (.tup [.int (g : Int), .str ⟨#[dd]⟩])) pn (g, dd) := upd_same
          revert s2 hpn
          generalize upd H1 pn (.tup [.int (g : Int), .str ⟨#[dd]⟩]) = H2
          intro s2 hpn
          have s02 := Same.trans s1 s2
          have hE2 : PrE H2 kvs E := hE.mono (Same.trans off_same s02)
          refine ⟨_, rfl, d, _, rfl, DGet.t (k := ckey (g, dd)) (s02 _ _ hd) hpn.key, _, rfl, ?_⟩
          rcases hE2.get (g, dd) with ⟨vv, ww, e5, e6, e7⟩ | ⟨e5, e6⟩
          · rw [e5]
            rw [hl] at e6
            refine if_true rfl ?_
            refine ⟨_, rfl, _, rfl, _, rfl, _, rfl, y, _, dd, rfl, rfl, lyz, atI_nat aty, (by show 2 ≤ sizeLine; decide), fun pn2 np2 => ?_⟩
            have s3 := same_new (o := .tup [.int (g : Int), .str ⟨#[dd]⟩]) np2
            have hpn2 : CallAt (upd H2 pn2 (.tup [.int (g : Int), .str ⟨#[dd]⟩])) pn2 (g, dd) := upd_same
            revert s3 hpn2
            generalize upd H2 pn2 (.tup [.int (g : Int), .str ⟨#[dd]⟩]) = H3
            intro s3 hpn2
            have s03 := Same.trans s02 s3
            refine ⟨d, vv, rfl, ?_, ?_⟩
            · rw [← e5]
              exact DGet.t (k := ckey (g, dd)) (s03 _ _ hd) hpn2.key
            · obtain ⟨pw, rfl, x8, e8⟩ := e7
              refine .inr (.inl ⟨pw, _, 1, _, rfl, rfl, SqT.of (s3 _ _ e8), rfl, ?_⟩)
              refine ⟨_, rfl, _, _, rfl, rfl, ?_⟩
              refine ⟨⟨p + 1, ww.2, l ++ [dd], rest, rfl, s03, by rw [el]; simp, by rw [List.length_append, lp]; rfl, ?_, ?_, hF _ _ e6⟩, ?_⟩
              · rw [rd_some (a := ([], g)) e6] at hr
                exact rd_none_at (a := (([] : List Nat) ++ ww.1, ww.2)) (b := ([], ww.2)) rfl hr
              · rw [← hst, stuckAt_some e6]
              · show y.length - ((p : Int) + 1).toNat < y.length - (p : Int).toNat
                omega
          · rw [e5]
            rw [hl] at e6
            refine if_false rfl ?_
            refine ⟨_, rfl, _, rfl, _, rfl, y, _, dd, rfl, rfl, lyz, atI_nat aty, (by show 2 ≤ sizeLine; decide), fun pn2 np2 => ?_⟩
            have s3 := same_new (o := .tup [.int (g : Int), .str ⟨#[dd]⟩]) np2
            have gd : dd ∈ z.cps.toList := hgd dd (by rw [el]; exact List.mem_append_right _ List.mem_cons_self)
            refine q _ _ (Same.trans s02 s3) (.inr ⟨(g, dd), pn2, ?_, rfl, upd_same, ⟨gg, gd⟩, e6⟩)
            rw [enx, ← hst, stuckAt_none e6]
      · rintro σ H' Q1 Q2 hQ h
        obtain ⟨u1, e1, u2, e2, u3, e3, zz, ii, cc, e4, e5, e6, e7, e8, h⟩ := h
        refine ⟨u1, e1, u2, e2, u3, e3, zz, ii, cc, e4, e5, e6, e7, e8, fun p np => ?_⟩
        obtain ⟨u4, e9, a, o, e10, e11, kk, e12, h⟩ := h p np
        exact ⟨u4, e9, a, o, e10, e11, kk, e12, hQ _ _ h⟩
end
end K14

namespace K14
open PySem PySem.Spec PyProof.Rows L2 G Lk
section
variable {P : Program} {w : World} {K : PySem.W.Frag} {mg : Str → Option Value} {base : Heap}
def sp_thread_of (K : PySem.W.Frag) : Sp := fun vs H Q _ => ∃ (v : V) (d pc : Addr) (z f : Str) (ss : List PyData) (E : Ent) (c : Cl), vs = [v, .ref d, .ref pc] ∧ Dq K H v (.tuple [.str z, .str f, .tuple ss]) ∧ StatesOk z ss ∧ PrD [] H d E ∧ look E = valOf z ss ∧
  CallAt H pc c ∧ Good z ss c ∧
  ∀ H' (r : Addr) xs, Same H H' → H r = none → H' r = some (.lst xs) → CallsAt H' xs (threadOf z ss c) → Q (.ref r) H'
/-- def _thread_of(expander, found, call): -/
theorem ok_thread_of (T : Tx K mg) : FnOk P w K mg base CX0 3 T.a__thread_of T.fd__thread_of ["expander", "found", "call"] (sp_thread_of K) := by
  refine T.F__thread_of.ok sc_thread_of (fun vs H Q E h => ?_) (fun cdv A outer s H vs Q E hr h => ?_)
  · obtain ⟨_, _, _, _, _, _, _, _, rfl, _⟩ := h
    rfl
  · refine ⟨_, (pss_cons (ps_set (i := 3) sc_thread_of.nd rfl (by first | exact Or.inl rfl | exact Or.inr rfl) (pe_lst pa_nil))
    (pss_cons (ps_if (pt_cmp (pc_din (unit1 hr.units) (pv 2) (pv 1)))
      (pss_one (ps_ret (pv 3)))
      pss_nil)
    (pss_cons (ps_while PassesOwn.never (PW.pt (pw_and (pt_cmpR op_notN (pv 2) pe_non (nomark _)) (pw_and1 (pt_cmpR (op_notInD (units65 hr)) (pv 2) (pv 3) (by rfl)))))
      (pss_cons (ps_expr (pe_bm PySem.F.plainAttrs_list PySem.F.slot_list_append PySem.F.type_list_append mt_append (pv 3) (pa_cons (pv 2) pa_nil)))
    (pss_one (ps_set (i := 2) sc_thread_of.nd rfl (by first | exact Or.inl rfl | exact Or.inr rfl) (pe_call (ok_first_without T) (hr.mono (by decide)) (by rfl) T.g__first_without T.F__first_without.kp T.b__first_without .nil pass0 (pa_cons (pv 0) (pa_cons (pv 1) (pa_cons (pv 2) pa_nil))))))))
    (pss_one (ps_ret (pe_ifExp (pt_cmpR op_isN (pv 2) pe_non (nomark _)) (pv 3) (pe_op op_cat (pv 3) (pe_lst (pa_cons (pv 2) pa_nil))))))))), ?_⟩
    obtain ⟨v, d, pc, z, f, ss, E, c, rfl, hv, ok, hV, hl, hpc, gc, q⟩ := h
    refine ⟨Nat.zero_le _, fun l nl => ?_⟩
    have s1 := same_new (o := .lst []) nl
    have hl1 : upd H l (.lst []) l = some (.lst []) := upd_same
    revert s1 hl1
    generalize upd H l (.lst []) = H1
    intro s1 hl1
    obtain ⟨kvs, hd, hE⟩ := hV
    have hpc1 := s1 _ _ hpc
    have hE1 : PrE H1 kvs E := hE.mono (Same.trans off_same s1)
    refine ⟨_, rfl, _, rfl, d, _, rfl, DGet.t (k := ckey c) (s1 _ _ hd) (CallAt.key hpc1), _, rfl, ?_⟩
    rcases hE1.get c with ⟨vv, ww, e5, e6, e7⟩ | ⟨e5, e6⟩
    · rw [e5]
      rw [hl] at e6
      refine if_true rfl ⟨_, rfl, ?_⟩
      refine q H1 l [] s1 nl hl1 ?_
      unfold threadOf
      rw [e6]
      exact .nil
    · rw [e5]
      rw [hl] at e6
      refine if_false rfl ?_
      have eT : threadOf z ss c = thr z ss (valOf z ss) 241 [] (some c) := by
        unfold threadOf
        rw [e6]
      rw [eT] at q
      generalize thr z ss (valOf z ss) 241 [] (some c) = T at q eT
      have nl' : ∀ {H' : Hp} {p : Addr} {x : Cl} {xs : List V}, H' l = some (.lst xs) → CallAt H' p x → p ∉ [l] := fun h1 h2 zz => by
        have h2 : _ = some (HO.tup _) := h2
        rw [List.mem_singleton.1 zz, h1] at h2
        cases h2
      refine while_by (fun σ H' => ∃ (n : Nat) (row : List Cl) (cur : Option Cl) (xs : List V) (cv : V), σ = [some v, some (.ref d), some cv, some (.ref l)] ∧ Keep [l] H1 H' ∧ H' l = some (.lst xs) ∧ CallsAt (off [l] H') xs row ∧ row.Nodup ∧ (∀ x ∈ row, Good z ss x) ∧
        row.length + n = 241 ∧ thr z ss (valOf z ss) n row cur = T ∧ ((cur = none ∧ cv = .non) ∨ ∃ x p, cur = some x ∧ cv = .ref p ∧ CallAt (off [l] H') p x ∧ Good z ss x ∧ valOf z ss x = none))
        (fun _ H' => match H' l with | some (.lst us) => 241 - us.length | _ => 0) ?_ ?_ ?_
      · refine ⟨241, [], some c, [], .ref pc, rfl, Keep.refl, hl1, .nil, .nil, (fun _ h => by cases h), rfl, ?_, .inr ⟨c, pc, rfl, rfl, off_of (nl' hl1 hpc1) hpc1, gc, e6⟩⟩
        rw [← eT]
        unfold threadOf
        rw [e6]
      · rintro σ H2 ⟨n, row, cur, xs, cv, rfl, k2, hl2, hxs, nd, gr, ln, hT, hcur⟩
        have s2 : Same H H2 := fun b o e => k2.at_ (fun zz => by
          rw [List.mem_singleton.1 zz, nl] at e
          cases e) (s1 _ _ e)
        have few : row.length ≤ 240 := Calls.few ok ⟨nd, gr⟩
        have lx := hxs.len
        obtain ⟨n, rfl⟩ : ∃ k, n = k + 1 := ⟨n - 1, by omega⟩
        rcases hcur with ⟨rfl, rfl⟩ | ⟨x, p, rfl, rfl, hp, gx, hx⟩
        · refine ⟨_, rfl, rfl, _, rfl, if_false rfl (if_false rfl ?_)⟩
          refine ⟨_, rfl, rfl, _, rfl, if_true rfl ⟨_, rfl, ?_⟩⟩
          have hT : row = T := hT
          subst hT
          exact q H2 l xs s2 nl hl2 (hxs.mono off_same)
        · refine ⟨_, rfl, rfl, _, rfl, if_true rfl ?_⟩
          have hp2 := (off_some hp).2
          have shp : ∀ y : Cl, Good z ss y → Eqb 1 (callD y) := fun y h => callD_eqb ok h
          refine ⟨_, rfl, _, rfl, callD x, row.map callD, (CallAt.dq hp2).dp (shp x gx).lay, .lst (SqL.of hl2) ((CallsAt.dq (hxs.mono off_same)).dp (eqb_all (n := 1) fun d hd => ?_).1), (shp x gx).shaped (by decide), (Eqb.lst (n := 1) fun d hd => ?_).shaped (by decide), _, rfl, ?_⟩
          · obtain ⟨y, hy, rfl⟩ := List.mem_map.1 hd
            exact shp y (gr y hy)
          · obtain ⟨y, hy, rfl⟩ := List.mem_map.1 hd
            exact shp y (gr y hy)
          rw [calls_any]
          by_cases hin : x ∈ row
          · rw [decide_eq_true hin]
            refine if_false rfl ?_
            have hT : (if x ∈ row then row ++ [x] else _) = T := hT
            rw [if_pos hin] at hT
            subst hT
            refine ⟨_, rfl, rfl, _, rfl, if_false rfl ⟨_, rfl, _, rfl, (by show 1 ≤ sizeLine; decide), fun pn np => ?_⟩⟩
            have s3 := same_new (o := .lst [.ref p]) np
            have hpn : upd H2 pn (.lst [.ref p]) pn = some (.lst [.ref p]) := upd_same
            revert s3 hpn
            generalize upd H2 pn (.lst [.ref p]) = H3
            intro s3 hpn
            refine ⟨l, pn, xs, [.ref p], rfl, rfl, s3 _ _ hl2, hpn, ?_, fun pr npr => ?_⟩
            · rw [lx]
              exact Nat.le_trans (show row.length + 1 ≤ 300 by omega) (by decide)
            · have s4 := same_new (o := .lst (xs ++ [.ref p])) npr
              have s24 := Same.trans s3 s4
              refine q _ pr (xs ++ [.ref p]) (Same.trans s2 s24) ?_ upd_same ((hxs.mono (Same.trans off_same s24)).append (.cons (s24 _ _ hp2) .nil))
              cases e : H pr with
              | none => rfl
              | some u =>
                rw [s3 _ _ (s2 _ _ e)] at npr
                cases npr
          · rw [decide_eq_false hin]
            refine if_true rfl ?_
            have hT : (if x ∈ row then row ++ [x] else thr z ss (valOf z ss) n (row ++ [x]) (nxt z ss (valOf z ss) x)) = T := hT
            rw [if_neg hin] at hT
            refine ⟨_, rfl, .inl ⟨rfl, _, SqL.of hl2⟩, _, rfl, l, xs, _, rfl, rfl, hl2, Nat.lt_of_lt_of_le (show xs.length < 300 by omega) (by decide), ?_⟩
            have k3 : Keep [l] H2 (upd H2 l (.lst (xs ++ [.ref p]))) := Keep.pot List.mem_cons_self
            have hl3 : upd H2 l (.lst (xs ++ [.ref p])) l = some (.lst (xs ++ [.ref p])) := upd_same
            revert k3 hl3
            generalize upd H2 l (.lst (xs ++ [.ref p])) = H3
            intro k3 hl3
            have s3 : Same H H3 := fun b o e => k3.at_ (fun zz => by
              rw [List.mem_singleton.1 zz, nl] at e
              cases e) (s2 _ _ e)
            have hp3 : CallAt H3 p x := k3.at_ (off_some hp).1 hp2
            have hV3 : PrD [] H3 d E := ⟨kvs, s3 _ _ hd, hE.mono (Keep.of s3)⟩
            refine ⟨_, rfl, _, rfl, _, rfl, ?_⟩
            refine ⟨v, d, p, z, f, ss, E, x, rfl, hv.mono s3, ok, hV3, hl, hp3, gx, hx, fun H4 r s4 hr => ?_⟩
            have hl4 := s4 _ _ hl3
            refine ⟨⟨n, row ++ [x], nxt z ss (valOf z ss) x, xs ++ [.ref p], r, rfl, k2.trans (k3.trans (Keep.of s4)), hl4, ?_, ?_, ?_, ?_, hT, ?_⟩, ?_⟩
            · have hxs4 := hxs.mono (k3.trans (Keep.of s4))
              exact hxs4.append (.cons (off_of (off_some hp).1 (s4 _ _ hp3)) .nil)
            · refine List.nodup_append.2 ⟨nd, List.nodup_cons.2 ⟨fun h => (by cases h), .nil⟩, fun a ha b hb e => ?_⟩
              obtain rfl := List.mem_singleton.1 hb
              rw [e] at ha
              exact hin ha
            · intro y hy
              rcases List.mem_append.1 hy with hy | hy
              · exact gr y hy
              · obtain rfl := List.mem_singleton.1 hy
                exact gx
            · rw [List.length_append]
              show row.length + 1 + n = 241
              omega
            · rcases hr with ⟨e1, e2⟩ | ⟨y, p', e1, e2, h1, h2, h3⟩
              · exact .inl ⟨e1, e2⟩
              · exact .inr ⟨y, p', e1, e2, off_of (nl' hl4 h1) h1, h2, h3⟩
            · rw [hl4, hl2]
              show 241 - (xs ++ [V.ref p]).length < 241 - xs.length
              rw [List.length_append]
              show 241 - (xs.length + 1) < 241 - xs.length
              omega
      · rintro σ H' Q1 Q2 hQ h
        obtain ⟨v1, e1, e2, k, e3, h⟩ := h
        refine ⟨v1, e1, e2, k, e3, ?_⟩
        cases k with
        | false => exact hQ _ _ h
        | true =>
          obtain ⟨v2, e4, v3, e5, dd, ds, e6, e7, e8, e9, kk, e10, h⟩ := h
          exact ⟨v2, e4, v3, e5, dd, ds, e6, e7, e8, e9, kk, e10, hQ _ _ h⟩
end
end K14

namespace K14
open PySem PySem.Spec PyProof.Rows L2 G Lk
section
variable {P : Program} {w : World} {K : PySem.W.Frag} {mg : Str → Option Value} {base : Heap}
def sp_need_value (K : PySem.W.Frag) (mg : Str → Option Value) (T : Tx K mg) : Sp := fun vs H Q X => ∃ (v : V) (d pc : Addr) (z f : Str) (ss : List PyData) (E : Ent) (c : Cl), vs = [v, .ref d, .ref pc] ∧ Dq K H v (.tuple [.str z, .str f, .tuple ss]) ∧ StatesOk z ss ∧ PrD [] H d E ∧ look E = valOf z ss ∧
  CallAt H pc c ∧ Good z ss c ∧ (∀ w, valOf z ss c = some w → Q .non H) ∧ (valOf z ss c = none → noOutE K T.a_NoOutcome X H (kindT z ss (threadOf z ss c)) ((threadOf z ss c).map callD))
/-- def _need_value(expander, found, call): -/
theorem ok_need_value (T : Tx K mg) : FnOk P w K mg base (L2.CX P w) 4 T.a__need_value T.fd__need_value ["expander", "found", "call"] (sp_need_value K mg T) := by
  refine T.F__need_value.okX sc_need_value (fun vs H Q E h => ?_) (fun cdv A outer s H vs Q E hr h => ?_)
  · obtain ⟨_, _, _, _, _, _, _, _, rfl, _⟩ := h
    rfl
  · refine ⟨_, (pss_one (ps_if (pt_cmp (pc_dnotin (unit1 hr.units) (pv 2) (pv 1)))
      (pss_cons (ps_set (i := 3) sc_need_value.nd rfl (by first | exact Or.inl rfl | exact Or.inr rfl) (pe_call (ok_thread_of T) (hr.mono (by decide)) (by rfl) T.g__thread_of T.F__thread_of.kp T.b__thread_of .nil pass0 (pa_cons (pv 0) (pa_cons (pv 1) (pa_cons (pv 2) pa_nil)))))
    (pss_cons (ps_asg (pe_ix ix_list (pv 3) (pe_un un_neg pe_int) (fun _ _ => rfl)) (pg_tup rfl (pgs_cons (pg_name (i := 5) sc_need_value.nd rfl (by first | exact Or.inl rfl | exact Or.inr rfl)) (pgs_cons (pg_name (i := 6) sc_need_value.nd rfl (by first | exact Or.inl rfl | exact Or.inr rfl)) pgs_nil))))
    (C8.pss_cut (ps_set (i := 4) sc_need_value.nd rfl (by first | exact Or.inl rfl | exact Or.inr rfl) (pe_ifExp (pt_cmpR op_isN (pe_call (ok_move_of T) (hr.mono (by decide)) (by rfl) T.g_move_of T.F_move_of.kp T.b_move_of .nil pass0 (pa_cons (pv 0) (pa_cons (pv 5) (pa_cons (pv 6) pa_nil)))) pe_non (nomark _)) pe_str pe_str))
    (pss_one (ps_raise rfl (takes_of rfl rfl rfl rfl) (pmk_oex T.o_NoOutcome T.ii_NoOutcome T.it_NoOutcome (ok_NoOutcome_init T) (hr.mono (by decide)) T.ib_NoOutcome .nil pass0 (by rfl) T.g_NoOutcome (pa_cons (pv 4) (pa_cons (pv 3) pa_nil))))))))
      pss_nil)), ?_⟩
    obtain ⟨v, d, pc, z, f, ss, E, c, rfl, hv, ok, hV, hl, hpc, gc, q1, q2⟩ := h
    obtain ⟨kvs, hd, hE⟩ := id hV
    have hE0 : PrE H kvs E := hE.mono off_same
    refine ⟨_, rfl, _, rfl, d, _, rfl, DGet.t (k := ckey c) hd (CallAt.key hpc), _, rfl, ?_⟩
    rcases hE0.get c with ⟨vv, ww, e5, e6, e7⟩ | ⟨e5, e6⟩
    · rw [e5]
      rw [hl] at e6
      exact if_false rfl (q1 _ e6)
    · rw [e5]
      rw [hl] at e6
      refine if_true rfl ?_
      refine ⟨_, rfl, _, rfl, _, rfl, ?_⟩
      refine ⟨v, d, pc, z, f, ss, E, c, rfl, hv, ok, hV, hl, hpc, gc, fun H1 r xs s1 nr hr hxs => ?_⟩
      have q2 := (q2 e6).mono s1
      obtain ⟨cs, e, eT, ge⟩ := threadOf_last ok gc e6
      have hq : DqAll K H1 xs ((threadOf z ss c).map callD) := hxs.dq
      rw [eT] at hxs
      obtain ⟨ys, p, rfl, hp⟩ := hxs.last
      refine ⟨_, rfl, 1, rfl, r, _, _, _, rfl, rfl, SqL.of hr, atI_last ys _, p, _, rfl, SqT.of hp, rfl, _, _, rfl, _, _, rfl, rfl, ?_⟩
      refine ⟨fun σ H' => σ = [some v, some (.ref d), some (.ref pc), some (.ref r), some (.str (kindT z ss (threadOf z ss c))), some (.int (e.1 : Int)), some (.str (Ls.one e.2))] ∧ H' = H1, ?_, ?_⟩
      · obtain ⟨ms, lst, kk, rst, e1, e2, e3⟩ := move_is (f := f) ok ge
        refine ⟨_, rfl, _, rfl, _, rfl, ?_⟩
        refine ⟨v, _, _, _, _, _, moveD z ss e.1 e.2, rfl, hv.mono s1, .int _, .str _, ⟨z, f, ss, e.1, Ls.one e.2, ms, lst, kk, rst, rfl, rfl, rfl, e1, e2, e3⟩, fun mr hmr => ?_⟩
        have ek : kindT z ss (threadOf z ss c) = match mv z ss e with | none => "breaks" | some _ => "endless" := by
          unfold kindT
          rw [eT, List.getLast?_append]
          rfl
        rw [ek]
        refine ⟨rfl, _, rfl, ?_⟩
        cases emv : mv z ss e with
        | none =>
          rw [mv_none ok ge.1 ge.2 emv] at hmr
          obtain rfl := hmr.noneV
          exact if_true rfl ⟨rfl, rfl⟩
        | some m =>
          obtain ⟨_, x, y, emd, _⟩ := mv_ok ok emv
          rw [emd] at hmr
          obtain ⟨pm, rfl, _⟩ := standV (a := x) (b := y) (s := m.2.2) hmr
          exact if_false rfl ⟨rfl, rfl⟩
      · rintro σ H2 ⟨rfl, rfl⟩
        exact ⟨_, rfl, _, rfl, raise_out hr hq q2⟩
end
end K14

namespace K14
open PySem PySem.Spec PyProof.Rows L2 G Lk
section
variable {P : Program} {w : World} {K : PySem.W.Frag} {mg : Str → Option Value} {base : Heap}
def sp_calls_of_text (K : PySem.W.Frag) (mg : Str → Option Value) (T : Tx K mg) : Sp := fun vs H Q X => ∃ (v : V) (d : Addr) (z f t : Str) (ss : List PyData) (E : Ent), vs = [v, .ref d, .str t] ∧ Dq K H v (.tuple [.str z, .str f, .tuple ss]) ∧ StatesOk z ss ∧ PrD [] H d E ∧ look E = valOf z ss ∧ allIn z t = true ∧ t.length ≤ 200 ∧
  (∀ c, stuckAt (valOf z ss) t.cps.toList 0 = some c → noOutE K T.a_NoOutcome X H (kindT z ss (threadOf z ss c)) ((threadOf z ss c).map callD)) ∧
  (∀ u g, rd (valOf z ss) t.cps.toList (f.cps.toList, 0) = some (u, g) → (lastD ss g = .none → noOutE K T.a_NoOutcome X H "last" []) ∧
    ∀ w, lastD ss g = .str w → w.length ≤ 2000 → ∀ (H' : Hp) (p l : Addr) xs, Same H H' → H l = none → H' l = some (.lst xs) → CallsAt H' xs (runC (valOf z ss) t.cps.toList 0) → H' p = some (.tup [.ref l, .str w]) → Q (.ref p) H')
/-- def calls_of_text(expander, found, text): -/
theorem ok_calls_of_text (T : Tx K mg) : FnOk P w K mg base (L2.CX P w) 5 T.a_calls_of_text T.fd_calls_of_text ["expander", "found", "text"] (sp_calls_of_text K mg T) := by
  refine T.F_calls_of_text.okX sc_calls_of_text (fun vs H Q E h => ?_) (fun cdv A outer s H vs Q E hr h => ?_)
  · obtain ⟨_, _, _, _, _, _, _, rfl, _⟩ := h
    rfl
  · refine ⟨_, (pss_cons (ps_set (i := 3) sc_calls_of_text.nd rfl (by first | exact Or.inl rfl | exact Or.inr rfl) (pe_lst pa_nil))
    (pss_cons (ps_set (i := 4) sc_calls_of_text.nd rfl (by first | exact Or.inl rfl | exact Or.inr rfl) pe_int)
    (pss_cons (ps_for (passes_of rfl) rfl (pi_str (pv 2)) (pg_name (i := 5) sc_calls_of_text.nd rfl (by first | exact Or.inl rfl | exact Or.inr rfl))
      (pss_cons (ps_expr (pe_call (ok_need_value T) (hr.mono (by decide)) (by rfl) T.g__need_value T.F__need_value.kp T.b__need_value .nil (passes_call (takes_of rfl rfl rfl rfl) (fun _ _ _ _ h => h)) (pa_cons (pv 0) (pa_cons (pv 1) (pa_cons (pe_tup (pa_cons (pv 4) (pa_cons (pv 5) pa_nil))) pa_nil)))))
    (pss_cons (ps_expr (pe_bm PySem.F.plainAttrs_list PySem.F.slot_list_append PySem.F.type_list_append mt_append (pv 3) (pa_cons (pe_tup (pa_cons (pv 4) (pa_cons (pv 5) pa_nil))) pa_nil)))
    (pss_one (ps_set (i := 4) sc_calls_of_text.nd rfl (by first | exact Or.inl rfl | exact Or.inr rfl) (pe_ix ix_tup (pe_dget (unit1 hr.units) (pv 1) (pe_tup (pa_cons (pv 4) (pa_cons (pv 5) pa_nil))) (fun _ _ => rfl)) pe_int (fun _ _ => rfl)))))))
    (pss_cons (ps_set (i := 6) sc_calls_of_text.nd rfl (by first | exact Or.inl rfl | exact Or.inr rfl) (pe_ix ix_tup (pe_ix ix_tup (pe_ix ix_tup (pv 0) pe_int (fun _ _ => rfl)) (pv 4) (fun _ _ => rfl)) pe_int (fun _ _ => rfl)))
    (pss_cons (ps_if (pt_cmpR op_isN (pv 6) pe_non (nomark _))
      (pss_one (ps_raise rfl (takes_of rfl rfl rfl rfl) (pmk_oex T.o_NoOutcome T.ii_NoOutcome T.it_NoOutcome (ok_NoOutcome_init T) (hr.mono (by decide)) T.ib_NoOutcome .nil pass0 (by rfl) T.g_NoOutcome (pa_cons pe_str (pa_cons (pe_lst pa_nil) pa_nil)))))
      pss_nil)
    (pss_one (ps_ret (pe_tup (pa_cons (pv 3) (pa_cons (pv 6) pa_nil)))))))))), ?_⟩
    obtain ⟨v, d, z, f, t, ss, E, rfl, hv, ok, hV, hl, hat, lt, q1, q2⟩ := h
    refine ⟨Nat.zero_le _, fun D nD => ?_⟩
    have s3 := same_new (o := .lst []) nD
    have hD3 : upd H D (.lst []) D = some (.lst []) := upd_same
    revert s3 hD3
    generalize upd H D (.lst []) = H3
    intro s3 hD3
    obtain ⟨kvs, hd3, hE3⟩ := (hV.same s3).any (T := [D]) fun a ha => by
      rw [List.mem_singleton.1 ha]
      exact .lst hD3
    have Dd : D ≠ d := fun e => by
      rw [e, hd3] at hD3
      cases hD3
    have fresh : ∀ {H' : Hp}, Keep [D] H3 H' → Same H H' := fun k b o e => k.at_ (fun zz => by
      rw [List.mem_singleton.1 zz, nD] at e
      cases e) (s3 _ _ e)
    have etl : t.cps.toList.length = t.length := by simp [Str.length]
    refine ⟨_, rfl, t, rfl, ?_⟩
    refine for_it walk_str (fun j σ H' => ∃ (s5 s6 : Option V) (g : Nat) (xs : List V) (u : List Nat), σ = [some v, some (.ref d), some (.str t), some (.ref D), some (.int (g : Int)), s5, s6] ∧ Keep [D] H3 H' ∧ H' D = some (.lst xs) ∧
      CallsAt (off [D] H') xs (runC (valOf z ss) (t.cps.toList.take j) 0) ∧ rd (valOf z ss) (t.cps.toList.take j) (f.cps.toList, 0) = some (u, g) ∧ g < ss.length)
      ⟨_, _, 0, [], f.cps.toList, rfl, Keep.refl, hD3, .nil, by rw [List.take_zero]; rfl, ok.2.1⟩ (fun _ _ _ _ _ => trivial) ?_ ?_
    · rintro j y σ H4' H4 hj ⟨s5, s6, g, xs, u, rfl, k4', hD4, hxs, hrd, gg⟩ ⟨rfl, c, hc, rfl⟩
      have hcl : t.cps.toList[j]? = some c := by simpa using hc
      have gc : Good z ss (g, c) := ⟨gg, allIn_mem hat c (List.mem_of_getElem? hcl)⟩
      have hj' : j < t.length := hj
      refine ⟨_, rfl, _, rfl, _, rfl, _, rfl, (by show 2 ≤ sizeLine; decide), fun pn np => ?_⟩
      have s5' := same_new (o := .tup [.int (g : Int), .str ⟨#[c]⟩]) np
      have hpn : CallAt (upd H4 pn (.tup [.int (g : Int), .str ⟨#[c]⟩])) pn (g, c) := upd_same
      revert s5' hpn
      generalize upd H4 pn (.tup [.int (g : Int), .str ⟨#[c]⟩]) = H5
      intro s5' hpn
      have k5' : Keep [D] H3 H5 := k4'.trans (Keep.of s5')
      have sH5 := fresh k5'
      have hd5 := k5'.at_ (fun zz => Dd (List.mem_singleton.1 zz).symm) hd3
      have hE5 : PrE (off [] H5) kvs E := ((hE3.mono k5').any (T := []) fun a ha => nomatch ha)
      refine ⟨v, d, pn, z, f, ss, E, (g, c), rfl, hv.mono sH5, ok, ⟨kvs, hd5, hE5⟩, hl, hpn, gc, fun w hw => ?_, fun hn => (q1 (g, c) (stuckAt_at hrd hcl hn)).mono sH5⟩
      have hD5 := s5' _ _ hD4
      refine ⟨_, rfl, .inl ⟨rfl, _, SqL.of hD5⟩, _, rfl, _, rfl, (by show 2 ≤ sizeLine; decide), fun p2 np2 => ?_⟩
      have s6' := same_new (o := .tup [.int (g : Int), .str ⟨#[c]⟩]) np2
      have hp2 : CallAt (upd H5 p2 (.tup [.int (g : Int), .str ⟨#[c]⟩])) p2 (g, c) := upd_same
      revert s6' hp2
      generalize upd H5 p2 (.tup [.int (g : Int), .str ⟨#[c]⟩]) = H6
      intro s6' hp2
      have hD6 := s6' _ _ hD5
      have nD2 : p2 ∉ [D] := fun zz => by
        have hp2 : H6 p2 = some (.tup [.int (g : Int), .str ⟨#[c]⟩]) := hp2
        rw [List.mem_singleton.1 zz, hD6] at hp2
        cases hp2
      have lx : xs.length ≤ 200 := by
        rw [hxs.len]
        refine Nat.le_trans runC_len ?_
        rw [List.length_take]
        omega
      refine ⟨D, _, _, rfl, rfl, hD6, Nat.lt_of_le_of_lt lx (by decide), ?_⟩
      have kA : Keep [D] H6 (upd H6 D (.lst (xs ++ [.ref p2]))) := Keep.pot List.mem_cons_self
      have hD7 : upd H6 D (.lst (xs ++ [.ref p2])) D = some (.lst (xs ++ [.ref p2])) := upd_same
      revert kA hD7
      generalize upd H6 D (.lst (xs ++ [.ref p2])) = H7
      intro kA hD7
      have k7 : Keep [D] H3 H7 := (k5'.trans (Keep.of s6')).trans kA
      have h7 : CallsAt (off [D] H7) (xs ++ [.ref p2]) (runC (valOf z ss) (t.cps.toList.take (j + 1)) 0) := by
        rw [take_snoc hcl, runC_snoc (a := (f.cps.toList, 0)) hrd]
        exact ((hxs.mono ((Keep.of (Same.trans s5' s6')).trans kA)).append (.cons (kA _ _ (off_of nD2 hp2)) .nil))
      refine ⟨_, rfl, _, rfl, _, rfl, (by show 2 ≤ sizeLine; decide), fun pk npk => ?_⟩
      have s8 := same_new (o := .tup [.int (g : Int), .str ⟨#[c]⟩]) npk
      have hpk : CallAt (upd H7 pk (.tup [.int (g : Int), .str ⟨#[c]⟩])) pk (g, c) := upd_same
      revert s8 hpk
      generalize upd H7 pk (.tup [.int (g : Int), .str ⟨#[c]⟩]) = H8
      intro s8 hpk
      have k8 : Keep [D] H3 H8 := k7.trans (Keep.of s8)
      have hd8 := k8.at_ (fun zz => Dd (List.mem_singleton.1 zz).symm) hd3
      rcases (hE3.mono k8).get (g, c) with ⟨vv, ww, e5, e6, e7⟩ | ⟨e5, e6⟩
      · rw [hl, hw] at e6
        cases e6
        refine ⟨d, vv, rfl, ?_, ?_⟩
        · rw [← e5]
          exact DGet.t (k := ckey (g, c)) hd8 hpk.key
        · obtain ⟨pw, rfl, x8, e8⟩ := e7
          have e8 := (off_some e8).2
          refine ⟨pw, _, 1, _, rfl, rfl, SqT.of e8, rfl, ?_⟩
          refine ⟨_, _, w.2, xs ++ [.ref p2], u ++ w.1, rfl, k8, s8 _ _ hD7, h7.mono (Keep.of s8), ?_, valOf_state ok hw⟩
          rw [take_snoc hcl, rd_append, hrd]
          show rd (valOf z ss) [c] (u, g) = _
          rw [rd_some hw]
          rfl
      · rw [hl, hw] at e6
        cases e6
    · rintro σ H4 ⟨s5, s6, g, xs, u, rfl, k4', hD4, hxs, hrd, gg⟩
      have ett : t.cps.toList.take t.cps.size = t.cps.toList := List.take_of_length_le (by simp)
      rw [ett] at hrd hxs
      obtain ⟨q3, q4⟩ := q2 u g hrd
      obtain ⟨ms, lst, e1, e2, e3⟩ := last_in ok gg
      have sH4 := fresh k4'
      have hv4 := hv.mono sH4
      obtain ⟨a', t'', xs', rfl, ht4, hts4, hA4⟩ := expV_of hv4
      obtain ⟨sv, es, hs⟩ := hA4.ix e1
      obtain ⟨p4, us4, rfl, hp4, hq⟩ := hs.items
      obtain ⟨mv', us', rfl, hM, hq⟩ := hq.one
      obtain ⟨lv, us'', rfl, hlv, hq⟩ := hq.one
      obtain rfl := hq.none
      refine ⟨_, rfl, a', _, 2, _, rfl, rfl, ht4, rfl, _, rfl, t'', xs', (g : Int), _, rfl, rfl, hts4, atI_nat es, p4, _, 1, _, rfl, rfl, hp4, rfl, ?_⟩
      refine ⟨_, rfl, rfl, _, rfl, ?_⟩
      rcases e3 with rfl | ⟨w, rfl, aw, lw⟩
      · obtain rfl := hlv.noneV
        refine if_true rfl ⟨Nat.zero_le _, fun l nl => ?_⟩
        exact raise_out upd_same .nil ((q3 e2).mono (Same.trans sH4 (same_new nl)))
      · obtain rfl := hlv.strV
        refine if_false rfl ?_
        refine ⟨_, rfl, _, rfl, (by show 2 ≤ sizeLine; decide), fun p np => ?_⟩
        have s9 := same_new (o := .tup [.ref D, .str w]) np
        exact q4 w e2 lw _ p D xs (Same.trans sH4 s9) nD (s9 _ _ hD4) ((hxs.mono off_same).mono s9) upd_same
end
end K14

namespace K14
open PySem PySem.Spec PyProof.Rows L2 G Lk
section
variable {P : Program} {w : World} {K : PySem.W.Frag} {mg : Str → Option Value} {base : Heap}
/-- the words of an outcome -/
noncomputable def wordsT (z f t : Str) (ss : List PyData) (w : Str) : List Str := f :: ((runC (valOf z ss) t.cps.toList 0).map (fun c => tx (wordOf (valOf z ss) c)) ++ [w])
def sp_words_of_text (K : PySem.W.Frag) (mg : Str → Option Value) (T : Tx K mg) : Sp := fun vs H Q X => ∃ (v : V) (d : Addr) (z f t : Str) (ss : List PyData) (E : Ent), vs = [v, .ref d, .str t] ∧ Dq K H v (.tuple [.str z, .str f, .tuple ss]) ∧ StatesOk z ss ∧ ValD [] H d E ∧ look E = valOf z ss ∧ allIn z t = true ∧ t.length ≤ 200 ∧ f.length ≤ 2000 ∧ (∀ c w, valOf z ss c = some w → w.1.length ≤ 2000) ∧
  (∀ c, stuckAt (valOf z ss) t.cps.toList 0 = some c → noOutE K T.a_NoOutcome X H (kindT z ss (threadOf z ss c)) ((threadOf z ss c).map callD)) ∧
  (∀ u g, rd (valOf z ss) t.cps.toList (f.cps.toList, 0) = some (u, g) → (lastD ss g = .none → noOutE K T.a_NoOutcome X H "last" []) ∧
    ∀ w, lastD ss g = .str w → (2000 < (tx u ++ w).length → tooManyE T.a_TooMany X H 2000) ∧
      ((tx u ++ w).length ≤ 2000 → ∀ (H' : Hp) (r : Addr), Same H H' → H r = none → H' r = some (.lst ((wordsT z f t ss w).map V.str)) → Q (.ref r) H'))
theorem words_cat {z f t : Str} {ss : List PyData} {u : List Nat} {g : Nat} {w : Str} (h : rd (valOf z ss) t.cps.toList (f.cps.toList, 0) = some (u, g)) : catS (wordsT z f t ss w) = u ++ w.cps.toList := by
  have e := rd_words h
  have e : u = f.cps.toList ++ ((runC (valOf z ss) t.cps.toList 0).map (wordOf (valOf z ss))).flatten := e
  unfold wordsT catS
  rw [e, List.map_cons, List.flatten_cons, List.map_append, List.flatten_append, List.map_map]
  have e2 : ((fun x : Str => x.cps.toList) ∘ fun c => tx (wordOf (valOf z ss) c)) = wordOf (valOf z ss) := by
    funext c
    simp
  first
  | rw [e2]; simp
  | simp
theorem words_short {z f t : Str} {ss : List PyData} {w : Str} (lf : f.length ≤ 2000) (hs : ∀ c w, valOf z ss c = some w → w.1.length ≤ 2000) (lw : w.length ≤ 2000) : ∀ y ∈ wordsT z f t ss w, y.length ≤ 2000 := by
  intro y hy
  unfold wordsT at hy
  rcases List.mem_cons.1 hy with rfl | hy
  · exact lf
  rcases List.mem_append.1 hy with hy | hy
  · obtain ⟨c, _, rfl⟩ := List.mem_map.1 hy
    rw [tx_len]
    unfold wordOf
    cases e : valOf z ss c with
    | none => exact Nat.zero_le _
    | some v => exact hs _ _ e
  · rw [List.mem_singleton.1 hy]
    exact lw
theorem words_many (z f t : Str) (ss : List PyData) (w : Str) : (wordsT z f t ss w).length ≤ t.length + 2 := by
  unfold wordsT
  rw [List.length_cons, List.length_append, List.length_map]
  have := runC_len (f := valOf z ss) (l := t.cps.toList) (g := 0)
  have e : t.cps.toList.length = t.length := by simp [Str.length]
  show _ + 1 + 1 ≤ _
  omega
theorem sum_int (ps : List Str) : (ps.map fun y => (y.length : Int)).sum = (((ps.map (·.length)).sum : Nat) : Int) := by
  induction ps with
  | nil => rfl
  | cons p r ih =>
    rw [List.map_cons, List.sum_cons, ih, List.map_cons, List.sum_cons]
    omega
/-- def words_of_text(expander, found, text): -/
theorem ok_words_of_text (T : Tx K mg) : FnOk P w K mg base (L2.CX P w) 6 T.a_words_of_text T.fd_words_of_text ["expander", "found", "text"] (sp_words_of_text K mg T) := by
  refine T.F_words_of_text.okX sc_words_of_text (fun vs H Q E h => ?_) (fun cdv A outer s H vs Q E hr h => ?_)
  · obtain ⟨_, _, _, _, _, _, _, rfl, _⟩ := h
    rfl
  · refine ⟨_, (pss_cons (ps_asg (pe_call (ok_calls_of_text T) (hr.mono (by decide)) (by rfl) T.g_calls_of_text T.F_calls_of_text.kp T.b_calls_of_text .nil (passes_call (takes_of rfl rfl rfl rfl) (fun _ _ _ _ h => h)) (pa_cons (pv 0) (pa_cons (pv 1) (pa_cons (pv 2) pa_nil)))) (pg_tup rfl (pgs_cons (pg_name (i := 4) sc_words_of_text.nd rfl (by first | exact Or.inl rfl | exact Or.inr rfl)) (pgs_cons (pg_name (i := 5) sc_words_of_text.nd rfl (by first | exact Or.inl rfl | exact Or.inr rfl)) pgs_nil))))
    (pss_cons (ps_set (i := 3) sc_words_of_text.nd rfl (by first | exact Or.inl rfl | exact Or.inr rfl) (pe_op op_cat (pe_op op_cat (pe_lst (pa_cons (pe_ix ix_tup (pv 0) pe_int (fun _ _ => rfl)) pa_nil)) (pe_lc (own := [("call", 6)]) (g := gName 6) (by rfl) sc_words_of_text.nd (pi_list (pv 4)) (blkOk_by (own := [("call", 6)]) (N := N_words_of_text) (sc := defScope s_words_of_text) (by decide +kernel)) (fun _ _ _ _ _ => pg_name (i := 6) sc_words_of_text.nd rfl (by first | exact Or.inl rfl | exact Or.inr rfl)) (fun _ _ _ _ _ => pts_nil) (fun _ _ _ _ _ => (pe_ix (ix_tup : IxR _ (rIxT K)) (pe_dget (unit1 hr.units) (pv 1) (pv 6) (fun _ _ => rfl)) pe_int (fun _ _ => rfl))))) (pe_lst (pa_cons (pv 5) pa_nil))))
    (pss_cons (ps_if (pt_cmpR op_gt (pe_callB (cr_sum rfl) (by rfl) T.z_sum (by decide +kernel) (pa_cons (pe_lc (own := [("word", 7)]) (g := gName 7) (by rfl) sc_words_of_text.nd (pi_list (pv 3)) (blkOk_by (own := [("word", 7)]) (N := N_words_of_text) (sc := defScope s_words_of_text) (by decide +kernel)) (fun _ _ _ _ _ => pg_name (i := 7) sc_words_of_text.nd rfl (by first | exact Or.inl rfl | exact Or.inr rfl)) (fun _ _ _ _ _ => pts_nil) (fun _ _ _ _ _ => (pe_callB call_len_str (by rfl) T.z_len PySem.boot_len (pa_cons (pv 7) pa_nil)))) pa_nil)) (pe_glob (v := .int 2000) (by rfl) T.m_MOST_WORD ⟨_, rfl⟩) (nomark _))
      (pss_one (ps_raise rfl (takes_of rfl rfl rfl rfl) (pmk_oex T.o_TooMany T.ii_TooMany T.it_TooMany (ok_TooMany_init T) (hr.mono (by decide)) T.ib_TooMany .nil pass0 (by rfl) T.g_TooMany (pa_cons (pe_glob (v := .int 2000) (by rfl) T.m_MOST_WORD ⟨_, rfl⟩) pa_nil))))
      pss_nil)
    (pss_one (ps_ret (pv 3)))))), ?_⟩
    obtain ⟨v, d, z, f, t, ss, E, rfl, hv, ok, hV, hl, hat, lt, lf, hsm, q1, q2⟩ := h
    refine ⟨_, rfl, _, rfl, _, rfl, v, d, z, f, t, ss, E, rfl, hv, ok, hV.pr, hl, hat, lt, q1, fun u g hr => ⟨(q2 u g hr).1, fun w hw lw H1 p l xs s1 nl hl1 hxs hp => ?_⟩⟩
    obtain ⟨q3, q4⟩ := (q2 u g hr).2 w hw
    refine ⟨p, _, rfl, SqT.of hp, rfl, _, _, rfl, _, _, rfl, rfl, ?_⟩
    have hv1 := hv.mono s1
    obtain ⟨a, t', zs, rfl, ht, hts, hA⟩ := expV_of hv1
    refine ⟨_, rfl, a, _, 1, _, rfl, rfl, ht, rfl, (by show 1 ≤ sizeLine; decide), fun A nA => ?_⟩
    have s2 := same_new (o := .lst [.str f]) nA
    have hA2 : upd H1 A (.lst [.str f]) A = some (.lst [.str f]) := upd_same
    revert s2 hA2
    generalize upd H1 A (.lst [.str f]) = H2
    intro s2 hA2
    have s12 := Same.trans s1 s2
    obtain ⟨kvs, hd2, hE2⟩ := hV.same s12
    let cs := runC (valOf z ss) t.cps.toList 0
    have lcs : cs.length ≤ 200 := by
      refine Nat.le_trans runC_len ?_
      have : t.cps.toList.length = t.length := by simp [Str.length]
      omega
    have hxs2 : CallsAt H2 xs cs := hxs.mono s2
    have hl2 := s2 _ _ hl1
    refine ⟨_, rfl, l, rfl, ⟨xs, SqL.of hl2⟩, fun D nD => ?_⟩
    refine lc_list (xs := xs) (fun i H' => Same H2 H' ∧ H' D = some (.lst (((cs.take i).map fun c => tx (wordOf (valOf z ss) c)).map V.str))) ⟨same_new nD, by rw [List.take_zero]; exact upd_same⟩ (fun _ _ _ h => SqL.of (h.1 _ _ hl2)) ?_ ?_
    · rintro i x H3 hx ⟨s3, hD3⟩
      obtain ⟨pc, c, rfl, hc, hpc⟩ := hxs2.get hx
      obtain ⟨wv, ewv⟩ := runC_all (a := (f.cps.toList, 0)) hr c (List.mem_of_getElem? hc)
      have hpc3 : CallAt H3 pc c := s3 _ _ hpc
      refine ⟨rfl, _, rfl, _, rfl, ?_⟩
      rcases (hE2.mono (Same.trans off_same s3)).get c with ⟨vv, ww, e5, e6, e7⟩ | ⟨e5, e6⟩
      · rw [hl, ewv] at e6
        cases e6
        refine ⟨d, vv, rfl, ?_, ?_⟩
        · rw [← e5]
          exact DGet.t (k := ckey c) (s3 _ _ hd2) hpc3.key
        · obtain ⟨pw, rfl, e8⟩ := e7
          refine ⟨pw, _, 0, _, rfl, rfl, SqT.of e8, rfl, ?_⟩
          refine ⟨_, hD3, ?_, fun b o e => (upd_ne (ne_of_none e nD)).trans (s3 b o e), ?_⟩
          · rw [List.length_map, List.length_map, List.length_take]
            exact Nat.lt_of_le_of_lt (Nat.min_le_right _ _) (Nat.lt_of_le_of_lt lcs (by decide))
          · have ew : wordOf (valOf z ss) c = wv.1 := by
              unfold wordOf
              rw [ewv]
            rw [upd_same, List.take_add_one, hc, List.map_append, List.map_append]
            show _ = some (HO.lst (_ ++ [V.str (tx (wordOf (valOf z ss) c))]))
            rw [ew]
      · rw [hl, ewv] at e6
        cases e6
    · rintro H3 ⟨s3, hD3⟩
      rw [hxs2.len, List.take_length] at hD3
      have s13 := Same.trans s12 s3
      refine ⟨A, D, _, _, rfl, rfl, s3 _ _ hA2, hD3, ?_, fun B nB => ?_⟩
      · rw [List.length_map, List.length_map]
        exact Nat.le_trans (show [V.str f].length + cs.length ≤ 300 by show 1 + cs.length ≤ 300; omega) (by decide)
      have s4 := same_new (o := .lst ([V.str f] ++ (cs.map fun c => tx (wordOf (valOf z ss) c)).map V.str)) nB
      have hB4 : upd H3 B (.lst ([V.str f] ++ (cs.map fun c => tx (wordOf (valOf z ss) c)).map V.str)) B = some (.lst ([V.str f] ++ (cs.map fun c => tx (wordOf (valOf z ss) c)).map V.str)) := upd_same
      revert s4 hB4
      generalize upd H3 B (.lst ([V.str f] ++ (cs.map fun c => tx (wordOf (valOf z ss) c)).map V.str)) = H4
      intro s4 hB4
      refine ⟨_, rfl, (by show 1 ≤ sizeLine; decide), fun C nC => ?_⟩
      have s5 := same_new (o := .lst [.str w]) nC
      have hC5 : upd H4 C (.lst [.str w]) C = some (.lst [.str w]) := upd_same
      revert s5 hC5
      generalize upd H4 C (.lst [.str w]) = H5
      intro s5 hC5
      have lB : ([V.str f] ++ (cs.map fun c => tx (wordOf (valOf z ss) c)).map V.str).length + [V.str w].length ≤ 300 := by
        rw [List.length_append, List.length_map, List.length_map]
        show 1 + cs.length + 1 ≤ 300
        omega
      refine ⟨B, C, _, _, rfl, rfl, s5 _ _ hB4, hC5, Nat.le_trans lB (by decide), fun R nR => ?_⟩
      have ews : [V.str f] ++ (cs.map fun c => tx (wordOf (valOf z ss) c)).map V.str ++ [V.str w] = (wordsT z f t ss w).map V.str := by
        unfold wordsT
        simp [cs]
      rw [ews]
      have s6 := same_new (o := .lst ((wordsT z f t ss w).map V.str)) nR
      have hR6 : upd H5 R (.lst ((wordsT z f t ss w).map V.str)) R = some (.lst ((wordsT z f t ss w).map V.str)) := upd_same
      revert s6 hR6
      generalize upd H5 R (.lst ((wordsT z f t ss w).map V.str)) = H6
      intro s6 hR6
      have sA : Same H H5 := Same.trans s13 (Same.trans s4 s5)
      have nRH : H R = none := by
        cases e : H R with
        | none => rfl
        | some o =>
          rw [sA _ _ e] at nR
          cases nR
      have s16 := Same.trans sA s6
      refine ⟨_, rfl, R, rfl, ⟨_, SqL.of hR6⟩, fun D2 nD2 => ?_⟩
      refine lc_list (xs := (wordsT z f t ss w).map V.str) (fun i H' => Same H6 H' ∧ H' D2 = some (.lst ((((wordsT z f t ss w).take i).map fun y => (y.length : Int)).map V.int))) ⟨same_new nD2, by rw [List.take_zero]; exact upd_same⟩ (fun _ _ _ h => SqL.of (h.1 _ _ hR6)) ?_ ?_
      · rintro i x H7 hx ⟨s7, hD7⟩
        rw [List.getElem?_map] at hx
        cases ey : (wordsT z f t ss w)[i]? with
        | none =>
          rw [ey] at hx
          cases hx
        | some y =>
          rw [ey] at hx
          cases hx
          have ly : y.length ≤ sizeLine := Nat.le_trans (words_short lf hsm lw y (List.mem_of_getElem? ey)) (by decide)
          refine ⟨rfl, _, rfl, y, rfl, ly, ?_⟩
          refine ⟨_, hD7, ?_, fun b o e => (upd_ne (ne_of_none e nD2)).trans (s7 b o e), ?_⟩
          · rw [List.length_map, List.length_map, List.length_take]
            have := words_many z f t ss w
            exact Nat.lt_of_le_of_lt (Nat.min_le_right _ _) (Nat.lt_of_le_of_lt (show (wordsT z f t ss w).length ≤ 300 by omega) (by decide))
          · rw [upd_same, List.take_add_one, ey, List.map_append, List.map_append]
            rfl
      · rintro H7 ⟨s7, hD7⟩
        rw [List.length_map, List.take_length] at hD7
        refine ⟨D2, (wordsT z f t ss w).map fun y => (y.length : Int), rfl, SqL.of hD7, _, _, rfl, rfl, _, rfl, ?_⟩
        have ec := words_cat (f := f) (w := w) hr
        have es : ((wordsT z f t ss w).map fun y => (y.length : Int)).sum = (((tx u ++ w).length : Nat) : Int) := by
          rw [sum_int, sum_cat, ec, cat_len, tx_len, List.length_append]
          simp [Str.length]
        rw [es]
        by_cases hb : 2000 < (tx u ++ w).length
        · exact if_true (decide_eq_true (show (2000 : Int) < ((tx u ++ w).length : Int) by omega)) (raise1_out ((q3 hb).mono (Same.trans s16 s7)))
        · exact if_false (decide_eq_false (show ¬ (2000 : Int) < ((tx u ++ w).length : Int) by omega)) ⟨_, rfl, q4 (Nat.le_of_not_lt hb) H7 R (Same.trans s16 s7) nRH (s7 _ _ hR6)⟩
end
end K14

namespace K14
open PySem PySem.Spec PyProof.Rows L2 G Lk
section
variable {P : Program} {w : World} {K : PySem.W.Frag} {mg : Str → Option Value} {base : Heap}
def sp_outcome (K : PySem.W.Frag) (mg : Str → Option Value) (T : Tx K mg) : Sp := fun vs H Q X => ∃ (v x : V) (d dx : PyData), vs = [v, x] ∧ Dq K H v d ∧ Dq K H x dx ∧ Light d ∧ Light dx ∧
  (expB d = false → ∀ H', Same H H' → X (.ref T.a_NoExpander) none H') ∧
  (∀ z f ss, d = .tuple [.str z, .str f, .tuple ss] → expB d = true → (isText z dx = false → ∀ H', Same H H' → X (.ref T.a_NoText) none H') ∧
    ∀ t, dx = .str t → isText z dx = true → ((∃ c w, Val z ss c w ∧ 2000 < w.1.length) → tooManyE T.a_TooMany X H 2000) ∧
      ((∀ c w, Val z ss c w → w.1.length ≤ 2000) →
        (∀ c, stuckAt (valOf z ss) t.cps.toList 0 = some c → noOutE K T.a_NoOutcome X H (kindT z ss (threadOf z ss c)) ((threadOf z ss c).map callD)) ∧
        (∀ u g, rd (valOf z ss) t.cps.toList (f.cps.toList, 0) = some (u, g) → (lastD ss g = .none → noOutE K T.a_NoOutcome X H "last" []) ∧
          ∀ w, lastD ss g = .str w → (2000 < (tx u ++ w).length → tooManyE T.a_TooMany X H 2000) ∧ ((tx u ++ w).length ≤ 2000 → ∀ H', Same H H' → Q (.str (tx u ++ w)) H'))))
/-- def outcome(expander, text): -/
theorem ok_outcome (T : Tx K mg) : FnOk P w K mg base (L2.CX P w) 8 T.a_outcome T.fd_outcome ["expander", "text"] (sp_outcome K mg T) := by
  refine T.F_outcome.okX sc_outcome (fun vs H Q E h => ?_) (fun cdv A outer s H vs Q E hr h => ?_)
  · obtain ⟨_, _, _, _, rfl, _⟩ := h
    rfl
  · refine ⟨_, (pss_cons (ps_expr (pe_call (ok_need_expander T) (hr.mono (by decide)) (by rfl) T.g_need_expander T.F_need_expander.kp T.b_need_expander .nil (passes_call (takes_of rfl rfl rfl rfl) (fun _ _ _ _ h => h)) (pa_cons (pv 0) pa_nil)))
    (pss_cons (ps_expr (pe_call (ok_need_text T) (hr.mono (by decide)) (by rfl) T.g_need_text T.F_need_text.kp T.b_need_text .nil (passes_call (takes_of rfl rfl rfl rfl) (fun _ _ _ _ h => h)) (pa_cons (pe_ix ix_tup (pv 0) pe_int (fun _ _ => rfl)) (pa_cons (pv 1) pa_nil))))
    (pss_one (ps_ret (pe_join pe_str (pe_call (ok_words_of_text T) (hr.mono (by decide)) (by rfl) T.g_words_of_text T.F_words_of_text.kp T.b_words_of_text .nil (passes_call (takes_of rfl rfl rfl rfl) (fun _ _ _ _ h => h)) (pa_cons (pv 0) (pa_cons (pe_call (ok_values_of T) (hr.mono (by decide)) (by rfl) T.g_values_of T.F_values_of.kp T.b_values_of .nil (passes_call (takes_of rfl rfl rfl rfl) (fun _ _ _ _ h => h)) (pa_cons (pv 0) pa_nil)) (pa_cons (pv 1) pa_nil))))))))), ?_⟩
    obtain ⟨v, x, d, dx, rfl, hv, hx, hz, hzx, kE, k⟩ := h
    refine ⟨_, rfl, v, d, rfl, hv, hz, kE, fun eb H1 s1 => ?_⟩
    obtain ⟨z, f, ss, rfl, hzs, ⟨hf, lf⟩, l1, l60, hss⟩ := expB_parts eb
    have ok : StatesOk z ss := ⟨hzs, l1, l60, hss⟩
    obtain ⟨k1, k2⟩ := k z f ss rfl eb
    have hv1 := hv.mono s1
    obtain ⟨a, t', xs, rfl, ht, hts, hA⟩ := expV_of hv1
    refine ⟨_, rfl, a, _, _, _, rfl, rfl, ht, rfl, _, rfl, z, x, dx, rfl, hx.mono s1, fun w e => by subst e; exact light_str hzx, fun e => k1 e H1 s1, fun e => ?_⟩
    obtain ⟨t, rfl⟩ := text_str e
    obtain rfl := hx.strV
    obtain ⟨k3, k4⟩ := k2 t rfl e
    have et : allIn z t = true ∧ t.length ≤ 200 := by
      have e : (allIn z t && decide (t.length ≤ 200)) = true := e
      rw [Bool.and_eq_true, decide_eq_true_eq] at e
      exact e
    refine ⟨⟨_, rfl⟩, _, rfl, _, rfl, .ref a, z, f, ss, rfl, hv1, ok, fun hbig => (k3 hbig).mono s1, fun hsm H2 d E s2 nd hV cl all => ?_⟩
    obtain ⟨k5, k6⟩ := k4 hsm
    have hl := look_all ok cl all
    have s12 := Same.trans s1 s2
    refine ⟨_, rfl, .ref a, d, z, f, t, ss, E, rfl, hv1.mono s2, ok, hV.any (fun a ha => nomatch ha), hl, et.1, et.2, lf, (fun c w hw => hsm c w (valOf_some.1 hw)), fun c hc => (k5 c hc).mono s12, fun u g hr => ?_⟩
    obtain ⟨k7, k8⟩ := k6 u g hr
    refine ⟨fun e => (k7 e).mono s12, fun w hw => ?_⟩
    obtain ⟨k9, k10⟩ := k8 w hw
    refine ⟨fun e => (k9 e).mono s12, fun lw H3 r s3 nr hr3 => ?_⟩
    have ec := words_cat (f := f) (w := w) hr
    refine ⟨tx [], r, wordsT z f t ss w, rfl, rfl, .inl (SqL.of hr3), ?_, ?_⟩
    · rw [sum_cat, ec]
      show _ + _ * 0 ≤ _
      rw [cat_len, tx_len] at lw
      rw [List.length_append]
      have : w.cps.toList.length = w.length := by simp [Str.length]
      omega
    · rw [join_empty, ec]
      have e4 : tx (u ++ w.cps.toList) = tx u ++ w := str_ext (by
        show (tx (u ++ w.cps.toList)).cps.toList = ((tx u).cps ++ w.cps).toList
        simp)
      rw [e4]
      exact k10 lw H3 (Same.trans s12 s3)
end
end K14

namespace K14
open PySem PySem.Spec PyProof.Rows L2 G Lk
section
variable {P : Program} {w : World} {K : PySem.W.Frag} {mg : Str → Option Value} {base : Heap}
def sp_plain (K : PySem.W.Frag) (mg : Str → Option Value) (T : Tx K mg) : Sp := fun vs H Q E => ∃ (v : V) (d : PyData), vs = [v] ∧ Dq K H v d ∧ Light d ∧ expB d = false ∧ ∀ H', Same H H' → E (.ref T.a_NoExpander) none H'
/-- def plain(expander): -/
theorem ok_plain (T : Tx K mg) : FnOk P w K mg base (L2.CX P w) 8 T.a_plain T.fd_plain ["expander"] (sp_plain K mg T) := by
  refine T.F_plain.okX sc_plain (fun vs H Q E h => ?_) (fun cdv A outer s H vs Q E hr h => ?_)
  · obtain ⟨_, _, rfl, _⟩ := h
    rfl
  · refine ⟨_, (pss_cons (ps_expr (pe_call (ok_need_expander T) (hr.mono (by decide)) (by rfl) T.g_need_expander T.F_need_expander.kp T.b_need_expander .nil (passes_call (takes_of rfl rfl rfl rfl) (fun _ _ _ _ h => h)) (pa_cons (pv 0) pa_nil)))
    (pss_one ps_never)), ?_⟩
    obtain ⟨v, d, rfl, hv, hz, he, kE⟩ := h
    exact ⟨_, rfl, v, d, rfl, hv, hz, fun _ => kE, fun eb => (Bool.false_ne_true (he.symm.trans eb)).elim⟩
end
end K14

namespace K14
open PySem PySem.Spec PyProof.Rows L2 G Lk
section
variable {P : Program} {w : World} {K : PySem.W.Frag} {mg : Str → Option Value} {base : Heap}
def sp_shows_thread (K : PySem.W.Frag) (mg : Str → Option Value) (T : Tx K mg) : Sp := fun vs H Q E => ∃ (v x : V) (d : PyData), vs = [v, x] ∧ Dq K H v d ∧ Light d ∧ expB d = false ∧ ∀ H', Same H H' → E (.ref T.a_NoExpander) none H'
/-- def shows_thread(expander, thing): -/
theorem ok_shows_thread (T : Tx K mg) : FnOk P w K mg base (L2.CX P w) 8 T.a_shows_thread T.fd_shows_thread ["expander", "thing"] (sp_shows_thread K mg T) := by
  refine T.F_shows_thread.okX sc_shows_thread (fun vs H Q E h => ?_) (fun cdv A outer s H vs Q E hr h => ?_)
  · obtain ⟨_, _, _, rfl, _⟩ := h
    rfl
  · refine ⟨_, (pss_cons (ps_expr (pe_call (ok_need_expander T) (hr.mono (by decide)) (by rfl) T.g_need_expander T.F_need_expander.kp T.b_need_expander .nil (passes_call (takes_of rfl rfl rfl rfl) (fun _ _ _ _ h => h)) (pa_cons (pv 0) pa_nil)))
    (pss_cons ps_never
    (pss_cons ps_never
    (pss_cons ps_never
    (pss_one ps_never))))), ?_⟩
    obtain ⟨v, x, d, rfl, hv, hz, he, kE⟩ := h
    exact ⟨_, rfl, v, d, rfl, hv, hz, fun _ => kE, fun eb => (Bool.false_ne_true (he.symm.trans eb)).elim⟩
end
end K14

namespace K14
open PySem PySem.Spec PyProof.Rows L2 G Lk
section
variable {P : Program} {w : World} {K : PySem.W.Frag} {mg : Str → Option Value} {base : Heap}
/-- the value of a next stand, or None -/
def optD : Option (Str × Str × Nat) → PyData
  | some p => standD p
  | none => .none
def sp_next_stand (K : PySem.W.Frag) : Sp := fun vs H Q _ => ∃ (v st : V) (z f a b : Str) (s : Nat) (ss : List PyData), vs = [v, st] ∧ Dq K H v (.tuple [.str z, .str f, .tuple ss]) ∧ Dq K H st (standD (a, b, s)) ∧ StatesOk z ss ∧
  s < ss.length ∧ allIn z b = true ∧ a.length ≤ 4000000 ∧ b.length ≤ 4000000 ∧ ∀ H' r, Same H H' → Dq K H' r (optD (nextD z ss a b s)) → Q r H'
/-- def _next_stand(expander, stand): -/
theorem ok_next_stand (T : Tx K mg) : FnOk P w K mg base CX0 2 T.a__next_stand T.fd__next_stand ["expander", "stand"] (sp_next_stand K) := by
  refine T.F__next_stand.ok sc_next_stand (fun vs H Q E h => ?_) (fun cdv A outer s H vs Q E hr h => ?_)
  · obtain ⟨_, _, _, _, _, _, _, _, rfl, _⟩ := h
    rfl
  · refine ⟨_, (pss_cons (ps_asg (pv 1) (pg_tup rfl (pgs_cons (pg_name (i := 3) sc_next_stand.nd rfl (by first | exact Or.inl rfl | exact Or.inr rfl)) (pgs_cons (pg_name (i := 4) sc_next_stand.nd rfl (by first | exact Or.inl rfl | exact Or.inr rfl)) (pgs_cons (pg_name (i := 5) sc_next_stand.nd rfl (by first | exact Or.inl rfl | exact Or.inr rfl)) pgs_nil)))))
    (pss_cons (ps_if (pt_cmpR op_eq (pv 4) pe_str (nomark _))
      (pss_one (ps_ret pe_non))
      pss_nil)
    (pss_cons (ps_set (i := 2) sc_next_stand.nd rfl (by first | exact Or.inl rfl | exact Or.inr rfl) (pe_call (ok_move_of T) (hr.mono (by decide)) (by rfl) T.g_move_of T.F_move_of.kp T.b_move_of .nil pass0 (pa_cons (pv 0) (pa_cons (pv 5) (pa_cons (pe_ix ix_str (pv 4) pe_int (fun _ _ => rfl)) pa_nil)))))
    (pss_cons (ps_if (pt_cmpR op_isN (pv 2) pe_non (nomark _))
      (pss_one (ps_ret pe_non))
      pss_nil)
    (pss_one (ps_ret (pe_tup (pa_cons (pe_op op_add_str (pv 3) (pe_ix ix_tup (pv 2) pe_int (fun _ _ => rfl))) (pa_cons (pe_op op_add_str (pe_ix ix_tup (pv 2) pe_int (fun _ _ => rfl)) (pe_slice sl_str (pv 4) (po_some pe_int) po_none)) (pa_cons (pe_ix ix_tup (pv 2) pe_int (fun _ _ => rfl)) pa_nil)))))))))), ?_⟩
    obtain ⟨v, st, z, f, a, b, s, ss, rfl, hv, hst, ok, hs, hb, la, lb, q⟩ := h
    obtain ⟨p, rfl, hp⟩ := standV hst
    refine ⟨_, rfl, p, _, rfl, hp, rfl, _, _, rfl, _, _, rfl, _, _, rfl, rfl, ?_⟩
    refine ⟨_, rfl, rfl, _, rfl, ?_⟩
    rcases str_cases b with rfl | ⟨c, r, rfl⟩
    · refine if_true rfl ?_
      exact q H .non (Same.refl H) .non
    · refine if_false (decide_eq_false fun e => ?_) ?_
      · injection e with e
        exact tx_cons_ne e
      have hc : c ∈ z.cps.toList := allIn_mem hb c (by rw [tx_codes]; exact List.mem_cons_self ..)
      obtain ⟨ms, l, k, rest, e1, e2, e3, e4⟩ := place_in ok hs hc
      have lbz : (tx (c :: r)).length ≤ sizeLine := Nat.le_trans lb (by decide)
      refine ⟨_, rfl, _, rfl, _, rfl, tx (c :: r), _, c, rfl, rfl, lbz, atI_nat (j := 0) (by rw [tx_codes]; rfl), ?_⟩
      refine ⟨v, _, _, _, _, _, moveD z ss s c, rfl, hv, .int _, .str _, ⟨z, f, ss, s, Ls.one c, ms, l, k, rest, rfl, rfl, rfl, e1, e2, e3⟩, fun m hm => ?_⟩
      rw [next_cons] at q
      refine ⟨_, rfl, rfl, _, rfl, ?_⟩
      generalize moveD z ss s c = md at q hm e4
      rcases moveB_parts e4 with rfl | ⟨x, y, g, rfl, ⟨hx, lx⟩, ⟨hy, ly⟩, hg⟩
      · obtain rfl := hm.noneV
        exact if_true rfl (q H .non (Same.refl H) .non)
      · obtain ⟨pm, rfl, hpm⟩ := standV (a := x) (b := y) (s := g) hm
        refine if_false rfl ?_
        refine ⟨_, rfl, _, rfl, pm, _, 0, _, rfl, rfl, hpm, rfl, a, x, rfl, rfl, Nat.le_trans (Nat.add_le_add la lx) (by decide), ?_⟩
        refine ⟨_, rfl, pm, _, 1, _, rfl, rfl, hpm, rfl, _, rfl, _, rfl, tx (c :: r), rfl, lbz, ?_⟩
        have ec : cutS (tx (c :: r)) (some 1) none = tx r := by
          rw [show (some (1 : Int)) = some ((1 : Nat) : Int) from rfl, cutS_from, tx_codes]
          rfl
        have lr : (tx r).length ≤ 4000000 := by
          rw [tx_len] at lb ⊢
          exact Nat.le_trans (Nat.le_succ _) lb
        rw [ec]
        refine ⟨y, tx r, rfl, rfl, Nat.le_trans (Nat.add_le_add ly lr) (by decide), _, rfl, pm, _, 2, _, rfl, rfl, hpm, rfl, (by show 3 ≤ sizeLine; decide), fun p2 np2 => ?_⟩
        refine q _ _ (same_new np2) ?_
        show Dq K _ (.ref p2) (.tuple [.str (a ++ x), .str (y ++ tx r), .int (((g : Int).toNat : Nat) : Int)])
        rw [Int.toNat_natCast]
        exact .tup (SqT.of upd_same) (.cons (.str _) (.cons (.str _) (.cons (.int _) .nil)))
end
end K14

namespace K14
open PySem PySem.Spec PyProof.Rows L2 G Lk
section
variable {P : Program} {w : World} {K : PySem.W.Frag} {mg : Str → Option Value} {base : Heap}
/-- the first stands of a run -/
def runD (z : Str) (ss : List PyData) : Nat → Str × Str × Nat → List (Str × Str × Nat)
  | 0, _ => []
  | n + 1, p => p :: match nextD z ss p.1 p.2.1 p.2.2 with
    | some q => runD z ss n q
    | none => []
def sp_stands (K : PySem.W.Frag) (mg : Str → Option Value) (T : Tx K mg) : Sp := fun vs H Q E => ∃ (v x : V) (n : Nat) (d dx : PyData), vs = [v, x, .int (n : Int)] ∧ Dq K H v d ∧ Dq K H x dx ∧ Light d ∧ Light dx ∧ n ≤ 1000 ∧
  (expB d = false → ∀ H', Same H H' → E (.ref T.a_NoExpander) none H') ∧
  (∀ z f ss, d = .tuple [.str z, .str f, .tuple ss] → expB d = true → (isText z dx = false → ∀ H', Same H H' → E (.ref T.a_NoText) none H') ∧
    ∀ t, dx = .str t → isText z dx = true → ∀ H' (r : Addr), Same H H' → H r = none → (∃ us, H' r = some (.lst us) ∧ DqAll K H' us ((runD z ss n (f, t, 0)).map standD)) → Q (.ref r) H')
section
variable {T : Tx K mg} {H : Hp} {Q : VK} {v : V} {z f t : Str} {ss : List PyData}
theorem stands_k {n : Nat} (hn : n ≤ 1000) (hd : Dq K H v (.tuple [.str z, .str f, .tuple ss])) (lE : Light (.tuple [.str z, .str f, .tuple ss])) (he : expB (.tuple [.str z, .str f, .tuple ss]) = true) (ht : allIn z t = true) (lt : t.length ≤ 200)
    (k : ∀ H' (r : Addr), Same H H' → H r = none → (∃ us, H' r = some (.lst us) ∧ DqAll K H' us ((runD z ss n (f, t, 0)).map standD)) → Q (.ref r) H') : sp_stands K mg T [v, .str t, .int (n : Int)] H Q E0 := by
  have e1 : isText z (.str t) = true := by
    show (allIn z t && decide (t.length ≤ 200)) = true
    rw [ht, decide_eq_true lt]
    rfl
  refine ⟨v, .str t, n, _, .str t, rfl, hd, .str t, lE, by unfold Light; simp only [PyData.weight]; exact Nat.le_trans lt (by decide), hn, fun e => (Bool.false_ne_true (e.symm.trans he)).elim, fun z' f' ss' e _ => ?_⟩
  cases e
  refine ⟨fun e => (Bool.false_ne_true (e.symm.trans e1)).elim, fun t' et _ H' r s hn hr => ?_⟩
  cases et
  exact k H' r s hn hr
end
/-- def stands(expander, text, *, most=100): -/
theorem ok_stands (T : Tx K mg) : FnOk P w K mg base (L2.CX P w) 8 T.a_stands T.fd_stands ["expander", "text", "most"] (sp_stands K mg T) := by
  refine T.F_stands.okX sc_stands (fun vs H Q E h => ?_) (fun cdv A outer s H vs Q E hr h => ?_)
  · obtain ⟨_, _, _, _, _, rfl, _⟩ := h
    rfl
  · refine ⟨_, (pss_cons (ps_expr (pe_call (ok_need_expander T) (hr.mono (by decide)) (by rfl) T.g_need_expander T.F_need_expander.kp T.b_need_expander .nil (passes_call (takes_of rfl rfl rfl rfl) (fun _ _ _ _ h => h)) (pa_cons (pv 0) pa_nil)))
    (pss_cons (ps_expr (pe_call (ok_need_text T) (hr.mono (by decide)) (by rfl) T.g_need_text T.F_need_text.kp T.b_need_text .nil (passes_call (takes_of rfl rfl rfl rfl) (fun _ _ _ _ h => h)) (pa_cons (pe_ix ix_tup (pv 0) pe_int (fun _ _ => rfl)) (pa_cons (pv 1) pa_nil))))
    (pss_cons (ps_set (i := 3) sc_stands.nd rfl (by first | exact Or.inl rfl | exact Or.inr rfl) (pe_lst pa_nil))
    (pss_cons (ps_set (i := 4) sc_stands.nd rfl (by first | exact Or.inl rfl | exact Or.inr rfl) (pe_call (ok_first_stand T) (hr.mono (by decide)) (by rfl) T.g__first_stand T.F__first_stand.kp T.b__first_stand .nil pass0 (pa_cons (pv 0) (pa_cons (pv 1) pa_nil))))
    (pss_cons (ps_while (passes_of rfl) (PW.pt (pw_and (pt_cmpR op_notN (pv 4) pe_non (nomark _)) (pw_and1 (pt_cmpR op_lt (pe_callB call_len_seq (by rfl) T.z_len PySem.boot_len (pa_cons (pv 3) pa_nil)) (pv 2) (nomark _)))))
      (pss_cons (ps_expr (pe_bm PySem.F.plainAttrs_list PySem.F.slot_list_append PySem.F.type_list_append mt_append (pv 3) (pa_cons (pv 4) pa_nil)))
    (pss_one (ps_set (i := 4) sc_stands.nd rfl (by first | exact Or.inl rfl | exact Or.inr rfl) (pe_call (ok_next_stand T) (hr.mono (by decide)) (by rfl) T.g__next_stand T.F__next_stand.kp T.b__next_stand .nil pass0 (pa_cons (pv 0) (pa_cons (pv 4) pa_nil)))))))
    (pss_one (ps_ret (pv 3)))))))), ?_⟩
    obtain ⟨v, x, n, d, dx, rfl, hv, hx, hz, hzx, hn, kE, k⟩ := h
    refine ⟨_, rfl, v, d, rfl, hv, hz, kE, fun eb H1 s1 => ?_⟩
    obtain ⟨z, f, ss, rfl, hzs, ⟨hf, lf⟩, l1, l60, hss⟩ := expB_parts eb
    obtain ⟨k1, k2⟩ := k z f ss rfl eb
    have hv1 := hv.mono s1
    obtain ⟨a, t', xs, rfl, ht, hts, hA⟩ := expV_of hv1
    have ok : StatesOk z ss := ⟨hzs, l1, l60, hss⟩
    refine ⟨_, rfl, a, _, _, _, rfl, rfl, ht, rfl, _, rfl, z, x, dx, rfl, hx.mono s1, fun w e => by subst e; exact light_str hzx, fun e => k1 e H1 s1, fun e => ?_⟩
    obtain ⟨t, rfl⟩ := text_str e
    obtain rfl := hx.strV
    have et : allIn z t = true ∧ t.length ≤ 200 := by
      have e : (allIn z t && decide (t.length ≤ 200)) = true := e
      rw [Bool.and_eq_true, decide_eq_true_eq] at e
      exact e
    refine ⟨Nat.zero_le _, fun L nL => ?_⟩
    have s2 := same_new (o := .lst []) nL
    have nLH : H L = none := by
      cases e0 : H L with
      | none => rfl
      | some o =>
        rw [s1 _ _ e0] at nL
        cases nL
    refine ⟨_, rfl, _, rfl, _, z, f, t, ss, rfl, hv1.mono s2, fun H3 r s3 hr => ?_⟩
    have e3 : H3 L = some (.lst []) := s3 _ _ upd_same
    have s13 := Same.trans s2 s3
    have s13 := Same.trans s2 s3
    have st0 : Stood z ss.length 2000 (f, t, 0) := ⟨lf, hf, Nat.le_trans et.2 (by decide), et.1, by show 0 < ss.length; omega⟩
    have fl : ∀ q : Str × Str × Nat, hasList (standD q) = false := fun q => by
      unfold standD
      simp [hasList, hasListAll]
    have ofl : ∀ q : Option (Str × Str × Nat), hasList (optD q) = false := fun q => by
      cases q with
      | none => simp [optD, hasList]
      | some q => exact fl q
    refine while_by (fun σ H' => ∃ (us : List V) (pre : List (Str × Str × Nat)) (cur : Option (Str × Str × Nat)) (cv : V), σ = [some (.ref a), some (.str t), some (.int (n : Int)), some (.ref L), some cv] ∧ Same H1 H' ∧ H' L = some (.lst us) ∧ DqAll K (sans H' L) us (pre.map standD) ∧
      Dq K (sans H' L) cv (optD cur) ∧ pre.length ≤ n ∧ runD z ss n (f, t, 0) = pre ++ (match cur with | some q => runD z ss (n - pre.length) q | none => []) ∧ ∀ q, cur = some q → Stood z ss.length (2000 + 2000 * pre.length) q)
      (fun _ H' => match H' L with | some (.lst us) => n - us.length | _ => 0) ?_ ?_ ?_
    · exact ⟨[], [], some (f, t, 0), r, rfl, s13, e3, .nil, hr.out e3 (fl _), Nat.zero_le _, rfl, fun q e => by cases e; exact st0⟩
    · rintro σ H4 ⟨us, pre, cur, cv, rfl, s4, e4, hA4, hc4, lp, er, hcur⟩
      have lus : us.length = pre.length := by
        rw [hA4.length, List.length_map]
      cases cur with
      | none =>
        obtain rfl := hc4.noneV
        refine ⟨_, rfl, rfl, _, rfl, ?_⟩
        refine if_false rfl ?_
        refine if_false rfl ⟨_, rfl, ?_⟩
        rw [List.append_nil] at er
        refine k2 t rfl e H4 L (Same.trans s1 s4) nLH ⟨us, e4, ?_⟩
        rw [er]
        exact hA4.mono sans_same
      | some p =>
        have hst := hcur p rfl
        obtain ⟨pa, pb, ps⟩ := p
        obtain ⟨pp, rfl, hpp⟩ := standV (hc4.mono sans_same)
        refine ⟨_, rfl, rfl, _, rfl, ?_⟩
        refine if_true rfl ?_
        refine ⟨_, rfl, L, us, rfl, .inl (SqL.of e4), _, rfl, _, _, rfl, rfl, _, rfl, ?_⟩
        by_cases hlt : us.length < n
        · rw [decide_eq_true (show ((us.length : Nat) : Int) < (n : Int) by omega)]
          refine if_true rfl ?_
          refine ⟨_, rfl, .inl ⟨rfl, _, SqL.of e4⟩, _, rfl, L, us, _, rfl, rfl, e4, Nat.lt_of_lt_of_le (show us.length < 1000 by omega) (by decide), ?_⟩
          have sm5 : Sm L H4 (upd H4 L (.lst (us ++ [.ref pp]))) := Sm.pot
          have e5 : upd H4 L (.lst (us ++ [.ref pp])) L = some (.lst (us ++ [.ref pp])) := upd_same
          have s5 : Same H1 (upd H4 L (.lst (us ++ [.ref pp]))) := fun b o eb => (upd_ne (ne_of_none eb nL)).trans (s4 _ _ eb)
          revert sm5 e5 s5
          generalize upd H4 L (.lst (us ++ [.ref pp])) = H5
          intro sm5 e5 s5
          have hc5 := hc4.mono sm5
          have ll : 2000 + 2000 * pre.length ≤ 4000000 := by omega
          refine ⟨_, rfl, _, rfl, _, .ref pp, z, f, pa, pb, ps, ss, rfl, hv1.mono s5, hc5.mono sans_same, ok, hst.state, hst.frontIn, Nat.le_trans hst.done ll, Nat.le_trans hst.front ll, fun H6 r6 s6 hr6 => ?_⟩
          have e6 := s6 _ _ e5
          refine ⟨⟨us ++ [.ref pp], pre ++ [(pa, pb, ps)], nextD z ss pa pb ps, r6, rfl, Same.trans s5 s6, e6, ?_, hr6.out e6 (ofl _), by rw [List.length_append]; show pre.length + 1 ≤ n; omega, ?_, fun q eq => ?_⟩, ?_⟩
          · rw [List.map_append]
            exact ((hA4.append (.cons hc4 .nil)).mono sm5).mono (Sm.of s6)
          · rw [er]
            have e7 : n - pre.length = (n - (pre.length + 1)) + 1 := by omega
            show pre ++ runD z ss (n - pre.length) (pa, pb, ps) = _
            rw [e7, List.append_assoc, List.length_append]
            rfl
          · have := hst.next ok eq
            rw [List.length_append]
            show Stood z ss.length (2000 + 2000 * (pre.length + 1)) q
            rw [Nat.mul_add]
            exact this
          · rw [e6, e4]
            show n - (us ++ [V.ref pp]).length < n - us.length
            rw [List.length_append]
            show n - (us.length + 1) < n - us.length
            omega
        · rw [decide_eq_false (show ¬ ((us.length : Nat) : Int) < (n : Int) by omega)]
          refine if_false rfl ⟨_, rfl, ?_⟩
          have e0 : n - pre.length = 0 := by omega
          rw [e0] at er
          have er : runD z ss n (f, t, 0) = pre ++ [] := er
          rw [List.append_nil] at er
          refine k2 t rfl e H4 L (Same.trans s1 s4) nLH ⟨us, e4, ?_⟩
          rw [er]
          exact hA4.mono sans_same
    · rintro σ H' Q1 Q2 hQ h
      obtain ⟨v, hv, e1, k, e2, h⟩ := h
      refine ⟨v, hv, e1, k, e2, ?_⟩
      cases k with
      | false => exact hQ _ _ h
      | true =>
        obtain ⟨u, hu, p, ys, e3, e4, v2, hv2, i, j, e5, e6, k2, e7, h⟩ := h
        exact ⟨u, hu, p, ys, e3, e4, v2, hv2, i, j, e5, e6, k2, e7, hQ _ _ h⟩
end
end K14

namespace K14
open PySem PySem.Spec PyProof.Rows L2 G Lk
section
variable {P : Program} {w : World} {K : PySem.W.Frag} {mg : Str → Option Value} {base : Heap}
def standB (z : Str) (n : Nat) : PyData → Bool
  | .tuple [a, b, s] => isWord z a && (isWord z b && countB (n : Int) s)
  | _ => false
theorem standB_tup {z : Str} {n : Nat} {d : PyData} (e : isTup d = false) : standB z n d = false := by
  cases d with
  | tuple _ => cases e
  | _ => rfl
theorem standB_len {z : Str} {n : Nat} {ds : List PyData} (e : ds.length ≠ 3) : standB z n (.tuple ds) = false := by
  unfold standB
  split
  · rename_i q
    injection q with q
    rw [q] at e
    exact absurd rfl e
  · rfl
def sp_is_stand (K : PySem.W.Frag) : Sp := fun vs H Q _ => ∃ (v st : V) (z f : Str) (ss : List PyData) (d : PyData), vs = [v, st] ∧ Dq K H v (.tuple [.str z, .str f, .tuple ss]) ∧ Dq K H st d ∧ Light d ∧ Q (.bl (standB z ss.length d)) H
/-- def _is_stand(expander, thing): -/
theorem ok_is_stand (T : Tx K mg) : FnOk P w K mg base CX0 3 T.a__is_stand T.fd__is_stand ["expander", "thing"] (sp_is_stand K) := by
  refine T.F__is_stand.ok sc_is_stand (fun vs H Q E h => ?_) (fun cdv A outer s H vs Q E hr h => ?_)
  · obtain ⟨_, _, _, _, _, _, rfl, _⟩ := h
    rfl
  · refine ⟨_, (pss_cons (ps_if (PW.pt (pw_or (pt_not (pt_val (pe_callB call_isi (by rfl) T.z_isinstance (by decide +kernel) (pa_cons (pv 1) (pa_cons (pe_bltn (v := .ty "tuple") (by rfl) T.z_tuple (by decide +kernel) rfl) pa_nil))))) (pw_or1 (pt_cmpR op_ne (pe_callB call_len_seq (by rfl) T.z_len PySem.boot_len (pa_cons (pv 1) pa_nil)) pe_int (nomark _)))))
      (pss_one (ps_ret pe_bl))
      pss_nil)
    (pss_cons (ps_asg (pv 0) (pg_tup rfl (pgs_cons (pg_name (i := 2) sc_is_stand.nd rfl (by first | exact Or.inl rfl | exact Or.inr rfl)) (pgs_cons (pg_name (i := 3) sc_is_stand.nd rfl (by first | exact Or.inl rfl | exact Or.inr rfl)) (pgs_cons (pg_name (i := 4) sc_is_stand.nd rfl (by first | exact Or.inl rfl | exact Or.inr rfl)) pgs_nil)))))
    (pss_cons (ps_asg (pv 1) (pg_tup rfl (pgs_cons (pg_name (i := 5) sc_is_stand.nd rfl (by first | exact Or.inl rfl | exact Or.inr rfl)) (pgs_cons (pg_name (i := 6) sc_is_stand.nd rfl (by first | exact Or.inl rfl | exact Or.inr rfl)) (pgs_cons (pg_name (i := 7) sc_is_stand.nd rfl (by first | exact Or.inl rfl | exact Or.inr rfl)) pgs_nil)))))
    (pss_one (ps_ret (pe_and (pe_call (ok_is_word T) (hr.mono (by decide)) (by rfl) T.g_is_word T.F_is_word.kp T.b_is_word .nil pass0 (pa_cons (pv 2) (pa_cons (pv 5) pa_nil))) (pe_and (pe_call (ok_is_word T) (hr.mono (by decide)) (by rfl) T.g_is_word T.F_is_word.kp T.b_is_word .nil pass0 (pa_cons (pv 2) (pa_cons (pv 6) pa_nil))) (pe_one (pe_call (ok_is_number T) (hr.mono (by decide)) (by rfl) T.g_is_number T.F_is_number.kp T.b_is_number .nil pass0 (pa_cons (pe_callB call_len_seq (by rfl) T.z_len PySem.boot_len (pa_cons (pv 4) pa_nil)) (pa_cons (pv 7) pa_nil))))))))))), ?_⟩
    obtain ⟨v, st, z, f, ss, d, rfl, hv, hd, hz, q⟩ := h
    refine ⟨_, rfl, st, .ty "tuple", _, _, _, rfl, .ty "tuple", hd.ty, kTup d, _, rfl, ?_⟩
    cases e : isTup d with
    | false =>
      rw [standB_tup e] at q
      exact iteT (iteT q)
    | true =>
      obtain ⟨a, xs, ds, rfl, rfl, ht, ha⟩ := dq_tup hd e
      refine iteF ⟨_, rfl, a, xs, rfl, .inr ht, rfl, _, rfl, ?_⟩
      rw [Lk.ne_int]
      by_cases hl : xs.length = 3
      · rw [decide_eq_true (show ((xs.length : Nat) : Int) = 3 by omega)]
        refine iteF ?_
        obtain ⟨x, y, w', d1, d2, d3, rfl, rfl, h1, h2, h3⟩ := ha.three hl
        have hw := light_tup hz
        obtain ⟨e', t', xs', rfl, ht', hts', hA'⟩ := expV_of hv
        have q : Q (.bl (isWord z d1 && (isWord z d2 && countB ((ss.length : Nat) : Int) d3))) H := q
        refine ⟨_, rfl, e', _, rfl, ht', rfl, _, _, rfl, _, _, rfl, _, _, rfl, rfl, ?_⟩
        refine ⟨_, rfl, a, _, rfl, ht, rfl, x, _, rfl, y, _, rfl, w', _, rfl, rfl, ?_⟩
        have lw : ∀ d, Light d → ∀ z, d = .str z → z.length ≤ sizeLine := fun d h z e => by
          subst e
          exact light_str h
        refine ⟨_, rfl, _, rfl, z, x, d1, rfl, h1, lw d1 (hw d1 (by simp)), _, rfl, ?_⟩
        cases e1 : isWord z d1 with
        | false =>
          rw [e1] at q
          exact iteF q
        | true =>
          rw [e1] at q
          refine iteT ⟨_, rfl, _, rfl, z, y, d2, rfl, h2, lw d2 (hw d2 (by simp)), _, rfl, ?_⟩
          cases e2 : isWord z d2 with
          | false =>
            rw [e2] at q
            exact iteF q
          | true =>
            rw [e2] at q
            refine iteT ⟨_, rfl, t', xs', rfl, .inr hts', _, rfl, _, w', d3, rfl, h3, ?_⟩
            rw [hA'.length]
            exact q
      · rw [decide_eq_false (show ¬ ((xs.length : Nat) : Int) = 3 by omega)]
        rw [standB_len (fun z => hl (ha.length.trans z))] at q
        exact iteT q
end
end K14

namespace K14
open PySem PySem.Spec PyProof.Rows L2 G Lk
section
variable {P : Program} {w : World} {K : PySem.W.Frag} {mg : Str → Option Value} {base : Heap}
def sp_step (K : PySem.W.Frag) (mg : Str → Option Value) (T : Tx K mg) : Sp := fun vs H Q E => ∃ (v st : V) (d ds : PyData), vs = [v, st] ∧ Dq K H v d ∧ Dq K H st ds ∧ Light d ∧ Light ds ∧
  (expB d = false → ∀ H', Same H H' → E (.ref T.a_NoExpander) none H') ∧
  (∀ z f ss, d = .tuple [.str z, .str f, .tuple ss] → expB d = true → (standB z ss.length ds = false → ∀ H', Same H H' → E (.ref T.a_Mismatch) none H') ∧
    ∀ a b s, ds = standD (a, b, s) → standB z ss.length ds = true →
      (∀ p, nextD z ss a b s = some p → ∀ H' r, Same H H' → Dq K H' r (standD p) → Q r H') ∧ (nextD z ss a b s = none → noOutE K T.a_NoOutcome E H (whyK b) (whyT b s)))
theorem standB_parts {z : Str} {n : Nat} {d : PyData} (h : standB z n d = true) : ∃ (a b : Str) (s : Nat), d = standD (a, b, s) ∧ allIn z a = true ∧ allIn z b = true ∧ s < n := by
  match d, h with
  | .tuple [x, y, w], h =>
    have h : (isWord z x && (isWord z y && countB (n : Int) w)) = true := h
    rw [Bool.and_eq_true, Bool.and_eq_true] at h
    obtain ⟨h1, h2, h3⟩ := h
    cases x with
    | str a =>
      cases y with
      | str b =>
        cases w with
        | int i =>
          have h3 : (decide (0 ≤ i) && decide (i < (n : Int))) = true := h3
          rw [Bool.and_eq_true, decide_eq_true_eq, decide_eq_true_eq] at h3
          obtain ⟨s, rfl⟩ := Int.eq_ofNat_of_zero_le h3.1
          exact ⟨a, b, s, rfl, h1, h2, by omega⟩
        | _ => cases h3
      | _ => cases h2
    | _ => cases h1
/-- def step(expander, stand): -/
theorem ok_step (T : Tx K mg) : FnOk P w K mg base (L2.CX P w) 8 T.a_step T.fd_step ["expander", "stand"] (sp_step K mg T) := by
  refine T.F_step.okX sc_step (fun vs H Q E h => ?_) (fun cdv A outer s H vs Q E hr h => ?_)
  · obtain ⟨_, _, _, _, rfl, _⟩ := h
    rfl
  · refine ⟨_, (pss_cons (ps_expr (pe_call (ok_need_expander T) (hr.mono (by decide)) (by rfl) T.g_need_expander T.F_need_expander.kp T.b_need_expander .nil (passes_call (takes_of rfl rfl rfl rfl) (fun _ _ _ _ h => h)) (pa_cons (pv 0) pa_nil)))
    (pss_cons (ps_if (pt_not (pt_val (pe_call (ok_is_stand T) (hr.mono (by decide)) (by rfl) T.g__is_stand T.F__is_stand.kp T.b__is_stand .nil pass0 (pa_cons (pv 0) (pa_cons (pv 1) pa_nil)))))
      (pss_one (ps_raise rfl (takes_of rfl rfl rfl rfl) (pmk_own PySem.F.excBase_ValueError T.xi_Mismatch T.g_Mismatch T.k_Mismatch (raises_own T.b_Mismatch T.t_Mismatch) (by rfl))))
      pss_nil)
    (pss_cons (ps_asg (pv 1) (pg_tup rfl (pgs_cons (pg_name (i := 3) sc_step.nd rfl (by first | exact Or.inl rfl | exact Or.inr rfl)) (pgs_cons (pg_name (i := 4) sc_step.nd rfl (by first | exact Or.inl rfl | exact Or.inr rfl)) (pgs_cons (pg_name (i := 5) sc_step.nd rfl (by first | exact Or.inl rfl | exact Or.inr rfl)) pgs_nil)))))
    (pss_cons (ps_if (pt_cmpR op_eq (pv 4) pe_str (nomark _))
      (pss_one (ps_raise rfl (takes_of rfl rfl rfl rfl) (pmk_oex T.o_NoOutcome T.ii_NoOutcome T.it_NoOutcome (ok_NoOutcome_init T) (hr.mono (by decide)) T.ib_NoOutcome .nil pass0 (by rfl) T.g_NoOutcome (pa_cons pe_str (pa_cons (pe_lst pa_nil) pa_nil)))))
      pss_nil)
    (pss_cons (ps_set (i := 2) sc_step.nd rfl (by first | exact Or.inl rfl | exact Or.inr rfl) (pe_call (ok_next_stand T) (hr.mono (by decide)) (by rfl) T.g__next_stand T.F__next_stand.kp T.b__next_stand .nil pass0 (pa_cons (pv 0) (pa_cons (pv 1) pa_nil))))
    (pss_cons (ps_if (pt_cmpR op_isN (pv 2) pe_non (nomark _))
      (pss_one (ps_raise rfl (takes_of rfl rfl rfl rfl) (pmk_oex T.o_NoOutcome T.ii_NoOutcome T.it_NoOutcome (ok_NoOutcome_init T) (hr.mono (by decide)) T.ib_NoOutcome .nil pass0 (by rfl) T.g_NoOutcome (pa_cons pe_str (pa_cons (pe_lst (pa_cons (pe_tup (pa_cons (pv 5) (pa_cons (pe_ix ix_str (pv 4) pe_int (fun _ _ => rfl)) pa_nil))) pa_nil)) pa_nil)))))
      pss_nil)
    (pss_one (ps_ret (pv 2))))))))), ?_⟩
    obtain ⟨v, st, d, ds, rfl, hv, hst, hz, hzs, kE, k⟩ := h
    refine ⟨_, rfl, v, d, rfl, hv, hz, kE, fun eb H1 s1 => ?_⟩
    obtain ⟨z, f, ss, rfl, hzz, ⟨hf, lf⟩, l1, l60, hss⟩ := expB_parts eb
    obtain ⟨k1, k2⟩ := k z f ss rfl eb
    have ok : StatesOk z ss := ⟨hzz, l1, l60, hss⟩
    have hv1 := hv.mono s1
    have hst1 := hst.mono s1
    refine ⟨_, rfl, _, rfl, v, st, z, f, ss, ds, rfl, hv1, hst1, hzs, _, rfl, ?_⟩
    cases es : standB z ss.length ds with
    | false => exact iteT (k1 es H1 s1)
    | true =>
      refine iteF ?_
      obtain ⟨a, b, s, rfl, ha, hb, hs⟩ := standB_parts es
      obtain ⟨q1, q2⟩ := k2 a b s rfl es
      obtain ⟨p, rfl, hp⟩ := standV hst1
      have la : a.length ≤ 4000000 := by
        have h := light_tup hzs (.str a) (by simp)
        unfold Light PyData.weight at h
        exact Nat.le_trans h (by decide)
      have lb : b.length ≤ 4000000 := by
        have h := light_tup hzs (.str b) (by simp)
        unfold Light PyData.weight at h
        exact Nat.le_trans h (by decide)
      have lbz : b.length ≤ sizeLine := Nat.le_trans lb (by decide)
      refine ⟨_, rfl, p, _, rfl, hp, rfl, _, _, rfl, _, _, rfl, _, _, rfl, rfl, ?_⟩
      refine ⟨_, rfl, rfl, _, rfl, ?_⟩
      rcases str_cases b with rfl | ⟨c, r, rfl⟩
      · refine if_true rfl ?_
        refine ⟨Nat.zero_le _, fun l nl => ?_⟩
        exact raise_out upd_same .nil ((q2 rfl).mono (Same.trans s1 (same_new nl)))
      · refine if_false (decide_eq_false fun e => ?_) ?_
        · injection e with e
          exact tx_cons_ne e
        refine ⟨_, rfl, _, rfl, v, .ref p, z, f, a, _, s, ss, rfl, hv1, hst1, ok, hs, hb, la, lb, fun H2 r2 s2 hr2 => ?_⟩
        refine ⟨_, rfl, rfl, _, rfl, ?_⟩
        cases en : nextD z ss a (tx (c :: r)) s with
        | some p' =>
          rw [en] at hr2
          obtain ⟨pp, rfl, _⟩ := standV hr2
          refine if_false rfl ⟨_, rfl, ?_⟩
          exact q1 p' en H2 _ (Same.trans s1 s2) hr2
        | none =>
          rw [en] at hr2
          obtain rfl := Dq.noneV (show Dq K H2 r2 .none from hr2)
          refine if_true rfl ?_
          refine ⟨_, rfl, _, rfl, tx (c :: r), _, c, rfl, rfl, lbz, atI_nat (j := 0) (by rw [tx_codes]; rfl), (by show 2 ≤ sizeLine; decide), fun p3 np3 => ?_⟩
          have s3 := same_new (o := .tup [.int (s : Int), .str (tx [c])]) np3
          have h3 : Dq K (upd H2 p3 (.tup [.int (s : Int), .str (tx [c])])) (.ref p3) (.tuple [.int (s : Int), .str (Ls.one c)]) := .tup (SqT.of upd_same) (.cons (.int _) (.cons (.str _) .nil))
          revert s3 h3
          generalize upd H2 p3 (.tup [.int (s : Int), .str (tx [c])]) = H3
          intro s3 h3
          refine ⟨(by show 1 ≤ sizeLine; decide), fun l nl => ?_⟩
          have kk := (q2 en).mono (Same.trans s1 (Same.trans s2 (Same.trans s3 (same_new (o := .lst [.ref p3]) nl))))
          have e1 : whyK (tx (c :: r)) = "breaks" := by
            unfold whyK
            rw [tx_codes]
          have e2 : whyT (tx (c :: r)) s = [.tuple [.int (s : Int), .str (Ls.one c)]] := by
            unfold whyT
            rw [tx_codes]
          rw [e1, e2] at kk
          exact raise_out upd_same ((DqAll.cons h3 .nil).mono (same_new nl)) kk
end
end K14

namespace K14
open PySem PySem.Spec PyProof.Rows L2 G Lk
section
variable {P : Program} {w : World} {K : PySem.W.Frag} {mg : Str → Option Value} {base : Heap}
/-- a sign of z -/
def signB (z : Str) : PyData → Bool
  | .str y => decide (y.length = 1) && !(Builtin.Str.occurrences z y 0 z.length 1).isEmpty
  | _ => false
def sp_is_sign (K : PySem.W.Frag) : Sp := fun vs H Q _ => ∃ (z : Str) (v : V) (d : PyData), vs = [.str z, v] ∧ Dq K H v d ∧ Light d ∧ Q (.bl (signB z d)) H
/-- def is_sign(signs, thing): -/
theorem ok_is_sign (T : Tx K mg) : FnOk P w K mg base CX0 1 T.a_is_sign T.fd_is_sign ["signs", "thing"] (sp_is_sign K) := by
  refine T.F_is_sign.ok sc_is_sign (fun vs H Q E h => ?_) (fun cdv A outer s H vs Q E hr h => ?_)
  · obtain ⟨_, _, _, rfl, _⟩ := h
    rfl
  · refine ⟨_, (pss_one (ps_ret (pe_and (pe_callB call_isi (by rfl) T.z_isinstance (by decide +kernel) (pa_cons (pv 1) (pa_cons (pe_bltn (v := .ty "str") (by rfl) T.z_str (by decide +kernel) rfl) pa_nil))) (pe_and (pe_cmpR op_eq (pe_callB call_len_str (by rfl) T.z_len PySem.boot_len (pa_cons (pv 1) pa_nil)) pe_int (nomark _)) (pe_one (pe_cmpR op_in_str (pv 1) (pv 0) (by rfl))))))), ?_⟩
    obtain ⟨z, v, d, rfl, hd, hz, q⟩ := h
    refine ⟨v, rfl, v, .ty "str", _, _, _, rfl, .ty "str", hd.ty, kStr d, _, rfl, ?_⟩
    cases hd with
    | str y =>
      refine iteT ⟨_, rfl, y, rfl, light_str hz, rfl, _, rfl, ?_⟩
      have q : Q (.bl (decide (y.length = 1) && !(Builtin.Str.occurrences z y 0 z.length 1).isEmpty)) H := q
      have e1 : decide (V.int ((y.length : Nat) : Int) = V.int 1) = decide (y.length = 1) := decide_eq_decide.mpr ⟨fun h => by injection h with h; omega, fun h => by rw [h]; rfl⟩
      rw [e1]
      cases e : decide (y.length = 1) with
      | false =>
        rw [e] at q
        exact iteF q
      | true =>
        rw [e] at q
        exact iteT ⟨_, rfl, _, rfl, _, _, rfl, rfl, q⟩
    | non => exact iteF q
    | bl _ => exact iteF q
    | int _ => exact iteF q
    | lst _ _ => exact iteF q
    | tup _ _ => exact iteF q
    | emp _ => exact iteF q
end
end K14

namespace K14
open PySem PySem.Spec PyProof.Rows L2 G Lk
section
variable {P : Program} {w : World} {K : PySem.W.Frag} {mg : Str → Option Value} {base : Heap}
/-- a call of an expander -/
def callB : PyData → PyData → PyData → Bool
  | .tuple [.str z, _, .tuple ss], d, e => countB (ss.length : Nat) d && signB z e
  | _, _, _ => false
def sp_is_call (K : PySem.W.Frag) : Sp := fun vs H Q _ => ∃ (v x y : V) (z f : Str) (ss : List PyData) (d e : PyData), vs = [v, x, y] ∧ Dq K H v (.tuple [.str z, .str f, .tuple ss]) ∧ Dq K H x d ∧ Dq K H y e ∧ Light e ∧
  Q (.bl (callB (.tuple [.str z, .str f, .tuple ss]) d e)) H
/-- def is_call(expander, state, sign): -/
theorem ok_is_call (T : Tx K mg) : FnOk P w K mg base CX0 3 T.a_is_call T.fd_is_call ["expander", "state", "sign"] (sp_is_call K) := by
  refine T.F_is_call.ok sc_is_call (fun vs H Q E h => ?_) (fun cdv A outer s H vs Q E hr h => ?_)
  · obtain ⟨_, _, _, _, _, _, _, _, rfl, _⟩ := h
    rfl
  · refine ⟨_, (pss_cons (ps_asg (pv 0) (pg_tup rfl (pgs_cons (pg_name (i := 3) sc_is_call.nd rfl (by first | exact Or.inl rfl | exact Or.inr rfl)) (pgs_cons (pg_name (i := 4) sc_is_call.nd rfl (by first | exact Or.inl rfl | exact Or.inr rfl)) (pgs_cons (pg_name (i := 5) sc_is_call.nd rfl (by first | exact Or.inl rfl | exact Or.inr rfl)) pgs_nil)))))
    (pss_one (ps_ret (pe_and (pe_call (ok_is_number T) (hr.mono (by decide)) (by rfl) T.g_is_number T.F_is_number.kp T.b_is_number .nil pass0 (pa_cons (pe_callB call_len_seq (by rfl) T.z_len PySem.boot_len (pa_cons (pv 5) pa_nil)) (pa_cons (pv 1) pa_nil))) (pe_one (pe_call (ok_is_sign T) (hr.mono (by decide)) (by rfl) T.g_is_sign T.F_is_sign.kp T.b_is_sign .nil pass0 (pa_cons (pv 3) (pa_cons (pv 2) pa_nil)))))))), ?_⟩
    obtain ⟨v, x, y, z, f, ss, d, e, rfl, hv, hx, hy, hz, q⟩ := h
    obtain ⟨a, t, xs, rfl, ht, hts, hA⟩ := expV_of hv
    have q : Q (.bl (countB (ss.length : Nat) d && signB z e)) H := q
    refine ⟨_, rfl, a, _, rfl, ht, rfl, _, _, rfl, _, _, rfl, _, _, rfl, rfl, ?_⟩
    refine ⟨_, rfl, t, xs, rfl, .inr hts, _, rfl, _, x, d, rfl, hx, _, rfl, ?_⟩
    rw [hA.length]
    cases e1 : countB (ss.length : Nat) d with
    | false =>
      rw [e1] at q
      exact iteF q
    | true =>
      rw [e1] at q
      exact iteT ⟨_, rfl, _, rfl, z, y, e, rfl, hy, hz, q⟩
end
end K14

namespace K14
open PySem PySem.Spec PyProof.Rows L2 G Lk
section
variable {P : Program} {w : World} {K : PySem.W.Frag} {mg : Str → Option Value} {base : Heap}
def sp_need_call (K : PySem.W.Frag) (mg : Str → Option Value) (T : Tx K mg) : Sp := fun vs H Q E => ∃ (v x y : V) (z f : Str) (ss : List PyData) (d e : PyData), vs = [v, x, y] ∧ Dq K H v (.tuple [.str z, .str f, .tuple ss]) ∧ Dq K H x d ∧ Dq K H y e ∧ Light e ∧
  (callB (.tuple [.str z, .str f, .tuple ss]) d e = false → E (.ref T.a_NoCall) none H) ∧ (callB (.tuple [.str z, .str f, .tuple ss]) d e = true → Q .non H)
/-- def need_call(expander, state, sign): -/
theorem ok_need_call (T : Tx K mg) : FnOk P w K mg base (L2.CX P w) 4 T.a_need_call T.fd_need_call ["expander", "state", "sign"] (sp_need_call K mg T) := by
  refine T.F_need_call.okX sc_need_call (fun vs H Q E h => ?_) (fun cdv A outer s H vs Q E hr h => ?_)
  · obtain ⟨_, _, _, _, _, _, _, _, rfl, _⟩ := h
    rfl
  · refine ⟨_, (pss_one (ps_if (pt_not (pt_val (pe_call (ok_is_call T) (hr.mono (by decide)) (by rfl) T.g_is_call T.F_is_call.kp T.b_is_call .nil pass0 (pa_cons (pv 0) (pa_cons (pv 1) (pa_cons (pv 2) pa_nil))))))
      (pss_one (ps_raise rfl (takes_of rfl rfl rfl rfl) (pmk_own PySem.F.excBase_ValueError T.xi_NoCall T.g_NoCall T.k_NoCall (raises_own T.b_NoCall T.t_NoCall) (by rfl))))
      pss_nil)), ?_⟩
    obtain ⟨v, x, y, z, f, ss, d, e, rfl, hv, hx, hy, hz, kE, k⟩ := h
    refine ⟨_, rfl, _, rfl, _, rfl, v, x, y, z, f, ss, d, e, rfl, hv, hx, hy, hz, _, rfl, ?_⟩
    cases e1 : callB (.tuple [.str z, .str f, .tuple ss]) d e with
    | false => exact iteT (kE e1)
    | true => exact iteF (k e1)
end
end K14

namespace K14
open PySem PySem.Spec PyProof.Rows L2 G Lk
section
variable {P : Program} {w : World} {K : PySem.W.Frag} {mg : Str → Option Value} {base : Heap}
theorem callB_good {z f : Str} {ss : List PyData} {dx dy : PyData} (h : callB (.tuple [.str z, .str f, .tuple ss]) dx dy = true) : ∃ c : Lk.Cl, dx = .int (c.1 : Int) ∧ dy = .str (Ls.one c.2) ∧ Lk.Good z ss c := by
  have h : (countB (ss.length : Nat) dx && signB z dy) = true := h
  rw [Bool.and_eq_true] at h
  obtain ⟨h1, h2⟩ := h
  cases dx <;> try (cases h1; done)
  rename_i i
  cases dy <;> try (cases h2; done)
  rename_i y
  have h1 : (decide (0 ≤ i) && decide (i < ((ss.length : Nat) : Int))) = true := h1
  have h2 : (decide (y.length = 1) && !(Builtin.Str.occurrences z y 0 z.length 1).isEmpty) = true := h2
  rw [Bool.and_eq_true, decide_eq_true_eq, decide_eq_true_eq] at h1
  rw [Bool.and_eq_true, decide_eq_true_eq] at h2
  have ey : ∃ c, y = Ls.one c := by
    rcases str_cases y with rfl | ⟨c, r, rfl⟩
    · have := h2.1
      cases this
    · rw [tx_len] at h2
      have hr : r = [] := by
        cases r with
        | nil => rfl
        | cons a r =>
          have := h2.1
          simp at this
      rw [hr]
      exact ⟨c, rfl⟩
  obtain ⟨c, rfl⟩ := ey
  refine ⟨(i.toNat, c), ?_, rfl, ⟨?_, ?_⟩⟩
  · rw [show (((i.toNat, c) : Lk.Cl).1 : Int) = i by show ((i.toNat : Nat) : Int) = i; omega]
  · show i.toNat < ss.length
    omega
  · exact of_decide_eq_true ((PySem.StrLaws.found_one z c).symm.trans h2.2)
def valueD (w : Wt) : PyData := .tuple [.str (tx w.1), .int (w.2 : Int)]
def sp_value (K : PySem.W.Frag) (mg : Str → Option Value) (T : Tx K mg) : Sp := fun vs H Q X => ∃ (v x y : V) (d dx dy : PyData), vs = [v, x, y] ∧ Dq K H v d ∧ Dq K H x dx ∧ Dq K H y dy ∧ Light d ∧ Light dy ∧
  (expB d = false → ∀ H', Same H H' → X (.ref T.a_NoExpander) none H') ∧ (expB d = true → callB d dx dy = false → ∀ H', Same H H' → X (.ref T.a_NoCall) none H') ∧
  (∀ z f ss c, d = .tuple [.str z, .str f, .tuple ss] → expB d = true → callB d dx dy = true → dx = .int (c.1 : Int) → dy = .str (Ls.one c.2) → Lk.Good z ss c → ((∃ c w, Val z ss c w ∧ 2000 < w.1.length) → tooManyE T.a_TooMany X H 2000) ∧
    ((∀ c w, Val z ss c w → w.1.length ≤ 2000) → (∀ w, valOf z ss c = some w → ∀ H' r, Same H H' → Dq K H' r (valueD w) → Q r H') ∧
      (valOf z ss c = none → noOutE K T.a_NoOutcome X H (kindT z ss (threadOf z ss c)) ((threadOf z ss c).map callD))))
/-- def value(expander, state, sign): -/
theorem ok_value (T : Tx K mg) : FnOk P w K mg base (L2.CX P w) 8 T.a_value T.fd_value ["expander", "state", "sign"] (sp_value K mg T) := by
  refine T.F_value.okX sc_value (fun vs H Q E h => ?_) (fun cdv A outer s H vs Q E hr h => ?_)
  · obtain ⟨_, _, _, _, _, _, rfl, _⟩ := h
    rfl
  · refine ⟨_, (pss_cons (ps_expr (pe_call (ok_need_expander T) (hr.mono (by decide)) (by rfl) T.g_need_expander T.F_need_expander.kp T.b_need_expander .nil (passes_call (takes_of rfl rfl rfl rfl) (fun _ _ _ _ h => h)) (pa_cons (pv 0) pa_nil)))
    (pss_cons (ps_expr (pe_call (ok_need_call T) (hr.mono (by decide)) (by rfl) T.g_need_call T.F_need_call.kp T.b_need_call .nil (passes_call (takes_of rfl rfl rfl rfl) (fun _ _ _ _ h => h)) (pa_cons (pv 0) (pa_cons (pv 1) (pa_cons (pv 2) pa_nil)))))
    (pss_cons (ps_set (i := 3) sc_value.nd rfl (by first | exact Or.inl rfl | exact Or.inr rfl) (pe_call (ok_values_of T) (hr.mono (by decide)) (by rfl) T.g_values_of T.F_values_of.kp T.b_values_of .nil (passes_call (takes_of rfl rfl rfl rfl) (fun _ _ _ _ h => h)) (pa_cons (pv 0) pa_nil)))
    (pss_cons (ps_expr (pe_call (ok_need_value T) (hr.mono (by decide)) (by rfl) T.g__need_value T.F__need_value.kp T.b__need_value .nil (passes_call (takes_of rfl rfl rfl rfl) (fun _ _ _ _ h => h)) (pa_cons (pv 0) (pa_cons (pv 3) (pa_cons (pe_tup (pa_cons (pv 1) (pa_cons (pv 2) pa_nil))) pa_nil)))))
    (pss_one (ps_ret (pe_dget (unit1 hr.units) (pv 3) (pe_tup (pa_cons (pv 1) (pa_cons (pv 2) pa_nil))) (fun _ _ => rfl)))))))), ?_⟩
    obtain ⟨v, x, y, d, dx, dy, rfl, hv, hx, hy, hz, hzy, kE, kC, k⟩ := h
    refine ⟨_, rfl, v, d, rfl, hv, hz, kE, fun eb H1 s1 => ?_⟩
    obtain ⟨z, f, ss, rfl, hzs, ⟨hf, lf⟩, l1, l60, hss⟩ := expB_parts eb
    have ok : StatesOk z ss := ⟨hzs, l1, l60, hss⟩
    refine ⟨_, rfl, _, rfl, _, rfl, v, x, y, z, f, ss, dx, dy, rfl, hv.mono s1, hx.mono s1, hy.mono s1, hzy, fun ec => kC eb ec H1 s1, fun ec => ?_⟩
    obtain ⟨c, rfl, rfl, gc⟩ := callB_good ec
    obtain ⟨k1, k2⟩ := k z f ss c rfl eb ec rfl rfl gc
    obtain rfl := hx.intV
    obtain rfl := hy.strV
    refine ⟨_, rfl, v, z, f, ss, rfl, hv.mono s1, ok, fun hbig => (k1 hbig).mono s1, fun hsm H2 d E s2 nd hV cl all => ?_⟩
    obtain ⟨k3, k4⟩ := k2 hsm
    have hl := look_all ok cl all
    have s12 := Same.trans s1 s2
    refine ⟨_, rfl, _, rfl, _, rfl, _, rfl, (by show 2 ≤ sizeLine; decide), fun pn np => ?_⟩
    have s3 := same_new (o := .tup [.int (c.1 : Int), .str (Ls.one c.2)]) np
    have hpn : CallAt (upd H2 pn (.tup [.int (c.1 : Int), .str (Ls.one c.2)])) pn c := upd_same
    revert s3 hpn
    generalize upd H2 pn (.tup [.int (c.1 : Int), .str (Ls.one c.2)]) = H3
    intro s3 hpn
    have s13 := Same.trans s12 s3
    have hV3 : ValD [] H3 d E := (hV.same s3).any fun a ha => nomatch ha
    refine ⟨v, d, pn, z, f, ss, E, c, rfl, hv.mono s13, ok, hV3.pr, hl, hpn, gc, fun w hw => ?_, fun hn => (k4 hn).mono s13⟩
    obtain ⟨kvs, hd3, hE3⟩ := hV3
    refine ⟨_, rfl, _, rfl, _, rfl, (by show 2 ≤ sizeLine; decide), fun pk npk => ?_⟩
    have s4 := same_new (o := .tup [.int (c.1 : Int), .str (Ls.one c.2)]) npk
    have hpk : CallAt (upd H3 pk (.tup [.int (c.1 : Int), .str (Ls.one c.2)])) pk c := upd_same
    revert s4 hpk
    generalize upd H3 pk (.tup [.int (c.1 : Int), .str (Ls.one c.2)]) = H4
    intro s4 hpk
    have hE4 : VlE H4 kvs E := hE3.mono (Same.trans off_same s4)
    rcases hE4.get c with ⟨vv, ww, e5, e6, e7⟩ | ⟨e5, e6⟩
    · rw [hl, hw] at e6
      cases e6
      refine ⟨d, vv, rfl, ?_, ?_⟩
      · rw [← e5]
        exact DGet.t (k := ckey c) (s4 _ _ hd3) hpk.key
      · obtain ⟨pw, rfl, e8⟩ := e7
        exact k3 _ hw H4 (.ref pw) (Same.trans s13 s4) (.tup (SqT.of e8) (.cons (.str _) (.cons (.int _) .nil)))
    · rw [hl, hw] at e6
      cases e6
end
end K14

namespace K14
open PySem PySem.Spec PyProof.Rows L2 G Lk
section
variable {P : Program} {w : World} {K : PySem.W.Frag} {mg : Str → Option Value} {base : Heap}
def sp_thread (K : PySem.W.Frag) (mg : Str → Option Value) (T : Tx K mg) : Sp := fun vs H Q X => ∃ (v x y : V) (d dx dy : PyData), vs = [v, x, y] ∧ Dq K H v d ∧ Dq K H x dx ∧ Dq K H y dy ∧ Light d ∧ Light dy ∧
  (expB d = false → ∀ H', Same H H' → X (.ref T.a_NoExpander) none H') ∧ (expB d = true → callB d dx dy = false → ∀ H', Same H H' → X (.ref T.a_NoCall) none H') ∧
  (∀ z f ss c, d = .tuple [.str z, .str f, .tuple ss] → expB d = true → callB d dx dy = true → dx = .int (c.1 : Int) → dy = .str (Ls.one c.2) → Lk.Good z ss c → ((∃ c w, Val z ss c w ∧ 2000 < w.1.length) → tooManyE T.a_TooMany X H 2000) ∧
    ((∀ c w, Val z ss c w → w.1.length ≤ 2000) → ∀ H' (r : Addr) us, Same H H' → H r = none → H' r = some (.lst us) → CallsAt H' us (threadOf z ss c) → Q (.ref r) H'))
/-- def thread(expander, state, sign): -/
theorem ok_thread (T : Tx K mg) : FnOk P w K mg base (L2.CX P w) 8 T.a_thread T.fd_thread ["expander", "state", "sign"] (sp_thread K mg T) := by
  refine T.F_thread.okX sc_thread (fun vs H Q E h => ?_) (fun cdv A outer s H vs Q E hr h => ?_)
  · obtain ⟨_, _, _, _, _, _, rfl, _⟩ := h
    rfl
  · refine ⟨_, (pss_cons (ps_expr (pe_call (ok_need_expander T) (hr.mono (by decide)) (by rfl) T.g_need_expander T.F_need_expander.kp T.b_need_expander .nil (passes_call (takes_of rfl rfl rfl rfl) (fun _ _ _ _ h => h)) (pa_cons (pv 0) pa_nil)))
    (pss_cons (ps_expr (pe_call (ok_need_call T) (hr.mono (by decide)) (by rfl) T.g_need_call T.F_need_call.kp T.b_need_call .nil (passes_call (takes_of rfl rfl rfl rfl) (fun _ _ _ _ h => h)) (pa_cons (pv 0) (pa_cons (pv 1) (pa_cons (pv 2) pa_nil)))))
    (pss_one (ps_ret (pe_call (ok_thread_of T) (hr.mono (by decide)) (by rfl) T.g__thread_of T.F__thread_of.kp T.b__thread_of .nil pass0 (pa_cons (pv 0) (pa_cons (pe_call (ok_values_of T) (hr.mono (by decide)) (by rfl) T.g_values_of T.F_values_of.kp T.b_values_of .nil (passes_call (takes_of rfl rfl rfl rfl) (fun _ _ _ _ h => h)) (pa_cons (pv 0) pa_nil)) (pa_cons (pe_tup (pa_cons (pv 1) (pa_cons (pv 2) pa_nil))) pa_nil)))))))), ?_⟩
    obtain ⟨v, x, y, d, dx, dy, rfl, hv, hx, hy, hz, hzy, kE, kC, k⟩ := h
    refine ⟨_, rfl, v, d, rfl, hv, hz, kE, fun eb H1 s1 => ?_⟩
    obtain ⟨z, f, ss, rfl, hzs, ⟨hf, lf⟩, l1, l60, hss⟩ := expB_parts eb
    have ok : StatesOk z ss := ⟨hzs, l1, l60, hss⟩
    refine ⟨_, rfl, _, rfl, _, rfl, v, x, y, z, f, ss, dx, dy, rfl, hv.mono s1, hx.mono s1, hy.mono s1, hzy, fun ec => kC eb ec H1 s1, fun ec => ?_⟩
    obtain ⟨c, rfl, rfl, gc⟩ := callB_good ec
    obtain ⟨k1, k2⟩ := k z f ss c rfl eb ec rfl rfl gc
    obtain rfl := hx.intV
    obtain rfl := hy.strV
    refine ⟨_, rfl, _, rfl, v, z, f, ss, rfl, hv.mono s1, ok, fun hbig => (k1 hbig).mono s1, fun hsm H2 d E s2 nd hV cl all => ?_⟩
    have k3 := k2 hsm
    have hl := look_all ok cl all
    have s12 := Same.trans s1 s2
    refine ⟨_, rfl, _, rfl, (by show 2 ≤ sizeLine; decide), fun pn np => ?_⟩
    have s3 := same_new (o := .tup [.int (c.1 : Int), .str (Ls.one c.2)]) np
    have hpn : CallAt (upd H2 pn (.tup [.int (c.1 : Int), .str (Ls.one c.2)])) pn c := upd_same
    revert s3 hpn
    generalize upd H2 pn (.tup [.int (c.1 : Int), .str (Ls.one c.2)]) = H3
    intro s3 hpn
    have s13 := Same.trans s12 s3
    have hV3 : ValD [] H3 d E := (hV.same s3).any fun a ha => nomatch ha
    refine ⟨v, d, pn, z, f, ss, E, c, rfl, hv.mono s13, ok, hV3.pr, hl, hpn, gc, fun H4 r us s4 nr hr hus => ?_⟩
    refine k3 H4 r us (Same.trans s13 s4) ?_ hr hus
    cases e : H r with
    | none => rfl
    | some u =>
      rw [s13 _ _ e] at nr
      cases nr
end
end K14

namespace K14
open PySem PySem.Spec PyProof.Rows L2 G Lk
section
variable {P : Program} {w : World} {K : PySem.W.Frag} {mg : Str → Option Value} {base : Heap}
def sp_values (K : PySem.W.Frag) (mg : Str → Option Value) (T : Tx K mg) : Sp := fun vs H Q E => ∃ (v : V) (d : PyData), vs = [v] ∧ Dq K H v d ∧ Light d ∧ expB d = false ∧ ∀ H', Same H H' → E (.ref T.a_NoExpander) none H'
/-- def values(expander): -/
theorem ok_values (T : Tx K mg) : FnOk P w K mg base (L2.CX P w) 8 T.a_values T.fd_values ["expander"] (sp_values K mg T) := by
  refine T.F_values.okX sc_values (fun vs H Q E h => ?_) (fun cdv A outer s H vs Q E hr h => ?_)
  · obtain ⟨_, _, rfl, _⟩ := h
    rfl
  · refine ⟨_, (pss_cons (ps_expr (pe_call (ok_need_expander T) (hr.mono (by decide)) (by rfl) T.g_need_expander T.F_need_expander.kp T.b_need_expander .nil (passes_call (takes_of rfl rfl rfl rfl) (fun _ _ _ _ h => h)) (pa_cons (pv 0) pa_nil)))
    (pss_cons ps_never
    (pss_one ps_never))), ?_⟩
    obtain ⟨v, d, rfl, hv, hz, he, kE⟩ := h
    exact ⟨_, rfl, v, d, rfl, hv, hz, fun _ => kE, fun eb => (Bool.false_ne_true (he.symm.trans eb)).elim⟩
end
end K14

namespace K14
open PySem PySem.Spec PyProof.Rows L2 G Lk
section
variable {P : Program} {w : World} {K : PySem.W.Frag} {mg : Str → Option Value} {base : Heap}
/-- the defs of the lists, with their promises -/
def S_Ldo (K : PySem.W.Frag) (mg : Str → Option Value) (T : Tx K mg) (f : Addr) (sp : Sp) : Prop :=
  (f = T.a_values ∧ sp = sp_values K mg T) ∨ (f = T.a_plain ∧ sp = sp_plain K mg T) ∨ (f = T.a_ends_always ∧ sp = sp_ends_always K mg T) ∨ (f = T.a_begin ∧ sp = sp_begin K mg T) ∨ (f = T.a_step ∧ sp = sp_step K mg T) ∨ (f = T.a_stands ∧ sp = (fun vs H Q E => sp_stands K mg T (vs ++ [.int 100]) H Q E)) ∨ (f = T.a_outcome ∧ sp = sp_outcome K mg T) ∨ (f = T.a_shows_thread ∧ sp = sp_shows_thread K mg T) ∨ (f = T.a_value ∧ sp = sp_value K mg T) ∨ (f = T.a_thread ∧ sp = sp_thread K mg T)
theorem held_Ldo (T : Tx K mg) (f : Addr) (sp : Sp) (h : S_Ldo K mg T f sp) : HeldD P w K mg base 8 f sp := by
  rcases h with ⟨rfl, rfl⟩ | ⟨rfl, rfl⟩ | ⟨rfl, rfl⟩ | ⟨rfl, rfl⟩ | ⟨rfl, rfl⟩ | ⟨rfl, rfl⟩ | ⟨rfl, rfl⟩ | ⟨rfl, rfl⟩ | ⟨rfl, rfl⟩ | ⟨rfl, rfl⟩
  · exact ⟨_, _, _, _, [], [], ok_values T, by decide, T.F_values.kp, T.b_values, .nil, fun vs _ _ _ h => by rw [List.append_nil]; exact h⟩
  · exact ⟨_, _, _, _, [], [], ok_plain T, by decide, T.F_plain.kp, T.b_plain, .nil, fun vs _ _ _ h => by rw [List.append_nil]; exact h⟩
  · exact ⟨_, _, _, _, [], [], ok_ends_always T, by decide, T.F_ends_always.kp, T.b_ends_always, .nil, fun vs _ _ _ h => by rw [List.append_nil]; exact h⟩
  · exact ⟨_, _, _, _, [], [], ok_begin T, by decide, T.F_begin.kp, T.b_begin, .nil, fun vs _ _ _ h => by rw [List.append_nil]; exact h⟩
  · exact ⟨_, _, _, _, [], [], ok_step T, by decide, T.F_step.kp, T.b_step, .nil, fun vs _ _ _ h => by rw [List.append_nil]; exact h⟩
  · exact ⟨_, _, _, _, _, _, ok_stands T, by decide, T.F_stands.kp, T.b_stands, T.dv_stands, fun _ _ _ _ h => h⟩
  · exact ⟨_, _, _, _, [], [], ok_outcome T, by decide, T.F_outcome.kp, T.b_outcome, .nil, fun vs _ _ _ h => by rw [List.append_nil]; exact h⟩
  · exact ⟨_, _, _, _, [], [], ok_shows_thread T, by decide, T.F_shows_thread.kp, T.b_shows_thread, .nil, fun vs _ _ _ h => by rw [List.append_nil]; exact h⟩
  · exact ⟨_, _, _, _, [], [], ok_value T, by decide, T.F_value.kp, T.b_value, .nil, fun vs _ _ _ h => by rw [List.append_nil]; exact h⟩
  · exact ⟨_, _, _, _, [], [], ok_thread T, by decide, T.F_thread.kp, T.b_thread, .nil, fun vs _ _ _ h => by rw [List.append_nil]; exact h⟩
/-- what is asked of the ten choices -/
def do14 (K : PySem.W.Frag) (mg : Str → Option Value) (T : Tx K mg) (ch : Int) (x y u : V) (H : Hp) (Q : VK) (E : XK) : Prop :=
  (ch = 0 ∧ sp_values K mg T [x] H Q E) ∨ (ch = 1 ∧ sp_plain K mg T [x] H Q E) ∨ (ch = 2 ∧ sp_ends_always K mg T [x] H Q E) ∨ (ch = 3 ∧ sp_begin K mg T [x, y] H Q E) ∨ (ch = 4 ∧ sp_step K mg T [x, y] H Q E) ∨ (ch = 5 ∧ sp_stands K mg T [x, y, .int 100] H Q E) ∨ (ch = 6 ∧ sp_outcome K mg T [x, y] H Q E) ∨ (ch = 7 ∧ sp_shows_thread K mg T [x, y] H Q E) ∨ (ch = 8 ∧ sp_value K mg T [x, y, u] H Q E) ∨ (ch = 9 ∧ sp_thread K mg T [x, y, u] H Q E)
def sp_Ldo (K : PySem.W.Frag) (mg : Str → Option Value) (T : Tx K mg) : Sp := fun vs H Q E => ∃ (ch : Int) (x y u : V), vs = [.int ch, x, y, u] ∧ ∀ H1, Same H H1 → do14 K mg T ch x y u H1 Q E
/-- def _law_do(choice, one, two, three): -/
theorem ok_Ldo (T : Tx K mg) : FnOk P w K mg base (L2.CX P w) 9 T.a__law_do T.fd__law_do ["choice", "one", "two", "three"] (sp_Ldo K mg T) := by
  refine T.F__law_do.okX sc_Ldo (fun vs H Q E h => ?_) (fun cdv A outer s H vs Q E hr h => ?_)
  · obtain ⟨_, _, _, _, rfl, _⟩ := h
    rfl
  · refine ⟨_, (pss_cons (ps_if (pt_cmpR op_lt (pv 0) pe_int (nomark _))
      (pss_one (ps_ret (pe_callD (k := 8) (S := S_Ldo K mg T) (held_Ldo T) (hr.mono (by decide)) (pe_ix ix_list (pe_lst (pa_cons (pe_glob (v := .ref T.a_values) (by rfl) T.g_values rfl) (pa_cons (pe_glob (v := .ref T.a_plain) (by rfl) T.g_plain rfl) (pa_cons (pe_glob (v := .ref T.a_ends_always) (by rfl) T.g_ends_always rfl) pa_nil)))) (pv 0) (fun _ _ => rfl)) (passes_call (takes_of rfl rfl rfl rfl) (fun _ _ _ _ h => h)) (pa_cons (pv 1) pa_nil))))
      pss_nil)
    (pss_cons (ps_if (pt_cmpR op_lt (pv 0) pe_int (nomark _))
      (pss_one (ps_ret (pe_callD (k := 8) (S := S_Ldo K mg T) (held_Ldo T) (hr.mono (by decide)) (pe_ix ix_list (pe_lst (pa_cons (pe_glob (v := .ref T.a_begin) (by rfl) T.g_begin rfl) (pa_cons (pe_glob (v := .ref T.a_step) (by rfl) T.g_step rfl) (pa_cons (pe_glob (v := .ref T.a_stands) (by rfl) T.g_stands rfl) (pa_cons (pe_glob (v := .ref T.a_outcome) (by rfl) T.g_outcome rfl) (pa_cons (pe_glob (v := .ref T.a_shows_thread) (by rfl) T.g_shows_thread rfl) pa_nil)))))) (pe_op op_sub (pv 0) pe_int) (fun _ _ => rfl)) (passes_call (takes_of rfl rfl rfl rfl) (fun _ _ _ _ h => h)) (pa_cons (pv 1) (pa_cons (pv 2) pa_nil)))))
      pss_nil)
    (pss_one (ps_ret (pe_callD (k := 8) (S := S_Ldo K mg T) (held_Ldo T) (hr.mono (by decide)) (pe_ix ix_list (pe_lst (pa_cons (pe_glob (v := .ref T.a_value) (by rfl) T.g_value rfl) (pa_cons (pe_glob (v := .ref T.a_thread) (by rfl) T.g_thread rfl) pa_nil))) (pe_op op_sub (pv 0) pe_int) (fun _ _ => rfl)) (passes_call (takes_of rfl rfl rfl rfl) (fun _ _ _ _ h => h)) (pa_cons (pv 1) (pa_cons (pv 2) (pa_cons (pv 3) pa_nil)))))))), ?_⟩
    obtain ⟨ch, x, y, u, rfl, hh⟩ := h
    have ways : (ch = 0 ∧ ∀ H1, Same H H1 → sp_values K mg T [x] H1 Q E) ∨ (ch = 1 ∧ ∀ H1, Same H H1 → sp_plain K mg T [x] H1 Q E) ∨ (ch = 2 ∧ ∀ H1, Same H H1 → sp_ends_always K mg T [x] H1 Q E) ∨ (ch = 3 ∧ ∀ H1, Same H H1 → sp_begin K mg T [x, y] H1 Q E) ∨ (ch = 4 ∧ ∀ H1, Same H H1 → sp_step K mg T [x, y] H1 Q E) ∨ (ch = 5 ∧ ∀ H1, Same H H1 → sp_stands K mg T [x, y, .int 100] H1 Q E) ∨ (ch = 6 ∧ ∀ H1, Same H H1 → sp_outcome K mg T [x, y] H1 Q E) ∨ (ch = 7 ∧ ∀ H1, Same H H1 → sp_shows_thread K mg T [x, y] H1 Q E) ∨ (ch = 8 ∧ ∀ H1, Same H H1 → sp_value K mg T [x, y, u] H1 Q E) ∨ (ch = 9 ∧ ∀ H1, Same H H1 → sp_thread K mg T [x, y, u] H1 Q E) := by
      rcases hh H (Same.refl H) with ⟨rfl, _⟩ | ⟨rfl, _⟩ | ⟨rfl, _⟩ | ⟨rfl, _⟩ | ⟨rfl, _⟩ | ⟨rfl, _⟩ | ⟨rfl, _⟩ | ⟨rfl, _⟩ | ⟨rfl, _⟩ | ⟨rfl, _⟩
      · exact .inl (⟨rfl, fun H1 s1 => by
          rcases hh H1 s1 with ⟨e, h⟩ | ⟨e, h⟩ | ⟨e, h⟩ | ⟨e, h⟩ | ⟨e, h⟩ | ⟨e, h⟩ | ⟨e, h⟩ | ⟨e, h⟩ | ⟨e, h⟩ | ⟨e, h⟩
          · exact h
          · exact absurd e (by decide)
          · exact absurd e (by decide)
          · exact absurd e (by decide)
          · exact absurd e (by decide)
          · exact absurd e (by decide)
          · exact absurd e (by decide)
          · exact absurd e (by decide)
          · exact absurd e (by decide)
          · exact absurd e (by decide)
        ⟩)
      · exact .inr (.inl (⟨rfl, fun H1 s1 => by
          rcases hh H1 s1 with ⟨e, h⟩ | ⟨e, h⟩ | ⟨e, h⟩ | ⟨e, h⟩ | ⟨e, h⟩ | ⟨e, h⟩ | ⟨e, h⟩ | ⟨e, h⟩ | ⟨e, h⟩ | ⟨e, h⟩
          · exact absurd e (by decide)
          · exact h
          · exact absurd e (by decide)
          · exact absurd e (by decide)
          · exact absurd e (by decide)
          · exact absurd e (by decide)
          · exact absurd e (by decide)
          · exact absurd e (by decide)
          · exact absurd e (by decide)
          · exact absurd e (by decide)
        ⟩))
      · exact .inr (.inr (.inl (⟨rfl, fun H1 s1 => by
          rcases hh H1 s1 with ⟨e, h⟩ | ⟨e, h⟩ | ⟨e, h⟩ | ⟨e, h⟩ | ⟨e, h⟩ | ⟨e, h⟩ | ⟨e, h⟩ | ⟨e, h⟩ | ⟨e, h⟩ | ⟨e, h⟩
          · exact absurd e (by decide)
          · exact absurd e (by decide)
          · exact h
          · exact absurd e (by decide)
          · exact absurd e (by decide)
          · exact absurd e (by decide)
          · exact absurd e (by decide)
          · exact absurd e (by decide)
          · exact absurd e (by decide)
          · exact absurd e (by decide)
        ⟩)))
      · exact .inr (.inr (.inr (.inl (⟨rfl, fun H1 s1 => by
          rcases hh H1 s1 with ⟨e, h⟩ | ⟨e, h⟩ | ⟨e, h⟩ | ⟨e, h⟩ | ⟨e, h⟩ | ⟨e, h⟩ | ⟨e, h⟩ | ⟨e, h⟩ | ⟨e, h⟩ | ⟨e, h⟩
          · exact absurd e (by decide)
          · exact absurd e (by decide)
          · exact absurd e (by decide)
          · exact h
          · exact absurd e (by decide)
          · exact absurd e (by decide)
          · exact absurd e (by decide)
          · exact absurd e (by decide)
          · exact absurd e (by decide)
          · exact absurd e (by decide)
        ⟩))))
      · exact .inr (.inr (.inr (.inr (.inl (⟨rfl, fun H1 s1 => by
          rcases hh H1 s1 with ⟨e, h⟩ | ⟨e, h⟩ | ⟨e, h⟩ | ⟨e, h⟩ | ⟨e, h⟩ | ⟨e, h⟩ | ⟨e, h⟩ | ⟨e, h⟩ | ⟨e, h⟩ | ⟨e, h⟩
          · exact absurd e (by decide)
          · exact absurd e (by decide)
          · exact absurd e (by decide)
          · exact absurd e (by decide)
          · exact h
          · exact absurd e (by decide)
          · exact absurd e (by decide)
          · exact absurd e (by decide)
          · exact absurd e (by decide)
          · exact absurd e (by decide)
        ⟩)))))
      · exact .inr (.inr (.inr (.inr (.inr (.inl (⟨rfl, fun H1 s1 => by
          rcases hh H1 s1 with ⟨e, h⟩ | ⟨e, h⟩ | ⟨e, h⟩ | ⟨e, h⟩ | ⟨e, h⟩ | ⟨e, h⟩ | ⟨e, h⟩ | ⟨e, h⟩ | ⟨e, h⟩ | ⟨e, h⟩
          · exact absurd e (by decide)
          · exact absurd e (by decide)
          · exact absurd e (by decide)
          · exact absurd e (by decide)
          · exact absurd e (by decide)
          · exact h
          · exact absurd e (by decide)
          · exact absurd e (by decide)
          · exact absurd e (by decide)
          · exact absurd e (by decide)
        ⟩))))))
      · exact .inr (.inr (.inr (.inr (.inr (.inr (.inl (⟨rfl, fun H1 s1 => by
          rcases hh H1 s1 with ⟨e, h⟩ | ⟨e, h⟩ | ⟨e, h⟩ | ⟨e, h⟩ | ⟨e, h⟩ | ⟨e, h⟩ | ⟨e, h⟩ | ⟨e, h⟩ | ⟨e, h⟩ | ⟨e, h⟩
          · exact absurd e (by decide)
          · exact absurd e (by decide)
          · exact absurd e (by decide)
          · exact absurd e (by decide)
          · exact absurd e (by decide)
          · exact absurd e (by decide)
          · exact h
          · exact absurd e (by decide)
          · exact absurd e (by decide)
          · exact absurd e (by decide)
        ⟩)))))))
      · exact .inr (.inr (.inr (.inr (.inr (.inr (.inr (.inl (⟨rfl, fun H1 s1 => by
          rcases hh H1 s1 with ⟨e, h⟩ | ⟨e, h⟩ | ⟨e, h⟩ | ⟨e, h⟩ | ⟨e, h⟩ | ⟨e, h⟩ | ⟨e, h⟩ | ⟨e, h⟩ | ⟨e, h⟩ | ⟨e, h⟩
          · exact absurd e (by decide)
          · exact absurd e (by decide)
          · exact absurd e (by decide)
          · exact absurd e (by decide)
          · exact absurd e (by decide)
          · exact absurd e (by decide)
          · exact absurd e (by decide)
          · exact h
          · exact absurd e (by decide)
          · exact absurd e (by decide)
        ⟩))))))))
      · exact .inr (.inr (.inr (.inr (.inr (.inr (.inr (.inr (.inl (⟨rfl, fun H1 s1 => by
          rcases hh H1 s1 with ⟨e, h⟩ | ⟨e, h⟩ | ⟨e, h⟩ | ⟨e, h⟩ | ⟨e, h⟩ | ⟨e, h⟩ | ⟨e, h⟩ | ⟨e, h⟩ | ⟨e, h⟩ | ⟨e, h⟩
          · exact absurd e (by decide)
          · exact absurd e (by decide)
          · exact absurd e (by decide)
          · exact absurd e (by decide)
          · exact absurd e (by decide)
          · exact absurd e (by decide)
          · exact absurd e (by decide)
          · exact absurd e (by decide)
          · exact h
          · exact absurd e (by decide)
        ⟩)))))))))
      · exact .inr (.inr (.inr (.inr (.inr (.inr (.inr (.inr (.inr (⟨rfl, fun H1 s1 => by
          rcases hh H1 s1 with ⟨e, h⟩ | ⟨e, h⟩ | ⟨e, h⟩ | ⟨e, h⟩ | ⟨e, h⟩ | ⟨e, h⟩ | ⟨e, h⟩ | ⟨e, h⟩ | ⟨e, h⟩ | ⟨e, h⟩
          · exact absurd e (by decide)
          · exact absurd e (by decide)
          · exact absurd e (by decide)
          · exact absurd e (by decide)
          · exact absurd e (by decide)
          · exact absurd e (by decide)
          · exact absurd e (by decide)
          · exact absurd e (by decide)
          · exact absurd e (by decide)
          · exact h
        ⟩)))))))))
    rcases ways with ⟨rfl, h⟩ | ⟨rfl, h⟩ | ⟨rfl, h⟩ | ⟨rfl, h⟩ | ⟨rfl, h⟩ | ⟨rfl, h⟩ | ⟨rfl, h⟩ | ⟨rfl, h⟩ | ⟨rfl, h⟩ | ⟨rfl, h⟩
    · refine ⟨_, rfl, _, _, rfl, rfl, _, rfl, iteT ⟨(by show 3 ≤ sizeLine; decide), fun p np => ?_⟩⟩
      exact ⟨_, rfl, p, _, _, _, rfl, rfl, SqL.of upd_same, rfl, T.a_values, _, rfl, .inl (⟨rfl, rfl⟩), _, rfl, h _ (same_new np)⟩
    · refine ⟨_, rfl, _, _, rfl, rfl, _, rfl, iteT ⟨(by show 3 ≤ sizeLine; decide), fun p np => ?_⟩⟩
      exact ⟨_, rfl, p, _, _, _, rfl, rfl, SqL.of upd_same, rfl, T.a_plain, _, rfl, .inr (.inl (⟨rfl, rfl⟩)), _, rfl, h _ (same_new np)⟩
    · refine ⟨_, rfl, _, _, rfl, rfl, _, rfl, iteT ⟨(by show 3 ≤ sizeLine; decide), fun p np => ?_⟩⟩
      exact ⟨_, rfl, p, _, _, _, rfl, rfl, SqL.of upd_same, rfl, T.a_ends_always, _, rfl, .inr (.inr (.inl (⟨rfl, rfl⟩))), _, rfl, h _ (same_new np)⟩
    · refine ⟨_, rfl, _, _, rfl, rfl, _, rfl, iteF ⟨_, rfl, _, _, rfl, rfl, _, rfl, iteT ⟨(by show 5 ≤ sizeLine; decide), fun p np => ?_⟩⟩⟩
      exact ⟨_, rfl, _, _, rfl, rfl, p, _, _, _, rfl, rfl, SqL.of upd_same, rfl, T.a_begin, _, rfl, .inr (.inr (.inr (.inl (⟨rfl, rfl⟩)))), _, rfl, _, rfl, h _ (same_new np)⟩
    · refine ⟨_, rfl, _, _, rfl, rfl, _, rfl, iteF ⟨_, rfl, _, _, rfl, rfl, _, rfl, iteT ⟨(by show 5 ≤ sizeLine; decide), fun p np => ?_⟩⟩⟩
      exact ⟨_, rfl, _, _, rfl, rfl, p, _, _, _, rfl, rfl, SqL.of upd_same, rfl, T.a_step, _, rfl, .inr (.inr (.inr (.inr (.inl (⟨rfl, rfl⟩))))), _, rfl, _, rfl, h _ (same_new np)⟩
    · refine ⟨_, rfl, _, _, rfl, rfl, _, rfl, iteF ⟨_, rfl, _, _, rfl, rfl, _, rfl, iteT ⟨(by show 5 ≤ sizeLine; decide), fun p np => ?_⟩⟩⟩
      exact ⟨_, rfl, _, _, rfl, rfl, p, _, _, _, rfl, rfl, SqL.of upd_same, rfl, T.a_stands, _, rfl, .inr (.inr (.inr (.inr (.inr (.inl (⟨rfl, rfl⟩)))))), _, rfl, _, rfl, h _ (same_new np)⟩
    · refine ⟨_, rfl, _, _, rfl, rfl, _, rfl, iteF ⟨_, rfl, _, _, rfl, rfl, _, rfl, iteT ⟨(by show 5 ≤ sizeLine; decide), fun p np => ?_⟩⟩⟩
      exact ⟨_, rfl, _, _, rfl, rfl, p, _, _, _, rfl, rfl, SqL.of upd_same, rfl, T.a_outcome, _, rfl, .inr (.inr (.inr (.inr (.inr (.inr (.inl (⟨rfl, rfl⟩))))))), _, rfl, _, rfl, h _ (same_new np)⟩
    · refine ⟨_, rfl, _, _, rfl, rfl, _, rfl, iteF ⟨_, rfl, _, _, rfl, rfl, _, rfl, iteT ⟨(by show 5 ≤ sizeLine; decide), fun p np => ?_⟩⟩⟩
      exact ⟨_, rfl, _, _, rfl, rfl, p, _, _, _, rfl, rfl, SqL.of upd_same, rfl, T.a_shows_thread, _, rfl, .inr (.inr (.inr (.inr (.inr (.inr (.inr (.inl (⟨rfl, rfl⟩)))))))), _, rfl, _, rfl, h _ (same_new np)⟩
    · refine ⟨_, rfl, _, _, rfl, rfl, _, rfl, iteF ⟨_, rfl, _, _, rfl, rfl, _, rfl, iteF ⟨(by show 2 ≤ sizeLine; decide), fun p np => ?_⟩⟩⟩
      exact ⟨_, rfl, _, _, rfl, rfl, p, _, _, _, rfl, rfl, SqL.of upd_same, rfl, T.a_value, _, rfl, .inr (.inr (.inr (.inr (.inr (.inr (.inr (.inr (.inl (⟨rfl, rfl⟩))))))))), _, rfl, _, rfl, _, rfl, h _ (same_new np)⟩
    · refine ⟨_, rfl, _, _, rfl, rfl, _, rfl, iteF ⟨_, rfl, _, _, rfl, rfl, _, rfl, iteF ⟨(by show 2 ≤ sizeLine; decide), fun p np => ?_⟩⟩⟩
      exact ⟨_, rfl, _, _, rfl, rfl, p, _, _, _, rfl, rfl, SqL.of upd_same, rfl, T.a_thread, _, rfl, .inr (.inr (.inr (.inr (.inr (.inr (.inr (.inr (.inr (⟨rfl, rfl⟩))))))))), _, rfl, _, rfl, _, rfl, h _ (same_new np)⟩
end
end K14

namespace K14
open PySem PySem.Spec PyProof.Rows L2 G Lk
section
variable {P : Program} {w : World} {K : PySem.W.Frag} {mg : Str → Option Value} {base : Heap}
def sp_Lis_count (K : PySem.W.Frag) : Sp := fun vs H Q _ => ∃ (n : Int) (v : V) (d : PyData), vs = [v, .int n] ∧ Dq K H v d ∧ Q (.bl (countB n d)) H
/-- def _law_is_count(thing, bound): -/
theorem ok_Lis_count (T : Tx K mg) : FnOk P w K mg base CX0 1 T.a__law_is_count T.fd__law_is_count ["thing", "bound"] (sp_Lis_count K) := by
  refine T.F__law_is_count.ok sc_Lis_count (fun vs H Q E h => ?_) (fun cdv A outer s H vs Q E hr h => ?_)
  · obtain ⟨_, _, _, rfl, _⟩ := h
    rfl
  · refine ⟨_, (pss_one (ps_ret (pe_and (pe_callB call_isi (by rfl) T.z_isinstance (by decide +kernel) (pa_cons (pv 0) (pa_cons (pe_bltn (v := .ty "int") (by rfl) T.z_int (by decide +kernel) rfl) pa_nil))) (pe_and (pe_not (pe_callB call_isi (by rfl) T.z_isinstance (by decide +kernel) (pa_cons (pv 0) (pa_cons (pe_bltn (v := .ty "bool") (by rfl) T.z_bool (by decide +kernel) rfl) pa_nil)))) (pe_one (pe_chain op_le op_lt pe_int (pv 0) (pv 1))))))), ?_⟩
    obtain ⟨n, v, d, rfl, hd, q⟩ := h
    refine ⟨v, rfl, v, .ty "int", _, _, _, rfl, .ty "int", hd.ty, kInt d, _, rfl, ?_⟩
    cases hd with
    | int i =>
      have q : Q (.bl (decide (0 ≤ i) && decide (i < n))) H := q
      refine iteT ⟨.int i, rfl, .int i, .ty "bool", _, _, _, rfl, .ty "bool", .base (.int i), kBool (.int i), _, rfl, _, rfl, ?_⟩
      refine iteT ⟨_, rfl, 0, i, rfl, rfl, _, rfl, ?_⟩
      cases e : decide (0 ≤ i) with
      | false =>
        rw [e] at q
        exact iteF q
      | true =>
        rw [e] at q
        exact iteT ⟨_, rfl, i, n, rfl, rfl, q⟩
    | bl b =>
      refine iteT ⟨.bl b, rfl, .bl b, .ty "bool", _, _, _, rfl, .ty "bool", .base (.bl b), kBool (.bool b), _, rfl, _, rfl, ?_⟩
      exact iteF q
    | non => exact iteF q
    | str z => exact iteF q
    | lst _ _ => exact iteF q
    | tup _ _ => exact iteF q
    | emp _ => exact iteF q
end
end K14

namespace K14
open PySem PySem.Spec PyProof.Rows L2 G Lk
section
variable {P : Program} {w : World} {K : PySem.W.Frag} {mg : Str → Option Value} {base : Heap}
def sp_Lis_short (K : PySem.W.Frag) : Sp := fun vs H Q _ => ∃ (s : Str) (v : V) (d : PyData), vs = [.str s, v] ∧ Dq K H v d ∧ Light d ∧ ∀ H', Same H H' → Q (.bl (shortB s d)) H'
theorem short_lt (s z : Str) : shortB s (.str z) = (decide (((z.length : Nat) : Int) < 2001) && allIn s z) := by
  show (allIn s z && decide (z.length ≤ 2000)) = _
  rw [Bool.and_comm]
  congr 1
  exact decide_eq_decide.mpr ⟨fun x => by omega, fun x => by omega⟩
/-- def _law_is_short(signs, thing): -/
theorem ok_Lis_short (T : Tx K mg) : FnOk P w K mg base CX0 1 T.a__law_is_short T.fd__law_is_short ["signs", "thing"] (sp_Lis_short K) := by
  refine T.F__law_is_short.ok sc_Lis_short (fun vs H Q E h => ?_) (fun cdv A outer s H vs Q E hr h => ?_)
  · obtain ⟨_, _, _, rfl, _⟩ := h
    rfl
  · refine ⟨_, (pss_one (ps_ret (pe_and (pe_callB call_isi (by rfl) T.z_isinstance (by decide +kernel) (pa_cons (pv 1) (pa_cons (pe_bltn (v := .ty "str") (by rfl) T.z_str (by decide +kernel) rfl) pa_nil))) (pe_and (pe_cmpR op_lt (pe_callB call_len_str (by rfl) T.z_len PySem.boot_len (pa_cons (pv 1) pa_nil)) pe_int (nomark _)) (pe_one (pe_cmpR (op_eqD hr.units) (pe_lc (own := [("sign", 2)]) (g := gName 2) (by rfl) sc_Lis_short.nd (pi_str (pv 1)) (blkOk_by (own := [("sign", 2)]) (N := N_Lis_short) (sc := defScope s_Lis_short) (by decide +kernel)) (fun _ _ _ _ _ => pg_name (i := 2) sc_Lis_short.nd rfl (by first | exact Or.inl rfl | exact Or.inr rfl)) (fun _ _ _ _ _ => (pts_one (pt_cmpR op_notIn_sign (pv 2) (pv 0) (by rfl)))) (fun _ _ _ _ _ => pe_int)) (pe_lst pa_nil) (nomark _))))))), ?_⟩
    obtain ⟨s, v, d, rfl, hd, hz, q⟩ := h
    refine ⟨v, rfl, v, .ty "str", _, _, _, rfl, .ty "str", hd.ty, kStr d, _, rfl, ?_⟩
    cases hd with
    | str z =>
      rw [short_lt] at q
      refine iteT ⟨_, rfl, z, rfl, light_str hz, _, _, rfl, rfl, _, rfl, ?_⟩
      cases e : decide (((z.length : Nat) : Int) < 2001) with
      | false =>
        rw [e] at q
        exact iteF (q H (Same.refl H))
      | true =>
        rw [e, tt_and] at q
        have hl := of_decide_eq_true e
        refine iteT ⟨_, rfl, z, rfl, fun D nD => ?_⟩
        refine lc_strange (s := s) nD (by omega) (fun c H1 Nxt Els s1 k1 k2 => ?_) (fun H1 s1 hD => ?_)
        · refine ⟨rfl, _, rfl, _, rfl, c, s, rfl, rfl, _, rfl, ?_⟩
          cases ec : decide (c ∈ s.cps.toList) with
          | true => exact iteF (k2 ec)
          | false => exact iteT (k1 ec)
        · refine ⟨Nat.zero_le _, fun l nl => ?_⟩
          have s2 := same_new (o := .lst []) nl
          refine ⟨.list (((strange s z.cps.toList).map fun _ => (1 : Int)).map PyData.int), .list [], .lst (SqL.of (s2 _ _ hD)) (dq_ints _), .lst (SqL.of upd_same) .nil, shaped_ints _, shaped_ints [], ?_⟩
          rw [eqv_nil_ints, strange_ones]
          exact q _ (Same.trans s1 s2)
    | non => exact iteF (q H (Same.refl H))
    | bl b => exact iteF (q H (Same.refl H))
    | int i => exact iteF (q H (Same.refl H))
    | lst _ _ => exact iteF (q H (Same.refl H))
    | tup _ _ => exact iteF (q H (Same.refl H))
    | emp _ => exact iteF (q H (Same.refl H))
end
end K14

namespace K14
open PySem PySem.Spec PyProof.Rows L2 G Lk
section
variable {P : Program} {w : World} {K : PySem.W.Frag} {mg : Str → Option Value} {base : Heap}
def sp_Lis_move (K : PySem.W.Frag) : Sp := fun vs H Q _ => ∃ (s : Str) (n : Int) (v : V) (d : PyData), vs = [.str s, .int n, v] ∧ Dq K H v d ∧ Light d ∧ ∀ H', Same H H' → Q (.bl (isNone d || moveB s n d)) H'
/-- def _law_is_move(signs, many, thing): -/
theorem ok_Lis_move (T : Tx K mg) : FnOk P w K mg base CX0 2 T.a__law_is_move T.fd__law_is_move ["signs", "many", "thing"] (sp_Lis_move K) := by
  refine T.F__law_is_move.ok sc_Lis_move (fun vs H Q E h => ?_) (fun cdv A outer s H vs Q E hr h => ?_)
  · obtain ⟨_, _, _, _, rfl, _⟩ := h
    rfl
  · refine ⟨_, (pss_cons (ps_if (pt_cmpR op_isN (pv 2) pe_non (nomark _))
      (pss_one (ps_ret pe_bl))
      pss_nil)
    (pss_cons (ps_if (PW.pt (pw_or (pt_not (pt_val (pe_callB call_isi (by rfl) T.z_isinstance (by decide +kernel) (pa_cons (pv 2) (pa_cons (pe_bltn (v := .ty "tuple") (by rfl) T.z_tuple (by decide +kernel) rfl) pa_nil))))) (pw_or (pt_cmpR op_ne (pe_callB call_len_seq (by rfl) T.z_len PySem.boot_len (pa_cons (pv 2) pa_nil)) pe_int (nomark _)) (pw_or1 (pt_not (pt_val (pe_call (ok_Lis_count T) (hr.mono (by decide)) (by rfl) T.g__law_is_count T.F__law_is_count.kp T.b__law_is_count .nil pass0 (pa_cons (pe_ix ix_tup (pv 2) pe_int (fun _ _ => rfl)) (pa_cons (pv 1) pa_nil)))))))))
      (pss_one (ps_ret pe_bl))
      pss_nil)
    (pss_one (ps_ret (pe_and (pe_call (ok_Lis_short T) (hr.mono (by decide)) (by rfl) T.g__law_is_short T.F__law_is_short.kp T.b__law_is_short .nil pass0 (pa_cons (pv 0) (pa_cons (pe_ix ix_tup (pv 2) pe_int (fun _ _ => rfl)) pa_nil))) (pe_one (pe_call (ok_Lis_short T) (hr.mono (by decide)) (by rfl) T.g__law_is_short T.F__law_is_short.kp T.b__law_is_short .nil pass0 (pa_cons (pv 0) (pa_cons (pe_ix ix_tup (pv 2) pe_int (fun _ _ => rfl)) pa_nil))))))))), ?_⟩
    obtain ⟨s, n, v, d, rfl, hd, hz, q⟩ := h
    refine ⟨v, rfl, rfl, _, rfl, ?_⟩
    rw [isNone_non hd]
    cases e0 : isNone d with
    | true =>
      rw [e0] at q
      exact iteT (q H (Same.refl H))
    | false =>
      rw [e0, ff_or] at q
      refine iteF ⟨v, rfl, v, .ty "tuple", _, _, _, rfl, .ty "tuple", hd.ty, kTup d, _, rfl, ?_⟩
      cases e : isTup d with
      | false =>
        rw [moveB_tup e] at q
        exact iteT (iteT (q H (Same.refl H)))
      | true =>
        obtain ⟨a, xs, ds, rfl, rfl, ht, ha⟩ := dq_tup hd e
        refine iteF ⟨_, rfl, a, xs, rfl, .inr ht, rfl, _, rfl, ?_⟩
        rw [Lk.ne_int]
        by_cases hl : xs.length = 3
        · rw [decide_eq_true (show ((xs.length : Nat) : Int) = 3 by omega)]
          refine iteF ?_
          obtain ⟨x, y, z, d1, d2, d3, rfl, rfl, h1, h2, h3⟩ := ha.three hl
          have hw := light_tup hz
          have q : ∀ H', Same H H' → Q (.bl (shortB s d1 && (shortB s d2 && countB n d3))) H' := q
          refine ⟨_, rfl, a, _, 2, z, rfl, rfl, ht, rfl, _, rfl, n, z, d3, rfl, h3, _, rfl, ?_⟩
          cases e3 : countB n d3 with
          | false =>
            rw [e3, Bool.and_false, Bool.and_false] at q
            exact iteT (q H (Same.refl H))
          | true =>
            rw [e3, Bool.and_true] at q
            refine iteF ⟨_, rfl, _, rfl, a, _, 0, x, rfl, rfl, ht, rfl, s, x, d1, rfl, h1, hw d1 (by simp), fun H1 s1 => ⟨_, rfl, ?_⟩⟩
            cases e1 : shortB s d1 with
            | false =>
              rw [e1] at q
              exact iteF (q H1 s1)
            | true =>
              rw [e1, tt_and] at q
              exact iteT ⟨_, rfl, _, rfl, a, _, 1, y, rfl, rfl, seqT s1 ht, rfl, s, y, d2, rfl, h2.mono s1, hw d2 (by simp), fun H2 s2 => q H2 (Same.trans s1 s2)⟩
        · rw [decide_eq_false (show ¬ ((xs.length : Nat) : Int) = 3 by omega)]
          rw [moveB_len (fun z => hl (ha.length.trans z))] at q
          exact iteT (iteT (q H (Same.refl H)))
end
end K14

namespace K14
open PySem PySem.Spec PyProof.Rows L2 G Lk
section
variable {P : Program} {w : World} {K : PySem.W.Frag} {mg : Str → Option Value} {base : Heap}
def sp_Lis_state (K : PySem.W.Frag) : Sp := fun vs H Q _ => ∃ (s : Str) (n : Int) (v : V) (d : PyData), vs = [.str s, .int n, v] ∧ Dq K H v d ∧ Light d ∧ s.length ≤ 4 ∧ ∀ H', Same H H' → Q (.bl (stateB s n d)) H'
/-- def _law_is_state(signs, many, thing): -/
theorem ok_Lis_state (T : Tx K mg) : FnOk P w K mg base CX0 3 T.a__law_is_state T.fd__law_is_state ["signs", "many", "thing"] (sp_Lis_state K) := by
  refine T.F__law_is_state.ok sc_Lis_state (fun vs H Q E h => ?_) (fun cdv A outer s H vs Q E hr h => ?_)
  · obtain ⟨_, _, _, _, rfl, _⟩ := h
    rfl
  · refine ⟨_, (pss_cons (ps_if (PW.pt (pw_or (pt_not (pt_val (pe_callB call_isi (by rfl) T.z_isinstance (by decide +kernel) (pa_cons (pv 2) (pa_cons (pe_bltn (v := .ty "tuple") (by rfl) T.z_tuple (by decide +kernel) rfl) pa_nil))))) (pw_or (pt_cmpR op_ne (pe_callB call_len_seq (by rfl) T.z_len PySem.boot_len (pa_cons (pv 2) pa_nil)) pe_int (nomark _)) (pw_or1 (pt_not (pt_val (pe_callB call_isi (by rfl) T.z_isinstance (by decide +kernel) (pa_cons (pe_ix ix_tup (pv 2) pe_int (fun _ _ => rfl)) (pa_cons (pe_bltn (v := .ty "tuple") (by rfl) T.z_tuple (by decide +kernel) rfl) pa_nil)))))))))
      (pss_one (ps_ret pe_bl))
      pss_nil)
    (pss_cons (ps_if (pt_cmpR op_ne (pe_callB call_len_seq (by rfl) T.z_len PySem.boot_len (pa_cons (pe_ix ix_tup (pv 2) pe_int (fun _ _ => rfl)) pa_nil)) (pe_callB call_len_str (by rfl) T.z_len PySem.boot_len (pa_cons (pv 0) pa_nil)) (nomark _))
      (pss_one (ps_ret pe_bl))
      pss_nil)
    (pss_cons (ps_if (PW.pt (pw_and (pt_cmpR op_notN (pe_ix ix_tup (pv 2) pe_int (fun _ _ => rfl)) pe_non (nomark _)) (pw_and1 (pt_not (pt_val (pe_call (ok_Lis_short T) (hr.mono (by decide)) (by rfl) T.g__law_is_short T.F__law_is_short.kp T.b__law_is_short .nil pass0 (pa_cons (pv 0) (pa_cons (pe_ix ix_tup (pv 2) pe_int (fun _ _ => rfl)) pa_nil))))))))
      (pss_one (ps_ret pe_bl))
      pss_nil)
    (pss_one (ps_ret (pe_cmpR (op_eqD hr.units) (pe_lc (own := [("move", 3)]) (g := gName 3) (by rfl) sc_Lis_state.nd (pi_tup (pe_ix ix_tup (pv 2) pe_int (fun _ _ => rfl))) (blkOk_by (own := [("move", 3)]) (N := N_Lis_state) (sc := defScope s_Lis_state) (by decide +kernel)) (fun _ _ _ _ _ => pg_name (i := 3) sc_Lis_state.nd rfl (by first | exact Or.inl rfl | exact Or.inr rfl)) (fun _ _ _ _ _ => (pts_one (pt_not (pt_val (pe_call (ok_Lis_move T) (hr.mono (by decide)) (by rfl) T.g__law_is_move T.F__law_is_move.kp T.b__law_is_move .nil pass0 (pa_cons (pv 0) (pa_cons (pv 1) (pa_cons (pv 3) pa_nil)))))))) (fun _ _ _ _ _ => pe_int)) (pe_lst pa_nil) (nomark _))))))), ?_⟩
    obtain ⟨s, n, v, d, rfl, hd, hz, hs4, q⟩ := h
    refine ⟨v, rfl, v, .ty "tuple", _, _, _, rfl, .ty "tuple", hd.ty, kTup d, _, rfl, ?_⟩
    cases e : isTup d with
    | false =>
      rw [stateB_tup e] at q
      exact iteT (iteT (q H (Same.refl H)))
    | true =>
      obtain ⟨a, xs, ds, rfl, rfl, ht, ha⟩ := dq_tup hd e
      refine iteF ⟨_, rfl, a, xs, rfl, .inr ht, rfl, _, rfl, ?_⟩
      rw [Lk.ne_int]
      by_cases hl : xs.length = 2
      · rw [decide_eq_true (show ((xs.length : Nat) : Int) = 2 by omega)]
        refine iteF ?_
        obtain ⟨x, y, d1, d2, rfl, rfl, h1, h2⟩ := ha.two hl
        have hw := light_tup hz
        refine ⟨_, rfl, a, _, 0, x, rfl, rfl, ht, rfl, x, .ty "tuple", _, _, _, rfl, .ty "tuple", h1.ty, kTup d1, _, rfl, ?_⟩
        cases e1 : isTup d1 with
        | false =>
          rw [stateB_first e1] at q
          exact iteT (q H (Same.refl H))
        | true =>
          obtain ⟨a1, ms, es, rfl, rfl, ht1, ha1⟩ := dq_tup h1 e1
          have hw1 := hw _ (List.mem_cons_self ..)
          refine iteF ⟨_, rfl, a, _, 0, _, rfl, rfl, ht, rfl, a1, ms, rfl, .inr ht1, _, rfl, s, rfl, Nat.le_trans hs4 (by decide), rfl, _, rfl, ?_⟩
          rw [Lk.ne_int]
          have q : ∀ H', Same H H' → Q (.bl (decide (es.length = s.length) && ((isNone d2 || shortB s d2) && es.all fun m => isNone m || moveB s n m))) H' := q
          by_cases hl1 : ms.length = s.length
          · rw [decide_eq_true (show ((ms.length : Nat) : Int) = ((s.length : Nat) : Int) by omega)]
            rw [decide_eq_true (show es.length = s.length from ha1.length.symm.trans hl1)] at q
            refine iteF ?_
            rw [tt_and] at q
            refine ⟨_, rfl, a, _, 1, y, rfl, rfl, ht, rfl, rfl, _, rfl, ?_⟩
            rw [isNone_non h2]
            cases e4 : isNone d2 with
            | true =>
              rw [e4, tt_or, tt_and] at q
              refine iteF ?_
              refine ⟨_, rfl, a, _, 0, _, rfl, rfl, seqT (Same.refl H) ht, rfl, a1, rfl, ⟨_, seqT (Same.refl H) ht1⟩, fun D nD => ?_⟩
              refine lc_ones (fun m => isNone m || moveB s n m) (seqT (Same.refl H) ht1) (ha1.mono (Same.refl H)) nD (by omega) (fun x d H2 Nxt Els s2 hx hm k1 k2 => ?_) (fun H2 s2 hD => ?_)
              · refine ⟨rfl, _, rfl, _, rfl, x, rfl, s, n, x, d, rfl, hx, light_tup hw1 d hm, fun H3 s3 => ⟨_, rfl, ?_⟩⟩
                cases e4 : isNone d || moveB s n d with
                | true => exact iteF (k2 e4 H3 s3)
                | false => exact iteT (k1 e4 H3 s3)
              · refine ⟨Nat.zero_le _, fun l nl => ?_⟩
                have s3 := same_new (o := .lst []) nl
                refine ⟨.list ((onesOf (fun m => isNone m || moveB s n m) es).map PyData.int), .list [], .lst (SqL.of (s3 _ _ hD)) (dq_ints _), .lst (SqL.of upd_same) .nil, shaped_ints _, shaped_ints [], ?_⟩
                rw [eqv_nil_ints, onesOf_nil]
                exact q _ (Same.trans (Same.refl H) (Same.trans s2 s3))
            | false =>
              rw [e4, ff_or] at q
              refine iteT ⟨_, rfl, _, rfl, a, _, 1, y, rfl, rfl, ht, rfl, s, y, d2, rfl, h2, hw d2 (by simp), fun H1 s1 => ⟨_, rfl, ?_⟩⟩
              cases e5 : shortB s d2 with
              | false =>
                rw [e5, ff_and] at q
                exact iteT (q H1 s1)
              | true =>
                rw [e5, tt_and] at q
                refine iteF ?_
                refine ⟨_, rfl, a, _, 0, _, rfl, rfl, seqT s1 ht, rfl, a1, rfl, ⟨_, seqT s1 ht1⟩, fun D nD => ?_⟩
                refine lc_ones (fun m => isNone m || moveB s n m) (seqT s1 ht1) (ha1.mono s1) nD (by omega) (fun x d H2 Nxt Els s2 hx hm k1 k2 => ?_) (fun H2 s2 hD => ?_)
                · refine ⟨rfl, _, rfl, _, rfl, x, rfl, s, n, x, d, rfl, hx, light_tup hw1 d hm, fun H3 s3 => ⟨_, rfl, ?_⟩⟩
                  cases e4 : isNone d || moveB s n d with
                  | true => exact iteF (k2 e4 H3 s3)
                  | false => exact iteT (k1 e4 H3 s3)
                · refine ⟨Nat.zero_le _, fun l nl => ?_⟩
                  have s3 := same_new (o := .lst []) nl
                  refine ⟨.list ((onesOf (fun m => isNone m || moveB s n m) es).map PyData.int), .list [], .lst (SqL.of (s3 _ _ hD)) (dq_ints _), .lst (SqL.of upd_same) .nil, shaped_ints _, shaped_ints [], ?_⟩
                  rw [eqv_nil_ints, onesOf_nil]
                  exact q _ (Same.trans s1 (Same.trans s2 s3))
          · rw [decide_eq_false (show ¬ ((ms.length : Nat) : Int) = ((s.length : Nat) : Int) by omega)]
            rw [decide_eq_false (show ¬ es.length = s.length from fun z => hl1 (ha1.length.trans z))] at q
            exact iteT (q H (Same.refl H))
      · rw [decide_eq_false (show ¬ ((xs.length : Nat) : Int) = 2 by omega)]
        rw [stateB_len (fun z => hl (ha.length.trans z))] at q
        exact iteT (iteT (q H (Same.refl H)))
end
end K14

namespace K14
open PySem PySem.Spec PyProof.Rows L2 G Lk
section
variable {P : Program} {w : World} {K : PySem.W.Frag} {mg : Str → Option Value} {base : Heap}
def sp_Lis_expander (K : PySem.W.Frag) : Sp := fun vs H Q _ => ∃ (v : V) (d : PyData), vs = [v] ∧ Dq K H v d ∧ Light d ∧ ∀ H', Same H H' → Q (.bl (expB d)) H'
/-- def _law_is_expander(thing): -/
theorem ok_Lis_expander (T : Tx K mg) : FnOk P w K mg base CX0 4 T.a__law_is_expander T.fd__law_is_expander ["thing"] (sp_Lis_expander K) := by
  refine T.F__law_is_expander.ok sc_Lis_expander (fun vs H Q E h => ?_) (fun cdv A outer s H vs Q E hr h => ?_)
  · obtain ⟨_, _, rfl, _⟩ := h
    rfl
  · refine ⟨_, (pss_cons (ps_if (PW.pt (pw_or (pt_not (pt_val (pe_callB call_isi (by rfl) T.z_isinstance (by decide +kernel) (pa_cons (pv 0) (pa_cons (pe_bltn (v := .ty "tuple") (by rfl) T.z_tuple (by decide +kernel) rfl) pa_nil))))) (pw_or (pt_cmpR op_ne (pe_callB call_len_seq (by rfl) T.z_len PySem.boot_len (pa_cons (pv 0) pa_nil)) pe_int (nomark _)) (pw_or (pt_not (pt_val (pe_callB call_isi (by rfl) T.z_isinstance (by decide +kernel) (pa_cons (pe_ix ix_tup (pv 0) pe_int (fun _ _ => rfl)) (pa_cons (pe_bltn (v := .ty "str") (by rfl) T.z_str (by decide +kernel) rfl) pa_nil))))) (pw_or1 (pt_not (pt_chain op_le op_le pe_int (pe_callB call_len_str (by rfl) T.z_len PySem.boot_len (pa_cons (pe_ix ix_tup (pv 0) pe_int (fun _ _ => rfl)) pa_nil)) pe_int)))))))
      (pss_one (ps_ret pe_bl))
      pss_nil)
    (pss_cons (ps_asg (pe_tup (pa_cons pe_str (pa_cons (pe_ix ix_tup (pv 0) pe_int (fun _ _ => rfl)) (pa_cons (pe_ix ix_tup (pv 0) pe_int (fun _ _ => rfl)) pa_nil)))) (pg_tup rfl (pgs_cons (pg_name (i := 1) sc_Lis_expander.nd rfl (by first | exact Or.inl rfl | exact Or.inr rfl)) (pgs_cons (pg_name (i := 2) sc_Lis_expander.nd rfl (by first | exact Or.inl rfl | exact Or.inr rfl)) (pgs_cons (pg_name (i := 3) sc_Lis_expander.nd rfl (by first | exact Or.inl rfl | exact Or.inr rfl)) pgs_nil)))))
    (pss_cons (ps_if (PW.pt (pw_or (pt_cmpR (op_neD hr.units) (pe_lc (own := [("sign", 5)]) (g := gName 5) (by rfl) sc_Lis_expander.nd (pi_str (pv 2)) (blkOk_by (own := [("sign", 5)]) (N := N_Lis_expander) (sc := defScope s_Lis_expander) (by decide +kernel)) (fun _ _ _ _ _ => pg_name (i := 5) sc_Lis_expander.nd rfl (by first | exact Or.inl rfl | exact Or.inr rfl)) (fun _ _ _ _ _ => (pts_one (pt_cmpR op_notIn_sign (pv 5) (pv 1) (by rfl)))) (fun _ _ _ _ _ => pe_int)) (pe_lst pa_nil) (nomark _)) (pw_or1 (pt_cmpR op_ne (pe_join pe_str (pe_callB (Ls.cr_sortedT rfl) (by rfl) T.z_sorted (by decide +kernel) (pa_cons (pe_callTy (Ls.cr_setT rfl) (by rfl) T.z_set (by decide +kernel) (pa_cons (pv 2) pa_nil)) pa_nil))) (pv 2) (nomark _)))))
      (pss_one (ps_ret pe_bl))
      pss_nil)
    (pss_cons (ps_if (PW.pt (pw_or (pt_not (pt_val (pe_call (ok_Lis_short T) (hr.mono (by decide)) (by rfl) T.g__law_is_short T.F__law_is_short.kp T.b__law_is_short .nil pass0 (pa_cons (pv 2) (pa_cons (pe_ix ix_tup (pv 0) pe_int (fun _ _ => rfl)) pa_nil))))) (pw_or (pt_not (pt_val (pe_callB call_isi (by rfl) T.z_isinstance (by decide +kernel) (pa_cons (pv 3) (pa_cons (pe_bltn (v := .ty "tuple") (by rfl) T.z_tuple (by decide +kernel) rfl) pa_nil))))) (pw_or1 (pt_not (pt_chain op_le op_le pe_int (pe_callB call_len_seq (by rfl) T.z_len PySem.boot_len (pa_cons (pv 3) pa_nil)) pe_int))))))
      (pss_one (ps_ret pe_bl))
      pss_nil)
    (pss_one (ps_ret (pe_cmpR (op_eqD hr.units) (pe_lc (own := [("state", 4)]) (g := gName 4) (by rfl) sc_Lis_expander.nd (pi_tup (pv 3)) (blkOk_by (own := [("state", 4)]) (N := N_Lis_expander) (sc := defScope s_Lis_expander) (by decide +kernel)) (fun _ _ _ _ _ => pg_name (i := 4) sc_Lis_expander.nd rfl (by first | exact Or.inl rfl | exact Or.inr rfl)) (fun _ _ _ _ _ => (pts_one (pt_not (pt_val (pe_call (ok_Lis_state T) (hr.mono (by decide)) (by rfl) T.g__law_is_state T.F__law_is_state.kp T.b__law_is_state .nil pass0 (pa_cons (pv 2) (pa_cons (pe_callB (call_len_seq : CallR _ _ (rLenSeq K)) (by rfl) T.z_len PySem.boot_len (pa_cons (pv 3) pa_nil)) (pa_cons (pv 4) pa_nil)))))))) (fun _ _ _ _ _ => pe_int)) (pe_lst pa_nil) (nomark _)))))))), ?_⟩
    obtain ⟨v, d, rfl, hd, hz, q⟩ := h
    refine ⟨v, rfl, v, .ty "tuple", _, _, _, rfl, .ty "tuple", hd.ty, kTup d, _, rfl, ?_⟩
    cases e : isTup d with
    | false =>
      rw [expB_tup e] at q
      exact iteT (iteT (q H (Same.refl H)))
    | true =>
      obtain ⟨a, xs, ds, rfl, rfl, ht, ha⟩ := dq_tup hd e
      refine iteF ⟨_, rfl, a, xs, rfl, .inr ht, rfl, _, rfl, ?_⟩
      rw [Lk.ne_int]
      by_cases hl : xs.length = 3
      · rw [decide_eq_true (show ((xs.length : Nat) : Int) = 3 by omega)]
        refine iteF ?_
        obtain ⟨x, y, z, d1, d2, d3, rfl, rfl, h1, h2, h3⟩ := ha.three hl
        have hw := light_tup hz
        refine ⟨_, rfl, a, _, 0, x, rfl, rfl, ht, rfl, x, .ty "str", _, _, _, rfl, .ty "str", h1.ty, kStr d1, _, rfl, ?_⟩
        cases e1 : isStr d1 with
        | false =>
          rw [expB_first e1] at q
          exact iteT (iteT (q H (Same.refl H)))
        | true =>
          obtain ⟨s, rfl, rfl⟩ := dq_str h1 e1
          have hs := light_str (hw _ (List.mem_cons_self ..))
          have q : ∀ H', Same H H' → Q (.bl ((allIn "abcdefghijklmnopqrstuvwxyz" s && ((decide (1 ≤ s.length) && decide (s.length ≤ 4)) && Ls.ascB s)) && (shortB s d2 && statesB s d3))) H' := q
          have no : (decide (1 ≤ s.length) && decide (s.length ≤ 4)) = false → Q (.bl false) H := fun e => by
            have q := q H (Same.refl H)
            rw [e, ff_and, Bool.and_false, ff_and] at q
            exact q
          refine iteF ⟨_, rfl, a, _, 0, _, rfl, rfl, ht, rfl, s, rfl, hs, 1, _, rfl, rfl, _, rfl, ?_⟩
          by_cases l1 : 1 ≤ s.length
          · rw [decide_eq_true (show (1 : Int) ≤ ((s.length : Nat) : Int) by omega)]
            refine iteT ⟨_, _, rfl, rfl, _, rfl, ?_⟩
            by_cases l2 : s.length ≤ 4
            · rw [decide_eq_true (show ((s.length : Nat) : Int) ≤ 4 by omega)]
              rw [decide_eq_true l1, decide_eq_true l2, tt_and, tt_and] at q
              refine iteF ⟨_, rfl, a, _, 0, _, rfl, rfl, ht, rfl, _, rfl, a, _, 2, z, rfl, rfl, ht, rfl, (by show 3 ≤ sizeLine; decide), fun t nt => ?_⟩
              have s0 := same_new (o := .tup [.str "abcdefghijklmnopqrstuvwxyz", .str s, z]) nt
              refine ⟨t, _, rfl, SqT.of upd_same, rfl, _, _, rfl, _, _, rfl, _, _, rfl, rfl, ?_⟩
              refine ⟨_, rfl, s, rfl, fun D nD => ?_⟩
              refine lc_strange (s := "abcdefghijklmnopqrstuvwxyz") nD (by omega) (fun c H1 Nxt Els s1 k1 k2 => ?_) (fun H1 s1 hD => ?_)
              · refine ⟨rfl, _, rfl, _, rfl, c, _, rfl, rfl, _, rfl, ?_⟩
                cases ec : decide (c ∈ ("abcdefghijklmnopqrstuvwxyz" : Str).cps.toList) with
                | true => exact iteF (k2 ec)
                | false => exact iteT (k1 ec)
              · refine ⟨Nat.zero_le _, fun l nl => ?_⟩
                have s2 := same_new (o := .lst []) nl
                have sA := Same.trans s0 (Same.trans s1 s2)
                refine ⟨.list (((strange "abcdefghijklmnopqrstuvwxyz" s.cps.toList).map fun _ => (1 : Int)).map PyData.int), .list [], .lst (SqL.of (s2 _ _ hD)) (dq_ints _), .lst (SqL.of upd_same) .nil, shaped_ints _, shaped_ints [], _, rfl, ?_⟩
                rw [eqv_nil_ints, strange_ones]
                cases e2 : allIn "abcdefghijklmnopqrstuvwxyz" s with
                | false =>
                  rw [e2, ff_and, ff_and] at q
                  exact iteT (iteT (q _ sA))
                | true =>
                  rw [e2, tt_and] at q
                  refine iteF ?_
                  refine ⟨⟨_, rfl⟩, _, rfl, s, rfl, (by have : s.cps.size = s.length := rfl; omega), fun S nS => ?_⟩
                  have s3 := same_new (o := Ls.SetS w S (Ls.signsT s)) nS
                  refine ⟨S, s, rfl, upd_same, (by have : s.cps.size = s.length := rfl; omega), fun cs p iff mem lc np => ?_⟩
                  have s4 := same_new (o := .lst ((cs.map Ls.one).map V.str)) np
                  have sB := Same.trans sA (Same.trans s3 s4)
                  refine ⟨tx [], p, cs.map Ls.one, rfl, rfl, .inl (SqL.of upd_same), ?_, ?_⟩
                  · have e5 : ((cs.map Ls.one).map (·.length)).sum = cs.length := sum_ones cs
                    rw [e5]
                    show _ + _ * 0 ≤ _
                    have : s.cps.size = s.length := rfl
                    omega
                  refine ⟨_, rfl, rfl, _, rfl, ?_⟩
                  rw [asc_join iff]
                  cases e3 : Ls.ascB s with
                  | false =>
                    rw [e3, ff_and] at q
                    exact iteT (q _ sB)
                  | true =>
                    rw [e3, tt_and] at q
                    refine iteF ?_
                    refine ⟨_, rfl, _, rfl, a, _, 1, y, rfl, rfl, seqT sB ht, rfl, s, y, d2, rfl, h2.mono sB, hw d2 (by simp), fun H2 s5 => ⟨_, rfl, ?_⟩⟩
                    have sC := Same.trans sB s5
                    have h3' := h3.mono sC
                    cases e4 : shortB s d2 with
                    | false =>
                      rw [e4, ff_and] at q
                      exact iteT (iteT (q _ sC))
                    | true =>
                      rw [e4, tt_and] at q
                      refine iteF ⟨_, rfl, z, .ty "tuple", _, _, _, rfl, .ty "tuple", h3'.ty, kTup d3, _, rfl, ?_⟩
                      cases e5 : isTup d3 with
                      | false =>
                        rw [statesB_tup e5] at q
                        exact iteT (iteT (q _ sC))
                      | true =>
                        obtain ⟨a3, zs, es, rfl, rfl, ht3, ha3⟩ := dq_tup h3' e5
                        have hw3 : Light (.tuple es) := hw _ (by simp)
                        have q : ∀ H', Same H H' → Q (.bl ((decide (1 ≤ es.length) && decide (es.length ≤ 60)) && es.all (stateB s (es.length : Nat)))) H' := q
                        have hl3 := ha3.length
                        refine iteF ⟨_, rfl, a3, zs, rfl, .inr ht3, 1, _, rfl, rfl, _, rfl, ?_⟩
                        by_cases l3 : 1 ≤ es.length
                        · rw [decide_eq_true l3, tt_and] at q
                          rw [decide_eq_true (show (1 : Int) ≤ ((zs.length : Nat) : Int) by omega)]
                          refine iteT ⟨_, _, rfl, rfl, _, rfl, ?_⟩
                          by_cases l4 : es.length ≤ 60
                          · rw [decide_eq_true l4, tt_and] at q
                            rw [decide_eq_true (show ((zs.length : Nat) : Int) ≤ 60 by omega)]
                            refine iteF ⟨_, rfl, a3, rfl, ⟨_, ht3⟩, fun D2 nD2 => ?_⟩
                            refine lc_ones (stateB s (es.length : Nat)) ht3 ha3 nD2 (by omega) (fun x d H3 Nxt Els s6 hx hm k1 k2 => ?_) (fun H3 s6 hD3 => ?_)
                            · refine ⟨rfl, _, rfl, _, rfl, a3, zs, rfl, .inr (seqT s6 ht3), _, rfl, s, ((es.length : Nat) : Int), x, d, ?_, hx, light_tup hw3 d hm, l2, fun H4 s7 => ⟨_, rfl, ?_⟩⟩
                              · rw [hl3] <;> rfl
                              · cases e6 : stateB s (es.length : Nat) d with
                                | true => exact iteF (k2 e6 H4 s7)
                                | false => exact iteT (k1 e6 H4 s7)
                            · refine ⟨Nat.zero_le _, fun l2 nl2 => ?_⟩
                              have s7 := same_new (o := .lst []) nl2
                              refine ⟨.list ((onesOf (stateB s (es.length : Nat)) es).map PyData.int), .list [], .lst (SqL.of (s7 _ _ hD3)) (dq_ints _), .lst (SqL.of upd_same) .nil, shaped_ints _, shaped_ints [], ?_⟩
                              rw [eqv_nil_ints, onesOf_nil]
                              exact q _ (Same.trans sC (Same.trans s6 s7))
                          · rw [decide_eq_false l4, ff_and] at q
                            rw [decide_eq_false (show ¬ ((zs.length : Nat) : Int) ≤ 60 by omega)]
                            exact iteT (q _ sC)
                        · rw [decide_eq_false l3, ff_and, ff_and] at q
                          rw [decide_eq_false (show ¬ (1 : Int) ≤ ((zs.length : Nat) : Int) by omega)]
                          exact iteF ⟨_, rfl, iteT (q _ sC)⟩
            · rw [decide_eq_false (show ¬ ((s.length : Nat) : Int) ≤ 4 by omega)]
              exact iteT (no (by rw [decide_eq_false l2, Bool.and_false]))
          · rw [decide_eq_false (show ¬ (1 : Int) ≤ ((s.length : Nat) : Int) by omega)]
            exact iteF ⟨_, rfl, iteT (no (by rw [decide_eq_false l1, ff_and]))⟩
      · rw [decide_eq_false (show ¬ ((xs.length : Nat) : Int) = 3 by omega)]
        rw [expB_len (fun z => hl (ha.length.trans z))] at q
        exact iteT (iteT (q H (Same.refl H)))
end
end K14

namespace K14
open PySem PySem.Spec PyProof.Rows L2 G Lk
section
variable {P : Program} {w : World} {K : PySem.W.Frag} {mg : Str → Option Value} {base : Heap}
def sp_Lpick (K : PySem.W.Frag) : Sp := spPick K
/-- def _law_pick(pot, items): -/
theorem ok_Lpick (T : Tx K mg) : FnOk P w K mg base CX0 3 T.a__law_pick T.fd__law_pick ["pot", "items"] (sp_Lpick K) := by
  refine T.F__law_pick.ok sc_Lpick (fun vs H Q E h => ?_) (fun cdv A outer s H vs Q E hr h => ?_)
  · obtain ⟨_, _, _, _, rfl, _⟩ := h
    rfl
  · refine ⟨_, (pss_one (ps_ret (pe_ix ix_seq (pv 1) (pe_call (ok_Lbelow T) (hr.mono (by decide)) (by rfl) T.g__law_below T.F__law_below.kp T.b__law_below .nil pass0 (pa_cons (pv 0) (pa_cons (pe_callB call_len (by rfl) T.z_len PySem.boot_len (pa_cons (pv 1) pa_nil)) pa_nil))) (fun _ _ => rfl)))), ?_⟩
    obtain ⟨a, c, v, xs, rfl, hp, hne, hx, hl, q⟩ := h
    have hpos : 0 < xs.length := List.length_pos_iff.mpr hne
    refine ⟨_, rfl, _, rfl, _, rfl, ?_⟩
    have fin : ∀ (H' : Hp) (k : Int), 0 ≤ k → k < (xs.length : Int) → ∃ x, xs[k.toNat]? = some x ∧ atI xs k = some x ∧ x ∈ xs := fun H' k k0 k1 => by
      have hk : k.toNat < xs.length := by omega
      refine ⟨xs[k.toNat], List.getElem?_eq_getElem hk, ?_, List.getElem_mem hk⟩
      have e := atI_nat (xs := xs) (j := k.toNat) (List.getElem?_eq_getElem hk)
      rw [show ((k.toNat : Nat) : Int) = k by omega] at e
      exact e
    rcases hx with ⟨l, rfl, h1⟩ | ⟨l, rfl, h1⟩ | ⟨z, rfl, rfl, hz⟩
    · refine ⟨_, xs.length, rfl, .inl ⟨_, seqL sans_same h1, rfl⟩, a, c, _, rfl, hp, by omega, by omega, fun H' k sm hp' k0 k1 => ?_⟩
      obtain ⟨x, e1, e2, e3⟩ := fin H' k k0 k1
      exact .inl ⟨l, xs, k, x, rfl, rfl, seqL sm.same h1, e2, q H' x sm hp' e3⟩
    · refine ⟨_, xs.length, rfl, .inr ⟨_, seqT sans_same h1, rfl⟩, a, c, _, rfl, hp, by omega, by omega, fun H' k sm hp' k0 k1 => ?_⟩
      obtain ⟨x, e1, e2, e3⟩ := fin H' k k0 k1
      exact .inr (.inl ⟨l, xs, k, x, rfl, rfl, seqT sm.same h1, e2, q H' x sm hp' e3⟩)
    · refine ⟨_, z.length, rfl, ⟨hz, rfl⟩, a, c, _, rfl, hp, by rw [sg_len] at hpos; omega, by rw [sg_len] at hl; omega, fun H' k sm hp' k0 k1 => ?_⟩
      have hk : k.toNat < (sg z).length := by rw [sg_len]; omega
      obtain ⟨c, e1, e2⟩ := sg_get hk
      have e3 := atI_nat (xs := z.cps.toList) (j := k.toNat) e2
      rw [show ((k.toNat : Nat) : Int) = k by omega] at e3
      exact .inr (.inr ⟨z, k, c, rfl, rfl, hz, e3, q H' _ sm hp' (e1 ▸ List.getElem_mem hk)⟩)
end
end K14

namespace K14
open PySem PySem.Spec PyProof.Rows L2 G Lk
section
variable {P : Program} {w : World} {K : PySem.W.Frag} {mg : Str → Option Value} {base : Heap}
def sp_Lplainer (K : PySem.W.Frag) : Sp := fun vs H Q _ => ∃ (v : V) (d : PyData) (z : Str) (n : Nat), vs = [v] ∧ Dq K H v d ∧ StateD z n d ∧ z.length ≤ 4 ∧
  ∀ (H' : Hp) (v' : V) (d' : PyData), Same H H' → Dq K H' v' d' → StateD z n d' → PlainS d' → Q v' H'
/-- def _law_plainer(state): -/
theorem ok_Lplainer (T : Tx K mg) : FnOk P w K mg base CX0 1 T.a__law_plainer T.fd__law_plainer ["state"] (sp_Lplainer K) := by
  refine T.F__law_plainer.ok sc_Lplainer (fun vs H Q E h => ?_) (fun cdv A outer s H vs Q E hr h => ?_)
  · obtain ⟨_, _, _, _, rfl, _⟩ := h
    rfl
  · refine ⟨_, (pss_one (ps_ret (pe_tup (pa_cons (pe_callTy call_tuple_of (by rfl) T.z_tuple (by decide +kernel) (pa_cons (pe_lc (own := [("move", 1)]) (g := gName 1) (by rfl) sc_Lplainer.nd (pi_tup (pe_ix ix_tup (pv 0) pe_int (fun _ _ => rfl))) (blkOk_by (own := [("move", 1)]) (N := N_Lplainer) (sc := defScope s_Lplainer) (by decide +kernel)) (fun _ _ _ _ _ => pg_name (i := 1) sc_Lplainer.nd rfl (by first | exact Or.inl rfl | exact Or.inr rfl)) (fun _ _ _ _ _ => pts_nil) (fun _ _ _ _ _ => (pe_ifExp (pt_cmpR op_isN (pv 1) pe_non (nomark _)) pe_non (pe_tup (pa_cons (pe_ix (ix_tup : IxR _ (rIxT K)) (pv 1) pe_int (fun _ _ => rfl)) (pa_cons pe_str (pa_cons (pe_ix (ix_tup : IxR _ (rIxT K)) (pv 1) pe_int (fun _ _ => rfl)) pa_nil))))))) pa_nil)) (pa_cons (pe_ix ix_tup (pv 0) pe_int (fun _ _ => rfl)) pa_nil))))), ?_⟩
    obtain ⟨v, d, z, n, rfl, hd, ⟨ms, l, rfl, hm, hms, hl⟩, hz, q⟩ := h
    obtain ⟨a, xs, rfl, h1, h2⟩ := hd.items
    obtain ⟨x, ys, rfl, hx, h2⟩ := h2.one
    obtain ⟨y, ys, rfl, hy, h2⟩ := h2.one
    obtain rfl := h2.none
    obtain ⟨t, zs, rfl, h3, h4⟩ := hx.items
    have hlen := h4.length
    refine ⟨_, rfl, a, _, 0, _, rfl, rfl, h1, rfl, t, rfl, ⟨_, h3⟩, fun D nD => ?_⟩
    refine lc_tup (xs := zs) (fun i H' => Same H H' ∧ ∃ us es, H' D = some (.lst us) ∧ us.length = i ∧ DqAll K (sans H' D) us es ∧ ∀ d ∈ es, MoveD z n d ∧ PlainM d) ⟨same_new nD, [], [], upd_same, rfl, .nil, fun _ h => (List.not_mem_nil h).elim⟩ (fun _ _ _ p => seqT p.1 h3) ?_ ?_
    · rintro i m H1 hmi ⟨s1, us, es, hu, lu, hA, hE⟩
      obtain ⟨e, he, hem, _, hq⟩ := dqAll_get' (h4.mono s1) hmi
      have hi : i < zs.length := (List.getElem?_eq_some_iff.mp hmi).1
      have fin : ∀ (H2 : Hp) (y' : V) (e' : PyData), Same H1 H2 → Dq K (sans H2 D) y' e' → MoveD z n e' ∧ PlainM e' → ∃ acc, H2 D = some (.lst acc) ∧ acc.length < sizeLine ∧
          (Same H (upd H2 D (.lst (acc ++ [y']))) ∧ ∃ us es, upd H2 D (.lst (acc ++ [y'])) D = some (.lst us) ∧ us.length = i + 1 ∧ DqAll K (sans (upd H2 D (.lst (acc ++ [y']))) D) us es ∧ ∀ d ∈ es, MoveD z n d ∧ PlainM d) := fun H2 y' e' s2 hy' hm' => by
        refine ⟨us, s2 _ _ hu, Nat.lt_of_le_of_lt (show us.length ≤ 4 by omega) (by decide), fun b o eb => (upd_ne (ne_of_none eb nD)).trans (s2 _ _ (s1 _ _ eb)), us ++ [y'], es ++ [e'], upd_same, by rw [List.length_append, lu]; rfl, ?_, ?_⟩
        · have sm : Sm D H2 (upd H2 D (.lst (us ++ [y']))) := Sm.pot
          exact ((hA.mono (Sm.of s2)).mono sm).append (.cons (hy'.mono sm) .nil)
        · intro d hd
          rcases List.mem_append.mp hd with z | z
          · exact hE d z
          · rw [List.mem_singleton.mp z]
            exact hm'
      rcases hms e hem with rfl | ⟨b, c, g, rfl, hb, hc, hg⟩
      · obtain rfl := hq.noneV
        refine ⟨rfl, _, rfl, rfl, _, rfl, ?_⟩
        exact iteT (fin H1 .non .none (Same.refl _) .non ⟨.inl rfl, .inl rfl⟩)
      · obtain ⟨p, ps, rfl, hp, hp2⟩ := hq.items
        obtain ⟨x1, ps, rfl, hx1, hp2⟩ := hp2.one
        obtain ⟨x2, ps, rfl, hx2, hp2⟩ := hp2.one
        obtain ⟨x3, ps, rfl, hx3, hp2⟩ := hp2.one
        obtain rfl := hp2.none
        obtain rfl := hx1.strV
        obtain rfl := hx2.strV
        obtain rfl := hx3.intV
        refine ⟨rfl, _, rfl, rfl, _, rfl, ?_⟩
        refine iteF ⟨_, rfl, p, _, 0, _, rfl, rfl, hp, rfl, _, rfl, p, _, 2, _, rfl, rfl, hp, rfl, (by show 3 ≤ sizeLine; decide), fun r nr => ?_⟩
        have nrD : r ≠ D := (ne_of_none hu nr).symm
        refine fin _ _ (.tuple [.str b, .str "", .int (g : Int)]) (same_new nr) ?_ ⟨.inr ⟨b, "", g, rfl, hb, ⟨Nat.zero_le _, fun c h => by cases h⟩, hg⟩, .inr ⟨b, g, rfl⟩⟩
        exact .tup (SqT.of (sans_of nrD upd_same)) (.cons (.str _) (.cons (.str _) (.cons (.int _) .nil)))
    · rintro H1 ⟨s1, us, es, hu, lu, hA, hE⟩
      refine ⟨D, us, rfl, .inl ⟨SqL.of hu, fun p np => ?_⟩⟩
      have s2 := same_new (o := .tup us) np
      refine ⟨_, rfl, a, _, 1, y, rfl, rfl, seqT (Same.trans s1 s2) h1, rfl, (by show 2 ≤ sizeLine; decide), fun r nr => ?_⟩
      have s3 := same_new (o := .tup [.ref p, y]) nr
      have sA := Same.trans s1 (Same.trans s2 s3)
      refine q _ _ (.tuple [.tuple es, l]) sA ?_ ⟨es, l, rfl, ?_, fun m hm => (hE m hm).1, hl⟩ fun ms' l' e m hm => by
        cases e
        exact (hE m hm).2
      · refine .tup (SqT.of upd_same) (.cons (.tup (SqT.of (s3 _ _ upd_same)) ?_) (.cons (hy.mono sA) .nil))
        exact (hA.mono sans_same).mono (Same.trans s2 s3)
      · rw [← hA.length, lu, hlen, hm]
end
end K14

namespace K14
open PySem PySem.Spec PyProof.Rows L2 G Lk
section
variable {P : Program} {w : World} {K : PySem.W.Frag} {mg : Str → Option Value} {base : Heap}
/-- a new pot -/
def sp_Lpot_of (K : PySem.W.Frag) : Sp := fun vs H Q _ => ∃ (a : Addr) (ns : List Int), vs = [.ref a] ∧ SqL K H a (ns.map V.int) ∧ ns.length ≤ 63 ∧
  ∀ (H' : Hp) (p c : Addr), Same H H' → H p = none → Pot K H' p c → Q (.ref p) H'
/-- def _law_pot_of(script): -/
theorem ok_Lpot_of (T : Tx K mg) : FnOk P w K mg base CX0 1 T.a__law_pot_of T.fd__law_pot_of ["script"] (sp_Lpot_of K) := by
  refine T.F__law_pot_of.ok sc_Lpot_of (fun vs H Q E h => ?_) (fun cdv A outer s H vs Q E hr h => ?_)
  · obtain ⟨_, _, rfl, _⟩ := h
    rfl
  · refine ⟨_, (pss_cons (ps_setLc (i := 1) (own := [("cell", 3)]) (g := gName 3) (by rfl) sc_Lpot_of.nd rfl rfl (sw_true rfl rfl rfl (by decide +kernel)) (pi_list (pe_slice sl_list (pv 0) po_none (po_some pe_int))) (blkOk_by (own := [("cell", 3)]) (N := N_Lpot_of) (sc := defScope s_Lpot_of) (by decide +kernel)) (fun _ _ _ _ _ => pg_name (i := 3) sc_Lpot_of.nd rfl (by first | exact Or.inl rfl | exact Or.inr rfl)) (fun _ _ _ _ _ => pts_nil) (fun _ _ _ _ _ => (pe_callB call_abs (by rfl) T.z_abs (by decide +kernel) (pa_cons (pv 3) pa_nil))))
    (pss_cons (ps_for PassesOwn.never rfl (pi_enum (by rfl) T.z_enumerate (pa_cons (pe_slice sl_list (pv 0) (po_some pe_int) (po_some pe_int)) pa_nil)) (pg_tup rfl (pgs_cons (pg_name (i := 2) sc_Lpot_of.nd rfl (by first | exact Or.inl rfl | exact Or.inr rfl)) (pgs_cons (pg_name (i := 3) sc_Lpot_of.nd rfl (by first | exact Or.inl rfl | exact Or.inr rfl)) pgs_nil)))
      (pss_one (ps_asg (pe_op op_add (pe_ix ix_list (pv 1) (pe_op op_mod (pv 2) pe_int) (fun _ _ => rfl)) (pe_callB call_abs (by rfl) T.z_abs (by decide +kernel) (pa_cons (pv 3) pa_nil))) (pg_sub (pv 1) (pe_op op_mod (pv 2) pe_int) set_list))))
    (pss_one (ps_ret (pe_lst (pa_cons (pv 1) (pa_cons pe_int (pa_cons pe_int (pa_cons pe_int pa_nil))))))))), ?_⟩
    obtain ⟨a, ns, rfl, hS, hlen, q⟩ := h
    refine ⟨_, rfl, _, rfl, a, _, rfl, hS, fun e ne => ?_⟩
    have s1 : Same H (upd H e (.lst (cutV (ns.map V.int) none (some 17)))) := same_new ne
    have e17 : cutV (ns.map V.int) none (some 17) = (ns.take 17).map V.int := by
      rw [show (17 : Int) = ((17 : Nat) : Int) from rfl, cutV_to, List.map_take]
    have hE : (upd H e (.lst (cutV (ns.map V.int) none (some 17)))) e = some (.lst ((ns.take 17).map V.int)) := by
      rw [upd_same, e17]
    generalize upd H e (.lst (cutV (ns.map V.int) none (some 17))) = H1 at s1 hE
    refine ⟨e, rfl, ⟨_, SqL.of hE⟩, fun D hD => ?_⟩
    have neD : e ≠ D := ne_of_none hE hD
    refine lc_list (K := K) (a := e) (xs := (ns.take 17).map V.int) (fun i H' => Same H1 H' ∧ ∃ ms : List Int, ms.length = i ∧ H' D = some (.lst (ms.map V.int)))
      ⟨same_new hD, [], rfl, upd_same⟩ (fun i H' _ ⟨s, _⟩ => seqL s (SqL.of hE)) ?_ ?_
    · rintro i x H' hi ⟨s, ms, hm, hD'⟩
      obtain ⟨n, rfl⟩ : ∃ n, x = V.int n := by
        rw [List.getElem?_map, Option.map_eq_some_iff] at hi
        obtain ⟨n, _, rfl⟩ := hi
        exact ⟨n, rfl⟩
      have h17 : i < 17 := by
        have z := (List.getElem?_eq_some_iff.mp hi).1
        rw [List.length_map, List.length_take] at z
        omega
      refine ⟨rfl, _, rfl, _, rfl, _, hD', ?_, ?_, ms ++ [if n < 0 then -n else n], ?_, ?_⟩
      · rw [List.length_map, hm]
        exact Nat.lt_trans h17 (by decide)
      · exact fun b o z => (upd_ne (ne_of_none z hD)).trans (s b o z)
      · rw [List.length_append, hm]
        rfl
      · rw [upd_same, List.map_append]
        rfl
    · rintro H2 ⟨s2, ms, hm, hD2⟩
      rw [List.length_map, List.length_take] at hm
      have sH : Same H H2 := s1.trans s2
      have hDH : H D = none := s1.free hD
      have hS2 : SqL K H2 a (ns.map V.int) := sH.seq hS
      refine ⟨_, rfl, _, rfl, _, rfl, a, _, rfl, hS2, fun f nf => ?_⟩
      have nDf : D ≠ f := ne_of_none hD2 nf
      have e43 : cutV (ns.map V.int) (some 17) (some 60) = ((ns.drop 17).take 43).map V.int := by
        unfold cutV
        rw [show (17 : Int) = ((17 : Nat) : Int) from rfl, show (60 : Int) = ((60 : Nat) : Int) from rfl, HT.sIx_nat, HT.sIx_nat, List.map_take, List.map_drop, List.length_map]
        by_cases c : 17 ≤ ns.length
        · rw [Nat.min_eq_left c]
          by_cases c2 : 60 ≤ ns.length
          · rw [Nat.min_eq_left c2]
          · rw [Nat.min_eq_right (by omega : ns.length ≤ 60), List.take_of_length_le (by rw [List.length_drop, List.length_map]; omega), List.take_of_length_le (by rw [List.length_drop, List.length_map]; omega)]
        · rw [Nat.min_eq_right (by omega : ns.length ≤ 17), List.drop_of_length_le (by rw [List.length_map]; omega), List.drop_of_length_le (by rw [List.length_map]; omega)]
          simp
      have s3 : Same H (upd H2 f (.lst (cutV (ns.map V.int) (some 17) (some 60)))) := sH.trans (same_new nf)
      have hF : (upd H2 f (.lst (cutV (ns.map V.int) (some 17) (some 60)))) f = some (.lst (((ns.drop 17).take 43).map V.int)) := by
        rw [upd_same, e43]
      have hD3 : (upd H2 f (.lst (cutV (ns.map V.int) (some 17) (some 60)))) D = some (.lst (ms.map V.int)) := by
        rw [upd_ne nDf]
        exact hD2
      generalize upd H2 f (.lst (cutV (ns.map V.int) (some 17) (some 60))) = H3 at s3 hF hD3
      refine ⟨f, _, rfl, SqL.of hF, ?_⟩
      generalize hg : (ns.drop 17).take 43 = gs at hF
      have h17 : 0 < gs.length → ms.length = 17 := fun z => by
        rw [← hg, List.length_take, List.length_drop] at z
        omega
      refine ⟨fun i m σ H' => ∃ (t2 t3 : Option V) (ks : List Int), σ = [some (.ref a), some (.ref D), t2, t3] ∧ m = gs.length - i ∧ Same H H' ∧ H' f = some (.lst (gs.map V.int)) ∧ H' D = some (.lst (ks.map V.int)) ∧ ks.length = ms.length,
        ⟨gs.length, none, none, ms, rfl, rfl, s3, hF, hD3, rfl⟩, ?_⟩
      rintro i m σ H' ⟨t2, t3, ks, rfl, em, sm, ef, ed, ek⟩
      by_cases hi : i < gs.length
      · have hg1 : (gs.map V.int)[i]? = some (.int gs[i]) := by
          rw [List.getElem?_map, List.getElem?_eq_getElem hi]
          rfl
        refine .inr ⟨⟨_, _, SqL.of ef, hg1⟩, fun σ' H'' => ∃ (t2 t3 : Option V) (ks : List Int), σ' = [some (.ref a), some (.ref D), t2, t3] ∧ Same H H'' ∧ H'' f = some (.lst (gs.map V.int)) ∧ H'' D = some (.lst (ks.map V.int)) ∧ ks.length = ms.length, ?_, ?_⟩
        · rintro σ' H'' ⟨u2, u3, ls, e1, e2, e3, e4, e5⟩
          exact ⟨gs.length - (i + 1), by omega, u2, u3, ls, e1, rfl, e2, e3, e4, e5⟩
        · rintro v H'' ⟨T0, x, rfl, nT, rfl, fx⟩
          obtain rfl : x = .int gs[i] := Option.some.inj ((fx _ (SqL.of ef)).symm.trans hg1)
          have nDT : D ≠ T0 := ne_of_none ed nT
          have nfT : f ≠ T0 := ne_of_none ef nT
          have hk := h17 (by omega)
          have sT : Same H' (upd H' T0 (.tup [.int ((i : Nat) : Int), .int gs[i]])) := same_new nT
          refine ⟨T0, _, rfl, SqT.of upd_same, rfl, _, _, rfl, _, _, rfl, rfl, ?_⟩
          have p17 : (0 : Int) < 17 := by decide
          have hz : (((i : Nat) : Int) % 17).toNat < ks.length := by
            have z1 := Int.emod_nonneg ((i : Nat) : Int) (by decide : (17 : Int) ≠ 0)
            have z2 := Int.emod_lt_of_pos ((i : Nat) : Int) p17
            omega
          have ez := Int.toNat_of_nonneg (Int.emod_nonneg ((i : Nat) : Int) (by decide : (17 : Int) ≠ 0))
          have e3 := atI_nat (xs := ks.map V.int) (j := (((i : Nat) : Int) % 17).toNat) (v := .int ks[(((i : Nat) : Int) % 17).toNat]) (by rw [List.getElem?_map, List.getElem?_eq_getElem hz]; rfl)
          have e4 : ixN (ks.map V.int).length (((i : Nat) : Int) % 17) = some (((i : Nat) : Int) % 17).toNat := by
            have z := ixN_nat (n := (ks.map V.int).length) (j := (((i : Nat) : Int) % 17).toNat) (by rw [List.length_map]; exact hz)
            rw [ez] at z
            exact z
          rw [ez] at e3
          have ed2 : (upd H' T0 (.tup [.int ((i : Nat) : Int), .int gs[i]])) D = some (.lst (ks.map V.int)) := sT _ _ ed
          refine ⟨_, rfl, _, rfl, _, _, rfl, rfl, p17, D, _, _, _, rfl, rfl, SqL.of ed2, e3, _, rfl, _, rfl, _, _, rfl, rfl, _, rfl, _, rfl, _, _, rfl, rfl, p17, D, _, _, _, rfl, rfl, ed2, e4, ?_⟩
          refine ⟨_, _, ks.set (((i : Nat) : Int) % 17).toNat (ks[(((i : Nat) : Int) % 17).toNat] + (if gs[i] < 0 then -gs[i] else gs[i])), rfl, ?_, ?_, ?_, ?_⟩
          · exact fun b o z => (upd_ne (ne_of_none z hDH)).trans (sT _ _ (sm b o z))
          · rw [upd_ne nDf.symm]
            exact sT _ _ ef
          · rw [upd_same, List.map_set]
          · rw [List.length_set]
            exact ek
      · refine .inl ⟨⟨_, SqL.of ef, by rw [List.length_map]; omega⟩, ?_⟩
        refine ⟨_, rfl, (by show 4 ≤ sizeLine; decide), fun p np => ?_⟩
        have nDp : D ≠ p := ne_of_none ed np
        refine q _ p D (sm.trans (same_new np)) (sm.free np) ⟨⟨0, 0, 0, upd_same⟩, ks, ?_, ?_⟩
        · refine SqL.of (sans_of nDp ?_)
          rw [upd_ne nDp]
          exact ed
        · omega
end
end K14

namespace K14
open PySem PySem.Spec PyProof.Rows L2 G Lk
section
variable {P : Program} {w : World} {K : PySem.W.Frag} {mg : Str → Option Value} {base : Heap}
def sp_Lsizes (K : PySem.W.Frag) : Sp := fun vs H Q _ => ∃ (v : V) (z f : Str) (ss : List PyData), vs = [v] ∧ Dq K H v (.tuple [.str z, .str f, .tuple ss]) ∧ StatesOk z ss ∧
  ∀ (H' : Hp) (d : Addr), Same H H' → H d = none → Found [d] H' d (laps z ss (callsOf z ss.length) (callsOf z ss.length).length []) → Q (.ref d) H'
theorem laps_snoc {z : Str} {ss : List PyData} (cs : List Lk.Cl) : ∀ (n : Nat) (E : Ent), laps z ss cs (n + 1) E = lap z ss cs (laps z ss cs n E)
  | 0, E => rfl
  | n + 1, E => laps_snoc cs n (lap z ss cs E)
theorem fold_snoc {z : Str} {ss : List PyData} {cs : List Lk.Cl} {j : Nat} {c : Lk.Cl} (h : cs[j]? = some c) (E : Ent) : (cs.take (j + 1)).foldl (lapOne z ss) E = lapOne z ss ((cs.take j).foldl (lapOne z ss) E) c := by
  rw [List.take_add_one, h, List.foldl_append]
  rfl
/-- def _law_sizes(expander): -/
theorem ok_Lsizes (T : Tx K mg) : FnOk P w K mg base CX0 2 T.a__law_sizes T.fd__law_sizes ["expander"] (sp_Lsizes K) := by
  refine T.F__law_sizes.ok sc_Lsizes (fun vs H Q E h => ?_) (fun cdv A outer s H vs Q E hr h => ?_)
  · obtain ⟨_, _, _, _, rfl, _⟩ := h
    rfl
  · refine ⟨_, (pss_cons (ps_set (i := 1) sc_Lsizes.nd rfl (by first | exact Or.inl rfl | exact Or.inr rfl) pe_dnewT)
    (pss_cons (ps_for PassesOwn.never rfl (pi_range1 (by rfl) T.z_range (pa_cons (pe_op op_mul (pe_callB call_len_seq (by rfl) T.z_len PySem.boot_len (pa_cons (pe_ix ix_tup (pv 0) pe_int (fun _ _ => rfl)) pa_nil)) (pe_callB call_len_str (by rfl) T.z_len PySem.boot_len (pa_cons (pe_ix ix_tup (pv 0) pe_int (fun _ _ => rfl)) pa_nil))) pa_nil)) (pg_name (i := 2) sc_Lsizes.nd rfl (by first | exact Or.inl rfl | exact Or.inr rfl))
      (pss_one (ps_for PassesOwn.never rfl (pi_list (pe_call (ok_Lcalls T) (hr.mono (by decide)) (by rfl) T.g__law_calls T.F__law_calls.kp T.b__law_calls .nil pass0 (pa_cons (pv 0) pa_nil))) (pg_tup rfl (pgs_cons (pg_name (i := 3) sc_Lsizes.nd rfl (by first | exact Or.inl rfl | exact Or.inr rfl)) (pgs_cons (pg_name (i := 4) sc_Lsizes.nd rfl (by first | exact Or.inl rfl | exact Or.inr rfl)) pgs_nil)))
      (pss_cons (ps_set (i := 5) sc_Lsizes.nd rfl (by first | exact Or.inl rfl | exact Or.inr rfl) (pe_ix ix_tup (pe_ix ix_tup (pe_ix ix_tup (pe_ix ix_tup (pv 0) pe_int (fun _ _ => rfl)) (pv 3) (fun _ _ => rfl)) pe_int (fun _ _ => rfl)) (pe_bm PySem.F.plainAttrs_str PySem.F.slot_str_index PySem.F.type_str_index mt_sindex (pe_ix ix_tup (pv 0) pe_int (fun _ _ => rfl)) (pa_cons (pv 4) pa_nil)) (fun _ _ => rfl)))
    (pss_one (ps_if (PW.pt (pw_and (pt_cmpR op_notN (pv 5) pe_non (nomark _)) (pw_and1 (pt_cmp (pc_dnotin (unit1 hr.units) (pe_tup (pa_cons (pv 3) (pa_cons (pv 4) pa_nil))) (pv 1))))))
      (pss_cons (ps_par (i := 7) (j := 8) (by rfl) sc_Lsizes.nd rfl rfl (by decide) rfl rfl (pa_cons (pe_callB call_len_str (by rfl) T.z_len PySem.boot_len (pa_cons (pe_ix ix_tup (pv 5) pe_int (fun _ _ => rfl)) pa_nil)) (pa_cons (pe_ix ix_tup (pv 5) pe_int (fun _ _ => rfl)) pa_nil)) (by rfl))
    (pss_cons (ps_for PassesOwn.never rfl (pi_str (pe_ix ix_tup (pv 5) pe_int (fun _ _ => rfl))) (pg_name (i := 6) sc_Lsizes.nd rfl (by first | exact Or.inl rfl | exact Or.inr rfl))
      (C8.pss_cut (ps_set (i := 9) sc_Lsizes.nd rfl (by first | exact Or.inl rfl | exact Or.inr rfl) (pe_ifExp (pt_cmpR op_notN (pv 8) pe_non (nomark _)) (pe_dget2 (unit1 hr.units) (pv 1) (pe_tup (pa_cons (pv 8) (pa_cons (pv 6) pa_nil))) (pe_tup (pa_cons pe_int (pa_cons pe_non pa_nil))) ⟨rfl, rfl, rfl, rfl⟩) (pe_tup (pa_cons pe_int (pa_cons pe_non pa_nil)))))
    (pss_one (ps_par (i := 7) (j := 8) (by rfl) sc_Lsizes.nd rfl rfl (by decide) rfl rfl (pa_cons (pe_op op_add (pv 7) (pe_ix ix_tup (pv 9) pe_int (fun _ _ => rfl))) (pa_cons (pe_ix ix_tup (pv 9) pe_int (fun _ _ => rfl)) pa_nil)) (by rfl)))))
    (pss_one (ps_if (pt_cmpR op_notN (pv 8) pe_non (nomark _))
      (pss_one (ps_dput (unit1 hr.units) (pv 1) (pe_tup (pa_cons (pv 3) (pa_cons (pv 4) pa_nil))) (pe_tup (pa_cons (pv 7) (pa_cons (pv 8) pa_nil))) (by rfl)))
      pss_nil))))
      pss_nil))))))
    (pss_one (ps_ret (pv 1))))), ?_⟩
    obtain ⟨v, z, f, ss, rfl, hd, ok, q⟩ := h
    have hz4 := ok.1.small.2.1
    have h60 := ok.2.2.1
    have hzl : z.length ≤ sizeLine := Nat.le_trans hz4 (by decide)
    obtain ⟨a, t, xs, rfl, ht, hts, hA⟩ := expV_of hd
    have hl := hA.length
    intro d nd
    have s0 := same_new (o := .dT []) nd
    have hN : ((xs.length : Nat) : Int) * ((z.length : Nat) : Int) = ((xs.length * z.length : Nat) : Int) := by rw [Int.natCast_mul]
    have hN2 : xs.length * z.length ≤ 60 * 4 := Nat.mul_le_mul (by omega) hz4
    have hcs : (callsOf z ss.length).length = xs.length * z.length := by rw [callsOf_len, hl]
    rw [hcs] at q
    generalize ecs : callsOf z ss.length = cs at q hcs
    have off_dq : ∀ {H' : Hp}, Same H H' → Same H (off [d] H') := fun s b o e => off_of (fun zz => by
      rw [List.mem_singleton.1 zz, nd] at e
      cases e) (s b o e)
    have from_ : ∀ {H1 H' : Hp}, Same H H1 → Keep [d] H1 H' → Same H H' := fun s k b o e => k.at_ (fun zz => by
      rw [List.mem_singleton.1 zz, nd] at e
      cases e) (s b o e)
    refine ⟨_, rfl, a, _, 2, _, rfl, rfl, seqT s0 ht, rfl, t, xs, rfl, .inr (seqT s0 hts), _, rfl, a, _, 0, _, rfl, rfl, seqT s0 ht, rfl, z, rfl, hzl, _, _, rfl, rfl, .inl ⟨by omega, by omega⟩, _, rfl, by omega, by omega, ?_⟩
    rw [hN, Int.toNat_natCast]
    refine for_range (n := xs.length * z.length) (fun i σ H' => ∃ s2 s3 s4 s5 s6 s7 s8 s9 : Option V, σ = [some (.ref a), some (.ref d), s2, s3, s4, s5, s6, s7, s8, s9] ∧ Same H H' ∧ Found [d] H' d (laps z ss cs i []))
      ⟨_, _, _, _, _, _, _, _, rfl, s0, [], upd_same, .nil⟩ ?_ ?_
    · rintro i σ H1 hi ⟨s2, s3, s4, s5, s6, s7, s8, s9, rfl, sH1, hF⟩
      have cl0 : Closed z ss (laps z ss cs i []) := Closed.laps i .nil
      generalize eE : laps z ss cs i [] = E at hF cl0
      refine ⟨_, rfl, _, z, f, ss, rfl, hd.mono sH1, ok, fun H2 l ys sH2 nl hy hcv => ?_⟩
      rw [ecs] at hcv
      have hF2 := hF.same sH2
      have dl : l ∉ [d] := fun zz => by
        obtain ⟨_, e', _⟩ := hF2
        rw [List.mem_singleton.1 zz, e'] at hy
        cases hy
      have sH02 := Same.trans sH1 sH2
      refine ⟨l, rfl, ⟨ys, SqL.of hy⟩, for_list (xs := ys) (fun j σ H' => ∃ s2 s3 s4 s5 s6 s7 s8 s9 : Option V, σ = [some (.ref a), some (.ref d), s2, s3, s4, s5, s6, s7, s8, s9] ∧ Keep [d] H2 H' ∧ Found [d] H' d ((cs.take j).foldl (lapOne z ss) E) ∧ Closed z ss ((cs.take j).foldl (lapOne z ss) E))
        ⟨_, _, _, _, _, _, _, _, rfl, Keep.refl, hF2, cl0⟩ (fun j σ H' _ ⟨_, _, _, _, _, _, _, _, _, k, _⟩ => SqL.of (k.at_ dl hy)) ?_ ?_⟩
      · rintro j x σ H3 hx ⟨s2, s3, s4, s5, s6, s7, s8, s9, rfl, k3, hF3, cl3⟩
        obtain ⟨p, c, rfl, hcj, hp⟩ := hcv.get hx
        rw [fold_snoc hcj]
        generalize (cs.take j).foldl (lapOne z ss) E = E3 at hF3 cl3
        have gc : Good z ss c := by
          rw [← ecs] at hcj
          exact callsOf_mem.1 (List.mem_of_getElem? hcj)
        have sH3 : Same H H3 := from_ sH02 k3
        obtain ⟨kvs, hd3, hE3⟩ := id hF3
        have hp3 : CallAt H3 p c := by
          have hp' : CallAt (off [d] H2) p c := CallAt.out hp fun a ha => by
            rw [List.mem_singleton.1 ha]
            exact hF2.noTup
          exact (off_some (k3 _ _ hp')).2
        obtain ⟨ms, lst, k, rest, e1, e2, e3⟩ := move_is (f := f) ok gc
        obtain ⟨xi, hxi, hqi⟩ := hA.ix e1
        obtain ⟨pi, us, rfl, hpi, hq⟩ := hqi.items
        obtain ⟨mv', us', rfl, hM, hq⟩ := hq.one
        obtain ⟨lv, us'', rfl, _, hq⟩ := hq.one
        obtain rfl := hq.none
        obtain ⟨mi, mss, rfl, hmi, hms⟩ := hM.items
        obtain ⟨mr, emr, hmr⟩ := hms.ix e3
        refine ⟨p, _, rfl, SqT.of hp3, rfl, _, _, rfl, _, _, rfl, rfl, ?_⟩
        refine ⟨_, rfl, a, _, 2, _, rfl, rfl, seqT sH3 ht, rfl, _, rfl, t, xs, (c.1 : Int), _, rfl, rfl, seqT sH3 hts, atI_nat hxi, pi, _, 0, _, rfl, rfl, seqT sH3 hpi, rfl, _, rfl, a, _, 0, _, rfl, rfl, seqT sH3 ht, rfl, rfl, _, rfl, z, Ls.one c.2, k, rest, rfl, rfl, e2, mi, mss, (k : Int), mr, rfl, rfl, seqT sH3 hmi, atI_nat emr, ?_⟩
        refine ⟨_, rfl, rfl, _, rfl, ?_⟩
        cases em : mv z ss c with
        | none =>
          rw [mv_none ok gc.1 gc.2 em] at hmr
          obtain rfl := hmr.noneV
          rw [lapOne_stop em]
          exact iteF (iteF ⟨_, _, _, _, _, _, _, _, rfl, k3, hF3, cl3⟩)
        | some m =>
          obtain ⟨_, xw, yw, emv, ex, ey, lx, ly, ax, ay, hg⟩ := mv_ok ok em
          rw [emv] at hmr
          obtain ⟨pm, rfl, hpm⟩ := standV (a := xw) (b := yw) (s := m.2.2) (hmr.mono sH3)
          refine iteT ⟨_, rfl, _, rfl, (by show 2 ≤ sizeLine; decide), fun p2 np2 => ?_⟩
          have s4 := same_new (o := .tup [.int (c.1 : Int), .str (Ls.one c.2)]) np2
          have hp2 : CallAt (upd H3 p2 (.tup [.int (c.1 : Int), .str (Ls.one c.2)])) p2 c := upd_same
          revert s4 hp2
          generalize upd H3 p2 (.tup [.int (c.1 : Int), .str (Ls.one c.2)]) = H4
          intro s4 hp2
          have hd4 := s4 _ _ hd3
          have hE4 : SzE (off [d] H4) kvs E3 := hE3.mono (Keep.of s4)
          have k4 := k3.trans (Keep.of s4)
          refine ⟨_, rfl, d, _, rfl, DGet.t (k := ckey c) hd4 hp2.key, _, rfl, ?_⟩
          rcases hE4.get c with ⟨vv, ww, e5, e6, e7⟩ | ⟨e5, e6⟩
          · rw [e5, lapOne_known e6]
            exact iteF ⟨_, _, _, _, _, _, _, _, rfl, k4, hF3.same s4, cl3⟩
          · rw [e5]
            have hpm4 := seqT s4 hpm
            have lxz : xw.length ≤ sizeLine := Nat.le_trans lx (by decide)
            refine iteT ⟨_, rfl, pm, _, 0, _, rfl, rfl, hpm4, rfl, xw, rfl, lxz, _, rfl, pm, _, 2, _, rfl, rfl, hpm4, rfl, _, _, rfl, ?_⟩
            refine ⟨_, rfl, pm, _, 1, _, rfl, rfl, hpm4, rfl, yw, rfl, ?_⟩
            have exl : m.1.length = xw.length := by
              rw [ex]
              simp [Str.length]
            let st : Option Wt → Int → V → Prop := fun r sz hr => match r with
              | some (w, g) => sz = (w.length : Int) ∧ hr = .int (g : Int)
              | none => hr = .non
            refine for_it walk_str (fun jj σ H' => ∃ (s2 s6 s9 : Option V) (sz : Int) (hr : V), σ = [some (.ref a), some (.ref d), s2, some (.int (c.1 : Int)), some (.str (Ls.one c.2)), some (.ref pm), s6, some (.int sz), some hr, s9] ∧ st (rd (look E3) (m.2.1.take jj) (m.1, m.2.2)) sz hr ∧ Same H4 H')
              ⟨_, _, _, _, _, rfl, by rw [List.take_zero]; exact ⟨by rw [exl], rfl⟩, Same.refl _⟩ (fun _ _ _ _ _ => trivial) ?_ ?_
            · rintro jj x σ H5 H6 hk1 ⟨s2, s6, s9, sz, hr, rfl, hst, sm5⟩ ⟨rfl, c1, hc1, rfl⟩
              have hc1' : m.2.1[jj]? = some c1 := by
                rw [ey]
                simpa using hc1
              rw [take_snoc hc1', rd_append]
              refine ⟨fun σ H' => ∃ (r : Addr) (b : Int) (h2 : V), σ = [some (.ref a), some (.ref d), s2, some (.int (c.1 : Int)), some (.str (Ls.one c.2)), some (.ref pm), some (.str (Ls.one c1)), some (.int sz), some hr, some (.ref r)] ∧ H' r = some (.tup [.int b, h2]) ∧ Same H6 H' ∧
                st ((rd (look E3) (m.2.1.take jj) (m.1, m.2.2)).bind (rd (look E3) [c1])) (sz + b) h2, ?_, ?_⟩
              · refine ⟨_, rfl, rfl, _, rfl, ?_⟩
                cases hrd : rd (look E3) (m.2.1.take jj) (m.1, m.2.2) with
                | none =>
                  rw [hrd] at hst
                  have hst : hr = .non := hst
                  subst hst
                  refine iteF ⟨(by show 2 ≤ sizeLine; decide), fun r nr => ?_⟩
                  exact ⟨r, 0, .non, rfl, upd_same, same_new nr, rfl⟩
                | some wg =>
                  obtain ⟨w, g1⟩ := wg
                  rw [hrd] at hst
                  obtain ⟨esz, ehr⟩ : sz = (w.length : Int) ∧ hr = .int (g1 : Int) := hst
                  subst esz ehr
                  have hd5 := sm5 _ _ hd4
                  refine iteT ⟨_, rfl, d, rfl, .inr ⟨kvs, .inl hd5⟩, _, rfl, _, rfl, (by show 2 ≤ sizeLine; decide), fun p3 np3 => ?_⟩
                  have s7 := same_new (o := .tup [.int (g1 : Int), .str (Ls.one c1)]) np3
                  refine ⟨(by show 2 ≤ sizeLine; decide), fun p4 np4 => ?_⟩
                  have s8 := same_new (o := .tup [.int 0, .non]) np4
                  have sA := Same.trans s7 s8
                  refine ⟨_, DGet.t (k := ckey (g1, c1)) (sA _ _ hd5) (s8 _ _ upd_same), ?_⟩
                  rcases hE4.get (g1, c1) with ⟨v1, w1, e7, e8, e9⟩ | ⟨e7, e8⟩
                  · rw [e7]
                    obtain ⟨pw, rfl, e9⟩ := e9
                    refine ⟨pw, _, _, rfl, sA _ _ (sm5 _ _ (off_some e9).2), sA, ?_⟩
                    show st (rd (look E3) [c1] (w, g1)) _ _
                    rw [rd_some e8]
                    exact ⟨by rw [List.length_append, Int.natCast_add], rfl⟩
                  · rw [e7]
                    refine ⟨p4, 0, .non, rfl, upd_same, sA, ?_⟩
                    show st (rd (look E3) [c1] (w, g1)) _ _
                    rw [rd_none e8]
                    try rfl
              · rintro σ H7 ⟨r, b, h2, rfl, hr2, s7, hst2⟩
                refine ⟨_, rfl, _, rfl, r, _, 0, _, rfl, rfl, SqT.of hr2, rfl, _, _, rfl, rfl, _, rfl, r, _, 1, _, rfl, rfl, SqT.of hr2, rfl, _, _, rfl, ?_⟩
                exact ⟨_, _, _, _, _, rfl, hst2, Same.trans sm5 s7⟩
            · rintro σ H5 ⟨s2, s6, s9, sz, hr, rfl, hst, sm5⟩
              have ett : m.2.1.take yw.cps.size = m.2.1 := List.take_of_length_le (by rw [ey]; simp)
              rw [ett] at hst
              refine ⟨_, rfl, rfl, _, rfl, ?_⟩
              have k5 := k4.trans (Keep.of sm5)
              have hd5 := sm5 _ _ hd4
              have hE5 := hE4.mono (Keep.of (S := [d]) sm5)
              cases hrd : rd (look E3) m.2.1 (m.1, m.2.2) with
              | none =>
                rw [hrd] at hst
                have hst : hr = .non := hst
                subst hst
                rw [lapOne_waits em hrd]
                exact iteF ⟨_, _, _, _, _, _, _, _, rfl, k5, ⟨kvs, hd5, hE5⟩, cl3⟩
              | some wg =>
                obtain ⟨w, g1⟩ := wg
                rw [hrd] at hst
                obtain ⟨esz, ehr⟩ : sz = (w.length : Int) ∧ hr = .int (g1 : Int) := hst
                subst esz ehr
                rw [lapOne_new e6 em hrd]
                refine iteT ⟨_, rfl, _, rfl, (by show 2 ≤ sizeLine; decide), fun p5 np5 => ?_⟩
                have s6 := same_new (o := .tup [.int (w.length : Int), .int (g1 : Int)]) np5
                have hp5 : upd H5 p5 (.tup [.int (w.length : Int), .int (g1 : Int)]) p5 = some (.tup [.int (w.length : Int), .int (g1 : Int)]) := upd_same
                revert s6 hp5
                generalize upd H5 p5 (.tup [.int (w.length : Int), .int (g1 : Int)]) = H6
                intro s6 hp5
                refine ⟨_, rfl, _, rfl, _, rfl, (by show 2 ≤ sizeLine; decide), fun p6 np6 => ?_⟩
                have s7 := same_new (o := .tup [.int (c.1 : Int), .str (Ls.one c.2)]) np6
                have hp6 : CallAt (upd H6 p6 (.tup [.int (c.1 : Int), .str (Ls.one c.2)])) p6 c := upd_same
                revert s7 hp6
                generalize upd H6 p6 (.tup [.int (c.1 : Int), .str (Ls.one c.2)]) = H7
                intro s7 hp6
                have s67 := Same.trans s6 s7
                have hd7 := s67 _ _ hd5
                have hp57 := s7 _ _ hp5
                have few := cl3.few ok
                refine ⟨d, _, rfl, DPut.t (k := ckey c) hd7 hp6.key (by rw [hE3.len]; exact Nat.lt_of_le_of_lt few (by decide)), ?_⟩
                have npn : p5 ∉ [d] := fun zz => by
                  rw [List.mem_singleton.1 zz, hd7] at hp57
                  cases hp57
                have kP : Keep [d] H7 (upd H7 d (.dT (putK kvs (ckey c) (.ref p5)))) := Keep.pot List.mem_cons_self
                refine ⟨_, _, _, _, _, _, _, _, rfl, k5.trans ((Keep.of s67).trans kP), ⟨_, upd_same, ((hE5.mono (Keep.of s67)).put e6 ⟨p5, rfl, off_of npn hp57⟩).mono kP⟩, .snoc cl3 e6 em hrd⟩
      · rintro σ H3 ⟨s2, s3, s4, s5, s6, s7, s8, s9, rfl, k3, hF3, cl3⟩
        refine ⟨_, _, _, _, _, _, _, _, rfl, from_ sH02 k3, ?_⟩
        rw [laps_snoc, eE]
        have el : cs.take ys.length = cs := by
          rw [hcv.len, List.take_length]
        rw [el] at hF3
        exact hF3
    · rintro σ H1 ⟨s2, s3, s4, s5, s6, s7, s8, s9, rfl, sH1, hF⟩
      exact ⟨_, rfl, q H1 d sH1 nd hF⟩
end
end K14

namespace K14
open PySem PySem.Spec PyProof.Rows L2 G Lk
section
variable {P : Program} {w : World} {K : PySem.W.Frag} {mg : Str → Option Value} {base : Heap}
def sp_Lsome_word (K : PySem.W.Frag) : Sp := fun vs H Q _ => ∃ (a c : Addr) (z : Str) (m : Int), vs = [.ref a, .str z, .int m] ∧ Pot K H a c ∧ 0 < z.length ∧ z.length ≤ 1000 ∧ 0 ≤ m ∧ m ≤ 1000 ∧
  ∀ (H' : Hp) (l : List Nat), Sm a H H' → Pot K H' a c → (l.length : Int) ≤ m → (∀ c ∈ l, c ∈ z.cps.toList) → Q (.str (tx l)) H'
/-- def _law_some_word(pot, signs, limit): -/
theorem ok_Lsome_word (T : Tx K mg) : FnOk P w K mg base CX0 4 T.a__law_some_word T.fd__law_some_word ["pot", "signs", "limit"] (sp_Lsome_word K) := by
  refine T.F__law_some_word.ok sc_Lsome_word (fun vs H Q E h => ?_) (fun cdv A outer s H vs Q E hr h => ?_)
  · obtain ⟨_, _, _, _, rfl, _⟩ := h
    rfl
  · refine ⟨_, (pss_one (ps_ret (pe_join pe_str (pe_lc (own := [("lap", 3)]) (g := gName 3) (by rfl) sc_Lsome_word.nd (pi_range1 (by rfl) T.z_range (pa_cons (pe_call (ok_Lbelow T) (hr.mono (by decide)) (by rfl) T.g__law_below T.F__law_below.kp T.b__law_below .nil pass0 (pa_cons (pv 0) (pa_cons (pe_op op_add (pv 2) pe_int) pa_nil))) pa_nil)) (blkOk_by (own := [("lap", 3)]) (N := N_Lsome_word) (sc := defScope s_Lsome_word) (by decide +kernel)) (fun _ _ _ _ _ => pg_name (i := 3) sc_Lsome_word.nd rfl (by first | exact Or.inl rfl | exact Or.inr rfl)) (fun _ _ _ _ _ => pts_nil) (fun _ _ _ _ _ => (pe_call (ok_Lpick T) (hr.mono (by decide)) (by rfl) T.g__law_pick T.F__law_pick.kp T.b__law_pick .nil pass0 (pa_cons (pv 0) (pa_cons (pv 1) pa_nil)))))))), ?_⟩
    obtain ⟨a, c, z, m, rfl, hp, z0, z1, m0, m1, q⟩ := h
    have hzl : z.length ≤ sizeLine := Nat.le_trans z1 (by decide)
    refine ⟨⟨_, rfl⟩, _, rfl, _, rfl, _, _, rfl, rfl, a, c, _, rfl, hp, by omega, by omega, fun H1 k sm1 hp1 k0 k1 => ?_⟩
    refine ⟨k, rfl, by omega, by omega, fun D nD => ?_⟩
    have nDa := hp1.ne nD
    refine lc_range (lo := 0) (n := k.toNat) (fun i H' => Sm a H1 H' ∧ PotAt H' a c ∧ ∃ l : List Nat, l.length = i ∧ (∀ c ∈ l, c ∈ z.cps.toList) ∧ H' D = some (.lst ((l.map fun c => tx [c]).map V.str))) ?_ ?_ ?_
    · exact ⟨Sm.new nD, hp1.at_.upd nDa, [], rfl, fun _ h => (List.not_mem_nil h).elim, upd_same⟩
    · rintro i H2 hi ⟨sm2, hp2, l, hl, hc, hD⟩
      refine ⟨rfl, _, rfl, _, rfl, ?_⟩
      refine ⟨a, c, .str z, sg z, rfl, hp1.to sm2 hp2, ?_, .inr (.inr ⟨z, rfl, rfl, hzl⟩), by rw [sg_len]; omega, fun H4 x sm4 hp4 hx => ?_⟩
      · intro e
        have := sg_len z
        rw [e] at this
        exact absurd this.symm (Nat.ne_of_gt z0)
      · obtain ⟨c, hcz, rfl⟩ : ∃ c, c ∈ z.cps.toList ∧ x = .str (tx [c]) := by
          unfold sg at hx
          obtain ⟨c, h1, h2⟩ := List.mem_map.mp hx
          exact ⟨c, h1, h2.symm⟩
        have hD4 : H4 D = some (.lst ((l.map fun c => tx [c]).map V.str)) := (sans_some (sm4 D _ (sans_of nDa hD))).2
        refine ⟨_, hD4, ?_, ?_, hp4.at_.upd nDa, l ++ [c], ?_, ?_, ?_⟩
        · rw [List.length_map, List.length_map, hl]
          refine Nat.lt_of_lt_of_le (show i < 1001 by omega) (by decide)
        · exact (sm2.trans sm4).upd (by rw [sans_ne nDa]; exact nD)
        · rw [List.length_append, hl]
          rfl
        · intro d hd
          rcases List.mem_append.mp hd with h | h
          · exact hc d h
          · rw [List.mem_singleton.mp h]
            exact hcz
        · rw [upd_same, List.map_append, List.map_append]
          rfl
    · rintro H2 ⟨sm2, hp2, l, hl, hc, hD⟩
      refine ⟨tx [], D, l.map fun c => tx [c], rfl, rfl, .inl (SqL.of hD), ?_, ?_⟩
      · rw [sum_ones]
        show _ + _ * 0 ≤ _
        omega
      · rw [join_empty, catS_ones]
        exact q _ l (sm1.trans sm2) (hp1.to sm2 hp2) (by omega) hc
end
end K14

namespace K14
open PySem PySem.Spec PyProof.Rows L2 G Lk
section
variable {P : Program} {w : World} {K : PySem.W.Frag} {mg : Str → Option Value} {base : Heap}
def sp_Lsome_expander (K : PySem.W.Frag) : Sp := fun vs H Q _ => ∃ (a c : Addr) (m : Int), vs = [.ref a, .int m] ∧ Pot K H a c ∧ 1 ≤ m ∧ m ≤ 4 ∧
  ∀ (H' : Hp) (v : V) (d : PyData), Sm a H H' → Pot K H' a c → Dq K (sans H' a) v d → ExpD d → Sized d → Q v H'
/-- def _law_some_expander(pot, many): -/
theorem ok_Lsome_expander (T : Tx K mg) : FnOk P w K mg base CX0 5 T.a__law_some_expander T.fd__law_some_expander ["pot", "many"] (sp_Lsome_expander K) := by
  refine T.F__law_some_expander.ok sc_Lsome_expander (fun vs H Q E h => ?_) (fun cdv A outer s H vs Q E hr h => ?_)
  · obtain ⟨_, _, _, rfl, _⟩ := h
    rfl
  · refine ⟨_, (pss_cons (ps_set (i := 2) sc_Lsome_expander.nd rfl (by first | exact Or.inl rfl | exact Or.inr rfl) (pe_call (ok_Lpick T) (hr.mono (by decide)) (by rfl) T.g__law_pick T.F__law_pick.kp T.b__law_pick .nil pass0 (pa_cons (pv 0) (pa_cons (pe_lst (pa_cons pe_str (pa_cons pe_str (pa_cons pe_str (pa_cons pe_str (pa_cons pe_str (pa_cons pe_str (pa_cons pe_str pa_nil)))))))) pa_nil))))
    (pss_cons (ps_par3 (i := 6) (j := 7) (l := 8) (by rfl) sc_Lsome_expander.nd rfl rfl rfl (by decide) (by decide) (by decide) rfl rfl rfl (pa_cons (pe_op op_add pe_int (pe_call (ok_Lbelow T) (hr.mono (by decide)) (by rfl) T.g__law_below T.F__law_below.kp T.b__law_below .nil pass0 (pa_cons (pv 0) (pa_cons (pv 1) pa_nil)))) (pa_cons (pe_call (ok_Lbelow T) (hr.mono (by decide)) (by rfl) T.g__law_below T.F__law_below.kp T.b__law_below .nil pass0 (pa_cons (pv 0) (pa_cons pe_int pa_nil))) (pa_cons (pe_lst pa_nil) pa_nil))) (by rfl))
    (pss_cons (ps_for PassesOwn.never rfl (pi_range1 (by rfl) T.z_range (pa_cons (pv 6) pa_nil)) (pg_name (i := 3) sc_Lsome_expander.nd rfl (by first | exact Or.inl rfl | exact Or.inr rfl))
      (pss_cons (ps_set (i := 9) sc_Lsome_expander.nd rfl (by first | exact Or.inl rfl | exact Or.inr rfl) (pe_lst pa_nil))
    (pss_cons (ps_for PassesOwn.never rfl (pi_str (pv 2)) (pg_name (i := 10) sc_Lsome_expander.nd rfl (by first | exact Or.inl rfl | exact Or.inr rfl))
      (C8.pss_cut (ps_set (i := 12) sc_Lsome_expander.nd rfl (by first | exact Or.inl rfl | exact Or.inr rfl) (pe_ifExp (PW.pt (pw_and (pt_cmpR op_gt (pv 7) pe_int (nomark _)) (pw_and1 (pt_cmpR op_eq (pe_call (ok_Lbelow T) (hr.mono (by decide)) (by rfl) T.g__law_below T.F__law_below.kp T.b__law_below .nil pass0 (pa_cons (pv 0) (pa_cons pe_int pa_nil))) pe_int (nomark _))))) (pe_call (ok_Lsome_word T) (hr.mono (by decide)) (by rfl) T.g__law_some_word T.F__law_some_word.kp T.b__law_some_word .nil pass0 (pa_cons (pv 0) (pa_cons (pv 2) (pa_cons pe_int pa_nil)))) pe_str))
    (pss_cons (ps_set (i := 13) sc_Lsome_expander.nd rfl (by first | exact Or.inl rfl | exact Or.inr rfl) (pe_call (ok_Lpick T) (hr.mono (by decide)) (by rfl) T.g__law_pick T.F__law_pick.kp T.b__law_pick .nil pass0 (pa_cons (pv 0) (pa_cons (pe_lst (pa_cons pe_str (pa_cons (pv 10) (pa_cons (pe_call (ok_Lsome_word T) (hr.mono (by decide)) (by rfl) T.g__law_some_word T.F__law_some_word.kp T.b__law_some_word .nil pass0 (pa_cons (pv 0) (pa_cons (pv 2) (pa_cons pe_int pa_nil)))) (pa_cons (pe_call (ok_Lsome_word T) (hr.mono (by decide)) (by rfl) T.g__law_some_word T.F__law_some_word.kp T.b__law_some_word .nil pass0 (pa_cons (pv 0) (pa_cons (pv 2) (pa_cons pe_int pa_nil)))) pa_nil))))) pa_nil))))
    (pss_cons (ps_set (i := 14) sc_Lsome_expander.nd rfl (by first | exact Or.inl rfl | exact Or.inr rfl) (pe_tup (pa_cons (pv 13) (pa_cons (pv 12) (pa_cons (pe_call (ok_Lbelow T) (hr.mono (by decide)) (by rfl) T.g__law_below T.F__law_below.kp T.b__law_below .nil pass0 (pa_cons (pv 0) (pa_cons (pv 6) pa_nil))) pa_nil)))))
    (pss_one (ps_expr (pe_bm PySem.F.plainAttrs_list PySem.F.slot_list_append PySem.F.type_list_append mt_append (pv 9) (pa_cons (pe_ifExp (pt_cmpR op_eq (pe_call (ok_Lbelow T) (hr.mono (by decide)) (by rfl) T.g__law_below T.F__law_below.kp T.b__law_below .nil pass0 (pa_cons (pv 0) (pa_cons pe_int pa_nil))) pe_int (nomark _)) pe_non (pv 14)) pa_nil))))))))
    (C8.pss_cut (ps_set (i := 11) sc_Lsome_expander.nd rfl (by first | exact Or.inl rfl | exact Or.inr rfl) (pe_ifExp (pt_cmpR op_eq (pe_call (ok_Lbelow T) (hr.mono (by decide)) (by rfl) T.g__law_below T.F__law_below.kp T.b__law_below .nil pass0 (pa_cons (pv 0) (pa_cons pe_int pa_nil))) pe_int (nomark _)) pe_non (pe_call (ok_Lsome_word T) (hr.mono (by decide)) (by rfl) T.g__law_some_word T.F__law_some_word.kp T.b__law_some_word .nil pass0 (pa_cons (pv 0) (pa_cons (pv 2) (pa_cons pe_int pa_nil))))))
    (pss_one (ps_expr (pe_bm PySem.F.plainAttrs_list PySem.F.slot_list_append PySem.F.type_list_append mt_append (pv 8) (pa_cons (pe_tup (pa_cons (pe_callTy call_tuple_of (by rfl) T.z_tuple (by decide +kernel) (pa_cons (pv 9) pa_nil)) (pa_cons (pv 11) pa_nil))) pa_nil))))))))
    (pss_cons (ps_set (i := 4) sc_Lsome_expander.nd rfl (by first | exact Or.inl rfl | exact Or.inr rfl) (pe_tup (pa_cons (pv 2) (pa_cons (pe_call (ok_Lsome_word T) (hr.mono (by decide)) (by rfl) T.g__law_some_word T.F__law_some_word.kp T.b__law_some_word .nil pass0 (pa_cons (pv 0) (pa_cons (pv 2) (pa_cons pe_int pa_nil)))) (pa_cons (pe_callTy call_tuple_of (by rfl) T.z_tuple (by decide +kernel) (pa_cons (pv 8) pa_nil)) pa_nil)))))
    (pss_cons (ps_set (i := 5) sc_Lsome_expander.nd rfl (by first | exact Or.inl rfl | exact Or.inr rfl) (pe_call (ok_Lsizes T) (hr.mono (by decide)) (by rfl) T.g__law_sizes T.F__law_sizes.kp T.b__law_sizes .nil pass0 (pa_cons (pv 4) pa_nil)))
    (C8.pss_cut (ps_if (PW.pt (pw_and (pt_cmpR (op_neT0 (unit0 hr.units)) (pv 5) pe_dnewT (nomark _)) (pw_and1 (pt_cmpR op_gt (pe_callB (cr_max rfl) (by rfl) T.z_max (by decide +kernel) (pa_cons (pe_lock (pe_lc (own := [("call", 15)]) (g := gName 15) (by rfl) sc_Lsome_expander.nd (pi_keys (pv 5)) (blkOk_by (own := [("call", 15)]) (N := N_Lsome_expander) (sc := defScope s_Lsome_expander) (by decide +kernel)) (fun _ _ _ _ _ => pg_name (i := 15) sc_Lsome_expander.nd rfl (by first | exact Or.inl rfl | exact Or.inr rfl)) (fun _ _ _ _ _ => pts_nil) (fun _ _ _ _ _ => (pe_ix (ix_tup : IxR _ (rIxT K)) (pe_dget (unit1 hr.units) (pv 5) (pv 15) (fun _ _ => rfl)) pe_int (fun _ _ => rfl))))) pa_nil)) pe_int (nomark _)))))
      (pss_one (ps_set (i := 4) sc_Lsome_expander.nd rfl (by first | exact Or.inl rfl | exact Or.inr rfl) (pe_tup (pa_cons (pv 2) (pa_cons (pe_ix ix_tup (pv 4) pe_int (fun _ _ => rfl)) (pa_cons (pe_callTy call_tuple_of (by rfl) T.z_tuple (by decide +kernel) (pa_cons (pe_lc (own := [("state", 3)]) (g := gName 3) (by rfl) sc_Lsome_expander.nd (pi_list (pv 8)) (blkOk_by (own := [("state", 3)]) (N := N_Lsome_expander) (sc := defScope s_Lsome_expander) (by decide +kernel)) (fun _ _ _ _ _ => pg_name (i := 3) sc_Lsome_expander.nd rfl (by first | exact Or.inl rfl | exact Or.inr rfl)) (fun _ _ _ _ _ => pts_nil) (fun _ _ _ _ _ => (pe_call (ok_Lplainer T) (hr.mono (by decide)) (by rfl) T.g__law_plainer T.F__law_plainer.kp T.b__law_plainer .nil pass0 (pa_cons (pv 3) pa_nil)))) pa_nil)) pa_nil))))))
      pss_nil)
    (pss_one (ps_ret (pv 4))))))))), ?_⟩
    obtain ⟨a, c, m, rfl, hp, m1, m4, q⟩ := h
    refine ⟨_, rfl, (by show 7 ≤ sizeLine; decide), fun l nl => ?_⟩
    refine ⟨a, c, .ref l, _, rfl, hp.new (o := .lst [.str "a", .str "ab", .str "ab", .str "bz", .str "abc", .str "ab", .str "abcz"]) nl, by simp, .inl ⟨l, rfl, SqL.of (sans_of (hp.ne nl) upd_same)⟩, by decide, fun H1 x sm1 hp1 hx => ?_⟩
    have sm1 := (Sm.new nl).trans sm1
    obtain ⟨z, rfl, hz⟩ : ∃ z, x = .str z ∧ SignsD z := by
      simp only [List.mem_cons, List.not_mem_nil, or_false] at hx
      rcases hx with rfl | rfl | rfl | rfl | rfl | rfl | rfl
      · exact ⟨_, rfl, signs_a⟩
      · exact ⟨_, rfl, signs_ab⟩
      · exact ⟨_, rfl, signs_ab⟩
      · exact ⟨_, rfl, signs_bz⟩
      · exact ⟨_, rfl, signs_abc⟩
      · exact ⟨_, rfl, signs_ab⟩
      · exact ⟨_, rfl, signs_abcz⟩
    obtain ⟨z1, z4, zc⟩ := hz.small
    have z1000 : z.length ≤ 1000 := by omega
    refine ⟨_, rfl, _, rfl, a, c, m, rfl, hp1, m1, by omega, fun H2 k sm2 hp2 k0 k1 => ?_⟩
    obtain ⟨k, rfl⟩ := Int.eq_ofNat_of_zero_le k0
    refine ⟨_, _, rfl, rfl, _, rfl, a, c, 4, rfl, hp2, by decide, by decide, fun H3 kind sm3 hp3 _ _ => ?_⟩
    have sm3 := (sm1.trans sm2).trans sm3
    refine ⟨Nat.zero_le _, fun S nS => ⟨_, _, _, rfl, ?_⟩⟩
    have Sa := hp3.ne nS
    have smS := sm3.trans (Sm.new (o := .lst []) nS)
    have hpS := hp3.new (o := .lst []) nS
    have gS : Grows K (upd H3 S (.lst [])) a S S 0 (StateD z (1 + k)) := Grows.new upd_same
    revert smS hpS gS
    generalize upd H3 S (.lst []) = H4
    intro smS hpS gS
    have hSa : S ≠ a := Sa
    have nS0 : sans H a S = none := by
      rw [sans_ne Sa]
      cases e : H S with
      | none => rfl
      | some o =>
        have := sm3.at_ Sa e
        rw [nS] at this
        cases this
    have en : (1 : Int) + ((k : Nat) : Int) = ((1 + k : Nat) : Int) := by omega
    refine ⟨_, rfl, _, rfl, by omega, by omega, ?_⟩
    rw [show ((1 : Int) + ((k : Nat) : Int)).toNat = 1 + k by omega]
    refine for_range (n := 1 + k) (fun i σ H' => ∃ s3 s9 s10 s11 s12 s13 s14 : Option V, σ = [some (.ref a), some (.int m), some (.str z), s3, none, none, some (.int (1 + (k : Int))), some (.int kind), some (.ref S), s9, s10, s11, s12, s13, s14, none] ∧ Sm a H H' ∧ Pot K H' a c ∧ Grows K H' a S S i (StateD z (1 + k)))
      ⟨_, _, _, _, _, _, _, rfl, smS, hpS, gS⟩ ?_ ?_
    · rintro i σ H5 hi ⟨s3, s9, s10, s11, s12, s13, s14, rfl, smA, hpA, gA⟩
      refine ⟨Nat.zero_le _, fun M nM => ?_⟩
      have Ma := hpA.ne nM
      have MS : S ≠ M := by
        obtain ⟨us, es, e, _⟩ := gA.it
        exact ne_of_none e nM
      have smM := Sm.new (a := a) (o := .lst []) nM
      have hpM := hpA.new (o := .lst []) nM
      have gM : Grows K (upd H5 M (.lst [])) a M S 0 (MoveD z (1 + k)) := Grows.new upd_same
      have nM' : sans H5 a M = none := by
        rw [sans_ne Ma]
        exact nM
      revert smM hpM gM
      generalize upd H5 M (.lst []) = H6
      intro smM hpM gM
      refine ⟨_, rfl, z, rfl, for_it walk_str (fun j σ H' => ∃ s10 s12 s13 s14 : Option V, σ = [some (.ref a), some (.int m), some (.str z), some (.int (0 + (i : Int))), none, none, some (.int (1 + (k : Int))), some (.int kind), some (.ref S), some (.ref M), s10, s11, s12, s13, s14, none] ∧ Sm a H5 H' ∧ Pot K H' a c ∧ Grows K H' a M S j (MoveD z (1 + k)))
        ⟨_, _, _, _, rfl, smM, hpM, gM⟩ (fun _ _ _ _ _ => trivial) ?_ ?_⟩
      · rintro j x σ H7 H8 hj ⟨s10, s12, s13, s14, rfl, smB, hpB, gB⟩ ⟨rfl, c1, hc1, rfl⟩
        have hc1z : c1 ∈ z.cps.toList := List.mem_of_getElem? (by simpa using hc1)
        refine ⟨fun σ H' => ∃ b : Str, WordOf z b 3 ∧ σ = [some (.ref a), some (.int m), some (.str z), some (.int (0 + (i : Int))), none, none, some (.int (1 + (k : Int))), some (.int kind), some (.ref S), some (.ref M), some (.str ⟨#[c1]⟩), s11, some (.str b), s13, s14, none] ∧ Sm a H8 H' ∧ Pot K H' a c, ?_, ?_⟩
        · refine ⟨_, rfl, _, _, rfl, rfl, _, rfl, ite2 (fun _ => ?_) (fun _ => ?_)⟩
          · refine ⟨_, rfl, a, c, 2, rfl, hpB, by decide, by decide, fun H9 k2 smk hpk _ _ => ⟨rfl, _, rfl, ite2 (fun _ => ?_) (fun _ => ?_)⟩⟩
            · exact ⟨_, rfl, _, rfl, a, c, z, 3, rfl, hpk, z1, z1000, by decide, by decide, fun H10 l smw hpw hl hc => ⟨tx l, word_tx (by omega) hc, rfl, smk.trans smw, hpw⟩⟩
            · exact ⟨"", word_empty z 3, rfl, smk, hpk⟩
          · exact iteF ⟨"", word_empty z 3, rfl, Sm.refl, hpB⟩
        · rintro σ H9 ⟨b, hb, rfl, smb, hpb⟩
          refine ⟨_, rfl, _, rfl, _, rfl, _, rfl, a, c, z, 2, rfl, hpb, z1, z1000, by decide, by decide, fun H10 l1 sm10 hp10 hl1 hk1 => ⟨_, rfl, _, rfl, a, c, z, 2, rfl, hp10, z1, z1000, by decide, by decide, fun H11 l2 sm11 hp11 hl2 hk2 => ⟨(by show 4 ≤ sizeLine; decide), fun L nL => ?_⟩⟩⟩
          refine ⟨a, c, .ref L, _, rfl, hp11.new (o := .lst [.str "", .str ⟨#[c1]⟩, .str (tx l1), .str (tx l2)]) nL, by simp, .inl ⟨L, rfl, SqL.of (sans_of (hp11.ne nL) upd_same)⟩, by show 4 < 1073741824; decide, fun H12 x sm12 hp12 hx => ?_⟩
          have smC := ((smb.trans (sm10.trans sm11)).trans (Sm.new nL)).trans sm12
          obtain ⟨y, rfl, hy⟩ : ∃ y, x = .str y ∧ WordOf z y 3 := by
            simp only [List.mem_cons, List.not_mem_nil, or_false] at hx
            rcases hx with rfl | rfl | rfl | rfl
            · exact ⟨_, rfl, word_empty z 3⟩
            · refine ⟨_, rfl, (by show 1 ≤ 3; decide), fun d hd => ?_⟩
              have hd' : d ∈ [c1] := hd
              rw [List.mem_singleton.mp hd']
              exact hc1z
            · exact ⟨_, rfl, word_tx (by omega) hk1⟩
            · exact ⟨_, rfl, word_tx (by omega) hk2⟩
          refine ⟨_, rfl, _, rfl, _, rfl, _, rfl, a, c, _, rfl, hp12, by omega, by omega, fun H13 g sm13 hp13 g0 g1 => ⟨(by show 3 ≤ sizeLine; decide), fun p np => ?_⟩⟩
          have smD := (smC.trans sm13)
          have smE := smB.trans smD
          obtain ⟨us0, es0, eM, _⟩ := (gB.sm Ma smD).it
          have pM : p ≠ M := (ne_of_none eM np).symm
          have pa := hp13.ne np
          obtain ⟨us1, es1, eS, _⟩ := (gA.sm hSa (smE)).it
          have pS : p ≠ S := (ne_of_none eS np).symm
          have gC := (gB.sm Ma smD).sm Ma (Sm.new (o := .tup [.str y, .str b, .int g]) np)
          have hpC := hp13.new (o := .tup [.str y, .str b, .int g]) np
          have smF := smE.trans (Sm.new (o := .tup [.str y, .str b, .int g]) np)
          have hT : SqT K (out3 (upd H13 p (.tup [.str y, .str b, .int g])) a M S) p [.str y, .str b, .int g] := out3_tup pa pM pS
          revert gC hpC smF hT
          generalize upd H13 p (.tup [.str y, .str b, .int g]) = H14
          intro gC hpC smF hT
          obtain ⟨g, rfl⟩ := Int.eq_ofNat_of_zero_le g0
          have fin : ∀ (H' : Hp) (x : V) (d : PyData), Sm a H14 H' → Pot K H' a c → Dq K (out3 H14 a M S) x d → MoveD z (1 + k) d → ∃ l xs w', V.ref M = .ref l ∧ [x] = [w'] ∧ H' l = some (.lst xs) ∧ xs.length < sizeLine ∧
              ∃ s10 s12 s13 s14 : Option V, [some (V.ref a), some (V.int m), some (V.str z), some (V.int (0 + (i : Int))), none, none, some (V.int (1 + (k : Int))), some (V.int kind), some (V.ref S), some (V.ref M), some (V.str ⟨#[c1]⟩), s11, some (V.str b), some (V.str y), some (V.ref p), none] = [some (.ref a), some (.int m), some (.str z), some (.int (0 + (i : Int))), none, none, some (.int (1 + (k : Int))), some (.int kind), some (.ref S), some (.ref M), s10, s11, s12, s13, s14, none] ∧
                Sm a H5 (upd H' l (.lst (xs ++ [w']))) ∧ Pot K (upd H' l (.lst (xs ++ [w']))) a c ∧ Grows K (upd H' l (.lst (xs ++ [w']))) a M S (j + 1) (MoveD z (1 + k)) := fun H' x d s hp' hx hG => by
            obtain ⟨us, e, lu, gD⟩ := (gC.sm Ma s).add Ma (hx.mono (out3_sm s)) hG
            have smG : Sm a H5 (upd H' M (.lst (us ++ [x]))) := (smF.trans s).upd nM'
            exact ⟨M, us, x, rfl, rfl, e, Nat.lt_of_le_of_lt (show us.length ≤ 4 by have : z.cps.size = z.length := rfl; omega) (by decide), _, _, _, _, rfl, smG, hpA.to smG (hp'.at_.upd Ma), gD⟩
          have hty : ∃ us, SqL K H14 M us := by
            obtain ⟨us, _, e, _⟩ := gC.it
            exact ⟨us, SqL.of e⟩
          refine ⟨_, rfl, .inl ⟨rfl, hty⟩, _, rfl, a, c, 8, rfl, hpC, by decide, by decide, fun H15 k8 sm15 hp15 _ _ => ⟨rfl, _, rfl, ite2 (fun _ => ?_) (fun _ => ⟨_, rfl, ?_⟩)⟩⟩
          · exact fin H15 .non .none sm15 hp15 .non (.inl rfl)
          · exact fin H15 (.ref p) (.tuple [.str y, .str b, .int (g : Int)]) sm15 hp15 (.tup hT (.cons (.str _) (.cons (.str _) (.cons (.int _) .nil)))) (.inr ⟨y, b, g, rfl, hy, hb, by omega⟩)
      · rintro σ H7 ⟨s10, s12, s13, s14, rfl, smB, hpB, gB⟩
        have gB : Grows K H7 a M S z.length (MoveD z (1 + k)) := gB
        refine ⟨fun σ H' => ∃ (lv : V) (ld : PyData), σ = [some (.ref a), some (.int m), some (.str z), some (.int (0 + (i : Int))), none, none, some (.int (1 + (k : Int))), some (.int kind), some (.ref S), some (.ref M), s10, some lv, s12, s13, s14, none] ∧ (∀ G : Hp, Dq K G lv ld) ∧ (ld = .none ∨ ∃ w, ld = .str w ∧ WordOf z w 3) ∧ Sm a H7 H' ∧ Pot K H' a c, ?_, ?_⟩
        · refine ⟨_, rfl, a, c, 5, rfl, hpB, by decide, by decide, fun H8 k5 sm8 hp8 _ _ => ⟨rfl, _, rfl, ite2 (fun _ => ?_) (fun _ => ?_)⟩⟩
          · exact ⟨.non, .none, rfl, fun _ => .non, .inl rfl, sm8, hp8⟩
          · exact ⟨_, rfl, _, rfl, a, c, z, 2, rfl, hp8, z1, z1000, by decide, by decide, fun H9 l sm9 hp9 hl hc => ⟨.str (tx l), .str (tx l), rfl, fun _ => .str _, .inr ⟨tx l, rfl, word_tx (by omega) hc⟩, sm8.trans sm9, hp9⟩⟩
        · rintro σ H8 ⟨lv, ld, rfl, hlv, hld, sm8, hp8⟩
          have smC := smB.trans sm8
          have gC := gB.sm Ma sm8
          obtain ⟨us, es, eM, lM, dM, qM⟩ := gC.it
          have hty : ∃ us, SqL K H8 S us := by
            obtain ⟨us, _, e, _⟩ := (gA.sm hSa smC).it
            exact ⟨us, SqL.of e⟩
          refine ⟨_, rfl, .inl ⟨rfl, hty⟩, _, rfl, M, us, rfl, .inl ⟨SqL.of eM, fun p np => ?_⟩⟩
          have pa := hp8.ne np
          have pM : p ≠ M := (ne_of_none eM np).symm
          obtain ⟨us1, es1, eS, _⟩ := (gA.sm hSa smC).it
          have pS : p ≠ S := (ne_of_none eS np).symm
          have hT1 : Dq K (out3 (upd H8 p (.tup us)) a M S) (.ref p) (.tuple es) := .tup (out3_tup pa pM pS) (dM.mono (out3_sm (Sm.new np)))
          have smD := smC.trans (Sm.new (o := .tup us) np)
          have hpD := hp8.new (o := .tup us) np
          have eS1 : upd H8 p (.tup us) S = some (.lst us1) := (upd_ne pS.symm).trans eS
          have eM1 : upd H8 p (.tup us) M = some (.lst us) := (upd_ne pM.symm).trans eM
          revert hT1 smD hpD eS1 eM1
          generalize upd H8 p (.tup us) = H9
          intro hT1 smD hpD eS1 eM1
          refine ⟨_, rfl, (by show 2 ≤ sizeLine; decide), fun r nr => ?_⟩
          have ra := hpD.ne nr
          have rS : r ≠ S := (ne_of_none eS1 nr).symm
          have rM : r ≠ M := (ne_of_none eM1 nr).symm
          have hT2 : Dq K (out3 (upd H9 r (.tup [.ref p, lv])) a M S) (.ref r) (.tuple [.tuple es, ld]) := .tup (out3_tup ra rM rS) (.cons (hT1.mono (out3_sm (Sm.new nr))) (.cons (hlv _) .nil))
          have smE := smD.trans (Sm.new (o := .tup [.ref p, lv]) nr)
          have hpE := hpD.new (o := .tup [.ref p, lv]) nr
          revert hT2 smE hpE
          generalize upd H9 r (.tup [.ref p, lv]) = H10
          intro hT2 smE hpE
          have hst : StateD z (1 + k) (.tuple [.tuple es, ld]) := ⟨es, ld, rfl, by rw [← dM.length]; exact lM, qM, hld⟩
          obtain ⟨us2, e2, l2, gE⟩ := (gA.sm hSa smE).add hSa (hT2.mono out3_swap) hst
          refine ⟨S, us2, _, rfl, rfl, e2, Nat.lt_of_le_of_lt (show us2.length ≤ 4 by omega) (by decide), ?_⟩
          have smZ : Sm a H (upd H10 S (.lst (us2 ++ [.ref r]))) := (smA.trans smE).upd nS0
          exact ⟨_, _, _, _, _, _, _, rfl, smZ, hp.to smZ (hpE.at_.upd hSa), gE⟩
    · rintro σ H5 ⟨s3, s9, s10, s11, s12, s13, s14, rfl, smA, hpA, gA⟩
      refine ⟨_, rfl, _, rfl, _, rfl, a, c, z, 2, rfl, hpA, z1, z1000, by decide, by decide, fun H6 l sm6 hp6 hl6 hc6 => ?_⟩
      obtain ⟨us, es, eS, lS, dS, qS⟩ := (gA.sm hSa sm6).it
      refine ⟨_, rfl, S, us, rfl, .inl ⟨SqL.of eS, fun p np => ?_⟩⟩
      have s7 := same_new (o := .tup us) np
      refine ⟨(by show 3 ≤ sizeLine; decide), fun r nr => ?_⟩
      have s8 := same_new (o := .tup [.str z, .str (tx l), .ref p]) nr
      have les : es.length = 1 + k := by rw [← dS.length]; exact lS
      have hS6 : DqAll K H6 us es := ((dS.mono sans_same).mono sans_same).mono sans_same
      have dq8 : Dq K (upd (upd H6 p (.tup us)) r (.tup [.str z, .str (tx l), .ref p])) (.ref r) (.tuple [.str z, .str (tx l), .tuple es]) :=
        .tup (SqT.of upd_same) (.cons (.str _) (.cons (.str _) (.cons (.tup (SqT.of (s8 _ _ upd_same)) (hS6.mono (Same.trans s7 s8))) .nil)))
      have hr8 : upd (upd H6 p (.tup us)) r (.tup [.str z, .str (tx l), .ref p]) r = some (.tup [.str z, .str (tx l), .ref p]) := upd_same
      have sA := Same.trans s7 s8
      have eS8 := sA _ _ eS
      have hS8 := hS6.mono sA
      have sm8 := (smA.trans sm6).trans (Sm.of sA)
      have hp8 := hp6.same sA
      revert dq8 hr8 eS8 hS8 sm8 hp8
      generalize upd (upd H6 p (.tup us)) r (.tup [.str z, .str (tx l), .ref p]) = H8
      intro dq8 hr8 eS8 hS8 sm8 hp8
      have hx8 : ExpD (.tuple [.str z, .str (tx l), .tuple es]) := ⟨z, tx l, es, rfl, hz, word_tx (by omega) hc6, by omega, by omega, fun s hs => by rw [les]; exact qS s hs⟩
      refine ⟨_, rfl, _, z, tx l, es, rfl, dq8, hx8.states, fun H9 d s9 nd hsz => ?_⟩
      have ok8 := hx8.states
      have hvals := fun c w => laps_vals ok8 (c := c) (w := w)
      have clE : Closed z es (laps z es (callsOf z es.length) (callsOf z es.length).length []) := Closed.laps _ .nil
      generalize laps z es (callsOf z es.length) (callsOf z es.length).length [] = E at hsz hvals clE
      obtain ⟨kvs, hd9, hkv⟩ := hsz
      have lE := clE.few ok8
      have lk := hkv.len
      have sm9 := sm8.trans (Sm.of s9)
      have hp9 := hp8.same s9
      have fin : ∀ (H' : Hp) (v : V) (e : PyData), Same H9 H' → Dq K H' v e → ExpD e → Sized e → Dq K (sans H' a) v e ∧ ExpD e ∧ Sized e ∧ Sm a H H' ∧ Pot K H' a c := fun H' v e s hv he hsd => by
        have hp' := hp9.same s
        obtain ⟨x, y, w', e0⟩ := hp'.at_
        exact ⟨hv.out e0 he.flat, he, hsd, sm9.trans (Sm.of s), hp'⟩
      refine ⟨fun σ H' => ∃ (v : V) (e : PyData) (s3 s5 s9 s10 s11 s12 s13 s14 : Option V), σ = [some (.ref a), some (.int m), some (.str z), s3, some v, s5, some (.int (1 + (k : Int))), some (.int kind), some (.ref S), s9, s10, s11, s12, s13, s14, none] ∧ Dq K (sans H' a) v e ∧ ExpD e ∧ Sized e ∧ Sm a H H' ∧ Pot K H' a c, ?_, ?_⟩
      · refine ⟨_, rfl, fun p1 np1 => ?_⟩
        have s10 := same_new (o := .dT []) np1
        have hd10 := s10 _ _ hd9
        refine ⟨d, p1, kvs, rfl, rfl, hd10, upd_same, _, rfl, ?_⟩
        revert s10 hd10
        generalize upd H9 p1 (.dT []) = H10
        intro s10 hd10
        have dq10 := dq8.mono (Same.trans s9 s10)
        cases hem : kvs.isEmpty with
        | true =>
          refine iteF (iteF ⟨_, _, _, _, _, _, _, _, _, _, rfl, fin H10 _ _ s10 dq10 hx8 fun z' f' ss' e c w hw => ?_⟩)
          cases e
          have e1 := (hvals c w).1 hw
          have e2 : E = [] := by
            cases kvs with
            | nil =>
              cases E with
              | nil => rfl
              | cons _ _ => cases lk
            | cons _ _ => cases hem
          rw [e2] at e1
          cases e1
        | false =>
          refine iteT ⟨d, .dT kvs, hd10, trivial, fun od => ?_⟩
          have hF : upd H10 d (.frz od (.dT kvs)) d = some (.frz od (.dT kvs)) := upd_same
          have oF : ∀ b o, b ≠ d → H10 b = some o → upd H10 d (.frz od (.dT kvs)) b = some o := fun b o n e => (upd_ne n).trans e
          revert hF oF
          generalize upd H10 d (.frz od (.dT kvs)) = HF
          intro hF oF
          refine ⟨_, rfl, d, od, rfl, .inr ⟨kvs, hF, fun D nD => ?_⟩⟩
          have nDd : D ≠ d := fun e => by
            rw [e, hF] at nD
            cases nD
          refine lc_it walk_keysT (fun j H' => Same HF H' ∧ H' D = some (.lst (((E.take j).map fun e => (e.2.1.length : Int)).map V.int))) ⟨same_new nD, upd_same⟩ (fun _ _ _ p => p.1 _ _ hF) ?_ ?_
          · rintro j x H11 H12 hj ⟨s12, hD⟩ ⟨rfl, kk, w0, q0, hk, rfl, hq⟩
            obtain ⟨c, w, he, ek, _⟩ := hkv.at_ hk
            have ek : kk = ckey c := ek
            subst ek
            rcases hkv.get c with ⟨vv, ww, e5, e6, e7⟩ | ⟨e5, e6⟩
            · rw [clE.lookup ok8 (List.mem_of_getElem? he)] at e6
              cases e6
              obtain ⟨p2, e1, e2⟩ := e7
              obtain ⟨n2, e2⟩ := off_some e2
              have e3 := s12 _ _ (oF _ _ (fun zz => n2 (List.mem_singleton.2 zz)) (s10 _ _ e2))
              refine ⟨rfl, _, rfl, _, rfl, d, vv, rfl, .inr ⟨kvs, _, q0, .inr ⟨od, s12 _ _ hF⟩, rfl, hq, e5.symm⟩, p2, _, 0, _, e1, rfl, SqT.of e3, rfl, _, hD, ?_, ?_, ?_⟩
              · rw [List.length_map, List.length_map, List.length_take]
                exact Nat.lt_of_le_of_lt (Nat.min_le_right _ _) (Nat.lt_of_le_of_lt lE (by decide))
              · exact fun b o e => (upd_ne (ne_of_none e nD)).trans (s12 b o e)
              · rw [upd_same, take_entry he, List.map_append, List.map_append]
                rfl
            · rw [clE.lookup ok8 (List.mem_of_getElem? he)] at e6
              cases e6
          · rintro H11 ⟨s11, hD⟩
            rw [lk, List.take_length] at hD
            refine ⟨s11 _ _ hF, D, _, rfl, SqL.of ((upd_ne nDd).trans hD), ?_, fun mx _ hle => ?_⟩
            · rw [List.length_map, ← lk]
              cases kvs with
              | nil => cases hem
              | cons _ _ => exact Nat.succ_pos _
            · have s12 : Same H9 (upd H11 d (.dT kvs)) := fun b o e => by
                by_cases n : b = d
                · rw [n] at e ⊢
                  rw [hd9] at e
                  rw [upd_same]
                  exact e
                · exact (upd_ne n).trans (s11 _ _ (oF _ _ n (s10 _ _ e)))
              revert s12
              generalize upd H11 d (.dT kvs) = H12
              intro s12
              have dq12 := dq8.mono (Same.trans s9 s12)
              refine ⟨_, _, rfl, rfl, _, rfl, ite2 (fun _ => ?_) (fun small => ?_)⟩
              · have hr12 := s12 _ _ (s9 _ _ hr8)
                have eS12 := s12 _ _ (s9 _ _ eS8)
                have hS12 := hS8.mono (Same.trans s9 s12)
                refine ⟨_, rfl, _, rfl, r, _, 1, _, rfl, rfl, SqT.of hr12, rfl, _, rfl, S, rfl, ⟨_, SqL.of eS12⟩, fun D2 nD2 => ?_⟩
                refine lc_list (xs := us) (fun j H' => Same H12 H' ∧ ∃ vs ds, H' D2 = some (.lst vs) ∧ vs.length = j ∧ DqAll K (sans H' D2) vs ds ∧ ∀ d ∈ ds, StateD z (1 + k) d ∧ PlainS d) ⟨same_new nD2, [], [], upd_same, rfl, .nil, fun _ h => (List.not_mem_nil h).elim⟩ (fun _ _ _ p => SqL.of (p.1 _ _ eS12)) ?_ ?_
                · rintro j x H13 hx ⟨s13, vs, ds, hD2, lv, hA, hG⟩
                  obtain ⟨dx, _, hdx, _, hqx⟩ := dqAll_get' (hS12.mono s13) hx
                  have hj : j < us.length := (List.getElem?_eq_some_iff.mp hx).1
                  refine ⟨rfl, _, rfl, x, dx, z, 1 + k, rfl, hqx, qS dx hdx, z4, fun H14 v' d' s14 hv' hs' hp' => ?_⟩
                  have e14 := s14 _ _ hD2
                  have smP : Sm D2 H14 (upd H14 D2 (.lst (vs ++ [v']))) := Sm.pot
                  refine ⟨vs, e14, ?_, fun b o e => (upd_ne (ne_of_none e nD2)).trans (s14 _ _ (s13 b o e)), vs ++ [v'], ds ++ [d'], upd_same, ?_, ?_, ?_⟩
                  · rw [lv]
                    exact Nat.lt_of_lt_of_le (show j < 300 by omega) (by decide)
                  · rw [List.length_append, lv]
                    rfl
                  · exact ((hA.mono (Sm.of s14)).mono smP).append (.cons ((hv'.out e14 hs'.flat).mono smP) .nil)
                  · intro e he
                    rcases List.mem_append.mp he with h | h
                    · exact hG e h
                    · rw [List.mem_singleton.mp h]
                      exact ⟨hs', hp'⟩
                · rintro H13 ⟨s13, vs, ds, hD2, lv, hA, hG⟩
                  refine ⟨D2, vs, rfl, .inl ⟨SqL.of hD2, fun p2 np2 => ?_⟩⟩
                  have s14 := same_new (o := .tup vs) np2
                  refine ⟨(by show 3 ≤ sizeLine; decide), fun r2 nr2 => ?_⟩
                  have s15 := same_new (o := .tup [.str z, .str (tx l), .ref p2]) nr2
                  have lds : ds.length = 1 + k := by rw [← hA.length, lv, lS]
                  have hA' : DqAll K H13 vs ds := hA.mono sans_same
                  have dq15 : Dq K (upd (upd H13 p2 (.tup vs)) r2 (.tup [.str z, .str (tx l), .ref p2])) (.ref r2) (.tuple [.str z, .str (tx l), .tuple ds]) :=
                    .tup (SqT.of upd_same) (.cons (.str _) (.cons (.str _) (.cons (.tup (SqT.of (s15 _ _ upd_same)) (hA'.mono (Same.trans s14 s15))) .nil)))
                  exact ⟨_, _, _, _, _, _, _, _, _, _, rfl, fin _ _ _ (Same.trans s12 (Same.trans s13 (Same.trans s14 s15))) dq15 ⟨z, tx l, ds, rfl, hz, word_tx (by omega) hc6, by omega, by omega, fun s hs => by rw [lds]; exact (hG s hs).1⟩ fun z' f' ss' e c w hw => by
                    cases e
                    exact plain_sized (fun s hs => (hG s hs).1) (fun s hs => (hG s hs).2) hw⟩
              · exact ⟨_, _, _, _, _, _, _, _, _, _, rfl, fin H12 _ _ s12 dq12 hx8 fun z' f' ss' e c w hw => by
                  cases e
                  have e1 := look_mem ((hvals c w).1 hw)
                  have e2 := hle (w.1.length : Int) (List.mem_map.2 ⟨_, e1, rfl⟩)
                  have e3 : ¬ (30 : Int) < mx := fun h => small (decide_eq_true h)
                  omega⟩
      · rintro σ H10 ⟨v, e, s3, s5, s9, s10, s11, s12, s13, s14, rfl, dq, he, hsd, sm, hpq⟩
        exact ⟨_, rfl, q H10 v e sm hpq dq he hsd⟩
end
end K14

namespace K14
open PySem PySem.Spec PyProof.Rows L2 G Lk
section
variable {P : Program} {w : World} {K : PySem.W.Frag} {mg : Str → Option Value} {base : Heap}
def sp_Lspoilt (K : PySem.W.Frag) : Sp := fun vs H Q _ => ∃ (a c : Addr) (v : V) (d : PyData), vs = [.ref a, v] ∧ Pot K H a c ∧ Dq K (sans H a) v d ∧ ExpD d ∧
  ∀ (H' : Hp) (v' : V) (d' : PyData), Sm a H H' → Pot K H' a c → Dq K (sans H' a) v' d' → Bad 8 1000000 d' → Q v' H'
/-- def _law_spoilt(pot, expander): -/
theorem ok_Lspoilt (T : Tx K mg) : FnOk P w K mg base CX0 4 T.a__law_spoilt T.fd__law_spoilt ["pot", "expander"] (sp_Lspoilt K) := by
  refine T.F__law_spoilt.ok sc_Lspoilt (fun vs H Q E h => ?_) (fun cdv A outer s H vs Q E hr h => ?_)
  · obtain ⟨_, _, _, _, rfl, _⟩ := h
    rfl
  · refine ⟨_, (pss_cons (ps_asg (pv 1) (pg_tup rfl (pgs_cons (pg_name (i := 4) sc_Lspoilt.nd rfl (by first | exact Or.inl rfl | exact Or.inr rfl)) (pgs_cons (pg_name (i := 5) sc_Lspoilt.nd rfl (by first | exact Or.inl rfl | exact Or.inr rfl)) (pgs_cons (pg_name (i := 6) sc_Lspoilt.nd rfl (by first | exact Or.inl rfl | exact Or.inr rfl)) pgs_nil)))))
    (pss_cons (ps_par (i := 7) (j := 8) (by rfl) sc_Lspoilt.nd rfl rfl (by decide) rfl rfl (pa_cons (pe_call (ok_Lbelow T) (hr.mono (by decide)) (by rfl) T.g__law_below T.F__law_below.kp T.b__law_below .nil pass0 (pa_cons (pv 0) (pa_cons pe_int pa_nil))) (pa_cons (pe_call (ok_Lbelow T) (hr.mono (by decide)) (by rfl) T.g__law_below T.F__law_below.kp T.b__law_below .nil pass0 (pa_cons (pv 0) (pa_cons (pe_callB call_len_seq (by rfl) T.z_len PySem.boot_len (pa_cons (pv 6) pa_nil)) pa_nil))) pa_nil)) (by rfl))
    (pss_cons (ps_set (i := 2) sc_Lspoilt.nd rfl (by first | exact Or.inl rfl | exact Or.inr rfl) (pe_call (ok_Lpick T) (hr.mono (by decide)) (by rfl) T.g__law_pick T.F__law_pick.kp T.b__law_pick .nil pass0 (pa_cons (pv 0) (pa_cons (pe_lst (pa_cons pe_non (pa_cons pe_int (pa_cons pe_str (pa_cons pe_str (pa_cons (pe_lst (pa_cons pe_str pa_nil)) (pa_cons (pe_tup (pa_cons pe_str pa_nil)) (pa_cons pe_bl (pa_cons pe_str (pa_cons (pe_op op_mulS pe_str pe_int) (pa_cons pe_str (pa_cons pe_dnewK pa_nil)))))))))))) pa_nil))))
    (pss_cons (ps_if (pt_cmpR op_eq (pv 7) pe_int (nomark _))
      (pss_cons (ps_set (i := 9) sc_Lspoilt.nd rfl (by first | exact Or.inl rfl | exact Or.inr rfl) (pe_lst (pa_cons pe_non (pa_cons (pe_slice sl_tupA (pv 1) po_none (po_some pe_int)) (pa_cons (pe_callTy call_list_of (by rfl) T.z_list (by decide +kernel) (pa_cons (pv 1) pa_nil)) (pa_cons (pe_op op_catA (pv 1) (pe_tup (pa_cons (pe_tup pa_nil) pa_nil))) (pa_cons (pv 6) (pa_cons pe_dnewK pa_nil))))))))
    (pss_one (ps_ret (pe_call (ok_Lpick T) (hr.mono (by decide)) (by rfl) T.g__law_pick T.F__law_pick.kp T.b__law_pick .nil pass0 (pa_cons (pv 0) (pa_cons (pe_op op_cat (pv 9) (pe_lst (pa_cons (pe_tup (pa_cons (pv 4) (pa_cons (pv 5) (pa_cons (pe_callTy call_list_of (by rfl) T.z_list (by decide +kernel) (pa_cons (pv 6) pa_nil)) pa_nil)))) pa_nil))) pa_nil))))))
      pss_nil)
    (pss_cons (ps_if (pt_cmpR op_eq (pv 7) pe_int (nomark _))
      (pss_cons (ps_set (i := 9) sc_Lspoilt.nd rfl (by first | exact Or.inl rfl | exact Or.inr rfl) (pe_lst (pa_cons (pe_op op_add_str (pe_revS (pv 4)) pe_str) (pa_cons pe_str (pa_cons pe_str (pa_cons (pe_op op_add_str (pv 4) (pv 4)) (pa_cons pe_str (pa_cons (pe_tup (pa_cons pe_str (pa_cons pe_str pa_nil))) (pa_cons pe_non (pa_cons pe_str pa_nil))))))))))
    (pss_one (ps_ret (pe_tup (pa_cons (pe_call (ok_Lpick T) (hr.mono (by decide)) (by rfl) T.g__law_pick T.F__law_pick.kp T.b__law_pick .nil pass0 (pa_cons (pv 0) (pa_cons (pv 9) pa_nil))) (pa_cons (pv 5) (pa_cons (pv 6) pa_nil)))))))
      pss_nil)
    (pss_cons (ps_if (pt_cmpR op_eq (pv 7) pe_int (nomark _))
      (pss_one (ps_ret (pe_tup (pa_cons (pv 4) (pa_cons (pv 2) (pa_cons (pv 6) pa_nil))))))
      pss_nil)
    (pss_cons (ps_if (pt_cmpR op_eq (pv 7) pe_int (nomark _))
      (pss_cons (ps_set (i := 9) sc_Lspoilt.nd rfl (by first | exact Or.inl rfl | exact Or.inr rfl) (pe_lst (pa_cons (pe_tup pa_nil) (pa_cons (pe_op op_repT (pv 6) pe_int) (pa_cons (pe_op op_catA (pv 6) (pe_tup (pa_cons pe_non pa_nil))) (pa_cons (pe_op op_catA (pe_op op_catA (pe_slice sl_tupA (pv 6) po_none (po_some (pv 8))) (pe_tup (pa_cons (pv 2) pa_nil))) (pe_slice sl_tupA (pv 6) (po_some (pv 8)) po_none)) (pa_cons (pe_ix ix_tup (pv 6) pe_int (fun _ _ => rfl)) pa_nil)))))))
    (pss_one (ps_ret (pe_tup (pa_cons (pv 4) (pa_cons (pv 5) (pa_cons (pe_call (ok_Lpick T) (hr.mono (by decide)) (by rfl) T.g__law_pick T.F__law_pick.kp T.b__law_pick .nil pass0 (pa_cons (pv 0) (pa_cons (pv 9) pa_nil))) pa_nil)))))))
      pss_nil)
    (pss_cons (ps_asg (pe_ix ix_tup (pv 6) (pv 8) (fun _ _ => rfl)) (pg_tup rfl (pgs_cons (pg_name (i := 10) sc_Lspoilt.nd rfl (by first | exact Or.inl rfl | exact Or.inr rfl)) (pgs_cons (pg_name (i := 11) sc_Lspoilt.nd rfl (by first | exact Or.inl rfl | exact Or.inr rfl)) pgs_nil))))
    (pss_cons (ps_set (i := 3) sc_Lspoilt.nd rfl (by first | exact Or.inl rfl | exact Or.inr rfl) (pe_call (ok_Lbelow T) (hr.mono (by decide)) (by rfl) T.g__law_below T.F__law_below.kp T.b__law_below .nil pass0 (pa_cons (pv 0) (pa_cons (pe_callB call_len_seq (by rfl) T.z_len PySem.boot_len (pa_cons (pv 10) pa_nil)) pa_nil))))
    (C8.pss_cut (ps_if (pt_cmpR op_eq (pv 7) pe_int (nomark _))
      (pss_cons (ps_set (i := 9) sc_Lspoilt.nd rfl (by first | exact Or.inl rfl | exact Or.inr rfl) (pe_lst (pa_cons (pe_tup (pa_cons (pv 10) (pa_cons (pv 2) pa_nil))) (pa_cons (pe_tup (pa_cons (pe_callTy call_list_of (by rfl) T.z_list (by decide +kernel) (pa_cons (pv 10) pa_nil)) (pa_cons (pv 11) pa_nil))) (pa_cons (pe_tup (pa_cons (pe_slice sl_tupA (pv 10) (po_some pe_int) po_none) (pa_cons (pv 11) pa_nil))) (pa_cons (pe_tup (pa_cons (pe_op op_catA (pv 10) (pe_tup (pa_cons pe_non pa_nil))) (pa_cons (pv 11) pa_nil))) (pa_cons (pe_tup (pa_cons (pv 10) pa_nil)) pa_nil)))))))
    (pss_one (ps_set (i := 12) sc_Lspoilt.nd rfl (by first | exact Or.inl rfl | exact Or.inr rfl) (pe_call (ok_Lpick T) (hr.mono (by decide)) (by rfl) T.g__law_pick T.F__law_pick.kp T.b__law_pick .nil pass0 (pa_cons (pv 0) (pa_cons (pe_op op_cat (pv 9) (pe_lst (pa_cons (pe_lst (pa_cons (pv 10) (pa_cons (pv 11) pa_nil))) (pa_cons (pe_tup (pa_cons (pv 10) (pa_cons (pv 11) (pa_cons (pv 11) pa_nil)))) (pa_cons (pe_tup (pa_cons (pv 10) (pa_cons (pv 11) (pa_cons pe_non pa_nil)))) pa_nil))))) pa_nil))))))
      (pss_one (ps_if (PW.pt (pw_or (pt_cmpR op_eq (pv 7) pe_int (nomark _)) (pw_or1 (pt_cmpR op_isN (pe_ix ix_tup (pv 10) (pv 3) (fun _ _ => rfl)) pe_non (nomark _)))))
      (pss_one (ps_set (i := 12) sc_Lspoilt.nd rfl (by first | exact Or.inl rfl | exact Or.inr rfl) (pe_tup (pa_cons (pe_op op_catA (pe_op op_catA (pe_slice sl_tupA (pv 10) po_none (po_some (pv 3))) (pe_tup (pa_cons (pe_call (ok_Lpick T) (hr.mono (by decide)) (by rfl) T.g__law_pick T.F__law_pick.kp T.b__law_pick .nil pass0 (pa_cons (pv 0) (pa_cons (pe_lst (pa_cons (pv 2) (pa_cons (pe_tup (pa_cons pe_str (pa_cons pe_str (pa_cons (pe_callB call_len_seq (by rfl) T.z_len PySem.boot_len (pa_cons (pv 6) pa_nil)) pa_nil)))) (pa_cons (pe_tup (pa_cons pe_str (pa_cons pe_str pa_nil))) pa_nil)))) pa_nil))) pa_nil))) (pe_slice sl_tupA (pv 10) (po_some (pe_op op_add (pv 3) pe_int)) po_none)) (pa_cons (pv 11) pa_nil)))))
      (pss_cons (ps_par (i := 13) (j := 14) (by rfl) sc_Lspoilt.nd rfl rfl (by decide) rfl rfl (pa_cons (pe_call (ok_Lbelow T) (hr.mono (by decide)) (by rfl) T.g__law_below T.F__law_below.kp T.b__law_below .nil pass0 (pa_cons (pv 0) (pa_cons pe_int pa_nil))) (pa_cons (pe_callTy call_list_of (by rfl) T.z_list (by decide +kernel) (pa_cons (pe_ix ix_tup (pv 10) (pv 3) (fun _ _ => rfl)) pa_nil)) pa_nil)) (by rfl))
    (pss_cons (ps_asg (pe_call (ok_Lpick T) (hr.mono (by decide)) (by rfl) T.g__law_pick T.F__law_pick.kp T.b__law_pick .nil pass0 (pa_cons (pv 0) (pa_cons (pe_lst (pa_cons (pv 2) (pa_cons (pv 2) (pa_cons (pe_callB call_len_seq (by rfl) T.z_len PySem.boot_len (pa_cons (pv 6) pa_nil)) (pa_cons (pe_op op_sub pe_int pe_int) (pa_cons pe_bl (pa_cons pe_str pa_nil))))))) pa_nil))) (pg_sub (pv 14) (pv 13) set_list))
    (pss_cons (ps_set (i := 9) sc_Lspoilt.nd rfl (by first | exact Or.inl rfl | exact Or.inr rfl) (pe_lst (pa_cons (pe_callTy call_tuple_of (by rfl) T.z_tuple (by decide +kernel) (pa_cons (pv 14) pa_nil)) (pa_cons (pe_callTy call_tuple_of (by rfl) T.z_tuple (by decide +kernel) (pa_cons (pv 14) pa_nil)) (pa_cons (pe_callTy call_list_of (by rfl) T.z_list (by decide +kernel) (pa_cons (pe_ix ix_tup (pv 10) (pv 3) (fun _ _ => rfl)) pa_nil)) (pa_cons (pe_op op_catA (pe_ix ix_tup (pv 10) (pv 3) (fun _ _ => rfl)) (pe_tup (pa_cons pe_int pa_nil))) (pa_cons (pe_op op_catA (pe_ix ix_tup (pv 10) (pv 3) (fun _ _ => rfl)) (pe_tup (pa_cons pe_str pa_nil))) pa_nil)))))))
    (pss_one (ps_set (i := 12) sc_Lspoilt.nd rfl (by first | exact Or.inl rfl | exact Or.inr rfl) (pe_tup (pa_cons (pe_op op_catA (pe_op op_catA (pe_slice sl_tupA (pv 10) po_none (po_some (pv 3))) (pe_tup (pa_cons (pe_call (ok_Lpick T) (hr.mono (by decide)) (by rfl) T.g__law_pick T.F__law_pick.kp T.b__law_pick .nil pass0 (pa_cons (pv 0) (pa_cons (pv 9) pa_nil))) pa_nil))) (pe_slice sl_tupA (pv 10) (po_some (pe_op op_add (pv 3) pe_int)) po_none)) (pa_cons (pv 11) pa_nil)))))))))))
    (pss_one (ps_ret (pe_tup (pa_cons (pv 4) (pa_cons (pv 5) (pa_cons (pe_op op_catA (pe_op op_catA (pe_slice sl_tupA (pv 6) po_none (po_some (pv 8))) (pe_tup (pa_cons (pv 12) pa_nil))) (pe_slice sl_tupA (pv 6) (po_some (pe_op op_add (pv 8) pe_int)) po_none)) pa_nil)))))))))))))))), ?_⟩
    obtain ⟨a, c, v, d, rfl, hp, hd, ⟨z, f, ss, rfl, hz, hf, l1, l4, hss⟩, q⟩ := h
    obtain ⟨z1, z4, zc⟩ := hz.small
    obtain ⟨e, t, xs, rfl, ht, hts, hA⟩ := expV_of hd
    have hl := hA.length
    have hT0 : Dq K (sans H a) (.ref t) (.tuple ss) := .tup hts hA
    refine ⟨_, rfl, e, _, rfl, seqT sans_same ht, rfl, _, _, rfl, _, _, rfl, _, _, rfl, rfl, ?_⟩
    refine ⟨_, rfl, a, c, 9, rfl, hp, by decide, by decide, fun H1 ch sm1 hp1 ch0 ch9 => ⟨_, rfl, _, rfl, t, xs, rfl, .inr (seqT sm1.same hts), a, c, _, rfl, hp1, by omega, by omega, fun H2 ati sm2 hp2 at0 at1 => ⟨_, _, rfl, ?_⟩⟩⟩
    obtain ⟨i, rfl⟩ := Int.eq_ofNat_of_zero_le at0
    have sm2 := sm1.trans sm2
    have smT := hT0.mono sm2
    have smE := hd.mono sm2
    clear sm1 hp1
    refine ⟨_, rfl, (by show 1 ≤ sizeLine; decide), fun p1 np1 => ?_⟩
    have s3 := same_new (o := .lst [.str "a"]) np1
    have h3 : Dq K (sans (upd H2 p1 (.lst [.str "a"])) a) (.ref p1) (.list [.str "a"]) := new_lst hp2.at_ np1 (.cons (.str _) .nil)
    have hp3 := hp2.new (o := .lst [.str "a"]) np1
    revert s3 h3 hp3
    generalize upd H2 p1 (.lst [.str "a"]) = H3
    intro s3 h3 hp3
    refine ⟨(by show 1 ≤ sizeLine; decide), fun p2 np2 => ?_⟩
    have s4 := same_new (o := .tup [.str "a"]) np2
    have h4 : Dq K (sans (upd H3 p2 (.tup [.str "a"])) a) (.ref p2) (.tuple [.str "a"]) := new_tup hp3.at_ np2 (.cons (.str _) .nil)
    have hp4 := hp3.new (o := .tup [.str "a"]) np2
    revert s4 h4 hp4
    generalize upd H3 p2 (.tup [.str "a"]) = H4
    intro s4 h4 hp4
    refine ⟨"a", 2001, rfl, rfl, by decide, by decide, fun p3 np3 => ?_⟩
    have s5 := same_new (o := .dK []) np3
    have h5 : Dq K (sans (upd H4 p3 (.dK [])) a) (.ref p3) (.dict []) := new_emp hp4.at_ np3
    have hp5 := hp4.new (o := .dK []) np3
    revert s5 h5 hp5
    generalize upd H4 p3 (.dK []) = H5
    intro s5 h5 hp5
    refine ⟨(by show 11 ≤ sizeLine; decide), fun L nL => ?_⟩
    have s6 := same_new (o := .lst [.non, .int 0, .str "A", .str "ab c", .ref p1, .ref p2, .bl true, .str "y", .str (repS "a" 2001), .str "", .ref p3]) nL
    have hO : DqAll K (sans H5 a) [.non, .int 0, .str "A", .str "ab c", .ref p1, .ref p2, .bl true, .str "y", .str (repS "a" 2001), .str "", .ref p3] odds :=
      .cons .non (.cons (.int _) (.cons (.str _) (.cons (.str _) (.cons (h3.mono (Sm.of (Same.trans s4 s5))) (.cons (h4.mono (Sm.of s5)) (.cons (.bl _) (.cons (.str _) (.cons (.str _) (.cons (.str _) (.cons h5 .nil))))))))))
    refine ⟨a, c, .ref L, _, rfl, hp5.new nL, by simp, .inl ⟨L, rfl, SqL.of (sans_of (hp5.ne nL) upd_same)⟩, by show 11 < 1073741824; decide, fun H6 od sm6 hp6 hod => ?_⟩
    have smA : Sm a H H6 := sm2.trans (((Sm.of (a := a) (Same.trans s3 (Same.trans s4 s5))).trans (Sm.of s6)).trans sm6)
    obtain ⟨dd, hdm, hdd⟩ := hO.mem hod
    have hdd := (hdd.mono (Sm.of s6)).mono sm6
    have hbad := odds_bad dd hdm
    have hT := hT0.mono smA
    have hE := hd.mono smA
    have fin : ∀ (H' : Hp) (v' : V) (d' : PyData), Sm a H6 H' → Pot K H' a c → Dq K (sans H' a) v' d' → Bad 8 1000000 d' → Q v' H' := fun H' v' d' s h1 h2 h3 => q H' v' d' (smA.trans s) h1 h2 h3
    have qs : ∀ (k : Bool), ∀ s ∈ ss, Qk k 3 106 s := fun k s hs => (hss s hs).q zc z4 l4
    have qT : ∀ (k : Bool), Qk k 4 428 (.tuple ss) := fun k => Qk.tup (qs k) (by omega)
    have qz : ∀ (k : Bool) (n B : Nat), 4 ≤ B → Qk k n B (.str z) := fun k n B h => .str (by omega) zc
    have qf : ∀ (k : Bool) (n B : Nat), 3 ≤ B → Qk k n B (.str f) := fun k n B h => hf.q zc h
    clear hO hod h3 h4 h5 s3 s4 s5 s6 hp3 hp4 hp5 sm2 sm6 smT smE hp2 q hd hp
    refine ⟨_, rfl, rfl, _, rfl, ite2 (fun _ => ?_) (fun _ => ?_)⟩
    · refine ⟨_, rfl, _, rfl, slTo (n := 2) hp6.at_ hE fun H7 v7 s7 h7 => ?_⟩
      have hp7 := hp6.same s7
      have hE7 := hE.mono (Sm.of s7)
      obtain ⟨e', ys, e1, hye, hya⟩ := hE7.items
      refine ⟨_, rfl, e', ys, by rw [e1], .inr (seqT sans_same hye), fun p8 np8 => ?_⟩
      have s8 := same_new (o := .lst ys) np8
      have h8 := new_lst hp7.at_ np8 hya
      have hp8 := hp7.new (o := .lst ys) np8
      revert s8 h8 hp8
      generalize upd H7 p8 (.lst ys) = H8
      intro s8 h8 hp8
      refine ⟨_, rfl, Nat.zero_le _, fun p9 np9 => ?_⟩
      have s9 := same_new (o := .tup []) np9
      have h9 : Dq K (sans (upd H8 p9 (.tup [])) a) (.ref p9) (.tuple []) := new_tup hp8.at_ np9 .nil
      have hp9 := hp8.new (o := .tup []) np9
      revert s9 h9 hp9
      generalize upd H8 p9 (.tup []) = H9
      intro s9 h9 hp9
      refine ⟨(by show 1 ≤ sizeLine; decide), fun p10 np10 => ?_⟩
      have s10 := same_new (o := .tup [.ref p9]) np10
      have h10 : Dq K (sans (upd H9 p10 (.tup [.ref p9])) a) (.ref p10) (.tuple [.tuple []]) := new_tup hp9.at_ np10 (.cons h9 .nil)
      have hp10 := hp9.new (o := .tup [.ref p9]) np10
      revert s10 h10 hp10
      generalize upd H9 p10 (.tup [.ref p9]) = H10
      intro s10 h10 hp10
      have sB := Same.trans s7 (Same.trans s8 (Same.trans s9 s10))
      refine catP hp10.at_ (hE.mono (Sm.of sB)) h10 (by show 3 + 1 ≤ 100000; decide) fun H11 v11 s11 h11 => ?_
      have hp11 := hp10.same s11
      refine ⟨_, rfl, fun p12 np12 => ?_⟩
      have s12 := same_new (o := .dK []) np12
      have h12 : Dq K (sans (upd H11 p12 (.dK [])) a) (.ref p12) (.dict []) := new_emp hp11.at_ np12
      have hp12 := hp11.new (o := .dK []) np12
      revert s12 h12 hp12
      generalize upd H11 p12 (.dK []) = H12
      intro s12 h12 hp12
      have sC := Same.trans sB (Same.trans s11 s12)
      have hL : DqAll K (sans H12 a) [.non, v7, .ref p8, v11, .ref t, .ref p12] [.none, .tuple [.str z, .str f], .list [.str z, .str f, .tuple ss], .tuple [.str z, .str f, .tuple ss, .tuple []], .tuple ss, .dict []] :=
        .cons .non (.cons (h7.mono (Sm.of (Same.trans (Same.trans s8 (Same.trans s9 s10)) (Same.trans s11 s12)))) (.cons (h8.mono (Sm.of (Same.trans (Same.trans s9 s10) (Same.trans s11 s12)))) (.cons (h11.mono (Sm.of s12)) (.cons (hT.mono (Sm.of sC)) (.cons h12 .nil)))))
      refine ⟨(by show 6 ≤ sizeLine; decide), fun p13 np13 => ?_⟩
      have s13 := same_new (o := .lst [.non, v7, .ref p8, v11, .ref t, .ref p12]) np13
      have e13 : upd H12 p13 (.lst [.non, v7, .ref p8, v11, .ref t, .ref p12]) p13 = some (.lst [.non, v7, .ref p8, v11, .ref t, .ref p12]) := upd_same
      have hp13 := hp12.new (o := .lst [.non, v7, .ref p8, v11, .ref t, .ref p12]) np13
      revert s13 e13 hp13
      generalize upd H12 p13 (.lst [.non, v7, .ref p8, v11, .ref t, .ref p12]) = H13
      intro s13 e13 hp13
      have hT13 := hT.mono (Sm.of (a := a) (Same.trans sC s13))
      obtain ⟨t', ws, e2, hwt, hwa⟩ := hT13.items
      refine ⟨_, rfl, _, rfl, _, rfl, _, rfl, _, rfl, t', ws, by rw [e2], .inr (seqT sans_same hwt), fun p14 np14 => ?_⟩
      have s14 := same_new (o := .lst ws) np14
      have h14 := new_lst hp13.at_ np14 hwa
      have hp14 := hp13.new (o := .lst ws) np14
      revert s14 h14 hp14
      generalize upd H13 p14 (.lst ws) = H14
      intro s14 h14 hp14
      refine ⟨(by show 3 ≤ sizeLine; decide), fun p15 np15 => ?_⟩
      have s15 := same_new (o := .tup [.str z, .str f, .ref p14]) np15
      have h15 : Dq K (sans (upd H14 p15 (.tup [.str z, .str f, .ref p14])) a) (.ref p15) (.tuple [.str z, .str f, .list ss]) := new_tup hp14.at_ np15 (.cons (.str _) (.cons (.str _) (.cons h14 .nil)))
      have hp15 := hp14.new (o := .tup [.str z, .str f, .ref p14]) np15
      revert s15 h15 hp15
      generalize upd H14 p15 (.tup [.str z, .str f, .ref p14]) = H15
      intro s15 h15 hp15
      refine ⟨(by show 1 ≤ sizeLine; decide), fun p16 np16 => ?_⟩
      have s16 := same_new (o := .lst [.ref p15]) np16
      have e16 : upd H15 p16 (.lst [.ref p15]) p16 = some (.lst [.ref p15]) := upd_same
      have hp16 := hp15.new (o := .lst [.ref p15]) np16
      revert s16 e16 hp16
      generalize upd H15 p16 (.lst [.ref p15]) = H16
      intro s16 e16 hp16
      have sD := Same.trans s14 (Same.trans s15 s16)
      refine ⟨p13, p16, _, _, rfl, rfl, sD _ _ e13, e16, (by show 6 + 1 ≤ sizeLine; decide), fun p17 np17 => ?_⟩
      have s17 := same_new (o := .lst ([.non, v7, .ref p8, v11, .ref t, .ref p12] ++ [.ref p15])) np17
      refine ⟨a, c, .ref p17, _, rfl, hp16.new np17, by simp, .inl ⟨p17, rfl, SqL.of (sans_of (hp16.ne np17) upd_same)⟩, by show 7 < 1073741824; decide, fun H18 x sm18 hp18 hx => ?_⟩
      have hL2 := (hL.mono (Sm.of (a := a) (Same.trans s13 (Same.trans s14 s15)))).append (.cons h15 .nil)
      obtain ⟨d', hd', hq'⟩ := hL2.mem hx
      have smX : Sm a H15 H18 := (Sm.of (Same.trans s16 s17)).trans sm18
      refine fin H18 x d' ((Sm.of (Same.trans sC (Same.trans s13 (Same.trans s14 s15)))).trans smX) hp18 (hq'.mono smX) ?_
      have q3 : ∀ k : Bool, ∀ d ∈ [PyData.str z, .str f, .tuple ss], Qk k 4 428 d := fun k d hd => by
        simp only [List.mem_cons, List.not_mem_nil, or_false] at hd
        rcases hd with rfl | rfl | rfl
        · exact qz k 4 428 (by decide)
        · exact qf k 4 428 (by decide)
        · exact qT k
      simp only [List.cons_append, List.nil_append, List.mem_cons, List.not_mem_nil, or_false] at hd'
      rcases hd' with rfl | rfl | rfl | rfl | rfl | rfl | rfl
      · exact ⟨true, .none⟩
      · exact Bad.of (tup2 (k := true) (qz true 0 4 (by decide)) (qf true 0 4 (by decide)) (Nat.le_refl _)) (by decide) (by decide)
      · exact Bad.of (Qk.lst (q3 true) (Nat.le_refl _)) (by decide) (by show 3 * 429 ≤ 1000000; decide)
      · refine Bad.of (Qk.tup (k := true) (n := 4) (B := 428) (fun d hd => ?_) (Nat.le_refl _)) (by decide) (by show 4 * 429 ≤ 1000000; decide)
        rcases List.mem_append.mp (show d ∈ [PyData.str z, .str f, .tuple ss] ++ [.tuple []] from hd) with h | h
        · exact q3 true d h
        · rw [List.mem_singleton.mp h]
          exact tup0
      · exact Bad.of (qT true) (by decide) (by decide)
      · exact ⟨false, .emp (by decide)⟩
      · refine Bad.of (tup3 (k := true) (n := 4) (B := 428) (qz true 4 428 (by decide)) (qf true 4 428 (by decide)) (Qk.lst (qs true) (by omega)) (Nat.le_refl _)) (by decide) (by decide)
    refine ⟨_, rfl, rfl, _, rfl, ite2 (fun _ => ?_) (fun _ => ?_)⟩
    · refine ⟨_, rfl, z, rfl, Nat.le_trans z4 (by decide), revS z, "a", rfl, rfl, ?_, ?_⟩
      · rw [revS_len]
        exact Nat.le_trans (show z.length + 1 ≤ 5 by omega) (by decide)
      refine ⟨_, rfl, _, rfl, z, z, rfl, rfl, Nat.le_trans (show z.length + z.length ≤ 8 by omega) (by decide), (by show 2 ≤ sizeLine; decide), fun p7 np7 => ?_⟩
      have s7 := same_new (o := .tup [.str "a", .str "b"]) np7
      have h7 : Dq K (sans (upd H6 p7 (.tup [.str "a", .str "b"])) a) (.ref p7) (.tuple [.str "a", .str "b"]) := new_tup hp6.at_ np7 (.cons (.str _) (.cons (.str _) .nil))
      have hp7 := hp6.new (o := .tup [.str "a", .str "b"]) np7
      revert s7 h7 hp7
      generalize upd H6 p7 (.tup [.str "a", .str "b"]) = H7
      intro s7 h7 hp7
      have hL : DqAll K (sans H7 a) [.str (revS z ++ "a"), .str "abcde", .str "", .str (z ++ z), .str "AB", .ref p7, .non, .str "ba"] [.str (revS z ++ "a"), .str "abcde", .str "", .str (z ++ z), .str "AB", .tuple [.str "a", .str "b"], .none, .str "ba"] :=
        .cons (.str _) (.cons (.str _) (.cons (.str _) (.cons (.str _) (.cons (.str _) (.cons h7 (.cons .non (.cons (.str _) .nil)))))))
      refine ⟨(by show 8 ≤ sizeLine; decide), fun p8 np8 => ?_⟩
      have s8 := same_new (o := .lst [.str (revS z ++ "a"), .str "abcde", .str "", .str (z ++ z), .str "AB", .ref p7, .non, .str "ba"]) np8
      refine ⟨_, rfl, _, rfl, a, c, .ref p8, _, rfl, hp7.new np8, by simp, .inl ⟨p8, rfl, SqL.of (sans_of (hp7.ne np8) upd_same)⟩, by show 8 < 1073741824; decide, fun H9 x sm9 hp9 hx => ?_⟩
      obtain ⟨d', hd', hq'⟩ := hL.mem hx
      have smX : Sm a H7 H9 := (Sm.of s8).trans sm9
      have hq9 := hq'.mono smX
      have smY : Sm a H6 H9 := (Sm.of s7).trans smX
      refine ⟨_, rfl, _, rfl, (by show 3 ≤ sizeLine; decide), fun p10 np10 => ?_⟩
      refine fin _ _ (.tuple [d', .str f, .tuple ss]) (smY.trans (Sm.new np10)) (hp9.new np10) (new_tup hp9.at_ np10 (.cons hq9 (.cons (.str _) (.cons (hT.mono smY) .nil)))) ?_
      have q8 : Qk true 4 428 d' := by
        simp only [List.mem_cons, List.not_mem_nil, or_false] at hd'
        rcases hd' with rfl | rfl | rfl | rfl | rfl | rfl | rfl | rfl
        · refine .str ?_ fun c hc => ?_
          · rw [cat_len, revS_len]
            show z.length + 1 ≤ 428
            omega
          · rw [cat_codes] at hc
            rcases List.mem_append.mp hc with h | h
            · exact zc c (by simpa [revS] using h)
            · have all : ∀ c ∈ ("a" : Str).cps.toList, c < 1000 := by decide +kernel
              exact all c h
        · exact .str (by decide) (by decide +kernel)
        · exact .str (by decide) (by decide +kernel)
        · refine .str ?_ fun c hc => ?_
          · rw [cat_len]
            omega
          · rw [cat_codes] at hc
            rcases List.mem_append.mp hc with h | h
            · exact zc c h
            · exact zc c h
        · exact .str (by decide) (by decide +kernel)
        · exact (tup2 (k := true) (n := 3) (B := 100) (.str (by decide) (by decide +kernel)) (.str (by decide) (by decide +kernel)) (Nat.le_refl _)).mono (by decide) (by decide)
        · exact .none
        · exact .str (by decide) (by decide +kernel)
      exact Bad.of (tup3 (k := true) q8 (qf true 4 428 (by decide)) (qT true) (Nat.le_refl _)) (by decide) (by decide)
    refine ⟨_, rfl, rfl, _, rfl, ite2 (fun _ => ?_) (fun _ => ?_)⟩
    · refine ⟨_, rfl, _, rfl, _, rfl, (by show 3 ≤ sizeLine; decide), fun p7 np7 => ?_⟩
      refine fin _ _ (.tuple [.str z, dd, .tuple ss]) (Sm.new np7) (hp6.new np7) (new_tup hp6.at_ np7 (.cons (.str _) (.cons hdd (.cons hT .nil)))) ?_
      obtain ⟨k, hk⟩ := hbad
      exact Bad.of (tup3 (k := k) (n := 4) (B := 2001) (qz k 4 2001 (by decide)) (hk.mono (by decide) (by decide)) ((qT k).mono (by decide) (by decide)) (Nat.le_refl _)) (by decide) (by decide)
    refine ⟨_, rfl, rfl, _, rfl, ite2 (fun _ => ?_) (fun _ => ?_)⟩
    · refine ⟨Nat.zero_le _, fun p7 np7 => ?_⟩
      have s7 := same_new (o := .tup []) np7
      have h7 : Dq K (sans (upd H6 p7 (.tup [])) a) (.ref p7) (.tuple []) := new_tup hp6.at_ np7 .nil
      have hp7 := hp6.new (o := .tup []) np7
      revert s7 h7 hp7
      generalize upd H6 p7 (.tup []) = H7
      intro s7 h7 hp7
      have ssne : ss ≠ [] := fun e => by
        rw [e] at l1
        exact absurd l1 (by decide)
      refine ⟨_, rfl, ?_⟩
      dsimp only [tC]
      refine repI 61 (by rfl) hp7.at_ (hT.mono (Sm.of s7)) ssne (by omega) (by decide) (by decide) fun H8 v8 s8 h8 => ?_
      have hp8 := hp7.same s8
      have sA := Same.trans s7 s8
      refine ⟨_, rfl, (by show 1 ≤ sizeLine; decide), fun p9 np9 => ?_⟩
      have s9 := same_new (o := .tup [.non]) np9
      have h9 : Dq K (sans (upd H8 p9 (.tup [.non])) a) (.ref p9) (.tuple [.none]) := new_tup hp8.at_ np9 (.cons .non .nil)
      have hp9 := hp8.new (o := .tup [.non]) np9
      revert s9 h9 hp9
      generalize upd H8 p9 (.tup [.non]) = H9
      intro s9 h9 hp9
      have sB := Same.trans sA s9
      refine catP hp9.at_ (hT.mono (Sm.of sB)) h9 (by show ss.length + 1 ≤ 100000; omega) fun H10 v10 s10 h10 => ?_
      have hp10 := hp9.same s10
      have sC := Same.trans sB s10
      refine ⟨_, rfl, _, rfl, _, rfl, slTo (n := i) hp10.at_ (hT.mono (Sm.of sC)) fun H11 v11 s11 h11 => ?_⟩
      have hp11 := hp10.same s11
      have sD := Same.trans sC s11
      refine ⟨_, rfl, (by show 1 ≤ sizeLine; decide), fun p12 np12 => ?_⟩
      have s12 := same_new (o := .tup [od]) np12
      have h12 : Dq K (sans (upd H11 p12 (.tup [od])) a) (.ref p12) (.tuple [dd]) := new_tup hp11.at_ np12 (.cons (hdd.mono (Sm.of sD)) .nil)
      have hp12 := hp11.new (o := .tup [od]) np12
      revert s12 h12 hp12
      generalize upd H11 p12 (.tup [od]) = H12
      intro s12 h12 hp12
      have sE := Same.trans sD s12
      have lt1 : (ss.take i).length ≤ 4 := by
        rw [List.length_take]
        omega
      have lt2 : (ss.drop i).length ≤ 4 := by
        rw [List.length_drop]
        omega
      refine catP hp12.at_ (h11.mono (Sm.of s12)) h12 (by show (ss.take i).length + 1 ≤ 100000; omega) fun H13 v13 s13 h13 => ?_
      have hp13 := hp12.same s13
      have sF := Same.trans sE s13
      refine ⟨_, rfl, _, rfl, _, rfl, ?_⟩
      dsimp only [tNoPart]
      refine slFrom (n := i) hp13.at_ (hT.mono (Sm.of sF)) fun H14 v14 s14 h14 => ?_
      have hp14 := hp13.same s14
      have sG := Same.trans sF s14
      refine catP hp14.at_ (h13.mono (Sm.of s14)) h14 (by rw [List.length_append]; show (ss.take i).length + 1 + (ss.drop i).length ≤ 100000; omega) fun H15 v15 s15 h15 => ?_
      have hp15 := hp14.same s15
      have sH := Same.trans sG s15
      obtain ⟨s0, sr, ess⟩ : ∃ s0 sr, ss = s0 :: sr := by
        cases ss with
        | nil => exact absurd rfl ssne
        | cons x y => exact ⟨x, y, rfl⟩
      have hT15 := hT.mono (Sm.of (a := a) sH)
      rw [ess] at hT15
      obtain ⟨t', y0, yr, et, ht', hy0⟩ := hT15.head
      refine ⟨_, rfl, t', _, 0, y0, by rw [et], rfl, seqT sans_same ht', atI_nat (j := 0) rfl, ?_⟩
      have sI := Same.trans s14 s15
      have hL : DqAll K (sans H15 a) [.ref p7, v8, v10, v15, y0] [.tuple [], .tuple (List.replicate 61 ss).flatten, .tuple (ss ++ [.none]), .tuple (ss.take i ++ [dd] ++ ss.drop i), s0] :=
        .cons (h7.mono (Sm.of (Same.trans s8 (Same.trans s9 (Same.trans s10 (Same.trans s11 (Same.trans s12 (Same.trans s13 sI)))))))) (.cons (h8.mono (Sm.of (Same.trans s9 (Same.trans s10 (Same.trans s11 (Same.trans s12 (Same.trans s13 sI))))))) (.cons (h10.mono (Sm.of (Same.trans s11 (Same.trans s12 (Same.trans s13 sI))))) (.cons h15 (.cons hy0 .nil))))
      refine ⟨(by show 5 ≤ sizeLine; decide), fun p16 np16 => ?_⟩
      have s16 := same_new (o := .lst [.ref p7, v8, v10, v15, y0]) np16
      refine ⟨_, rfl, _, rfl, _, rfl, _, rfl, a, c, .ref p16, _, rfl, hp15.new np16, by simp, .inl ⟨p16, rfl, SqL.of (sans_of (hp15.ne np16) upd_same)⟩, by show 5 < 1073741824; decide, fun H17 x sm17 hp17 hx => ?_⟩
      obtain ⟨d', hd', hq'⟩ := hL.mem hx
      have smX : Sm a H15 H17 := (Sm.of s16).trans sm17
      have smY : Sm a H6 H17 := (Sm.of sH).trans smX
      refine ⟨(by show 3 ≤ sizeLine; decide), fun p18 np18 => ?_⟩
      refine fin _ _ (.tuple [.str z, .str f, d']) (smY.trans (Sm.new np18)) (hp17.new np18) (new_tup hp17.at_ np18 (.cons (.str _) (.cons (.str _) (.cons (hq'.mono smX) .nil)))) ?_
      obtain ⟨k, hk⟩ := hbad
      have q8 : Qk k 4 26108 d' := by
        simp only [List.mem_cons, List.not_mem_nil, or_false] at hd'
        rcases hd' with rfl | rfl | rfl | rfl | rfl
        · exact tup0
        · refine Qk.tup (n := 3) (B := 106) (fun d hd => ?_) ?_
          · obtain ⟨l, hl, hdl⟩ := List.mem_flatten.mp hd
            rw [(List.mem_replicate.mp hl).2] at hdl
            exact qs k d hdl
          · rw [List.length_flatten, List.map_replicate, List.sum_replicate_nat]
            omega
        · refine Qk.tup (n := 3) (B := 106) (fun d hd => ?_) (by rw [List.length_append]; show (ss.length + 1) * 107 ≤ 26108; omega)
          rcases List.mem_append.mp hd with h | h
          · exact qs k d h
          · rw [List.mem_singleton.mp h]
            exact .none
        · refine Qk.tup (n := 3) (B := 2001) (fun d hd => ?_) (by rw [List.length_append, List.length_append]; show ((ss.take i).length + 1 + (ss.drop i).length) * 2002 ≤ 26108; omega)
          exact mid_bad (fun e he => (qs k e (List.mem_of_mem_take he)).mono (by decide) (by decide)) (fun e he => (qs k e (List.mem_of_mem_drop he)).mono (by decide) (by decide)) (hk.mono (by decide) (by decide)) hd
        · exact (qs k d' (by rw [ess]; exact List.mem_cons_self ..)).mono (by decide) (by decide)
      exact Bad.of (tup3 (k := k) (qz k 4 26108 (by decide)) (qf k 4 26108 (by decide)) q8 (Nat.le_refl _)) (by decide) (by decide)
    obtain ⟨t', ws, et, hwt, hwa⟩ := hT.items
    cases et
    have hi : i < ss.length := by omega
    obtain ⟨x0, d0, ex0, hd0, hq0⟩ := dqAll_at hwa hi
    obtain ⟨es, ld, rfl, les, hes, hld⟩ := id (hss d0 hd0)
    have parts := fun k : Bool => (hss _ hd0).parts (k := k) zc l4
    obtain ⟨p0, us0, rfl, hp0, hq1⟩ := hq0.items
    obtain ⟨mv, us0, rfl, hM, hq1⟩ := hq1.one
    obtain ⟨lv, us0, rfl, hLd, hq1⟩ := hq1.one
    obtain rfl := hq1.none
    obtain ⟨m0, ms, rfl, hm0, hms⟩ := hM.items
    have lms : ms.length = z.length := hms.length.trans les
    refine ⟨_, rfl, _, rfl, t, ws, (i : Int), _, rfl, rfl, seqT sans_same hwt, atI_nat ex0, p0, _, rfl, seqT sans_same hp0, rfl, _, _, rfl, _, _, rfl, rfl, ?_⟩
    refine ⟨_, rfl, _, rfl, m0, ms, rfl, .inr (seqT sans_same hm0), a, c, _, rfl, hp6, by omega, by omega, fun H7 spi sm7 hp7 sp0 sp1 => ?_⟩
    obtain ⟨j, rfl⟩ := Int.eq_ofNat_of_zero_le sp0
    have hT := hT.mono sm7
    have hM := hM.mono sm7
    have hLd := hLd.mono sm7
    have hdd := hdd.mono sm7
    refine ⟨fun σ H' => ∃ (sv : V) (sd : PyData) (s9 s13 s14 : Option V), σ = [some (.ref a), some (.ref e), some od, some (.int (j : Int)), some (.str z), some (.str f), some (.ref t), some (.int ch), some (.int (i : Int)), s9, some (.ref m0), some lv, some sv, s13, s14] ∧ Dq K (sans H' a) sv sd ∧ Bad 4 64074 sd ∧ Sm a H7 H' ∧ Pot K H' a c, ?_, ?_⟩
    · refine ⟨_, rfl, rfl, _, rfl, ite2 (fun _ => ?_) (fun _ => ?_)⟩
      · refine ⟨_, rfl, _, rfl, (by show 2 ≤ sizeLine; decide), fun p8 np8 => ?_⟩
        have s8 := same_new (o := .tup [.ref m0, od]) np8
        have h8 : Dq K (sans (upd H7 p8 (.tup [.ref m0, od])) a) (.ref p8) (.tuple [.tuple es, dd]) := new_tup hp7.at_ np8 (.cons hM (.cons hdd .nil))
        have hp8 := hp7.new (o := .tup [.ref m0, od]) np8
        revert s8 h8 hp8
        generalize upd H7 p8 (.tup [.ref m0, od]) = H8
        intro s8 h8 hp8
        have hM8 := hM.mono (Sm.of (a := a) s8)
        obtain ⟨m8, ms8, e8, hq8, hA8⟩ := hM8.items
        refine ⟨_, rfl, m8, ms8, by rw [e8], .inr (seqT sans_same hq8), fun p9 np9 => ?_⟩
        have s9 := same_new (o := .lst ms8) np9
        have h9 : Dq K (sans (upd H8 p9 (.lst ms8)) a) (.ref p9) (.list es) := new_lst hp8.at_ np9 hA8
        have hp9 := hp8.new (o := .lst ms8) np9
        revert s9 h9 hp9
        generalize upd H8 p9 (.lst ms8) = H9
        intro s9 h9 hp9
        refine ⟨_, rfl, (by show 2 ≤ sizeLine; decide), fun p10 np10 => ?_⟩
        have t9 := Same.trans s8 s9
        have s10 := same_new (o := .tup [.ref p9, lv]) np10
        have h10 : Dq K (sans (upd H9 p10 (.tup [.ref p9, lv])) a) (.ref p10) (.tuple [.list es, ld]) := new_tup hp9.at_ np10 (.cons h9 (.cons (hLd.mono (Sm.of t9)) .nil))
        have hp10 := hp9.new (o := .tup [.ref p9, lv]) np10
        revert s10 h10 hp10
        generalize upd H9 p10 (.tup [.ref p9, lv]) = H10
        intro s10 h10 hp10
        have t10 := Same.trans t9 s10
        refine ⟨_, rfl, _, rfl, ?_⟩
        dsimp only [tNoPart]
        refine slFromI 1 (by rfl) hp10.at_ (hM.mono (Sm.of t10)) fun H11 v11 s11 h11 => ?_
        have hp11 := hp10.same s11
        have t11 := Same.trans t10 s11
        refine ⟨_, rfl, (by show 2 ≤ sizeLine; decide), fun p12 np12 => ?_⟩
        have s12 := same_new (o := .tup [v11, lv]) np12
        have h12 : Dq K (sans (upd H11 p12 (.tup [v11, lv])) a) (.ref p12) (.tuple [.tuple (es.drop 1), ld]) := new_tup hp11.at_ np12 (.cons h11 (.cons (hLd.mono (Sm.of t11)) .nil))
        have hp12 := hp11.new (o := .tup [v11, lv]) np12
        revert s12 h12 hp12
        generalize upd H11 p12 (.tup [v11, lv]) = H12
        intro s12 h12 hp12
        have t12 := Same.trans t11 s12
        refine ⟨_, rfl, (by show 1 ≤ sizeLine; decide), fun p13 np13 => ?_⟩
        have s13 := same_new (o := .tup [.non]) np13
        have h13 : Dq K (sans (upd H12 p13 (.tup [.non])) a) (.ref p13) (.tuple [.none]) := new_tup hp12.at_ np13 (.cons .non .nil)
        have hp13 := hp12.new (o := .tup [.non]) np13
        revert s13 h13 hp13
        generalize upd H12 p13 (.tup [.non]) = H13
        intro s13 h13 hp13
        have t13 := Same.trans t12 s13
        refine catP hp13.at_ (hM.mono (Sm.of t13)) h13 (by show es.length + 1 ≤ 100000; omega) fun H14 v14 s14 h14 => ?_
        have hp14 := hp13.same s14
        have t14 := Same.trans t13 s14
        refine ⟨_, rfl, (by show 2 ≤ sizeLine; decide), fun p15 np15 => ?_⟩
        have s15 := same_new (o := .tup [v14, lv]) np15
        have h15 : Dq K (sans (upd H14 p15 (.tup [v14, lv])) a) (.ref p15) (.tuple [.tuple (es ++ [.none]), ld]) := new_tup hp14.at_ np15 (.cons h14 (.cons (hLd.mono (Sm.of t14)) .nil))
        have hp15 := hp14.new (o := .tup [v14, lv]) np15
        revert s15 h15 hp15
        generalize upd H14 p15 (.tup [v14, lv]) = H15
        intro s15 h15 hp15
        have t15 := Same.trans t14 s15
        refine ⟨_, rfl, (by show 1 ≤ sizeLine; decide), fun p16 np16 => ?_⟩
        have s16 := same_new (o := .tup [.ref m0]) np16
        have h16 : Dq K (sans (upd H15 p16 (.tup [.ref m0])) a) (.ref p16) (.tuple [.tuple es]) := new_tup hp15.at_ np16 (.cons (hM.mono (Sm.of t15)) .nil)
        have hp16 := hp15.new (o := .tup [.ref m0]) np16
        revert s16 h16 hp16
        generalize upd H15 p16 (.tup [.ref m0]) = H16
        intro s16 h16 hp16
        have t16 := Same.trans t15 s16
        have u15 := Same.trans s15 s16
        have u12 := Same.trans s12 (Same.trans s13 (Same.trans s14 u15))
        have u10 := Same.trans s10 (Same.trans s11 u12)
        have hL : DqAll K (sans H16 a) [.ref p8, .ref p10, .ref p12, .ref p15, .ref p16] [.tuple [.tuple es, dd], .tuple [.list es, ld], .tuple [.tuple (es.drop 1), ld], .tuple [.tuple (es ++ [.none]), ld], .tuple [.tuple es]] :=
          .cons (h8.mono (Sm.of (Same.trans s9 u10))) (.cons (h10.mono (Sm.of (Same.trans s11 u12))) (.cons (h12.mono (Sm.of (Same.trans s13 (Same.trans s14 u15)))) (.cons (h15.mono (Sm.of s16)) (.cons h16 .nil))))
        refine ⟨(by show 5 ≤ sizeLine; decide), fun p17 np17 => ?_⟩
        have e17 : upd H16 p17 (.lst [.ref p8, .ref p10, .ref p12, .ref p15, .ref p16]) p17 = some (.lst [.ref p8, .ref p10, .ref p12, .ref p15, .ref p16]) := upd_same
        have s17 := same_new (o := .lst [.ref p8, .ref p10, .ref p12, .ref p15, .ref p16]) np17
        have hp17 := hp16.new (o := .lst [.ref p8, .ref p10, .ref p12, .ref p15, .ref p16]) np17
        revert e17 s17 hp17
        generalize upd H16 p17 (.lst [.ref p8, .ref p10, .ref p12, .ref p15, .ref p16]) = H17
        intro e17 s17 hp17
        have t17 := Same.trans t16 s17
        refine ⟨_, rfl, _, rfl, _, rfl, _, rfl, (by show 2 ≤ sizeLine; decide), fun p18 np18 => ?_⟩
        have s18 := same_new (o := .lst [.ref m0, lv]) np18
        have h18 : Dq K (sans (upd H17 p18 (.lst [.ref m0, lv])) a) (.ref p18) (.list [.tuple es, ld]) := new_lst hp17.at_ np18 (.cons (hM.mono (Sm.of t17)) (.cons (hLd.mono (Sm.of t17)) .nil))
        have hp18 := hp17.new (o := .lst [.ref m0, lv]) np18
        revert s18 h18 hp18
        generalize upd H17 p18 (.lst [.ref m0, lv]) = H18
        intro s18 h18 hp18
        have t18 := Same.trans t17 s18
        refine ⟨_, rfl, _, rfl, _, rfl, (by show 3 ≤ sizeLine; decide), fun p19 np19 => ?_⟩
        have s19 := same_new (o := .tup [.ref m0, lv, lv]) np19
        have h19 : Dq K (sans (upd H18 p19 (.tup [.ref m0, lv, lv])) a) (.ref p19) (.tuple [.tuple es, ld, ld]) := new_tup hp18.at_ np19 (.cons (hM.mono (Sm.of t18)) (.cons (hLd.mono (Sm.of t18)) (.cons (hLd.mono (Sm.of t18)) .nil)))
        have hp19 := hp18.new (o := .tup [.ref m0, lv, lv]) np19
        revert s19 h19 hp19
        generalize upd H18 p19 (.tup [.ref m0, lv, lv]) = H19
        intro s19 h19 hp19
        have t19 := Same.trans t18 s19
        refine ⟨_, rfl, _, rfl, (by show 3 ≤ sizeLine; decide), fun p20 np20 => ?_⟩
        have s20 := same_new (o := .tup [.ref m0, lv, .non]) np20
        have h20 : Dq K (sans (upd H19 p20 (.tup [.ref m0, lv, .non])) a) (.ref p20) (.tuple [.tuple es, ld, .none]) := new_tup hp19.at_ np20 (.cons (hM.mono (Sm.of t19)) (.cons (hLd.mono (Sm.of t19)) (.cons .non .nil)))
        have hp20 := hp19.new (o := .tup [.ref m0, lv, .non]) np20
        revert s20 h20 hp20
        generalize upd H19 p20 (.tup [.ref m0, lv, .non]) = H20
        intro s20 h20 hp20
        have hL2 : DqAll K (sans H20 a) ([.ref p8, .ref p10, .ref p12, .ref p15, .ref p16] ++ [.ref p18, .ref p19, .ref p20]) ([.tuple [.tuple es, dd], .tuple [.list es, ld], .tuple [.tuple (es.drop 1), ld], .tuple [.tuple (es ++ [.none]), ld], .tuple [.tuple es]] ++ [.list [.tuple es, ld], .tuple [.tuple es, ld, ld], .tuple [.tuple es, ld, .none]]) :=
          (hL.mono (Sm.of (Same.trans s17 (Same.trans s18 (Same.trans s19 s20))))).append (.cons (h18.mono (Sm.of (Same.trans s19 s20))) (.cons (h19.mono (Sm.of s20)) (.cons h20 .nil)))
        refine ⟨(by show 3 ≤ sizeLine; decide), fun p21 np21 => ?_⟩
        have s21 := same_new (o := .lst [.ref p18, .ref p19, .ref p20]) np21
        have e21 : upd H20 p21 (.lst [.ref p18, .ref p19, .ref p20]) p21 = some (.lst [.ref p18, .ref p19, .ref p20]) := upd_same
        have hp21 := hp20.new (o := .lst [.ref p18, .ref p19, .ref p20]) np21
        revert s21 e21 hp21
        generalize upd H20 p21 (.lst [.ref p18, .ref p19, .ref p20]) = H21
        intro s21 e21 hp21
        refine ⟨p17, p21, _, _, rfl, rfl, s21 _ _ (s20 _ _ (s19 _ _ (s18 _ _ e17))), e21, (by show 5 + 3 ≤ sizeLine; decide), fun p22 np22 => ?_⟩
        have s22 := same_new (o := .lst ([.ref p8, .ref p10, .ref p12, .ref p15, .ref p16] ++ [.ref p18, .ref p19, .ref p20])) np22
        refine ⟨a, c, .ref p22, _, rfl, hp21.new np22, by simp, .inl ⟨p22, rfl, SqL.of (sans_of (hp21.ne np22) upd_same)⟩, by show 8 < 1073741824; decide, fun H23 x sm23 hp23 hx => ?_⟩
        obtain ⟨d', hd', hq'⟩ := hL2.mem hx
        have smX : Sm a H20 H23 := (Sm.of (Same.trans s21 s22)).trans sm23
        refine ⟨x, d', _, _, _, rfl, hq'.mono smX, ?_, (Sm.of (Same.trans t19 s20)).trans smX, hp23⟩
        obtain ⟨k, hk⟩ := hbad
        have qM : ∀ k : Bool, Qk k 2 52 (.tuple es) := fun k => Qk.tup (parts k).2.1 (by rw [les]; omega)
        have qL : ∀ k : Bool, Qk k 2 52 ld := fun k => (parts k).2.2
        have qM1 : ∀ k : Bool, Qk k 2 65 (.tuple (es.drop 1)) := fun k => Qk.tup (fun d hd => (parts k).2.1 d (List.mem_of_mem_drop hd)) (by rw [List.length_drop, les]; omega)
        have qM2 : ∀ k : Bool, Qk k 2 65 (.tuple (es ++ [.none])) := fun k => Qk.tup (n := 1) (B := 12) (fun d hd => by
          rcases List.mem_append.mp hd with h | h
          · exact (parts k).2.1 d h
          · rw [List.mem_singleton.mp h]
            exact .none) (by rw [List.length_append, les]; show (z.length + 1) * 13 ≤ 65; omega)
        have qN : Qk true 2 52 (.list es) := Qk.lst (parts true).2.1 (by rw [les]; omega)
        simp only [List.cons_append, List.nil_append, List.mem_cons, List.not_mem_nil, or_false] at hd'
        rcases hd' with rfl | rfl | rfl | rfl | rfl | rfl | rfl | rfl
        · exact Bad.of (tup2 (k := k) (n := 2) (B := 2001) ((qM k).mono (by decide) (by decide)) (hk.mono (by decide) (by decide)) (Nat.le_refl _)) (by decide) (by decide)
        · exact Bad.of (tup2 (k := true) qN (qL true) (Nat.le_refl _)) (by decide) (by decide)
        · exact Bad.of (tup2 (k := true) (qM1 true) ((qL true).mono (by decide) (by decide)) (Nat.le_refl _)) (by decide) (by decide)
        · exact Bad.of (tup2 (k := true) (qM2 true) ((qL true).mono (by decide) (by decide)) (Nat.le_refl _)) (by decide) (by decide)
        · refine Bad.of (Qk.tup (k := true) (n := 2) (B := 52) (fun d hd => ?_) (Nat.le_refl _)) (by decide) (by show 1 * 53 ≤ 64074; decide)
          rw [List.mem_singleton.mp hd]
          exact qM true
        · refine Bad.of (Qk.lst (n := 2) (B := 52) (fun d hd => ?_) (Nat.le_refl _)) (by decide) (by show 2 * 53 ≤ 64074; decide)
          simp only [List.mem_cons, List.not_mem_nil, or_false] at hd
          rcases hd with rfl | rfl
          · exact qM true
          · exact qL true
        · exact Bad.of (tup3 (k := true) (qM true) (qL true) (qL true) (Nat.le_refl _)) (by decide) (by decide)
        · exact Bad.of (tup3 (k := true) (qM true) (qL true) .none (Nat.le_refl _)) (by decide) (by decide)
      · obtain ⟨m7, ms7, e7, hq7, hA7⟩ := hM.items
        cases e7
        have hj : j < es.length := by omega
        obtain ⟨mj, dj, emj, hdj, hqj⟩ := dqAll_at hA7 hj
        have lt1 : (es.take j).length ≤ 4 := by
          rw [List.length_take]
          omega
        have lt2 : (es.drop (j + 1)).length ≤ 4 := by
          rw [List.length_drop]
          omega
        have stBad : ∀ (k : Bool) {d : PyData}, Qk k 2 8008 d → Bad 4 64074 (.tuple [.tuple (es.take j ++ [d] ++ es.drop (j + 1)), ld]) := fun k d hk => by
          refine Bad.of (tup2 (k := k) (n := 3) (B := 32036) (Qk.tup (n := 2) (B := 8008) (fun d hd => ?_) ?_) (((parts k).2.2).mono (by decide) (by decide)) (Nat.le_refl _)) (by decide) (by decide)
          · exact mid_bad (fun e he => ((parts k).2.1 e (List.mem_of_mem_take he)).mono (by decide) (by decide)) (fun e he => ((parts k).2.1 e (List.mem_of_mem_drop he)).mono (by decide) (by decide)) hk hd
          · have ll : (es.take j ++ [d] ++ es.drop (j + 1)).length ≤ 4 := by
              rw [List.length_append, List.length_append, List.length_take, List.length_drop]
              show min j es.length + 1 + (es.length - (j + 1)) ≤ 4
              omega
            exact Nat.le_trans (Nat.mul_le_mul_right _ ll) (by decide)
        refine ⟨_, rfl, rfl, _, rfl, ?_⟩
        refine or_ways ?_ (fun hA => ?_)
        · refine iteT ?_
          refine ⟨_, rfl, _, rfl, _, rfl, slToI j (by rfl) hp7.at_ hM fun H8 v8 s8 h8 => ?_⟩
          have hp8 := hp7.same s8
          have hT8 := hT.mono (Sm.of (a := a) s8)
          obtain ⟨t8, ws8, e8, hq8, hA8⟩ := hT8.items
          refine ⟨_, rfl, _, rfl, _, rfl, t8, ws8, by rw [e8], .inr (seqT sans_same hq8), (by show 3 ≤ sizeLine; decide), fun p9 np9 => ?_⟩
          have s9 := same_new (o := .tup [.str "", .str "", .int ((ws8.length : Nat) : Int)]) np9
          have h9 : Dq K (sans (upd H8 p9 (.tup [.str "", .str "", .int ((ws8.length : Nat) : Int)])) a) (.ref p9) (.tuple [.str "", .str "", .int ((ws8.length : Nat) : Int)]) := new_tup hp8.at_ np9 (.cons (.str _) (.cons (.str _) (.cons (.int _) .nil)))
          have hp9 := hp8.new (o := .tup [.str "", .str "", .int ((ws8.length : Nat) : Int)]) np9
          revert s9 h9 hp9
          generalize upd H8 p9 (.tup [.str "", .str "", .int ((ws8.length : Nat) : Int)]) = H9
          intro s9 h9 hp9
          refine ⟨(by show 2 ≤ sizeLine; decide), fun p10 np10 => ?_⟩
          have s10 := same_new (o := .tup [.str "", .str ""]) np10
          have h10 : Dq K (sans (upd H9 p10 (.tup [.str "", .str ""])) a) (.ref p10) (.tuple [.str "", .str ""]) := new_tup hp9.at_ np10 (.cons (.str _) (.cons (.str _) .nil))
          have hp10 := hp9.new (o := .tup [.str "", .str ""]) np10
          revert s10 h10 hp10
          generalize upd H9 p10 (.tup [.str "", .str ""]) = H10
          intro s10 h10 hp10
          have t10 := Same.trans s8 (Same.trans s9 s10)
          have hL : DqAll K (sans H10 a) [od, .ref p9, .ref p10] [dd, .tuple [.str "", .str "", .int ((ws8.length : Nat) : Int)], .tuple [.str "", .str ""]] := .cons (hdd.mono (Sm.of t10)) (.cons (h9.mono (Sm.of s10)) (.cons h10 .nil))
          refine ⟨(by show 3 ≤ sizeLine; decide), fun p11 np11 => ?_⟩
          have s11 := same_new (o := .lst [od, .ref p9, .ref p10]) np11
          refine ⟨a, c, .ref p11, _, rfl, hp10.new np11, by simp, .inl ⟨p11, rfl, SqL.of (sans_of (hp10.ne np11) upd_same)⟩, by show 3 < 1073741824; decide, fun H12 x sm12 hp12 hx => ?_⟩
          obtain ⟨d', hd', hq'⟩ := hL.mem hx
          have smX : Sm a H10 H12 := (Sm.of s11).trans sm12
          have hit := hq'.mono smX
          have smI : Sm a H7 H12 := (Sm.of t10).trans smX
          have hfr : Dq K (sans H12 a) v8 (.tuple (es.take j)) := (h8.mono (Sm.of (Same.trans s9 s10))).mono smX
          have hitb : ∃ k, Qk k 2 8008 d' := by
            have l8 : ws8.length ≤ 4 := by
              rw [hA8.length]
              exact l4
            simp only [List.mem_cons, List.not_mem_nil, or_false] at hd'
            rcases hd' with rfl | rfl | rfl
            · obtain ⟨k, hk⟩ := hbad
              exact ⟨k, hk.mono (by decide) (by decide)⟩
            · exact ⟨true, (tup3 (k := true) (n := 0) (B := 3) (.str (by decide) (by decide +kernel)) (.str (by decide) (by decide +kernel)) (.int (by omega) (by omega) (Nat.le_refl _)) (Nat.le_refl _)).mono (by decide) (by decide)⟩
            · exact ⟨true, (tup2 (k := true) (n := 0) (B := 3) (.str (by decide) (by decide +kernel)) (.str (by decide) (by decide +kernel)) (Nat.le_refl _)).mono (by decide) (by decide)⟩
          refine ⟨(by show 1 ≤ sizeLine; decide), fun p13 np13 => ?_⟩
          have s13 := same_new (o := .tup [x]) np13
          have h13 : Dq K (sans (upd H12 p13 (.tup [x])) a) (.ref p13) (.tuple [d']) := new_tup hp12.at_ np13 (.cons hit .nil)
          have hp13 := hp12.new (o := .tup [x]) np13
          revert s13 h13 hp13
          generalize upd H12 p13 (.tup [x]) = H13
          intro s13 h13 hp13
          have hf13 := hfr.mono (Sm.of (a := a) s13)
          refine catP hp13.at_ hf13 h13 (by show (es.take j).length + 1 ≤ 100000; omega) fun H14 v14 s14 h14 => ?_
          have hp14 := hp13.same s14
          have smT := smI.trans (Sm.of (a := a) (Same.trans s13 s14))
          refine ⟨_, rfl, _, rfl, _, _, rfl, rfl, _, rfl, ?_⟩
          dsimp only [tNoPart]
          refine slFromI (j + 1) (by rfl) hp14.at_ (hM.mono smT) fun H15 v15 s15 h15 => ?_
          have hp15 := hp14.same s15
          refine catP hp15.at_ (h14.mono (Sm.of s15)) h15 (by rw [List.length_append]; show (es.take j).length + 1 + (es.drop (j + 1)).length ≤ 100000; omega) fun H16 v16 s16 h16 => ?_
          have hp16 := hp15.same s16
          have smU := smT.trans (Sm.of (a := a) (Same.trans s15 s16))
          refine ⟨_, rfl, (by show 2 ≤ sizeLine; decide), fun p17 np17 => ?_⟩
          refine ⟨.ref p17, .tuple [.tuple (es.take j ++ [d'] ++ es.drop (j + 1)), ld], _, _, _, rfl, new_tup hp16.at_ np17 (.cons h16 (.cons (hLd.mono smU) .nil)), ?_, smU.trans (Sm.new np17), hp16.new np17⟩
          obtain ⟨k, hk⟩ := hitb
          exact stBad k hk
        · refine ⟨_, rfl, _, rfl, m0, ms7, (j : Int), mj, rfl, rfl, seqT sans_same hq7, atI_nat emj, rfl, _, rfl, ?_⟩
          rcases moveV hqj (hes dj hdj) with rfl | ⟨pm, m1, m2, g, rfl, hpm, hm1, hm2, hg⟩
          · exact hA
          refine iteF ?_
          have hPm : Dq K (sans H7 a) (.ref pm) (.tuple [.str m1, .str m2, .int (g : Int)]) := .tup hpm (.cons (.str _) (.cons (.str _) (.cons (.int _) .nil)))
          refine ⟨_, rfl, a, c, 3, rfl, hp7, by decide, by decide, fun H8 pli sm8 hp8 pl0 pl3 => ?_⟩
          obtain ⟨pl, rfl⟩ := Int.eq_ofNat_of_zero_le pl0
          refine ⟨_, rfl, _, rfl, m0, ms7, (j : Int), _, rfl, rfl, seqT sm8.same hq7, atI_nat emj, pm, _, rfl, .inr (seqT sm8.same hpm), fun p9 np9 => ⟨_, _, rfl, ?_⟩⟩
          have p9a := hp8.ne np9
          have np9' : sans H8 a p9 = none := by
            rw [sans_ne p9a]
            exact np9
          have s9 := same_new (o := .lst [.str m1, .str m2, .int (g : Int)]) np9
          have e9 : upd H8 p9 (.lst [.str m1, .str m2, .int (g : Int)]) p9 = some (.lst [.str m1, .str m2, .int (g : Int)]) := upd_same
          have hp9 := hp8.new (o := .lst [.str m1, .str m2, .int (g : Int)]) np9
          revert s9 e9 hp9
          generalize upd H8 p9 (.lst [.str m1, .str m2, .int (g : Int)]) = H9
          intro s9 e9 hp9
          have hT8 := hT.mono sm8
          obtain ⟨t8, ws8, e8, hq8, hA8⟩ := hT8.items
          have l8 : ws8.length ≤ 4 := by
            rw [hA8.length]
            exact l4
          have hL : DqAll K (sans H8 a) [od, od, .int ((ws8.length : Nat) : Int), .int (0 - 1), .bl true, .str "0"] [dd, dd, .int ((ws8.length : Nat) : Int), .int (0 - 1), .bool true, .str "0"] :=
            .cons (hdd.mono sm8) (.cons (hdd.mono sm8) (.cons (.int _) (.cons (.int _) (.cons (.bl _) (.cons (.str _) .nil)))))
          refine ⟨_, rfl, _, rfl, _, rfl, _, rfl, t8, ws8, by rw [e8], .inr (seqT (Same.trans sans_same s9) hq8), _, _, rfl, rfl, (by show 6 ≤ sizeLine; decide), fun p10 np10 => ?_⟩
          have s10 := same_new (o := .lst [od, od, .int ((ws8.length : Nat) : Int), .int (0 - 1), .bl true, .str "0"]) np10
          refine ⟨a, c, .ref p10, _, rfl, hp9.new np10, by simp, .inl ⟨p10, rfl, SqL.of (sans_of (hp9.ne np10) upd_same)⟩, by show 6 < 1073741824; decide, fun H11 x sm11 hp11 hx => ?_⟩
          obtain ⟨d', hd', hq'⟩ := hL.mem hx
          have smX : Sm a H9 H11 := (Sm.of s10).trans sm11
          have e11 := smX.at_ p9a e9
          refine ⟨_, rfl, _, rfl, p9, _, _, pl, rfl, rfl, e11, ixN_nat (by show pl < 3; omega), ?_⟩
          have sm12 : Sm a H8 (upd H11 p9 (.lst (List.set [.str m1, .str m2, .int (g : Int)] pl x))) := ((Sm.of s9).trans smX).upd np9'
          have hp12 : Pot K (upd H11 p9 (.lst (List.set [.str m1, .str m2, .int (g : Int)] pl x))) a c := hp8.to sm12 (hp11.at_.upd p9a)
          have qd : ∃ k, Qk k 1 2001 d' := by
            simp only [List.mem_cons, List.not_mem_nil, or_false] at hd'
            rcases hd' with rfl | rfl | rfl | rfl | rfl | rfl
            · exact hbad
            · exact hbad
            · exact ⟨true, .int (by omega) (by omega) (by decide)⟩
            · exact ⟨true, .int (by decide) (by decide) (by decide)⟩
            · exact ⟨true, .bool true⟩
            · exact ⟨true, .str (by decide) (by decide +kernel)⟩
          have qm : ∀ k : Bool, ∀ d ∈ [PyData.str m1, .str m2, .int (g : Int)], Qk k 0 3 d := fun k d hd => by
            simp only [List.mem_cons, List.not_mem_nil, or_false] at hd
            rcases hd with rfl | rfl | rfl
            · exact hm1.q zc (Nat.le_refl _)
            · exact hm2.q zc (Nat.le_refl _)
            · exact .int (by omega) (by omega) (Nat.le_refl _)
          have hus : ∃ (us : List V) (ds : List PyData), upd H11 p9 (.lst (List.set [.str m1, .str m2, .int (g : Int)] pl x)) p9 = some (.lst us) ∧ DqAll K (sans (upd H11 p9 (.lst (List.set [.str m1, .str m2, .int (g : Int)] pl x))) a) us ds ∧ ∃ k, Qk k 2 8008 (.tuple ds) := by
            refine ⟨_, _, upd_same, DqAll.set (hq'.mono sm12) pl (DqAll.cons (.str m1) (.cons (.str m2) (.cons (.int (g : Int)) .nil))), ?_⟩
            obtain ⟨k, hk⟩ := qd
            refine ⟨k, Qk.tup (n := 1) (B := 2001) (fun d hd => ?_) ?_⟩
            · rcases List.mem_or_eq_of_mem_set hd with h | h
              · exact (qm k d h).mono (by decide) (by decide)
              · rw [h]
                exact hk
            · rw [List.length_set]
              show 3 * 2002 ≤ 8008
              decide
          revert sm12 hp12 hus
          generalize upd H11 p9 (.lst (List.set [.str m1, .str m2, .int (g : Int)] pl x)) = H12
          intro sm12 hp12 ⟨us, ds, e12, hus, qus⟩
          have w12 := sm8.trans sm12
          refine ⟨_, rfl, p9, us, rfl, .inl ⟨SqL.of e12, fun p13 np13 => ?_⟩⟩
          have s13 := same_new (o := .tup us) np13
          have h13 : Dq K (sans (upd H12 p13 (.tup us)) a) (.ref p13) (.tuple ds) := new_tup hp12.at_ np13 hus
          have hp13 := hp12.new (o := .tup us) np13
          revert s13 h13 hp13
          generalize upd H12 p13 (.tup us) = H13
          intro s13 h13 hp13
          have e13 := s13 _ _ e12
          refine ⟨_, rfl, p9, us, rfl, .inl ⟨SqL.of e13, fun p14 np14 => ?_⟩⟩
          have s14 := same_new (o := .tup us) np14
          have h14 : Dq K (sans (upd H13 p14 (.tup us)) a) (.ref p14) (.tuple ds) := new_tup hp13.at_ np14 (hus.mono (Sm.of s13))
          have hp14 := hp13.new (o := .tup us) np14
          revert s14 h14 hp14
          generalize upd H13 p14 (.tup us) = H14
          intro s14 h14 hp14
          have w14 := w12.trans (Sm.of (a := a) (Same.trans s13 s14))
          refine ⟨_, rfl, _, rfl, m0, ms7, (j : Int), _, rfl, rfl, seqT w14.same hq7, atI_nat emj, pm, _, rfl, .inr (seqT w14.same hpm), fun p15 np15 => ?_⟩
          have s15 := same_new (o := .lst [.str m1, .str m2, .int (g : Int)]) np15
          have h15 : Dq K (sans (upd H14 p15 (.lst [.str m1, .str m2, .int (g : Int)])) a) (.ref p15) (.list [.str m1, .str m2, .int (g : Int)]) := new_lst hp14.at_ np15 (.cons (.str _) (.cons (.str _) (.cons (.int _) .nil)))
          have hp15 := hp14.new (o := .lst [.str m1, .str m2, .int (g : Int)]) np15
          revert s15 h15 hp15
          generalize upd H14 p15 (.lst [.str m1, .str m2, .int (g : Int)]) = H15
          intro s15 h15 hp15
          have w15 := w14.trans (Sm.of (a := a) s15)
          refine ⟨_, rfl, _, rfl, m0, ms7, (j : Int), _, rfl, rfl, seqT w15.same hq7, atI_nat emj, (by show 1 ≤ sizeLine; decide), fun p16 np16 => ?_⟩
          have s16 := same_new (o := .tup [.int 0]) np16
          have h16 : Dq K (sans (upd H15 p16 (.tup [.int 0])) a) (.ref p16) (.tuple [.int 0]) := new_tup hp15.at_ np16 (.cons (.int _) .nil)
          have hp16 := hp15.new (o := .tup [.int 0]) np16
          revert s16 h16 hp16
          generalize upd H15 p16 (.tup [.int 0]) = H16
          intro s16 h16 hp16
          have w16 := w15.trans (Sm.of (a := a) s16)
          refine catP hp16.at_ (hPm.mono w16) h16 (by show 3 + 1 ≤ 100000; decide) fun H17 v17 s17 h17 => ?_
          have hp17 := hp16.same s17
          have w17 := w16.trans (Sm.of (a := a) s17)
          refine ⟨_, rfl, _, rfl, m0, ms7, (j : Int), _, rfl, rfl, seqT w17.same hq7, atI_nat emj, (by show 1 ≤ sizeLine; decide), fun p18 np18 => ?_⟩
          have s18 := same_new (o := .tup [.str ""]) np18
          have h18 : Dq K (sans (upd H17 p18 (.tup [.str ""])) a) (.ref p18) (.tuple [.str ""]) := new_tup hp17.at_ np18 (.cons (.str _) .nil)
          have hp18 := hp17.new (o := .tup [.str ""]) np18
          revert s18 h18 hp18
          generalize upd H17 p18 (.tup [.str ""]) = H18
          intro s18 h18 hp18
          have w18 := w17.trans (Sm.of (a := a) s18)
          refine catP hp18.at_ (hPm.mono w18) h18 (by show 3 + 1 ≤ 100000; decide) fun H19 v19 s19 h19 => ?_
          have hp19 := hp18.same s19
          have w19 := w18.trans (Sm.of (a := a) s19)
          have u18 := Same.trans s18 s19
          have u16 := Same.trans s16 (Same.trans s17 u18)
          have hL2 : DqAll K (sans H19 a) [.ref p13, .ref p14, .ref p15, v17, v19] [.tuple ds, .tuple ds, .list [.str m1, .str m2, .int (g : Int)], .tuple ([.str m1, .str m2, .int (g : Int)] ++ [.int 0]), .tuple ([.str m1, .str m2, .int (g : Int)] ++ [.str ""])] :=
            .cons (h13.mono (Sm.of (Same.trans s14 (Same.trans s15 u16)))) (.cons (h14.mono (Sm.of (Same.trans s15 u16))) (.cons (h15.mono (Sm.of u16)) (.cons (h17.mono (Sm.of u18)) (.cons h19 .nil))))
          refine ⟨(by show 5 ≤ sizeLine; decide), fun p20 np20 => ?_⟩
          have s20 := same_new (o := .lst [.ref p13, .ref p14, .ref p15, v17, v19]) np20
          have e20 : upd H19 p20 (.lst [.ref p13, .ref p14, .ref p15, v17, v19]) p20 = some (.lst [.ref p13, .ref p14, .ref p15, v17, v19]) := upd_same
          have p20a := hp19.ne np20
          have hp20 := hp19.new (o := .lst [.ref p13, .ref p14, .ref p15, v17, v19]) np20
          revert s20 e20 hp20
          generalize upd H19 p20 (.lst [.ref p13, .ref p14, .ref p15, v17, v19]) = H20
          intro s20 e20 hp20
          have w20 := w19.trans (Sm.of (a := a) s20)
          refine ⟨_, rfl, _, rfl, _, rfl, slToI j (by rfl) hp20.at_ (hM.mono w20) fun H21 v21 s21 h21 => ?_⟩
          have hp21 := hp20.same s21
          refine ⟨_, rfl, _, rfl, a, c, .ref p20, _, rfl, hp21, by simp, .inl ⟨p20, rfl, SqL.of (sans_of p20a (s21 _ _ e20))⟩, by show 5 < 1073741824; decide, fun H22 x2 sm22 hp22 hx2 => ?_⟩
          obtain ⟨d2, hd2, hq2⟩ := hL2.mem hx2
          have smY : Sm a H19 H22 := (Sm.of (Same.trans s20 s21)).trans sm22
          have hit := hq2.mono smY
          have smI : Sm a H7 H22 := w19.trans smY
          have hfr : Dq K (sans H22 a) v21 (.tuple (es.take j)) := h21.mono sm22
          have hitb : ∃ k, Qk k 2 8008 d2 := by
            simp only [List.mem_cons, List.not_mem_nil, or_false] at hd2
            rcases hd2 with rfl | rfl | rfl | rfl | rfl
            · exact qus
            · exact qus
            · exact ⟨true, (Qk.lst (qm true) (Nat.le_refl _)).mono (by decide) (by show 3 * 4 ≤ 8008; decide)⟩
            · refine ⟨true, (Qk.tup (k := true) (n := 0) (B := 3) (fun d hd => ?_) (Nat.le_refl _)).mono (by decide) (by show 4 * 4 ≤ 8008; decide)⟩
              rcases List.mem_append.mp hd with h | h
              · exact qm true d h
              · rw [List.mem_singleton.mp h]
                exact .int (by decide) (by decide) (by decide)
            · refine ⟨true, (Qk.tup (k := true) (n := 0) (B := 3) (fun d hd => ?_) (Nat.le_refl _)).mono (by decide) (by show 4 * 4 ≤ 8008; decide)⟩
              rcases List.mem_append.mp hd with h | h
              · exact qm true d h
              · rw [List.mem_singleton.mp h]
                exact .str (by decide) (by decide +kernel)
          refine ⟨(by show 1 ≤ sizeLine; decide), fun p23 np23 => ?_⟩
          have s23 := same_new (o := .tup [x2]) np23
          have h23 : Dq K (sans (upd H22 p23 (.tup [x2])) a) (.ref p23) (.tuple [d2]) := new_tup hp22.at_ np23 (.cons hit .nil)
          have hp23 := hp22.new (o := .tup [x2]) np23
          revert s23 h23 hp23
          generalize upd H22 p23 (.tup [x2]) = H23
          intro s23 h23 hp23
          have hf23 := hfr.mono (Sm.of (a := a) s23)
          refine catP hp23.at_ hf23 h23 (by show (es.take j).length + 1 ≤ 100000; omega) fun H24 v24 s24 h24 => ?_
          have hp24 := hp23.same s24
          have smT := smI.trans (Sm.of (a := a) (Same.trans s23 s24))
          refine ⟨_, rfl, _, rfl, _, _, rfl, rfl, _, rfl, ?_⟩
          dsimp only [tNoPart]
          refine slFromI (j + 1) (by rfl) hp24.at_ (hM.mono smT) fun H25 v25 s25 h25 => ?_
          have hp25 := hp24.same s25
          refine catP hp25.at_ (h24.mono (Sm.of s25)) h25 (by rw [List.length_append]; show (es.take j).length + 1 + (es.drop (j + 1)).length ≤ 100000; omega) fun H26 v26 s26 h26 => ?_
          have hp26 := hp25.same s26
          have smU := smT.trans (Sm.of (a := a) (Same.trans s25 s26))
          refine ⟨_, rfl, (by show 2 ≤ sizeLine; decide), fun p27 np27 => ?_⟩
          refine ⟨.ref p27, .tuple [.tuple (es.take j ++ [d2] ++ es.drop (j + 1)), ld], _, _, _, rfl, new_tup hp26.at_ np27 (.cons h26 (.cons (hLd.mono smU) .nil)), ?_, smU.trans (Sm.new np27), hp26.new np27⟩
          obtain ⟨k, hk⟩ := hitb
          exact stBad k hk
    · rintro σ H8 ⟨sv, sd, s9, s13, s14, rfl, hsv, ⟨k, hk⟩, sm8, hp8⟩
      have hT8 := hT.mono sm8
      refine ⟨_, rfl, _, rfl, _, rfl, _, rfl, _, rfl, slToI i (by rfl) hp8.at_ hT8 fun H9 v9 s9 h9 => ?_⟩
      have hp9 := hp8.same s9
      refine ⟨_, rfl, (by show 1 ≤ sizeLine; decide), fun p10 np10 => ?_⟩
      have s10 := same_new (o := .tup [sv]) np10
      have h10 : Dq K (sans (upd H9 p10 (.tup [sv])) a) (.ref p10) (.tuple [sd]) := new_tup hp9.at_ np10 (.cons (hsv.mono (Sm.of s9)) .nil)
      have hp10 := hp9.new (o := .tup [sv]) np10
      revert s10 h10 hp10
      generalize upd H9 p10 (.tup [sv]) = H10
      intro s10 h10 hp10
      have lt1 : (ss.take i).length ≤ 4 := by
        rw [List.length_take]
        omega
      have lt2 : (ss.drop (i + 1)).length ≤ 4 := by
        rw [List.length_drop]
        omega
      refine catP hp10.at_ (h9.mono (Sm.of s10)) h10 (by show (ss.take i).length + 1 ≤ 100000; omega) fun H11 v11 s11 h11 => ?_
      have hp11 := hp10.same s11
      have sA := Same.trans s9 (Same.trans s10 s11)
      refine ⟨_, rfl, _, rfl, _, _, rfl, rfl, _, rfl, ?_⟩
      dsimp only [tNoPart]
      refine slFromI (i + 1) (by rfl) hp11.at_ (hT8.mono (Sm.of sA)) fun H12 v12 s12 h12 => ?_
      have hp12 := hp11.same s12
      refine catP hp12.at_ (h11.mono (Sm.of s12)) h12 (by rw [List.length_append]; show (ss.take i).length + 1 + (ss.drop (i + 1)).length ≤ 100000; omega) fun H13 v13 s13 h13 => ?_
      have hp13 := hp12.same s13
      refine ⟨(by show 3 ≤ sizeLine; decide), fun p14 np14 => ?_⟩
      refine fin _ _ (.tuple [.str z, .str f, .tuple (ss.take i ++ [sd] ++ ss.drop (i + 1))]) ((sm7.trans sm8).trans ((Sm.of (Same.trans sA (Same.trans s12 s13))).trans (Sm.new np14))) (hp13.new np14) (new_tup hp13.at_ np14 (.cons (.str _) (.cons (.str _) (.cons h13 .nil)))) ?_
      have qX : Qk k 5 320375 (.tuple (ss.take i ++ [sd] ++ ss.drop (i + 1))) := by
        refine Qk.tup (n := 4) (B := 64074) (fun d hd => ?_) ?_
        · exact mid_bad (fun e he => (qs k e (List.mem_of_mem_take he)).mono (by decide) (by decide)) (fun e he => (qs k e (List.mem_of_mem_drop he)).mono (by decide) (by decide)) hk hd
        · have ll : (ss.take i ++ [sd] ++ ss.drop (i + 1)).length ≤ 4 := by
            rw [List.length_append, List.length_append, List.length_take, List.length_drop]
            show min i ss.length + 1 + (ss.length - (i + 1)) ≤ 4
            omega
          exact Nat.le_trans (Nat.mul_le_mul_right _ ll) (by decide)
      exact Bad.of (tup3 (k := k) (qz k 5 320375 (by decide)) (qf k 5 320375 (by decide)) qX (Nat.le_refl _)) (by decide) (by decide)
end
end K14

namespace K14
open PySem PySem.Spec PyProof.Rows L2 G Lk
section
variable {P : Program} {w : World} {K : PySem.W.Frag} {mg : Str → Option Value} {base : Heap}
def sp_Lword (K : PySem.W.Frag) (mg : Str → Option Value) (T : Tx K mg) : Sp := fun vs H Q _ => ∃ (ch : Int) (x y u : V) (d dy du : PyData) (W : V), vs = [.int ch, x, y, u] ∧ Dq K H x d ∧ Dq K H y dy ∧ Dq K H u du ∧ ReprOk (.tuple [d, dy, du]) ∧
  (∀ (H1 : Hp) (Q' : VK) (E' : XK), Same H H1 → (W = .non → ∀ v H', Same H1 H' → Q' v H') → (W = .str "expander" → ∀ H', Same H1 H' → E' (.ref T.a_NoExpander) none H') → (W = .str "text" → ∀ H', Same H1 H' → E' (.ref T.a_NoText) none H') →
    (W = .str "call" → ∀ H', Same H1 H' → E' (.ref T.a_NoCall) none H') → (W = .non → ∀ k th, noOutE K T.a_NoOutcome E' H1 k th) → do14 K mg T ch x y u H1 Q' E') ∧ ∀ H', Same H H' → Q W H'
/-- def _law_word(choice, one, two, three): -/
theorem ok_Lword (T : Tx K mg) : FnG P w K mg base CX0 10 T.a__law_word T.fd__law_word ["choice", "one", "two", "three"] (sp_Lword K mg T) := by
  refine T.F__law_word.okG sc_Lword (fun vs H Q E h => ?_) (fun cdv A outer s H vs Q E gd hr h => ?_)
  · obtain ⟨_, _, _, _, _, _, _, _, rfl, _⟩ := h
    rfl
  · refine ⟨_, (pss_cons (ps_par (i := 4) (j := 5) (by rfl) sc_Lword.nd rfl rfl (by decide) rfl rfl (pa_cons pe_non (pa_cons (pe_callB (call_repr_data gd hr.units) (by rfl) T.z_repr (by decide +kernel) (pa_cons (pe_tup (pa_cons (pv 1) (pa_cons (pv 2) (pa_cons (pv 3) pa_nil)))) pa_nil)) pa_nil)) (by rfl))
    (C8.pss_cut (ps_try_names (Wout := fun _ _ _ _ => False) rfl rfl takes0 (fun W pn xe tk po => (pss_one (ps_expr (by exact (pe_callS (ok_Ldo T) (hr.mono (by decide)) (by rfl) T.g__law_do T.F__law_do.kp T.b__law_do (fun σ => passAt tk σ) (by exact (pa_cons (pv 0) (pa_cons (pv 1) (pa_cons (pv 2) (pa_cons (pv 3) pa_nil)))))))))) (.more (i := 6) ⟨rfl, by decide, .inl T.g_NoExpander⟩ sc_Lword.nd rfl rfl (fun a oe cls d pn hz hf => (pss_one (ps_set (i := 4) sc_Lword.nd rfl (by first | exact Or.inl rfl | exact Or.inr rfl) pe_str))) (.more (i := 6) ⟨rfl, by decide, .inl T.g_NoText⟩ sc_Lword.nd rfl rfl (fun a oe cls d pn hz hf => (pss_one (ps_set (i := 4) sc_Lword.nd rfl (by first | exact Or.inl rfl | exact Or.inr rfl) pe_str))) (.more (i := 6) ⟨rfl, by decide, .inl T.g_NoCall⟩ sc_Lword.nd rfl rfl (fun a oe cls d pn hz hf => (pss_one (ps_set (i := 4) sc_Lword.nd rfl (by first | exact Or.inl rfl | exact Or.inr rfl) pe_str))) (.more (i := 6) ⟨rfl, by decide, .inl T.g_NoOutcome⟩ sc_Lword.nd rfl rfl (fun a oe cls d pn hz hf => (pss_one (ps_set (i := 4) sc_Lword.nd rfl (by first | exact Or.inl rfl | exact Or.inr rfl) pe_non))) .none)))))
    (pss_one (ps_ret (pe_ifExp (pt_cmpR op_eq (pe_callB (call_repr_data gd hr.units) (by rfl) T.z_repr (by decide +kernel) (pa_cons (pe_tup (pa_cons (pv 1) (pa_cons (pv 2) (pa_cons (pv 3) pa_nil)))) pa_nil)) (pv 5) (nomark _)) (pv 4) pe_str))))), ?_⟩
    obtain ⟨ch, x, y, u, d, dy, du, W, rfl, hx, hy, hu, sh, hdo, q⟩ := h
    refine ⟨_, rfl, _, rfl, _, rfl, (by show 3 ≤ sizeLine; decide), fun p np => ?_⟩
    have s1 := same_new (o := .tup [x, y, u]) np
    have hp : Dq K (upd H p (.tup [x, y, u])) (.ref p) (.tuple [d, dy, du]) := .tup (SqT.of upd_same) (.cons (hx.mono s1) (.cons (hy.mono s1) (.cons (hu.mono s1) .nil)))
    revert s1 hp
    generalize upd H p (.tup [x, y, u]) = H1
    intro s1 hp
    refine ⟨.ref p, _, rfl, hp, sh, ?_⟩
    refine ⟨_, _, rfl, fun σ H' => ∃ (t6 : Option V), σ = [some (.int ch), some x, some y, some u, some W, some (.str (PyData.tuple [d, dy, du]).shown), t6] ∧ Same H H', ?_, ?_⟩
    · refine ⟨_, rfl, _, rfl, _, rfl, _, rfl, ch, x, y, u, rfl, fun H2 s2 => hdo H2 _ _ (Same.trans s1 s2) (fun e v H3 s3 => ?_) (fun e H3 s3 => ?_) (fun e H3 s3 => ?_) (fun e H3 s3 => ?_) (fun e k th H3 dd n s3 ed hn => ?_)⟩
      · subst e
        exact ⟨none, rfl, Same.trans s1 (Same.trans s2 s3)⟩
      · subst e
        exact ⟨true, T.e_NoExpander_NoExpander, fun _ a na => ⟨_, rfl, Same.trans s1 (Same.trans s2 s3)⟩, fun z => nomatch z⟩
      · subst e
        exact ⟨false, T.e_NoText_NoExpander, (fun z => nomatch z), fun _ => ⟨true, T.e_NoText_NoText, fun _ a na => ⟨_, rfl, Same.trans s1 (Same.trans s2 s3)⟩, fun z => nomatch z⟩⟩
      · subst e
        exact ⟨false, T.e_NoCall_NoExpander, (fun z => nomatch z), fun _ => ⟨false, T.e_NoCall_NoText, (fun z => nomatch z), fun _ => ⟨true, T.e_NoCall_NoCall, fun _ a na => ⟨_, rfl, Same.trans s1 (Same.trans s2 s3)⟩, fun z => nomatch z⟩⟩⟩
      · subst e
        exact ⟨false, T.e_NoOutcome_NoExpander, (fun z => nomatch z), fun _ => ⟨false, T.e_NoOutcome_NoText, (fun z => nomatch z), fun _ => ⟨false, T.e_NoOutcome_NoCall, (fun z => nomatch z), fun _ => ⟨true, T.e_NoOutcome_NoOutcome, fun _ a na => ⟨_, rfl, Same.trans s1 (Same.trans s2 s3)⟩, fun z => nomatch z⟩⟩⟩⟩
    · rintro σ H2 ⟨t6, rfl, s2⟩
      refine ⟨_, rfl, _, rfl, _, rfl, (by show 3 ≤ sizeLine; decide), fun p2 np2 => ?_⟩
      have s3 := same_new (o := .tup [x, y, u]) np2
      have s23 := Same.trans s2 s3
      refine ⟨.ref p2, _, rfl, .tup (SqT.of upd_same) (.cons (hx.mono s23) (.cons (hy.mono s23) (.cons (hu.mono s23) .nil))), sh, _, rfl, rfl, _, rfl, ?_⟩
      exact if_true (decide_eq_true rfl) ⟨_, rfl, q _ s23⟩
end
end K14

namespace K14
open PySem PySem.Spec PyProof.Rows L2 G Lk
section
variable {P : Program} {w : World} {K : PySem.W.Frag} {mg : Str → Option Value} {base : Heap}
def sp_law (K : PySem.W.Frag) : Sp := fun vs H Q _ => ∃ (a : Addr) (ns : List Int), vs = [.ref a] ∧ SqL K H a (ns.map V.int) ∧ ns.length ≤ 63 ∧ ∀ H', Q (.bl true) H'
section
variable {T : Tx K mg} {H : Hp} {Q : VK} {x y u : V} {d dy du : PyData}
/-- what is no expander -/
theorem word_no {ch : Nat} (hch : ch < 10) (hx : Dq K H x d) (hy : Dq K H y dy) (hu : Dq K H u du) (lx : Light d) (ly : Light dy) (lu : Light du) (sh : ReprOk (.tuple [d, dy, du])) (he : expB d = false) (q : ∀ H', Same H H' → Q (.str "expander") H') :
    sp_Lword K mg T [.int (ch : Int), x, y, u] H Q E0 := by
  refine ⟨_, x, y, u, d, dy, du, .str "expander", rfl, hx, hy, hu, sh, fun H1 Q' E' s1 _ kE _ _ _ => ?_, q⟩
  have kE := kE rfl
  have no : ∀ {p : Prop}, expB d = true → p := fun h => (Bool.false_ne_true (he.symm.trans h)).elim
  have hx := hx.mono s1
  have hy := hy.mono s1
  have hu := hu.mono s1
  match ch, hch with
  | 0, _ => exact .inl ⟨rfl, x, d, rfl, hx, lx, he, kE⟩
  | 1, _ => exact .inr (.inl ⟨rfl, x, d, rfl, hx, lx, he, kE⟩)
  | 2, _ => exact .inr (.inr (.inl ⟨rfl, x, d, rfl, hx, lx, he, kE⟩))
  | 3, _ => exact .inr (.inr (.inr (.inl ⟨rfl, x, y, d, dy, rfl, hx, hy, lx, ly, fun _ => kE, fun _ _ _ _ h => no h⟩)))
  | 4, _ => exact .inr (.inr (.inr (.inr (.inl ⟨rfl, x, y, d, dy, rfl, hx, hy, lx, ly, fun _ => kE, fun _ _ _ _ h => no h⟩))))
  | 5, _ => exact .inr (.inr (.inr (.inr (.inr (.inl ⟨rfl, x, y, 100, d, dy, rfl, hx, hy, lx, ly, by decide, fun _ => kE, fun _ _ _ _ h => no h⟩)))))
  | 6, _ => exact .inr (.inr (.inr (.inr (.inr (.inr (.inl ⟨rfl, x, y, d, dy, rfl, hx, hy, lx, ly, fun _ => kE, fun _ _ _ _ h => no h⟩))))))
  | 7, _ => exact .inr (.inr (.inr (.inr (.inr (.inr (.inr (.inl ⟨rfl, x, y, d, rfl, hx, lx, he, kE⟩)))))))
  | 8, _ => exact .inr (.inr (.inr (.inr (.inr (.inr (.inr (.inr (.inl ⟨rfl, x, y, u, d, dy, du, rfl, hx, hy, hu, lx, lu, fun _ => kE, fun h => no h, fun _ _ _ _ _ h => no h⟩))))))))
  | 9, _ => exact .inr (.inr (.inr (.inr (.inr (.inr (.inr (.inr (.inr ⟨rfl, x, y, u, d, dy, du, rfl, hx, hy, hu, lx, lu, fun _ => kE, fun h => no h, fun _ _ _ _ _ h => no h⟩))))))))
variable {z f : Str} {ss : List PyData}
/-- what is no text of the signs -/
theorem word_text {ch : Nat} (hch : ch = 3 ∨ ch = 5 ∨ ch = 6) (hx : Dq K H x (.tuple [.str z, .str f, .tuple ss])) (hy : Dq K H y dy) (hu : Dq K H u du) (lx : Light (.tuple [.str z, .str f, .tuple ss])) (ly : Light dy) (sh : ReprOk (.tuple [.tuple [.str z, .str f, .tuple ss], dy, du])) (he : expB (.tuple [.str z, .str f, .tuple ss]) = true)
    (ht : isText z dy = false) (q : ∀ H', Same H H' → Q (.str "text") H') : sp_Lword K mg T [.int (ch : Int), x, y, u] H Q E0 := by
  refine ⟨_, x, y, u, _, dy, du, .str "text", rfl, hx, hy, hu, sh, fun H1 Q' E' s1 _ _ kT _ _ => ?_, q⟩
  have kT := kT rfl
  have no : ∀ {p : Prop}, expB (.tuple [.str z, .str f, .tuple ss]) = false → p := fun h => (Bool.false_ne_true (h.symm.trans he)).elim
  have nt : ∀ {p : Prop}, isText z dy = true → p := fun h => (Bool.false_ne_true (ht.symm.trans h)).elim
  have hx := hx.mono s1
  have hy := hy.mono s1
  rcases hch with rfl | rfl | rfl
  · refine .inr (.inr (.inr (.inl ⟨rfl, x, y, _, dy, rfl, hx, hy, lx, ly, fun h => no h, fun z' f' ss' e _ => ?_⟩)))
    cases e
    exact ⟨fun _ => kT, fun t _ h => nt h⟩
  · refine .inr (.inr (.inr (.inr (.inr (.inl ⟨rfl, x, y, 100, _, dy, rfl, hx, hy, lx, ly, by decide, fun h => no h, fun z' f' ss' e _ => ?_⟩)))))
    cases e
    exact ⟨fun _ => kT, fun t _ h => nt h⟩
  · refine .inr (.inr (.inr (.inr (.inr (.inr (.inl ⟨rfl, x, y, _, dy, rfl, hx, hy, lx, ly, fun h => no h, fun z' f' ss' e _ => ?_⟩))))))
    cases e
    exact ⟨fun _ => kT, fun t _ h => nt h⟩
/-- a text of the signs -/
theorem word_right {t : Str} {ch : Nat} (hch : ch = 3 ∨ ch = 5 ∨ ch = 6) (hx : Dq K H x (.tuple [.str z, .str f, .tuple ss])) (hu : Dq K H u du) (lx : Light (.tuple [.str z, .str f, .tuple ss])) (ly : Light (.str t)) (sh : ReprOk (.tuple [.tuple [.str z, .str f, .tuple ss], .str t, du])) (he : expB (.tuple [.str z, .str f, .tuple ss]) = true)
    (hs : ∀ c w, Val z ss c w → w.1.length ≤ 30) (hlast : ∀ u g, rd (valOf z ss) t.cps.toList (f.cps.toList, 0) = some (u, g) → ∀ w, lastD ss g = .str w → (tx u ++ w).length ≤ 2000) (ht : isText z (.str t) = true) (q : ∀ H', Same H H' → Q .non H') : sp_Lword K mg T [.int (ch : Int), x, .str t, u] H Q E0 := by
  refine ⟨_, x, .str t, u, _, .str t, du, .non, rfl, hx, .str t, hu, sh, fun H1 Q' E' s1 kQ _ _ _ kN => ?_, q⟩
  have kQ := kQ rfl
  have kN := kN rfl
  have no : ∀ {p : Prop}, expB (.tuple [.str z, .str f, .tuple ss]) = false → p := fun h => (Bool.false_ne_true (h.symm.trans he)).elim
  have nt : ∀ {p : Prop}, isText z (.str t) = false → p := fun h => (Bool.false_ne_true (h.symm.trans ht)).elim
  have hx := hx.mono s1
  rcases hch with rfl | rfl | rfl
  · refine .inr (.inr (.inr (.inl ⟨rfl, x, .str t, _, .str t, rfl, hx, .str t, lx, ly, fun h => no h, fun z' f' ss' e _ => ?_⟩)))
    cases e
    exact ⟨fun h => nt h, fun t' _ _ H' r s _ => kQ r H' s⟩
  · refine .inr (.inr (.inr (.inr (.inr (.inl ⟨rfl, x, .str t, 100, _, .str t, rfl, hx, .str t, lx, ly, by decide, fun h => no h, fun z' f' ss' e _ => ?_⟩)))))
    cases e
    exact ⟨fun h => nt h, fun t' _ _ H' r s _ _ => kQ _ H' s⟩
  · refine .inr (.inr (.inr (.inr (.inr (.inr (.inl ⟨rfl, x, .str t, _, .str t, rfl, hx, .str t, lx, ly, fun h => no h, fun z' f' ss' e _ => ?_⟩))))))
    cases e
    refine ⟨fun h => nt h, fun t' et _ => ⟨fun ⟨c, w, hw, hb⟩ => ?_, fun _ => ⟨fun c _ => kN _ _, fun uu g hr => ⟨fun _ => kN _ _, fun w hw => ⟨fun hb => ?_, fun _ H' s => kQ _ H' s⟩⟩⟩⟩⟩
    · have := hs c w hw
      omega
    · cases et
      have := hlast uu g hr w hw
      omega
/-- what is no call -/
theorem word_call {ch : Nat} (hch : ch = 8 ∨ ch = 9) (hx : Dq K H x (.tuple [.str z, .str f, .tuple ss])) (hy : Dq K H y dy) (hu : Dq K H u du) (lx : Light (.tuple [.str z, .str f, .tuple ss])) (lu : Light du) (sh : ReprOk (.tuple [.tuple [.str z, .str f, .tuple ss], dy, du])) (he : expB (.tuple [.str z, .str f, .tuple ss]) = true)
    (hc : callB (.tuple [.str z, .str f, .tuple ss]) dy du = false) (q : ∀ H', Same H H' → Q (.str "call") H') : sp_Lword K mg T [.int (ch : Int), x, y, u] H Q E0 := by
  refine ⟨_, x, y, u, _, dy, du, .str "call", rfl, hx, hy, hu, sh, fun H1 Q' E' s1 _ _ _ kC _ => ?_, q⟩
  have kC := kC rfl
  have no : ∀ {p : Prop}, expB (.tuple [.str z, .str f, .tuple ss]) = false → p := fun h => (Bool.false_ne_true (h.symm.trans he)).elim
  have nc : ∀ {p : Prop}, callB (.tuple [.str z, .str f, .tuple ss]) dy du = true → p := fun h => (Bool.false_ne_true (hc.symm.trans h)).elim
  have hx := hx.mono s1
  have hy := hy.mono s1
  have hu := hu.mono s1
  rcases hch with rfl | rfl
  · exact .inr (.inr (.inr (.inr (.inr (.inr (.inr (.inr (.inl ⟨rfl, x, y, u, _, dy, du, rfl, hx, hy, hu, lx, lu, fun h => no h, fun _ _ => kC, fun _ _ _ _ _ _ h => nc h⟩))))))))
  · exact .inr (.inr (.inr (.inr (.inr (.inr (.inr (.inr (.inr ⟨rfl, x, y, u, _, dy, du, rfl, hx, hy, hu, lx, lu, fun h => no h, fun _ _ => kC, fun _ _ _ _ _ _ h => nc h⟩))))))))
/-- a call -/
theorem word_value {ch : Nat} (hch : ch = 8 ∨ ch = 9) (hx : Dq K H x (.tuple [.str z, .str f, .tuple ss])) (hy : Dq K H y dy) (hu : Dq K H u du) (lx : Light (.tuple [.str z, .str f, .tuple ss])) (lu : Light du) (sh : ReprOk (.tuple [.tuple [.str z, .str f, .tuple ss], dy, du])) (he : expB (.tuple [.str z, .str f, .tuple ss]) = true)
    (hs : ∀ c w, Val z ss c w → w.1.length ≤ 30) (hc : callB (.tuple [.str z, .str f, .tuple ss]) dy du = true) (q : ∀ H', Same H H' → Q .non H') : sp_Lword K mg T [.int (ch : Int), x, y, u] H Q E0 := by
  refine ⟨_, x, y, u, _, dy, du, .non, rfl, hx, hy, hu, sh, fun H1 Q' E' s1 kQ _ _ _ kN => ?_, q⟩
  have kQ := kQ rfl
  have kN := kN rfl
  have no : ∀ {p : Prop}, expB (.tuple [.str z, .str f, .tuple ss]) = false → p := fun h => (Bool.false_ne_true (h.symm.trans he)).elim
  have nc : ∀ {p : Prop}, callB (.tuple [.str z, .str f, .tuple ss]) dy du = false → p := fun h => (Bool.false_ne_true (h.symm.trans hc)).elim
  have hx := hx.mono s1
  have hy := hy.mono s1
  have hu := hu.mono s1
  have big : ∀ {p : Prop}, (∃ c w, Val z ss c w ∧ 2000 < w.1.length) → p := fun ⟨c, w, h1, h2⟩ => by
    have := hs c w h1
    omega
  rcases hch with rfl | rfl
  · refine .inr (.inr (.inr (.inr (.inr (.inr (.inr (.inr (.inl ⟨rfl, x, y, u, _, dy, du, rfl, hx, hy, hu, lx, lu, fun h => no h, fun _ h => nc h, fun z' f' ss' c e _ _ _ _ _ => ?_⟩))))))))
    cases e
    exact ⟨fun h => big h, fun _ => ⟨fun w _ H' r s _ => kQ r H' s, fun _ => kN _ _⟩⟩
  · refine .inr (.inr (.inr (.inr (.inr (.inr (.inr (.inr (.inr ⟨rfl, x, y, u, _, dy, du, rfl, hx, hy, hu, lx, lu, fun h => no h, fun _ h => nc h, fun z' f' ss' c e _ _ _ _ _ => ?_⟩))))))))
    cases e
    exact ⟨fun h => big h, fun _ H' r us s _ _ _ => kQ _ H' s⟩
end
theorem word_repr {k : Bool} {n B1 B2 B3 : Nat} {d dy du : PyData} (h1 : Qk k n B1 d) (h2 : Qk k n B2 dy) (h3 : Qk k n B3 du) (hn : n ≤ 59) (hB : B1 + B2 + B3 + 3 ≤ 1048576) : ReprOk (.tuple [d, dy, du]) := by
  have m1 : Qk k n (B1 + B2 + B3) d := h1.mono (Nat.le_refl _) (by omega)
  have m2 : Qk k n (B1 + B2 + B3) dy := h2.mono (Nat.le_refl _) (by omega)
  have m3 : Qk k n (B1 + B2 + B3) du := h3.mono (Nat.le_refl _) (by omega)
  have t := tup3 m1 m2 m3 (Nat.le_refl _)
  refine Shows.ok ⟨t.leaves, ?_, t.shape, fun e => ?_, Nat.le_trans t.depth (by omega)⟩
  · have w1 := h1.weight
    have w2 := h2.weight
    have w3 := h3.weight
    simp only [PyData.weight, PyData.weightAll]
    omega
  · cases k with
    | true =>
      rw [t.noD rfl] at e
      cases e
    | false => exact t.noL rfl
theorem rd_bound {f : Lk.Cl → Option Lk.Wt} {n : Nat} (hf : ∀ c w, f c = some w → w.1.length ≤ n) : ∀ {l : List Nat} {a b : Lk.Wt}, Lk.rd f l a = some b → b.1.length ≤ a.1.length + n * l.length
  | [], a, b, h => by
    cases h
    omega
  | d :: l, a, b, h => by
    obtain ⟨v, e1, e2⟩ := Lk.rd_cons h
    have h1 := rd_bound hf e2
    have h2 := hf _ _ e1
    rw [List.length_append] at h1
    rw [List.length_cons, Nat.mul_add]
    omega
theorem last_short {z : Str} {n : Nat} {ss : List PyData} (hss : ∀ s ∈ ss, StateD z n s) {g : Nat} {w : Str} (h : Lk.lastD ss g = .str w) : w.length ≤ 3 := by
  unfold Lk.lastD at h
  rw [List.getD_eq_getElem?_getD] at h
  cases e : ss[g]? with
  | none =>
    rw [e] at h
    cases h
  | some s =>
    rw [e] at h
    obtain ⟨ms, l, rfl, _, _, hl⟩ := hss s (List.mem_of_getElem? e)
    have h : l = .str w := h
    subst h
    rcases hl with h | ⟨w', h, hw⟩
    · cases h
    · cases h
      exact hw.1
theorem not_in {z w : Str} {c : Nat} (h1 : c ∈ w.cps.toList) (h2 : c ∉ z.cps.toList) : isText z (.str w) = false := by
  show (allIn z w && _) = false
  cases e : allIn z w with
  | false => rfl
  | true => exact absurd (allIn_mem e c h1) h2
theorem signB_one {z : Str} (c : Nat) : signB z (.str (Ls.one c)) = decide (c ∈ z.cps.toList) := by
  show (decide ((Ls.one c).length = 1) && !(Builtin.Str.occurrences z (Ls.one c) 0 z.length 1).isEmpty) = _
  have e := PySem.StrLaws.found_one z c
  have e' : (!(Builtin.Str.occurrences z (Ls.one c) 0 z.length 1).isEmpty) = decide (c ∈ z.cps.toList) := e
  rw [e', decide_eq_true (show (Ls.one c).length = 1 from rfl)]
  rfl
theorem signB_len {z y : Str} (h : y.length ≠ 1) : signB z (.str y) = false := by
  show (decide (y.length = 1) && _) = false
  rw [decide_eq_false h]
  rfl
/-- def law(script): -/
theorem ok_law (T : Tx K mg) : FnG P w K mg base CX0 11 T.a_law T.fd_law ["script"] (sp_law K) := by
  refine T.F_law.okG sc_law (fun vs H Q E h => ?_) (fun cdv A outer s H vs Q E gd hr h => ?_)
  · obtain ⟨_, _, rfl, _⟩ := h
    rfl
  · refine ⟨_, (pss_cons (ps_set (i := 1) sc_law.nd rfl (by first | exact Or.inl rfl | exact Or.inr rfl) (pe_call (ok_Lpot_of T) (hr.mono (by decide)) (by rfl) T.g__law_pot_of T.F__law_pot_of.kp T.b__law_pot_of .nil pass0 (pa_cons (pv 0) pa_nil)))
    (pss_cons (ps_for PassesOwn.never rfl (pi_range1 (by rfl) T.z_range (pa_cons pe_int pa_nil)) (pg_name (i := 2) sc_law.nd rfl (by first | exact Or.inl rfl | exact Or.inr rfl))
      (pss_cons (ps_set (i := 3) sc_law.nd rfl (by first | exact Or.inl rfl | exact Or.inr rfl) (pe_call (ok_Lsome_expander T) (hr.mono (by decide)) (by rfl) T.g__law_some_expander T.F__law_some_expander.kp T.b__law_some_expander .nil pass0 (pa_cons (pv 1) (pa_cons pe_int pa_nil))))
    (pss_cons (ps_par (i := 7) (j := 8) (by rfl) sc_law.nd rfl rfl (by decide) rfl rfl (pa_cons (pe_ix ix_tup (pv 3) pe_int (fun _ _ => rfl)) (pa_cons (pe_call (ok_Lspoilt T) (hr.mono (by decide)) (by rfl) T.g__law_spoilt T.F__law_spoilt.kp T.b__law_spoilt .nil pass0 (pa_cons (pv 1) (pa_cons (pv 3) pa_nil))) pa_nil)) (by rfl))
    (pss_cons (ps_for PassesOwn.never rfl (pi_list (pe_op op_cat (pe_lst (pa_cons pe_non (pa_cons (pe_tup pa_nil) (pa_cons (pe_lst pa_nil) (pa_cons pe_dnewK (pa_cons pe_str (pa_cons pe_int pa_nil))))))) (pe_op op_rep (pe_lst (pa_cons (pv 8) pa_nil)) (pe_callTy call_int1 (by rfl) T.z_int (by decide +kernel) (pa_cons (pe_not (pe_call (ok_Lis_expander T) (hr.mono (by decide)) (by rfl) T.g__law_is_expander T.F__law_is_expander.kp T.b__law_is_expander .nil pass0 (pa_cons (pv 8) pa_nil))) pa_nil))))) (pg_name (i := 4) sc_law.nd rfl (by first | exact Or.inl rfl | exact Or.inr rfl))
      (pss_one (ps_for PassesOwn.never rfl (pi_range1 (by rfl) T.z_range (pa_cons pe_int pa_nil)) (pg_name (i := 6) sc_law.nd rfl (by first | exact Or.inl rfl | exact Or.inr rfl))
      (pss_one (ps_if (pt_cmpR (op_neD hr.units) (pe_callG (ok_Lword T) gd (hr.mono (by decide)) (by rfl) T.g__law_word T.F__law_word.kp T.b__law_word .nil pass0 (pa_cons (pv 6) (pa_cons (pv 4) (pa_cons (pe_call (ok_Lpick T) (hr.mono (by decide)) (by rfl) T.g__law_pick T.F__law_pick.kp T.b__law_pick .nil pass0 (pa_cons (pv 1) (pa_cons (pe_lst (pa_cons pe_str (pa_cons pe_non (pa_cons pe_int pa_nil)))) pa_nil))) (pa_cons pe_str pa_nil))))) pe_str (nomark _))
      (pss_one (ps_ret pe_bl))
      pss_nil)))))
    (pss_cons (ps_for PassesOwn.never rfl (pi_list (pe_lst (pa_cons pe_non (pa_cons pe_int (pa_cons pe_str (pa_cons pe_str (pa_cons (pe_op op_add_str (pv 7) pe_str) (pa_cons (pe_tup (pa_cons (pv 7) pa_nil)) (pa_cons (pe_lst (pa_cons (pv 7) pa_nil)) (pa_cons pe_bl (pa_cons (pe_op op_mulS (pe_ix ix_str (pv 7) pe_int (fun _ _ => rfl)) pe_int) (pa_cons pe_str (pa_cons pe_dnewK pa_nil))))))))))))) (pg_name (i := 5) sc_law.nd rfl (by first | exact Or.inl rfl | exact Or.inr rfl))
      (pss_one (ps_for PassesOwn.never rfl (pi_tup (pe_tup (pa_cons pe_int (pa_cons pe_int (pa_cons pe_int pa_nil))))) (pg_name (i := 6) sc_law.nd rfl (by first | exact Or.inl rfl | exact Or.inr rfl))
      (pss_one (ps_if (pt_cmpR (op_neD hr.units) (pe_callG (ok_Lword T) gd (hr.mono (by decide)) (by rfl) T.g__law_word T.F__law_word.kp T.b__law_word .nil pass0 (pa_cons (pv 6) (pa_cons (pv 3) (pa_cons (pv 5) (pa_cons pe_int pa_nil))))) pe_str (nomark _))
      (pss_one (ps_ret pe_bl))
      pss_nil)))))
    (pss_cons (ps_for PassesOwn.never rfl (pi_tup (pe_tup (pa_cons pe_int (pa_cons pe_int (pa_cons pe_int pa_nil))))) (pg_name (i := 6) sc_law.nd rfl (by first | exact Or.inl rfl | exact Or.inr rfl))
      (pss_one (ps_if (pt_cmpR op_notN (pe_callG (ok_Lword T) gd (hr.mono (by decide)) (by rfl) T.g__law_word T.F__law_word.kp T.b__law_word .nil pass0 (pa_cons (pv 6) (pa_cons (pv 3) (pa_cons (pe_call (ok_Lpick T) (hr.mono (by decide)) (by rfl) T.g__law_pick T.F__law_pick.kp T.b__law_pick .nil pass0 (pa_cons (pv 1) (pa_cons (pe_lst (pa_cons pe_str (pa_cons (pv 7) (pa_cons (pe_op op_mulS (pe_ix ix_str (pv 7) pe_int (fun _ _ => rfl)) pe_int) pa_nil)))) pa_nil))) (pa_cons pe_int pa_nil))))) pe_non (nomark _))
      (pss_one (ps_ret pe_bl))
      pss_nil)))
    (pss_one (ps_for PassesOwn.never rfl (pi_tup (pe_tup (pa_cons pe_int (pa_cons pe_int pa_nil)))) (pg_name (i := 6) sc_law.nd rfl (by first | exact Or.inl rfl | exact Or.inr rfl))
      (pss_cons (ps_for PassesOwn.never rfl (pi_tup (pe_tup (pa_cons (pe_callB call_len_seq (by rfl) T.z_len PySem.boot_len (pa_cons (pe_ix ix_tup (pv 3) pe_int (fun _ _ => rfl)) pa_nil)) (pa_cons (pe_op op_sub pe_int pe_int) (pa_cons pe_bl (pa_cons pe_non (pa_cons pe_str (pa_cons (pe_lst (pa_cons pe_int pa_nil)) pa_nil)))))))) (pg_name (i := 9) sc_law.nd rfl (by first | exact Or.inl rfl | exact Or.inr rfl))
      (pss_one (ps_if (pt_cmpR (op_neD hr.units) (pe_callG (ok_Lword T) gd (hr.mono (by decide)) (by rfl) T.g__law_word T.F__law_word.kp T.b__law_word .nil pass0 (pa_cons (pv 6) (pa_cons (pv 3) (pa_cons (pv 9) (pa_cons (pe_call (ok_Lpick T) (hr.mono (by decide)) (by rfl) T.g__law_pick T.F__law_pick.kp T.b__law_pick .nil pass0 (pa_cons (pv 1) (pa_cons (pe_lst (pa_cons (pe_ix ix_str (pv 7) pe_int (fun _ _ => rfl)) (pa_cons pe_non pa_nil))) pa_nil))) pa_nil))))) pe_str (nomark _))
      (pss_one (ps_ret pe_bl))
      pss_nil)))
    (pss_cons (ps_for PassesOwn.never rfl (pi_list (pe_lst (pa_cons pe_str (pa_cons pe_str (pa_cons (pe_op op_add_str (pv 7) pe_str) (pa_cons pe_non (pa_cons pe_int (pa_cons (pe_tup (pa_cons (pe_ix ix_str (pv 7) pe_int (fun _ _ => rfl)) pa_nil)) (pa_cons (pe_lst (pa_cons (pe_ix ix_str (pv 7) pe_int (fun _ _ => rfl)) pa_nil)) (pa_cons pe_str pa_nil)))))))))) (pg_name (i := 10) sc_law.nd rfl (by first | exact Or.inl rfl | exact Or.inr rfl))
      (pss_one (ps_if (pt_cmpR (op_neD hr.units) (pe_callG (ok_Lword T) gd (hr.mono (by decide)) (by rfl) T.g__law_word T.F__law_word.kp T.b__law_word .nil pass0 (pa_cons (pv 6) (pa_cons (pv 3) (pa_cons pe_int (pa_cons (pv 10) pa_nil))))) pe_str (nomark _))
      (pss_one (ps_ret pe_bl))
      pss_nil)))
    (pss_one (ps_if (pt_cmpR op_notN (pe_callG (ok_Lword T) gd (hr.mono (by decide)) (by rfl) T.g__law_word T.F__law_word.kp T.b__law_word .nil pass0 (pa_cons (pv 6) (pa_cons (pv 3) (pa_cons (pe_op op_sub (pe_callB call_len_seq (by rfl) T.z_len PySem.boot_len (pa_cons (pe_ix ix_tup (pv 3) pe_int (fun _ _ => rfl)) pa_nil)) pe_int) (pa_cons (pe_ix ix_str (pv 7) pe_int (fun _ _ => rfl)) pa_nil))))) pe_non (nomark _))
      (pss_one (ps_ret pe_bl))
      pss_nil))))))))))))
    (pss_one (ps_ret pe_bl)))), ?_⟩
    obtain ⟨a, ns, rfl, hS, hlen, q⟩ := h
    refine ⟨_, rfl, a, ns, rfl, hS, hlen, fun H1 p c s1 np hp1 => ?_⟩
    refine ⟨5, rfl, by decide, by decide, for_range (n := 5) (fun _ σ H' => ∃ t2 t3 t4 t5 t6 t7 t8 t9 t10 : Option V, σ = [some (.ref a), some (.ref p), t2, t3, t4, t5, t6, t7, t8, t9, t10] ∧ Pot K H' p c)
      ⟨_, _, _, _, _, _, _, _, _, rfl, hp1⟩ ?_ (fun σ H' _ => q H')⟩
    rintro i σ H3 hi ⟨t2, t3, t4, t5, t6, t7, t8, t9, t10, rfl, hp3⟩
    refine ⟨_, rfl, p, c, 3, rfl, hp3, by decide, by decide, fun H4 v d sm4 hp4 hd hD hSz => ?_⟩
    have hE := hD.ok
    obtain ⟨z, f, ss, rfl, hz, hf, l1, l4, hss⟩ := id hD
    have ok := hD.states
    obtain ⟨z1, z4, zc⟩ := hz.small
    have hzl : z.length ≤ sizeLine := Nat.le_trans z4 (by decide)
    have lo := letter_lt hz.1
    have sz := hSz z f ss rfl
    have svz : ∀ c w, valOf z ss c = some w → w.1.length ≤ 30 := fun c w h => sz c w (valOf_some.1 h)
    have qs : ∀ (k : Bool), ∀ s ∈ ss, Qk k 3 106 s := fun k s hs => (hss s hs).q zc z4 l4
    have qE : ∀ k : Bool, Qk k 5 1290 (.tuple [.str z, .str f, .tuple ss]) := fun k => (tup3 (k := k) (n := 4) (B := 428) (.str (by omega) zc) (hf.q zc (by decide)) (Qk.tup (qs k) (by omega)) (Nat.le_refl _)).mono (by decide) (by decide)
    have lE : Light (.tuple [.str z, .str f, .tuple ss]) := (qE true).light (by decide)
    obtain ⟨e, t, xs, rfl, ht, hts, hA⟩ := expV_of hd
    have hl := hA.length
    have eexp : Eqb 0 (.str "expander") := .str (by decide +kernel)
    have etxt : Eqb 0 (.str "text") := .str (by decide +kernel)
    have ecall : Eqb 0 (.str "call") := .str (by decide +kernel)
    refine ⟨_, rfl, e, _, 0, _, rfl, rfl, seqT sans_same ht, rfl, _, rfl, _, rfl, p, c, .ref e, _, rfl, hp4, hd, hD, fun H5 vb db sm5 hp5 hqb bad5 => ⟨_, _, rfl, ?_⟩⟩
    obtain ⟨kb, qb⟩ := bad5
    have lb := qb.light (by decide)
    have hd5 := hd.mono sm5
    -- things that are none
    refine ⟨Nat.zero_le _, fun r1 n1 => ?_⟩
    obtain ⟨H6, e6, s6, h6, hp6⟩ := tupK hp5 n1 .nil
    rw [← e6]
    refine ⟨Nat.zero_le _, fun r2 n2 => ?_⟩
    obtain ⟨H7, e7, s7, h7, hp7, _⟩ := lstK hp6 n2 .nil
    rw [← e7]
    refine fun r3 n3 => ?_
    obtain ⟨H8, e8, s8, h8, hp8⟩ := empK hp7 n3
    rw [← e8]
    refine ⟨(by show 6 ≤ sizeLine; decide), fun LA nA => ?_⟩
    have hallA : DqAll K (sans H8 p) [.non, .ref r1, .ref r2, .ref r3, .str "x", .int 0] [.none, .tuple [], .list [], .dict [], .str "x", .int 0] :=
      .cons .non (.cons (h6.mono (Sm.of (Same.trans s7 s8))) (.cons (h7.mono (Sm.of s8)) (.cons h8 (.cons (.str _) (.cons (.int _) .nil)))))
    obtain ⟨H9, e9, s9, h9, hp9, hA9⟩ := lstK hp8 nA hallA
    rw [← e9]
    have s59 := Same.trans s6 (Same.trans s7 (Same.trans s8 s9))
    have hqb9 := hqb.mono (Sm.of s59)
    refine ⟨_, rfl, (by show 1 ≤ sizeLine; decide), fun LB nB => ?_⟩
    obtain ⟨H10, e10, s10, h10, hp10, hB10⟩ := lstK hp9 nB (.cons hqb9 .nil)
    rw [← e10]
    refine ⟨_, rfl, vb, db, rfl, (hqb9.mono (Sm.of s10)).mono sans_same, lb, fun H11 s11 => ⟨_, rfl, .inr ⟨_, rfl, ?_⟩⟩⟩
    have nn : ∀ b : Bool, (if (!b) = true then (1 : Int) else 0).toNat = if b then 0 else 1 := fun b => by cases b <;> rfl
    refine ⟨LB, _, _, rfl, rfl, s11 _ _ hB10, ?_, ?_, ?_, fun LC nC => ?_⟩
    · cases expB db <;> decide
    · cases expB db <;> decide
    · rw [nn]
      cases expB db with
      | true => exact (show 1 * 0 ≤ sizeLine by decide)
      | false => exact (show 1 * 1 ≤ sizeLine by decide)
    have hp11 := hp10.same s11
    have hbs : DqAll K (sans H11 p) (List.replicate (if (!expB db) = true then (1 : Int) else 0).toNat [vb]).flatten (List.replicate (if (!expB db) = true then (1 : Int) else 0).toNat [db]).flatten := by
      have h := (hqb9.mono (Sm.of s10)).mono (Sm.of (a := p) s11)
      rw [nn]
      cases expB db with
      | true => exact .nil
      | false => exact .cons h .nil
    have hbe : ∀ d ∈ (List.replicate (if (!expB db) = true then (1 : Int) else 0).toNat [db]).flatten, d = db ∧ expB db = false := by
      rw [nn]
      cases expB db with
      | true => exact fun d h => by cases h
      | false => exact fun d h => ⟨List.mem_singleton.1 h, rfl⟩
    have lbs : (List.replicate (if (!expB db) = true then (1 : Int) else 0).toNat [vb]).flatten.length ≤ 1 := by
      rw [nn]
      cases expB db with
      | true => exact Nat.zero_le _
      | false => exact Nat.le_refl _
    revert hbs hbe lbs
    generalize (List.replicate (if (!expB db) = true then (1 : Int) else 0).toNat [vb]).flatten = bv
    generalize (List.replicate (if (!expB db) = true then (1 : Int) else 0).toNat [db]).flatten = bd
    intro hbs hbe lbs
    obtain ⟨H12, e12, s12, h12, hp12, hC12⟩ := lstK hp11 nC hbs
    rw [← e12]
    have s912 := Same.trans s10 (Same.trans s11 s12)
    refine ⟨LA, LC, _, _, rfl, rfl, s912 _ _ hA9, hC12, ?_, fun LD nD => ?_⟩
    · show 6 + bv.length ≤ sizeLine
      exact Nat.le_trans (show 6 + bv.length ≤ 7 by omega) (by decide)
    have hallD : DqAll K (sans H12 p) ([.non, .ref r1, .ref r2, .ref r3, .str "x", .int 0] ++ bv) ([.none, .tuple [], .list [], .dict [], .str "x", .int 0] ++ bd) :=
      (hallA.mono (Sm.of (Same.trans s9 s912))).append (hbs.mono (Sm.of s12))
    have badAll : ∀ d ∈ ([.none, .tuple [], .list [], .dict [], .str "x", .int 0] ++ bd : List PyData), expB d = false ∧ Light d ∧ ∃ k, Qk k 8 1000000 d := by
      intro d h
      rcases List.mem_append.1 h with h | h
      · simp only [List.mem_cons, List.not_mem_nil, or_false] at h
        rcases h with rfl | rfl | rfl | rfl | rfl | rfl
        · exact ⟨rfl, (Qk.none (k := true) (n := 0) (B := 0)).light (by decide), true, .none⟩
        · have h : Qk true 8 1000000 (.tuple []) := (Qk.tup (n := 0) (B := 0) (B' := 0) (fun d h => by cases h) (Nat.le_refl _)).mono (by decide) (by decide)
          exact ⟨rfl, h.light (by decide), true, h⟩
        · have h : Qk true 8 1000000 (.list []) := (Qk.lst (n := 0) (B := 0) (B' := 0) (fun d h => by cases h) (Nat.le_refl _)).mono (by decide) (by decide)
          exact ⟨rfl, h.light (by decide), true, h⟩
        · have h : Qk false 8 1000000 (.dict []) := .emp (by decide)
          exact ⟨rfl, h.light (by decide), false, h⟩
        · have h : Qk true 8 1000000 (.str "x") := .str (by decide) (by decide +kernel)
          exact ⟨rfl, h.light (by decide), true, h⟩
        · have h : Qk true 8 1000000 (.int 0) := .int (by decide) (by decide) (by decide)
          exact ⟨rfl, h.light (by decide), true, h⟩
      · obtain ⟨rfl, eb⟩ := hbe d h
        exact ⟨eb, lb, kb, qb⟩
    obtain ⟨H13, e13, s13, h13, hp13, hD13⟩ := lstK hp12 nD hallD
    rw [← e13]
    have hallD := hallD.mono (Sm.of (a := p) s13)
    have nDp : LD ≠ p := hp12.ne nD
    have hd13 : Dq K (sans H13 p) (.ref e) (.tuple [.str z, .str f, .tuple ss]) := hd5.mono (Sm.of (Same.trans s59 (Same.trans s912 s13)))
    refine ⟨LD, rfl, ⟨_, SqL.of hD13⟩, ?_⟩
    refine for_list (K := K) (a := LD) (xs := [.non, .ref r1, .ref r2, .ref r3, .str "x", .int 0] ++ bv) (fun _ σ H' => ∃ t4 t6 : Option V, σ = [some (.ref a), some (.ref p), some (.int (0 + ((i : Nat) : Int))), some (.ref e), t4, t5, t6, some (.str z), some vb, t9, t10] ∧ Sm p H13 H' ∧ Pot K H' p c)
      ⟨_, _, rfl, Sm.refl, hp13⟩ (fun _ _ _ _ ⟨_, _, _, sm, _⟩ => SqL.of (sm.at_ nDp hD13)) ?_ ?_
    · rintro j x σ H14 hx ⟨t4, t6, rfl, sm14, hp14⟩
      obtain ⟨dx, hdx, hqx⟩ := hallD.get hx
      obtain ⟨eb, lx, kx, qx⟩ := badAll dx (List.mem_of_getElem? hdx)
      have hqx := hqx.mono sm14
      refine ⟨10, rfl, by decide, by decide, for_range (n := 10) (fun _ σ H' => ∃ t6 : Option V, σ = [some (.ref a), some (.ref p), some (.int (0 + ((i : Nat) : Int))), some (.ref e), some x, t5, t6, some (.str z), some vb, t9, t10] ∧ Sm p H14 H' ∧ Pot K H' p c)
        ⟨_, rfl, Sm.refl, hp14⟩ ?_ fun σ H' ⟨t6, e1, sm, hp⟩ => ⟨_, _, e1, sm14.trans sm, hp⟩⟩
      rintro k σ H15 hk ⟨t6, rfl, sm15, hp15⟩
      rw [Int.zero_add (k : Int)]
      refine ⟨_, rfl, _, rfl, _, rfl, (by show 3 ≤ sizeLine; decide), fun l nl => ?_⟩
      refine pick_new hp15 nl (.cons (.str "a") (.cons .non (.cons (.int 0) .nil))) (by simp) (by show 3 < 1073741824; decide) fun H16 y dy sm16 hp16 hdy hqy => ?_
      have qy : Qk kx 8 10 dy := by
        simp only [List.mem_cons, List.not_mem_nil, or_false] at hdy
        rcases hdy with rfl | rfl | rfl
        · exact .str (by decide) (by decide +kernel)
        · exact .none
        · exact .int (by decide) (by decide) (by decide)
      have qa : Qk kx 8 10 (.str "a") := .str (by decide) (by decide +kernel)
      refine word_no hk ((hqx.mono (sm15.trans sm16)).mono sans_same) (hqy.mono sans_same) (.str "a") lx (qy.light (by decide)) (qa.light (by decide)) (word_repr qx qy qa (by decide) (by decide)) eb fun H17 s17 => ?_
      dsimp only [tC]
      refine neDq (.str _) (.str _) eexp eexp (by decide) (by decide) ⟨_, rfl, ?_⟩
      exact if_false (eqv_same eexp) ⟨_, rfl, sm15.trans (sm16.trans (Sm.of s17)), hp16.same s17⟩
    rintro σ H14 ⟨t4, t6, rfl, sm14, hp14⟩
    have hd14 := hd13.mono sm14
    clear h6 h7 h8 h9 h10 h12 h13 hallA hallD badAll hA9 hB10 hC12 hD13 hbs hbe hqb9 hd5 hd13 s59 s912
    obtain ⟨c0, hc0⟩ : ∃ c0, z.cps.toList[0]? = some c0 := by
      have e : z.cps.toList.length = z.length := by simp [Str.length]
      exact ⟨_, List.getElem?_eq_getElem (by omega)⟩
    have hc0m : c0 ∈ z.cps.toList := List.mem_of_getElem? hc0
    have qI : ∀ (k : Bool) (n B : Nat), 3 ≤ B → Qk k n B (.int 0) := fun k n B h => .int (by decide) (by decide) h
    -- what is no text
    refine ⟨_, rfl, z, "A", rfl, rfl, (by show z.length + 1 ≤ sizeLine; exact Nat.le_trans (Nat.succ_le_succ z4) (by decide)), ?_⟩
    refine ⟨_, rfl, (by show 1 ≤ sizeLine; decide), fun r1 n1 => ?_⟩
    obtain ⟨H15, e15, s15, h15, hp15⟩ := tupK hp14 n1 (.cons (.str z) .nil)
    rw [← e15]
    refine ⟨_, rfl, (by show 1 ≤ sizeLine; decide), fun r2 n2 => ?_⟩
    obtain ⟨H16, e16, s16, h16, hp16, _⟩ := lstK hp15 n2 (.cons (.str z) .nil)
    rw [← e16]
    refine ⟨_, rfl, z, _, c0, rfl, rfl, hzl, atI_nat (j := 0) hc0, tx [c0], 201, rfl, rfl, (by show 1 * 201 ≤ _; decide), by decide, ?_⟩
    refine fun r3 n3 => ?_
    obtain ⟨H17, e17, s17, h17, hp17⟩ := empK hp16 n3
    rw [← e17]
    refine ⟨(by show 11 ≤ sizeLine; decide), fun LT nT => ?_⟩
    have s1417 := Same.trans s15 (Same.trans s16 s17)
    have hall : DqAll K (sans H17 p) [.non, .int 0, .str "A", .str "y", .str (z ++ "A"), .ref r1, .ref r2, .bl true, .str (repS (tx [c0]) 201), .str "a b", .ref r3] [.none, .int 0, .str "A", .str "y", .str (z ++ "A"), .tuple [.str z], .list [.str z], .bool true, .str (repS (tx [c0]) 201), .str "a b", .dict []] :=
      .cons .non (.cons (.int _) (.cons (.str _) (.cons (.str _) (.cons (.str _) (.cons (h15.mono (Sm.of (Same.trans s16 s17))) (.cons (h16.mono (Sm.of s17)) (.cons (.bl _) (.cons (.str _) (.cons (.str _) (.cons h17 .nil))))))))))
    have oneC : ∀ w : Str, (∀ x ∈ w.cps.toList, x = c0) → ∀ x ∈ w.cps.toList, x < 1000 := fun w h x hx => by rw [h x hx]; exact zc c0 hc0m
    have eZA : (z ++ "A").cps.toList = z.cps.toList ++ [65] := by
      show (z.cps ++ ("A" : Str).cps).toList = _
      rw [Array.toList_append]
      rfl
    have noA : 65 ∉ z.cps.toList := fun h => absurd (lo 65 h) (by decide)
    have noS : 32 ∉ z.cps.toList := fun h => absurd (lo 32 h) (by decide)
    have txt : ∀ d ∈ ([.none, .int 0, .str "A", .str "y", .str (z ++ "A"), .tuple [.str z], .list [.str z], .bool true, .str (repS (tx [c0]) 201), .str "a b", .dict []] : List PyData), isText z d = false ∧ ∃ k, Qk k 5 300 d := by
      intro d h
      simp only [List.mem_cons, List.not_mem_nil, or_false] at h
      rcases h with rfl | rfl | rfl | rfl | rfl | rfl | rfl | rfl | rfl | rfl | rfl
      · exact ⟨rfl, true, .none⟩
      · exact ⟨rfl, true, qI _ _ _ (by decide)⟩
      · exact ⟨not_in (c := 65) (by decide +kernel) noA, true, .str (by decide) (by decide +kernel)⟩
      · exact ⟨not_in (c := 121) (by decide +kernel) hz.2, true, .str (by decide) (by decide +kernel)⟩
      · refine ⟨not_in (c := 65) (by rw [eZA]; exact List.mem_append_right _ List.mem_cons_self) noA, true, .str (by rw [cat_len]; exact Nat.le_trans (Nat.add_le_add_right z4 _) (by decide)) fun x hx => ?_⟩
        rw [eZA] at hx
        rcases List.mem_append.1 hx with hx | hx
        · exact zc x hx
        · rw [List.mem_singleton.1 hx]
          decide
      · exact ⟨rfl, true, (Qk.tup (n := 0) (B := 4) (B' := 5) (fun d h => by rw [List.mem_singleton.1 h]; exact .str z4 zc) (by show 1 * 5 ≤ 5; decide)).mono (by decide) (by decide)⟩
      · exact ⟨rfl, true, (Qk.lst (n := 0) (B := 4) (B' := 5) (fun d h => by rw [List.mem_singleton.1 h]; exact .str z4 zc) (by show 1 * 5 ≤ 5; decide)).mono (by decide) (by decide)⟩
      · exact ⟨rfl, true, .bool _⟩
      · have el : (repS (tx [c0]) 201).length = 201 := by
          rw [repS_len, tx_len]
          rfl
        refine ⟨?_, true, .str (by rw [el]; decide) (oneC _ fun x hx => ?_)⟩
        · show (_ && decide ((repS (tx [c0]) 201).length ≤ 200)) = false
          rw [el]
          exact Bool.and_false _
        · have := rep_mem hx
          rw [tx_codes] at this
          exact List.mem_singleton.1 this
      · exact ⟨not_in (c := 32) (by decide +kernel) noS, true, .str (by decide) (by decide +kernel)⟩
      · exact ⟨rfl, false, .emp (by decide)⟩
    obtain ⟨H18, e18, s18, h18, hp18, hT18⟩ := lstK hp17 nT hall
    rw [← e18]
    have hall := hall.mono (Sm.of (a := p) s18)
    have hd18 := (hd14.mono (Sm.of (Same.trans s1417 s18)))
    refine ⟨LT, rfl, ⟨_, SqL.of hT18⟩, ?_⟩
    refine for_list (K := K) (a := LT) (xs := [.non, .int 0, .str "A", .str "y", .str (z ++ "A"), .ref r1, .ref r2, .bl true, .str (repS (tx [c0]) 201), .str "a b", .ref r3]) (fun _ σ H' => ∃ t5 t6 : Option V, σ = [some (.ref a), some (.ref p), some (.int (0 + ((i : Nat) : Int))), some (.ref e), t4, t5, t6, some (.str z), some vb, t9, t10] ∧ Same H18 H')
      ⟨_, _, rfl, Same.refl _⟩ (fun _ _ _ _ ⟨_, _, _, s⟩ => SqL.of (s _ _ hT18)) ?_ ?_
    · rintro j x σ H19 hx ⟨t5, t6, rfl, s19⟩
      obtain ⟨dx, hdx, hqx⟩ := hall.get hx
      obtain ⟨et, kx, qx⟩ := txt dx (List.mem_of_getElem? hdx)
      refine ⟨(by show 3 ≤ sizeLine; decide), fun rt nt => ?_⟩
      obtain ⟨H20, e20, s20, h20, hp20⟩ := tupK (hp18.same s19) nt (.cons (.int 3) (.cons (.int 5) (.cons (.int 6) .nil)))
      have hT20 : H20 rt = some (.tup [.int 3, .int 5, .int 6]) := by rw [e20]; exact upd_same
      rw [← e20]
      have hqx := ((hqx.mono sans_same).mono s19).mono s20
      have hd20 := ((hd18.mono sans_same).mono s19).mono s20
      refine ⟨rt, rfl, ⟨_, SqT.of hT20⟩, ?_⟩
      refine for_tup (K := K) (a := rt) (xs := [.int 3, .int 5, .int 6]) (fun _ σ H' => ∃ t6 : Option V, σ = [some (.ref a), some (.ref p), some (.int (0 + ((i : Nat) : Int))), some (.ref e), t4, some x, t6, some (.str z), some vb, t9, t10] ∧ Same H20 H')
        ⟨_, rfl, Same.refl _⟩ (fun _ _ _ _ ⟨_, _, s⟩ => SqT.of (s _ _ hT20)) ?_ fun σ H' ⟨t6, e1, s⟩ => ⟨_, _, e1, Same.trans s19 (Same.trans s20 s)⟩
      rintro k y σ H21 hy ⟨t6, rfl, s21⟩
      obtain ⟨ch, rfl, hch⟩ : ∃ ch : Nat, y = .int (ch : Int) ∧ (ch = 3 ∨ ch = 5 ∨ ch = 6) := by
        have h := List.mem_of_getElem? hy
        simp only [List.mem_cons, List.not_mem_nil, or_false] at h
        rcases h with rfl | rfl | rfl
        · exact ⟨3, rfl, .inl rfl⟩
        · exact ⟨5, rfl, .inr (.inl rfl)⟩
        · exact ⟨6, rfl, .inr (.inr rfl)⟩
      refine ⟨_, rfl, _, rfl, _, rfl, word_text hch (hd20.mono s21) (hqx.mono s21) (.int 0) lE (qx.light (by decide)) (word_repr (qE kx) qx (qI kx 5 3 (by decide)) (by decide) (by decide)) hE et fun H22 s22 => ?_⟩
      dsimp only [tC]
      refine neDq (.str _) (.str _) etxt etxt (by decide) (by decide) ⟨_, rfl, ?_⟩
      exact if_false (eqv_same etxt) ⟨_, rfl, Same.trans s21 s22⟩
    rintro σ H19 ⟨t5, t6, rfl, s19⟩
    have hp19 := hp18.same s19
    have hd19 := hd18.mono (Sm.of (a := p) s19)
    clear h15 h16 h17 h18 hall txt hT18 hd18 hp18 hd14 hp14
    -- texts
    refine ⟨(by show 3 ≤ sizeLine; decide), fun rt nt => ?_⟩
    obtain ⟨H20, e20, s20, h20, hp20⟩ := tupK hp19 nt (.cons (.int 3) (.cons (.int 5) (.cons (.int 6) .nil)))
    have hT20 : H20 rt = some (.tup [.int 3, .int 5, .int 6]) := by rw [e20]; exact upd_same
    rw [← e20]
    have nrt := hp19.ne nt
    have hd20 := hd19.mono (Sm.of (a := p) s20)
    refine ⟨rt, rfl, ⟨_, SqT.of hT20⟩, ?_⟩
    refine for_tup (K := K) (a := rt) (xs := [.int 3, .int 5, .int 6]) (fun _ σ H' => ∃ t6 : Option V, σ = [some (.ref a), some (.ref p), some (.int (0 + ((i : Nat) : Int))), some (.ref e), t4, t5, t6, some (.str z), some vb, t9, t10] ∧ Sm p H20 H' ∧ Pot K H' p c)
      ⟨_, rfl, Sm.refl, hp20⟩ (fun _ _ _ _ ⟨_, _, sm, _⟩ => SqT.of (sm.at_ nrt hT20)) ?_ ?_
    · rintro k y σ H21 hy ⟨t6, rfl, sm21, hp21⟩
      obtain ⟨ch, rfl, hch⟩ : ∃ ch : Nat, y = .int (ch : Int) ∧ (ch = 3 ∨ ch = 5 ∨ ch = 6) := by
        have h := List.mem_of_getElem? hy
        simp only [List.mem_cons, List.not_mem_nil, or_false] at h
        rcases h with rfl | rfl | rfl
        · exact ⟨3, rfl, .inl rfl⟩
        · exact ⟨5, rfl, .inr (.inl rfl)⟩
        · exact ⟨6, rfl, .inr (.inr rfl)⟩
      refine ⟨_, rfl, _, rfl, _, rfl, _, rfl, _, rfl, z, _, c0, rfl, rfl, hzl, atI_nat (j := 0) hc0, tx [c0], 9, rfl, rfl, (by show 1 * 9 ≤ _; decide), by decide, (by show 3 ≤ sizeLine; decide), fun l nl => ?_⟩
      refine pick_new hp21 nl (.cons (.str "") (.cons (.str z) (.cons (.str (repS (tx [c0]) 9)) .nil))) (by simp) (by show 3 < 1073741824; decide) fun H22 w dw sm22 hp22 hdw hqw => ?_
      obtain ⟨t, rfl, rfl, lt, it⟩ : ∃ t : Str, w = .str t ∧ dw = .str t ∧ t.length ≤ 9 ∧ allIn z t = true := by
        simp only [List.mem_cons, List.not_mem_nil, or_false] at hdw
        rcases hdw with rfl | rfl | rfl
        · exact ⟨_, hqw.strV, rfl, by decide, rfl⟩
        · exact ⟨_, hqw.strV, rfl, by omega, allIn_of fun c h => h⟩
        · refine ⟨_, hqw.strV, rfl, by rw [repS_len, tx_len]; exact (show 9 * 1 ≤ 9 by decide), allIn_of fun c h => ?_⟩
          have := rep_mem h
          rw [tx_codes] at this
          rw [List.mem_singleton.1 this]
          exact hc0m
      have itx : isText z (.str t) = true := by
        show (allIn z t && decide (t.length ≤ 200)) = true
        rw [it, decide_eq_true (show t.length ≤ 200 by omega)]
        rfl
      have qt : Qk true 5 300 (.str t) := .str (by omega) fun x hx => zc x (allIn_mem it x hx)
      have etl : t.cps.toList.length = t.length := by simp [Str.length]
      have efl : f.cps.toList.length = f.length := by simp [Str.length]
      refine word_right hch ((hd20.mono (sm21.trans sm22)).mono sans_same) (.int 0) lE (qt.light (by decide)) (word_repr (qE true) qt (qI true 5 3 (by decide)) (by decide) (by decide)) hE sz (fun u g hr w hw => ?_) itx fun H23 s23 => ?_
      · have h1 := rd_bound svz hr
        have h2 := last_short hss hw
        have h3 : f.cps.toList.length ≤ 3 := by
          rw [efl]
          exact hf.1
        have h1 : u.length ≤ f.cps.toList.length + 30 * t.cps.toList.length := h1
        rw [cat_len, tx_len]
        omega
      dsimp only [tC]
      refine ⟨rfl, _, rfl, ?_⟩
      exact if_false rfl ⟨_, rfl, sm21.trans (sm22.trans (Sm.of s23)), hp22.same s23⟩
    rintro σ H21 ⟨t6, rfl, sm21, hp21⟩
    have hd21 := hd20.mono sm21
    clear hd20 hd19 hp19 hp20 h20 hT20
    -- calls
    refine ⟨(by show 2 ≤ sizeLine; decide), fun rt nt => ?_⟩
    obtain ⟨H22, e22, s22, h22, hp22⟩ := tupK hp21 nt (.cons (.int 8) (.cons (.int 9) .nil))
    have hT22 : H22 rt = some (.tup [.int 8, .int 9]) := by rw [e22]; exact upd_same
    rw [← e22]
    have nrt := hp21.ne nt
    have hd22 := hd21.mono (Sm.of (a := p) s22)
    refine ⟨rt, rfl, ⟨_, SqT.of hT22⟩, ?_⟩
    refine for_tup (K := K) (a := rt) (xs := [.int 8, .int 9]) (fun _ σ H' => ∃ t6 t9 t10 : Option V, σ = [some (.ref a), some (.ref p), some (.int (0 + ((i : Nat) : Int))), some (.ref e), t4, t5, t6, some (.str z), some vb, t9, t10] ∧ Sm p H22 H' ∧ Pot K H' p c)
      ⟨_, _, _, rfl, Sm.refl, hp22⟩ (fun _ _ _ _ ⟨_, _, _, _, sm, _⟩ => SqT.of (sm.at_ nrt hT22)) ?_ fun σ H' ⟨t6, t9, t10, e1, _, hp⟩ => ⟨_, _, _, _, _, _, _, _, _, e1, hp⟩
    rintro j y σ H23 hy ⟨t6, t9, t10, rfl, sm23, hp23⟩
    obtain ⟨ch, rfl, hch⟩ : ∃ ch : Nat, y = .int (ch : Int) ∧ (ch = 8 ∨ ch = 9) := by
      have h := List.mem_of_getElem? hy
      simp only [List.mem_cons, List.not_mem_nil, or_false] at h
      rcases h with rfl | rfl
      · exact ⟨8, rfl, .inl rfl⟩
      · exact ⟨9, rfl, .inr rfl⟩
    have hd23 := hd22.mono sm23
    obtain ⟨e', t', xs', ee, ht23, hts23, hA23⟩ := expV_of hd23
    cases ee
    have hl23 := hA23.length
    refine ⟨_, rfl, e, _, 2, _, rfl, rfl, seqT sans_same ht23, rfl, t', _, rfl, .inr (seqT sans_same hts23), _, _, rfl, rfl, ?_⟩
    refine ⟨(by show 1 ≤ sizeLine; decide), fun l2 nl2 => ?_⟩
    obtain ⟨H24, e24, s24, h24, hp24, _⟩ := lstK hp23 nl2 (.cons (.int 0) .nil)
    rw [← e24]
    refine ⟨(by show 6 ≤ sizeLine; decide), fun r3 nr3 => ?_⟩
    have hall : DqAll K (sans H24 p) [.int ((xs'.length : Nat) : Int), .int (0 - 1), .bl true, .non, .str "0", .ref l2] [.int ((xs'.length : Nat) : Int), .int (0 - 1), .bool true, .none, .str "0", .list [.int 0]] :=
      .cons (.int _) (.cons (.int _) (.cons (.bl _) (.cons .non (.cons (.str _) (.cons h24 .nil)))))
    obtain ⟨H25, e25, s25, h25, hp25⟩ := tupK hp24 nr3 hall
    have hT25 : H25 r3 = some (.tup [.int ((xs'.length : Nat) : Int), .int (0 - 1), .bl true, .non, .str "0", .ref l2]) := by rw [e25]; exact upd_same
    rw [← e25]
    have hall := hall.mono (Sm.of (a := p) s25)
    have nr3p := hp24.ne nr3
    have hd25 := hd23.mono (Sm.of (a := p) (Same.trans s24 s25))
    refine ⟨r3, rfl, ⟨_, SqT.of hT25⟩, ?_⟩
    refine for_tup (K := K) (a := r3) (xs := [.int ((xs'.length : Nat) : Int), .int (0 - 1), .bl true, .non, .str "0", .ref l2]) (fun _ σ H' => ∃ t9 : Option V, σ = [some (.ref a), some (.ref p), some (.int (0 + ((i : Nat) : Int))), some (.ref e), t4, t5, some (.int (ch : Int)), some (.str z), some vb, t9, t10] ∧ Sm p H25 H' ∧ Pot K H' p c)
      ⟨_, rfl, Sm.refl, hp25⟩ (fun _ _ _ _ ⟨_, _, sm, _⟩ => SqT.of (sm.at_ nr3p hT25)) ?_ ?_
    · rintro k x σ H26 hx ⟨t9, rfl, sm26, hp26⟩
      obtain ⟨dx, hdx, hqx⟩ := hall.get hx
      have hcn : countB (ss.length : Nat) dx = false ∧ Qk true 5 300 dx := by
        have h := List.mem_of_getElem? hdx
        simp only [List.mem_cons, List.not_mem_nil, or_false] at h
        rcases h with rfl | rfl | rfl | rfl | rfl | rfl
        · refine ⟨?_, .int (by omega) (by omega) (by decide)⟩
          show (decide (0 ≤ ((xs'.length : Nat) : Int)) && decide (((xs'.length : Nat) : Int) < (ss.length : Nat))) = false
          rw [decide_eq_false (show ¬ ((xs'.length : Nat) : Int) < (ss.length : Nat) by omega), Bool.and_false]
        · refine ⟨?_, .int (by decide) (by decide) (by decide)⟩
          show (decide ((0 : Int) ≤ 0 - 1) && decide ((0 - 1 : Int) < (ss.length : Nat))) = false
          rw [decide_eq_false (by decide)]
          rfl
        · exact ⟨rfl, .bool _⟩
        · exact ⟨rfl, .none⟩
        · exact ⟨rfl, .str (by decide) (by decide +kernel)⟩
        · exact ⟨rfl, (Qk.lst (n := 0) (B := 3) (B' := 4) (fun d h => by rw [List.mem_singleton.1 h]; exact qI _ _ _ (by decide)) (by show 1 * 4 ≤ 4; decide)).mono (by decide) (by decide)⟩
      refine ⟨_, rfl, _, rfl, _, rfl, _, rfl, _, rfl, z, _, c0, rfl, rfl, hzl, atI_nat (j := 0) hc0, (by show 2 ≤ sizeLine; decide), fun l nl => ?_⟩
      refine pick_new hp26 nl (.cons (.str (tx [c0])) (.cons .non .nil)) (by simp) (by show 2 < 1073741824; decide) fun H27 w dw sm27 hp27 hdw hqw => ?_
      have qw : Qk true 5 10 dw := by
        simp only [List.mem_cons, List.not_mem_nil, or_false] at hdw
        rcases hdw with rfl | rfl
        · refine .str (by rw [tx_len]; exact (show 1 ≤ 10 by decide)) fun x hx => ?_
          rw [tx_codes] at hx
          rw [List.mem_singleton.1 hx]
          exact zc c0 hc0m
        · exact .none
      have hcb : callB (.tuple [.str z, .str f, .tuple ss]) dx dw = false := by
        show (countB (ss.length : Nat) dx && _) = false
        rw [hcn.1]
        rfl
      have smA := sm26.trans sm27
      refine word_call hch ((hd25.mono smA).mono sans_same) ((hqx.mono smA).mono sans_same) (hqw.mono sans_same) lE (qw.light (by decide)) (word_repr (qE true) hcn.2 qw (by decide) (by decide)) hE hcb fun H28 s28 => ?_
      dsimp only [tC]
      refine neDq (.str _) (.str _) ecall ecall (by decide) (by decide) ⟨_, rfl, ?_⟩
      exact if_false (eqv_same ecall) ⟨_, rfl, smA.trans (Sm.of s28), hp27.same s28⟩
    rintro σ H26 ⟨t9, rfl, sm26, hp26⟩
    have hd26 := hd25.mono sm26
    clear hall h24 h25 hT25 hd25 hA23 hts23 ht23
    -- signs that are none
    refine ⟨_, rfl, z, "a", rfl, rfl, (by show z.length + 1 ≤ sizeLine; exact Nat.le_trans (Nat.succ_le_succ z4) (by decide)), ?_⟩
    refine ⟨_, rfl, z, _, c0, rfl, rfl, hzl, atI_nat (j := 0) hc0, (by show 1 ≤ sizeLine; decide), fun l3 nl3 => ?_⟩
    obtain ⟨H27, e27, s27, h27, hp27⟩ := tupK hp26 nl3 (.cons (.str (tx [c0])) .nil)
    rw [← e27]
    refine ⟨_, rfl, z, _, c0, rfl, rfl, hzl, atI_nat (j := 0) hc0, (by show 1 ≤ sizeLine; decide), fun l4' nl4 => ?_⟩
    obtain ⟨H28, e28, s28, h28, hp28, _⟩ := lstK hp27 nl4 (.cons (.str (tx [c0])) .nil)
    rw [← e28]
    refine ⟨(by show 8 ≤ sizeLine; decide), fun LS nS => ?_⟩
    have hall : DqAll K (sans H28 p) [.str "A", .str "y", .str (z ++ "a"), .non, .int 0, .ref l3, .ref l4', .str ""] [.str "A", .str "y", .str (z ++ "a"), .none, .int 0, .tuple [.str (tx [c0])], .list [.str (tx [c0])], .str ""] :=
      .cons (.str _) (.cons (.str _) (.cons (.str _) (.cons .non (.cons (.int _) (.cons (h27.mono (Sm.of s28)) (.cons h28 (.cons (.str _) .nil)))))))
    obtain ⟨H29, e29, s29, h29, hp29, hL29⟩ := lstK hp28 nS hall
    rw [← e29]
    have hall := hall.mono (Sm.of (a := p) s29)
    have hd29 := hd26.mono (Sm.of (a := p) (Same.trans s27 (Same.trans s28 s29)))
    refine ⟨LS, rfl, ⟨_, SqL.of hL29⟩, ?_⟩
    have qc0 : Qk true 0 10 (.str (tx [c0])) := .str (by rw [tx_len]; exact (show 1 ≤ 10 by decide)) fun x hx => by
      rw [tx_codes] at hx
      rw [List.mem_singleton.1 hx]
      exact zc c0 hc0m
    refine for_list (K := K) (a := LS) (xs := [.str "A", .str "y", .str (z ++ "a"), .non, .int 0, .ref l3, .ref l4', .str ""]) (fun _ σ H' => ∃ t10 : Option V, σ = [some (.ref a), some (.ref p), some (.int (0 + ((i : Nat) : Int))), some (.ref e), t4, t5, some (.int (ch : Int)), some (.str z), some vb, t9, t10] ∧ Same H29 H')
      ⟨_, rfl, Same.refl _⟩ (fun _ _ _ _ ⟨_, _, s⟩ => SqL.of (s _ _ hL29)) ?_ ?_
    · rintro k x σ H30 hx ⟨t10, rfl, s30⟩
      obtain ⟨dx, hdx, hqx⟩ := hall.get hx
      have hb : signB z dx = false ∧ Qk true 5 300 dx := by
        have h := List.mem_of_getElem? hdx
        simp only [List.mem_cons, List.not_mem_nil, or_false] at h
        rcases h with rfl | rfl | rfl | rfl | rfl | rfl | rfl | rfl
        · refine ⟨?_, .str (by decide) (by decide +kernel)⟩
          have e : ("A" : Str) = Ls.one 65 := by decide +kernel
          rw [e, signB_one]
          exact decide_eq_false noA
        · refine ⟨?_, .str (by decide) (by decide +kernel)⟩
          have e : ("y" : Str) = Ls.one 121 := by decide +kernel
          rw [e, signB_one]
          exact decide_eq_false hz.2
        · have e : (z ++ "a").length = z.length + 1 := by
            rw [cat_len]
            rfl
          refine ⟨signB_len (by rw [e]; omega), .str (by rw [e]; omega) fun x hx => ?_⟩
          have eZ : (z ++ "a").cps.toList = z.cps.toList ++ [97] := by
            show (z.cps ++ ("a" : Str).cps).toList = _
            rw [Array.toList_append]
            rfl
          rw [eZ] at hx
          rcases List.mem_append.1 hx with hx | hx
          · exact zc x hx
          · rw [List.mem_singleton.1 hx]
            decide
        · exact ⟨rfl, .none⟩
        · exact ⟨rfl, qI _ _ _ (by decide)⟩
        · exact ⟨rfl, (Qk.tup (n := 0) (B := 10) (B' := 11) (fun d h => by rw [List.mem_singleton.1 h]; exact qc0) (by show 1 * 11 ≤ 11; decide)).mono (by decide) (by decide)⟩
        · exact ⟨rfl, (Qk.lst (n := 0) (B := 10) (B' := 11) (fun d h => by rw [List.mem_singleton.1 h]; exact qc0) (by show 1 * 11 ≤ 11; decide)).mono (by decide) (by decide)⟩
        · exact ⟨signB_len (by decide), .str (by decide) (by decide +kernel)⟩
      have hcb : callB (.tuple [.str z, .str f, .tuple ss]) (.int 0) dx = false := by
        show (countB (ss.length : Nat) (.int 0) && signB z dx) = false
        rw [hb.1, Bool.and_false]
      refine ⟨_, rfl, _, rfl, _, rfl, word_call hch ((hd29.mono sans_same).mono s30) (.int 0) ((hqx.mono sans_same).mono s30) lE (hb.2.light (by decide)) (word_repr (qE true) (qI true 5 3 (by decide)) hb.2 (by decide) (by decide)) hE hcb fun H31 s31 => ?_⟩
      dsimp only [tC]
      refine neDq (.str _) (.str _) ecall ecall (by decide) (by decide) ⟨_, rfl, ?_⟩
      exact if_false (eqv_same ecall) ⟨_, rfl, Same.trans s30 s31⟩
    rintro σ H30 ⟨t10, rfl, s30⟩
    have hp30 := hp29.same s30
    have hd30 := hd29.mono (Sm.of (a := p) s30)
    clear hall h27 h28 h29 hL29 hd29 hp29
    -- a call
    obtain ⟨e2', t2', xs2, ee, ht30, hts30, hA30⟩ := expV_of hd30
    cases ee
    have hl30 := hA30.length
    refine ⟨_, rfl, _, rfl, _, rfl, e, _, 2, _, rfl, rfl, seqT sans_same ht30, rfl, t2', _, rfl, .inr (seqT sans_same hts30), _, _, rfl, rfl, _, rfl, z, _, c0, rfl, rfl, hzl, atI_nat (j := 0) hc0, ?_⟩
    have hcb : callB (.tuple [.str z, .str f, .tuple ss]) (.int ((xs2.length : Nat) - 1 : Int)) (.str (tx [c0])) = true := by
      show ((decide (0 ≤ ((xs2.length : Nat) - 1 : Int)) && decide (((xs2.length : Nat) - 1 : Int) < (ss.length : Nat))) && signB z (.str (Ls.one c0))) = true
      rw [signB_one, decide_eq_true hc0m, decide_eq_true (show (0 : Int) ≤ ((xs2.length : Nat) - 1 : Int) by omega), decide_eq_true (show ((xs2.length : Nat) - 1 : Int) < (ss.length : Nat) by omega)]
      rfl
    refine word_value hch (hd30.mono sans_same) (.int _) (.str (tx [c0])) lE (qc0.light (by decide)) (word_repr (qE true) (.int (n := 5) (B := 3) (by omega) (by omega) (by decide)) (qc0.mono (by decide) (Nat.le_refl _)) (by decide) (by decide)) hE sz hcb fun H31 s31 => ?_
    dsimp only [tC]
    refine ⟨rfl, _, rfl, ?_⟩
    exact if_false rfl ⟨_, _, _, rfl, sm23.trans (Sm.of (Same.trans s24 (Same.trans s25 (Same.refl _))) |>.trans (sm26.trans (Sm.of (Same.trans s27 (Same.trans s28 (Same.trans s29 (Same.trans s30 s31))))))), hp30.same s31⟩
end
end K14

namespace K14
open PySem PySem.Spec PyProof.Rows L2 G Lk
theorem all_mk {l : PySem.W.OpenLaw} {w : World} {K : PySem.W.Frag} {h : Heap} {mg : Str → Option Value} {fa : Addr} (X : K.In h) (G : h.Ns mainGlobals mg) (hfa : mg "law" = some (.ref fa))
    {f0 : Addr} {od0 an0 : Option Addr} {sl0 : Array (Option Value)} {oc0 kV0 dc0 pm0 cd0 ct0 : Value}
    {f1 : Addr} {od1 an1 : Option Addr} {sl1 : Array (Option Value)} {oc1 kV1 dc1 pm1 cd1 ct1 : Value}
    {f2 : Addr} {od2 an2 : Option Addr} {sl2 : Array (Option Value)} {oc2 kV2 dc2 pm2 cd2 ct2 : Value}
    {f3 : Addr} {od3 an3 : Option Addr} {sl3 : Array (Option Value)} {oc3 kV3 dc3 pm3 cd3 ct3 : Value}
    {f4 : Addr} {od4 an4 : Option Addr} {sl4 : Array (Option Value)} {oc4 kV4 dc4 pm4 cd4 ct4 : Value}
    {f5 : Addr} {od5 an5 : Option Addr} {sl5 : Array (Option Value)} {oc5 kV5 dc5 pm5 cd5 ct5 : Value}
    {f6 : Addr} {od6 an6 : Option Addr} {sl6 : Array (Option Value)} {oc6 kV6 dc6 pm6 cd6 ct6 : Value}
    {f7 : Addr} {od7 an7 : Option Addr} {sl7 : Array (Option Value)} {oc7 kV7 dc7 pm7 cd7 ct7 : Value}
    {f8 : Addr} {od8 an8 : Option Addr} {sl8 : Array (Option Value)} {oc8 kV8 dc8 pm8 cd8 ct8 : Value}
    {f9 : Addr} {od9 an9 : Option Addr} {sl9 : Array (Option Value)} {oc9 kV9 dc9 pm9 cd9 ct9 : Value}
    {f10 : Addr} {od10 an10 : Option Addr} {sl10 : Array (Option Value)} {oc10 kV10 dc10 pm10 cd10 ct10 : Value}
    {f11 : Addr} {od11 an11 : Option Addr} {sl11 : Array (Option Value)} {oc11 kV11 dc11 pm11 cd11 ct11 : Value}
    {f12 : Addr} {od12 an12 : Option Addr} {sl12 : Array (Option Value)} {oc12 kV12 dc12 pm12 cd12 ct12 : Value}
    {f13 : Addr} {od13 an13 : Option Addr} {sl13 : Array (Option Value)} {oc13 kV13 dc13 pm13 cd13 ct13 : Value}
    {f14 : Addr} {od14 an14 : Option Addr} {sl14 : Array (Option Value)} {oc14 kV14 dc14 pm14 cd14 ct14 : Value}
    {f15 : Addr} {od15 an15 : Option Addr} {sl15 : Array (Option Value)} {oc15 kV15 dc15 pm15 cd15 ct15 : Value}
    {f16 : Addr} {od16 an16 : Option Addr} {sl16 : Array (Option Value)} {oc16 kV16 dc16 pm16 cd16 ct16 : Value}
    {f17 : Addr} {od17 an17 : Option Addr} {sl17 : Array (Option Value)} {oc17 kV17 dc17 pm17 cd17 ct17 : Value}
    {f18 : Addr} {od18 an18 : Option Addr} {sl18 : Array (Option Value)} {oc18 kV18 dc18 pm18 cd18 ct18 : Value}
    {f19 : Addr} {od19 an19 : Option Addr} {sl19 : Array (Option Value)} {oc19 kV19 dc19 pm19 cd19 ct19 : Value}
    {f20 : Addr} {od20 an20 : Option Addr} {sl20 : Array (Option Value)} {oc20 kV20 dc20 pm20 cd20 ct20 : Value}
    {f21 : Addr} {od21 an21 : Option Addr} {sl21 : Array (Option Value)} {oc21 kV21 dc21 pm21 cd21 ct21 : Value}
    {f22 : Addr} {od22 an22 : Option Addr} {sl22 : Array (Option Value)} {oc22 kV22 dc22 pm22 cd22 ct22 : Value}
    {f23 : Addr} {od23 an23 : Option Addr} {sl23 : Array (Option Value)} {oc23 kV23 dc23 pm23 cd23 ct23 : Value}
    {f24 : Addr} {od24 an24 : Option Addr} {sl24 : Array (Option Value)} {oc24 kV24 dc24 pm24 cd24 ct24 : Value}
    {f25 : Addr} {od25 an25 : Option Addr} {sl25 : Array (Option Value)} {oc25 kV25 dc25 pm25 cd25 ct25 : Value}
    {f26 : Addr} {od26 an26 : Option Addr} {sl26 : Array (Option Value)} {oc26 kV26 dc26 pm26 cd26 ct26 : Value}
    {f27 : Addr} {od27 an27 : Option Addr} {sl27 : Array (Option Value)} {oc27 kV27 dc27 pm27 cd27 ct27 : Value}
    {f28 : Addr} {od28 an28 : Option Addr} {sl28 : Array (Option Value)} {oc28 kV28 dc28 pm28 cd28 ct28 : Value}
    {f29 : Addr} {od29 an29 : Option Addr} {sl29 : Array (Option Value)} {oc29 kV29 dc29 pm29 cd29 ct29 : Value}
    {f30 : Addr} {od30 an30 : Option Addr} {sl30 : Array (Option Value)} {oc30 kV30 dc30 pm30 cd30 ct30 : Value}
    {f31 : Addr} {od31 an31 : Option Addr} {sl31 : Array (Option Value)} {oc31 kV31 dc31 pm31 cd31 ct31 : Value}
    {f32 : Addr} {od32 an32 : Option Addr} {sl32 : Array (Option Value)} {oc32 kV32 dc32 pm32 cd32 ct32 : Value}
    {f33 : Addr} {od33 an33 : Option Addr} {sl33 : Array (Option Value)} {oc33 kV33 dc33 pm33 cd33 ct33 : Value}
    {f34 : Addr} {od34 an34 : Option Addr} {sl34 : Array (Option Value)} {oc34 kV34 dc34 pm34 cd34 ct34 : Value}
    {f35 : Addr} {od35 an35 : Option Addr} {sl35 : Array (Option Value)} {oc35 kV35 dc35 pm35 cd35 ct35 : Value}
    {f36 D36 : Addr} {tD36 : Tok} {od36 an36 : Option Addr} {sl36 : Array (Option Value)} {oc36 dc36 pm36 cd36 ct36 : Value}
    {f37 : Addr} {od37 an37 : Option Addr} {sl37 : Array (Option Value)} {oc37 kV37 dc37 pm37 cd37 ct37 : Value}
    {f38 : Addr} {od38 an38 : Option Addr} {sl38 : Array (Option Value)} {oc38 kV38 dc38 pm38 cd38 ct38 : Value}
    {f39 : Addr} {od39 an39 : Option Addr} {sl39 : Array (Option Value)} {oc39 kV39 dc39 pm39 cd39 ct39 : Value}
    {f40 : Addr} {od40 an40 : Option Addr} {sl40 : Array (Option Value)} {oc40 kV40 dc40 pm40 cd40 ct40 : Value}
    {f41 : Addr} {od41 an41 : Option Addr} {sl41 : Array (Option Value)} {oc41 kV41 dc41 pm41 cd41 ct41 : Value}
    {f42 : Addr} {od42 an42 : Option Addr} {sl42 : Array (Option Value)} {oc42 kV42 dc42 pm42 cd42 ct42 : Value}
    {f43 : Addr} {od43 an43 : Option Addr} {sl43 : Array (Option Value)} {oc43 kV43 dc43 pm43 cd43 ct43 : Value}
    {f44 : Addr} {od44 an44 : Option Addr} {sl44 : Array (Option Value)} {oc44 kV44 dc44 pm44 cd44 ct44 : Value}
    {f45 : Addr} {od45 an45 : Option Addr} {sl45 : Array (Option Value)} {oc45 kV45 dc45 pm45 cd45 ct45 : Value}
    {f46 : Addr} {od46 an46 : Option Addr} {sl46 : Array (Option Value)} {oc46 kV46 dc46 pm46 cd46 ct46 : Value}
    {f47 : Addr} {od47 an47 : Option Addr} {sl47 : Array (Option Value)} {oc47 kV47 dc47 pm47 cd47 ct47 : Value}
    {f48 : Addr} {od48 an48 : Option Addr} {sl48 : Array (Option Value)} {oc48 kV48 dc48 pm48 cd48 ct48 : Value}
    {f49 : Addr} {od49 an49 : Option Addr} {sl49 : Array (Option Value)} {oc49 kV49 dc49 pm49 cd49 ct49 : Value}
    {f50 : Addr} {od50 an50 : Option Addr} {sl50 : Array (Option Value)} {oc50 kV50 dc50 pm50 cd50 ct50 : Value}
    {f51 : Addr} {od51 an51 : Option Addr} {sl51 : Array (Option Value)} {oc51 kV51 dc51 pm51 cd51 ct51 : Value}
    {f52 : Addr} {od52 an52 : Option Addr} {sl52 : Array (Option Value)} {oc52 kV52 dc52 pm52 cd52 ct52 : Value}
    {f53 : Addr} {od53 an53 : Option Addr} {sl53 : Array (Option Value)} {oc53 kV53 dc53 pm53 cd53 ct53 : Value}
    {f54 : Addr} {od54 an54 : Option Addr} {sl54 : Array (Option Value)} {oc54 kV54 dc54 pm54 cd54 ct54 : Value}
    {f55 : Addr} {od55 an55 : Option Addr} {sl55 : Array (Option Value)} {oc55 kV55 dc55 pm55 cd55 ct55 : Value}
    {f56 : Addr} {od56 an56 : Option Addr} {sl56 : Array (Option Value)} {oc56 kV56 dc56 pm56 cd56 ct56 : Value}
    {f57 : Addr} {od57 an57 : Option Addr} {sl57 : Array (Option Value)} {oc57 kV57 dc57 pm57 cd57 ct57 : Value}
    {t_LETTERS : Tok}
    {t_MOST_SIGNS : Tok}
    {t_MOST_STATES : Tok}
    {t_MOST_TEXT : Tok}
    {t_MOST_WORD : Tok}
    {c_NoExpander : Addr}
    {c_NoText : Addr}
    {c_NoCall : Addr}
    {c_Mismatch : Addr}
    {c_NoOutcome : Addr}
    {c_TooMany : Addr}
    {c_ScanError : Addr} {i_NoOutcome : Addr} {nm_NoOutcome q_NoOutcome : Str} {N_NoOutcome : Addr} {bs_NoOutcome : List Value} {sn_NoOutcome : List Str} {sub_NoOutcome : List Value} {ab_NoOutcome : Bool} {col_NoOutcome : Option Bool} {dd_NoOutcome : Option Addr} {m0_NoOutcome m1_NoOutcome m2_NoOutcome m3_NoOutcome m5_NoOutcome : Option Value}
    {iod_NoOutcome ian_NoOutcome : Option Addr} {isl_NoOutcome : Array (Option Value)} {ioc_NoOutcome ikV_NoOutcome idc_NoOutcome ipm_NoOutcome icd_NoOutcome ict_NoOutcome : Value}
    {i_TooMany : Addr} {nm_TooMany q_TooMany : Str} {N_TooMany : Addr} {bs_TooMany : List Value} {sn_TooMany : List Str} {sub_TooMany : List Value} {ab_TooMany : Bool} {col_TooMany : Option Bool} {dd_TooMany : Option Addr} {m0_TooMany m1_TooMany m2_TooMany m3_TooMany m5_TooMany : Option Value}
    {iod_TooMany ian_TooMany : Option Addr} {isl_TooMany : Array (Option Value)} {ioc_TooMany ikV_TooMany idc_TooMany ipm_TooMany icd_TooMany ict_TooMany : Value}
    (a0 : PySem.W.nsIn K mainGlobals "is_word" = some (some (.ref f0)))
    (l0 : K.lookup f0 = some ⟨oc0, od0, .func (PySem.W.fnOf "is_word" "is_word" (defArgs s_is_word) (defBody s_is_word) (defScope s_is_word) .none kV0 dc0 pm0 an0 cd0 ct0), sl0⟩)
    (c0 : PySem.W.codeIn K cd0 "is_word" = true)
    (k0 : PySem.W.keepIn K (.ref f0) = true)
    (a1 : PySem.W.nsIn K mainGlobals "is_text" = some (some (.ref f1)))
    (l1 : K.lookup f1 = some ⟨oc1, od1, .func (PySem.W.fnOf "is_text" "is_text" (defArgs s_is_text) (defBody s_is_text) (defScope s_is_text) .none kV1 dc1 pm1 an1 cd1 ct1), sl1⟩)
    (c1 : PySem.W.codeIn K cd1 "is_text" = true)
    (k1 : PySem.W.keepIn K (.ref f1) = true)
    (a2 : PySem.W.nsIn K mainGlobals "need_text" = some (some (.ref f2)))
    (l2 : K.lookup f2 = some ⟨oc2, od2, .func (PySem.W.fnOf "need_text" "need_text" (defArgs s_need_text) (defBody s_need_text) (defScope s_need_text) .none kV2 dc2 pm2 an2 cd2 ct2), sl2⟩)
    (c2 : PySem.W.codeIn K cd2 "need_text" = true)
    (k2 : PySem.W.keepIn K (.ref f2) = true)
    (a3 : PySem.W.nsIn K mainGlobals "is_expander" = some (some (.ref f3)))
    (l3 : K.lookup f3 = some ⟨oc3, od3, .func (PySem.W.fnOf "is_expander" "is_expander" (defArgs s_is_expander) (defBody s_is_expander) (defScope s_is_expander) .none kV3 dc3 pm3 an3 cd3 ct3), sl3⟩)
    (c3 : PySem.W.codeIn K cd3 "is_expander" = true)
    (k3 : PySem.W.keepIn K (.ref f3) = true)
    (a4 : PySem.W.nsIn K mainGlobals "need_expander" = some (some (.ref f4)))
    (l4 : K.lookup f4 = some ⟨oc4, od4, .func (PySem.W.fnOf "need_expander" "need_expander" (defArgs s_need_expander) (defBody s_need_expander) (defScope s_need_expander) .none kV4 dc4 pm4 an4 cd4 ct4), sl4⟩)
    (c4 : PySem.W.codeIn K cd4 "need_expander" = true)
    (k4 : PySem.W.keepIn K (.ref f4) = true)
    (a5 : PySem.W.nsIn K mainGlobals "need_call" = some (some (.ref f5)))
    (l5 : K.lookup f5 = some ⟨oc5, od5, .func (PySem.W.fnOf "need_call" "need_call" (defArgs s_need_call) (defBody s_need_call) (defScope s_need_call) .none kV5 dc5 pm5 an5 cd5 ct5), sl5⟩)
    (c5 : PySem.W.codeIn K cd5 "need_call" = true)
    (k5 : PySem.W.keepIn K (.ref f5) = true)
    (a6 : PySem.W.nsIn K mainGlobals "is_call" = some (some (.ref f6)))
    (l6 : K.lookup f6 = some ⟨oc6, od6, .func (PySem.W.fnOf "is_call" "is_call" (defArgs s_is_call) (defBody s_is_call) (defScope s_is_call) .none kV6 dc6 pm6 an6 cd6 ct6), sl6⟩)
    (c6 : PySem.W.codeIn K cd6 "is_call" = true)
    (k6 : PySem.W.keepIn K (.ref f6) = true)
    (a7 : PySem.W.nsIn K mainGlobals "is_sign" = some (some (.ref f7)))
    (l7 : K.lookup f7 = some ⟨oc7, od7, .func (PySem.W.fnOf "is_sign" "is_sign" (defArgs s_is_sign) (defBody s_is_sign) (defScope s_is_sign) .none kV7 dc7 pm7 an7 cd7 ct7), sl7⟩)
    (c7 : PySem.W.codeIn K cd7 "is_sign" = true)
    (k7 : PySem.W.keepIn K (.ref f7) = true)
    (a8 : PySem.W.nsIn K mainGlobals "is_number" = some (some (.ref f8)))
    (l8 : K.lookup f8 = some ⟨oc8, od8, .func (PySem.W.fnOf "is_number" "is_number" (defArgs s_is_number) (defBody s_is_number) (defScope s_is_number) .none kV8 dc8 pm8 an8 cd8 ct8), sl8⟩)
    (c8 : PySem.W.codeIn K cd8 "is_number" = true)
    (k8 : PySem.W.keepIn K (.ref f8) = true)
    (a9 : PySem.W.nsIn K mainGlobals "is_whole" = some (some (.ref f9)))
    (l9 : K.lookup f9 = some ⟨oc9, od9, .func (PySem.W.fnOf "is_whole" "is_whole" (defArgs s_is_whole) (defBody s_is_whole) (defScope s_is_whole) .none kV9 dc9 pm9 an9 cd9 ct9), sl9⟩)
    (c9 : PySem.W.codeIn K cd9 "is_whole" = true)
    (k9 : PySem.W.keepIn K (.ref f9) = true)
    (a10 : PySem.W.nsIn K mainGlobals "move_of" = some (some (.ref f10)))
    (l10 : K.lookup f10 = some ⟨oc10, od10, .func (PySem.W.fnOf "move_of" "move_of" (defArgs s_move_of) (defBody s_move_of) (defScope s_move_of) .none kV10 dc10 pm10 an10 cd10 ct10), sl10⟩)
    (c10 : PySem.W.codeIn K cd10 "move_of" = true)
    (k10 : PySem.W.keepIn K (.ref f10) = true)
    (a11 : PySem.W.nsIn K mainGlobals "_are_signs" = some (some (.ref f11)))
    (l11 : K.lookup f11 = some ⟨oc11, od11, .func (PySem.W.fnOf "_are_signs" "_are_signs" (defArgs s_are_signs) (defBody s_are_signs) (defScope s_are_signs) .none kV11 dc11 pm11 an11 cd11 ct11), sl11⟩)
    (c11 : PySem.W.codeIn K cd11 "_are_signs" = true)
    (k11 : PySem.W.keepIn K (.ref f11) = true)
    (a12 : PySem.W.nsIn K mainGlobals "_is_short_word" = some (some (.ref f12)))
    (l12 : K.lookup f12 = some ⟨oc12, od12, .func (PySem.W.fnOf "_is_short_word" "_is_short_word" (defArgs s_is_short_word) (defBody s_is_short_word) (defScope s_is_short_word) .none kV12 dc12 pm12 an12 cd12 ct12), sl12⟩)
    (c12 : PySem.W.codeIn K cd12 "_is_short_word" = true)
    (k12 : PySem.W.keepIn K (.ref f12) = true)
    (a13 : PySem.W.nsIn K mainGlobals "_are_states" = some (some (.ref f13)))
    (l13 : K.lookup f13 = some ⟨oc13, od13, .func (PySem.W.fnOf "_are_states" "_are_states" (defArgs s_are_states) (defBody s_are_states) (defScope s_are_states) .none kV13 dc13 pm13 an13 cd13 ct13), sl13⟩)
    (c13 : PySem.W.codeIn K cd13 "_are_states" = true)
    (k13 : PySem.W.keepIn K (.ref f13) = true)
    (a14 : PySem.W.nsIn K mainGlobals "_is_state" = some (some (.ref f14)))
    (l14 : K.lookup f14 = some ⟨oc14, od14, .func (PySem.W.fnOf "_is_state" "_is_state" (defArgs s_is_state) (defBody s_is_state) (defScope s_is_state) .none kV14 dc14 pm14 an14 cd14 ct14), sl14⟩)
    (c14 : PySem.W.codeIn K cd14 "_is_state" = true)
    (k14 : PySem.W.keepIn K (.ref f14) = true)
    (a15 : PySem.W.nsIn K mainGlobals "_is_move" = some (some (.ref f15)))
    (l15 : K.lookup f15 = some ⟨oc15, od15, .func (PySem.W.fnOf "_is_move" "_is_move" (defArgs s_is_move) (defBody s_is_move) (defScope s_is_move) .none kV15 dc15 pm15 an15 cd15 ct15), sl15⟩)
    (c15 : PySem.W.codeIn K cd15 "_is_move" = true)
    (k15 : PySem.W.keepIn K (.ref f15) = true)
    (a16 : PySem.W.nsIn K mainGlobals "value" = some (some (.ref f16)))
    (l16 : K.lookup f16 = some ⟨oc16, od16, .func (PySem.W.fnOf "value" "value" (defArgs s_value) (defBody s_value) (defScope s_value) .none kV16 dc16 pm16 an16 cd16 ct16), sl16⟩)
    (c16 : PySem.W.codeIn K cd16 "value" = true)
    (k16 : PySem.W.keepIn K (.ref f16) = true)
    (a17 : PySem.W.nsIn K mainGlobals "thread" = some (some (.ref f17)))
    (l17 : K.lookup f17 = some ⟨oc17, od17, .func (PySem.W.fnOf "thread" "thread" (defArgs s_thread) (defBody s_thread) (defScope s_thread) .none kV17 dc17 pm17 an17 cd17 ct17), sl17⟩)
    (c17 : PySem.W.codeIn K cd17 "thread" = true)
    (k17 : PySem.W.keepIn K (.ref f17) = true)
    (a18 : PySem.W.nsIn K mainGlobals "values" = some (some (.ref f18)))
    (l18 : K.lookup f18 = some ⟨oc18, od18, .func (PySem.W.fnOf "values" "values" (defArgs s_values) (defBody s_values) (defScope s_values) .none kV18 dc18 pm18 an18 cd18 ct18), sl18⟩)
    (c18 : PySem.W.codeIn K cd18 "values" = true)
    (k18 : PySem.W.keepIn K (.ref f18) = true)
    (a19 : PySem.W.nsIn K mainGlobals "shows_thread" = some (some (.ref f19)))
    (l19 : K.lookup f19 = some ⟨oc19, od19, .func (PySem.W.fnOf "shows_thread" "shows_thread" (defArgs s_shows_thread) (defBody s_shows_thread) (defScope s_shows_thread) .none kV19 dc19 pm19 an19 cd19 ct19), sl19⟩)
    (c19 : PySem.W.codeIn K cd19 "shows_thread" = true)
    (k19 : PySem.W.keepIn K (.ref f19) = true)
    (a20 : PySem.W.nsIn K mainGlobals "plain" = some (some (.ref f20)))
    (l20 : K.lookup f20 = some ⟨oc20, od20, .func (PySem.W.fnOf "plain" "plain" (defArgs s_plain) (defBody s_plain) (defScope s_plain) .none kV20 dc20 pm20 an20 cd20 ct20), sl20⟩)
    (c20 : PySem.W.codeIn K cd20 "plain" = true)
    (k20 : PySem.W.keepIn K (.ref f20) = true)
    (a21 : PySem.W.nsIn K mainGlobals "outcome" = some (some (.ref f21)))
    (l21 : K.lookup f21 = some ⟨oc21, od21, .func (PySem.W.fnOf "outcome" "outcome" (defArgs s_outcome) (defBody s_outcome) (defScope s_outcome) .none kV21 dc21 pm21 an21 cd21 ct21), sl21⟩)
    (c21 : PySem.W.codeIn K cd21 "outcome" = true)
    (k21 : PySem.W.keepIn K (.ref f21) = true)
    (a22 : PySem.W.nsIn K mainGlobals "ends_always" = some (some (.ref f22)))
    (l22 : K.lookup f22 = some ⟨oc22, od22, .func (PySem.W.fnOf "ends_always" "ends_always" (defArgs s_ends_always) (defBody s_ends_always) (defScope s_ends_always) .none kV22 dc22 pm22 an22 cd22 ct22), sl22⟩)
    (c22 : PySem.W.codeIn K cd22 "ends_always" = true)
    (k22 : PySem.W.keepIn K (.ref f22) = true)
    (a23 : PySem.W.nsIn K mainGlobals "words_of_text" = some (some (.ref f23)))
    (l23 : K.lookup f23 = some ⟨oc23, od23, .func (PySem.W.fnOf "words_of_text" "words_of_text" (defArgs s_words_of_text) (defBody s_words_of_text) (defScope s_words_of_text) .none kV23 dc23 pm23 an23 cd23 ct23), sl23⟩)
    (c23 : PySem.W.codeIn K cd23 "words_of_text" = true)
    (k23 : PySem.W.keepIn K (.ref f23) = true)
    (a24 : PySem.W.nsIn K mainGlobals "calls_of_text" = some (some (.ref f24)))
    (l24 : K.lookup f24 = some ⟨oc24, od24, .func (PySem.W.fnOf "calls_of_text" "calls_of_text" (defArgs s_calls_of_text) (defBody s_calls_of_text) (defScope s_calls_of_text) .none kV24 dc24 pm24 an24 cd24 ct24), sl24⟩)
    (c24 : PySem.W.codeIn K cd24 "calls_of_text" = true)
    (k24 : PySem.W.keepIn K (.ref f24) = true)
    (a25 : PySem.W.nsIn K mainGlobals "sizes_of" = some (some (.ref f25)))
    (l25 : K.lookup f25 = some ⟨oc25, od25, .func (PySem.W.fnOf "sizes_of" "sizes_of" (defArgs s_sizes_of) (defBody s_sizes_of) (defScope s_sizes_of) .none kV25 dc25 pm25 an25 cd25 ct25), sl25⟩)
    (c25 : PySem.W.codeIn K cd25 "sizes_of" = true)
    (k25 : PySem.W.keepIn K (.ref f25) = true)
    (a26 : PySem.W.nsIn K mainGlobals "values_of" = some (some (.ref f26)))
    (l26 : K.lookup f26 = some ⟨oc26, od26, .func (PySem.W.fnOf "values_of" "values_of" (defArgs s_values_of) (defBody s_values_of) (defScope s_values_of) .none kV26 dc26 pm26 an26 cd26 ct26), sl26⟩)
    (c26 : PySem.W.codeIn K cd26 "values_of" = true)
    (k26 : PySem.W.keepIn K (.ref f26) = true)
    (a27 : PySem.W.nsIn K mainGlobals "short_values" = some (some (.ref f27)))
    (l27 : K.lookup f27 = some ⟨oc27, od27, .func (PySem.W.fnOf "short_values" "short_values" (defArgs s_short_values) (defBody s_short_values) (defScope s_short_values) .none kV27 dc27 pm27 an27 cd27 ct27), sl27⟩)
    (c27 : PySem.W.codeIn K cd27 "short_values" = true)
    (k27 : PySem.W.keepIn K (.ref f27) = true)
    (a28 : PySem.W.nsIn K mainGlobals "all_calls" = some (some (.ref f28)))
    (l28 : K.lookup f28 = some ⟨oc28, od28, .func (PySem.W.fnOf "all_calls" "all_calls" (defArgs s_all_calls) (defBody s_all_calls) (defScope s_all_calls) .none kV28 dc28 pm28 an28 cd28 ct28), sl28⟩)
    (c28 : PySem.W.codeIn K cd28 "all_calls" = true)
    (k28 : PySem.W.keepIn K (.ref f28) = true)
    (a29 : PySem.W.nsIn K mainGlobals "_measure" = some (some (.ref f29)))
    (l29 : K.lookup f29 = some ⟨oc29, od29, .func (PySem.W.fnOf "_measure" "_measure" (defArgs s_measure) (defBody s_measure) (defScope s_measure) .none kV29 dc29 pm29 an29 cd29 ct29), sl29⟩)
    (c29 : PySem.W.codeIn K cd29 "_measure" = true)
    (k29 : PySem.W.keepIn K (.ref f29) = true)
    (a30 : PySem.W.nsIn K mainGlobals "_read_on" = some (some (.ref f30)))
    (l30 : K.lookup f30 = some ⟨oc30, od30, .func (PySem.W.fnOf "_read_on" "_read_on" (defArgs s_read_on) (defBody s_read_on) (defScope s_read_on) .none kV30 dc30 pm30 an30 cd30 ct30), sl30⟩)
    (c30 : PySem.W.codeIn K cd30 "_read_on" = true)
    (k30 : PySem.W.keepIn K (.ref f30) = true)
    (a31 : PySem.W.nsIn K mainGlobals "_need_value" = some (some (.ref f31)))
    (l31 : K.lookup f31 = some ⟨oc31, od31, .func (PySem.W.fnOf "_need_value" "_need_value" (defArgs s_need_value) (defBody s_need_value) (defScope s_need_value) .none kV31 dc31 pm31 an31 cd31 ct31), sl31⟩)
    (c31 : PySem.W.codeIn K cd31 "_need_value" = true)
    (k31 : PySem.W.keepIn K (.ref f31) = true)
    (a32 : PySem.W.nsIn K mainGlobals "_thread_of" = some (some (.ref f32)))
    (l32 : K.lookup f32 = some ⟨oc32, od32, .func (PySem.W.fnOf "_thread_of" "_thread_of" (defArgs s_thread_of) (defBody s_thread_of) (defScope s_thread_of) .none kV32 dc32 pm32 an32 cd32 ct32), sl32⟩)
    (c32 : PySem.W.codeIn K cd32 "_thread_of" = true)
    (k32 : PySem.W.keepIn K (.ref f32) = true)
    (a33 : PySem.W.nsIn K mainGlobals "_first_without" = some (some (.ref f33)))
    (l33 : K.lookup f33 = some ⟨oc33, od33, .func (PySem.W.fnOf "_first_without" "_first_without" (defArgs s_first_without) (defBody s_first_without) (defScope s_first_without) .none kV33 dc33 pm33 an33 cd33 ct33), sl33⟩)
    (c33 : PySem.W.codeIn K cd33 "_first_without" = true)
    (k33 : PySem.W.keepIn K (.ref f33) = true)
    (a34 : PySem.W.nsIn K mainGlobals "begin" = some (some (.ref f34)))
    (l34 : K.lookup f34 = some ⟨oc34, od34, .func (PySem.W.fnOf "begin" "begin" (defArgs s_begin) (defBody s_begin) (defScope s_begin) .none kV34 dc34 pm34 an34 cd34 ct34), sl34⟩)
    (c34 : PySem.W.codeIn K cd34 "begin" = true)
    (k34 : PySem.W.keepIn K (.ref f34) = true)
    (a35 : PySem.W.nsIn K mainGlobals "step" = some (some (.ref f35)))
    (l35 : K.lookup f35 = some ⟨oc35, od35, .func (PySem.W.fnOf "step" "step" (defArgs s_step) (defBody s_step) (defScope s_step) .none kV35 dc35 pm35 an35 cd35 ct35), sl35⟩)
    (c35 : PySem.W.codeIn K cd35 "step" = true)
    (k35 : PySem.W.keepIn K (.ref f35) = true)
    (a36 : PySem.W.nsIn K mainGlobals "stands" = some (some (.ref f36)))
    (l36 : K.lookup f36 = some ⟨oc36, od36, .func (PySem.W.fnOf "stands" "stands" (defArgs s_stands) (defBody s_stands) (defScope s_stands) .none (.ref D36) dc36 pm36 an36 cd36 ct36), sl36⟩)
    (dk36 : PySem.W.nsIn K D36 "most" = some (some (.int 100 tD36)))
    (c36 : PySem.W.codeIn K cd36 "stands" = true)
    (k36 : PySem.W.keepIn K (.ref f36) = true)
    (a37 : PySem.W.nsIn K mainGlobals "_first_stand" = some (some (.ref f37)))
    (l37 : K.lookup f37 = some ⟨oc37, od37, .func (PySem.W.fnOf "_first_stand" "_first_stand" (defArgs s_first_stand) (defBody s_first_stand) (defScope s_first_stand) .none kV37 dc37 pm37 an37 cd37 ct37), sl37⟩)
    (c37 : PySem.W.codeIn K cd37 "_first_stand" = true)
    (k37 : PySem.W.keepIn K (.ref f37) = true)
    (a38 : PySem.W.nsIn K mainGlobals "_next_stand" = some (some (.ref f38)))
    (l38 : K.lookup f38 = some ⟨oc38, od38, .func (PySem.W.fnOf "_next_stand" "_next_stand" (defArgs s_next_stand) (defBody s_next_stand) (defScope s_next_stand) .none kV38 dc38 pm38 an38 cd38 ct38), sl38⟩)
    (c38 : PySem.W.codeIn K cd38 "_next_stand" = true)
    (k38 : PySem.W.keepIn K (.ref f38) = true)
    (a39 : PySem.W.nsIn K mainGlobals "_is_stand" = some (some (.ref f39)))
    (l39 : K.lookup f39 = some ⟨oc39, od39, .func (PySem.W.fnOf "_is_stand" "_is_stand" (defArgs s_is_stand) (defBody s_is_stand) (defScope s_is_stand) .none kV39 dc39 pm39 an39 cd39 ct39), sl39⟩)
    (c39 : PySem.W.codeIn K cd39 "_is_stand" = true)
    (k39 : PySem.W.keepIn K (.ref f39) = true)
    (a40 : PySem.W.nsIn K mainGlobals "_law_kneaded" = some (some (.ref f40)))
    (l40 : K.lookup f40 = some ⟨oc40, od40, .func (PySem.W.fnOf "_law_kneaded" "_law_kneaded" (defArgs s_Lkneaded) (defBody s_Lkneaded) (defScope s_Lkneaded) .none kV40 dc40 pm40 an40 cd40 ct40), sl40⟩)
    (c40 : PySem.W.codeIn K cd40 "_law_kneaded" = true)
    (k40 : PySem.W.keepIn K (.ref f40) = true)
    (a41 : PySem.W.nsIn K mainGlobals "_law_pot_of" = some (some (.ref f41)))
    (l41 : K.lookup f41 = some ⟨oc41, od41, .func (PySem.W.fnOf "_law_pot_of" "_law_pot_of" (defArgs s_Lpot_of) (defBody s_Lpot_of) (defScope s_Lpot_of) .none kV41 dc41 pm41 an41 cd41 ct41), sl41⟩)
    (c41 : PySem.W.codeIn K cd41 "_law_pot_of" = true)
    (k41 : PySem.W.keepIn K (.ref f41) = true)
    (a42 : PySem.W.nsIn K mainGlobals "_law_below" = some (some (.ref f42)))
    (l42 : K.lookup f42 = some ⟨oc42, od42, .func (PySem.W.fnOf "_law_below" "_law_below" (defArgs s_Lbelow) (defBody s_Lbelow) (defScope s_Lbelow) .none kV42 dc42 pm42 an42 cd42 ct42), sl42⟩)
    (c42 : PySem.W.codeIn K cd42 "_law_below" = true)
    (k42 : PySem.W.keepIn K (.ref f42) = true)
    (a43 : PySem.W.nsIn K mainGlobals "_law_pick" = some (some (.ref f43)))
    (l43 : K.lookup f43 = some ⟨oc43, od43, .func (PySem.W.fnOf "_law_pick" "_law_pick" (defArgs s_Lpick) (defBody s_Lpick) (defScope s_Lpick) .none kV43 dc43 pm43 an43 cd43 ct43), sl43⟩)
    (c43 : PySem.W.codeIn K cd43 "_law_pick" = true)
    (k43 : PySem.W.keepIn K (.ref f43) = true)
    (a44 : PySem.W.nsIn K mainGlobals "_law_some_word" = some (some (.ref f44)))
    (l44 : K.lookup f44 = some ⟨oc44, od44, .func (PySem.W.fnOf "_law_some_word" "_law_some_word" (defArgs s_Lsome_word) (defBody s_Lsome_word) (defScope s_Lsome_word) .none kV44 dc44 pm44 an44 cd44 ct44), sl44⟩)
    (c44 : PySem.W.codeIn K cd44 "_law_some_word" = true)
    (k44 : PySem.W.keepIn K (.ref f44) = true)
    (a45 : PySem.W.nsIn K mainGlobals "_law_some_expander" = some (some (.ref f45)))
    (l45 : K.lookup f45 = some ⟨oc45, od45, .func (PySem.W.fnOf "_law_some_expander" "_law_some_expander" (defArgs s_Lsome_expander) (defBody s_Lsome_expander) (defScope s_Lsome_expander) .none kV45 dc45 pm45 an45 cd45 ct45), sl45⟩)
    (c45 : PySem.W.codeIn K cd45 "_law_some_expander" = true)
    (k45 : PySem.W.keepIn K (.ref f45) = true)
    (a46 : PySem.W.nsIn K mainGlobals "_law_plainer" = some (some (.ref f46)))
    (l46 : K.lookup f46 = some ⟨oc46, od46, .func (PySem.W.fnOf "_law_plainer" "_law_plainer" (defArgs s_Lplainer) (defBody s_Lplainer) (defScope s_Lplainer) .none kV46 dc46 pm46 an46 cd46 ct46), sl46⟩)
    (c46 : PySem.W.codeIn K cd46 "_law_plainer" = true)
    (k46 : PySem.W.keepIn K (.ref f46) = true)
    (a47 : PySem.W.nsIn K mainGlobals "_law_calls" = some (some (.ref f47)))
    (l47 : K.lookup f47 = some ⟨oc47, od47, .func (PySem.W.fnOf "_law_calls" "_law_calls" (defArgs s_Lcalls) (defBody s_Lcalls) (defScope s_Lcalls) .none kV47 dc47 pm47 an47 cd47 ct47), sl47⟩)
    (c47 : PySem.W.codeIn K cd47 "_law_calls" = true)
    (k47 : PySem.W.keepIn K (.ref f47) = true)
    (a48 : PySem.W.nsIn K mainGlobals "_law_sizes" = some (some (.ref f48)))
    (l48 : K.lookup f48 = some ⟨oc48, od48, .func (PySem.W.fnOf "_law_sizes" "_law_sizes" (defArgs s_Lsizes) (defBody s_Lsizes) (defScope s_Lsizes) .none kV48 dc48 pm48 an48 cd48 ct48), sl48⟩)
    (c48 : PySem.W.codeIn K cd48 "_law_sizes" = true)
    (k48 : PySem.W.keepIn K (.ref f48) = true)
    (a49 : PySem.W.nsIn K mainGlobals "_law_is_short" = some (some (.ref f49)))
    (l49 : K.lookup f49 = some ⟨oc49, od49, .func (PySem.W.fnOf "_law_is_short" "_law_is_short" (defArgs s_Lis_short) (defBody s_Lis_short) (defScope s_Lis_short) .none kV49 dc49 pm49 an49 cd49 ct49), sl49⟩)
    (c49 : PySem.W.codeIn K cd49 "_law_is_short" = true)
    (k49 : PySem.W.keepIn K (.ref f49) = true)
    (a50 : PySem.W.nsIn K mainGlobals "_law_is_count" = some (some (.ref f50)))
    (l50 : K.lookup f50 = some ⟨oc50, od50, .func (PySem.W.fnOf "_law_is_count" "_law_is_count" (defArgs s_Lis_count) (defBody s_Lis_count) (defScope s_Lis_count) .none kV50 dc50 pm50 an50 cd50 ct50), sl50⟩)
    (c50 : PySem.W.codeIn K cd50 "_law_is_count" = true)
    (k50 : PySem.W.keepIn K (.ref f50) = true)
    (a51 : PySem.W.nsIn K mainGlobals "_law_is_move" = some (some (.ref f51)))
    (l51 : K.lookup f51 = some ⟨oc51, od51, .func (PySem.W.fnOf "_law_is_move" "_law_is_move" (defArgs s_Lis_move) (defBody s_Lis_move) (defScope s_Lis_move) .none kV51 dc51 pm51 an51 cd51 ct51), sl51⟩)
    (c51 : PySem.W.codeIn K cd51 "_law_is_move" = true)
    (k51 : PySem.W.keepIn K (.ref f51) = true)
    (a52 : PySem.W.nsIn K mainGlobals "_law_is_state" = some (some (.ref f52)))
    (l52 : K.lookup f52 = some ⟨oc52, od52, .func (PySem.W.fnOf "_law_is_state" "_law_is_state" (defArgs s_Lis_state) (defBody s_Lis_state) (defScope s_Lis_state) .none kV52 dc52 pm52 an52 cd52 ct52), sl52⟩)
    (c52 : PySem.W.codeIn K cd52 "_law_is_state" = true)
    (k52 : PySem.W.keepIn K (.ref f52) = true)
    (a53 : PySem.W.nsIn K mainGlobals "_law_is_expander" = some (some (.ref f53)))
    (l53 : K.lookup f53 = some ⟨oc53, od53, .func (PySem.W.fnOf "_law_is_expander" "_law_is_expander" (defArgs s_Lis_expander) (defBody s_Lis_expander) (defScope s_Lis_expander) .none kV53 dc53 pm53 an53 cd53 ct53), sl53⟩)
    (c53 : PySem.W.codeIn K cd53 "_law_is_expander" = true)
    (k53 : PySem.W.keepIn K (.ref f53) = true)
    (a54 : PySem.W.nsIn K mainGlobals "_law_spoilt" = some (some (.ref f54)))
    (l54 : K.lookup f54 = some ⟨oc54, od54, .func (PySem.W.fnOf "_law_spoilt" "_law_spoilt" (defArgs s_Lspoilt) (defBody s_Lspoilt) (defScope s_Lspoilt) .none kV54 dc54 pm54 an54 cd54 ct54), sl54⟩)
    (c54 : PySem.W.codeIn K cd54 "_law_spoilt" = true)
    (k54 : PySem.W.keepIn K (.ref f54) = true)
    (a55 : PySem.W.nsIn K mainGlobals "_law_do" = some (some (.ref f55)))
    (l55 : K.lookup f55 = some ⟨oc55, od55, .func (PySem.W.fnOf "_law_do" "_law_do" (defArgs s_Ldo) (defBody s_Ldo) (defScope s_Ldo) .none kV55 dc55 pm55 an55 cd55 ct55), sl55⟩)
    (c55 : PySem.W.codeIn K cd55 "_law_do" = true)
    (k55 : PySem.W.keepIn K (.ref f55) = true)
    (a56 : PySem.W.nsIn K mainGlobals "_law_word" = some (some (.ref f56)))
    (l56 : K.lookup f56 = some ⟨oc56, od56, .func (PySem.W.fnOf "_law_word" "_law_word" (defArgs s_Lword) (defBody s_Lword) (defScope s_Lword) .none kV56 dc56 pm56 an56 cd56 ct56), sl56⟩)
    (c56 : PySem.W.codeIn K cd56 "_law_word" = true)
    (k56 : PySem.W.keepIn K (.ref f56) = true)
    (a57 : PySem.W.nsIn K mainGlobals "law" = some (some (.ref f57)))
    (l57 : K.lookup f57 = some ⟨oc57, od57, .func (PySem.W.fnOf "law" "law" (defArgs s_law) (defBody s_law) (defScope s_law) .none kV57 dc57 pm57 an57 cd57 ct57), sl57⟩)
    (c57 : PySem.W.codeIn K cd57 "law" = true)
    (k57 : PySem.W.keepIn K (.ref f57) = true)
    (z_abs : PySem.W.nsIn K mainGlobals "abs" = some none)
    (z_all : PySem.W.nsIn K mainGlobals "all" = some none)
    (z_any : PySem.W.nsIn K mainGlobals "any" = some none)
    (z_bool : PySem.W.nsIn K mainGlobals "bool" = some none)
    (z_enumerate : PySem.W.nsIn K mainGlobals "enumerate" = some none)
    (z_int : PySem.W.nsIn K mainGlobals "int" = some none)
    (z_isinstance : PySem.W.nsIn K mainGlobals "isinstance" = some none)
    (z_len : PySem.W.nsIn K mainGlobals "len" = some none)
    (z_list : PySem.W.nsIn K mainGlobals "list" = some none)
    (z_max : PySem.W.nsIn K mainGlobals "max" = some none)
    (z_range : PySem.W.nsIn K mainGlobals "range" = some none)
    (z_repr : PySem.W.nsIn K mainGlobals "repr" = some none)
    (z_set : PySem.W.nsIn K mainGlobals "set" = some none)
    (z_sorted : PySem.W.nsIn K mainGlobals "sorted" = some none)
    (z_str : PySem.W.nsIn K mainGlobals "str" = some none)
    (z_sum : PySem.W.nsIn K mainGlobals "sum" = some none)
    (z_tuple : PySem.W.nsIn K mainGlobals "tuple" = some none)
    (m_LETTERS : PySem.W.nsIn K mainGlobals "LETTERS" = some (some (.str "abcdefghijklmnopqrstuvwxyz" t_LETTERS)))
    (m_MOST_SIGNS : PySem.W.nsIn K mainGlobals "MOST_SIGNS" = some (some (.int 4 t_MOST_SIGNS)))
    (m_MOST_STATES : PySem.W.nsIn K mainGlobals "MOST_STATES" = some (some (.int 60 t_MOST_STATES)))
    (m_MOST_TEXT : PySem.W.nsIn K mainGlobals "MOST_TEXT" = some (some (.int 200 t_MOST_TEXT)))
    (m_MOST_WORD : PySem.W.nsIn K mainGlobals "MOST_WORD" = some (some (.int 2000 t_MOST_WORD)))
    (n_NoExpander : PySem.W.nsIn K mainGlobals "NoExpander" = some (some (.ref c_NoExpander)))
    (n_NoText : PySem.W.nsIn K mainGlobals "NoText" = some (some (.ref c_NoText)))
    (n_NoCall : PySem.W.nsIn K mainGlobals "NoCall" = some (some (.ref c_NoCall)))
    (n_Mismatch : PySem.W.nsIn K mainGlobals "Mismatch" = some (some (.ref c_Mismatch)))
    (n_NoOutcome : PySem.W.nsIn K mainGlobals "NoOutcome" = some (some (.ref c_NoOutcome)))
    (n_TooMany : PySem.W.nsIn K mainGlobals "TooMany" = some (some (.ref c_TooMany)))
    (xi_NoExpander : PySem.W.excIn K c_NoExpander [.type "ValueError", .type "Exception", .type "BaseException", .type "object"] "ValueError.__new__" = true)
    (kc_NoExpander : PySem.W.keepIn K (.ref c_NoExpander) = true)
    (b_NoExpander : PySem.W.subIn K (.ref c_NoExpander) (.type "BaseException") = some true)
    (t_NoExpander : PySem.W.typeIn K (.ref c_NoExpander) = some (.type "type"))
    (ic_NoExpander : PySem.W.isClsIn K c_NoExpander = true)
    (xi_NoText : PySem.W.excIn K c_NoText [.type "ValueError", .type "Exception", .type "BaseException", .type "object"] "ValueError.__new__" = true)
    (kc_NoText : PySem.W.keepIn K (.ref c_NoText) = true)
    (b_NoText : PySem.W.subIn K (.ref c_NoText) (.type "BaseException") = some true)
    (t_NoText : PySem.W.typeIn K (.ref c_NoText) = some (.type "type"))
    (ic_NoText : PySem.W.isClsIn K c_NoText = true)
    (xi_NoCall : PySem.W.excIn K c_NoCall [.type "ValueError", .type "Exception", .type "BaseException", .type "object"] "ValueError.__new__" = true)
    (kc_NoCall : PySem.W.keepIn K (.ref c_NoCall) = true)
    (b_NoCall : PySem.W.subIn K (.ref c_NoCall) (.type "BaseException") = some true)
    (t_NoCall : PySem.W.typeIn K (.ref c_NoCall) = some (.type "type"))
    (ic_NoCall : PySem.W.isClsIn K c_NoCall = true)
    (xi_Mismatch : PySem.W.excIn K c_Mismatch [.type "ValueError", .type "Exception", .type "BaseException", .type "object"] "ValueError.__new__" = true)
    (kc_Mismatch : PySem.W.keepIn K (.ref c_Mismatch) = true)
    (b_Mismatch : PySem.W.subIn K (.ref c_Mismatch) (.type "BaseException") = some true)
    (t_Mismatch : PySem.W.typeIn K (.ref c_Mismatch) = some (.type "type"))
    (ic_Mismatch : PySem.W.isClsIn K c_Mismatch = true)
    (hg_NoOutcome : PySem.W.findIn K (.ref c_NoOutcome) "__getattribute__" = some (some (.builtin "BaseException.__getattribute__")))
    (hk_NoOutcome : PySem.W.findIn K (.ref c_NoOutcome) "__getattr__" = some none)
    (b_NoOutcome : PySem.W.subIn K (.ref c_NoOutcome) (.type "BaseException") = some true)
    (hd_NoOutcome : PySem.W.hasDictIn K c_NoOutcome = true)
    (t_NoOutcome : PySem.W.typeIn K (.ref c_NoOutcome) = some (.type "type"))
    (ic_NoOutcome : PySem.W.isClsIn K c_NoOutcome = true)
    (nf_NoOutcome_kind : PySem.W.findIn K (.ref c_NoOutcome) "kind" = some none)
    (nf_NoOutcome_thread : PySem.W.findIn K (.ref c_NoOutcome) "thread" = some none)
    (xl_NoOutcome : K.lookup c_NoOutcome = some (excClassObj nm_NoOutcome q_NoOutcome c_NoOutcome N_NoOutcome bs_NoOutcome [.ref c_ScanError, .type "ValueError", .type "Exception", .type "BaseException", .type "object"] true sn_NoOutcome sub_NoOutcome ab_NoOutcome col_NoOutcome dd_NoOutcome m0_NoOutcome m1_NoOutcome m2_NoOutcome m3_NoOutcome m5_NoOutcome "ValueError.__new__"))
    (sa_NoOutcome : PySem.W.findIn K (.ref c_NoOutcome) "__setattr__" = some (some (.builtin "object.__setattr__")))
    (kc_NoOutcome : PySem.W.keepIn K (.ref c_NoOutcome) = true)
    (ii_NoOutcome : PySem.W.findIn K (.ref c_NoOutcome) "__init__" = some (some (.ref i_NoOutcome)))
    (it_NoOutcome : PySem.W.typeIn K (.ref i_NoOutcome) = some (.type "function"))
    (il_NoOutcome : K.lookup i_NoOutcome = some ⟨ioc_NoOutcome, iod_NoOutcome, .func (PySem.W.fnOf "__init__" "NoOutcome.__init__" (defArgs (inClass (top 3) 0)) (defBody (inClass (top 3) 0)) (defScope (inClass (top 3) 0)) .none ikV_NoOutcome idc_NoOutcome ipm_NoOutcome ian_NoOutcome icd_NoOutcome ict_NoOutcome), isl_NoOutcome⟩)
    (icd_NoOutcome : PySem.W.codeIn K icd_NoOutcome "NoOutcome.__init__" = true)
    (ik_NoOutcome : PySem.W.keepIn K (.ref i_NoOutcome) = true)
    (hg_TooMany : PySem.W.findIn K (.ref c_TooMany) "__getattribute__" = some (some (.builtin "BaseException.__getattribute__")))
    (hk_TooMany : PySem.W.findIn K (.ref c_TooMany) "__getattr__" = some none)
    (b_TooMany : PySem.W.subIn K (.ref c_TooMany) (.type "BaseException") = some true)
    (hd_TooMany : PySem.W.hasDictIn K c_TooMany = true)
    (t_TooMany : PySem.W.typeIn K (.ref c_TooMany) = some (.type "type"))
    (ic_TooMany : PySem.W.isClsIn K c_TooMany = true)
    (nf_TooMany_limit : PySem.W.findIn K (.ref c_TooMany) "limit" = some none)
    (xl_TooMany : K.lookup c_TooMany = some (excClassObj nm_TooMany q_TooMany c_TooMany N_TooMany bs_TooMany [.ref c_ScanError, .type "ValueError", .type "Exception", .type "BaseException", .type "object"] true sn_TooMany sub_TooMany ab_TooMany col_TooMany dd_TooMany m0_TooMany m1_TooMany m2_TooMany m3_TooMany m5_TooMany "ValueError.__new__"))
    (sa_TooMany : PySem.W.findIn K (.ref c_TooMany) "__setattr__" = some (some (.builtin "object.__setattr__")))
    (kc_TooMany : PySem.W.keepIn K (.ref c_TooMany) = true)
    (ii_TooMany : PySem.W.findIn K (.ref c_TooMany) "__init__" = some (some (.ref i_TooMany)))
    (it_TooMany : PySem.W.typeIn K (.ref i_TooMany) = some (.type "function"))
    (il_TooMany : K.lookup i_TooMany = some ⟨ioc_TooMany, iod_TooMany, .func (PySem.W.fnOf "__init__" "TooMany.__init__" (defArgs (inClass (top 2) 0)) (defBody (inClass (top 2) 0)) (defScope (inClass (top 2) 0)) .none ikV_TooMany idc_TooMany ipm_TooMany ian_TooMany icd_TooMany ict_TooMany), isl_TooMany⟩)
    (icd_TooMany : PySem.W.codeIn K icd_TooMany "TooMany.__init__" = true)
    (ik_TooMany : PySem.W.keepIn K (.ref i_TooMany) = true)
    (s_NoExpander_NoExpander : PySem.W.subIn K (.ref c_NoExpander) (.ref c_NoExpander) = some true)
    (s_NoText_NoExpander : PySem.W.subIn K (.ref c_NoText) (.ref c_NoExpander) = some false)
    (s_NoText_NoText : PySem.W.subIn K (.ref c_NoText) (.ref c_NoText) = some true)
    (s_NoCall_NoExpander : PySem.W.subIn K (.ref c_NoCall) (.ref c_NoExpander) = some false)
    (s_NoCall_NoText : PySem.W.subIn K (.ref c_NoCall) (.ref c_NoText) = some false)
    (s_NoCall_NoCall : PySem.W.subIn K (.ref c_NoCall) (.ref c_NoCall) = some true)
    (s_NoOutcome_NoExpander : PySem.W.subIn K (.ref c_NoOutcome) (.ref c_NoExpander) = some false)
    (s_NoOutcome_NoText : PySem.W.subIn K (.ref c_NoOutcome) (.ref c_NoText) = some false)
    (s_NoOutcome_NoCall : PySem.W.subIn K (.ref c_NoOutcome) (.ref c_NoCall) = some false)
    (s_NoOutcome_NoOutcome : PySem.W.subIn K (.ref c_NoOutcome) (.ref c_NoOutcome) = some true)
    : ∃ fd : FuncData, (∀ (s : Shared) (v : Value), BindsTo s fd ⟨[v], []⟩ [("script", v)]) ∧ ∀ base : Heap, K.In base → base.Ns mainGlobals mg → FnG l.prog w K mg base CX0 11 fa fd ["script"] (sp_law K) := by
  have e := hfa.symm.trans (PySem.W.mg_of X G a57)
  cases e
  have F0 := fun_mk (st := s_is_word) l0 c0 k0
  have b0 := F0.binds (ps := ["signs", "thing"]) fun _ _ _ _ _ _ us hl => match us, hl with | [_, _], _ => rfl
  have F1 := fun_mk (st := s_is_text) l1 c1 k1
  have b1 := F1.binds (ps := ["signs", "thing"]) fun _ _ _ _ _ _ us hl => match us, hl with | [_, _], _ => rfl
  have F2 := fun_mk (st := s_need_text) l2 c2 k2
  have b2 := F2.binds (ps := ["signs", "thing"]) fun _ _ _ _ _ _ us hl => match us, hl with | [_, _], _ => rfl
  have F3 := fun_mk (st := s_is_expander) l3 c3 k3
  have b3 := F3.binds (ps := ["thing"]) fun _ _ _ _ _ _ us hl => match us, hl with | [_], _ => rfl
  have F4 := fun_mk (st := s_need_expander) l4 c4 k4
  have b4 := F4.binds (ps := ["expander"]) fun _ _ _ _ _ _ us hl => match us, hl with | [_], _ => rfl
  have F5 := fun_mk (st := s_need_call) l5 c5 k5
  have b5 := F5.binds (ps := ["expander", "state", "sign"]) fun _ _ _ _ _ _ us hl => match us, hl with | [_, _, _], _ => rfl
  have F6 := fun_mk (st := s_is_call) l6 c6 k6
  have b6 := F6.binds (ps := ["expander", "state", "sign"]) fun _ _ _ _ _ _ us hl => match us, hl with | [_, _, _], _ => rfl
  have F7 := fun_mk (st := s_is_sign) l7 c7 k7
  have b7 := F7.binds (ps := ["signs", "thing"]) fun _ _ _ _ _ _ us hl => match us, hl with | [_, _], _ => rfl
  have F8 := fun_mk (st := s_is_number) l8 c8 k8
  have b8 := F8.binds (ps := ["many", "thing"]) fun _ _ _ _ _ _ us hl => match us, hl with | [_, _], _ => rfl
  have F9 := fun_mk (st := s_is_whole) l9 c9 k9
  have b9 := F9.binds (ps := ["thing"]) fun _ _ _ _ _ _ us hl => match us, hl with | [_], _ => rfl
  have F10 := fun_mk (st := s_move_of) l10 c10 k10
  have b10 := F10.binds (ps := ["expander", "state", "sign"]) fun _ _ _ _ _ _ us hl => match us, hl with | [_, _, _], _ => rfl
  have F11 := fun_mk (st := s_are_signs) l11 c11 k11
  have b11 := F11.binds (ps := ["thing"]) fun _ _ _ _ _ _ us hl => match us, hl with | [_], _ => rfl
  have F12 := fun_mk (st := s_is_short_word) l12 c12 k12
  have b12 := F12.binds (ps := ["signs", "thing"]) fun _ _ _ _ _ _ us hl => match us, hl with | [_, _], _ => rfl
  have F13 := fun_mk (st := s_are_states) l13 c13 k13
  have b13 := F13.binds (ps := ["signs", "thing"]) fun _ _ _ _ _ _ us hl => match us, hl with | [_, _], _ => rfl
  have F14 := fun_mk (st := s_is_state) l14 c14 k14
  have b14 := F14.binds (ps := ["signs", "many", "thing"]) fun _ _ _ _ _ _ us hl => match us, hl with | [_, _, _], _ => rfl
  have F15 := fun_mk (st := s_is_move) l15 c15 k15
  have b15 := F15.binds (ps := ["signs", "many", "thing"]) fun _ _ _ _ _ _ us hl => match us, hl with | [_, _, _], _ => rfl
  have F16 := fun_mk (st := s_value) l16 c16 k16
  have b16 := F16.binds (ps := ["expander", "state", "sign"]) fun _ _ _ _ _ _ us hl => match us, hl with | [_, _, _], _ => rfl
  have F17 := fun_mk (st := s_thread) l17 c17 k17
  have b17 := F17.binds (ps := ["expander", "state", "sign"]) fun _ _ _ _ _ _ us hl => match us, hl with | [_, _, _], _ => rfl
  have F18 := fun_mk (st := s_values) l18 c18 k18
  have b18 := F18.binds (ps := ["expander"]) fun _ _ _ _ _ _ us hl => match us, hl with | [_], _ => rfl
  have F19 := fun_mk (st := s_shows_thread) l19 c19 k19
  have b19 := F19.binds (ps := ["expander", "thing"]) fun _ _ _ _ _ _ us hl => match us, hl with | [_, _], _ => rfl
  have F20 := fun_mk (st := s_plain) l20 c20 k20
  have b20 := F20.binds (ps := ["expander"]) fun _ _ _ _ _ _ us hl => match us, hl with | [_], _ => rfl
  have F21 := fun_mk (st := s_outcome) l21 c21 k21
  have b21 := F21.binds (ps := ["expander", "text"]) fun _ _ _ _ _ _ us hl => match us, hl with | [_, _], _ => rfl
  have F22 := fun_mk (st := s_ends_always) l22 c22 k22
  have b22 := F22.binds (ps := ["expander"]) fun _ _ _ _ _ _ us hl => match us, hl with | [_], _ => rfl
  have F23 := fun_mk (st := s_words_of_text) l23 c23 k23
  have b23 := F23.binds (ps := ["expander", "found", "text"]) fun _ _ _ _ _ _ us hl => match us, hl with | [_, _, _], _ => rfl
  have F24 := fun_mk (st := s_calls_of_text) l24 c24 k24
  have b24 := F24.binds (ps := ["expander", "found", "text"]) fun _ _ _ _ _ _ us hl => match us, hl with | [_, _, _], _ => rfl
  have F25 := fun_mk (st := s_sizes_of) l25 c25 k25
  have b25 := F25.binds (ps := ["expander"]) fun _ _ _ _ _ _ us hl => match us, hl with | [_], _ => rfl
  have F26 := fun_mk (st := s_values_of) l26 c26 k26
  have b26 := F26.binds (ps := ["expander"]) fun _ _ _ _ _ _ us hl => match us, hl with | [_], _ => rfl
  have F27 := fun_mk (st := s_short_values) l27 c27 k27
  have b27 := F27.binds (ps := ["expander", "sizes"]) fun _ _ _ _ _ _ us hl => match us, hl with | [_, _], _ => rfl
  have F28 := fun_mk (st := s_all_calls) l28 c28 k28
  have b28 := F28.binds (ps := ["expander"]) fun _ _ _ _ _ _ us hl => match us, hl with | [_], _ => rfl
  have F29 := fun_mk (st := s_measure) l29 c29 k29
  have b29 := F29.binds (ps := ["expander", "found", "opened", "call"]) fun _ _ _ _ _ _ us hl => match us, hl with | [_, _, _, _], _ => rfl
  have F30 := fun_mk (st := s_read_on) l30 c30 k30
  have b30 := F30.binds (ps := ["expander", "found", "row"]) fun _ _ _ _ _ _ us hl => match us, hl with | [_, _, _], _ => rfl
  have F31 := fun_mk (st := s_need_value) l31 c31 k31
  have b31 := F31.binds (ps := ["expander", "found", "call"]) fun _ _ _ _ _ _ us hl => match us, hl with | [_, _, _], _ => rfl
  have F32 := fun_mk (st := s_thread_of) l32 c32 k32
  have b32 := F32.binds (ps := ["expander", "found", "call"]) fun _ _ _ _ _ _ us hl => match us, hl with | [_, _, _], _ => rfl
  have F33 := fun_mk (st := s_first_without) l33 c33 k33
  have b33 := F33.binds (ps := ["expander", "found", "call"]) fun _ _ _ _ _ _ us hl => match us, hl with | [_, _, _], _ => rfl
  have F34 := fun_mk (st := s_begin) l34 c34 k34
  have b34 := F34.binds (ps := ["expander", "text"]) fun _ _ _ _ _ _ us hl => match us, hl with | [_, _], _ => rfl
  have F35 := fun_mk (st := s_step) l35 c35 k35
  have b35 := F35.binds (ps := ["expander", "stand"]) fun _ _ _ _ _ _ us hl => match us, hl with | [_, _], _ => rfl
  have F36 := fun_mk (st := s_stands) l36 c36 k36
  have FD36 : FunD K "stands" "stands" (defArgs s_stands) (defBody s_stands) (defScope s_stands) [] [("most", .int 100)] f36 _ := ⟨⟨_, _, _, _, _, _, _, _, _, _, rfl, l36, c36, .inl ⟨rfl, rfl⟩, .inr ⟨D36, rfl, fun q hq => by rw [List.mem_singleton.mp hq]; exact ⟨_, dk36, _, rfl⟩⟩⟩, k36⟩
  obtain ⟨ds36, dv36, b36⟩ := FD36.binds0 (ps := ["expander", "text", "most"]) 2 (by simp) rfl fun D doc pm an cdv ct us ks l1 l2 => match us, ks, l1, l2 with | [_, _], [_], _, _ => ⟨_, _, _, _, _, _, rfl, rfl, rfl⟩
  obtain ⟨_, kb36⟩ := FD36.kbinds0 (ps := ["expander", "text", "most"]) 2 ["most"] [] (fun us _ ws => us ++ ws) (by simp) (fun q hq => nomatch hq) (fun r1 _ r2 => r1.append r2) fun D doc pm an cdv ct us mv ws l1 l2 l3 => match us, mv, ws, l1, l2, l3 with | [_, _], [], [_], _, _, _ => rfl
  have F37 := fun_mk (st := s_first_stand) l37 c37 k37
  have b37 := F37.binds (ps := ["expander", "text"]) fun _ _ _ _ _ _ us hl => match us, hl with | [_, _], _ => rfl
  have F38 := fun_mk (st := s_next_stand) l38 c38 k38
  have b38 := F38.binds (ps := ["expander", "stand"]) fun _ _ _ _ _ _ us hl => match us, hl with | [_, _], _ => rfl
  have F39 := fun_mk (st := s_is_stand) l39 c39 k39
  have b39 := F39.binds (ps := ["expander", "thing"]) fun _ _ _ _ _ _ us hl => match us, hl with | [_, _], _ => rfl
  have F40 := fun_mk (st := s_Lkneaded) l40 c40 k40
  have b40 := F40.binds (ps := ["seed", "lap"]) fun _ _ _ _ _ _ us hl => match us, hl with | [_, _], _ => rfl
  have F41 := fun_mk (st := s_Lpot_of) l41 c41 k41
  have b41 := F41.binds (ps := ["script"]) fun _ _ _ _ _ _ us hl => match us, hl with | [_], _ => rfl
  have F42 := fun_mk (st := s_Lbelow) l42 c42 k42
  have b42 := F42.binds (ps := ["pot", "bound"]) fun _ _ _ _ _ _ us hl => match us, hl with | [_, _], _ => rfl
  have F43 := fun_mk (st := s_Lpick) l43 c43 k43
  have b43 := F43.binds (ps := ["pot", "items"]) fun _ _ _ _ _ _ us hl => match us, hl with | [_, _], _ => rfl
  have F44 := fun_mk (st := s_Lsome_word) l44 c44 k44
  have b44 := F44.binds (ps := ["pot", "signs", "limit"]) fun _ _ _ _ _ _ us hl => match us, hl with | [_, _, _], _ => rfl
  have F45 := fun_mk (st := s_Lsome_expander) l45 c45 k45
  have b45 := F45.binds (ps := ["pot", "many"]) fun _ _ _ _ _ _ us hl => match us, hl with | [_, _], _ => rfl
  have F46 := fun_mk (st := s_Lplainer) l46 c46 k46
  have b46 := F46.binds (ps := ["state"]) fun _ _ _ _ _ _ us hl => match us, hl with | [_], _ => rfl
  have F47 := fun_mk (st := s_Lcalls) l47 c47 k47
  have b47 := F47.binds (ps := ["expander"]) fun _ _ _ _ _ _ us hl => match us, hl with | [_], _ => rfl
  have F48 := fun_mk (st := s_Lsizes) l48 c48 k48
  have b48 := F48.binds (ps := ["expander"]) fun _ _ _ _ _ _ us hl => match us, hl with | [_], _ => rfl
  have F49 := fun_mk (st := s_Lis_short) l49 c49 k49
  have b49 := F49.binds (ps := ["signs", "thing"]) fun _ _ _ _ _ _ us hl => match us, hl with | [_, _], _ => rfl
  have F50 := fun_mk (st := s_Lis_count) l50 c50 k50
  have b50 := F50.binds (ps := ["thing", "bound"]) fun _ _ _ _ _ _ us hl => match us, hl with | [_, _], _ => rfl
  have F51 := fun_mk (st := s_Lis_move) l51 c51 k51
  have b51 := F51.binds (ps := ["signs", "many", "thing"]) fun _ _ _ _ _ _ us hl => match us, hl with | [_, _, _], _ => rfl
  have F52 := fun_mk (st := s_Lis_state) l52 c52 k52
  have b52 := F52.binds (ps := ["signs", "many", "thing"]) fun _ _ _ _ _ _ us hl => match us, hl with | [_, _, _], _ => rfl
  have F53 := fun_mk (st := s_Lis_expander) l53 c53 k53
  have b53 := F53.binds (ps := ["thing"]) fun _ _ _ _ _ _ us hl => match us, hl with | [_], _ => rfl
  have F54 := fun_mk (st := s_Lspoilt) l54 c54 k54
  have b54 := F54.binds (ps := ["pot", "expander"]) fun _ _ _ _ _ _ us hl => match us, hl with | [_, _], _ => rfl
  have F55 := fun_mk (st := s_Ldo) l55 c55 k55
  have b55 := F55.binds (ps := ["choice", "one", "two", "three"]) fun _ _ _ _ _ _ us hl => match us, hl with | [_, _, _, _], _ => rfl
  have F56 := fun_mk (st := s_Lword) l56 c56 k56
  have b56 := F56.binds (ps := ["choice", "one", "two", "three"]) fun _ _ _ _ _ _ us hl => match us, hl with | [_, _, _, _], _ => rfl
  have F57 := fun_mk (st := s_law) l57 c57 k57
  have b57 := F57.binds (ps := ["script"]) fun _ _ _ _ _ _ us hl => match us, hl with | [_], _ => rfl
  exact ⟨_, fun s v => .of_eq rfl, fun base _ _ => ok_law {
    a_is_word := f0
    fd_is_word := _
    g_is_word := PySem.W.mg_of X G a0
    F_is_word := F0
    b_is_word := b0
    a_is_text := f1
    fd_is_text := _
    g_is_text := PySem.W.mg_of X G a1
    F_is_text := F1
    b_is_text := b1
    a_need_text := f2
    fd_need_text := _
    g_need_text := PySem.W.mg_of X G a2
    F_need_text := F2
    b_need_text := b2
    a_is_expander := f3
    fd_is_expander := _
    g_is_expander := PySem.W.mg_of X G a3
    F_is_expander := F3
    b_is_expander := b3
    a_need_expander := f4
    fd_need_expander := _
    g_need_expander := PySem.W.mg_of X G a4
    F_need_expander := F4
    b_need_expander := b4
    a_need_call := f5
    fd_need_call := _
    g_need_call := PySem.W.mg_of X G a5
    F_need_call := F5
    b_need_call := b5
    a_is_call := f6
    fd_is_call := _
    g_is_call := PySem.W.mg_of X G a6
    F_is_call := F6
    b_is_call := b6
    a_is_sign := f7
    fd_is_sign := _
    g_is_sign := PySem.W.mg_of X G a7
    F_is_sign := F7
    b_is_sign := b7
    a_is_number := f8
    fd_is_number := _
    g_is_number := PySem.W.mg_of X G a8
    F_is_number := F8
    b_is_number := b8
    a_is_whole := f9
    fd_is_whole := _
    g_is_whole := PySem.W.mg_of X G a9
    F_is_whole := F9
    b_is_whole := b9
    a_move_of := f10
    fd_move_of := _
    g_move_of := PySem.W.mg_of X G a10
    F_move_of := F10
    b_move_of := b10
    a__are_signs := f11
    fd__are_signs := _
    g__are_signs := PySem.W.mg_of X G a11
    F__are_signs := F11
    b__are_signs := b11
    a__is_short_word := f12
    fd__is_short_word := _
    g__is_short_word := PySem.W.mg_of X G a12
    F__is_short_word := F12
    b__is_short_word := b12
    a__are_states := f13
    fd__are_states := _
    g__are_states := PySem.W.mg_of X G a13
    F__are_states := F13
    b__are_states := b13
    a__is_state := f14
    fd__is_state := _
    g__is_state := PySem.W.mg_of X G a14
    F__is_state := F14
    b__is_state := b14
    a__is_move := f15
    fd__is_move := _
    g__is_move := PySem.W.mg_of X G a15
    F__is_move := F15
    b__is_move := b15
    a_value := f16
    fd_value := _
    g_value := PySem.W.mg_of X G a16
    F_value := F16
    b_value := b16
    a_thread := f17
    fd_thread := _
    g_thread := PySem.W.mg_of X G a17
    F_thread := F17
    b_thread := b17
    a_values := f18
    fd_values := _
    g_values := PySem.W.mg_of X G a18
    F_values := F18
    b_values := b18
    a_shows_thread := f19
    fd_shows_thread := _
    g_shows_thread := PySem.W.mg_of X G a19
    F_shows_thread := F19
    b_shows_thread := b19
    a_plain := f20
    fd_plain := _
    g_plain := PySem.W.mg_of X G a20
    F_plain := F20
    b_plain := b20
    a_outcome := f21
    fd_outcome := _
    g_outcome := PySem.W.mg_of X G a21
    F_outcome := F21
    b_outcome := b21
    a_ends_always := f22
    fd_ends_always := _
    g_ends_always := PySem.W.mg_of X G a22
    F_ends_always := F22
    b_ends_always := b22
    a_words_of_text := f23
    fd_words_of_text := _
    g_words_of_text := PySem.W.mg_of X G a23
    F_words_of_text := F23
    b_words_of_text := b23
    a_calls_of_text := f24
    fd_calls_of_text := _
    g_calls_of_text := PySem.W.mg_of X G a24
    F_calls_of_text := F24
    b_calls_of_text := b24
    a_sizes_of := f25
    fd_sizes_of := _
    g_sizes_of := PySem.W.mg_of X G a25
    F_sizes_of := F25
    b_sizes_of := b25
    a_values_of := f26
    fd_values_of := _
    g_values_of := PySem.W.mg_of X G a26
    F_values_of := F26
    b_values_of := b26
    a_short_values := f27
    fd_short_values := _
    g_short_values := PySem.W.mg_of X G a27
    F_short_values := F27
    b_short_values := b27
    a_all_calls := f28
    fd_all_calls := _
    g_all_calls := PySem.W.mg_of X G a28
    F_all_calls := F28
    b_all_calls := b28
    a__measure := f29
    fd__measure := _
    g__measure := PySem.W.mg_of X G a29
    F__measure := F29
    b__measure := b29
    a__read_on := f30
    fd__read_on := _
    g__read_on := PySem.W.mg_of X G a30
    F__read_on := F30
    b__read_on := b30
    a__need_value := f31
    fd__need_value := _
    g__need_value := PySem.W.mg_of X G a31
    F__need_value := F31
    b__need_value := b31
    a__thread_of := f32
    fd__thread_of := _
    g__thread_of := PySem.W.mg_of X G a32
    F__thread_of := F32
    b__thread_of := b32
    a__first_without := f33
    fd__first_without := _
    g__first_without := PySem.W.mg_of X G a33
    F__first_without := F33
    b__first_without := b33
    a_begin := f34
    fd_begin := _
    g_begin := PySem.W.mg_of X G a34
    F_begin := F34
    b_begin := b34
    a_step := f35
    fd_step := _
    g_step := PySem.W.mg_of X G a35
    F_step := F35
    b_step := b35
    a_stands := f36
    fd_stands := _
    g_stands := PySem.W.mg_of X G a36
    F_stands := F36
    b_stands := b36
    ds_stands := ds36
    dv_stands := dv36
    kb_stands := kb36
    a__first_stand := f37
    fd__first_stand := _
    g__first_stand := PySem.W.mg_of X G a37
    F__first_stand := F37
    b__first_stand := b37
    a__next_stand := f38
    fd__next_stand := _
    g__next_stand := PySem.W.mg_of X G a38
    F__next_stand := F38
    b__next_stand := b38
    a__is_stand := f39
    fd__is_stand := _
    g__is_stand := PySem.W.mg_of X G a39
    F__is_stand := F39
    b__is_stand := b39
    a__law_kneaded := f40
    fd__law_kneaded := _
    g__law_kneaded := PySem.W.mg_of X G a40
    F__law_kneaded := F40
    b__law_kneaded := b40
    a__law_pot_of := f41
    fd__law_pot_of := _
    g__law_pot_of := PySem.W.mg_of X G a41
    F__law_pot_of := F41
    b__law_pot_of := b41
    a__law_below := f42
    fd__law_below := _
    g__law_below := PySem.W.mg_of X G a42
    F__law_below := F42
    b__law_below := b42
    a__law_pick := f43
    fd__law_pick := _
    g__law_pick := PySem.W.mg_of X G a43
    F__law_pick := F43
    b__law_pick := b43
    a__law_some_word := f44
    fd__law_some_word := _
    g__law_some_word := PySem.W.mg_of X G a44
    F__law_some_word := F44
    b__law_some_word := b44
    a__law_some_expander := f45
    fd__law_some_expander := _
    g__law_some_expander := PySem.W.mg_of X G a45
    F__law_some_expander := F45
    b__law_some_expander := b45
    a__law_plainer := f46
    fd__law_plainer := _
    g__law_plainer := PySem.W.mg_of X G a46
    F__law_plainer := F46
    b__law_plainer := b46
    a__law_calls := f47
    fd__law_calls := _
    g__law_calls := PySem.W.mg_of X G a47
    F__law_calls := F47
    b__law_calls := b47
    a__law_sizes := f48
    fd__law_sizes := _
    g__law_sizes := PySem.W.mg_of X G a48
    F__law_sizes := F48
    b__law_sizes := b48
    a__law_is_short := f49
    fd__law_is_short := _
    g__law_is_short := PySem.W.mg_of X G a49
    F__law_is_short := F49
    b__law_is_short := b49
    a__law_is_count := f50
    fd__law_is_count := _
    g__law_is_count := PySem.W.mg_of X G a50
    F__law_is_count := F50
    b__law_is_count := b50
    a__law_is_move := f51
    fd__law_is_move := _
    g__law_is_move := PySem.W.mg_of X G a51
    F__law_is_move := F51
    b__law_is_move := b51
    a__law_is_state := f52
    fd__law_is_state := _
    g__law_is_state := PySem.W.mg_of X G a52
    F__law_is_state := F52
    b__law_is_state := b52
    a__law_is_expander := f53
    fd__law_is_expander := _
    g__law_is_expander := PySem.W.mg_of X G a53
    F__law_is_expander := F53
    b__law_is_expander := b53
    a__law_spoilt := f54
    fd__law_spoilt := _
    g__law_spoilt := PySem.W.mg_of X G a54
    F__law_spoilt := F54
    b__law_spoilt := b54
    a__law_do := f55
    fd__law_do := _
    g__law_do := PySem.W.mg_of X G a55
    F__law_do := F55
    b__law_do := b55
    a__law_word := f56
    fd__law_word := _
    g__law_word := PySem.W.mg_of X G a56
    F__law_word := F56
    b__law_word := b56
    a_law := fa
    fd_law := _
    g_law := PySem.W.mg_of X G a57
    F_law := F57
    b_law := b57
    z_abs := PySem.W.mg_none_of X G z_abs
    z_all := PySem.W.mg_none_of X G z_all
    z_any := PySem.W.mg_none_of X G z_any
    z_bool := PySem.W.mg_none_of X G z_bool
    z_enumerate := PySem.W.mg_none_of X G z_enumerate
    z_int := PySem.W.mg_none_of X G z_int
    z_isinstance := PySem.W.mg_none_of X G z_isinstance
    z_len := PySem.W.mg_none_of X G z_len
    z_list := PySem.W.mg_none_of X G z_list
    z_max := PySem.W.mg_none_of X G z_max
    z_range := PySem.W.mg_none_of X G z_range
    z_repr := PySem.W.mg_none_of X G z_repr
    z_set := PySem.W.mg_none_of X G z_set
    z_sorted := PySem.W.mg_none_of X G z_sorted
    z_str := PySem.W.mg_none_of X G z_str
    z_sum := PySem.W.mg_none_of X G z_sum
    z_tuple := PySem.W.mg_none_of X G z_tuple
    t_LETTERS := t_LETTERS
    m_LETTERS := PySem.W.mg_of X G m_LETTERS
    t_MOST_SIGNS := t_MOST_SIGNS
    m_MOST_SIGNS := PySem.W.mg_of X G m_MOST_SIGNS
    t_MOST_STATES := t_MOST_STATES
    m_MOST_STATES := PySem.W.mg_of X G m_MOST_STATES
    t_MOST_TEXT := t_MOST_TEXT
    m_MOST_TEXT := PySem.W.mg_of X G m_MOST_TEXT
    t_MOST_WORD := t_MOST_WORD
    m_MOST_WORD := PySem.W.mg_of X G m_MOST_WORD
    a_NoExpander := c_NoExpander
    g_NoExpander := PySem.W.mg_of X G n_NoExpander
    a_NoText := c_NoText
    g_NoText := PySem.W.mg_of X G n_NoText
    a_NoCall := c_NoCall
    g_NoCall := PySem.W.mg_of X G n_NoCall
    a_Mismatch := c_Mismatch
    g_Mismatch := PySem.W.mg_of X G n_Mismatch
    a_NoOutcome := c_NoOutcome
    g_NoOutcome := PySem.W.mg_of X G n_NoOutcome
    a_TooMany := c_TooMany
    g_TooMany := PySem.W.mg_of X G n_TooMany
    xi_NoExpander := xi_NoExpander
    k_NoExpander := kc_NoExpander
    b_NoExpander := b_NoExpander
    t_NoExpander := t_NoExpander
    xi_NoText := xi_NoText
    k_NoText := kc_NoText
    b_NoText := b_NoText
    t_NoText := t_NoText
    xi_NoCall := xi_NoCall
    k_NoCall := kc_NoCall
    b_NoCall := b_NoCall
    t_NoCall := t_NoCall
    xi_Mismatch := xi_Mismatch
    k_Mismatch := kc_Mismatch
    b_Mismatch := b_Mismatch
    t_Mismatch := t_Mismatch
    nf_NoOutcome_kind := nf_NoOutcome_kind
    nf_NoOutcome_thread := nf_NoOutcome_thread
    b_NoOutcome := b_NoOutcome
    t_NoOutcome := t_NoOutcome
    o_NoOutcome := ⟨⟨nm_NoOutcome, q_NoOutcome, N_NoOutcome, bs_NoOutcome, _, sn_NoOutcome, sub_NoOutcome, ab_NoOutcome, col_NoOutcome, dd_NoOutcome, m0_NoOutcome, m1_NoOutcome, m2_NoOutcome, m3_NoOutcome, m5_NoOutcome, xl_NoOutcome, refs_one⟩, sa_NoOutcome, b_NoOutcome, t_NoOutcome, kc_NoOutcome⟩
    x_NoOutcome := ⟨hg_NoOutcome, hk_NoOutcome, b_NoOutcome, hd_NoOutcome⟩
    i_NoOutcome := i_NoOutcome
    if_NoOutcome := _
    ii_NoOutcome := ii_NoOutcome
    it_NoOutcome := it_NoOutcome
    iF_NoOutcome := fun_mk (st := (inClass (top 3) 0)) il_NoOutcome icd_NoOutcome ik_NoOutcome
    ib_NoOutcome := (fun_mk (st := (inClass (top 3) 0)) il_NoOutcome icd_NoOutcome ik_NoOutcome).binds (ps := ["self", "kind", "thread"]) fun _ _ _ _ _ _ us hl => match us, hl with | [_, _, _], _ => rfl
    nf_TooMany_limit := nf_TooMany_limit
    b_TooMany := b_TooMany
    t_TooMany := t_TooMany
    o_TooMany := ⟨⟨nm_TooMany, q_TooMany, N_TooMany, bs_TooMany, _, sn_TooMany, sub_TooMany, ab_TooMany, col_TooMany, dd_TooMany, m0_TooMany, m1_TooMany, m2_TooMany, m3_TooMany, m5_TooMany, xl_TooMany, refs_one⟩, sa_TooMany, b_TooMany, t_TooMany, kc_TooMany⟩
    x_TooMany := ⟨hg_TooMany, hk_TooMany, b_TooMany, hd_TooMany⟩
    i_TooMany := i_TooMany
    if_TooMany := _
    ii_TooMany := ii_TooMany
    it_TooMany := it_TooMany
    iF_TooMany := fun_mk (st := (inClass (top 2) 0)) il_TooMany icd_TooMany ik_TooMany
    ib_TooMany := (fun_mk (st := (inClass (top 2) 0)) il_TooMany icd_TooMany ik_TooMany).binds (ps := ["self", "limit"]) fun _ _ _ _ _ _ us hl => match us, hl with | [_, _], _ => rfl
    e_NoExpander_NoExpander := exm_is b_NoExpander ic_NoExpander t_NoExpander s_NoExpander_NoExpander
    e_NoText_NoExpander := exm_is b_NoExpander ic_NoExpander t_NoExpander s_NoText_NoExpander
    e_NoText_NoText := exm_is b_NoText ic_NoText t_NoText s_NoText_NoText
    e_NoCall_NoExpander := exm_is b_NoExpander ic_NoExpander t_NoExpander s_NoCall_NoExpander
    e_NoCall_NoText := exm_is b_NoText ic_NoText t_NoText s_NoCall_NoText
    e_NoCall_NoCall := exm_is b_NoCall ic_NoCall t_NoCall s_NoCall_NoCall
    e_NoOutcome_NoExpander := exm_is b_NoExpander ic_NoExpander t_NoExpander s_NoOutcome_NoExpander
    e_NoOutcome_NoText := exm_is b_NoText ic_NoText t_NoText s_NoOutcome_NoText
    e_NoOutcome_NoCall := exm_is b_NoCall ic_NoCall t_NoCall s_NoOutcome_NoCall
    e_NoOutcome_NoOutcome := exm_is b_NoOutcome ic_NoOutcome t_NoOutcome s_NoOutcome_NoOutcome
  }⟩

theorem walk {l : PySem.W.OpenLaw} {q : Program} {loose : List Str} {XP : (Str → Option Value) → Heap → Prop} {YP : World → Heap → Prop} {d : DefRec} {K : Params → PySem.W.Frag} (hn : l.most = some 63) (hdf : d.params.defaults = [])
    (hY : ∀ (w : World) (h : Heap), YP w h → (K w.params).In h)
    (F : ∀ (w : World) (mg : Str → Option Value) (fa : Addr) (h : Heap), (K w.params).In h → h.Ns mainGlobals mg → mg d.name = some (.ref fa) →
      ∃ fd : FuncData, (∀ (s : Shared) (u : Value), BindsTo s fd ⟨[u], []⟩ [("script", u)]) ∧ ∀ base : Heap, (K w.params).In base → base.Ns mainGlobals mg → FnG l.prog w (K w.params) mg base CX0 11 fa fd ["script"] (sp_law (K w.params))) :
    PySem.W.WalkO q loose XP YP l.row.toRowW d [] (fun f vs => PySem.call f vs) :=
  G.walk_ofG (n := 63) (k := 11) (x := "script") (CX := fun _ => CX0) (sp := sp_law) hn (by decide) hdf ⟨rfl, by decide, by decide⟩ hY F (fun _ _ a ns hl _ hS => ⟨a, ns, rfl, hS, hl, fun _ => rfl⟩) fun _ _ _ _ _ z => z
end K14

open PySem PySem.W PyProof.Rows in
set_option maxRecDepth 100000 in
set_option maxHeartbeats 0 in
theorem PySem.Challenge.cw_rescans_k14_calls_refused_holds : PySem.Challenge.rw_rescans_k14_calls_refused.Holds := by
  w_on; o_law; k_head; (case hw => w_witness2)
  k_fill
  refine K14.walk (l := PySem.Challenge.rw_rescans_k14_calls_refused) rfl rfl (fun w h Y => PySem.W.kIn_of Y) ?F
  case F =>
    intro w mg fa h KX G hmg
    refine' K14.all_mk KX G hmg ?a0 ?l0 ?c0 ?k0 ?a1 ?l1 ?c1 ?k1 ?a2 ?l2 ?c2 ?k2 ?a3 ?l3 ?c3 ?k3 ?a4 ?l4 ?c4 ?k4 ?a5 ?l5 ?c5 ?k5 ?a6 ?l6 ?c6 ?k6 ?a7 ?l7 ?c7 ?k7 ?a8 ?l8 ?c8 ?k8 ?a9 ?l9 ?c9 ?k9 ?a10 ?l10 ?c10 ?k10 ?a11 ?l11 ?c11 ?k11 ?a12 ?l12 ?c12 ?k12 ?a13 ?l13 ?c13 ?k13 ?a14 ?l14 ?c14 ?k14 ?a15 ?l15 ?c15 ?k15 ?a16 ?l16 ?c16 ?k16 ?a17 ?l17 ?c17 ?k17 ?a18 ?l18 ?c18 ?k18 ?a19 ?l19 ?c19 ?k19 ?a20 ?l20 ?c20 ?k20 ?a21 ?l21 ?c21 ?k21 ?a22 ?l22 ?c22 ?k22 ?a23 ?l23 ?c23 ?k23 ?a24 ?l24 ?c24 ?k24 ?a25 ?l25 ?c25 ?k25 ?a26 ?l26 ?c26 ?k26 ?a27 ?l27 ?c27 ?k27 ?a28 ?l28 ?c28 ?k28 ?a29 ?l29 ?c29 ?k29 ?a30 ?l30 ?c30 ?k30 ?a31 ?l31 ?c31 ?k31 ?a32 ?l32 ?c32 ?k32 ?a33 ?l33 ?c33 ?k33 ?a34 ?l34 ?c34 ?k34 ?a35 ?l35 ?c35 ?k35 ?a36 ?l36 ?dk36 ?c36 ?k36 ?a37 ?l37 ?c37 ?k37 ?a38 ?l38 ?c38 ?k38 ?a39 ?l39 ?c39 ?k39 ?a40 ?l40 ?c40 ?k40 ?a41 ?l41 ?c41 ?k41 ?a42 ?l42 ?c42 ?k42 ?a43 ?l43 ?c43 ?k43 ?a44 ?l44 ?c44 ?k44 ?a45 ?l45 ?c45 ?k45 ?a46 ?l46 ?c46 ?k46 ?a47 ?l47 ?c47 ?k47 ?a48 ?l48 ?c48 ?k48 ?a49 ?l49 ?c49 ?k49 ?a50 ?l50 ?c50 ?k50 ?a51 ?l51 ?c51 ?k51 ?a52 ?l52 ?c52 ?k52 ?a53 ?l53 ?c53 ?k53 ?a54 ?l54 ?c54 ?k54 ?a55 ?l55 ?c55 ?k55 ?a56 ?l56 ?c56 ?k56 ?a57 ?l57 ?c57 ?k57 ?z_abs ?z_all ?z_any ?z_bool ?z_enumerate ?z_int ?z_isinstance ?z_len ?z_list ?z_max ?z_range ?z_repr ?z_set ?z_sorted ?z_str ?z_sum ?z_tuple ?m_LETTERS ?m_MOST_SIGNS ?m_MOST_STATES ?m_MOST_TEXT ?m_MOST_WORD ?n_NoExpander ?n_NoText ?n_NoCall ?n_Mismatch ?n_NoOutcome ?n_TooMany ?xi_NoExpander ?kc_NoExpander ?b_NoExpander ?t_NoExpander ?ic_NoExpander ?xi_NoText ?kc_NoText ?b_NoText ?t_NoText ?ic_NoText ?xi_NoCall ?kc_NoCall ?b_NoCall ?t_NoCall ?ic_NoCall ?xi_Mismatch ?kc_Mismatch ?b_Mismatch ?t_Mismatch ?ic_Mismatch ?hg_NoOutcome ?hk_NoOutcome ?b_NoOutcome ?hd_NoOutcome ?t_NoOutcome ?ic_NoOutcome ?nf_NoOutcome_kind ?nf_NoOutcome_thread ?xl_NoOutcome ?sa_NoOutcome ?kc_NoOutcome ?ii_NoOutcome ?it_NoOutcome ?il_NoOutcome ?icd_NoOutcome ?ik_NoOutcome ?hg_TooMany ?hk_TooMany ?b_TooMany ?hd_TooMany ?t_TooMany ?ic_TooMany ?nf_TooMany_limit ?xl_TooMany ?sa_TooMany ?kc_TooMany ?ii_TooMany ?it_TooMany ?il_TooMany ?icd_TooMany ?ik_TooMany ?s_NoExpander_NoExpander ?s_NoText_NoExpander ?s_NoText_NoText ?s_NoCall_NoExpander ?s_NoCall_NoText ?s_NoCall_NoCall ?s_NoOutcome_NoExpander ?s_NoOutcome_NoText ?s_NoOutcome_NoCall ?s_NoOutcome_NoOutcome
    (case a0 => k_is)
    (case l0 => k_is)
    (case c0 => k_is)
    (case k0 => k_is)
    (case a1 => k_is)
    (case l1 => k_is)
    (case c1 => k_is)
    (case k1 => k_is)
    (case a2 => k_is)
    (case l2 => k_is)
    (case c2 => k_is)
    (case k2 => k_is)
    (case a3 => k_is)
    (case l3 => k_is)
    (case c3 => k_is)
    (case k3 => k_is)
    (case a4 => k_is)
    (case l4 => k_is)
    (case c4 => k_is)
    (case k4 => k_is)
    (case a5 => k_is)
    (case l5 => k_is)
    (case c5 => k_is)
    (case k5 => k_is)
    (case a6 => k_is)
    (case l6 => k_is)
    (case c6 => k_is)
    (case k6 => k_is)
    (case a7 => k_is)
    (case l7 => k_is)
    (case c7 => k_is)
    (case k7 => k_is)
    (case a8 => k_is)
    (case l8 => k_is)
    (case c8 => k_is)
    (case k8 => k_is)
    (case a9 => k_is)
    (case l9 => k_is)
    (case c9 => k_is)
    (case k9 => k_is)
    (case a10 => k_is)
    (case l10 => k_is)
    (case c10 => k_is)
    (case k10 => k_is)
    (case a11 => k_is)
    (case l11 => k_is)
    (case c11 => k_is)
    (case k11 => k_is)
    (case a12 => k_is)
    (case l12 => k_is)
    (case c12 => k_is)
    (case k12 => k_is)
    (case a13 => k_is)
    (case l13 => k_is)
    (case c13 => k_is)
    (case k13 => k_is)
    (case a14 => k_is)
    (case l14 => k_is)
    (case c14 => k_is)
    (case k14 => k_is)
    (case a15 => k_is)
    (case l15 => k_is)
    (case c15 => k_is)
    (case k15 => k_is)
    (case a16 => k_is)
    (case l16 => k_is)
    (case c16 => k_is)
    (case k16 => k_is)
    (case a17 => k_is)
    (case l17 => k_is)
    (case c17 => k_is)
    (case k17 => k_is)
    (case a18 => k_is)
    (case l18 => k_is)
    (case c18 => k_is)
    (case k18 => k_is)
    (case a19 => k_is)
    (case l19 => k_is)
    (case c19 => k_is)
    (case k19 => k_is)
    (case a20 => k_is)
    (case l20 => k_is)
    (case c20 => k_is)
    (case k20 => k_is)
    (case a21 => k_is)
    (case l21 => k_is)
    (case c21 => k_is)
    (case k21 => k_is)
    (case a22 => k_is)
    (case l22 => k_is)
    (case c22 => k_is)
    (case k22 => k_is)
    (case a23 => k_is)
    (case l23 => k_is)
    (case c23 => k_is)
    (case k23 => k_is)
    (case a24 => k_is)
    (case l24 => k_is)
    (case c24 => k_is)
    (case k24 => k_is)
    (case a25 => k_is)
    (case l25 => k_is)
    (case c25 => k_is)
    (case k25 => k_is)
    (case a26 => k_is)
    (case l26 => k_is)
    (case c26 => k_is)
    (case k26 => k_is)
    (case a27 => k_is)
    (case l27 => k_is)
    (case c27 => k_is)
    (case k27 => k_is)
    (case a28 => k_is)
    (case l28 => k_is)
    (case c28 => k_is)
    (case k28 => k_is)
    (case a29 => k_is)
    (case l29 => k_is)
    (case c29 => k_is)
    (case k29 => k_is)
    (case a30 => k_is)
    (case l30 => k_is)
    (case c30 => k_is)
    (case k30 => k_is)
    (case a31 => k_is)
    (case l31 => k_is)
    (case c31 => k_is)
    (case k31 => k_is)
    (case a32 => k_is)
    (case l32 => k_is)
    (case c32 => k_is)
    (case k32 => k_is)
    (case a33 => k_is)
    (case l33 => k_is)
    (case c33 => k_is)
    (case k33 => k_is)
    (case a34 => k_is)
    (case l34 => k_is)
    (case c34 => k_is)
    (case k34 => k_is)
    (case a35 => k_is)
    (case l35 => k_is)
    (case c35 => k_is)
    (case k35 => k_is)
    (case a36 => k_is)
    (case l36 => k_is)
    (case dk36 => k_is)
    (case c36 => k_is)
    (case k36 => k_is)
    (case a37 => k_is)
    (case l37 => k_is)
    (case c37 => k_is)
    (case k37 => k_is)
    (case a38 => k_is)
    (case l38 => k_is)
    (case c38 => k_is)
    (case k38 => k_is)
    (case a39 => k_is)
    (case l39 => k_is)
    (case c39 => k_is)
    (case k39 => k_is)
    (case a40 => k_is)
    (case l40 => k_is)
    (case c40 => k_is)
    (case k40 => k_is)
    (case a41 => k_is)
    (case l41 => k_is)
    (case c41 => k_is)
    (case k41 => k_is)
    (case a42 => k_is)
    (case l42 => k_is)
    (case c42 => k_is)
    (case k42 => k_is)
    (case a43 => k_is)
    (case l43 => k_is)
    (case c43 => k_is)
    (case k43 => k_is)
    (case a44 => k_is)
    (case l44 => k_is)
    (case c44 => k_is)
    (case k44 => k_is)
    (case a45 => k_is)
    (case l45 => k_is)
    (case c45 => k_is)
    (case k45 => k_is)
    (case a46 => k_is)
    (case l46 => k_is)
    (case c46 => k_is)
    (case k46 => k_is)
    (case a47 => k_is)
    (case l47 => k_is)
    (case c47 => k_is)
    (case k47 => k_is)
    (case a48 => k_is)
    (case l48 => k_is)
    (case c48 => k_is)
    (case k48 => k_is)
    (case a49 => k_is)
    (case l49 => k_is)
    (case c49 => k_is)
    (case k49 => k_is)
    (case a50 => k_is)
    (case l50 => k_is)
    (case c50 => k_is)
    (case k50 => k_is)
    (case a51 => k_is)
    (case l51 => k_is)
    (case c51 => k_is)
    (case k51 => k_is)
    (case a52 => k_is)
    (case l52 => k_is)
    (case c52 => k_is)
    (case k52 => k_is)
    (case a53 => k_is)
    (case l53 => k_is)
    (case c53 => k_is)
    (case k53 => k_is)
    (case a54 => k_is)
    (case l54 => k_is)
    (case c54 => k_is)
    (case k54 => k_is)
    (case a55 => k_is)
    (case l55 => k_is)
    (case c55 => k_is)
    (case k55 => k_is)
    (case a56 => k_is)
    (case l56 => k_is)
    (case c56 => k_is)
    (case k56 => k_is)
    (case a57 => k_is)
    (case l57 => k_is)
    (case c57 => k_is)
    (case k57 => k_is)
    (case z_abs => k_is)
    (case z_all => k_is)
    (case z_any => k_is)
    (case z_bool => k_is)
    (case z_enumerate => k_is)
    (case z_int => k_is)
    (case z_isinstance => k_is)
    (case z_len => k_is)
    (case z_list => k_is)
    (case z_max => k_is)
    (case z_range => k_is)
    (case z_repr => k_is)
    (case z_set => k_is)
    (case z_sorted => k_is)
    (case z_str => k_is)
    (case z_sum => k_is)
    (case z_tuple => k_is)
    (case m_LETTERS => k_is)
    (case m_MOST_SIGNS => k_is)
    (case m_MOST_STATES => k_is)
    (case m_MOST_TEXT => k_is)
    (case m_MOST_WORD => k_is)
    (case n_NoExpander => k_is)
    (case n_NoText => k_is)
    (case n_NoCall => k_is)
    (case n_Mismatch => k_is)
    (case n_NoOutcome => k_is)
    (case n_TooMany => k_is)
    (case xi_NoExpander => k_exc)
    (case kc_NoExpander => k_is)
    (case b_NoExpander => k_is)
    (case t_NoExpander => k_is)
    (case ic_NoExpander => k_is)
    (case xi_NoText => k_exc)
    (case kc_NoText => k_is)
    (case b_NoText => k_is)
    (case t_NoText => k_is)
    (case ic_NoText => k_is)
    (case xi_NoCall => k_exc)
    (case kc_NoCall => k_is)
    (case b_NoCall => k_is)
    (case t_NoCall => k_is)
    (case ic_NoCall => k_is)
    (case xi_Mismatch => k_exc)
    (case kc_Mismatch => k_is)
    (case b_Mismatch => k_is)
    (case t_Mismatch => k_is)
    (case ic_Mismatch => k_is)
    (case hg_NoOutcome => k_is)
    (case hk_NoOutcome => k_is)
    (case b_NoOutcome => k_is)
    (case hd_NoOutcome => k_is)
    (case t_NoOutcome => k_is)
    (case ic_NoOutcome => k_is)
    (case nf_NoOutcome_kind => k_is)
    (case nf_NoOutcome_thread => k_is)
    (case xl_NoOutcome => k_is)
    (case sa_NoOutcome => k_is)
    (case kc_NoOutcome => k_is)
    (case ii_NoOutcome => k_is)
    (case it_NoOutcome => k_is)
    (case il_NoOutcome => k_is)
    (case icd_NoOutcome => k_is)
    (case ik_NoOutcome => k_is)
    (case hg_TooMany => k_is)
    (case hk_TooMany => k_is)
    (case b_TooMany => k_is)
    (case hd_TooMany => k_is)
    (case t_TooMany => k_is)
    (case ic_TooMany => k_is)
    (case nf_TooMany_limit => k_is)
    (case xl_TooMany => k_is)
    (case sa_TooMany => k_is)
    (case kc_TooMany => k_is)
    (case ii_TooMany => k_is)
    (case it_TooMany => k_is)
    (case il_TooMany => k_is)
    (case icd_TooMany => k_is)
    (case ik_TooMany => k_is)
    (case s_NoExpander_NoExpander => first | rfl | k_is)
    (case s_NoText_NoExpander => first | rfl | k_is)
    (case s_NoText_NoText => first | rfl | k_is)
    (case s_NoCall_NoExpander => first | rfl | k_is)
    (case s_NoCall_NoText => first | rfl | k_is)
    (case s_NoCall_NoCall => first | rfl | k_is)
    (case s_NoOutcome_NoExpander => first | rfl | k_is)
    (case s_NoOutcome_NoText => first | rfl | k_is)
    (case s_NoOutcome_NoCall => first | rfl | k_is)
    (case s_NoOutcome_NoOutcome => first | rfl | k_is)

