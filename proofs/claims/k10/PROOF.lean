import PyProof.Rows.All
import Wide.All
import OpenK.AllK
import Wide.FinOn
import HandS.ForMost
import HandS.ForExc
import HandS.IsInst
import HandS.StrMore
import PyProof.Rows.StrCut
import PyProof.StrOps2
import PyProof.ListStr
import HandS.Codes
import HandS.ExcInit
import HandS.ExcValue
import HandS.ExcIs
import HandS.ExcField
import HandS.Set
import HandS.Strs
import PyProof.Rows.SetFrom
import HandS.Walk
import HandS.Style
import HandS.Dict
import HandS.DictComp
import KE.KEqDict
import HandS.Replace
import PyProof.Rows.StrLawsPart
import HandS.Text
import KE.KRevSl
import HandS.TupAny
import HandS.TupMul
import HandS.TryMany
import HandS.SuiteRaise
import HandS.ExcOwn
import HandS.MakeKwOnly
import PySem.Challenge.RW_rescans_k10_runs
set_option Elab.async false
set_option linter.all false
set_option maxRecDepth 100000
set_option maxHeartbeats 8000000
/-! A def's promise where it is known that no container is being shown (guards): repr of containers can be told then. -/
namespace G
open PySem PySem.Spec PyProof.Rows L2

/-- as FnOk, but asked only where nothing is being shown -/
structure FnG (P : Program) (w : World) (K : PySem.W.Frag) (mg : Str → Option Value) (base : Heap) (CX : CXT) (k : Nat)
    (f : Addr) (fd : FuncData) (ps : List Str) (sp : Sp) : Prop where
  len : ∀ vs H Q E, sp vs H Q E → vs.length = ps.length
  run : ∀ (A : Around) (outer : List Env) (s : Shared) (H : Hp) (args : Args) (us : List Value) (vs : List V) (Q : VK) (E : XK),
    A.guards = some [] → Room k A → Env0 P w K mg base A outer s H → BindsTo s fd args (ps.zip us) → Vals vs us → sp vs H Q E →
      codeAny (model P w) A (.call (.ref f) args) (CR CX outer P w H s Q E) s

theorem _root_.L2.FnOk.g {P w K mg base CX k f fd ps sp} (F : FnOk P w K mg base CX k f fd ps sp) : FnG P w K mg base CX k f fd ps sp :=
  ⟨F.len, fun A outer s H args us vs Q E _ => F.run A outer s H args us vs Q E⟩

theorem FnG.imp {P w K mg base CX k f fd ps sp sp'} (F : FnG P w K mg base CX k f fd ps sp)
    (h : ∀ vs H Q E, sp' vs H Q E → sp vs H Q E) : FnG P w K mg base CX k f fd ps sp' :=
  ⟨fun vs H Q E q => F.len _ _ _ _ (h _ _ _ _ q), fun A o s H ar us vs Q E g r e b v q => F.run A o s H ar us vs Q E g r e b v (h _ _ _ _ q)⟩

section
variable {X : Cx} {CX : CXT} {k : Nat} {f : Addr} {fd : FuncData} {ps : List Str} {sp : Sp} {dvs : List V} {ds : List Value} {E : XK} {x : Str} {p pos : Pos} {e : Expr} {es : List Expr} {t : TA}

theorem run_fnG {pins σ H s Q us vs} (F : FnG X.prog X.w X.K X.mg X.base CX k f fd ps sp) (gd : X.A.guards = some []) (hr : Room k X.A)
    (hb : Binds X.K fd ps ds) (hd : Vals dvs ds) (hx : Passes CX X E) (I : Inv X pins σ H s) (r : Vals vs us) (h : sp (vs ++ dvs) H Q E) :
    wpAny (model X.prog X.w) X.A (call (.ref f) us) (EP X pins σ Q) X.xe s := by
  have rr := r.append hd
  have ll : (us ++ ds).length = ps.length := rr.length ▸ F.len _ _ _ _ h
  refine wpAny_call (codeAny_mono (F.run _ _ _ _ ⟨us, []⟩ _ _ Q E gd hr I.env0 (hb s us I.kIn ll) rr h) ?_)
  intro res t' hq
  cases res with
  | error er => exact hx pins σ H s er t' I hq
  | ok fl =>
    cases fl with
    | ret u => exact I.after hq
    | next => exact (show False from hq).elim
    | brk => exact (show False from hq).elim
    | cont => exact (show False from hq).elim

theorem pe_callG (F : FnG X.prog X.w X.K X.mg X.base CX k f fd ps sp) (gd : X.A.guards = some []) (hr : Room k X.A) (hg : Gl X x)
    (hm : X.mg x = some (.ref f)) (hk : PySem.W.keepIn X.K (.ref f) = true) (hb : Binds X.K fd ps ds) (hd : Vals dvs ds) (hx : Passes CX X E)
    (ha : PA X (e :: es) t) (hdb : (x == ("__debug__" : Str)) = false := by decide)
    (he : starEach (e :: es) X.env = (false, eval e X.env) :: starEach es X.env := by rfl)
    (hpl : (backTo pos (starEach es X.env)).any (·.1) = false := by rfl) :
    PE X (.Call (.Name x p) (e :: es) [] pos) (tCall sp dvs E t) := by
  constructor
  intro pins s σ H Q I h
  refine wpAny_Call_Name_kw (ld_glob I hg hm ?_ hdb)
  refine PySem.W.callWith_K (h₀ := X.base) I.ok.mod.kin hk ?_ he hpl
  refine thn (ha.run pos pins s σ H _ I h) ?_
  rintro us s1 ⟨vs, H1, I1, r, q⟩
  exact ⟨I1.kIn, run_fnG F gd hr hb hd hx I1 r q⟩

theorem pe_callG0 (F : FnG X.prog X.w X.K X.mg X.base CX k f fd ps sp) (gd : X.A.guards = some []) (hr : Room k X.A) (hg : Gl X x)
    (hm : X.mg x = some (.ref f)) (hk : PySem.W.keepIn X.K (.ref f) = true) (hb : Binds X.K fd ps ds) (hd : Vals dvs ds) (hx : Passes CX X E)
    (hdb : (x == ("__debug__" : Str)) = false := by decide) : PE X (.Call (.Name x p) [] [] pos) (tCall sp dvs E tNil) := by
  constructor
  intro pins s σ H Q I h
  refine wpAny_Call_Name_kw (ld_glob I hg hm ?_ hdb)
  exact PySem.W.callWith_K0 I.kIn hk (run_fnG (us := []) F gd hr hb hd hx I .nil h)
end

/-- a def by its body, where nothing is being shown -/
theorem fn_ofG {CX : CXT} {P : Program} {w : World} {K : PySem.W.Frag} {mg : Str → Option Value} {base : Heap} {k : Nat} {f : Addr} {name qual : Str}
    {params : Arguments} {body : List Stmt} {scope : Scope} {dV kV doc pm cdv ct oc : Value} {an od : Option Addr} {osl : Array (Option Value)} {N ps : List Str} {sp : Sp}
    (lk : K.lookup f = some ⟨oc, od, .func (PySem.W.fnOf name qual params body scope dV kV doc pm an cdv ct), osl⟩)
    (hcd : PySem.W.codeIn K cdv qual = true) (S : FnScope N ps scope) (len : ∀ vs H Q E, sp vs H Q E → vs.length = ps.length)
    (hbody : ∀ (A : Around) (outer : List Env) (s : Shared) (H : Hp) (vs : List V) (Q : VK) (E : XK), A.guards = some [] →
      Room k (A.deeper (envOfC qual scope s.heap.objs.size f cdv)) → sp vs H Q E →
      ∃ t, PSs (cxOf CX P w K mg base N qual scope f cdv A outer s H E) body t ∧ t { nx := fun _ H' => Q .non H', rt := Q } (start N vs) H) :
    FnG P w K mg base CX (k + 1) f (PySem.W.fnOf name qual params body scope dV kV doc pm an cdv ct) ps sp := by
  refine ⟨len, ?_⟩
  intro A outer s H args us vs Q E gd hr e0 hb r hsp
  have inK : K.In s.heap := e0.mod.kin.keeps fun b o q => (e0.bs b o q).1
  have nolim : s.heap.NoLimit := e0.mod.nolimit.keeps fun b o q => (e0.bs b o q).1
  refine codeAny_call_function hr.depth (inK _ _ lk) rfl S.co S.gen rfl (PySem.W.codeRec_of inK hcd) (hb _ _ _ _ ?_)
  refine wpAny_newFunctionEnv_cells S.kind ?_ ?_
  · rintro ⟨n, v⟩ hy
    have q := S.par n (List.of_mem_zip hy).1
    exact q.imp id fun z => ⟨z, PySem.W.cellsFrom_some _ _ _ (.inl z)⟩
  · rintro env rfl s1 x
    refine ⟨nolim.keeps x.toInCall.keep, codeAny_func ?_⟩
    obtain ⟨t, ht, hq⟩ := hbody A outer s H vs Q E gd (hr.deeper _) hsp
    have I := inv_start (CX := CX) (E := E) (mg := mg) (base := base) S hr.hd e0 (len _ _ _ _ hsp) r x
    refine wpAny_mono (ht.run [] s1 _ H _ I hq) ?_ fun _ _ z => z
    intro fl s' hs
    have fin : ∀ {σ' : L2.St} {H' : Hp} {v : V} {u : Value}, Inv (cxOf CX P w K mg base N qual scope f cdv A outer s H E) [] σ' H' s' →
        RelV v u → Q v H' → CE outer P w H s Q u s' := by
      intro σ' H' v u J rv z
      exact ⟨v, H', J.os, J.bare, J.base, J.hok, rv, z⟩
    cases fl with
    | ret u =>
      obtain ⟨v, σ', H', J, rv, z⟩ := hs
      exact fin J rv z
    | next =>
      obtain ⟨σ', H', J, z⟩ := hs
      exact fin (v := V.non) (u := Value.none) J rfl z
    | brk =>
      obtain ⟨_, _, _, z⟩ := hs
      exact False.elim z
    | cont =>
      obtain ⟨_, _, _, z⟩ := hs
      exact False.elim z

theorem _root_.L2.Fun.okG {P w K mg base} {x qual : Str} {st : Stmt} {f : Addr} {fd : FuncData} {N ps : List Str} {k : Nat} {sp : Sp} (F : Fun K x qual st f fd)
    (S : FnScope N ps (defScope st)) (len : ∀ vs H Q E, sp vs H Q E → vs.length = ps.length)
    (hbody : ∀ (cdv : Value) (A : Around) (outer : List Env) (s : Shared) (H : Hp) (vs : List V) (Q : VK) (E : XK), A.guards = some [] →
      Room k (A.deeper (envOfC qual (defScope st) s.heap.objs.size f cdv)) → sp vs H Q E →
      ∃ t, PSs (cxOf CX0 P w K mg base N qual (defScope st) f cdv A outer s H E).nox (defBody st) t ∧ t { nx := fun _ H' => Q .non H', rt := Q } (start N vs) H) :
    FnG P w K mg base CX0 (k + 1) f fd ps sp := by
  obtain ⟨oc, od, kV, doc, pm, an, cdv, ct, osl, rfl, lk, hcd⟩ := F.ex
  refine fn_ofG lk hcd S len ?_
  intro A outer s H vs Q E gd hr hsp
  obtain ⟨t, h, q⟩ := hbody cdv A outer s H vs Q E gd hr hsp
  exact ⟨t, h.nox, q⟩

theorem _root_.L2.Fun.okXG {P w K mg base} {x qual : Str} {st : Stmt} {f : Addr} {fd : FuncData} {N ps : List Str} {k : Nat} {sp : Sp} (F : Fun K x qual st f fd)
    (S : FnScope N ps (defScope st)) (len : ∀ vs H Q E, sp vs H Q E → vs.length = ps.length)
    (hbody : ∀ (cdv : Value) (A : Around) (outer : List Env) (s : Shared) (H : Hp) (vs : List V) (Q : VK) (E : XK), A.guards = some [] →
      Room k (A.deeper (envOfC qual (defScope st) s.heap.objs.size f cdv)) → sp vs H Q E →
      ∃ t, PSs (cxOf (L2.CX P w) P w K mg base N qual (defScope st) f cdv A outer s H E) (defBody st) t ∧ t { nx := fun _ H' => Q .non H', rt := Q } (start N vs) H) :
    FnG P w K mg base (L2.CX P w) (k + 1) f fd ps sp := by
  obtain ⟨oc, od, kV, doc, pm, an, cdv, ct, osl, rfl, lk, hcd⟩ := F.ex
  exact fn_ofG lk hcd S len fun A outer s H vs Q E gd hr hsp => hbody cdv A outer s H vs Q E gd hr hsp

/-! ### the law's own call -/
theorem law_callG {P : Program} {w : World} {K : PySem.W.Frag} {mg mb : Str → Option Value} {CX : CXT} {k : Nat} {fa a : Addr} {fd : FuncData} {x : Str} {sp : Sp}
    {z : Shared} {vs : List Value} {ns : List Int} (inK : K.In z.heap) (hns : z.heap.Ns mainGlobals mg) (hb : z.heap.Ns builtinsNs mb)
    (hbb : ∀ y : Str, y ≠ "__name__" → mb y = bootBuiltins y) (nolim : z.heap.NoLimit) (hgen : z.gens = #[])
    (ha : z.heap.get? a = some { cls := .type "list", data := .seq vs.toArray }) (hi : IntsAre vs ns) (hl : ns.length ≤ sizeLine) (hr : Room k callerA)
    (F : ∀ base : Heap, K.In base → base.Ns mainGlobals mg → FnG P w K mg base CX k fa fd [x] sp)
    (hbind : ∀ (s : Shared) (u : Value), BindsTo s fd ⟨[u], []⟩ [(x, u)])
    (hsp : ∀ H : Hp, Only H → SqL K H a (ns.map V.int) → sp [.ref a] H (fun v _ => v = .bl true) fun _ _ _ => False)
    (hCX : ∀ H e s', CX [] H z (fun _ _ _ => False) e s' → False) :
    codeAny (model P w) callerA (.call (.ref fa) ⟨[.ref a], []⟩) (fun r s' => r = .ok (.ret (.bool true)) ∧ OldK z.heap s'.heap ∧ s'.os = z.os ∧ AllBare s'.gens) z := by
  have rv := vals_ints hi
  have lv := hi.length
  have main : ∀ H : Hp, Only H → SqL K H a (ns.map V.int) → HOk P w H z.heap → (∀ b, H b ≠ none → b = a) → (H a ≠ none → K.lookup a = none) →
      codeAny (model P w) callerA (.call (.ref fa) ⟨[.ref a], []⟩) (fun r s' => r = .ok (.ret (.bool true)) ∧ OldK z.heap s'.heap ∧ s'.os = z.os ∧ AllBare s'.gens) z := by
    intro H only hS ok at_a free_a
    have nd : ∀ {b : Addr} {o : Obj} {es : Array DictEntry} {ep : Nat}, z.heap.get? b = some o → o.data = .dict es ep → H b = none := by
      intro b o es ep e d
      refine Option.eq_none_iff_forall_ne_some.mpr fun u q => ?_
      obtain rfl : b = a := at_a b (q ▸ Option.some_ne_none u)
      rw [ha] at e
      cases e
      cases (show Data.seq vs.toArray _ = Data.dict es ep from d)
    have ns_of : ∀ {b : Addr} {m : Str → Option Value}, z.heap.Ns b m → (hidT z.heap H).Ns b m := by
      rintro b m ⟨o, es, ep, e, d, r⟩
      exact ⟨o, es, ep, hidT_get e (nd e d), d, r⟩
    have inB : K.In (hidT z.heap H) := by
      intro b o e
      refine hidT_get (inK b o e) (Option.eq_none_iff_forall_ne_some.mpr fun u q => ?_)
      obtain rfl : b = a := at_a b (q ▸ Option.some_ne_none u)
      rw [free_a (q ▸ Option.some_ne_none u)] at e
      cases e
    obtain ⟨mc, l1, l2⟩ := nolim
    have hM : Mod K mg (hidT z.heap H) := ⟨inB, ns_of hns, ⟨mb, ns_of hb, hbb⟩, ⟨mc, ns_of l1, l2⟩⟩
    have e0 : Env0 P w K mg (hidT z.heap H) callerA [] z H :=
      ⟨rfl, hM, fun b o e => of_hidT e, Nat.le_of_eq (hidT_size _ _), trivial, fun b hb => (List.not_mem_nil hb).elim, ok, .of_eq hgen⟩
    refine codeAny_mono ((F _ inB (ns_of hns)).run callerA [] z H _ [.ref a] [.ref a] _ _ rfl hr e0 (hbind z (.ref a)) (.cons rfl .nil) (hsp H only hS)) ?_
    intro r s' h
    cases r with
    | error e => exact (hCX H e s' h).elim
    | ok fl =>
     cases fl with
     | next => exact (show False from h).elim
     | brk => exact (show False from h).elim
     | cont => exact (show False from h).elim
     | ret u =>
      obtain ⟨v, H', os, bare, un, hok', r', q⟩ := h
      obtain rfl : v = .bl true := q
      obtain rfl : u = Value.bool true := r'
      refine ⟨rfl, OldK.of_keep fun b o e => ?_, os, bare⟩
      cases q : H b with
      | none => exact un.keep b o e q List.not_mem_nil List.not_mem_nil
      | some u =>
        rcases only b with y | ⟨ob, xs, y⟩
        · exact absurd (q.symm.trans y) (Option.some_ne_none u)
        · obtain ⟨e1, _⟩ := ok b _ y
          obtain ⟨e2, _⟩ := hok' b _ (un.frzs b ob _ y)
          rw [e] at e1
          cases e1
          exact e2
  cases hk : K.lookup a with
  | some o =>
    have e := inK a o hk
    rw [ha] at e
    cases e
    refine main (fun _ => none) (fun _ => .inl rfl) (.inr ⟨_, vs.toArray, _, hk, rfl, rfl, rfl, ?_, by simpa using rv⟩) (fun b u q => nomatch q) (fun b q => absurd rfl q) fun q => absurd rfl q
    rw [List.size_toArray, lv]
    exact hl
  | none =>
    have here : (fun b => if b = a then some (HO.frz { cls := .type "list", data := .seq vs.toArray } (.lst (ns.map V.int))) else none) a =
        some (HO.frz { cls := .type "list", data := .seq vs.toArray } (.lst (ns.map V.int))) := if_pos rfl
    refine main (fun b => if b = a then some (.frz { cls := .type "list", data := .seq vs.toArray } (.lst (ns.map V.int))) else none) ?_ (.inl (.inr ⟨_, here⟩)) ?_ ?_ fun _ => hk
    · intro b
      by_cases hb : b = a
      · exact .inr ⟨_, _, if_pos hb⟩
      · exact .inl (if_neg hb)
    · intro b u q
      by_cases hb : b = a
      · cases (if_pos hb).symm.trans q
        subst hb
        exact ⟨ha, by rw [List.length_map]; exact hl, vs, _, rv, ha⟩
      · cases (if_neg hb).symm.trans q
    · intro b q
      by_cases hb : b = a
      · exact hb
      · exact absurd (if_neg hb) q

theorem walk_ofG {l : PySem.W.OpenLaw} {n k : Nat} {q : Program} {loose : List Str} {XP : (Str → Option Value) → Heap → Prop} {YP : World → Heap → Prop} {d : DefRec}
    {K : Params → PySem.W.Frag} {CX : World → CXT} {sp : PySem.W.Frag → Sp} {x : Str} (hn : l.most = some n) (hn2 : n ≤ sizeLine) (hdf : d.params.defaults = [])
    (hr : Room k callerA) (hY : ∀ (w : World) (h : Heap), YP w h → (K w.params).In h)
    (F : ∀ (w : World) (mg : Str → Option Value) (fa : Addr) (h : Heap), (K w.params).In h → h.Ns mainGlobals mg → mg d.name = some (.ref fa) →
      ∃ fd : FuncData, (∀ (s : Shared) (u : Value), BindsTo s fd ⟨[u], []⟩ [(x, u)]) ∧
        ∀ base : Heap, (K w.params).In base → base.Ns mainGlobals mg → FnG l.prog w (K w.params) mg base (CX w) k fa fd [x] (sp (K w.params)))
    (hsp : ∀ (K : PySem.W.Frag) (H : Hp) (a : Addr) (ns : List Int), ns.length ≤ n → Only H → SqL K H a (ns.map V.int) →
      sp K [.ref a] H (fun v _ => v = .bl true) fun _ _ _ => False)
    (hCX : ∀ (w : World) (H : Hp) (s : Shared) (e : Value) (s' : Shared), CX w [] H s (fun _ _ _ => False) e s' → False) :
    PySem.W.WalkO q loose XP YP l.row.toRowW d [] (fun f vs => PySem.call f vs) := by
  refine Att.attach_call hn hdf ?_
  intro w s₀ s₁ mg mb fa o pm cd doc a vs ns G Y ho hd hcd hmg hobj hints hlen hg
  obtain ⟨fd, hb, hF⟩ := F w mg fa _ (hY w _ Y) G.T.g hmg
  exact law_callG (hY w _ Y) G.T.g G.T.b G.T.builtins G.T.nolimit hg hobj hints (Nat.le_trans hlen hn2) hr hF hb (fun H h1 h2 => hsp _ H a ns hlen h1 h2) fun H e s' => hCX w H s₁ e s'

end G

/-! Data of any depth (empty dicts too), the heap without one mutable list (the pot), repr of data. -/
namespace Lk
open PySem PySem.Spec PyProof.Rows L2 G

/-! ### the heap without the pot -/
def sans (H : Hp) (a : Addr) : Hp := fun b => if b = a then none else H b
theorem sans_ne {H : Hp} {a b : Addr} (h : b ≠ a) : sans H a b = H b := if_neg h
theorem sans_self {H : Hp} {a : Addr} : sans H a a = none := if_pos rfl
theorem sans_some {H : Hp} {a b : Addr} {o : HO} (h : sans H a b = some o) : b ≠ a ∧ H b = some o := by
  by_cases e : b = a
  · subst e
    rw [sans_self] at h
    cases h
  · exact ⟨e, (sans_ne e).symm.trans h⟩
theorem sans_of {H : Hp} {a b : Addr} {o : HO} (h : b ≠ a) (e : H b = some o) : sans H a b = some o := (sans_ne h).trans e
theorem sans_same {H : Hp} {a : Addr} : Same (sans H a) H := fun _ _ h => (sans_some h).2
/-- all but the pot stands as it stood -/
def Sm (a : Addr) (H H' : Hp) : Prop := Same (sans H a) (sans H' a)
theorem Sm.refl {a H} : Sm a H H := Same.refl _
theorem Sm.trans {a H H1 H2} (x : Sm a H H1) (y : Sm a H1 H2) : Sm a H H2 := Same.trans x y
theorem Sm.of {a H H'} (x : Same H H') : Sm a H H' := fun b o h => by
  obtain ⟨n, e⟩ := sans_some h
  exact sans_of n (x b o e)
theorem same_new {H : Hp} {p : Addr} {o : HO} (h : H p = none) : Same H (upd H p o) := fun b u e => (upd_ne (ne_of_none e h)).trans e
theorem Sm.new {a : Addr} {H : Hp} {p : Addr} {o : HO} (h : H p = none) : Sm a H (upd H p o) := Sm.of (same_new h)
theorem Sm.pot {a : Addr} {H : Hp} {o : HO} : Sm a H (upd H a o) := fun b u h => by
  obtain ⟨n, e⟩ := sans_some h
  exact sans_of n ((upd_ne n).trans e)
theorem Sm.upd {a : Addr} {H H' : Hp} {p : Addr} {o : HO} (s : Sm a H H') (h : sans H a p = none) : Sm a H (upd H' p o) := fun b u e => by
  have q := s b u e
  obtain ⟨n, q'⟩ := sans_some q
  have nb : b ≠ p := fun z => by
    rw [z, h] at e
    cases e
  exact sans_of n ((upd_ne nb).trans q')
theorem Sm.same {a H H'} (x : Sm a H H') : Same (sans H a) H' := Same.trans x sans_same

/-! ### reading under Same -/
theorem rd_mono {H H' : Hp} (s : Same H H') {a : Addr} {u : HO} (h : Rd H a u) : Rd H' a u := h.imp (s _ _) fun ⟨o, e⟩ => ⟨o, s _ _ e⟩
theorem seqL {K : PySem.W.Frag} {H H' : Hp} (s : Same H H') {a : Addr} {xs : List V} (h : SqL K H a xs) : SqL K H' a xs := h.imp (rd_mono s) id
theorem seqT {K : PySem.W.Frag} {H H' : Hp} (s : Same H H') {a : Addr} {xs : List V} (h : SqT K H a xs) : SqT K H' a xs := h.imp (rd_mono s) id

/-! ### data -/
mutual
inductive Dq (K : PySem.W.Frag) (H : Hp) : V → PyData → Prop
  | non : Dq K H .non .none
  | bl (b : Bool) : Dq K H (.bl b) (.bool b)
  | int (i : Int) : Dq K H (.int i) (.int i)
  | str (x : Str) : Dq K H (.str x) (.str x)
  | lst {a : Addr} {xs : List V} {ds : List PyData} : SqL K H a xs → DqAll K H xs ds → Dq K H (.ref a) (.list ds)
  | tup {a : Addr} {xs : List V} {ds : List PyData} : SqT K H a xs → DqAll K H xs ds → Dq K H (.ref a) (.tuple ds)
  | emp {a : Addr} : H a = some (.dK []) → Dq K H (.ref a) (.dict [])
inductive DqAll (K : PySem.W.Frag) (H : Hp) : List V → List PyData → Prop
  | nil : DqAll K H [] []
  | cons {v : V} {vs : List V} {d : PyData} {ds : List PyData} : Dq K H v d → DqAll K H vs ds → DqAll K H (v :: vs) (d :: ds)
end
mutual
theorem Dq.mono {K : PySem.W.Frag} {H H' : Hp} (s : Same H H') : ∀ {v : V} {d : PyData}, Dq K H v d → Dq K H' v d
  | _, _, .non => .non
  | _, _, .bl b => .bl b
  | _, _, .int i => .int i
  | _, _, .str x => .str x
  | _, _, .lst h t => .lst (seqL s h) (DqAll.mono s t)
  | _, _, .tup h t => .tup (seqT s h) (DqAll.mono s t)
  | _, _, .emp h => .emp (s _ _ h)
theorem DqAll.mono {K : PySem.W.Frag} {H H' : Hp} (s : Same H H') : ∀ {vs : List V} {ds : List PyData}, DqAll K H vs ds → DqAll K H' vs ds
  | _, _, .nil => .nil
  | _, _, .cons h t => .cons (Dq.mono s h) (DqAll.mono s t)
end
theorem DqAll.length {K : PySem.W.Frag} {H : Hp} : ∀ {vs : List V} {ds : List PyData}, DqAll K H vs ds → vs.length = ds.length
  | _, _, .nil => rfl
  | _, _, .cons _ t => congrArg (· + 1) t.length
theorem DqAll.get {K : PySem.W.Frag} {H : Hp} : ∀ {vs : List V} {ds : List PyData} {i : Nat} {v : V}, DqAll K H vs ds → vs[i]? = some v → ∃ d, ds[i]? = some d ∧ Dq K H v d
  | _, _, _, _, .nil, e => by simp at e
  | _, _, 0, _, .cons h _, e => by
    obtain rfl := Option.some.inj e
    exact ⟨_, rfl, h⟩
  | _, _, i + 1, _, .cons _ t, e => DqAll.get (i := i) t e
theorem DqAll.append {K : PySem.W.Frag} {H : Hp} : ∀ {vs ws : List V} {ds es : List PyData}, DqAll K H vs ds → DqAll K H ws es → DqAll K H (vs ++ ws) (ds ++ es)
  | _, _, _, _, .nil, s => s
  | _, _, _, _, .cons h t, s => .cons h (t.append s)
theorem DqAll.take {K : PySem.W.Frag} {H : Hp} : ∀ {vs : List V} {ds : List PyData} (n : Nat), DqAll K H vs ds → DqAll K H (vs.take n) (ds.take n)
  | _, _, 0, _ => .nil
  | _, _, _ + 1, .nil => .nil
  | _, _, n + 1, .cons h t => .cons h (t.take n)
theorem DqAll.drop {K : PySem.W.Frag} {H : Hp} : ∀ {vs : List V} {ds : List PyData} (n : Nat), DqAll K H vs ds → DqAll K H (vs.drop n) (ds.drop n)
  | _, _, 0, h => h
  | _, _, _ + 1, .nil => .nil
  | _, _, n + 1, .cons _ t => t.drop n
theorem DqAll.rep {K : PySem.W.Frag} {H : Hp} {v : V} {d : PyData} (h : Dq K H v d) : ∀ n, DqAll K H (List.replicate n v) (List.replicate n d)
  | 0 => .nil
  | n + 1 => .cons h (DqAll.rep h n)

/-! ### the type of data -/
def tyName : PyData → String
  | .none => "NoneType"
  | .bool _ => "bool"
  | .int _ => "int"
  | .str _ => "str"
  | .list _ => "list"
  | .tuple _ => "tuple"
  | .dict _ => "dict"
theorem tyx_seqL {K : PySem.W.Frag} {H : Hp} {a : Addr} {xs : List V} (h : SqL K H a xs) : TyX K H (.ref a) (.type "list") := by
  rcases h with (h | ⟨o, h⟩) | ⟨o, _, _, h, hc, _⟩
  · exact .base (.lst h)
  · exact .base (.frz h)
  · exact .kList h hc
theorem tyx_seqT {K : PySem.W.Frag} {H : Hp} {a : Addr} {xs : List V} (h : SqT K H a xs) : TyX K H (.ref a) (.type "tuple") := by
  rcases h with (h | ⟨o, h⟩) | ⟨o, _, _, h, hc, _⟩
  · exact .base (.tup h)
  · exact .fTuple h
  · exact .kTuple h hc
theorem Dq.ty {K : PySem.W.Frag} {H : Hp} {v : V} {d : PyData} (h : Dq K H v d) : TyX K H v (.type (tyName d)) := by
  cases h with
  | non => exact .base .non
  | bl b => exact .base (.bl b)
  | int i => exact .base (.int i)
  | str x => exact .base (.str x)
  | lst h _ => exact tyx_seqL h
  | tup h _ => exact tyx_seqT h
  | emp h => exact .base (.dK h)
/-- isinstance(x, T) of data, T a built-in class -/
def isA (T : String) (d : PyData) : Bool := (kitB (tyName d) T).getD false
theorem Dq.isi {K : PySem.W.Frag} {H : Hp} {v : V} {d : PyData} {T : String} {Q : VK} (h : Dq K H v d) (k : (kitB (tyName d) T).isSome = true) (q : Q (.bl (isA T d)) H) :
    rIsi K [v, .ty T] H Q := by
  obtain ⟨b, e⟩ := Option.isSome_iff_exists.mp k
  have eb : isA T d = b := by
    unfold isA
    rw [e]
    exact rfl
  rw [eb] at q
  exact ⟨v, .ty T, _, _, b, rfl, .ty T, h.ty, kit_ty e, q⟩

/-! ### repr of data -/
mutual
def hasList : PyData → Bool
  | .list _ => true
  | .tuple xs => hasListAll xs
  | _ => false
def hasListAll : List PyData → Bool
  | [] => false
  | x :: xs => hasList x || hasListAll xs
end
section
variable {X : Cx} {pins : List (Addr × Obj)} {σ : L2.St} {H : Hp} {s : Shared}
mutual
theorem Dq.reads (I : Inv X pins σ H s) : ∀ (d : PyData) (v : V) (u : Value), Dq X.K H v d → RelV v u → ∃ as, Reads s.heap u d as ∧ (hasList d = false → sysModules ∉ as)
  | .none, _, _, h, r => by
    cases h
    cases r
    exact ⟨_, Reads.none, fun _ => List.not_mem_nil⟩
  | .bool b, _, _, h, r => by
    cases h
    cases r
    exact ⟨_, Reads.bool b, fun _ => List.not_mem_nil⟩
  | .int i, _, _, h, r => by
    cases h
    obtain ⟨t, rfl⟩ := r
    exact ⟨_, Reads.int i t, fun _ => List.not_mem_nil⟩
  | .str x, _, _, h, r => by
    cases h
    obtain ⟨t, rfl⟩ := r
    exact ⟨_, Reads.str x t, fun _ => List.not_mem_nil⟩
  | .list ds, _, _, h, r => by
    cases h with
    | lst hs ha =>
      cases r
      obtain ⟨its, rv, ⟨o, n, ho, hc, _, hd⟩, _⟩ := I.list hs
      obtain ⟨as, hr, _⟩ := DqAll.reads I ds _ its ha rv
      exact ⟨_, Reads.list ho hc hd hr, fun q => by
        unfold hasList at q
        cases q⟩
  | .tuple ds, _, _, h, r => by
    cases h with
    | tup hs ha =>
      cases r
      obtain ⟨its, rv, ⟨o, ho, hc, n, hd⟩, _⟩ := I.tuple hs
      obtain ⟨as, hr, hm⟩ := DqAll.reads I ds _ its ha rv
      exact ⟨_, Reads.tuple ho hc hd hr, fun q => hm (by
        unfold hasList at q
        exact q)⟩
  | .dict kvs, _, _, h, r => by
    cases h with
    | emp he =>
      cases r
      obtain ⟨_, ns, vs, kv, o, es, ep, ho, hx, hd, _, hp, _⟩ := I.hok _ _ he
      cases kv
      have en : es.toList = [] := List.eq_nil_of_length_eq_zero (by
        rw [hp.length]
        exact rfl)
      refine ⟨_, Reads.dict (as := []) (bs := []) ho hx.1 hd (by
        rw [en]
        exact .nil) (by
        rw [en]
        exact .nil), fun _ => ?_⟩
      intro z
      have z' : sysModules ∈ [_] := z
      rw [List.mem_singleton] at z'
      rw [← z'] at ns
      simp at ns
theorem DqAll.reads (I : Inv X pins σ H s) : ∀ (ds : List PyData) (vs : List V) (us : List Value), DqAll X.K H vs ds → Vals vs us → ∃ as, ReadsAll s.heap us ds as ∧ (hasListAll ds = false → sysModules ∉ as)
  | [], _, _, h, r => by
    cases h
    cases r
    exact ⟨_, ReadsAll.nil, fun _ => List.not_mem_nil⟩
  | d :: ds, _, _, h, r => by
    cases h with
    | cons h1 h2 =>
      cases r with
      | cons r1 r2 =>
        obtain ⟨as, q1, m1⟩ := Dq.reads I d _ _ h1 r1
        obtain ⟨bs, q2, m2⟩ := DqAll.reads I ds _ _ h2 r2
        refine ⟨_, ReadsAll.cons q1 q2, fun q => ?_⟩
        unfold hasListAll at q
        rw [Bool.or_eq_false_iff] at q
        intro z
        rcases List.mem_append.mp z with z | z
        · exact m1 q.1 z
        · exact m2 q.2 z
end
end
/-- what repr is asked of here: shallow enough, short enough, no list and dict together -/
def ReprOk (d : PyData) : Prop := d.showable = true ∧ (d.hasDict = true → hasList d = false) ∧ d.depth ≤ 60 ∧ d.shown.length ≤ sizeLine
def rRepr (K : PySem.W.Frag) : List V → Hp → VK → Prop := fun xs H Q => ∃ v d, xs = [v] ∧ Dq K H v d ∧ ReprOk d ∧ Q (.str d.shown) H
theorem call_repr_data {X : Cx} (gd : X.A.guards = some []) (hu : X.A.units + 64 < cLine) : CallR X (.builtin "repr") (rRepr X.K) := by
  intro pins s σ H xs us Q I r h
  obtain ⟨v, d, rfl, hd, ⟨hs, hl, h60, hz⟩, q⟩ := h
  obtain ⟨u, rfl, rv⟩ : ∃ u, us = [u] ∧ RelV v u := by
    cases r with
    | cons a b =>
      cases b
      exact ⟨_, rfl, a⟩
  have fin : ∀ (h' : Heap) (t t' : Nat), (∀ b o, s.heap.get? b = some o → h'.get? b = some o) → EP X pins σ Q (.str d.shown t) { s with heap := h', toks := t' } :=
    fun h' t t' k => ⟨.str d.shown, H, I.kept k, ⟨t, rfl⟩, q⟩
  have big : ∀ a, u = .ref a → wpAny (model X.prog X.w) X.A (call (.builtin "repr") [u]) (EP X pins σ Q) X.xe s := by
    rintro a rfl
    obtain ⟨as, hr, hm⟩ := Dq.reads I d v _ hd rv
    exact repr_of_reads' hr hs (fun z => hm (hl z)) gd (by omega) (fun _ _ e => e) (fun h' t tk k => fin h' t tk k) hz
  cases hd with
  | non =>
    cases rv
    exact PySem.P.repr_of_none (fin s.heap _ _ fun _ _ e => e)
  | bl b =>
    cases rv
    refine PySem.P.repr_of_bool (b := b) ?_
    have e : (if b = true then ("True" : Str) else "False") = PyData.shown (.bool b) := by
      unfold PyData.shown
      exact rfl
    have f := fin s.heap s.toks (s.toks + 1) fun _ _ e => e
    rw [← e] at f
    exact f
  | int i =>
    obtain ⟨t, rfl⟩ := rv
    refine PySem.P.repr_of_int (a := i) (by
      unfold PyData.showable at hs
      exact of_decide_eq_true hs) ?_
    have f := fin s.heap s.toks (s.toks + 1) fun _ _ e => e
    unfold PyData.shown at f
    exact f
  | str x =>
    obtain ⟨t, rfl⟩ := rv
    unfold PyData.shown at hz
    refine PySem.P.repr_of_str (x := x) ?_ hz
    have f := fin s.heap s.toks (s.toks + 1) fun _ _ e => e
    unfold PyData.shown at f
    exact f
  | lst h1 h2 => exact big _ rv
  | tup h1 h2 => exact big _ rv
  | emp h1 => exact big _ rv
end Lk

/-! Texts: signs of a text as values, list of a text, a text repeated, strip. -/
namespace Lk
open PySem PySem.Spec PyProof.Rows L2 G PySem.Builtin.Str PySem.Builtin

/-- a text by its codes -/
abbrev tx (l : List Nat) : Str := ⟨l.toArray⟩
theorem tx_of (x : Str) : x = tx x.cps.toList := rfl
theorem tx_inj {a b : List Nat} (h : tx a = tx b) : a = b := by
  have := congrArg (fun s : Str => s.cps.toList) h
  simpa using this
theorem str_ext {x y : Str} (h : x.cps.toList = y.cps.toList) : x = y := by
  cases x
  cases y
  simp at h
  subst h
  rfl
/-- a text's signs, as values -/
def sg (z : Str) : List V := z.cps.toList.map fun c => V.str ⟨#[c]⟩
theorem sg_len (z : Str) : (sg z).length = z.length := by
  unfold sg
  rw [List.length_map]
  exact rfl

theorem vals_of_get : ∀ {xs : List V} {us : List Value}, xs.length = us.length → (∀ (i : Nat) (x : V) (u : Value), xs[i]? = some x → us[i]? = some u → RelV x u) → Vals xs us
  | [], [], _, _ => .nil
  | _ :: _, [], h, _ => by simp at h
  | [], _ :: _, h, _ => by simp at h
  | x :: xs, u :: us, h, k => .cons (k 0 x u rfl rfl) (vals_of_get (by simpa using h) fun i a b e f => k (i + 1) a b (by simpa using e) (by simpa using f))

section
variable {X : Cx}
/-- list(s), s a text -/
def rListS : List V → Hp → VK → Prop := fun xs H Q => ∃ z : Str, xs = [.str z] ∧ z.length ≤ sizeLine ∧ ∀ l, H l = none → Q (.ref l) (upd H l (.lst (sg z)))
theorem call_list_ofS (hc : X.calm = true) : CallR X (.type "list") rListS := by
  intro pins s σ H xs us Q I r h
  obtain ⟨z, rfl, hz, q⟩ := h
  obtain ⟨u, rfl, t, rfl⟩ : ∃ u, us = [u] ∧ ∃ t, u = Value.str z t := by
    cases r with
    | cons a b =>
      cases b
      exact ⟨_, rfl, a⟩
  refine call_list_str (I.ok.hd hc) z t ?_ hz
  intro h' tk acc c kp e hacc
  obtain ⟨n1, n2⟩ := hacc
  have v : Vals (sg z) acc.toList := by
    refine vals_of_get (by rw [sg_len, Array.length_toList, n1]; rfl) fun i x u e1 e2 => ?_
    unfold sg at e1
    rw [List.getElem?_map, Option.map_eq_some_iff] at e1
    obtain ⟨c, ec, rfl⟩ := e1
    rw [Array.getElem?_toList] at e2
    obtain ⟨c', tu, ec', rfl⟩ := n2 i u e2
    rw [Array.getElem?_toList] at ec
    rw [ec] at ec'
    cases ec'
    exact ⟨tu, rfl⟩
  refine ⟨.ref s.heap.objs.size, upd H s.heap.objs.size (.lst (sg z)), I.laid (t' := tk) kp (Nat.le_refl _) ?_, rfl, q _ (I.hok.fresh (Nat.le_refl _))⟩
  exact ⟨by rw [sg_len]; exact hz, acc.toList, c, v, by simpa using e⟩

/-- s repeated -/
def repS (z : Str) : Nat → Str
  | 0 => tx []
  | n + 1 => tx (z.cps.toList ++ (repS z n).cps.toList)
theorem repS_codes (z : Str) : ∀ n, (repS z n).cps.toList = (List.replicate n z.cps.toList).flatten
  | 0 => rfl
  | n + 1 => by
    unfold repS
    rw [List.replicate_succ, List.flatten_cons, ← repS_codes z n]
theorem rep_fold (c : Array Nat) : ∀ (n : Nat) (acc : Array Nat), ((List.replicate n c).foldl (· ++ ·) acc).toList = acc.toList ++ (List.replicate n c.toList).flatten
  | 0, acc => by simp
  | n + 1, acc => by
    rw [List.replicate_succ, List.foldl_cons, rep_fold c n, Array.toList_append, List.replicate_succ, List.flatten_cons, List.append_assoc]
theorem repS_eq (z : Str) (n : Nat) : (⟨(List.replicate n z.cps).foldl (· ++ ·) #[]⟩ : Str) = repS z n := by
  refine str_ext ?_
  rw [repS_codes]
  show ((List.replicate n z.cps).foldl (· ++ ·) #[]).toList = _
  rw [rep_fold]
  simp
theorem repS_len (z : Str) (n : Nat) : (repS z n).length = n * z.length := by
  show (repS z n).cps.size = _
  rw [← Array.length_toList, repS_codes]
  simp [Str.length]
theorem repS_one (z : Str) : repS z 1 = z := by
  refine str_ext ?_
  rw [repS_codes]
  simp
theorem repS_empty {z : Str} (h : z.length = 0) (n : Nat) : repS z n = z := by
  have e : z.cps.toList = [] := List.eq_nil_of_length_eq_zero (by simpa [Str.length] using h)
  refine str_ext ?_
  rw [repS_codes, e]
  simp
/-- s * n -/
def rMulS : R2 := fun x y H Q => ∃ (z : Str) (n : Nat), x = .str z ∧ y = .int (n : Int) ∧ z.length * n ≤ 16777216 ∧ n ≤ 16777216 ∧ Q (.str (repS z n)) H
theorem op_mulS : OpR X (binaryOp .Mult) rMulS := by
  intro pins s σ H x y v u Q I rx ry h
  obtain ⟨z, n, rfl, rfl, hz, hn, q⟩ := h
  obtain ⟨t, rfl⟩ := rx
  obtain ⟨t', rfl⟩ := ry
  refine PySem.P.mul_str (x := z) (n := (n : Int)) ?_ ?_ ?_ ?_
  · have e1 : ¬ ((n : Int) < -(2 ^ 63 : Int)) := by omega
    have e2 : ¬ ((n : Int) ≥ 2 ^ 63) := by omega
    rw [decide_eq_false e1, decide_eq_false e2]
    exact rfl
  · intro h1 _ h2
    have h3 : (1 : Int) ≤ n := by omega
    have hb : (z.length : Int) * n ≤ 16777216 := by
      have := Int.ofNat_le.mpr hz
      rw [Int.natCast_mul] at this
      exact this
    have h4 : (z.length : Int) ≤ (2 ^ 63 - 1) / n := by
      refine (Int.le_ediv_iff_mul_le (by omega)).mpr ?_
      exact Int.le_trans hb (by decide)
    omega
  · intro _ _
    unfold tooLong
    rw [Int.toNat_natCast]
    refine decide_eq_false ?_
    rw [sizeLine_eq]
    omega
  · have fin : ∀ (t t' : Nat), EP X pins σ Q (.str (repS z n) t) { s with toks := t' } := fun t t' => ⟨.str (repS z n), H, I.tok _, ⟨t, rfl⟩, q⟩
    by_cases h1 : (n : Int) < 1
    · rw [if_pos h1]
      have e : n = 0 := by omega
      subst e
      exact ⟨by decide, fin _ _⟩
    · rw [if_neg h1]
      by_cases h2 : ((n : Int) == 1 || z.length == 0) = true
      · rw [if_pos h2]
        have e : repS z n = z := by
          rw [Bool.or_eq_true, beq_iff_eq, beq_iff_eq] at h2
          rcases h2 with h2 | h2
          · have : n = 1 := by omega
            subst this
            exact repS_one z
          · exact repS_empty h2 n
        have f := fin t s.toks
        rw [e] at f
        exact f
      · rw [if_neg h2]
        rw [Int.toNat_natCast, repS_eq]
        refine ⟨?_, fin _ _⟩
        rw [repS_len, sizeLine_eq, Nat.mul_comm]
        exact hz
end

/-! ### strip leaves nothing just where all signs are among the given ones -/
theorem getD_mem {z : Str} {k : Nat} (h : k < z.length) : z.cps.getD k 0 ∈ z.cps.toList := by
  have h' : k < z.cps.size := h
  simp [Array.getD, h']
theorem mem_getD {z : Str} {c : Nat} (h : c ∈ z.cps.toList) : ∃ k, k < z.length ∧ z.cps.getD k 0 = c := by
  obtain ⟨k, hk, e⟩ := List.getElem_of_mem h
  have h' : k < z.cps.size := by simpa using hk
  refine ⟨k, h', ?_⟩
  simp [Array.getD, h']
  simpa using e
theorem stripBy_none (goes : Nat → Bool) (z : Str) : (Txt.stripBy goes true true z).length = 0 ↔ ∀ c ∈ z.cps.toList, goes c = true := by
  rw [stripBy_eq]
  obtain ⟨a0, a1, a2⟩ := lo_facts goes z
  obtain ⟨b0, b1, b2, b3⟩ := hi_facts goes z (stripLo goes true z) a0
  generalize stripLo goes true z = lo at *
  generalize stripHi goes true z lo = hi at *
  have len : (strSub z lo hi).length = hi - lo := by
    show (z.cps.extract lo hi).size = _
    have h1 : hi ≤ z.cps.size := b1
    rw [Array.size_extract]
    omega
  rw [len]
  constructor
  · intro h c hc
    obtain ⟨k, hk, rfl⟩ := mem_getD hc
    by_cases h1 : k < lo
    · exact a1 k h1
    · exact b2 k (by omega) hk
  · intro h
    by_cases h1 : lo = hi
    · omega
    · rcases a2 with h2 | h2
      · omega
      · have := h _ (getD_mem (z := z) (k := lo) (by omega))
        rw [h2] at this
        cases this
/-- all signs of z are among those of s -/
def allIn (s z : Str) : Bool := z.cps.toList.all fun c => s.cps.toList.contains c
theorem strip_none (z s : Str) : decide (V.str (Txt.stripChars z s) = V.str (tx [])) = allIn s z := by
  have h := stripBy_none s.cps.contains z
  have e : (∀ c ∈ z.cps.toList, s.cps.contains c = true) ↔ allIn s z = true := by
    unfold allIn
    rw [List.all_eq_true]
    simp
  rw [e] at h
  have f : V.str (Txt.stripChars z s) = V.str (tx []) ↔ (Txt.stripChars z s).length = 0 := by
    constructor
    · intro q
      rw [V.str.inj q]
      rfl
    · intro q
      refine congrArg V.str (str_ext ?_)
      exact List.eq_nil_of_length_eq_zero (by simpa [Str.length] using q)
  by_cases q : allIn s z = true
  · rw [q]
    exact decide_eq_true (f.mpr (h.mpr q))
  · rw [Bool.eq_false_iff.mpr q]
    exact decide_eq_false fun z' => q (h.mp (f.mp z'))
end Lk
namespace Lk
open PySem PySem.Spec PyProof.Rows L2 G
def isStr : PyData → Bool | .str _ => true | _ => false
def isInt : PyData → Bool | .int _ => true | .bool _ => true | _ => false
def isBool : PyData → Bool | .bool _ => true | _ => false
def isTup : PyData → Bool | .tuple _ => true | _ => false
def isLst : PyData → Bool | .list _ => true | _ => false
section
variable {K : PySem.W.Frag} {H : Hp} {v : V} {d : PyData} {Q : VK}
theorem kit_NoneType_str : kitB "NoneType" "str" = some false := by decide +kernel
theorem kit_bool_str : kitB "bool" "str" = some false := by decide +kernel
theorem kit_int_str : kitB "int" "str" = some false := by decide +kernel
theorem kit_str_str : kitB "str" "str" = some true := by decide +kernel
theorem kit_list_str : kitB "list" "str" = some false := by decide +kernel
theorem kit_tuple_str : kitB "tuple" "str" = some false := by decide +kernel
theorem kit_dict_str : kitB "dict" "str" = some false := by decide +kernel
theorem kStr : ∀ d : PyData, PySem.W.kitOne K (.type (tyName d)) (.type "str") = some (isStr d)
  | .none => kit_ty kit_NoneType_str
  | .bool _ => kit_ty kit_bool_str
  | .int _ => kit_ty kit_int_str
  | .str _ => kit_ty kit_str_str
  | .list _ => kit_ty kit_list_str
  | .tuple _ => kit_ty kit_tuple_str
  | .dict _ => kit_ty kit_dict_str
theorem kit_NoneType_int : kitB "NoneType" "int" = some false := by decide +kernel
theorem kit_bool_int : kitB "bool" "int" = some true := by decide +kernel
theorem kit_int_int : kitB "int" "int" = some true := by decide +kernel
theorem kit_str_int : kitB "str" "int" = some false := by decide +kernel
theorem kit_list_int : kitB "list" "int" = some false := by decide +kernel
theorem kit_tuple_int : kitB "tuple" "int" = some false := by decide +kernel
theorem kit_dict_int : kitB "dict" "int" = some false := by decide +kernel
theorem kInt : ∀ d : PyData, PySem.W.kitOne K (.type (tyName d)) (.type "int") = some (isInt d)
  | .none => kit_ty kit_NoneType_int
  | .bool _ => kit_ty kit_bool_int
  | .int _ => kit_ty kit_int_int
  | .str _ => kit_ty kit_str_int
  | .list _ => kit_ty kit_list_int
  | .tuple _ => kit_ty kit_tuple_int
  | .dict _ => kit_ty kit_dict_int
theorem kit_NoneType_bool : kitB "NoneType" "bool" = some false := by decide +kernel
theorem kit_bool_bool : kitB "bool" "bool" = some true := by decide +kernel
theorem kit_int_bool : kitB "int" "bool" = some false := by decide +kernel
theorem kit_str_bool : kitB "str" "bool" = some false := by decide +kernel
theorem kit_list_bool : kitB "list" "bool" = some false := by decide +kernel
theorem kit_tuple_bool : kitB "tuple" "bool" = some false := by decide +kernel
theorem kit_dict_bool : kitB "dict" "bool" = some false := by decide +kernel
theorem kBool : ∀ d : PyData, PySem.W.kitOne K (.type (tyName d)) (.type "bool") = some (isBool d)
  | .none => kit_ty kit_NoneType_bool
  | .bool _ => kit_ty kit_bool_bool
  | .int _ => kit_ty kit_int_bool
  | .str _ => kit_ty kit_str_bool
  | .list _ => kit_ty kit_list_bool
  | .tuple _ => kit_ty kit_tuple_bool
  | .dict _ => kit_ty kit_dict_bool
theorem kit_NoneType_tuple : kitB "NoneType" "tuple" = some false := by decide +kernel
theorem kit_bool_tuple : kitB "bool" "tuple" = some false := by decide +kernel
theorem kit_int_tuple : kitB "int" "tuple" = some false := by decide +kernel
theorem kit_str_tuple : kitB "str" "tuple" = some false := by decide +kernel
theorem kit_list_tuple : kitB "list" "tuple" = some false := by decide +kernel
theorem kit_tuple_tuple : kitB "tuple" "tuple" = some true := by decide +kernel
theorem kit_dict_tuple : kitB "dict" "tuple" = some false := by decide +kernel
theorem kTup : ∀ d : PyData, PySem.W.kitOne K (.type (tyName d)) (.type "tuple") = some (isTup d)
  | .none => kit_ty kit_NoneType_tuple
  | .bool _ => kit_ty kit_bool_tuple
  | .int _ => kit_ty kit_int_tuple
  | .str _ => kit_ty kit_str_tuple
  | .list _ => kit_ty kit_list_tuple
  | .tuple _ => kit_ty kit_tuple_tuple
  | .dict _ => kit_ty kit_dict_tuple
theorem kit_NoneType_list : kitB "NoneType" "list" = some false := by decide +kernel
theorem kit_bool_list : kitB "bool" "list" = some false := by decide +kernel
theorem kit_int_list : kitB "int" "list" = some false := by decide +kernel
theorem kit_str_list : kitB "str" "list" = some false := by decide +kernel
theorem kit_list_list : kitB "list" "list" = some true := by decide +kernel
theorem kit_tuple_list : kitB "tuple" "list" = some false := by decide +kernel
theorem kit_dict_list : kitB "dict" "list" = some false := by decide +kernel
theorem kLst : ∀ d : PyData, PySem.W.kitOne K (.type (tyName d)) (.type "list") = some (isLst d)
  | .none => kit_ty kit_NoneType_list
  | .bool _ => kit_ty kit_bool_list
  | .int _ => kit_ty kit_int_list
  | .str _ => kit_ty kit_str_list
  | .list _ => kit_ty kit_list_list
  | .tuple _ => kit_ty kit_tuple_list
  | .dict _ => kit_ty kit_dict_list
end
/-- is_word -/
def isWord (s : Str) : PyData → Bool
  | .str z => allIn s z
  | _ => false
end Lk
namespace Lk
open PySem PySem.Spec PyProof.Rows L2 G
/-! ### slices by places within, the longest common beginning -/
theorem cutS_nat (z : Str) (a b : Nat) (ha : a ≤ z.length) (hb : b ≤ z.length) : cutS z (some (a : Int)) (some (b : Int)) = tx ((z.cps.toList.drop a).take (b - a)) := by
  unfold cutS
  rw [HT.sIx_nat, HT.sIx_nat, Nat.min_eq_left ha, Nat.min_eq_left hb]
theorem cutS_to (z : Str) (b : Nat) (hb : b ≤ z.length) : cutS z none (some (b : Int)) = tx (z.cps.toList.take b) := by
  unfold cutS
  rw [HT.sIx_nat, HT.sIx_none, Nat.min_eq_left hb]
  rfl
theorem cutV_nat (xs : List V) (a b : Nat) (ha : a ≤ xs.length) (hb : b ≤ xs.length) : cutV xs (some (a : Int)) (some (b : Int)) = (xs.drop a).take (b - a) := by
  unfold cutV
  rw [HT.sIx_nat, HT.sIx_nat, Nat.min_eq_left ha, Nat.min_eq_left hb]
theorem cutV_to (xs : List V) (b : Nat) : cutV xs none (some (b : Int)) = xs.take b := by
  unfold cutV
  rw [HT.sIx_nat, HT.sIx_none]
  show (xs.take (min b xs.length - 0)) = _
  rw [Nat.sub_zero]
  by_cases h : b ≤ xs.length
  · rw [Nat.min_eq_left h]
  · rw [Nat.min_eq_right (by omega), List.take_of_length_le (Nat.le_refl _), List.take_of_length_le (by omega)]

def lcp : List Nat → List Nat → List Nat
  | a :: as, b :: bs => if a = b then a :: lcp as bs else []
  | _, _ => []
theorem lcp_len_le : ∀ as bs : List Nat, (lcp as bs).length ≤ as.length ∧ (lcp as bs).length ≤ bs.length
  | [], bs => by simp [lcp]
  | a :: as, [] => by simp [lcp]
  | a :: as, b :: bs => by
    unfold lcp
    by_cases h : a = b
    · rw [if_pos h]
      have := lcp_len_le as bs
      simp
      exact this
    · rw [if_neg h]
      simp
theorem lcp_take : ∀ (as bs : List Nat) (k : Nat), k ≤ as.length → k ≤ bs.length → (as.take k = bs.take k ↔ k ≤ (lcp as bs).length)
  | [], bs, k, h1, _ => by
    have : k = 0 := by simpa using h1
    subst this
    simp
  | a :: as, [], k, _, h2 => by
    have : k = 0 := by simpa using h2
    subst this
    simp
  | a :: as, b :: bs, 0, _, _ => by simp
  | a :: as, b :: bs, k + 1, h1, h2 => by
    have ih := lcp_take as bs k (by simpa using h1) (by simpa using h2)
    unfold lcp
    rw [List.take_succ_cons, List.take_succ_cons]
    by_cases h : a = b
    · subst h
      rw [if_pos rfl, List.length_cons]
      constructor
      · intro q
        have := ih.mp (List.cons.inj q).2
        omega
      · intro q
        rw [ih.mpr (by omega)]
    · rw [if_neg h]
      constructor
      · intro q
        exact absurd (List.cons.inj q).1 h
      · intro q
        simp at q
theorem lcp_is : ∀ as bs : List Nat, lcp as bs = as.take (lcp as bs).length
  | [], bs => by simp [lcp]
  | a :: as, [] => by simp [lcp]
  | a :: as, b :: bs => by
    have ih := lcp_is as bs
    unfold lcp
    by_cases h : a = b
    · rw [if_pos h, List.length_cons, List.take_succ_cons, ← ih]
    · rw [if_neg h]
      simp
/-- the longest text with which both begin -/
def comS (x y : Str) : Str := tx (lcp x.cps.toList y.cps.toList)
/-- one step of halving: the two parts between are the same just if the beginnings are -/
theorem part_eq {as bs : List Nat} {lo mid : Nat} (hlm : lo ≤ mid) (h : as.take lo = bs.take lo) :
    (as.drop lo).take (mid - lo) = (bs.drop lo).take (mid - lo) ↔ as.take mid = bs.take mid := by
  have e : ∀ l : List Nat, l.take mid = l.take lo ++ (l.drop lo).take (mid - lo) := fun l => by
    have := List.take_add (l := l) (i := lo) (j := mid - lo)
    rw [show lo + (mid - lo) = mid by omega] at this
    exact this
  constructor
  · intro q
    rw [e as, e bs, q, h]
  · intro q
    rw [e as, e bs, h] at q
    exact List.append_cancel_left q
end Lk

/-! The pot of numbers that a law draws from. -/
namespace Lk
open PySem PySem.Spec PyProof.Rows L2 G

theorem seqL_ne {K : PySem.W.Frag} {H : Hp} {a : Addr} {xs : List V} {o : HO} (h : SqL K (sans H a) a xs) : K.lookup a ≠ none := by
  rcases h with (h | ⟨o, h⟩) | ⟨o, its, n, h, _⟩
  · rw [sans_self] at h
    cases h
  · rw [sans_self] at h
    cases h
  · rw [h]
    exact Option.some_ne_none _
/-- at a the pot: its cells' list at c, three numbers -/
def PotAt (H : Hp) (a c : Addr) : Prop := ∃ (p x y : Int), H a = some (.lst [.ref c, .int p, .int x, .int y])
def Cells (K : PySem.W.Frag) (H : Hp) (a c : Addr) : Prop := ∃ ns : List Int, SqL K (sans H a) c (ns.map V.int) ∧ ns.length ≤ 63
structure Pot (K : PySem.W.Frag) (H : Hp) (a c : Addr) : Prop where
  at_ : PotAt H a c
  cells : Cells K H a c
theorem Cells.mono {K : PySem.W.Frag} {H H' : Hp} {a c : Addr} (s : Sm a H H') (h : Cells K H a c) : Cells K H' a c := by
  obtain ⟨ns, h, l⟩ := h
  exact ⟨ns, seqL s h, l⟩
theorem Pot.to {K : PySem.W.Frag} {H H' : Hp} {a c : Addr} (h : Pot K H a c) (s : Sm a H H') (p : PotAt H' a c) : Pot K H' a c := ⟨p, h.cells.mono s⟩
theorem PotAt.ne {H : Hp} {a c p : Addr} (h : PotAt H a c) (n : H p = none) : p ≠ a := by
  obtain ⟨_, _, _, e⟩ := h
  exact (ne_of_none e n).symm
theorem PotAt.upd {H : Hp} {a c p : Addr} {o : HO} (h : PotAt H a c) (n : p ≠ a) : PotAt (upd H p o) a c := by
  obtain ⟨x, y, z, e⟩ := h
  exact ⟨x, y, z, (upd_ne n.symm).trans e⟩
theorem PotAt.same {H H' : Hp} {a c : Addr} (h : PotAt H a c) (s : Same H H') : PotAt H' a c := by
  obtain ⟨x, y, z, e⟩ := h
  exact ⟨x, y, z, s _ _ e⟩
theorem Pot.ne {K : PySem.W.Frag} {H : Hp} {a c p : Addr} (h : Pot K H a c) (n : H p = none) : p ≠ a := h.at_.ne n
theorem Pot.same {K : PySem.W.Frag} {H H' : Hp} {a c : Addr} (h : Pot K H a c) (s : Same H H') : Pot K H' a c := h.to (Sm.of s) (h.at_.same s)
theorem Pot.new {K : PySem.W.Frag} {H : Hp} {a c p : Addr} {o : HO} (h : Pot K H a c) (n : H p = none) : Pot K (L2.upd H p o) a c := h.same (same_new n)
/-- _law_below: some number from 0 on below the bound; all but the pot stands -/
def spBelow (K : PySem.W.Frag) : Sp := fun vs H Q _ => ∃ (a c : Addr) (b : Int), vs = [.ref a, .int b] ∧ Pot K H a c ∧ 1 ≤ b ∧ b < 1073741824 ∧
  ∀ (H' : Hp) (k : Int), Sm a H H' → Pot K H' a c → 0 ≤ k → k < b → Q (.int k) H'
/-- _law_pick: some item of a list, of a tuple or of a text -/
def spPick (K : PySem.W.Frag) : Sp := fun vs H Q _ => ∃ (a c : Addr) (v : V) (xs : List V), vs = [.ref a, v] ∧ Pot K H a c ∧ xs ≠ [] ∧
  ((∃ l, v = .ref l ∧ SqL K (sans H a) l xs) ∨ (∃ l, v = .ref l ∧ SqT K (sans H a) l xs) ∨ (∃ z : Str, v = .str z ∧ xs = sg z ∧ z.length ≤ sizeLine)) ∧ xs.length < 1073741824 ∧
  ∀ (H' : Hp) (x : V), Sm a H H' → Pot K H' a c → x ∈ xs → Q x H'
theorem dq_ints {K : PySem.W.Frag} {H : Hp} : ∀ ns : List Int, DpAll K H (ns.map V.int) (ns.map PyData.int)
  | [] => .nil
  | n :: ns => .cons (.int n) (dq_ints ns)
theorem shaped_ints (ns : List Int) : SeqAt.shaped (.list (ns.map PyData.int)) = true := by
  have h1 : ∀ l : List Int, PyData.canLayAll0 (l.map PyData.int) = true := fun l => by
    induction l with
    | nil => rfl
    | cons n r ih =>
      rw [List.map_cons]
      unfold PyData.canLayAll0
      rw [ih, Bool.and_true]
      rfl
  have h2 : ∀ l : List Int, PyData.depthAll (l.map PyData.int) = 0 := fun l => by
    induction l with
    | nil => rfl
    | cons n r ih =>
      rw [List.map_cons]
      unfold PyData.depthAll
      rw [ih]
      rfl
  unfold SeqAt.shaped
  rw [Bool.and_eq_true]
  constructor
  · unfold PyData.canLay0
    exact h1 ns
  · unfold PyData.depth
    rw [h2]
    exact rfl
theorem sg_get {z : Str} {k : Nat} (h : k < (sg z).length) : ∃ c, (sg z)[k] = .str (tx [c]) ∧ z.cps.toList[k]? = some c := by
  unfold sg at h ⊢
  rw [List.length_map] at h
  refine ⟨z.cps.toList[k], ?_, List.getElem?_eq_getElem h⟩
  rw [List.getElem_map]
end Lk
namespace Lk
open PySem PySem.Spec PyProof.Rows L2 G
theorem ixN_nat {n j : Nat} (h : j < n) : ixN n (j : Int) = some j := by
  unfold ixN
  rw [if_pos (by omega)]
  simp
  exact h
end Lk
namespace Lk
open PySem PySem.Spec PyProof.Rows L2 G PySem.Builtin.Str PySem.Builtin
/-- the texts one behind another -/
def catS (ys : List Str) : List Nat := (ys.map fun y => y.cps.toList).flatten
theorem glue_fold : ∀ (rest : List Str) (acc : Array Nat), (rest.foldl (fun acc p => acc ++ (tx []).cps ++ p.cps) acc).toList = acc.toList ++ catS rest
  | [], acc => by simp [catS]
  | y :: r, acc => by
    rw [List.foldl_cons, glue_fold r]
    simp [catS]
theorem join_empty (ys : List Str) : Txt.join (tx []) ys = tx (catS ys) := by
  refine str_ext ?_
  unfold Txt.join
  cases ys with
  | nil => rfl
  | cons y r =>
    show ((r.foldl (fun acc p => acc ++ (tx []).cps ++ p.cps) y.cps)).toList = _
    rw [glue_fold]
    simp [catS]
end Lk
namespace Lk
open PySem PySem.Spec PyProof.Rows L2 G
theorem catS_ones : ∀ l : List Nat, catS (l.map fun c => tx [c]) = l
  | [] => rfl
  | c :: r => by
    have ih := catS_ones r
    unfold catS at ih ⊢
    rw [List.map_cons, List.map_cons, List.flatten_cons, ih]
    rfl
theorem sum_ones : ∀ l : List Nat, ((l.map fun c => tx [c]).map (·.length)).sum = l.length
  | [] => rfl
  | c :: r => by
    rw [List.map_cons, List.map_cons, List.sum_cons, sum_ones r, List.length_cons]
    show 1 + r.length = _
    omega
end Lk

/-! Exceptions of own classes as values: made (with and without an own __init__), asked by isinstance, their fields read. -/
namespace Lk
open PySem PySem.Spec PySem.Calls PyProof.Rows L2 G

/-- at a an exception of the class at D: one without a dict, or one with its dict at d -/
def ExAt (H : Hp) (a D : Addr) : Prop := H a = some (ExO (.ref D) a) ∨ ∃ d, H a = some (exo a D (some d)) ∧ ∃ fs, H d = some (exd d fs)
theorem ExAt.mono {H H' : Hp} {a D : Addr} (s : Same H H') (h : ExAt H a D) : ExAt H' a D :=
  h.imp (s _ _) fun ⟨d, e, fs, f⟩ => ⟨d, s _ _ e, fs, s _ _ f⟩

section
open PySem.W
variable {prog : Program} {w : World} {A : Around} {E : Value → Shared → Prop} {s : Shared} {K : Frag} {x D : Addr}

theorem exc_class {ox : Obj} {od : Option Obj} {Q : Option Value → Shared → Prop} (T : ExcC K D) (X : K.In s.heap) (I : InstAt s.heap x ox D od)
    (q : Q (some (.ref D)) { s with toks := s.toks + 1 }) : wpAny (model prog w) A (getAttr? (.ref x) "__class__") Q E s := by
  have found : findObj K D od "__class__" = some (.bind (.builtin "getset_descriptor.__get__") (.builtin "object.__class__")) := by
    obtain ⟨cd, hc, _⟩ := any_some T.hd
    unfold findObj
    rw [hc, Option.bind_some, T.ha, Option.bind_some]
    simp [T.hn, T.ht]
  obtain ⟨hp, g, d, t, os⟩ := s
  have t0 := I.type (M := model prog w)
  have t1 := looks_findIn (M := model prog w) X T.hg
  have t2 := looks_findIn (M := model prog w) X T.hk
  have t3 := looks_find (M := model prog w) X I found
  have isExc : Looks (model prog w) hp (isInstance (.ref x) (.type "BaseException")) true := t0.andThen (looks_subIn X T.hs)
  have no1 : (Value.builtin "BaseException.__getattribute__" == Value.builtin "object.__getattribute__") = false := by decide +kernel
  have no2 : (onTheHeap (Value.ref D) && Value.builtin "BaseException.__getattribute__" == Value.builtin "object.__getattribute__") = false := by
    rw [no1]
    exact rfl
  have no3 : (false && onTheHeap (Value.builtin "BaseException.__getattribute__")) = false := rfl
  unfold getAttr?
  unfold getAttrBy?
  unfold getAttrBy
  refine wpAny_bind (wpAny_mkText (wpAny_bind (wpAny_attempt (wpAny_holding ?_))))
  refine wpAny_bind (t0.at (wpAny_bind (t1.at ?_)))
  show wpAny _ _ (if (onTheHeap (Value.ref D) && Value.builtin "BaseException.__getattribute__" == Value.builtin "object.__getattribute__") = true then _ else _) _ _ _
  rw [no2]
  rw [if_neg Bool.false_ne_true]
  unfold getAttrByItsOwn
  unfold hookBefore
  refine wpAny_bind ?_
  rw [if_pos (show onTheHeap (Value.ref D) = true from rfl)]
  refine t2.at (wpAny_bind (wpAny_attempt (wpAny_holding ?_)))
  unfold callGetattribute
  rw [no3]
  rw [if_neg Bool.false_ne_true]
  unfold boundAndCalled
  rw [PySem.F.excAttr_ValueError.ga.bind (.ref x)]
  refine wpAny_bind (wpAny_pure ?_)
  show wpAny _ _ (call (.builtin "BaseException.__getattribute__") [.ref x, .str "__class__" t]) _ _ _
  refine wpAny_call (codeAny_call_builtin PySem.F.excAttr_ValueError.ga.plain PySem.F.entry_bexc_ga ?_)
  refine @check_slot (model prog w) _ _ ⟨hp, g, d, t + 1, os⟩ "BaseException.__getattribute__" "BaseException" "__getattribute__"
    (.ref x) [.str "__class__" t] [] _ (by decide +kernel) (by decide +kernel) isExc (PySem.F.args_bexc_ga (.ref x) (.str "__class__" t)) ?_
  unfold Builtin.«object.__getattribute__»
  refine wpAny_bind (wpAny_of_eq (a := ((Value.ref x : Value), [Value.str "__class__" t])) ?_ ?_)
  · first
      | rfl
      | (simp only [slotArgs]; rfl)
  refine wpAny_bind (wpAny_pure (wpAny_bind (t0.at (wpAny_bind (t3.at ?_)))))
  show wpAny _ _ (holding [Value.builtin "object.__class__"] (call (.builtin "getset_descriptor.__get__") [.builtin "object.__class__", .ref x, .ref D]) >>= ret) _ _ _
  refine wpAny_bind (wpAny_holding (wpAny_call (class_get (s := ⟨hp, g, d, t + 1, os⟩) (ox := ox) (od := od) X I T.hm ?_)))
  refine wpAny_pure ?_
  show wpAny _ _ (handedOut (.ref D)) _ _ _
  rw [handedOut_of (v := .ref D) rfl]
  first
    | exact wpAny_pure (wpAny_pure q)
    | exact wpAny_pure q
    | exact wpAny_pure (wpAny_bind (wpAny_pure (wpAny_pure q)))

theorem exc_kit (T : ExcC K D) : KitX K (.ref x) (.ref D) (fun h => ∃ ox od, InstAt h x ox D od) := by
  obtain ⟨cdD, hcD, _⟩ := any_some T.hd
  unfold clsIn at hcD
  split at hcD
  · rename_i c' d' cd' sl' ho
    constructor
    · rintro _ _ _ ⟨ox, od, I⟩
      exact I.type
    · intro M h X _ A' Q' E' s' k q
      unfold isType loadHead
      exact wpAny_bind (wpAny_loadPart (k _ _ (X _ _ ho)) (wpAny_pure q))
    · intro h tp dd its n sl X htp
      rw [Bool.eq_false_iff]
      intro q
      obtain rfl : D = tp := Value.ref.inj (beq_iff_eq.mp q)
      cases (X _ _ ho).symm.trans htp
    · rintro prog w A E Q s X ⟨ox, od, I⟩ k
      exact exc_class T X I k
  · cases hcD
end

theorem ExAt.inst {X : Cx} {pins : List (Addr × Obj)} {σ : L2.St} {H : Hp} {s : Shared} {a D : Addr} (I : Inv X pins σ H s) (h : ExAt H a D) : ∃ ox od, PySem.W.InstAt s.heap a ox D od := by
  rcases h with h | ⟨d, h, fs, hd⟩
  · have z : ObjOk X.prog X.w H s.heap a (ExO (.ref D) a) := I.hok a _ h
    obtain ⟨⟨oe, vs, e, ⟨hc, hn⟩, hdt, _⟩, _, _⟩ := z
    refine ⟨oe, none, e, hc, ?_, ?_⟩
    · unfold PySem.W.notCls
      rw [hdt] <;> rfl
    · rw [hn]
      trivial
  · obtain ⟨t1, e⟩ := exo_at I.hok h
    obtain ⟨mA, hns, _⟩ := exd_at I.hok hd
    obtain ⟨o, es, ep, ho, _⟩ := hns
    exact ⟨_, some o, e, rfl, rfl, ho⟩

section
variable {X : Cx}
/-- isinstance(e, c), e an exception as a value -/
def rIsX (K : PySem.W.Frag) : List V → Hp → VK → Prop := fun xs H Q => ∃ (a D : Addr) (c : V) (cv : Value) (b : Bool), xs = [.ref a, c] ∧ ExAt H a D ∧ ExcC K D ∧ ClsV c cv ∧ PySem.W.kitOne K (.ref D) cv = some b ∧ Q (.bl b) H
theorem call_isX : CallR X (.builtin "isinstance") (rIsX X.K) := by
  intro pins s σ H xs us Q I r h
  obtain ⟨a, D, c, cv, b, rfl, ha, T, hc, e, q⟩ := h
  cases r with
  | cons rx rr =>
    cases rr with
    | cons rt rr =>
      cases rr
      cases rx
      cases hc.eq rt
      exact PySem.W.kia_one (exc_kit T) I.kIn (ha.inst I) e (fun z => nomatch z) fun tk => ⟨.bl b, H, I.tok tk, rfl, q⟩
/-- isinstance(e, (c1, c2, ..)) -/
def rIsXT (K : PySem.W.Frag) : List V → Hp → VK → Prop := fun xs H Q => ∃ (a D tp : Addr) (cs : List V) (us : List Value) (b : Bool), xs = [.ref a, .ref tp] ∧ ExAt H a D ∧ ExcC K D ∧ H tp = some (.tup cs) ∧ Paired ClsV cs us ∧ PySem.W.kitAny K (.ref D) us = some b ∧ Q (.bl b) H
theorem call_isXT : CallR X (.builtin "isinstance") (rIsXT X.K) := by
  intro pins s σ H xs us Q I r h
  obtain ⟨a, D, tp, cs, ws, b, rfl, ha, T, hT, hc, e, q⟩ := h
  cases r with
  | cons rx rr =>
    cases rr with
    | cons rt rr =>
      cases rr
      cases rx
      cases rt
      have z : ObjOk X.prog X.w H s.heap tp (.tup cs) := I.hok tp _ hT
      obtain ⟨_, its, rv, ⟨oc, od, dt, sl⟩, h1, h2, n, h3⟩ := z
      simp only at h2 h3
      subst h2 h3
      obtain rfl := ClsV.all hc rv
      exact PySem.W.kia_tup (exc_kit T) I.kIn (ha.inst I) h1 e (fun z => nomatch z) fun tk => ⟨.bl b, H, I.tok tk, rfl, q⟩

/-- e.f of an exception with its own dict -/
def tXv (K : PySem.W.Frag) (f : Str) (te : TE) : TE := fun σ H Q => te σ H fun x H1 => ∃ (a C d : Addr) (fs : List (Str × V)) (v : V), x = .ref a ∧ XfC K C ∧ PySem.W.findIn K (.ref C) f = some none ∧
  H1 a = some (exo a C (some d)) ∧ H1 d = some (exd d fs) ∧ fs.lookup f = some v ∧ Q v H1
theorem pe_xv {e : Expr} {te : TE} {pos : Pos} {n : Str} (he : PE X e te) (hb : attributeBase e n X.env (eval e X.env) = eval e X.env := by rfl) : PE X (.Attribute e n pos) (tXv X.K n te) := by
  constructor
  intro pins s σ H Q I h
  refine attr_of hb (thn (he.run pins s σ H _ I h) ?_)
  rintro u s1 ⟨x, H1, I1, rx, a, C, d, fs, v, rfl, T, hno, ea, ed, hl, q⟩
  obtain rfl : u = Value.ref a := rx
  obtain ⟨t1, hoe⟩ := exo_at I1.hok ea
  obtain ⟨mA, hns, rel⟩ := exd_at I1.hok ed
  obtain ⟨od, hod, hlk⟩ := lookIn_ns hns
  have hv : RelO (some v) (mA n) := hl ▸ rel n
  obtain ⟨u, hu, ru⟩ := RelO.some_of hv
  have J : PySem.W.InstAt s1.heap a _ C (some od) := ⟨hoe, rfl, rfl, hod⟩
  exact HandSPX.exc_get I1.kIn J T.ga T.gg T.exC (PySem.W.findObj_own T.hdC hno rfl (by rw [hlk, hu])) (handed_of ru) ⟨v, H1, I1.tok _, ru, q⟩

/-- C(e, ..) as a value, C's own __init__ keeping sp -/
def tMkV (C : Addr) (sp : Sp) (ta : TA) : TE := fun σ H Q => ta σ H fun vs H1 => vs.length ≤ 1000 ∧ ∀ a, H1 a = none → sp (.ref a :: vs) (upd H1 a (exo a C none)) (fun v H2 => v = .non ∧ Q (.ref a) H2) (fun _ _ _ => False)
variable {e : Expr} {es : List Expr} {ta : TA} {p pos : Pos}
theorem pe_mkV {CX : CXT} {x : Str} {C fI : Addr} {k : Nat} {fd : FuncData} {ps : List Str} {sp : Sp} (T : OexC X.K C)
    (iC : PySem.W.findIn X.K (.ref C) "__init__" = some (some (.ref fI))) (tI : PySem.W.typeIn X.K (.ref fI) = some (.type "function"))
    (F1 : FnOk X.prog X.w X.K X.mg X.base CX k fI fd ps sp) (hr : Room (k + 1) X.A) (hb : Binds X.K fd ps []) (hx : Passes CX X (fun _ _ _ => False))
    (hg : Gl X x) (hm : X.mg x = some (.ref C)) (ha : PA X (e :: es) ta) (hdb : (x == ("__debug__" : Str)) = false := by decide)
    (he : starEach (e :: es) X.env = (false, eval e X.env) :: starEach es X.env := by rfl) (hpl : (backTo pos (starEach es X.env)).any (·.1) = false := by rfl) :
    PE X (.Call (.Name x p) (e :: es) [] pos) (tMkV C sp ta) := by
  constructor
  intro pins s σ H Q I h
  obtain ⟨nm, q, N, bs, bm, sn, sub, ab, col, dd, k0, k1, k2, k3, k5, hC, hbm⟩ := T.cls
  refine wpAny_Call_Name_kw (ld_glob I hg hm ?_ hdb)
  refine PySem.W.callWith_K (h₀ := X.base) I.ok.mod.kin T.kC (thn (ha.run pos pins s σ H _ I h) ?_) he hpl
  rintro us s1 ⟨vs, H1, I1, r1, hz, q1⟩
  refine ⟨I1.kIn, ?_⟩
  show wpAny _ _ (call (.ref C) us) _ _ _
  obtain ⟨hp, g, dr, tk, os⟩ := s1
  have big : hp.objs.size ≤ hp.objs.size + 1 := Nat.le_succ _
  have hq := q1 (hp.objs.size + 1) (I1.hok.fresh big)
  have kk : ∀ b o, hp.get? b = some o → ((hp.push (PySem.W.kdv_tup us)).push (PySem.HandSPX.excO C hp.objs.size)).get? b = some o :=
    fun b o e => Heap.get?_push_of_some _ (Heap.get?_push_of_some _ e)
  have here : ((hp.push (PySem.W.kdv_tup us)).push (PySem.HandSPX.excO C hp.objs.size)).get? (hp.objs.size + 1) = some (PySem.HandSPX.excO C hp.objs.size) := by heap_get
  have I2 := I1.laid (t' := tk) (a := hp.objs.size + 1) (o := exo (hp.objs.size + 1) C none) kk big (L2.exo_ok here)
  have r2 : Vals (V.ref (hp.objs.size + 1) :: vs) (Value.ref (hp.objs.size + 1) :: us) := .cons rfl r1
  have ll : (Value.ref (hp.objs.size + 1) :: us).length = ps.length := r2.length.symm.trans (F1.len _ _ _ _ hq)
  have hus : us.length ≤ sizeLine := by
    rw [← Paired.length r1, sizeLine_eq]
    omega
  have hbb := hb _ (Value.ref (hp.objs.size + 1) :: us) I2.kIn (by rw [List.append_nil]; exact ll)
  rw [List.append_nil] at hbb
  refine wpAny_call (PySem.HandSPX.call_own F.excBase_ValueError (fun Y => PySem.HandSPX.refsVE_contains Y bm hbm) (I1.kIn _ _ hC)
    (PySem.W.looks_findIn I1.kIn iC) (fun self => PySem.W.bind_fn I1.kIn self tI) hus ?_)
  refine codeAny_mono (F1.run _ X.stack _ _ ⟨Value.ref (hp.objs.size + 1) :: us, []⟩ _ _ _ (fun _ _ _ => False) (hr.make C us []) (I2.env0.make C us []) hbb r2 hq) ?_
  intro r s' hq'
  cases r with
  | error er => exact hx pins σ _ _ er s' I2 hq'
  | ok fl =>
    cases fl with
    | next => exact (show False from hq').elim
    | brk => exact (show False from hq').elim
    | cont => exact (show False from hq').elim
    | ret u =>
      obtain ⟨v, H2, os2, bare2, un2, hok2, rv, ev, q2⟩ := hq'
      subst ev
      obtain ⟨h2, g2, d2, t2, os'⟩ := s'
      obtain rfl : os' = os := os2
      exact ⟨rv, .ref (hp.objs.size + 1), H2, I2.call (h' := h2) (g' := g2) (d' := d2) (t' := t2) (ch := []) un2 hok2 bare2 (fun b z => absurd z (by simp)), rfl, q2⟩
end
end Lk
namespace Lk
open PySem PySem.Spec PySem.Calls PyProof.Rows L2 G
/-- what the class D is to each of the classes -/
def RowK (K : PySem.W.Frag) (D : Addr) : List Addr → List Bool → Prop
  | c :: cs, b :: bs => PySem.W.kitOne K (.ref D) (.ref c) = some b ∧ RowK K D cs bs
  | _, _ => True
theorem refs_one {a : Addr} : PySem.HandSPX.refsVE [.ref a, .type "ValueError", .type "Exception", .type "BaseException", .type "object"] = true := by
  show PySem.HandSPX.refsVE [.type "ValueError", .type "Exception", .type "BaseException", .type "object"] = true
  decide +kernel
def veRest : List Value := [.type "ValueError", .type "Exception", .type "BaseException", .type "object"]
/-- all but a stands -/
def But (a : Addr) (H H' : Hp) : Prop := ∀ b o, b ≠ a → H b = some o → H' b = some o
theorem But.same {a : Addr} {H H' : Hp} {o : HO} (n : H a = none) (h : But a (upd H a o) H') : Same H H' := fun b u e =>
  h b u (ne_of_none e n) ((upd_ne (ne_of_none e n)).trans e)
/-- __init__ of an error with one field -/
def spInit1 (K : PySem.W.Frag) (C : Addr) (f : Str) : Sp := fun vs H Q _ => ∃ (a : Addr) (v : V), vs = [.ref a, v] ∧ H a = some (exo a C none) ∧
  ∀ (H' : Hp) (d : Addr), But a H H' → H' a = some (exo a C (some d)) → H' d = some (exd d [(f, v)]) → Q .non H'
def spInit2 (K : PySem.W.Frag) (C : Addr) (f g : Str) : Sp := fun vs H Q _ => ∃ (a : Addr) (v u : V), vs = [.ref a, v, u] ∧ H a = some (exo a C none) ∧
  ∀ (H' : Hp) (d : Addr), But a H H' → H' a = some (exo a C (some d)) → H' d = some (exd d [(g, u), (f, v)]) → Q .non H'
/-- __init__ of NoOutcome with a list: a copy of it is kept -/
def spInitL (K : PySem.W.Frag) (C : Addr) (f g : Str) : Sp := fun vs H Q _ => ∃ (a l : Addr) (v : V) (xs : List V), vs = [.ref a, v, .ref l] ∧ H a = some (exo a C none) ∧ SqL K H l xs ∧
  ∀ (H' : Hp) (d n : Addr), But a H H' → H' a = some (exo a C (some d)) → H' d = some (exd d [(g, .ref n), (f, v)]) → H' n = some (.lst xs) → H n = none → Q .non H'
end Lk
namespace Lk
open PySem L2
theorem exo_ne_lst {e C : Addr} {d : Option Addr} {xs : List V} : exo e C d ≠ .lst xs := fun z => by
  have z' : HO.ext _ = HO.lst xs := z
  cases z'
theorem exo_ne_tup {e C : Addr} {d : Option Addr} {xs : List V} : exo e C d ≠ .tup xs := exo_tup
end Lk
namespace Lk
open PySem L2
theorem bools_dp {K : PySem.W.Frag} {H : Hp} : ∀ bs : List Bool, DpAll K H (bs.map V.bl) (bs.map PyData.bool)
  | [] => .nil
  | b :: bs => .cons (.bl b) (bools_dp bs)
theorem bools_lay : ∀ l : List Bool, PyData.canLayAll0 (l.map PyData.bool) = true
  | [] => rfl
  | b :: r => by
    rw [List.map_cons]
    unfold PyData.canLayAll0
    rw [bools_lay r, Bool.and_true]
    rfl
theorem bools_depth : ∀ l : List Bool, PyData.depthAll (l.map PyData.bool) = 0
  | [] => rfl
  | b :: r => by
    rw [List.map_cons]
    unfold PyData.depthAll
    rw [bools_depth r]
    rfl
theorem bools_shaped (l : List Bool) : SeqAt.shaped (.list (l.map PyData.bool)) = true := by
  unfold SeqAt.shaped
  rw [Bool.and_eq_true]
  constructor
  · unfold PyData.canLay0
    exact bools_lay l
  · unfold PyData.depth
    rw [bools_depth]
    exact rfl
theorem ne_refl {d : PyData} (h : SeqAt.shaped d = true) : (!PyData.eqv d d) = false := by
  rw [SeqAt.eqv_refl d (SeqAt.canLay_of_shaped h)]
  rfl
theorem if_false {c : Bool} {A B : Prop} (hc : c = false) (h : B) : if c = true then A else B := by
  rw [hc]
  exact iteF h
theorem if_true {c : Bool} {A B : Prop} (hc : c = true) (h : A) : if c = true then A else B := by
  rw [hc]
  exact iteT h
end Lk
namespace Lk
open PySem PySem.Spec PyProof.Rows L2 G
/-- small texts of usual signs -/
def SmallS (z : Str) : Prop := 0 < z.length ∧ z.length ≤ 10 ∧ ∀ c ∈ z.cps.toList, c < 1000
theorem cat_codes (a b : Str) : (a ++ b).cps.toList = a.cps.toList ++ b.cps.toList := by
  show (a.cps ++ b.cps).toList = _
  rw [Array.toList_append]
theorem cat_len (a b : Str) : (a ++ b).length = a.length + b.length := by
  show (a.cps ++ b.cps).size = _
  rw [Array.size_append]
  rfl
theorem cutS_all (z : Str) (b : Nat) : cutS z none (some (b : Int)) = tx (z.cps.toList.take b) := by
  unfold cutS
  rw [HT.sIx_nat, HT.sIx_none, List.drop_zero, Nat.sub_zero]
  have e : z.cps.toList.length = z.length := by simp [Str.length]
  by_cases h : b ≤ z.length
  · rw [Nat.min_eq_left h]
  · rw [Nat.min_eq_right (by omega), List.take_of_length_le (by omega), List.take_of_length_le (by omega)]
theorem tx_len (l : List Nat) : (tx l).length = l.length := by simp [Str.length]
theorem tx_codes (l : List Nat) : (tx l).cps.toList = l := by simp
theorem lcp_comm : ∀ a b : List Nat, lcp a b = lcp b a
  | [], [] => rfl
  | [], b :: bs => by simp [lcp]
  | a :: as, [] => by simp [lcp]
  | a :: as, b :: bs => by
    unfold lcp
    by_cases h : a = b
    · rw [if_pos h, if_pos h.symm, lcp_comm as bs, h]
    · rw [if_neg h, if_neg fun z => h z.symm]
/-- data that repr shows: small leaves, not too much of it -/
structure Shows (d : PyData) : Prop where
  leaves : d.leavesShort 13 = true
  weight : d.weight ≤ 1048576
  shape : d.showable = true
  dict : d.hasDict = true → hasList d = false
  depth : d.depth ≤ 60
theorem Shows.ok {d : PyData} (h : Shows d) : ReprOk d :=
  ⟨h.shape, h.dict, h.depth, PyData.shown_fits (by decide) (by decide) h.leaves h.weight⟩
theorem shows_str {z : Str} (h1 : z.length ≤ 100000) (h2 : ∀ c ∈ z.cps.toList, c < 1000) : Shows (.str z) where
  leaves := by
    unfold PyData.leavesShort
    rw [List.all_eq_true]
    intro c hc
    exact decide_eq_true (Nat.lt_trans (h2 c hc) (by decide))
  weight := by
    unfold PyData.weight
    exact Nat.le_trans h1 (by decide)
  shape := by unfold PyData.showable; rfl
  dict := fun h => by
    unfold PyData.hasDict at h
    cases h
  depth := by unfold PyData.depth; exact Nat.zero_le _
theorem shows_bool (b : Bool) : Shows (.bool b) where
  leaves := by unfold PyData.leavesShort; rfl
  weight := by unfold PyData.weight; exact Nat.zero_le _
  shape := by unfold PyData.showable; rfl
  dict := fun h => by
    unfold PyData.hasDict at h
    cases h
  depth := by unfold PyData.depth; exact Nat.zero_le _
theorem shows_none : Shows .none where
  leaves := by unfold PyData.leavesShort; rfl
  weight := by unfold PyData.weight; exact Nat.zero_le _
  shape := by unfold PyData.showable; rfl
  dict := fun h => by
    unfold PyData.hasDict at h
    cases h
  depth := by unfold PyData.depth; exact Nat.zero_le _
theorem shows_zero : Shows (.int 0) where
  leaves := by unfold PyData.leavesShort; decide +kernel
  weight := by unfold PyData.weight; decide
  shape := by unfold PyData.showable; decide
  dict := fun h => by
    unfold PyData.hasDict at h
    cases h
  depth := by unfold PyData.depth; exact Nat.zero_le _
theorem shows_emp : Shows (.dict []) where
  leaves := by unfold PyData.leavesShort PyData.leavesShortKv; rfl
  weight := by unfold PyData.weight PyData.weightKv; exact Nat.zero_le _
  shape := by unfold PyData.showable PyData.showableKv; rfl
  dict := fun _ => by unfold hasList; rfl
  depth := by unfold PyData.depth PyData.depthKv; decide
theorem shows_tup1 {z : Str} (h1 : z.length ≤ 100000) (h2 : ∀ c ∈ z.cps.toList, c < 1000) : Shows (.tuple [.str z]) where
  leaves := by
    have h := (shows_str h1 h2).leaves
    simp only [PyData.leavesShort, PyData.leavesShortAll, Bool.and_true] at h ⊢
    exact h
  weight := by
    have h := (shows_str h1 h2).weight
    simp only [PyData.weight, PyData.weightAll] at h ⊢
    have : z.cps.size ≤ 100000 := h1
    omega
  shape := by simp [PyData.showable, PyData.showableAll]
  dict := fun h => by simp [PyData.hasDict, PyData.hasDictAll] at h
  depth := by simp [PyData.depth, PyData.depthAll]
theorem shows_lst1 {z : Str} (h1 : z.length ≤ 100000) (h2 : ∀ c ∈ z.cps.toList, c < 1000) : Shows (.list [.str z]) where
  leaves := by
    have h := (shows_str h1 h2).leaves
    simp only [PyData.leavesShort, PyData.leavesShortAll, Bool.and_true] at h ⊢
    exact h
  weight := by
    have h := (shows_str h1 h2).weight
    simp only [PyData.weight, PyData.weightAll] at h ⊢
    have : z.cps.size ≤ 100000 := h1
    omega
  shape := by simp [PyData.showable, PyData.showableAll]
  dict := fun h => by simp [PyData.hasDict, PyData.hasDictAll] at h
  depth := by simp [PyData.depth, PyData.depthAll]
theorem rep_mem {z : Str} {n c : Nat} (h : c ∈ (repS z n).cps.toList) : c ∈ z.cps.toList := by
  rw [repS_codes] at h
  obtain ⟨l, hl, hc⟩ := List.mem_flatten.mp h
  rw [(List.mem_replicate.mp hl).2] at hc
  exact hc
/-- the ones for the signs that are not among s -/
def strange (s : Str) (l : List Nat) : List Nat := l.filter fun c => !s.cps.toList.contains c
theorem strange_nil (s z : Str) : strange s z.cps.toList = [] ↔ allIn s z = true := by
  unfold strange allIn
  rw [List.filter_eq_nil_iff, List.all_eq_true]
  simp
theorem eqv_nil_ints (ns : List Int) : PyData.eqv (.list (ns.map PyData.int)) (.list []) = decide (ns = []) := by
  cases ns with
  | nil => simp [PyData.eqv, PyData.eqvAll]
  | cons n r => simp [PyData.eqv, PyData.eqvAll]
end Lk
namespace Lk
open PySem PySem.Spec PyProof.Rows L2 G
theorem and_str {d : PyData} {z : Str} {t : TE} {σ : L2.St} {Q : VK} {H : Hp} (h : ∀ y, d = .str y → ∀ Q' : VK, (∀ H', Same H H' → Q' (.bl (allIn z y)) H') → t σ H Q')
    (k : ∀ H', Same H H' → Q (.bl (isWord z d)) H') : if isStr d = true then t σ H Q else Q (.bl false) H := by
  cases d with
  | str y => exact iteT (h y rfl Q k)
  | none => exact iteF (k _ (Same.refl _))
  | bool _ => exact iteF (k _ (Same.refl _))
  | int _ => exact iteF (k _ (Same.refl _))
  | list _ => exact iteF (k _ (Same.refl _))
  | tuple _ => exact iteF (k _ (Same.refl _))
  | dict _ => exact iteF (k _ (Same.refl _))
theorem ne_same {x : V} : (!decide (x = x)) = false := by simp
end Lk
namespace Lk
open PySem L2
theorem strange_in {s : Str} {c : Nat} (l : List Nat) (h : c ∈ s.cps.toList) : strange s (l ++ [c]) = strange s l := by
  unfold strange
  rw [List.filter_append]
  have e : s.cps.toList.contains c = true := List.contains_iff_mem.mpr h
  rw [List.filter_cons_of_neg (by rw [e]; decide), List.filter_nil, List.append_nil]
theorem strange_out {s : Str} {c : Nat} (l : List Nat) (h : ¬ c ∈ s.cps.toList) : strange s (l ++ [c]) = strange s l ++ [c] := by
  unfold strange
  rw [List.filter_append]
  have e : s.cps.toList.contains c = false := by
    rw [Bool.eq_false_iff]
    exact fun z => h (List.contains_iff_mem.mp z)
  rw [List.filter_cons_of_pos (by rw [e]; decide), List.filter_nil]
end Lk

/-! set(text) and sorted of it. -/
namespace Ls
open PySem PySem.Spec PyProof.Rows L2 Lk

def one (c : Nat) : Str := ⟨#[c]⟩
def keyT (e : Int × Value) : Str := match e.2 with | .str k _ => k | _ => one 0
def GoodT (w : World) (e : Int × Value) : Prop := ∃ k tk, e.2 = Value.str k tk ∧ e.1 = hashStr w k
/-- at a a set that holds just the texts of l -/
def SetT (w : World) (h : Heap) (a : Addr) (l : List Str) : Prop :=
  ∃ o es ep t, h.get? a = some o ∧ o.ExactSet ∧ o.data = .set es ep t ∧ (∀ e ∈ es.toList, GoodT w e) ∧ (es.toList.map keyT).Nodup ∧
    (∀ k, k ∈ l ↔ k ∈ es.toList.map keyT) ∧ es.size < scanBound ∧ t.fits es.size = true ∧ es.size ≤ l.length ∧ Ris t.place.toList ∧
    (w.params.followText "set-order" = true ∨ t.led = true)
section
variable {P : Program} {w : World} {h h' : Heap} {a : Addr} {l : List Str}
theorem SetT.at_ (R : SetT w h a l) (k : ∀ o, h.get? a = some o → h'.get? a = some o) : SetT w h' a l := by
  obtain ⟨o, es, ep, t, eo, r⟩ := R
  exact ⟨o, es, ep, t, k o eo, r⟩
theorem str_is (k : Str) (u : Tok) : (PySem.strKind P w).is k (.str k u) = true := by
  show Value.isStrOf k (.str k u) = true
  unfold Value.isStrOf
  exact beq_self_eq_true k
theorem good_elemsT {l : List (Int × Value)} (g : ∀ e ∈ l, GoodT w e) : ElemsOf (PySem.strKind P w) l := fun e he => by
  obtain ⟨k, tk, q1, q2⟩ := g e he
  refine ⟨⟨k, ?_, q2⟩, ?_⟩
  · rw [q1]
    exact str_is k tk
  · rw [q1] <;> rfl
theorem good_isT {e : Int × Value} (g : GoodT w e) (k : Str) : (PySem.strKind P w).is k e.2 = true ↔ keyT e = k := by
  obtain ⟨k0, tk, q1, _⟩ := g
  unfold keyT
  rw [q1]
  show (Value.isStrOf k (.str k0 tk) = true) ↔ k0 = k
  unfold Value.isStrOf
  exact beq_iff_eq
theorem good_memT {l : List (Int × Value)} (g : ∀ e ∈ l, GoodT w e) (k : Str) : k ∈ l.map keyT ↔ ∃ e ∈ l, (PySem.strKind P w).is k e.2 = true := by
  rw [List.mem_map]
  constructor
  · rintro ⟨e, he, q⟩
    exact ⟨e, he, (good_isT (g e he) k).2 q⟩
  · rintro ⟨e, he, q⟩
    exact ⟨e, he, (good_isT (g e he) k).1 q⟩
end

section
variable {P : Program} {w : World} {A : Around} {E : Value → Shared → Prop} {s : Shared} {a : Addr} {l : List Str}
theorem addT_tail {g : Bool → Sem Unit} (hg : ∀ (b : Bool) (s₁ : Shared) (Q' : Unit → Shared → Prop), Q' () s₁ → wpAny (model P w) A (g b) Q' E s₁)
    {o : Obj} {es : Array (Int × Value)} {ep : Nat} {t : SetTable} (eo : s.heap.get? a = some o) (ex : o.ExactSet) (ed : o.data = .set es ep t)
    {fs : Array (Int × Value)} {u : SetTable} {l' : List Str} (g1 : ∀ e ∈ fs.toList, GoodT w e) (nd1 : (fs.toList.map keyT).Nodup) (m1 : ∀ k, k ∈ l' ↔ k ∈ fs.toList.map keyT)
    (b1 : fs.size < scanBound) (f1 : u.fits fs.size = true) (z1 : fs.size ≤ l'.length) (r1 : Ris u.place.toList) (o1 : w.params.followText "set-order" = true ∨ u.led = true)
    {dummy : Bool} {R : Option Bool → Shared → Prop} (hR : ∀ h', Heap.SameBut a s.heap h' → SetT w h' a l' → R (some true) { s with heap := h' }) :
    wpAny (model P w) A (do
        storeSet a fs u
        if (!dummy && u.tooFull) = true then do
            g (relayAll u fs (SetTable.grown fs.size)).2.2
            storeSet a (relayAll u fs (SetTable.grown fs.size)).1 (relayAll u fs (SetTable.grown fs.size)).2.1
            pure (some true)
          else pure (some true)) R E s := by
  refine wpAny_bind (wpAny_storeSet_of eo ed ?_ (fits_of_scanBound b1))
  have eo1 := store_at (es' := fs) (t' := u) eo ed
  have sb := Heap.SameBut.update s.heap a (Obj.putSet fs u)
  split
  · have pm := relayAll_perm u fs (SetTable.grown fs.size)
    have ff := relayAll_fits u fs (SetTable.grown fs.size)
    have rr := relayAll_ris u fs (SetTable.grown fs.size)
    have le := relayAll_led u fs (SetTable.grown fs.size)
    generalize relayAll u fs (SetTable.grown fs.size) = Z at pm ff rr le ⊢
    obtain ⟨gs, v, gave⟩ := Z
    dsimp only at pm ff rr le ⊢
    have sz : gs.size = fs.size := by
      rw [← Array.length_toList, pm.length_eq, Array.length_toList]
    have b2 : gs.size < scanBound := sz ▸ b1
    refine wpAny_bind (hg _ _ _ ?_)
    refine wpAny_bind (wpAny_storeSet_of eo1 rfl ?_ (fits_of_scanBound b2))
    have eo2 := store_at (es' := gs) (t' := v) eo1 rfl
    refine wpAny_pure (hR _ (sb.trans (Heap.SameBut.update _ a _)) ⟨_, gs, _, v, eo2, ex, rfl, fun e he => g1 e (pm.mem_iff.mp he), ?_, fun k => ?_, b2, ff, sz ▸ z1, rr, ?_⟩)
    · exact (pm.map keyT).nodup_iff.mpr nd1
    · exact (m1 k).trans (pm.map keyT).mem_iff.symm
    · exact o1.imp id fun z => le.trans z
  · exact wpAny_pure (hR _ sb ⟨_, fs, _, u, eo1, ex, rfl, g1, nd1, m1, b1, f1, z1, r1, o1⟩)

theorem addT_hashed {k : Str} {tk : Tok} {Q : Bool → Shared → Prop} (R : SetT w s.heap a l) (room : l.length + 1 < scanBound)
    (hQ : ∀ b h', Heap.SameBut a s.heap h' → SetT w h' a (l ++ [k]) → Q b { s with heap := h' }) :
    wpAny (model P w) A (setAddHashed a (.str k tk) ((PySem.strKind P w).hash k)) Q E s := by
  obtain ⟨o, es, ep, t, eo, ex, ed, g, nd, em, eb, ef, en, er, el⟩ := R
  have isk : (PySem.strKind P w).is k (.str k tk) = true := str_is k tk
  have scn : (Value.str k tk).scannable = true := rfl
  have els : ElemsOf (PySem.strKind P w) es.toList := good_elemsT g
  unfold setAddHashed
  unfold setAddHashedIn
  refine wpAny_holding (wpAny_bind (wpAny_setState_of eo ed ef ?_))
  dsimp only
  rw [byScan_of scn eb els]
  simp only [↓reduceIte]
  unfold setAddByScan
  refine wpAny_bind (wpAny_bind (wpAny_rule (wpAny_bind (wpAny_setScan_of isk eo ed ef els ?_))))
  cases fi : List.findIdx? (fun e => (PySem.strKind P w).is k e.2) es.toList with
  | some j =>
    dsimp only
    obtain ⟨hj, pj, _⟩ := List.findIdx?_eq_some_iff_getElem.mp fi
    have kin : k ∈ l := (em k).2 ((good_memT (P := P) (w := w) g k).2 ⟨es.toList[j], List.getElem_mem hj, pj⟩)
    refine wpAny_pure (wpAny_pure (hQ _ s.heap (Heap.SameBut.refl a s.heap) ⟨o, es, ep, t, eo, ex, ed, g, nd, fun i => ?_, eb, ef, ?_, er, el⟩))
    · rw [← em i, List.mem_append, List.mem_singleton]
      exact ⟨fun z => z.elim id fun e => e ▸ kin, .inl⟩
    · rw [List.length_append]
      exact Nat.le_trans en (Nat.le_add_right _ _)
  | none =>
    dsimp only
    have kout : k ∉ es.toList.map keyT := fun z => by
      obtain ⟨e, he, q⟩ := (good_memT (P := P) (w := w) g k).1 z
      have c := List.findIdx?_eq_none_iff.mp fi e he
      rw [q] at c
      cases c
    have gw : ∀ (b : Bool) {s₁ : Shared} {Q' : Unit → Shared → Prop}, Q' () s₁ → wpAny (model P w) A (match b with | true => rule "set.scan.the-table-gave-way" | false => pure ()) Q' E s₁ := by
      intro b s₁ Q' q
      cases b
      · exact wpAny_pure q
      · exact wpAny_rule q
    have pm := layNew_perm t es ((PySem.strKind P w).hash k) (.str k tk)
    have f1 := layNew_fits t es ((PySem.strKind P w).hash k) (.str k tk)
    have r1 := layNew_ris t es ((PySem.strKind P w).hash k) (.str k tk) er
    have l1 := layNew_led t es ((PySem.strKind P w).hash k) (.str k tk)
    generalize layNew t es ((PySem.strKind P w).hash k) (.str k tk) = Z at pm f1 r1 l1 ⊢
    obtain ⟨fs, u, dummy, gave⟩ := Z
    dsimp only at pm f1 r1 l1 ⊢
    rw [Array.toList_push] at pm
    have pc : fs.toList.Perm (((PySem.strKind P w).hash k, Value.str k tk) :: es.toList) := pm.trans (List.perm_append_singleton _ _)
    have pk : (fs.toList.map keyT).Perm (k :: es.toList.map keyT) := pc.map keyT
    have g1 : ∀ e ∈ fs.toList, GoodT w e := fun e he => by
      rcases List.mem_cons.mp (pc.mem_iff.mp he) with z | z
      · rw [z]
        exact ⟨k, tk, rfl, rfl⟩
      · exact g e z
    have n1 : (fs.toList.map keyT).Nodup := pk.nodup_iff.mpr (List.nodup_cons.mpr ⟨kout, nd⟩)
    have m1 : ∀ i, i ∈ l ++ [k] ↔ i ∈ fs.toList.map keyT := fun i => by
      rw [List.mem_append, List.mem_singleton, em i, pk.mem_iff, List.mem_cons]
      exact Or.comm
    have sz : fs.size = es.size + 1 := by
      rw [← Array.length_toList, pc.length_eq, List.length_cons, Array.length_toList]
    have z1 : fs.size ≤ (l ++ [k]).length := by
      rw [sz, List.length_append]
      exact Nat.succ_le_succ en
    have b1 : fs.size < scanBound := by omega
    have o1 : w.params.followText "set-order" = true ∨ u.led = true := el.imp id fun z => l1.trans z
    have gg : ∀ (b : Bool) (s₁ : Shared) (Q' : Unit → Shared → Prop), Q' () s₁ → wpAny (model P w) A (match b with | true => rule "set.scan.the-table-gave-way" | false => pure ()) Q' E s₁ := fun b s₁ Q' q => gw b q
    refine wpAny_bind (gw _ ?_)
    split
    · refine wpAny_bind ?_
      rw [hashByValue_scannable 8 scn]
      refine wpAny_pure (addT_tail ?_ eo ex ed g1 n1 m1 b1 ?_ z1 ?_ ?_ ?_)
      · intro b s₁ Q' q
        cases b <;> first | exact wpAny_pure q | exact wpAny_rule q
      · first | (split <;> first | exact f1 | exact SetTable.fits_plain_off f1) | exact f1
      · first | (split <;> exact r1) | exact r1
      · first | (split <;> exact o1) | exact o1
      · intro h' sb r
        dsimp only
        exact wpAny_pure (hQ _ h' sb r)
    · refine wpAny_bind (wpAny_pure ?_)
      simp only [↓reduceIte]
      refine addT_tail ?_ eo ex ed g1 n1 m1 b1 f1 z1 r1 o1 ?_
      · intro b s₁ Q' q
        cases b <;> first | exact wpAny_pure q | exact wpAny_rule q
      · intro h' sb r
        dsimp only
        exact wpAny_pure (hQ _ h' sb r)

theorem freshT {h : Heap} (w : World) : SetT w (h.push { cls := .type "set", dict := none, data := .set #[] 0 (.fresh 0 0 (!w.params.followText "set-order")) }) h.objs.size [] := by
  refine ⟨_, #[], 0, _, Heap.get?_push_size _ rfl, ⟨rfl, rfl, rfl⟩, rfl, ?_, ?_, ?_, by decide, rfl, Nat.le_refl _, List.Pairwise.nil, ?_⟩
  · intro e he
    simp at he
  · simp
  · intro k
    simp
  · show _ ∨ (!w.params.followText "set-order") = true
    cases w.params.followText "set-order"
    · exact .inr rfl
    · exact .inl rfl

theorem newT (v : Value) {Q₁ : Value → Shared → Prop}
    (q : Q₁ (.ref s.heap.objs.size) { s with heap := s.heap.push { cls := .type "set", dict := none, data := .set #[] 0 (.fresh 0 0 (!w.params.followText "set-order")) } }) :
    codeAny (model P w) A (.call (.builtin "set.__new__") ⟨[.type "set", v], []⟩) (wants Q₁ E) s := by
  refine codeAny_of_tree ?_
  show wpAny _ A.in1 (do checkBuiltinCall "set.__new__" ⟨[.type "set", v], []⟩; again (.builtin "set.__new__" ⟨[.type "set", v], []⟩)) _ _ s
  refine wpAny_bind (wpAny_of_eq (PySem.F.newCall_set_1 v) (wpAny_pure ⟨plainId_quiet PySem.F.plain_set_new _, codeAny_builtin PySem.F.entry_set_new ?_⟩))
  rw [Around.under_plainId PySem.F.plain_set_new _]
  unfold Builtin.«set.__new__»
  unfold Builtin.Frozenset.newClass
  have selfsub := sub_set_self
  obtain ⟨hp, g, d, tk, os⟩ := s
  dsimp only
  wp_walk
  refine wpAny_askSetting (wpAny_pure ?_)
  dsimp only
  simp only [newObj]
  exact wpAny_bind (wpAny_alloc (wpAny_pure (wpAny_pure q)))
end
end Ls

/-! set(text), sorted of it: the loop, the calls, the rules. -/
namespace Ls
open PySem PySem.Spec PyProof.Rows L2 Lk

section
variable {P : Program} {w : World} {A : Around} {R : Result → Shared → Prop} {I : Addr} {fp wr : List Addr} {G : Array GenState → Array GenState → Prop} {n : Nat} {St : Nat → Shared → Prop}
def signsT (x : Str) : List Str := x.cps.toList.map one
theorem loopT {x : Str} (W : WalksS P w A.in1 I fp wr G n (SignAt x) St) (S : Addr) (hSf : S ∉ fp) (hsz : x.cps.size = n) (hb : n + 1 < scanBound) :
    ∀ (k i : Nat) (s : Shared), n - i = k → i ≤ n → St i s → SetT w s.heap S ((signsT x).take i) →
      (∀ s', Moved (S :: wr) G s s' → SetT w s'.heap S (signsT x) → R (.ok (.ret .none)) s') →
      codeAny (model P w) A (.builtin "set.update.loop" ⟨[.ref S, .ref I], []⟩) R s := by
  have hSw : S ∉ wr := fun h => hSf (W.sub _ h)
  have hsub : ∀ b ∈ wr, b ∈ S :: wr := fun b hb => List.mem_cons_of_mem _ hb
  have hlen : (signsT x).length = n := by
    unfold signsT
    rw [List.length_map, Array.length_toList, hsz]
  intro k
  induction k with
  | zero =>
    intro i s hk hi hst hS hR
    have hin : i = n := by omega
    subst hin
    refine codeAny_builtin F.entry_set_update_loop ?_
    rw [Around.under_plainId F.plain_set_update_loop _]
    show wpAny _ A.in1 (pyNext (.ref I) >>= _) _ _ s
    refine wpAny_bind (W.done s _ _ hst fun s' hm => ?_)
    show wpAny _ A.in1 (ret Value.none) _ _ s'
    refine wpAny_pure (hR s' (hm.mono hsub) ?_)
    rw [List.take_of_length_le (Nat.le_of_eq hlen)] at hS
    exact hS.at_ fun o e => hm.heap S o hSw e
  | succ k ih =>
    intro i s hk hi hst hS hR
    have hlt : i < n := by omega
    refine codeAny_builtin F.entry_set_update_loop ?_
    rw [Around.under_plainId F.plain_set_update_loop _]
    show wpAny _ A.in1 (pyNext (.ref I) >>= _) _ _ s
    refine wpAny_bind (W.item i s _ _ hlt hst fun v s' hP hst' hm => ?_)
    obtain ⟨c, t, ec, ev⟩ := hP
    subst ev
    have hS' : SetT w s'.heap S ((signsT x).take i) := hS.at_ fun o e => hm.heap S o hSw e
    show wpAny _ A.in1 (holding [Value.str (one c) t] (setAdd S (.str (one c) t)) >>= _) _ _ s'
    refine wpAny_bind (wpAny_holding ?_)
    unfold setAdd
    refine wpAny_holding ?_
    refine wpAny_bind ((PySem.strKind P w).pyHash (k := one c) (str_is _ _) ?_)
    have room : ((signsT x).take i).length + 1 < scanBound := by
      rw [List.length_take]
      omega
    have et : (signsT x).take i ++ [one c] = (signsT x).take (i + 1) := by
      rw [List.take_succ]
      unfold signsT
      rw [List.getElem?_map, Array.getElem?_toList, ec]
      rfl
    refine addT_hashed (s := { s' with toks := s'.toks + 1 }) hS' room fun b h' sb hS2 => ?_
    rw [et] at hS2
    refine wpAny_pure ⟨plainId_quiet F.plain_set_update_loop _, ih (i + 1) _ (by omega) hlt (W.frame _ s' _ _ hst' (Nat.le_succ _) fun b hb o e => ?_) hS2 fun s'' hm'' hS'' => ?_⟩
    · rw [sb.2 b (fun h : b = S => hSf (by rw [← h]; exact hb))]
      exact e
    · refine hR s'' (Moved.trans W.gtrans ((hm.mono hsub).then_heap (Nat.le_succ _) fun b o hb e => ?_) hm'') hS''
      rw [sb.2 b (fun h : b = S => hb (by rw [h]; exact List.mem_cons_self))]
      exact e
end

section
variable {P : Program} {w : World} {A : Around} {E : Value → Shared → Prop} {s : Shared}
theorem sub_str_set : isSubtype (.type "str") (.type "set") = pure false := by rw [isSubtype_type]; kernel_rfl
theorem sub_str_frozenset : isSubtype (.type "str") (.type "frozenset") = pure false := by rw [isSubtype_type]; kernel_rfl

theorem call_setT {x : Str} {t0 : Tok} {Q : Value → Shared → Prop} (hh : A.handled = none) (hb : x.cps.size + 1 < scanBound)
    (h : ∀ (h' : Heap) (tk : Nat), SetT w h' s.heap.objs.size (signsT x) → (∀ b o, b < s.heap.objs.size → s.heap.get? b = some o → h'.get? b = some o) →
      Q (.ref s.heap.objs.size) { s with heap := h', toks := tk }) :
    wpAny (model P w) A (call (.type "set") [.str x t0]) Q E s := by
  obtain ⟨c, tl, hmro⟩ := F.called_set.mro
  have hmade := F.called_set.made
  have hsub := F.called_set.sub
  refine wpAny_call (codeAny_of_tree ?_)
  show wpAny _ _ (callAny (.type "set") _) _ _ _
  refine wpAny_pure ⟨Code.quiet_builtin _ (by decide +kernel), codeAny_builtin F.entry_type_call ?_⟩
  rw [Around.under_plain (weight_type_call_type "set" [.str x t0] []) rfl]
  have h1 := F.called_set.notType
  have h2 := F.called_set.canCreate
  have hct := F.typeCall_set_1 (.str x t0)
  repeat (any_goals (first | assumption | wp_step))
  refine codeAny_mono (newT (.str x t0) (E := E) (Q₁ := fun obj s₁ => obj = .ref s.heap.objs.size ∧ s₁ = { s with heap := s.heap.push { cls := .type "set", dict := none, data := .set #[] 0 (.fresh 0 0 (!w.params.followText "set-order")) } }) ⟨rfl, rfl⟩) fun r s₁ hr => ?_
  cases r with
  | error e => exact hr
  | ok fl =>
    cases fl with
    | ret obj =>
      obtain ⟨rfl, rfl⟩ := hr
      have hF := freshT (h := s.heap) w
      generalize eo : ({ cls := .type "set", dict := none, data := .set #[] 0 (.fresh 0 0 (!w.params.followText "set-order")) } : Obj) = ob at hF ⊢
      have hcls : ob.cls = .type "set" := by
        rw [← eo]
      have hS : (s.heap.push ob).get? s.heap.objs.size = some ob := Heap.get?_push_size _ (by rw [← eo] <;> rfl)
      have hT : Shared.TypeIs { s with heap := s.heap.push ob } (.ref s.heap.objs.size) "set" := ⟨_, hS, hcls⟩
      have hli := F.called_set.init.lookup
      have hbi := F.called_set.init.bind (.ref s.heap.objs.size)
      have hS0 := hS
      rw [← eo] at hS hT hF ⊢
      repeat (any_goals (first | assumption | wp_step))
      refine codeAny_mono (codeAny_call_builtin (R := wants (fun r s₂ => r = .none ∧ ∃ h' tk, s₂ = { s with heap := h', toks := tk } ∧ SetT w h' s.heap.objs.size (signsT x) ∧
          (∀ b o, b < s.heap.objs.size → s.heap.get? b = some o → h'.get? b = some o)) E) F.called_set.init.plain F.entry_set_init (check_set_init_1 hT ?_)) fun r₂ s₂ hr₂ => ?_
      · have hsls := sub_str_set
        have hslf := sub_str_frozenset
        have hne : (Value.type "str" == Value.type "dict") = false := by decide
        unfold Builtin.«set.__init__» noKeywords Builtin.Frozenset.updateFrom
        generalize hPI : pyIter = PI
        wp_walk
        subst hPI
        refine wpAny_pyIter_str fun o St W hst => ?_
        refine wpAny_bind (wpAny_runValue ?_)
        have hh3 : A.in1.in1.in1.handled = none := by simp [hh]
        generalize eH : s.heap.push { cls := .type "set", dict := none, data := .set #[] 0 (.fresh 0 0 (!w.params.followText "set-order")) } = H1 at W hst hF ⊢
        have hH1 : H1.objs.size = s.heap.objs.size + 1 := by rw [← eH, Heap.size_push]
        have hSf : s.heap.objs.size ∉ [H1.objs.size] := fun hm => by
          rw [List.mem_singleton.mp hm] at hH1
          exact absurd hH1 (Nat.ne_of_lt (Nat.lt_succ_self _))
        refine loopT (W _ hh3).toS s.heap.objs.size hSf rfl hb (x.cps.size - 0) 0 _ (by omega) (Nat.zero_le _) hst ?hS0 ?hR
        case hS0 => exact hF.at_ fun u e => Heap.get?_push_of_some _ e
        case hR =>
          intro s' hm hS'
          obtain ⟨h', g', d', tk', os'⟩ := s'
          have eg : g' = s.gens := hm.gens
          have ed : d' = s.drawn := hm.drawn
          have eo : os' = s.os := hm.os
          subst eg; subst ed; subst eo
          show wpAny _ _ _ _ _ _
          refine wpAny_pure ?_
          show wpAny _ _ (ret Value.none) _ _ _
          refine wpAny_pure ⟨rfl, h', tk', rfl, hS', fun b o hb e => ?_⟩
          have hb1 : b ≠ s.heap.objs.size := Nat.ne_of_lt hb
          have hb2 : b ≠ H1.objs.size := by
            rw [hH1]
            exact Nat.ne_of_lt (Nat.lt_succ_of_lt hb)
          refine hm.heap b o (by simp only [List.mem_cons, List.mem_singleton, List.not_mem_nil, or_false, not_or]; exact ⟨hb1, hb2⟩) (Heap.get?_push_of_some _ ?_)
          rw [← eH]
          exact Heap.get?_push_of_some _ e
      · cases r₂ with
        | error e => exact hr₂
        | ok fl₂ =>
          cases fl₂ with
          | ret r =>
            obtain ⟨rfl, h', tk, rfl, hS', hk'⟩ := hr₂
            repeat (any_goals (first | assumption | wp_step))
            exact h _ _ hS' hk'
          | _ => exact hr₂.elim
    | _ => exact hr.elim
end
end Ls

namespace Ls
open PySem PySem.Spec PyProof.Rows L2 Lk

section
variable {P : Program} {w : World} {A : Around} {E : Value → Shared → Prop} {s : Shared} {a : Addr} {l : List Str}
theorem sorted_setT {Q : Value → Shared → Prop} (R : SetT w s.heap a l) (hh : A.handled = none) (h64 : l.length < 64)
    (hQ : ∀ s' p (out : Array Value) (c : Nat) (ns : List Str), (∀ b o, s.heap.get? b = some o → s'.heap.get? b = some o) → s'.gens = s.gens → s'.os = s.os → s.heap.objs.size ≤ p →
      s'.heap.get? p = some (seqObj "list" out c) → StrsAre out.toList ns → sortedS ns = true → ns.Nodup → (∀ k, k ∈ ns ↔ k ∈ l) → ns.length ≤ l.length → Q (.ref p) s') :
    wpAny (model P w) A (call (.builtin "sorted") [.ref a]) Q E s := by
  obtain ⟨o, es, ep, t, ho, hex, hd, g, nd, hm, hb, hf, hn, hr, hl⟩ := R
  refine Calls.call_function_entry kind_sorted plain_sorted entry_sorted (args_sorted1 _) ?_
  unfold Builtin.«sorted»
  refine wpAny_bind (m := checkCount "sorted" 1 1 _) (wpAny_pure ?_)
  refine wpAny_bind (collect_set (A := A.in1) hh ⟨o, ho, hex.1, hd⟩ hf hb hr hl fun s1 vs k1 hz g1 o1 pm => ?_)
  have hvl : vs.length = es.size := by rw [pm.length_eq, List.length_map, Array.length_toList]
  have hstr : ∀ v ∈ vs, ∃ k tk, v = Value.str k tk := fun v hv => by
    obtain ⟨e, he, q⟩ := List.mem_map.mp (pm.mem_iff.mp hv)
    obtain ⟨k, tk, h1, _⟩ := g e he
    exact ⟨k, tk, by rw [← q]; exact h1⟩
  have hS : StrsAre vs (vs.map strOf) := strsAre_map vs hstr
  have ek : (es.toList.map (·.2)).map strOf = es.toList.map keyT := by
    rw [List.map_map]
    refine List.map_congr_left fun e he => ?_
    obtain ⟨k, tk, h1, _⟩ := g e he
    show strOf e.2 = keyT e
    unfold keyT
    rw [h1] <;> rfl
  have pk : (vs.map strOf).Perm (es.toList.map keyT) := by
    have q := pm.map strOf
    rw [ek] at q
    exact q
  have h64' : vs.length < 64 := by omega
  refine wpAny_bind (wpAny_newList ?_ (by rw [sizeLine_eq]; omega))
  have hoL : (s1.heap.push (seqObj "list" vs.toArray 0)).get? s1.heap.objs.size = some (seqObj "list" vs.toArray 0) := Heap.get?_push_size _ rfl
  refine wpAny_bind (wpAny_holding (wpAny_call_entry slot_list_sort ⟨_, hoL, rfl⟩ entry_list_sort
    (list_sort_treeK strKind_oneLt hoL hS.keysOf (fun v₁ v₂ rest e => keyKind_strs (by rw [← e]; exact hS)) h64' fun st' hp hs => ⟨_, rfl, ?_⟩) (args_list_sort _)))
  obtain ⟨ns, a1, a2, a3⟩ := sorted_out_str hS hp hs
  obtain ⟨c, hc⟩ := sortedHeap_at (vs := vs) (out := (arrOf st').map (·.2)) hoL
  have pn : ns.Perm (es.toList.map keyT) := a2.trans pk
  refine wpAny_pure ⟨_, rfl, hQ _ s1.heap.objs.size _ c ns (fun b u e => ?_) g1 o1 hz hc a1 a3 (pn.nodup_iff.mpr nd) (fun k => by rw [pn.mem_iff, ← hm k]) ?_⟩
  · have q := k1 b u e
    have hlt := Heap.lt_size q
    show (sortedHeap (s1.heap.push (seqObj "list" vs.toArray 0)) s1.heap.objs.size vs _).get? b = some u
    rw [sortedHeap_old (Nat.ne_of_lt hlt) (by rw [size_push']; exact Nat.lt_succ_of_lt hlt)]
    exact Heap.get?_push_of_some _ q
  · rw [pn.length_eq, List.length_map, Array.length_toList]
    exact hn
end


/-- ascending, each once -/
def ascB (x : Str) : Bool := decide (x.cps.toList.Pairwise (· < ·))
theorem rising_le : ∀ (c : Nat) (cs : List Nat), risingS (one c) (cs.map one) = true → (∀ d ∈ cs, c ≤ d) ∧ cs.Pairwise (· ≤ ·)
  | _, [], _ => ⟨fun d h => (List.not_mem_nil h).elim, List.Pairwise.nil⟩
  | c, d :: cs, h => by
    have h' : (!ltCps [d] [c] && risingS (one d) (cs.map one)) = true := h
    rw [Bool.and_eq_true] at h'
    obtain ⟨h1, h2⟩ := h'
    obtain ⟨a, b⟩ := rising_le d cs h2
    have e : ¬ d < c := fun z => by
      rw [ltCps_eq] at h1
      have q : ([d] : List Nat) < [c] := List.cons_lt_cons_iff.mpr (.inl z)
      rw [decide_eq_true q] at h1
      cases h1
    have e' : c ≤ d := Nat.le_of_not_lt e
    refine ⟨fun k hk => ?_, List.pairwise_cons.mpr ⟨a, b⟩⟩
    rcases List.mem_cons.mp hk with z | z
    · rw [z]
      exact e'
    · exact Nat.le_trans e' (a k z)
theorem sorted_le : ∀ (cs : List Nat), sortedS (cs.map one) = true → cs.Pairwise (· ≤ ·)
  | [], _ => List.Pairwise.nil
  | c :: cs, h => List.pairwise_cons.mpr (rising_le c cs h)
theorem lt_of_le_nodupN : ∀ l : List Nat, l.Pairwise (· ≤ ·) → l.Nodup → l.Pairwise (· < ·)
  | [], _, _ => List.Pairwise.nil
  | x :: l, h, d => by
    obtain ⟨h1, h2⟩ := List.pairwise_cons.mp h
    obtain ⟨d1, d2⟩ := List.nodup_cons.mp d
    refine List.pairwise_cons.mpr ⟨fun y hy => ?_, lt_of_le_nodupN l h2 d2⟩
    have a := h1 y hy
    have b : x ≠ y := fun z => d1 (z ▸ hy)
    omega
theorem eq_of_strict : ∀ (l m : List Nat), l.Pairwise (· < ·) → m.Pairwise (· < ·) → (∀ k, k ∈ l ↔ k ∈ m) → l = m
  | [], [], _, _, _ => rfl
  | [], b :: m, _, _, h => (List.not_mem_nil ((h b).2 List.mem_cons_self)).elim
  | a :: l, [], _, _, h => (List.not_mem_nil ((h a).1 List.mem_cons_self)).elim
  | a :: l, b :: m, h1, h2, h => by
    obtain ⟨p1, p2⟩ := List.pairwise_cons.mp h1
    obtain ⟨q1, q2⟩ := List.pairwise_cons.mp h2
    have e : a = b := by
      have x := (h a).1 List.mem_cons_self
      have y := (h b).2 List.mem_cons_self
      rcases List.mem_cons.mp x with z | z
      · exact z
      · rcases List.mem_cons.mp y with z' | z'
        · exact z'.symm
        · have u := q1 a z
          have v := p1 b z'
          omega
    subst e
    refine congrArg (a :: ·) (eq_of_strict l m p2 q2 fun k => ⟨fun z => ?_, fun z => ?_⟩)
    · rcases List.mem_cons.mp ((h k).1 (List.mem_cons_of_mem _ z)) with q | q
      · exact absurd (p1 k z) (by omega)
      · exact q
    · rcases List.mem_cons.mp ((h k).2 (List.mem_cons_of_mem _ z)) with q | q
      · exact absurd (q1 k z) (by omega)
      · exact q
theorem one_inj {a b : Nat} (h : one a = one b) : a = b := by
  have e : (one a).cps.toList = (one b).cps.toList := congrArg (fun z : Str => z.cps.toList) h
  exact (List.cons.inj e).1
theorem nodup_of_map : ∀ cs : List Nat, (cs.map one).Nodup → cs.Nodup
  | [], _ => List.nodup_nil
  | c :: cs, h => by
    rw [List.map_cons] at h
    obtain ⟨a, b⟩ := List.nodup_cons.mp h
    exact List.nodup_cons.mpr ⟨fun z => a (List.mem_map_of_mem z), nodup_of_map cs b⟩
theorem ones_of {x : Str} : ∀ (ns : List Str), (∀ k ∈ ns, k ∈ signsT x) → ∃ cs : List Nat, ns = cs.map one
  | [], _ => ⟨[], rfl⟩
  | n :: ns, h => by
    obtain ⟨c, _, e⟩ := List.mem_map.mp (h n List.mem_cons_self)
    obtain ⟨cs, e'⟩ := ones_of ns fun k hk => h k (List.mem_cons_of_mem _ hk)
    exact ⟨c :: cs, by rw [List.map_cons, ← e', e]⟩
/-- what sorted of a text's signs tells -/
theorem sorted_signs {x : Str} {ns : List Str} (h1 : sortedS ns = true) (h2 : ns.Nodup) (h3 : ∀ k, k ∈ ns ↔ k ∈ signsT x) :
    ∃ cs : List Nat, ns = cs.map one ∧ (cs = x.cps.toList ↔ ascB x = true) ∧ (∀ c ∈ cs, c ∈ x.cps.toList) := by
  obtain ⟨cs, e⟩ := ones_of (x := x) ns fun k hk => (h3 k).1 hk
  subst e
  have nd : cs.Nodup := nodup_of_map cs h2
  have lt := lt_of_le_nodupN cs (sorted_le cs h1) nd
  have mem : ∀ c ∈ cs, c ∈ x.cps.toList := fun c q => by
    obtain ⟨d, hd, e⟩ := List.mem_map.mp ((h3 (one c)).1 (List.mem_map_of_mem q))
    rw [← one_inj e]
    exact hd
  refine ⟨cs, rfl, ⟨fun z => ?_, fun z => ?_⟩, mem⟩
  · unfold ascB
    rw [← z]
    exact decide_eq_true lt
  · refine eq_of_strict _ _ lt (of_decide_eq_true z) fun k => ⟨fun q => ?_, fun q => ?_⟩
    · obtain ⟨c, hc, e⟩ := List.mem_map.mp ((h3 (one k)).1 (List.mem_map_of_mem q))
      rw [← one_inj e]
      exact hc
    · obtain ⟨c, hc, e⟩ := List.mem_map.mp ((h3 (one k)).2 (List.mem_map_of_mem q))
      rw [← one_inj e]
      exact hc

/-! ### the rules -/
def SetS (w : World) (a : Addr) (l : List Str) : HO := .ext fun h => SetT w h a l
section
variable {X : Cx}
theorem setS_new {w : World} {P : Program} {H : Hp} {h : Heap} {a : Addr} {l : List Str} (R : SetT w h a l) : ObjOk P w H h a (SetS w a l) := by
  have ⟨o, _, _, _, ho, _⟩ := R
  exact ⟨R, ⟨o, ho⟩, fun h1 h2 p k => SetT.at_ p k⟩
theorem setS_get {pins : List (Addr × Obj)} {σ : L2.St} {H : Hp} {s : Shared} {a : Addr} {l : List Str} (I : Inv X pins σ H s) (ha : H a = some (SetS X.w a l)) : SetT X.w s.heap a l := (I.hok a _ ha).1
/-- set(text) -/
def rSetT (w : World) : List V → Hp → VK → Prop := fun xs H Q => ∃ x : Str, xs = [.str x] ∧ x.cps.size < 64 ∧ ∀ p, H p = none → Q (.ref p) (upd H p (SetS w p (signsT x)))
theorem cr_setT (hc : X.calm = true) : CallR X (.type "set") (rSetT X.w) := by
  intro pins s σ H xs us Q I r h
  obtain ⟨x, rfl, hx, q⟩ := h
  obtain ⟨u, rfl, t, rfl⟩ := vals1 r
  refine call_setT (I.ok.hd hc) (by unfold scanBound; omega) fun h' tk S k => ?_
  exact ⟨.ref _, upd H s.heap.objs.size (SetS X.w s.heap.objs.size (signsT x)), I.laid (t' := tk) (fun b u e => k b u (Heap.lt_size e) e) (Nat.le_refl _) (setS_new S), rfl, q _ (I.hok.fresh (Nat.le_refl _))⟩
/-- sorted(set(text)) -/
def rSortedT (w : World) : List V → Hp → VK → Prop := fun vs H Q => ∃ (a : Addr) (x : Str), vs = [V.ref a] ∧ H a = some (SetS w a (signsT x)) ∧ x.cps.size < 64 ∧
  ∀ (cs : List Nat) (p : Addr), (cs = x.cps.toList ↔ ascB x = true) → (∀ c ∈ cs, c ∈ x.cps.toList) → cs.length ≤ x.cps.size → H p = none → Q (.ref p) (upd H p (.lst ((cs.map one).map V.str)))
theorem cr_sortedT (hc : X.calm = true) : CallR X (.builtin "sorted") (rSortedT X.w) := by
  intro pins s σ H vs us Q I r h
  obtain ⟨a, x, rfl, ha, h64, q⟩ := h
  have R := setS_get I ha
  have hsz : (signsT x).length = x.cps.size := by
    unfold signsT
    rw [List.length_map, Array.length_toList]
  rw [Vals.ref1 r]
  refine sorted_setT R (I.ok.hd hc) (by rw [hsz] <;> exact h64) fun s' p out c ns k g o hp hg hi hs hm hl hz => ?_
  obtain ⟨cs, e, iff, mem⟩ := sorted_signs hs hm hl
  subst e
  rw [hsz, List.length_map] at hz
  have hlen : ((cs.map one).map V.str).length ≤ sizeLine := by rw [List.length_map, List.length_map, sizeLine_eq]; omega
  have hn : H p = none := I.hok.fresh hp
  have J : Inv X pins σ (upd H p (.lst ((cs.map one).map V.str))) { s with heap := s'.heap, gens := s'.gens, drawn := s'.drawn, toks := s'.toks } :=
    I.call (ch := []) (Un.laid k hp hn) (I.hok.laid k hp ⟨hlen, out.toList, c, vals_of_strs hi, hg⟩) (by rw [g]; exact I.bare) (fun _ z => nomatch z)
  have e : s' = { s with heap := s'.heap, gens := s'.gens, drawn := s'.drawn, toks := s'.toks } := by
    cases s'
    cases s
    cases o
    rfl
  rw [e]
  exact ⟨.ref p, _, J, rfl, q cs p iff mem hz hn⟩
/-- joining signs tells the text just if they are its signs -/
theorem catS_ones (cs : List Nat) : True := trivial
end
end Ls

/-! What an expander is, told of data. -/
namespace Lk
open PySem PySem.Spec PyProof.Rows L2 G
def Light (d : PyData) : Prop := d.weight ≤ 1048576
theorem light_str {z : Str} (h : Light (.str z)) : z.length ≤ sizeLine := by
  unfold Light PyData.weight at h
  exact Nat.le_trans h (by decide)
theorem weight_mem : ∀ {ds : List PyData} {d : PyData}, d ∈ ds → d.weight ≤ PyData.weightAll ds
  | e :: ds, d, h => by
    have u : PyData.weightAll (e :: ds) = e.weight + 1 + PyData.weightAll ds := by simp only [PyData.weightAll]
    rw [u]
    rcases List.mem_cons.mp h with z | z
    · rw [z]
      omega
    · have := weight_mem z
      omega
theorem light_tup {ds : List PyData} (h : Light (.tuple ds)) : ∀ d ∈ ds, Light d := fun d hd => by
  unfold Light at h ⊢
  have u : PyData.weight (.tuple ds) = PyData.weightAll ds := by simp only [PyData.weight]
  rw [u] at h
  exact Nat.le_trans (weight_mem hd) h
theorem weightAll_len : ∀ ds : List PyData, ds.length ≤ PyData.weightAll ds
  | [] => Nat.zero_le _
  | e :: ds => by
    have u : PyData.weightAll (e :: ds) = e.weight + 1 + PyData.weightAll ds := by simp only [PyData.weightAll]
    have := weightAll_len ds
    rw [u, List.length_cons]
    omega
theorem light_len {ds : List PyData} (h : Light (.tuple ds)) : ds.length ≤ 1048576 := by
  unfold Light at h
  have u : PyData.weight (.tuple ds) = PyData.weightAll ds := by simp only [PyData.weight]
  rw [u] at h
  exact Nat.le_trans (weightAll_len ds) h
/-- a word of so many signs at most -/
def shortB (s : Str) : PyData → Bool
  | .str z => allIn s z && decide (z.length ≤ 2000)
  | _ => false
def countB (n : Int) : PyData → Bool
  | .int i => decide (0 ≤ i) && decide (i < n)
  | _ => false
def isNone : PyData → Bool
  | .none => true
  | _ => false
def moveB (s : Str) (n : Int) : PyData → Bool
  | .tuple [a, b, c] => shortB s a && (shortB s b && countB n c)
  | _ => false
def stateB (s : Str) (n : Int) : PyData → Bool
  | .tuple [.tuple ms, last] => decide (ms.length = s.length) && ((isNone last || shortB s last) && ms.all fun m => isNone m || moveB s n m)
  | _ => false
def statesB (s : Str) : PyData → Bool
  | .tuple ss => (decide (1 ≤ ss.length) && decide (ss.length ≤ 60)) && ss.all (stateB s (ss.length : Nat))
  | _ => false
def signsB : PyData → Bool
  | .str z => allIn "abcdefghijklmnopqrstuvwxyz" z && ((decide (1 ≤ z.length) && decide (z.length ≤ 4)) && Ls.ascB z)
  | _ => false
def expB : PyData → Bool
  | .tuple [.str s, f, t] => signsB (.str s) && (shortB s f && statesB s t)
  | _ => false
theorem dq_tup {K : PySem.W.Frag} {H : Hp} {v : V} {d : PyData} (h : Dq K H v d) (e : isTup d = true) : ∃ a xs ds, v = .ref a ∧ d = .tuple ds ∧ SqT K H a xs ∧ DqAll K H xs ds := by
  cases h with
  | tup h1 h2 => exact ⟨_, _, _, rfl, rfl, h1, h2⟩
  | _ => cases e
theorem dq_str {K : PySem.W.Frag} {H : Hp} {v : V} {d : PyData} (h : Dq K H v d) (e : isStr d = true) : ∃ z, v = .str z ∧ d = .str z := by
  cases h with
  | str z => exact ⟨z, rfl, rfl⟩
  | _ => cases e
end Lk
namespace Lk
open PySem PySem.Spec PyProof.Rows L2 G
theorem moveB_tup {s : Str} {n : Int} {d : PyData} (e : isTup d = false) : moveB s n d = false := by
  cases d with
  | tuple _ => cases e
  | _ => rfl
theorem moveB_len {s : Str} {n : Int} {ds : List PyData} (e : ds.length ≠ 3) : moveB s n (.tuple ds) = false := by
  unfold moveB
  split
  · rename_i q
    injection q with q
    rw [q] at e
    exact absurd rfl e
  · rfl
theorem ne_int (a b : Int) : (!decide (V.int a = V.int b)) = !decide (a = b) := by
  congr 1
  exact decide_eq_decide.mpr ⟨fun z => V.int.inj z, fun z => congrArg V.int z⟩
theorem DqAll.three {K : PySem.W.Frag} {H : Hp} {xs : List V} {ds : List PyData} (h : DqAll K H xs ds) (e : xs.length = 3) :
    ∃ x y z d1 d2 d3, xs = [x, y, z] ∧ ds = [d1, d2, d3] ∧ Dq K H x d1 ∧ Dq K H y d2 ∧ Dq K H z d3 := by
  cases h with
  | nil => cases e
  | cons h1 t =>
    cases t with
    | nil => cases e
    | cons h2 t =>
      cases t with
      | nil => cases e
      | cons h3 t =>
        cases t with
        | nil => exact ⟨_, _, _, _, _, _, rfl, rfl, h1, h2, h3⟩
        | cons _ t => simp at e
theorem DqAll.two {K : PySem.W.Frag} {H : Hp} {xs : List V} {ds : List PyData} (h : DqAll K H xs ds) (e : xs.length = 2) :
    ∃ x y d1 d2, xs = [x, y] ∧ ds = [d1, d2] ∧ Dq K H x d1 ∧ Dq K H y d2 := by
  cases h with
  | nil => cases e
  | cons h1 t =>
    cases t with
    | nil => cases e
    | cons h2 t =>
      cases t with
      | nil => exact ⟨_, _, _, _, rfl, rfl, h1, h2⟩
      | cons _ t => simp at e
end Lk
namespace Lk
open PySem PySem.Spec PyProof.Rows L2 G
section
variable {K : PySem.W.Frag} {a D : Addr} {xs : List V} {ds : List PyData} {g : TG} {tt : TT} {te : TE} {vs : List Nat} {σ : L2.St} {H : Hp} {Qd : Hp → Prop}
theorem dqAll_get' {H : Hp} {i : Nat} {x : V} (hA : DqAll K H xs ds) (h : xs[i]? = some x) : ∃ d, ds[i]? = some d ∧ d ∈ ds ∧ ds.take (i + 1) = ds.take i ++ [d] ∧ Dq K H x d := by
  obtain ⟨d, e, q⟩ := hA.get h
  refine ⟨d, e, List.mem_of_getElem? e, ?_, q⟩
  rw [List.take_add_one, e]
  exact rfl
/-- what is told of each item of a tuple of data, in a list -/
theorem lc_bools (f : PyData → Bool) (hT : SqT K H a xs) (hA : DqAll K H xs ds) (nD : H D = none) (hlen : xs.length ≤ 1048576)
    (hs : ∀ x d H' (Nxt : V → Hp → Prop) (Els : Hp → Prop), Same H H' → Dq K H' x d → d ∈ ds → (∀ H4, Same H' H4 → Nxt (.bl (f d)) H4) →
      g x (wipe σ vs) H' fun σ2 H2 => wipe σ2 vs = wipe σ vs ∧ tt σ2 H2 fun b H3 => if b = true then te σ2 H3 Nxt else Els H3)
    (hd : ∀ H', Same H H' → H' D = some (.lst ((ds.map f).map V.bl)) → Qd H') :
    ∃ W : Nat → Nat → Hp → Prop, (∃ m, W 0 m (upd H D (.lst []))) ∧ ∀ i m H, W i m H →
      ((Itt K a).stop i H ∧ Qd H) ∨ ((Itt K a).go i H ∧ ∃ Nx : Hp → Prop, (∀ H', Nx H' → ∃ m', m' < m ∧ W (i + 1) m' H') ∧ ∀ x H', (Itt K a).yld i H x H' → g x (wipe σ vs) H' fun σ2 H2 => wipe σ2 vs = wipe σ vs ∧ tt σ2 H2 fun b H3 =>
        if b = true then te σ2 H3 fun y H4 => ∃ acc, H4 D = some (.lst acc) ∧ acc.length < sizeLine ∧ Nx (upd H4 D (.lst (acc ++ [y]))) else Nx H3) := by
  refine lc_tup (xs := xs) (fun i H' => Same H H' ∧ H' D = some (.lst (((ds.take i).map f).map V.bl))) ⟨same_new nD, upd_same⟩ (fun _ _ _ p => seqT p.1 hT) ?_ ?_
  · rintro i x H1 hx ⟨s1, hD⟩
    obtain ⟨d, e, m, t, q⟩ := dqAll_get' hA hx
    have hi : i < xs.length := (List.getElem?_eq_some_iff.mp hx).1
    refine hs x d H1 _ _ s1 (q.mono s1) m fun H4 s4 => ⟨_, s4 _ _ hD, ?_, fun b o eo => (upd_ne (ne_of_none eo nD)).trans (s4 _ _ (s1 b o eo)), ?_⟩
    · rw [List.length_map, List.length_map, List.length_take]
      refine Nat.lt_of_le_of_lt (Nat.min_le_left _ _) ?_
      exact Nat.lt_of_lt_of_le hi (Nat.le_trans hlen (by decide))
    · rw [upd_same, t, List.map_append, List.map_append]
      rfl
  · rintro H1 ⟨s1, hD⟩
    refine hd H1 s1 ?_
    rw [hD, List.take_of_length_le (Nat.le_of_eq hA.length.symm)]
/-- a one for each item of a tuple of data of which it is not told -/
def onesOf (f : PyData → Bool) (ds : List PyData) : List Int := (ds.filter fun d => !f d).map fun _ => 1
theorem onesOf_nil (f : PyData → Bool) (ds : List PyData) : decide (onesOf f ds = []) = ds.all f := by
  unfold onesOf
  rw [Bool.eq_iff_iff, decide_eq_true_eq, List.map_eq_nil_iff, List.filter_eq_nil_iff, List.all_eq_true]
  simp
theorem lc_ones (f : PyData → Bool) (hT : SqT K H a xs) (hA : DqAll K H xs ds) (nD : H D = none) (hlen : xs.length ≤ 1048576)
    (hs : ∀ x d H' (Nxt : V → Hp → Prop) (Els : Hp → Prop), Same H H' → Dq K H' x d → d ∈ ds → (f d = false → ∀ H4, Same H' H4 → Nxt (.int 1) H4) → (f d = true → ∀ H4, Same H' H4 → Els H4) →
      g x (wipe σ vs) H' fun σ2 H2 => wipe σ2 vs = wipe σ vs ∧ tt σ2 H2 fun b H3 => if b = true then te σ2 H3 Nxt else Els H3)
    (hd : ∀ H', Same H H' → H' D = some (.lst ((onesOf f ds).map V.int)) → Qd H') :
    ∃ W : Nat → Nat → Hp → Prop, (∃ m, W 0 m (upd H D (.lst []))) ∧ ∀ i m H, W i m H →
      ((Itt K a).stop i H ∧ Qd H) ∨ ((Itt K a).go i H ∧ ∃ Nx : Hp → Prop, (∀ H', Nx H' → ∃ m', m' < m ∧ W (i + 1) m' H') ∧ ∀ x H', (Itt K a).yld i H x H' → g x (wipe σ vs) H' fun σ2 H2 => wipe σ2 vs = wipe σ vs ∧ tt σ2 H2 fun b H3 =>
        if b = true then te σ2 H3 fun y H4 => ∃ acc, H4 D = some (.lst acc) ∧ acc.length < sizeLine ∧ Nx (upd H4 D (.lst (acc ++ [y]))) else Nx H3) := by
  refine lc_tup (xs := xs) (fun i H' => Same H H' ∧ H' D = some (.lst ((onesOf f (ds.take i)).map V.int))) ⟨same_new nD, upd_same⟩ (fun _ _ _ p => seqT p.1 hT) ?_ ?_
  · rintro i x H1 hx ⟨s1, hD⟩
    obtain ⟨d, e, m, t, q⟩ := dqAll_get' hA hx
    have hi : i < xs.length := (List.getElem?_eq_some_iff.mp hx).1
    refine hs x d H1 _ _ s1 (q.mono s1) m (fun ef H4 s4 => ⟨_, s4 _ _ hD, ?_, fun b o eo => (upd_ne (ne_of_none eo nD)).trans (s4 _ _ (s1 b o eo)), ?_⟩) (fun ef H4 s4 => ⟨Same.trans s1 s4, ?_⟩)
    · unfold onesOf
      rw [List.length_map, List.length_map]
      refine Nat.lt_of_le_of_lt (List.length_filter_le _ _) ?_
      rw [List.length_take]
      refine Nat.lt_of_le_of_lt (Nat.min_le_left _ _) ?_
      exact Nat.lt_of_lt_of_le hi (Nat.le_trans hlen (by decide))
    · rw [upd_same, t]
      unfold onesOf
      rw [List.filter_append, List.filter_cons_of_pos (by rw [ef] <;> rfl), List.filter_nil, List.map_append, List.map_append]
      rfl
    · rw [s4 _ _ hD, t]
      unfold onesOf
      rw [List.filter_append, List.filter_cons_of_neg (by rw [ef]; decide), List.filter_nil, List.append_nil]
  · rintro H1 ⟨s1, hD⟩
    refine hd H1 s1 ?_
    rw [hD, List.take_of_length_le (Nat.le_of_eq hA.length.symm)]
end
section
variable {D : Addr} {z s : Str} {g : TG} {tt : TT} {te : TE} {vs : List Nat} {σ : L2.St} {H : Hp} {Qd : Hp → Prop}
/-- a one for each sign of a text that is not among some -/
theorem lc_strange (nD : H D = none) (hlen : z.length ≤ 1048576)
    (hs : ∀ c H' (Nxt : V → Hp → Prop) (Els : Hp → Prop), Same H H' → (decide (c ∈ s.cps.toList) = false → Nxt (.int 1) H') → (decide (c ∈ s.cps.toList) = true → Els H') →
      g (.str ⟨#[c]⟩) (wipe σ vs) H' fun σ2 H2 => wipe σ2 vs = wipe σ vs ∧ tt σ2 H2 fun b H3 => if b = true then te σ2 H3 Nxt else Els H3)
    (hd : ∀ H', Same H H' → H' D = some (.lst (((strange s z.cps.toList).map fun _ => (1 : Int)).map V.int)) → Qd H') :
    ∃ W : Nat → Nat → Hp → Prop, (∃ m, W 0 m (upd H D (.lst []))) ∧ ∀ i m H, W i m H →
      ((Its z).stop i H ∧ Qd H) ∨ ((Its z).go i H ∧ ∃ Nx : Hp → Prop, (∀ H', Nx H' → ∃ m', m' < m ∧ W (i + 1) m' H') ∧ ∀ x H', (Its z).yld i H x H' → g x (wipe σ vs) H' fun σ2 H2 => wipe σ2 vs = wipe σ vs ∧ tt σ2 H2 fun b H3 =>
        if b = true then te σ2 H3 fun y H4 => ∃ acc, H4 D = some (.lst acc) ∧ acc.length < sizeLine ∧ Nx (upd H4 D (.lst (acc ++ [y]))) else Nx H3) := by
  have el : z.cps.toList.length = z.length := by simp [Str.length]
  refine lc_it walk_str (fun j H' => Same H H' ∧ H' D = some (.lst (((strange s (z.cps.toList.take j)).map fun _ => (1 : Int)).map V.int))) ⟨same_new nD, upd_same⟩ (fun _ _ _ _ => trivial) ?_ ?_
  · rintro j v H1 H2 hj ⟨s1, hD⟩ ⟨rfl, cc, hcc, rfl⟩
    have et : z.cps.toList.take (j + 1) = z.cps.toList.take j ++ [cc] := by
      rw [List.take_add_one]
      have : z.cps.toList[j]? = some cc := by simpa using hcc
      rw [this]
      rfl
    refine hs cc H2 _ _ s1 (fun e => ⟨_, hD, ?_, fun b o e => (upd_ne (ne_of_none e nD)).trans (s1 b o e), ?_⟩) (fun e => ⟨s1, ?_⟩)
    · rw [List.length_map, List.length_map]
      refine Nat.lt_of_le_of_lt (List.length_filter_le _ _) ?_
      rw [List.length_take, el]
      exact Nat.lt_of_le_of_lt (Nat.min_le_right _ _) (Nat.lt_of_le_of_lt hlen (by decide))
    · rw [upd_same, et, strange_out _ (of_decide_eq_false e), List.map_append, List.map_append]
      rfl
    · rw [et, strange_in _ (of_decide_eq_true e)]
      exact hD
  · rintro H1 ⟨s1, hD⟩
    refine hd H1 s1 ?_
    rw [List.take_of_length_le (by rw [el]; exact Nat.le_refl _)] at hD
    exact hD
theorem strange_ones (s z : Str) : decide (((strange s z.cps.toList).map fun _ => (1 : Int)) = []) = allIn s z := by
  have h := strange_nil s z
  rw [Bool.eq_iff_iff, decide_eq_true_eq, List.map_eq_nil_iff]
  exact h
end
/-- not a tuple, or not of so many items -/
theorem stateB_tup {s : Str} {n : Int} {d : PyData} (e : isTup d = false) : stateB s n d = false := by
  cases d with
  | tuple _ => cases e
  | _ => rfl
theorem stateB_len {s : Str} {n : Int} {ds : List PyData} (e : ds.length ≠ 2) : stateB s n (.tuple ds) = false := by
  unfold stateB
  split
  · rename_i q
    injection q with q
    rw [q] at e
    exact absurd rfl e
  · rfl
theorem stateB_first {s : Str} {n : Int} {d e : PyData} (h : isTup d = false) : stateB s n (.tuple [d, e]) = false := by
  cases d with
  | tuple _ => cases h
  | _ => rfl
theorem statesB_tup {s : Str} {d : PyData} (e : isTup d = false) : statesB s d = false := by
  cases d with
  | tuple _ => cases e
  | _ => rfl
theorem expB_tup {d : PyData} (e : isTup d = false) : expB d = false := by
  cases d with
  | tuple _ => cases e
  | _ => rfl
theorem expB_len {ds : List PyData} (e : ds.length ≠ 3) : expB (.tuple ds) = false := by
  unfold expB
  split
  · rename_i q
    injection q with q
    rw [q] at e
    exact absurd rfl e
  · rfl
theorem expB_first {d e f : PyData} (h : isStr d = false) : expB (.tuple [d, e, f]) = false := by
  cases d with
  | str _ => cases h
  | _ => rfl
theorem isNone_non {K : PySem.W.Frag} {H : Hp} {v : V} {d : PyData} (h : Dq K H v d) : decide (v = .non) = isNone d := by
  cases h <;> first | rfl | exact decide_eq_false (fun z => by cases z)
end Lk
namespace Lk
theorem two_ways {c : Bool} {A R : Prop} (r : R) (h : c = true → R → A) : if c = true then A else R := by
  cases e : c with
  | true => exact h e r
  | false => exact r
theorem tt_and (b : Bool) : (true && b) = b := rfl
theorem ff_and (b : Bool) : (false && b) = false := rfl
theorem tt_or (b : Bool) : (true || b) = true := rfl
theorem ff_or (b : Bool) : (false || b) = b := rfl
end Lk
namespace Lk
open PySem PySem.Spec PyProof.Rows L2 G
theorem canLay_one {c : Nat} (h : c < 1000) : PyData.canLay0 (.str (Ls.one c)) = true := by
  unfold PyData.canLay0
  show (#[c] : Array Nat).all (· < 0x110000) = true
  simp
  omega
theorem eqvAll_strs : ∀ l m : List Str, PyData.eqvAll (l.map PyData.str) (m.map PyData.str) = decide (l = m)
  | [], [] => by simp [PyData.eqvAll]
  | [], b :: m => by simp [PyData.eqvAll]
  | a :: l, [] => by simp [PyData.eqvAll]
  | a :: l, b :: m => by
    have ih := eqvAll_strs l m
    rw [List.map_cons, List.map_cons]
    simp only [PyData.eqvAll, PyData.eqv]
    rw [ih, Bool.eq_iff_iff]
    simp
theorem eqv_strs (l m : List Str) : PyData.eqv (.list (l.map PyData.str)) (.list (m.map PyData.str)) = decide (l = m) := by
  simp only [PyData.eqv]
  exact eqvAll_strs l m
theorem dq_strs {K : PySem.W.Frag} {H : Hp} : ∀ ns : List Str, DpAll K H (ns.map V.str) (ns.map PyData.str)
  | [] => .nil
  | n :: ns => .cons (.str n) (dq_strs ns)
theorem shaped_ones (ns : List Nat) (h : ∀ c ∈ ns, c < 1000) : SeqAt.shaped (.list ((ns.map Ls.one).map PyData.str)) = true := by
  have h1 : ∀ l : List Nat, (∀ c ∈ l, c < 1000) → PyData.canLayAll0 ((l.map Ls.one).map PyData.str) = true := fun l => by
    induction l with
    | nil =>
      intro _
      rfl
    | cons n r ih =>
      intro h
      rw [List.map_cons, List.map_cons]
      unfold PyData.canLayAll0
      rw [ih fun c hc => h c (List.mem_cons_of_mem _ hc), Bool.and_true]
      have hn := h n (List.mem_cons_self ..)
      exact canLay_one hn
  have h2 : ∀ l : List Str, PyData.depthAll (l.map PyData.str) = 0 := fun l => by
    induction l with
    | nil => rfl
    | cons n r ih =>
      rw [List.map_cons]
      unfold PyData.depthAll
      rw [ih]
      rfl
  unfold SeqAt.shaped
  rw [Bool.and_eq_true]
  constructor
  · unfold PyData.canLay0
    exact h1 ns h
  · unfold PyData.depth
    rw [h2]
    exact rfl
theorem sg_ones (z : Str) : sg z = (z.cps.toList.map Ls.one).map V.str := by
  unfold sg
  rw [List.map_map]
  rfl
theorem ones_eq {l m : List Nat} : l.map Ls.one = m.map Ls.one ↔ l = m := by
  constructor
  · intro h
    induction l generalizing m with
    | nil =>
      cases m with
      | nil => rfl
      | cons b m => cases h
    | cons a l ih =>
      cases m with
      | nil => cases h
      | cons b m =>
        rw [List.map_cons, List.map_cons] at h
        obtain ⟨h1, h2⟩ := List.cons.inj h
        rw [Ls.one_inj h1, ih h2]
  · intro h
    rw [h]
theorem asc_eq {x : Str} {cs : List Nat} (h : cs = x.cps.toList ↔ Ls.ascB x = true) : decide (x.cps.toList.map Ls.one = cs.map Ls.one) = Ls.ascB x := by
  rw [Bool.eq_iff_iff, decide_eq_true_eq, ones_eq, ← h]
  exact eq_comm
theorem asc_join {x : Str} {cs : List Nat} (h : cs = x.cps.toList ↔ Ls.ascB x = true) : (!decide (V.str (Txt.join (tx []) (cs.map Ls.one)) = V.str x)) = !Ls.ascB x := by
  congr 1
  rw [join_empty]
  have e : catS (cs.map Ls.one) = cs := catS_ones cs
  rw [e, Bool.eq_iff_iff, decide_eq_true_eq, ← h]
  constructor
  · intro z
    rw [← V.str.inj z]
  · intro z
    rw [z]
end Lk
namespace Lk
open PySem
theorem small_letters {z : Str} (h : allIn "abcdefghijklmnopqrstuvwxyz" z = true) : ∀ c ∈ z.cps.toList, c < 1000 := by
  intro c hc
  unfold allIn at h
  have q := List.contains_iff_mem.mp (List.all_eq_true.mp h c hc)
  have all : ∀ d ∈ ("abcdefghijklmnopqrstuvwxyz" : Str).cps.toList, d < 1000 := by decide +kernel
  exact all c q
end Lk
namespace Lk
open PySem PySem.Spec PyProof.Rows L2 G
def rLenSeq (K : PySem.W.Frag) : List V → Hp → VK → Prop := fun xs H Q => ∃ p ys, xs = [.ref p] ∧ (SqL K H p ys ∨ SqT K H p ys) ∧ Q (.int ys.length) H
end Lk
namespace Lk
open PySem
theorem signs_four {s : Str} (h : signsB (.str s) = true) : s.length ≤ 4 := by
  have h : (allIn "abcdefghijklmnopqrstuvwxyz" s && ((decide (1 ≤ s.length) && decide (s.length ≤ 4)) && Ls.ascB s)) = true := h
  simp only [Bool.and_eq_true, decide_eq_true_eq] at h
  exact h.2.1.2
end Lk
namespace Lk
open PySem PySem.Spec PyProof.Rows L2 G
theorem two_waysH {H : Hp} {c : Bool} {A : Prop} {R : Hp → Prop} (r : ∀ H0, Same H H0 → R H0) (h : c = true → (∀ H0, Same H H0 → R H0) → A) : if c = true then A else R H := by
  cases e : c with
  | true => exact h e r
  | false => exact r H (Same.refl H)
end Lk

/-! A dict with pairs as keys against the empty one. -/
namespace Lk
open PySem PySem.Spec PyProof.Rows L2
section
variable {P : Program} {w : World} {K : Type} [DecidableEq K] {knd : HeapKind P w K} {A : Around} {E : Value → Shared → Prop} {s : Shared}
theorem same_pairs0 {nm : String} {a b : Addr} {ka kb : List (K × Addr × Value)} {Q : Bool → Shared → Prop} (ha : (a == sysModules) = false) (hb : (b == sysModules) = false)
    (da : s.heap.DictOfH knd a ka) (db : s.heap.DictOfH knd b kb) (h0 : kb = []) (h : Q ka.isEmpty s) : wpAny (model P w) A (Builtin.Dict.samePairs nm a b) Q E s := by
  obtain ⟨oa, es, ep, hoa, _, hda, hea, _⟩ := da
  obtain ⟨ob, es', ep', hob, _, hdb, heb, _⟩ := db
  have hla : es.size = ka.length := size_of_entries hea
  have hlb : es'.size = 0 := by rw [size_of_entries heb, h0]; rfl
  unfold Builtin.Dict.samePairs Builtin.Dict.showsAll
  rw [if_neg (show ¬ (a == sysModules) = true by rw [ha]; exact Bool.false_ne_true), if_neg (show ¬ (b == sysModules) = true by rw [hb]; exact Bool.false_ne_true)]
  refine wpAny_bind (wpAny_pure (wpAny_bind (wpAny_pure ?_)))
  refine wpAny_bind (wpAny_dictEntries hoa hda ?_)
  dsimp only
  refine wpAny_bind (wpAny_dictEntries hob hdb ?_)
  by_cases hsz : es.size = es'.size
  case neg =>
    rw [if_pos (by simpa using hsz)]
    have e : ka.isEmpty = false := by
      cases ka with
      | nil => exact absurd (hla.trans hlb.symm) hsz
      | cons _ _ => rfl
    rw [e] at h
    exact wpAny_bind (wpAny_rule (wpAny_pure h))
  case pos =>
    have e : ka.isEmpty = true := by
      cases ka with
      | nil => rfl
      | cons x r =>
        rw [hsz, hlb] at hla
        cases hla
    rw [e] at h
    rw [if_neg (by rw [hsz]; simp)]
    refine wpAny_bind (wpAny_dictEpoch hoa hda ?_)
    refine wpAny_bind ?_
    rw [Std.Legacy.Range.forIn_eq_forIn_range']
    simp only [Std.Legacy.Range.size, Nat.sub_zero, Nat.add_sub_cancel, Nat.div_one]
    have e0 : es.size = 0 := hsz.trans hlb
    rw [e0]
    simp only [List.range'_zero, List.forIn_nil]
    exact wpAny_pure (wpAny_pure h)
theorem ne_pairs0 {a b : Addr} {ka kb : List (K × Addr × Value)} {Q : Value → Shared → Prop} (ha : (a == sysModules) = false) (hb : (b == sysModules) = false)
    (da : s.heap.DictOfH knd a ka) (db : s.heap.DictOfH knd b kb) (h0 : kb = []) (hu : A.units < cLine) (h : Q (.bool (!ka.isEmpty)) s) :
    wpAny (model P w) A (compareOp .NotEq (.ref a) (.ref b)) Q E s := by
  refine wpAny_richCompare_same_room (op := .NotEq) da.typeIs db.typeIs PySem.F.slot_dict_ne (wpAny_call_entry PySem.F.slot_dict_ne da.typeIs PySem.F.entry_dict_ne ?_ (PySem.F.args_dict_ne_2 _ _)) hu
  show wpAny _ _ (Builtin.Dict.dictSlotArgs "__ne__" ⟨[.ref a, .ref b], []⟩ >>= _) _ _ s
  refine wpAny_bind ?_
  unfold Builtin.Dict.dictSlotArgs
  refine wpAny_bind (PySem.wpAny_notOrdered_dict da.typeIs ?_)
  show wpAny _ _ (pure (Value.ref a, Value.ref b)) _ _ s
  refine wpAny_pure ?_
  refine wpAny_bind (wpAny_isInstance (T := "dict") db.typeIs PySem.F.sub_dict_dict ?_)
  simp only [Bool.not_true, Bool.false_eq_true, if_false]
  refine wpAny_bind (wpAny_pure (wpAny_bind (wpAny_pure ?_)))
  refine wpAny_bind (same_pairs0 ha hb da db h0 ?_)
  refine wpAny_pure ⟨_, rfl, ?_, ?_⟩
  · exact fun x => nomatch x
  · simpa using h
end
section
variable {X : Cx}
def rNeT0 : R2 := fun x y H Q => ∃ a b kvs, x = .ref a ∧ y = .ref b ∧ H a = some (.dT kvs) ∧ H b = some (.dT []) ∧ Q (.bl (!kvs.isEmpty)) H
theorem op_neT0 (hu : X.A.units < cLine) : OpR X (compareOp .NotEq) rNeT0 := by
  intro pins s σ H x y v u Q I rx ry h
  obtain ⟨a, b, kvs, rfl, rfl, ea, eb, q⟩ := h
  obtain rfl : v = Value.ref a := rx
  obtain rfl : u = Value.ref b := ry
  obtain ⟨_, ya, va, ra, da⟩ := dt_of I.hok ea
  obtain ⟨_, yb, vb, rb, db⟩ := dt_of I.hok eb
  have e0 : vb = [] := by
    cases rb
    rfl
  have e1 : va.isEmpty = kvs.isEmpty := by cases ra <;> rfl
  refine ne_pairs0 ya yb da db e0 hu ?_
  rw [e1]
  exact ⟨.bl (!kvs.isEmpty), H, I, rfl, q⟩
end
end Lk

/-! Drawn expanders, told of data; calls and sizes. -/
namespace Lk
open PySem PySem.Spec PyProof.Rows L2 G
/-- a text of so many signs of z at most -/
def WordOf (z w : Str) (n : Nat) : Prop := w.length ≤ n ∧ ∀ c ∈ w.cps.toList, c ∈ z.cps.toList
def MoveD (z : Str) (n : Nat) (d : PyData) : Prop := d = .none ∨ ∃ (a b : Str) (g : Nat), d = .tuple [.str a, .str b, .int (g : Int)] ∧ WordOf z a 3 ∧ WordOf z b 3 ∧ g < n
def StateD (z : Str) (n : Nat) (d : PyData) : Prop := ∃ (ms : List PyData) (l : PyData), d = .tuple [.tuple ms, l] ∧ ms.length = z.length ∧ (∀ m ∈ ms, MoveD z n m) ∧ (l = .none ∨ ∃ w, l = .str w ∧ WordOf z w 3)
/-- signs: one to four letters, ascending -/
def SignsP (z : Str) : Prop := signsB (.str z) = true
/-- as they are drawn: no y among them -/
def SignsD (z : Str) : Prop := SignsP z ∧ 121 ∉ z.cps.toList
def ExpD (d : PyData) : Prop := ∃ (z f : Str) (ss : List PyData), d = .tuple [.str z, .str f, .tuple ss] ∧ SignsD z ∧ WordOf z f 3 ∧ 1 ≤ ss.length ∧ ss.length ≤ 4 ∧ ∀ s ∈ ss, StateD z ss.length s
theorem SignsP.small {z : Str} (h : SignsP z) : 1 ≤ z.length ∧ z.length ≤ 4 ∧ ∀ c ∈ z.cps.toList, c < 1000 := by
  have h : (allIn "abcdefghijklmnopqrstuvwxyz" z && ((decide (1 ≤ z.length) && decide (z.length ≤ 4)) && Ls.ascB z)) = true := h
  rw [Bool.and_eq_true, Bool.and_eq_true, Bool.and_eq_true, decide_eq_true_eq, decide_eq_true_eq] at h
  exact ⟨h.2.1.1, h.2.1.2, small_letters h.1⟩
theorem SignsD.small {z : Str} (h : SignsD z) : 1 ≤ z.length ∧ z.length ≤ 4 ∧ ∀ c ∈ z.cps.toList, c < 1000 := h.1.small
/-- items of a tuple of data -/
theorem Dq.items {K : PySem.W.Frag} {H : Hp} {v : V} {ds : List PyData} (h : Dq K H v (.tuple ds)) : ∃ a xs, v = .ref a ∧ SqT K H a xs ∧ DqAll K H xs ds := by
  cases h with
  | tup h1 h2 => exact ⟨_, _, rfl, h1, h2⟩
theorem DqAll.one {K : PySem.W.Frag} {H : Hp} {xs : List V} {d : PyData} {ds : List PyData} (h : DqAll K H xs (d :: ds)) : ∃ x ys, xs = x :: ys ∧ Dq K H x d ∧ DqAll K H ys ds := by
  cases h with
  | cons h1 h2 => exact ⟨_, _, rfl, h1, h2⟩
theorem DqAll.none {K : PySem.W.Frag} {H : Hp} {xs : List V} (h : DqAll K H xs []) : xs = [] := by
  cases h
  rfl
theorem Dq.strV {K : PySem.W.Frag} {H : Hp} {v : V} {z : Str} (h : Dq K H v (.str z)) : v = .str z := by
  cases h
  rfl
theorem Dq.intV {K : PySem.W.Frag} {H : Hp} {v : V} {i : Int} (h : Dq K H v (.int i)) : v = .int i := by
  cases h
  rfl
theorem Dq.noneV {K : PySem.W.Frag} {H : Hp} {v : V} (h : Dq K H v .none) : v = .non := by
  cases h
  rfl
/-- a call: a new pair of a state and a sign -/
def CallV (z : Str) (n : Nat) (H : Hp) (x : V) : Prop := ∃ (p : Addr) (i c : Nat), x = .ref p ∧ H p = some (.tup [.int (i : Int), .str (Ls.one c)]) ∧ i < n ∧ c ∈ z.cps.toList
theorem CallV.mono {z : Str} {n : Nat} {H H' : Hp} {x : V} (h : CallV z n H x) (s : Same H H') : CallV z n H' x := by
  obtain ⟨p, i, c, e, t, r⟩ := h
  exact ⟨p, i, c, e, s _ _ t, r⟩
def CallsL (z : Str) (n : Nat) (H : Hp) (l : Addr) (k : Nat) : Prop := ∃ xs, H l = some (.lst xs) ∧ xs.length ≤ k ∧ ∀ x ∈ xs, CallV z n H x
theorem CallsL.mono {z : Str} {n k : Nat} {H H' : Hp} {l : Addr} (h : CallsL z n H l k) (s : Same H H') : CallsL z n H' l k := by
  obtain ⟨xs, e, hl, q⟩ := h
  exact ⟨xs, s _ _ e, hl, fun x hx => (q x hx).mono s⟩
/-- an expander as it lies -/
structure ExpV (K : PySem.W.Frag) (H : Hp) (v : V) (z f : Str) (ss : List PyData) : Prop where
  it : ∃ a y t xs, v = .ref a ∧ SqT K H a [.str z, .str f, .ref t] ∧ y = V.ref t ∧ SqT K H t xs ∧ DqAll K H xs ss
theorem expV_of {K : PySem.W.Frag} {H : Hp} {v : V} {z f : Str} {ss : List PyData} (h : Dq K H v (.tuple [.str z, .str f, .tuple ss])) :
    ∃ a t xs, v = .ref a ∧ SqT K H a [.str z, .str f, .ref t] ∧ SqT K H t xs ∧ DqAll K H xs ss := by
  obtain ⟨a, xs, rfl, h1, h2⟩ := h.items
  obtain ⟨x, ys, rfl, hx, h2⟩ := h2.one
  obtain ⟨y, ys, rfl, hy, h2⟩ := h2.one
  obtain ⟨u, ys, rfl, hu, h2⟩ := h2.one
  obtain rfl := h2.none
  obtain rfl := hx.strV
  obtain rfl := hy.strV
  obtain ⟨t, zs, rfl, h3, h4⟩ := hu.items
  exact ⟨a, t, zs, rfl, h1, h3, h4⟩
end Lk
namespace Lk
open PySem PySem.Spec PyProof.Rows L2 G
theorem unit1 {n : Nat} (h : n + 64 < cLine) : n + 1 < cLine := Nat.lt_of_le_of_lt (by omega) h
/-- the place of a sign of z -/
theorem place_of {z : Str} {c : Nat} (h : c ∈ z.cps.toList) : ∃ i rest, Builtin.Str.occurrences z (Ls.one c) 0 z.length 1 = i :: rest ∧ i < z.length := by
  have e := PySem.StrLaws.found_one z c
  rw [decide_eq_true h] at e
  cases q : Builtin.Str.occurrences z (Ls.one c) 0 z.length 1 with
  | nil =>
    have e' : (!(Builtin.Str.occurrences z (Ls.one c) 0 z.length 1).isEmpty) = true := e
    rw [q] at e'
    cases e'
  | cons i rest =>
    have s := (PySem.StrLaws.occ_spec z (Ls.one c) 0 z.length 1 i (by rw [q]; exact List.mem_cons_self ..)).1
    have l : (Ls.one c).length = 1 := rfl
    exact ⟨i, rest, rfl, by omega⟩
/-- what stands at a call: how many signs, and the state or nothing -/
def SizeV (H : Hp) (v : V) : Prop := ∃ (p : Addr) (a : Int) (h : V), v = .ref p ∧ H p = some (.tup [.int a, h]) ∧ (h = .non ∨ ∃ g : Int, h = .int g)
theorem SizeV.mono {H H' : Hp} {v : V} (h : SizeV H v) (s : Same H H') : SizeV H' v := by
  obtain ⟨p, a, x, e, t, r⟩ := h
  exact ⟨p, a, x, e, s _ _ t, r⟩
def Sizes (H : Hp) (d : Addr) (k : Nat) : Prop := ∃ kvs : List (List Key × V), H d = some (.dT kvs) ∧ kvs.length ≤ k ∧ ∀ kv ∈ kvs, SizeV (sans H d) kv.2
theorem Sizes.mono {H H' : Hp} {d : Addr} {k k' : Nat} (h : Sizes H d k) (s : Same H H') (hk : k ≤ k') : Sizes H' d k' := by
  obtain ⟨kvs, e, l, q⟩ := h
  exact ⟨kvs, s _ _ e, Nat.le_trans l hk, fun kv hkv => (q kv hkv).mono (Sm.of s)⟩
theorem val_mem {kvs : List (List Key × V)} {k : List Key} {v : V} (h : valV kvs k = some v) : ∃ kv ∈ kvs, kv.2 = v := by
  unfold valV at h
  rw [Option.map_eq_some_iff] at h
  obtain ⟨kv, e, r⟩ := h
  exact ⟨kv, List.mem_of_find?_eq_some e, r⟩
theorem put_mem {kvs : List (List Key × V)} {k : List Key} {v : V} {kv : List Key × V} (h : kv ∈ putK kvs k v) : kv ∈ kvs ∨ kv.2 = v := by
  unfold putK at h
  split at h
  · obtain ⟨x, hx, e⟩ := List.mem_map.mp h
    split at e
    · right
      rw [← e]
    · left
      rw [← e]
      exact hx
  · rcases List.mem_append.mp h with z | z
    · exact .inl z
    · right
      rw [List.mem_singleton.mp z]
end Lk
namespace Lk
open PySem PySem.Spec PyProof.Rows L2 G
theorem Sm.same_of {d : Addr} {H H1 H2 : Hp} (s : Same H H1) (sm : Sm d H1 H2) (nd : H d = none) : Same H H2 := fun b o e =>
  (sans_some (sm b o (sans_of (fun z => by
    rw [z, nd] at e
    cases e) (s b o e)))).2
theorem Sm.at_ {d b : Addr} {H1 H2 : Hp} {o : HO} (sm : Sm d H1 H2) (n : b ≠ d) (e : H1 b = some o) : H2 b = some o := (sans_some (sm b o (sans_of n e))).2
/-- the parts of a drawn state -/
theorem stateV {K : PySem.W.Frag} {H : Hp} {z : Str} {n : Nat} {x : V} {d : PyData} (h : Dq K H x d) (s : StateD z n d) : ∃ (p m : Addr) (l : V) (ms : List V) (es : List PyData),
    x = .ref p ∧ SqT K H p [.ref m, l] ∧ SqT K H m ms ∧ DqAll K H ms es ∧ es.length = z.length ∧ (∀ e ∈ es, MoveD z n e) := by
  obtain ⟨es, l, rfl, hl, hm, _⟩ := s
  obtain ⟨p, xs, rfl, h1, h2⟩ := h.items
  obtain ⟨y, ys, rfl, hy, h2⟩ := h2.one
  obtain ⟨u, ys, rfl, hu, h2⟩ := h2.one
  obtain rfl := h2.none
  obtain ⟨m, ms, rfl, h3, h4⟩ := hy.items
  exact ⟨p, m, u, ms, es, rfl, h1, h3, h4, hl, hm⟩
/-- the parts of a drawn move -/
theorem moveV {K : PySem.W.Frag} {H : Hp} {z : Str} {n : Nat} {x : V} {d : PyData} (h : Dq K H x d) (s : MoveD z n d) : x = .non ∨ ∃ (p : Addr) (a b : Str) (g : Nat),
    x = .ref p ∧ SqT K H p [.str a, .str b, .int (g : Int)] ∧ WordOf z a 3 ∧ WordOf z b 3 ∧ g < n := by
  rcases s with rfl | ⟨a, b, g, rfl, ha, hb, hg⟩
  · exact .inl h.noneV
  · obtain ⟨p, ps, rfl, hp, hp2⟩ := h.items
    obtain ⟨x1, ps, rfl, hx1, hp2⟩ := hp2.one
    obtain ⟨x2, ps, rfl, hx2, hp2⟩ := hp2.one
    obtain ⟨x3, ps, rfl, hx3, hp2⟩ := hp2.one
    obtain rfl := hp2.none
    obtain rfl := hx1.strV
    obtain rfl := hx2.strV
    obtain rfl := hx3.intV
    exact .inr ⟨p, a, b, g, rfl, hp, ha, hb, hg⟩
theorem dqAll_at {K : PySem.W.Frag} {H : Hp} {xs : List V} {ds : List PyData} {i : Nat} (h : DqAll K H xs ds) (hi : i < ds.length) : ∃ x d, xs[i]? = some x ∧ d ∈ ds ∧ Dq K H x d := by
  have hx : i < xs.length := by rw [h.length]; exact hi
  have e := List.getElem?_eq_getElem hx
  obtain ⟨d, _, m, _, q⟩ := dqAll_get' h e
  exact ⟨xs[i], d, e, m, q⟩
/-- here: nothing, or a state -/
def HereV (v : V) : Prop := v = .non ∨ ∃ g : Int, v = .int g
end Lk
namespace Lk
open PySem PySem.Spec PyProof.Rows L2 G
theorem unit0 {n : Nat} (h : n + 64 < cLine) : n < cLine := Nat.lt_of_le_of_lt (by omega) h
theorem sans_upd {H : Hp} {a b : Addr} {o : HO} (n : b ≠ a) : sans (upd H b o) a = upd (sans H a) b o := by
  funext x
  by_cases e : x = b
  · subst e
    rw [sans_ne n, upd_same, upd_same]
  · by_cases e2 : x = a
    · subst e2
      rw [sans_self, upd_ne e, sans_self]
    · rw [sans_ne e2, upd_ne e, upd_ne e, sans_ne e2]
/-- data that lie outside the pot and one list -/
abbrev out2 (H : Hp) (a b : Addr) : Hp := sans (sans H a) b
theorem out2_sm {H H' : Hp} {a b : Addr} (s : Sm a H H') : Same (out2 H a b) (out2 H' a b) := Sm.of s
theorem out2_upd {H : Hp} {a b : Addr} {o : HO} (n : b ≠ a) : Same (out2 H a b) (out2 (upd H b o) a b) := by
  unfold out2
  rw [sans_upd n]
  exact Sm.pot
theorem signs_a : SignsD "a" := by unfold SignsD SignsP; decide +kernel
theorem signs_ab : SignsD "ab" := by unfold SignsD SignsP; decide +kernel
theorem signs_bz : SignsD "bz" := by unfold SignsD SignsP; decide +kernel
theorem signs_abc : SignsD "abc" := by unfold SignsD SignsP; decide +kernel
theorem signs_abcz : SignsD "abcz" := by unfold SignsD SignsP; decide +kernel
theorem word_tx {z : Str} {l : List Nat} {n : Nat} (h : l.length ≤ n) (hc : ∀ c ∈ l, c ∈ z.cps.toList) : WordOf z (tx l) n := ⟨by rw [tx_len]; exact h, fun c h => hc c (by rw [tx_codes] at h; exact h)⟩
theorem word_empty (z : Str) (n : Nat) : WordOf z "" n := ⟨Nat.zero_le _, fun c h => by cases h⟩
theorem val_some {kvs : List (List Key × V)} {k : List Key} {v : V} (h : (k, v) ∈ kvs) : ∃ w, valV kvs k = some w := by
  have e := valV_any k kvs
  have t : (kvs.any fun kv => decide (kv.1 = k)) = true := List.any_eq_true.mpr ⟨(k, v), h, decide_eq_true rfl⟩
  rw [t] at e
  exact Option.isSome_iff_exists.mp e.symm
/-- a list that grows behind the pot; its items lie outside it, the pot and X -/
abbrev out3 (H : Hp) (a M X : Addr) : Hp := sans (out2 H a M) X
theorem out3_sm {H H' : Hp} {a M X : Addr} (s : Sm a H H') : Same (out3 H a M X) (out3 H' a M X) := Sm.of (out2_sm s)
structure Grows (K : PySem.W.Frag) (H : Hp) (a M X : Addr) (n : Nat) (G : PyData → Prop) : Prop where
  it : ∃ us es, H M = some (.lst us) ∧ us.length = n ∧ DqAll K (out3 H a M X) us es ∧ ∀ e ∈ es, G e
theorem Grows.sm {K : PySem.W.Frag} {H H' : Hp} {a M X : Addr} {n : Nat} {G : PyData → Prop} (h : Grows K H a M X n G) (ne : M ≠ a) (s : Sm a H H') : Grows K H' a M X n G := by
  obtain ⟨us, es, e, l, d, q⟩ := h.it
  exact ⟨us, es, s.at_ ne e, l, d.mono (out3_sm s), q⟩
theorem Grows.new {K : PySem.W.Frag} {H : Hp} {a M X : Addr} {G : PyData → Prop} (h : H M = some (.lst [])) : Grows K H a M X 0 G := ⟨[], [], h, rfl, .nil, fun _ h => (List.not_mem_nil h).elim⟩
theorem Grows.add {K : PySem.W.Frag} {H : Hp} {a M X : Addr} {n : Nat} {G : PyData → Prop} (h : Grows K H a M X n G) (ne : M ≠ a) {x : V} {d : PyData} (hx : Dq K (out3 H a M X) x d) (hG : G d) :
    ∃ us, H M = some (.lst us) ∧ us.length = n ∧ Grows K (L2.upd H M (.lst (us ++ [x]))) a M X (n + 1) G := by
  obtain ⟨us, es, e, l, dd, q⟩ := h.it
  refine ⟨us, e, l, us ++ [x], es ++ [d], upd_same, by rw [List.length_append, l]; rfl, (dd.append (.cons hx .nil)).mono (Sm.of (out2_upd ne)), fun y hy => ?_⟩
  rcases List.mem_append.mp hy with z | z
  · exact q y z
  · rw [List.mem_singleton.mp z]
    exact hG
/-- a new tuple lies outside them -/
theorem out3_tup {K : PySem.W.Frag} {H : Hp} {a M X p : Addr} {xs : List V} (pa : p ≠ a) (pM : p ≠ M) (pX : p ≠ X) : SqT K (out3 (upd H p (.tup xs)) a M X) p xs := SqT.of (sans_of pX (sans_of pM (sans_of pa upd_same)))
theorem out3_swap {H : Hp} {a M X : Addr} : Same (out3 H a M X) (out3 H a X X) := fun b o e => by
  obtain ⟨n1, e1⟩ := sans_some e
  obtain ⟨n2, e2⟩ := sans_some e1
  exact sans_of n1 (sans_of n1 e2)
theorem out3_in {H : Hp} {a M X : Addr} : Same (out3 H a M X) (sans H a) := Same.trans sans_same sans_same
end Lk
namespace Lk
open PySem PySem.Spec PyProof.Rows L2 G
theorem seqT_out {K : PySem.W.Frag} {H : Hp} {a D : Addr} {xs ys : List V} (h : SqT K H a xs) (hD : H D = some (.lst ys)) : SqT K (sans H D) a xs := by
  rcases h with (h | ⟨o, h⟩) | h
  · exact .inl (.inl (sans_of (fun z => by
      rw [z, hD] at h
      cases h) h))
  · exact .inl (.inr ⟨o, sans_of (fun z => by
      rw [z, hD] at h
      cases h) h⟩)
  · exact .inr h
mutual
/-- data without a list lie outside any list -/
theorem Dq.out {K : PySem.W.Frag} {H : Hp} {D : Addr} {ys : List V} (hD : H D = some (.lst ys)) : ∀ {v : V} {d : PyData}, Dq K H v d → hasList d = false → Dq K (sans H D) v d
  | _, _, .non, _ => .non
  | _, _, .bl b, _ => .bl b
  | _, _, .int i, _ => .int i
  | _, _, .str x, _ => .str x
  | _, _, .lst h t, n => by
    unfold hasList at n
    cases n
  | _, _, .tup h t, n => .tup (seqT_out h hD) (DqAll.out hD t (by
    unfold hasList at n
    exact n))
  | _, _, .emp h, _ => .emp (sans_of (fun z => by
      rw [z, hD] at h
      cases h) h)
theorem DqAll.out {K : PySem.W.Frag} {H : Hp} {D : Addr} {ys : List V} (hD : H D = some (.lst ys)) : ∀ {vs : List V} {ds : List PyData}, DqAll K H vs ds → hasListAll ds = false → DqAll K (sans H D) vs ds
  | _, _, .nil, _ => .nil
  | _, _, .cons h t, n => by
    unfold hasListAll at n
    obtain ⟨n1, n2⟩ := Bool.or_eq_false_iff.mp n
    exact .cons (Dq.out hD h n1) (DqAll.out hD t n2)
end
theorem hasListAll_of : ∀ {ds : List PyData}, (∀ d ∈ ds, hasList d = false) → hasListAll ds = false
  | [], _ => by unfold hasListAll; rfl
  | d :: ds, h => by
    unfold hasListAll
    rw [h d (List.mem_cons_self ..), hasListAll_of fun e he => h e (List.mem_cons_of_mem _ he)]
    rfl
theorem MoveD.flat {z : Str} {n : Nat} {d : PyData} (h : MoveD z n d) : hasList d = false := by
  rcases h with rfl | ⟨a, b, g, rfl, _⟩
  · unfold hasList
    rfl
  · simp [hasList, hasListAll]
theorem StateD.flat {z : Str} {n : Nat} {d : PyData} (h : StateD z n d) : hasList d = false := by
  obtain ⟨ms, l, rfl, _, hm, hl⟩ := h
  have e1 : hasListAll ms = false := hasListAll_of fun d hd => (hm d hd).flat
  have e2 : hasList l = false := by
    rcases hl with rfl | ⟨w, rfl, _⟩ <;> simp [hasList]
  simp [hasList, hasListAll, e1, e2]
theorem ExpD.flat {d : PyData} (h : ExpD d) : hasList d = false := by
  obtain ⟨z, f, ss, rfl, _, _, _, _, hs⟩ := h
  have e1 : hasListAll ss = false := hasListAll_of fun d hd => (hs d hd).flat
  simp [hasList, hasListAll, e1]
end Lk

/-! A text backwards. -/
namespace Lk
open PySem PySem.Spec PyProof.Rows L2
def revS (z : Str) : Str := ⟨z.cps.toList.reverse.toArray⟩
theorem revS_len (z : Str) : (revS z).length = z.length := by
  show (z.cps.toList.reverse.toArray).size = z.cps.size
  simp
theorem rev_picked (z : Str) : ((Builtin.Str.strSliceIndices none none (-1) z.length).filterMap (z.cps[·]?)).toArray = z.cps.toList.reverse.toArray := by
  have e : Builtin.Str.strSliceIndices none none (-1) z.length = sliceRange ((z.cps.size : Int) - 1) (-1) (-1) := rfl
  rw [e, PySem.W.krv_sliceRange, PySem.W.krv_range, List.filterMap_reverse, PySem.W.krv_all]
def tRevS (te : TE) : TE := fun σ H Q => te σ H fun x H1 => ∃ z, x = .str z ∧ z.length ≤ sizeLine ∧ Q (.str (revS z)) H1
section
variable {X : Cx}
theorem pe_revS {e : Expr} {te : TE} {k : Nat} {p1 p2 p3 pos : Pos} (he : PE X e te) : PE X (.Subscript e (.Slice none none (some (.UnaryOp .USub (.Constant (.int 1) k p1) p2)) p3) pos) (tRevS te) := by
  refine ⟨fun pins s σ H Q I h => ?_⟩
  refine Subscript_ (thn (he.run pins s σ H _ I h) fun v s1 ⟨x, H1, I1, r1, q1⟩ => ?_)
  obtain ⟨z, ex, hz, q⟩ := q1
  subst ex
  obtain ⟨t, rfl⟩ := r1
  have hst : PO X (some (.UnaryOp .USub (.Constant (.int 1) k p1) p2)) (tPart (tUn (rU fun i => .int (-i)) (tC (.int 1)))) := po_some (pe_un un_neg pe_int)
  refine wpAny_Slice (thn (po_none.run pins s1 σ H1 (fun o H2 => o = none ∧ H2 = H1) I1 ⟨rfl, rfl⟩) fun vl s2 ⟨l, H2, I2, pl, el, e2⟩ => ?_)
  subst el e2
  refine thn (po_none.run pins s2 σ H2 (fun o H3 => o = none ∧ H3 = H2) I2 ⟨rfl, rfl⟩) fun vu s3 ⟨u, H3, I3, pu, eu, e3⟩ => ?_
  subst eu e3
  refine thn (hst.run pins s3 σ H3 (fun o H4 => o = some (-1) ∧ H4 = H3) I3 ⟨1, rfl, -1, rfl, rfl, rfl⟩) fun vs s4 ⟨o, H4, I4, ps, eo, e4⟩ => ?_
  subst eo e4
  have I5 : Inv X pins σ H4 { s4 with heap := s4.heap.push { cls := .type "slice", data := .fields #[vl, vu, vs] } } := I4.kept (t' := s4.toks) fun b ob q => Heap.get?_push_of_some _ q
  show wpAny (model X.prog X.w) X.A (subscriptTail e (.Slice none none (some (.UnaryOp .USub (.Constant (.int 1) k p1) p2)) p3) (.str z t) (.ref s4.heap.objs.size)) (EP X pins σ Q) X.xe { s4 with heap := s4.heap.push { cls := .type "slice", data := .fields #[vl, vu, vs] } }
  refine tail_any (ops := [.str z t, .ref s4.heap.objs.size]) (typeIs_str _ _ _) (F.slot_str_getitem.lookup) ?_ (by with_unfolding_all rfl)
  obtain ⟨l, rfl, el⟩ := IsPart.raw pl
  obtain ⟨u, rfl, eu⟩ := IsPart.raw pu
  obtain ⟨w, rfl, ew⟩ := IsPart.raw ps
  cases l with
  | some l => cases el
  | none =>
    cases u with
    | some u => cases eu
    | none =>
      cases w with
      | none => cases ew
      | some w =>
        obtain ⟨w, tw⟩ := w
        have e1 : w = -1 := by
          first | exact Option.some.inj ew | exact (Option.some.inj ew).symm
        subst e1
        refine wpAny_getItem_str_slice (l := none) (u := none) (st := some (-1, tw)) ⟨_, Heap.get?_push_size _ rfl, rfl, rfl⟩ rfl ?_
        show Made.post (if ((-1 : Int) == 1 && _) = true then Made.val (.str z t) else Made.str ⟨((Builtin.Str.strSliceIndices none none (-1) z.length).filterMap (z.cps[·]?)).toArray⟩) (EP X pins σ Q) _
        rw [if_neg (by simp), rev_picked]
        exact ⟨by show (revS z).length ≤ sizeLine; rw [revS_len]; exact hz, .str (revS z), H4, I5.tok _, ⟨_, rfl⟩, q⟩
end
end Lk

/-! How large and deep data are; parts and sums of tuples of data behind a pot. -/
namespace Lk
open PySem PySem.Spec PyProof.Rows L2 G
/-- k: without dicts, else without lists; so deep, so heavy at most -/
structure Qk (k : Bool) (n B : Nat) (d : PyData) : Prop where
  leaves : d.leavesShort 13 = true
  shape : d.showable = true
  depth : d.depth ≤ n
  weight : d.weight ≤ B
  noD : k = true → d.hasDict = false
  noL : k = false → hasList d = false
theorem Qk.mono {k : Bool} {n n' B B' : Nat} {d : PyData} (h : Qk k n B d) (hn : n ≤ n') (hB : B ≤ B') : Qk k n' B' d :=
  ⟨h.leaves, h.shape, Nat.le_trans h.depth hn, Nat.le_trans h.weight hB, h.noD, h.noL⟩
theorem Qk.shows {k : Bool} {n B : Nat} {d : PyData} (h : Qk k n B d) (hn : n ≤ 60) (hB : B ≤ 1048576) : Shows d :=
  ⟨h.leaves, Nat.le_trans h.weight hB, h.shape, fun e => by
    cases k with
    | true =>
      rw [h.noD rfl] at e
      cases e
    | false => exact h.noL rfl, Nat.le_trans h.depth hn⟩
theorem Qk.light {k : Bool} {n B : Nat} {d : PyData} (h : Qk k n B d) (hB : B ≤ 1048576) : Light d := Nat.le_trans h.weight hB
section
variable {k : Bool} {n B : Nat} {ds : List PyData}
theorem all_leaves : ∀ {ds : List PyData}, (∀ d ∈ ds, Qk k n B d) → PyData.leavesShortAll 13 ds = true
  | [], _ => by simp [PyData.leavesShortAll]
  | d :: ds, h => by
    simp only [PyData.leavesShortAll]
    rw [(h d (List.mem_cons_self ..)).leaves, all_leaves fun e he => h e (List.mem_cons_of_mem _ he)]
    rfl
theorem all_shape : ∀ {ds : List PyData}, (∀ d ∈ ds, Qk k n B d) → PyData.showableAll ds = true
  | [], _ => by simp [PyData.showableAll]
  | d :: ds, h => by
    simp only [PyData.showableAll]
    rw [(h d (List.mem_cons_self ..)).shape, all_shape fun e he => h e (List.mem_cons_of_mem _ he)]
    rfl
theorem all_depth : ∀ {ds : List PyData}, (∀ d ∈ ds, Qk k n B d) → PyData.depthAll ds ≤ n
  | [], _ => by simp [PyData.depthAll]
  | d :: ds, h => by
    simp only [PyData.depthAll]
    exact Nat.max_le.mpr ⟨(h d (List.mem_cons_self ..)).depth, all_depth fun e he => h e (List.mem_cons_of_mem _ he)⟩
theorem all_weight : ∀ {ds : List PyData}, (∀ d ∈ ds, Qk k n B d) → PyData.weightAll ds ≤ ds.length * (B + 1)
  | [], _ => by simp [PyData.weightAll]
  | d :: ds, h => by
    have h1 := (h d (List.mem_cons_self ..)).weight
    have h2 := all_weight fun e he => h e (List.mem_cons_of_mem _ he)
    simp only [PyData.weightAll]
    rw [List.length_cons, Nat.succ_mul]
    omega
theorem all_noD : ∀ {ds : List PyData}, (∀ d ∈ ds, Qk true n B d) → PyData.hasDictAll ds = false
  | [], _ => by simp [PyData.hasDictAll]
  | d :: ds, h => by
    simp only [PyData.hasDictAll]
    rw [(h d (List.mem_cons_self ..)).noD rfl, all_noD fun e he => h e (List.mem_cons_of_mem _ he)]
    rfl
theorem Qk.tup {B' : Nat} (h : ∀ d ∈ ds, Qk k n B d) (hB : ds.length * (B + 1) ≤ B') : Qk k (n + 1) B' (.tuple ds) where
  leaves := by
    simp only [PyData.leavesShort]
    exact all_leaves h
  shape := by
    simp only [PyData.showable]
    exact all_shape h
  depth := by
    simp only [PyData.depth]
    have := all_depth h
    omega
  weight := by
    simp only [PyData.weight]
    exact Nat.le_trans (all_weight h) hB
  noD := fun e => by
    subst e
    simp only [PyData.hasDict]
    exact all_noD h
  noL := fun e => by
    subst e
    simp only [hasList]
    exact hasListAll_of fun d hd => (h d hd).noL rfl
theorem Qk.lst {B' : Nat} (h : ∀ d ∈ ds, Qk true n B d) (hB : ds.length * (B + 1) ≤ B') : Qk true (n + 1) B' (.list ds) where
  leaves := by
    simp only [PyData.leavesShort]
    exact all_leaves h
  shape := by
    simp only [PyData.showable]
    exact all_shape h
  depth := by
    simp only [PyData.depth]
    have := all_depth h
    omega
  weight := by
    simp only [PyData.weight]
    exact Nat.le_trans (all_weight h) hB
  noD := fun _ => by
    simp only [PyData.hasDict]
    exact all_noD h
  noL := fun e => by cases e
end
theorem Qk.str {k : Bool} {n B : Nat} {z : Str} (h1 : z.length ≤ B) (h2 : ∀ c ∈ z.cps.toList, c < 1000) : Qk k n B (.str z) where
  leaves := by
    simp only [PyData.leavesShort]
    rw [List.all_eq_true]
    intro c hc
    exact decide_eq_true (Nat.lt_trans (h2 c hc) (by decide))
  shape := by simp only [PyData.showable]
  depth := by simp only [PyData.depth]; exact Nat.zero_le _
  weight := by simp only [PyData.weight]; exact h1
  noD := fun _ => by simp only [PyData.hasDict]
  noL := fun _ => by simp only [hasList]
theorem Qk.none {k : Bool} {n B : Nat} : Qk k n B .none where
  leaves := by simp only [PyData.leavesShort]
  shape := by simp only [PyData.showable]
  depth := by simp only [PyData.depth]; exact Nat.zero_le _
  weight := by simp only [PyData.weight]; exact Nat.zero_le _
  noD := fun _ => by simp only [PyData.hasDict]
  noL := fun _ => by simp only [hasList]
theorem Qk.bool {k : Bool} {n B : Nat} (b : Bool) : Qk k n B (.bool b) where
  leaves := by simp only [PyData.leavesShort]
  shape := by simp only [PyData.showable]
  depth := by simp only [PyData.depth]; exact Nat.zero_le _
  weight := by simp only [PyData.weight]; exact Nat.zero_le _
  noD := fun _ => by simp only [PyData.hasDict]
  noL := fun _ => by simp only [hasList]
theorem Qk.int {k : Bool} {n B : Nat} {i : Int} (h1 : -1 ≤ i) (h2 : i ≤ 4) (hB : 3 ≤ B) : Qk k n B (.int i) := by
  have all : i = -1 ∨ i = 0 ∨ i = 1 ∨ i = 2 ∨ i = 3 ∨ i = 4 := by omega
  have go : ∀ j : Int, (PyData.int j).leavesShort 13 = true → (PyData.int j).showable = true → (PyData.int j).weight ≤ 3 → Qk k n B (.int j) := fun j a b c =>
    ⟨a, b, by simp only [PyData.depth]; exact Nat.zero_le _, Nat.le_trans c hB, fun _ => by simp only [PyData.hasDict], fun _ => by simp only [hasList]⟩
  rcases all with rfl | rfl | rfl | rfl | rfl | rfl
  all_goals exact go _ (by unfold PyData.leavesShort; decide +kernel) (by unfold PyData.showable; decide +kernel) (by unfold PyData.weight; decide +kernel)
theorem Qk.emp {n B : Nat} (hn : 1 ≤ n) : Qk false n B (.dict []) where
  leaves := by unfold PyData.leavesShort PyData.leavesShortKv; rfl
  shape := by unfold PyData.showable PyData.showableKv; rfl
  depth := by unfold PyData.depth PyData.depthKv; exact hn
  weight := by unfold PyData.weight PyData.weightKv; exact Nat.zero_le _
  noD := fun e => by cases e
  noL := fun _ => by unfold hasList; rfl
/-- drawn parts are light -/
theorem WordOf.q {k : Bool} {n B m : Nat} {z w : Str} (h : WordOf z w m) (hz : ∀ c ∈ z.cps.toList, c < 1000) (hB : m ≤ B) : Qk k n B (.str w) := Qk.str (Nat.le_trans h.1 hB) fun c hc => hz c (h.2 c hc)
theorem MoveD.q {k : Bool} {z : Str} {m : Nat} {d : PyData} (h : MoveD z m d) (hz : ∀ c ∈ z.cps.toList, c < 1000) (hm : m ≤ 4) : Qk k 1 12 d := by
  rcases h with rfl | ⟨a, b, g, rfl, ha, hb, hg⟩
  · exact .none
  · refine Qk.tup (n := 0) (B := 3) (fun d hd => ?_) (by show 3 * 4 ≤ 12; decide)
    simp only [List.mem_cons, List.not_mem_nil, or_false] at hd
    rcases hd with rfl | rfl | rfl
    · exact ha.q hz (Nat.le_refl _)
    · exact hb.q hz (Nat.le_refl _)
    · exact .int (by omega) (by omega) (Nat.le_refl _)
theorem StateD.parts {k : Bool} {z : Str} {m : Nat} {ms : List PyData} {l : PyData} (h : StateD z m (.tuple [.tuple ms, l])) (hz : ∀ c ∈ z.cps.toList, c < 1000) (hm : m ≤ 4) :
    ms.length = z.length ∧ (∀ d ∈ ms, Qk k 1 12 d) ∧ Qk k 2 52 l := by
  obtain ⟨ms', l', e, h1, h2, h3⟩ := h
  injection e with e
  injection e with e1 e
  injection e with e2 _
  injection e1 with e1
  subst e1 e2
  refine ⟨h1, fun d hd => (h2 d hd).q hz hm, ?_⟩
  rcases h3 with rfl | ⟨w, rfl, hw⟩
  · exact .none
  · exact hw.q hz (by decide)
theorem StateD.q {k : Bool} {z : Str} {m : Nat} {d : PyData} (h : StateD z m d) (hz : ∀ c ∈ z.cps.toList, c < 1000) (hz4 : z.length ≤ 4) (hm : m ≤ 4) : Qk k 3 106 d := by
  obtain ⟨ms, l, rfl, _⟩ := id h
  obtain ⟨h1, h2, h3⟩ := h.parts (k := k) hz hm
  refine Qk.tup (n := 2) (B := 52) (fun d hd => ?_) (by show 2 * 53 ≤ 106; decide)
  simp only [List.mem_cons, List.not_mem_nil, or_false] at hd
  rcases hd with rfl | rfl
  · exact Qk.tup h2 (by rw [h1]; omega)
  · exact h3
end Lk
namespace Lk
open PySem PySem.Spec PyProof.Rows L2 G
theorem new_tup {K : PySem.W.Frag} {H : Hp} {a c p : Addr} {xs : List V} {ds : List PyData} (hp : PotAt H a c) (np : H p = none) (h : DqAll K (sans H a) xs ds) : Dq K (sans (upd H p (.tup xs)) a) (.ref p) (.tuple ds) :=
  .tup (SqT.of (sans_of (hp.ne np) upd_same)) (h.mono (Sm.new np))
theorem new_lst {K : PySem.W.Frag} {H : Hp} {a c p : Addr} {xs : List V} {ds : List PyData} (hp : PotAt H a c) (np : H p = none) (h : DqAll K (sans H a) xs ds) : Dq K (sans (upd H p (.lst xs)) a) (.ref p) (.list ds) :=
  .lst (SqL.of (sans_of (hp.ne np) upd_same)) (h.mono (Sm.new np))
theorem new_emp {K : PySem.W.Frag} {H : Hp} {a c p : Addr} (hp : PotAt H a c) (np : H p = none) : Dq K (sans (upd H p (.dK [])) a) (.ref p) (.dict []) :=
  .emp (sans_of (hp.ne np) upd_same)
theorem DqAll.nil_iff {K : PySem.W.Frag} {H : Hp} {xs : List V} {ds : List PyData} (h : DqAll K H xs ds) : xs = [] ↔ ds = [] := by
  cases h <;> simp
/-- t + u -/
theorem catP {K : PySem.W.Frag} {H : Hp} {a c : Addr} {x y : V} {ds es : List PyData} {Q : VK} (hp : PotAt H a c) (hx : Dq K (sans H a) x (.tuple ds)) (hy : Dq K (sans H a) y (.tuple es)) (hz : ds.length + es.length ≤ 100000)
    (q : ∀ (H' : Hp) (v : V), Same H H' → Dq K (sans H' a) v (.tuple (ds ++ es)) → Q v H') : rCatA K x y H Q := by
  obtain ⟨p, xs, rfl, h1, h2⟩ := hx.items
  obtain ⟨r, ys, rfl, h3, h4⟩ := hy.items
  refine ⟨p, r, xs, ys, rfl, rfl, seqT sans_same h1, seqT sans_same h3, ?_, fun e => ?_, fun e1 e2 => ?_, fun _ _ u nu => ?_⟩
  · rw [h2.length, h4.length]
    exact Nat.le_trans hz (by decide)
  · have e' := h2.nil_iff.mp e
    subst e'
    exact q H _ (Same.refl H) hy
  · have e' := h4.nil_iff.mp e2
    subst e'
    rw [List.append_nil] at q
    exact q H _ (Same.refl H) hx
  · exact q _ _ (same_new nu) (new_tup hp nu (h2.append h4))
theorem cutV_from (xs : List V) (n : Nat) : cutV xs (some (n : Int)) none = xs.drop n := by
  unfold cutV
  rw [HT.sIx_nat, HT.sIx_none]
  by_cases h : n ≤ xs.length
  · rw [Nat.min_eq_left h, List.take_of_length_le (by rw [List.length_drop] <;> omega)]
  · rw [Nat.min_eq_right (by omega), List.drop_eq_nil_of_le (Nat.le_refl _), List.drop_eq_nil_of_le (by omega), List.take_nil]
/-- t[:n], t[n:] -/
theorem slTo {K : PySem.W.Frag} {H : Hp} {a c : Addr} {x : V} {ds : List PyData} {n : Nat} {Q : VK} (hp : PotAt H a c) (hx : Dq K (sans H a) x (.tuple ds))
    (q : ∀ (H' : Hp) (v : V), Same H H' → Dq K (sans H' a) v (.tuple (ds.take n)) → Q v H') : rSlA K x none (some (n : Int)) H Q := by
  obtain ⟨p, xs, rfl, h1, h2⟩ := hx.items
  refine ⟨p, xs, rfl, seqT sans_same h1, fun e => ?_, fun _ u nu => ?_⟩
  · have e2 := e.2
    rw [HT.sIx_nat] at e2
    have e3 : ds.take n = ds := List.take_of_length_le (by rw [← h2.length]; omega)
    rw [e3] at q
    exact q H _ (Same.refl H) hx
  · rw [cutV_to]
    exact q _ _ (same_new nu) (new_tup hp nu (h2.take n))
theorem slFrom {K : PySem.W.Frag} {H : Hp} {a c : Addr} {x : V} {ds : List PyData} {n : Nat} {Q : VK} (hp : PotAt H a c) (hx : Dq K (sans H a) x (.tuple ds))
    (q : ∀ (H' : Hp) (v : V), Same H H' → Dq K (sans H' a) v (.tuple (ds.drop n)) → Q v H') : rSlA K x (some (n : Int)) none H Q := by
  obtain ⟨p, xs, rfl, h1, h2⟩ := hx.items
  refine ⟨p, xs, rfl, seqT sans_same h1, fun e => ?_, fun _ u nu => ?_⟩
  · have e1 := e.1
    rw [HT.sIx_nat] at e1
    have e3 : ds.drop n = ds := by
      by_cases z : n = 0
      · rw [z]
        rfl
      · have l : ds.length = 0 := by rw [← h2.length]; omega
        rw [List.eq_nil_of_length_eq_zero l, List.drop_nil]
    rw [e3] at q
    exact q H _ (Same.refl H) hx
  · rw [cutV_from]
    exact q _ _ (same_new nu) (new_tup hp nu (h2.drop n))
theorem DqAll.reps {K : PySem.W.Frag} {H : Hp} {xs : List V} {ds : List PyData} (h : DqAll K H xs ds) : ∀ n, DqAll K H (List.replicate n xs).flatten (List.replicate n ds).flatten
  | 0 => .nil
  | n + 1 => by
    rw [List.replicate_succ, List.flatten_cons, List.replicate_succ, List.flatten_cons]
    exact h.append (h.reps n)
/-- t * n -/
theorem repP {K : PySem.W.Frag} {H : Hp} {a c : Addr} {x : V} {ds : List PyData} {n : Nat} {Q : VK} (hp : PotAt H a c) (hx : Dq K (sans H a) x (.tuple ds)) (h0 : ds ≠ []) (h1 : ds.length ≤ 1000) (n2 : 2 ≤ n) (n3 : n ≤ 1000)
    (q : ∀ (H' : Hp) (v : V), Same H H' → Dq K (sans H' a) v (.tuple (List.replicate n ds).flatten) → Q v H') : rRepT K x (.int (n : Int)) H Q := by
  obtain ⟨p, xs, rfl, h2, h3⟩ := hx.items
  refine ⟨p, (n : Int), xs, rfl, rfl, seqT sans_same h2, fun e => h0 (h3.nil_iff.mp e), by omega, by omega, by rw [h3.length]; exact h1, fun u nu => ?_⟩
  rw [Int.toNat_natCast]
  exact q _ _ (same_new nu) (new_tup hp nu (h3.reps n))
end Lk
namespace Lk
open PySem PySem.Spec PyProof.Rows L2 G
theorem DqAll.mem {K : PySem.W.Frag} {H : Hp} : ∀ {xs : List V} {ds : List PyData} {x : V}, DqAll K H xs ds → x ∈ xs → ∃ d ∈ ds, Dq K H x d
  | _, _, _, .nil, h => (List.not_mem_nil h).elim
  | _, _, _, .cons h t, m => by
    rcases List.mem_cons.mp m with z | z
    · rw [z]
      exact ⟨_, List.mem_cons_self .., h⟩
    · obtain ⟨d, hd, q⟩ := DqAll.mem t z
      exact ⟨d, List.mem_cons_of_mem _ hd, q⟩
/-- one more item, in a heap that has grown -/
theorem DqAll.more {K : PySem.W.Frag} {H H' : Hp} {a : Addr} {xs : List V} {ds : List PyData} {x : V} {d : PyData} (h : DqAll K (sans H a) xs ds) (s : Same H H') (hx : Dq K (sans H' a) x d) : DqAll K (sans H' a) (xs ++ [x]) (ds ++ [d]) :=
  (h.mono (Sm.of s)).append (.cons hx .nil)
/-- some size or other -/
def Bad (n B : Nat) (d : PyData) : Prop := ∃ k, Qk k n B d
theorem Bad.of {k : Bool} {n B n' B' : Nat} {d : PyData} (h : Qk k n B d) (hn : n ≤ n') (hB : B ≤ B') : Bad n' B' d := ⟨k, h.mono hn hB⟩
def odds : List PyData := [.none, .int 0, .str "A", .str "ab c", .list [.str "a"], .tuple [.str "a"], .bool true, .str "y", .str (repS "a" 2001), .str "", .dict []]
theorem odds_bad : ∀ d ∈ odds, Bad 1 2001 d := by
  intro d hd
  have sa : ∀ k : Bool, ∀ e ∈ [PyData.str "a"], Qk k 0 1 e := fun k e he => by
    rw [List.mem_singleton.mp he]
    exact .str (by decide) (by decide +kernel)
  simp only [odds, List.mem_cons, List.not_mem_nil, or_false] at hd
  rcases hd with rfl | rfl | rfl | rfl | rfl | rfl | rfl | rfl | rfl | rfl | rfl
  · exact ⟨true, .none⟩
  · exact ⟨true, .int (by decide) (by decide) (by decide)⟩
  · exact ⟨true, .str (by decide) (by decide +kernel)⟩
  · exact ⟨true, .str (by decide) (by decide +kernel)⟩
  · exact ⟨true, (Qk.lst (sa true) (Nat.le_refl _)).mono (Nat.le_refl _) (by decide)⟩
  · exact ⟨true, (Qk.tup (sa true) (Nat.le_refl _)).mono (Nat.le_refl _) (by decide)⟩
  · exact ⟨true, .bool true⟩
  · exact ⟨true, .str (by decide) (by decide +kernel)⟩
  · refine ⟨true, .str (by rw [repS_len]; decide) fun c hc => ?_⟩
    have all : ∀ c ∈ ("a" : Str).cps.toList, c < 1000 := by decide +kernel
    exact all c (rep_mem hc)
  · exact ⟨true, .str (by decide) (by decide +kernel)⟩
  · exact ⟨false, .emp (Nat.le_refl _)⟩
end Lk
namespace Lk
open PySem PySem.Spec PyProof.Rows L2 G
theorem tup3 {k : Bool} {n B B' : Nat} {x y w : PyData} (hx : Qk k n B x) (hy : Qk k n B y) (hw : Qk k n B w) (hB : 3 * (B + 1) ≤ B') : Qk k (n + 1) B' (.tuple [x, y, w]) := by
  refine Qk.tup (n := n) (B := B) (fun d hd => ?_) hB
  simp only [List.mem_cons, List.not_mem_nil, or_false] at hd
  rcases hd with rfl | rfl | rfl
  · exact hx
  · exact hy
  · exact hw
theorem tup2 {k : Bool} {n B B' : Nat} {x y : PyData} (hx : Qk k n B x) (hy : Qk k n B y) (hB : 2 * (B + 1) ≤ B') : Qk k (n + 1) B' (.tuple [x, y]) := by
  refine Qk.tup (n := n) (B := B) (fun d hd => ?_) hB
  simp only [List.mem_cons, List.not_mem_nil, or_false] at hd
  rcases hd with rfl | rfl
  · exact hx
  · exact hy
theorem tup0 {k : Bool} {n B : Nat} : Qk k (n + 1) B (.tuple []) := Qk.tup (n := n) (B := B) (fun d hd => (List.not_mem_nil hd).elim) (by show 0 * _ ≤ _; omega)
theorem Bad.k {k : Bool} {n B : Nat} {d : PyData} (h : Qk k n B d) : Bad n B d := ⟨k, h⟩
theorem str_small {k : Bool} {n B : Nat} {z : Str} (h1 : z.length ≤ B) (h2 : ∀ c ∈ z.cps.toList, c < 1000) : Qk k n B (.str z) := Qk.str h1 h2
end Lk
namespace Lk
open PySem PySem.Spec PyProof.Rows L2 G
/-- the first item of a tuple of data -/
theorem Dq.head {K : PySem.W.Frag} {H : Hp} {x : V} {d : PyData} {ds : List PyData} (h : Dq K H x (.tuple (d :: ds))) : ∃ p y ys, x = .ref p ∧ SqT K H p (y :: ys) ∧ Dq K H y d := by
  obtain ⟨p, xs, rfl, h1, h2⟩ := h.items
  obtain ⟨y, ys, rfl, hy, _⟩ := h2.one
  exact ⟨p, y, ys, rfl, h1, hy⟩
/-- an item in the middle of a tuple put in -/
theorem mid_bad {k : Bool} {n B : Nat} {ds es : List PyData} {x d : PyData} (h1 : ∀ e ∈ ds, Qk k n B e) (h2 : ∀ e ∈ es, Qk k n B e) (hx : Qk k n B x) (h : d ∈ ds ++ [x] ++ es) : Qk k n B d := by
  rcases List.mem_append.mp h with h | h
  · rcases List.mem_append.mp h with h | h
    · exact h1 d h
    · rw [List.mem_singleton.mp h]
      exact hx
  · exact h2 d h
end Lk
namespace Lk
open PySem PySem.Spec PyProof.Rows L2 G
theorem repI {K : PySem.W.Frag} {H : Hp} {a c : Addr} {x : V} {ds : List PyData} {m : Int} {Q : VK} (n : Nat) (hm : (n : Int) = m) (hp : PotAt H a c) (hx : Dq K (sans H a) x (.tuple ds)) (h0 : ds ≠ []) (h1 : ds.length ≤ 1000) (n2 : 2 ≤ n) (n3 : n ≤ 1000)
    (q : ∀ (H' : Hp) (v : V), Same H H' → Dq K (sans H' a) v (.tuple (List.replicate n ds).flatten) → Q v H') : rRepT K x (.int m) H Q := by
  subst hm
  exact repP hp hx h0 h1 n2 n3 q
end Lk
namespace Lk
open PySem PySem.Spec PyProof.Rows L2 G
theorem slFromI {K : PySem.W.Frag} {H : Hp} {a c : Addr} {x : V} {ds : List PyData} {m : Int} {Q : VK} (n : Nat) (hm : (n : Int) = m) (hp : PotAt H a c) (hx : Dq K (sans H a) x (.tuple ds))
    (q : ∀ (H' : Hp) (v : V), Same H H' → Dq K (sans H' a) v (.tuple (ds.drop n)) → Q v H') : rSlA K x (some m) none H Q := by
  subst hm
  exact slFrom hp hx q
theorem slToI {K : PySem.W.Frag} {H : Hp} {a c : Addr} {x : V} {ds : List PyData} {m : Int} {Q : VK} (n : Nat) (hm : (n : Int) = m) (hp : PotAt H a c) (hx : Dq K (sans H a) x (.tuple ds))
    (q : ∀ (H' : Hp) (v : V), Same H H' → Dq K (sans H' a) v (.tuple (ds.take n)) → Q v H') : rSlA K x none (some m) H Q := by
  subst hm
  exact slTo hp hx q
end Lk
namespace Lk
theorem or_ways {c : Bool} {A R : Prop} (r : A) (h : A → R) : if c = true then A else R := by
  cases c with
  | true => exact r
  | false => exact h r
end Lk
namespace Lk
open PySem PySem.Spec PyProof.Rows L2 G
theorem DqAll.set {K : PySem.W.Frag} {H : Hp} {x : V} {d : PyData} (hx : Dq K H x d) : ∀ {xs : List V} {ds : List PyData} (i : Nat), DqAll K H xs ds → DqAll K H (xs.set i x) (ds.set i d)
  | _, _, _, .nil => .nil
  | _, _, 0, .cons _ t => .cons hx t
  | _, _, i + 1, .cons h t => .cons h (t.set hx i)
end Lk

/-! A tuple times a number from 1 on. -/
namespace Lk
open PySem PySem.Spec PyProof.Rows L2 G
theorem tuple_mul1 (l : Addr) (items : Array Value) (n : Nat) (sl : Array (Option Value)) (dd : Option Addr) (u : Tok) :
    Meets (Builtin.«tuple.__mul__» ⟨[.ref l, .int 1 u], []⟩) (fun _ R s => s.heap.get? l = some { cls := .type "tuple", dict := dd, data := .seq items n, slots := sl } ∧
      R (.ok (.ret (Value.ref l))) s) :=
  .of_wp fun prog w A R s h => by
    obtain ⟨hp, g, d, tk, os⟩ := s
    obtain ⟨hl, h⟩ := h
    have f1 := AutoSeq1.idx_int
    wp_walk using wpAny_loadPart' hl
    exact ⟨_, rfl, h⟩
def rRepU (K : PySem.W.Frag) : R2 := fun x y H Q => ∃ l k xs, x = .ref l ∧ y = .int k ∧ SqT K H l xs ∧ xs ≠ [] ∧ 1 ≤ k ∧ k ≤ 1000 ∧ xs.length ≤ 1000 ∧ (k = 1 → Q (.ref l) H) ∧ (2 ≤ k → ∀ p, H p = none → Q (.ref p) (upd H p (.tup (List.replicate k.toNat xs).flatten)))
section
variable {X : Cx}
theorem op_repU : OpR X (binaryOp .Mult) (rRepU X.K) := by
  intro pins s σ H x y v u Q I rx ry h
  obtain ⟨l, k, xs, rfl, rfl, hT, hne, h1, h2, hz, q1, q2⟩ := h
  by_cases hk : k = 1
  · subst hk
    cases rx
    obtain ⟨t, rfl⟩ := ry
    obtain ⟨its, r, ⟨⟨cls, dd, data, sl⟩, ho, hc, n, hd⟩, hs⟩ := I.tuple hT
    simp only at hc hd
    subst hc hd
    refine wpAny_binaryOp_repeat_ref (T := "tuple") (U := "int") (by decide) ⟨_, ho, rfl⟩ (fun s' => typeIs_int s' 1 t) noFill_tuple_mul F.fills_int_mul F.slot_int_rmul repeat_tuple F.slot_int_index.lookup
      (call_meets F.slot_int_rmul (typeIs_int s 1 t) F.entry_int_rmul (F.args_int_rmul_2 _ _) (int_rmul_tuple 1 t l its.toArray n dd sl)
        ⟨ho, rfl, ⟨_, ho, rfl⟩, call_meets F.slot_tuple_mul ⟨_, ho, rfl⟩ F.entry_tuple_mul (F.args_tuple_mul_2 _ _) (tuple_mul1 l its.toArray n sl dd t) ⟨ho, ?_⟩⟩)
    exact ⟨.ref l, H, I, rfl, q1 rfl⟩
  · exact op_repT pins s σ H _ _ v u Q I rx ry ⟨l, k, xs, rfl, rfl, hT, hne, by omega, h2, hz, q2 (by omega)⟩
end
/-- t * n, n from 1 on -/
theorem repU {K : PySem.W.Frag} {H : Hp} {a c : Addr} {x : V} {ds : List PyData} {m : Int} {Q : VK} (n : Nat) (hm : (n : Int) = m) (hp : PotAt H a c) (hx : Dq K (sans H a) x (.tuple ds)) (h0 : ds ≠ []) (h1 : ds.length ≤ 1000) (n1 : 1 ≤ n) (n3 : n ≤ 1000)
    (q : ∀ (H' : Hp) (v : V), Same H H' → Dq K (sans H' a) v (.tuple (List.replicate n ds).flatten) → Q v H') : rRepU K x (.int m) H Q := by
  subst hm
  obtain ⟨p, xs, rfl, h2, h3⟩ := hx.items
  refine ⟨p, (n : Int), xs, rfl, rfl, seqT sans_same h2, fun e => h0 (h3.nil_iff.mp e), by omega, by omega, by rw [h3.length]; exact h1, fun e => ?_, fun _ u nu => ?_⟩
  · obtain rfl : n = 1 := by omega
    rw [List.replicate_one, List.flatten_cons, List.flatten_nil, List.append_nil] at q
    exact q H _ (Same.refl H) hx
  · rw [Int.toNat_natCast]
    exact q _ _ (same_new nu) (new_tup hp nu (h3.reps n))
theorem rep_mem' {α : Type} {n : Nat} {l : List α} {x : α} (h : x ∈ (List.replicate n l).flatten) : x ∈ l := by
  obtain ⟨k, hk, hx⟩ := List.mem_flatten.mp h
  rw [(List.mem_replicate.mp hk).2] at hx
  exact hx
theorem rep_len {α : Type} {n : Nat} {l : List α} : (List.replicate n l).flatten.length = n * l.length := by
  rw [List.length_flatten, List.map_replicate, List.sum_replicate_nat]
end Lk
namespace Lk
open PySem PySem.Spec PyProof.Rows L2 G
/-- a pick from a new list of data -/
theorem pick_new {K : PySem.W.Frag} {H : Hp} {a c l : Addr} {xs : List V} {ds : List PyData} {Q : VK} (hp : Pot K H a c) (nl : H l = none) (h : DqAll K (sans H a) xs ds) (h0 : ds ≠ []) (h1 : ds.length < 1073741824)
    (q : ∀ (H' : Hp) (x : V) (d : PyData), Sm a H H' → Pot K H' a c → d ∈ ds → Dq K (sans H' a) x d → Q x H') : spPick K [.ref a, .ref l] (upd H l (.lst xs)) Q E0 := by
  refine ⟨a, c, .ref l, xs, rfl, hp.new nl, fun e => h0 (h.nil_iff.mp e), .inl ⟨l, rfl, SqL.of (sans_of (hp.ne nl) upd_same)⟩, by rw [h.length]; exact h1, fun H' x sm hp' hx => ?_⟩
  obtain ⟨d, hd, hq⟩ := h.mem hx
  have s : Sm a H H' := (Sm.new nl).trans sm
  exact q H' x d s hp' hd (hq.mono s)
/-- a text of data -/
def Txt (n : Nat) (z : Str) : Prop := z.length ≤ n ∧ ∀ c ∈ z.cps.toList, c < 1000
theorem Txt.q {k : Bool} {m n B : Nat} {z : Str} (h : Txt n z) (hB : n ≤ B) : Qk k m B (.str z) := .str (Nat.le_trans h.1 hB) h.2
theorem Txt.line {n : Nat} {z : Str} (h : Txt n z) (hn : n ≤ 1000000) : z.length ≤ sizeLine := Nat.le_trans h.1 (Nat.le_trans hn (by decide))
theorem txt_empty (n : Nat) : Txt n "" := ⟨Nat.zero_le _, fun c h => by cases h⟩
theorem Txt.rep {n m : Nat} {z : Str} (h : Txt n z) {B : Nat} (hB : m * n ≤ B) : Txt B (repS z m) := ⟨by
  rw [repS_len]
  exact Nat.le_trans (Nat.mul_le_mul (Nat.le_refl _) h.1) hB, fun c hc => h.2 c (rep_mem hc)⟩
end Lk
namespace Lk
open PySem PySem.Spec PyProof.Rows L2 G
/-- a new tuple of data behind the pot, the heap by a name -/
theorem tupK {K : PySem.W.Frag} {H : Hp} {a c p : Addr} {xs : List V} {ds : List PyData} (hp : Pot K H a c) (np : H p = none) (h : DqAll K (sans H a) xs ds) :
    ∃ H', H' = upd H p (.tup xs) ∧ Same H H' ∧ Dq K (sans H' a) (.ref p) (.tuple ds) ∧ Pot K H' a c := ⟨_, rfl, same_new np, new_tup hp.at_ np h, hp.new np⟩
theorem lstK {K : PySem.W.Frag} {H : Hp} {a c p : Addr} {xs : List V} {ds : List PyData} (hp : Pot K H a c) (np : H p = none) (h : DqAll K (sans H a) xs ds) :
    ∃ H', H' = upd H p (.lst xs) ∧ Same H H' ∧ Dq K (sans H' a) (.ref p) (.list ds) ∧ Pot K H' a c ∧ H' p = some (.lst xs) := ⟨_, rfl, same_new np, new_lst hp.at_ np h, hp.new np, upd_same⟩
theorem empK {K : PySem.W.Frag} {H : Hp} {a c p : Addr} (hp : Pot K H a c) (np : H p = none) :
    ∃ H', H' = upd H p (.dK []) ∧ Same H H' ∧ Dq K (sans H' a) (.ref p) (.dict []) ∧ Pot K H' a c := ⟨_, rfl, same_new np, new_emp hp.at_ np, hp.new np⟩
end Lk

/-! Clauses that keep the error under a name, several of them. -/
namespace Lk
open PySem PySem.Spec PyProof.Rows L2 G
abbrev Suite := Addr → Value → Option Addr → TS
/-- behind a clause its name is gone -/
def goneEnds (i : Nat) (D : Ends) : Ends where
  nx := fun z K => D.nx (z.set i none) K
  rt := D.rt
  bk := fun z K => D.bk (z.set i none) K
  ct := fun z K => D.ct (z.set i none) K
/-- what clauses with names wish of an error -/
def wClauses (K : PySem.W.Frag) (Wout : WX) (D : Ends) : List (Value × Nat × Suite) → WX
  | [] => Wout
  | (c, i, ts) :: r => fun cls d σ H => ∃ b, PySem.W.exmOne K cls c = some b ∧
      (b = true → ∀ a, H a = none → ts a cls d (goneEnds i D) (σ.set i (some (.ref a))) H) ∧ (b = false → wClauses K Wout D r cls d σ H)
inductive Clauses (X : Cx) : List ExceptHandler → List (Value × Nat × Suite) → Prop
  | none : Clauses X [] []
  | more {x n : Str} {c : Value} {i : Nat} {ts : Suite} {st : Stmt} {sts : List Stmt} {p1 p2 : Pos} {hds : List ExceptHandler} {l : List (Value × Nat × Suite)}
      (nm : Names X x c) (nd : X.N.Nodup) (sl : X.N[i]? = some n) (lo : X.env.kindOf n = some .local)
      (su : ∀ (a : Addr) (oe : Obj) (cls : Value) (d : Option Addr) (pn : List (Addr × Obj)), Zc cls d oe → (∃ vs, oe.data = .fields vs) → PSs (X.suite a ((a, oe) :: pn)) (st :: sts) (ts a cls d))
      (rest : Clauses X hds l) : Clauses X (.ExceptHandler (some (.Name x p1)) (some n) (st :: sts) p2 :: hds) ((c, i, ts) :: l)
section
variable {X : Cx} {body : List Stmt} {h₀ : ExceptHandler} {hds : List ExceptHandler} {l : List (Value × Nat × Suite)} {pos : Pos} {tb : WX → TS} {Wout : WX}
theorem ps_try_names (hs : X.stack = X.env :: X.outer) (hf : X.env.frame = some X.env.locals) (tk : Takes X Wout)
    (hb : ∀ (W : WX) (pn : List (Addr × Obj)) (xe : Value → Shared → Prop), Takes (X.tr pn xe) W → PassesOwn (model X.prog X.w) X.A X.env xe → PSs (X.tr pn xe) body (tb W))
    (cl : Clauses X (h₀ :: hds) l) : PS X (.Try body (h₀ :: hds) [] [] pos) (fun D σ H => tb (wClauses X.K Wout D l) D σ H) := by
  constructor
  intro pins s σ H D I h
  have ok := I.ok
  have fr : X.A.frames = some (X.env :: X.outer) := hs ▸ ok.frames
  let caught : Value → Shared → Prop := fun e s₁ => wpAny (model X.prog X.w) X.A (noteFrame e X.env)
    (fun _ s₂ => wpAny (model X.prog X.w) X.A (setFlight e none)
      (fun _ s₃ => wpAny (model X.prog X.w) X.A (handleBy e X.env (h₀ :: hds)) (SP X pins D) X.xe s₃) X.xe s₂) X.xe s₁
  have takes : Takes (X.tr (X.pn ++ pins) caught) (wClauses X.K Wout D l) := by
    rintro u s2 ⟨a, B, sI, pins2, σ2, H2, cls, d, rfl, J2, nb, up, sky, na, os, ag, wish⟩
    have J : Inv X pins σ2 H2 sI := J2.ofTry ok
    have sky2 : Sky B (X.env :: X.outer) a (Zc cls d) X.env.locals s2.heap := by
      rw [← hs]
      exact sky
    show wpAny (model X.prog X.w) X.A (noteFrame (.ref a) X.env) _ _ _
    refine Sky.land Zc.steady fr hf sky2 fun g land rise => ?_
    have J3 : Inv X pins σ2 H2 { s2 with heap := g } := J.landed nb land.1 (up.trans rise) os ag
    obtain ⟨oe, fs, there, zc, dt⟩ := land.there
    have out : a ∉ frs (X.env :: X.outer) := fun m => by
      obtain ⟨_, o, e, n⟩ := land.2.2.1.mem m
      cases there.symm.trans e
      exact n _ dt
    have out1 : a ≠ X.env.locals := fun z => out (List.mem_filterMap.mpr ⟨X.env, List.mem_cons_self .., by rw [hf, z]⟩)
    have out2 : a ∉ X.fs := fun m => by
      obtain ⟨e, me, q⟩ := List.mem_filterMap.mp m
      exact out (List.mem_filterMap.mpr ⟨e, List.mem_cons_of_mem _ me, q⟩)
    have inside := J3.suite there dt na out1 out2
    have steps : ∀ {hs2 : List ExceptHandler} {l2 : List (Value × Nat × Suite)}, Clauses X hs2 l2 → wClauses X.K Wout D l2 cls d σ2 H2 →
        wpAny (model X.prog X.w) X.A (handleBy (.ref a) X.env hs2) (SP X pins D) X.xe { s2 with heap := g } := by
      intro hs2 l2 c2
      induction c2 with
      | none =>
        intro wish
        refine wpAny_handleBy_nil ?_
        obtain ⟨_, _, _, ob, us, T, _, _, hob, _, hdat, h1, _⟩ := id land
        have onward : wpAny (model X.prog X.w) X.A (setFlight (.ref a) X.env.frame)
            (fun _ s4 => wpAny (model X.prog X.w) X.A (throw (.ref a) : Sem Flow) (SP X pins D) X.xe s4) X.xe { s2 with heap := g } := by
          rw [hf]
          refine HandSPX.setFlight_upZ land fun g4 sk4 up4 => wpAny_throw (tk _ _ ?_)
          refine ⟨a, B, sI, pins, σ2, H2, cls, d, rfl, J, nb, (up.trans rise).trans up4, .inr (.inr ?_), na, os, ag, wish⟩
          rw [hs]
          exact sk4
        unfold PySem.passOn
        refine wpAny_bind (wpAny_field hob hdat h1 ?_)
        have ne : ¬ ((Value.ref T == Value.none) = true) := by simp
        rw [if_neg ne]
        first
          | exact wpAny_bind onward
          | exact wpAny_bind (wpAny_pure (wpAny_bind onward))
      | @more x n c i ts st sts p1 p2 hds2 l3 nm nd sl lo su rest ih =>
        rintro ⟨b, eb, yes, no⟩
        refine wpAny_handleBy_cons (codeAny_handlers_test ?_) (by intro q; cases q)
        have looks : PySem.W.Looks (model X.prog X.w) g (typeOf (.ref a)) cls := fun _ _ _ _ k q => wpAny_typeOf_ref (k _ _ there) (zc.1.symm ▸ q)
        have asks := PySem.W.exm_one (M := model X.prog X.w) J3.kIn looks eb
        have named : ∀ {Q E : Value → Shared → Prop}, Q c { s2 with heap := g } →
            wpAny (model X.prog X.w) (X.A.mark (some (.ref a))) (eval (.Name x p1) X.env) Q E { s2 with heap := g } := by
          intro Q E q
          obtain ⟨g1, g2, g3⟩ := nm
          rcases g3 with m | ⟨m, v, w⟩
          · exact ld_glob (X := X.suite a ((a, oe) :: (X.pn ++ pins))) inside g1 m q g2
          · exact ld_blt (X := X.suite a ((a, oe) :: (X.pn ++ pins))) inside g1 m v q w g2
        refine named (asks.here ?_)
        cases b with
        | false => exact ih (no rfl)
        | true =>
          refine codeAny_handlers_suite_as ?_
          refine HandSPX.lands_againZ land fun g4 land4 rise4 => ?_
          have J4 : Inv X pins σ2 H2 { s2 with heap := g4 } := J.landed nb land4.1 ((up.trans rise).trans rise4) os ag
          obtain ⟨oe4, fs4, there4, zc4, dt4⟩ := land4.there
          have S4 := J4.suite there4 dt4 na out1 out2
          refine store_ok (X := X.suite a ((a, oe4) :: (X.pn ++ pins))) (v := .ref a) S4 nd sl (.inl lo) rfl (fun s5 S5 => ?_) (.inr lo)
          refine wpAny_mono ((su a oe4 cls d (X.pn ++ pins) zc4 ⟨_, dt4⟩).run [] s5 _ H2 _ S5 (yes rfl a na)) (fun f s6 done => ?_) (fun _ _ z => z.elim)
          cases f with
          | next =>
            obtain ⟨_, _, S6, q6⟩ := done
            exact gone_ok (S6.unsuite ok) nd sl lo fun s7 J7 => ⟨_, _, J7, q6⟩
          | brk =>
            obtain ⟨_, _, S6, q6⟩ := done
            exact gone_ok (S6.unsuite ok) nd sl lo fun s7 J7 => ⟨_, _, J7, q6⟩
          | cont =>
            obtain ⟨_, _, S6, q6⟩ := done
            exact gone_ok (S6.unsuite ok) nd sl lo fun s7 J7 => ⟨_, _, J7, q6⟩
          | ret u =>
            obtain ⟨_, _, _, S6, r6, q6⟩ := done
            exact gone_ok (S6.unsuite ok) nd sl lo fun s7 J7 => ⟨_, _, _, J7, r6, q6⟩
    exact steps cl wish
  refine wpAny_Try_except ?_
  refine wpAny_mono ((hb _ (X.pn ++ pins) caught takes PassesOwn.looking).run [] s σ H D (I.toTry _) h) (fun f s1 done => ?_) (fun _ _ he => he)
  cases f with
  | next =>
    obtain ⟨_, _, J, q⟩ := done
    exact wpAny_execs_nil ⟨_, _, J.ofTry ok, q⟩
  | brk =>
    obtain ⟨_, _, J, q⟩ := done
    exact ⟨_, _, J.ofTry ok, q⟩
  | cont =>
    obtain ⟨_, _, J, q⟩ := done
    exact ⟨_, _, J.ofTry ok, q⟩
  | ret u =>
    obtain ⟨_, _, _, J, r, q⟩ := done
    exact ⟨_, _, _, J.ofTry ok, r, q⟩
end
end Lk

/-! Calls of defs that stand in a list; comprehensions with two walks; what expanders are made of. -/
namespace Lk
open PySem PySem.Spec PyProof.Rows L2 G
theorem exm_is {K : PySem.W.Frag} {S C : Addr} {b : Bool} (h1 : PySem.W.subIn K (.ref C) (.type "BaseException") = some true) (h2 : PySem.W.isClsIn K C = true)
    (h3 : PySem.W.typeIn K (.ref C) = some (Value.type "type")) (h4 : PySem.W.subIn K (.ref S) (.ref C) = some b) : PySem.W.exmOne K (.ref S) (.ref C) = some b := by
  have e1 : (PySem.W.subIn K (.ref C) (.type "BaseException") == some true) = true := by
    rw [h1] <;> rfl
  have e2 : ((PySem.W.clsIn K C).isSome && PySem.W.typeIn K (.ref C) == some (Value.type "type")) = true := by
    have h : (PySem.W.clsIn K C).isSome = true := h2
    rw [h, h3] <;> rfl
  show (if (PySem.W.subIn K (.ref C) (.type "BaseException") == some true) = true then (if ((PySem.W.clsIn K C).isSome && PySem.W.typeIn K (.ref C) == some (Value.type "type")) = true then PySem.W.subIn K (.ref S) (.ref C) else none) else none) = some b
  rw [if_pos e1, if_pos e2]
  exact h4
/-- a def with its promise, of a level up to k -/
structure HeldX (P : Program) (w : World) (K : PySem.W.Frag) (mg : Str → Option Value) (base : Heap) (k : Nat) (f : Addr) (sp : Sp) : Prop where
  ex : ∃ (fd : FuncData) (ps : List Str) (j : Nat), FnOk P w K mg base (L2.CX P w) j f fd ps sp ∧ j ≤ k ∧ PySem.W.keepIn K (.ref f) = true ∧ Binds K fd ps []
def tCallE (S : Addr → Sp → Prop) (E : XK) (t0 : TE) (t : TA) : TE := fun σ H Q => t0 σ H fun v H1 => ∃ f sp, v = .ref f ∧ S f sp ∧ t σ H1 fun vs H2 => sp vs H2 Q E
theorem eval_call_sub (o i : Expr) (p : Pos) (args : List Expr) (ks : List Keyword) (pos : Pos) (env : Env) :
    eval (.Call (.Subscript o i p) args ks pos) env = (do callWith pos (← eval (.Subscript o i p) env) [] (backTo pos (starEach args env)) (backToKw pos (keywordEach ks env))) := rfl
section
variable {X : Cx} {k : Nat} {E : XK} {o i e : Expr} {es : List Expr} {p pos : Pos} {t0 : TE} {t : TA} {S : Addr → Sp → Prop}
theorem pe_callE (A : ∀ f sp, S f sp → HeldX X.prog X.w X.K X.mg X.base k f sp) (hr : Room k X.A) (h0 : PE X (.Subscript o i p) t0) (hx : Passes (L2.CX X.prog X.w) X E) (ha : PA X (e :: es) t)
    (he : starEach (e :: es) X.env = (false, eval e X.env) :: starEach es X.env := by rfl) (hpl : (backTo pos (starEach es X.env)).any (·.1) = false := by rfl) :
    PE X (.Call (.Subscript o i p) (e :: es) [] pos) (tCallE S E t0 t) := by
  constructor
  intro pins s σ H Q I h
  rw [eval_call_sub]
  refine wpAny_bind (thn (h0.run pins s σ H _ I h) fun u s1 got => ?_)
  obtain ⟨v, H1, I1, r1, f, sp, rfl, hS, ht⟩ := got
  cases r1
  obtain ⟨fd, ps, j, F, hj, kp, b⟩ := (A f sp hS).ex
  refine PySem.W.callWith_K (h₀ := X.base) I1.ok.mod.kin kp (thn (ha.run pos pins s1 σ _ _ I1 ht) fun us s2 args => ?_) he hpl
  obtain ⟨vs, H2, I2, r, q⟩ := args
  refine ⟨I2.kIn, run_fn F (hr.mono hj) b .nil hx I2 r ?_⟩
  rw [List.append_nil]
  exact q
end
section
variable {K : PySem.W.Frag} {a b D : Addr} {xs ys : List V} {g g1 : TG} {tt tt1 : TT} {wi1 : TI} {te : TE} {vs vs1 : List Nat} {σ σ2 : L2.St} {H1 H4 : Hp} {Qd Nx : Hp → Prop}
/-- the outer walk of two, over a tuple -/
theorem lc2_out (Pv : Nat → Hp → Prop) (h0 : Pv 0 (upd H1 D (.lst []))) (hl : ∀ i H, i ≤ xs.length → Pv i H → SqT K H a xs)
    (hs : ∀ i x H, xs[i]? = some x → Pv i H → g x (wipe σ vs) H fun σ2 H2 => wipe σ2 vs = wipe σ vs ∧ tt σ2 H2 fun b H3 =>
      if b = true then wi1 σ2 H3 fun J1 H4 => ∃ W1 : Nat → Nat → Hp → Prop, (∃ m, W1 0 m H4) ∧ ∀ j k H, W1 j k H →
        (J1.stop j H ∧ Pv (i + 1) H) ∨ (J1.go j H ∧ ∃ Nx1 : Hp → Prop, (∀ H', Nx1 H' → ∃ k', k' < k ∧ W1 (j + 1) k' H') ∧ ∀ x H', J1.yld j H x H' → g1 x (wipe σ2 vs1) H' fun σ3 H5 => wipe σ3 vs1 = wipe σ2 vs1 ∧ tt1 σ3 H5 fun b H6 =>
          if b = true then te σ3 H6 fun y H7 => ∃ acc, H7 D = some (.lst acc) ∧ acc.length < sizeLine ∧ Nx1 (upd H7 D (.lst (acc ++ [y]))) else Nx1 H6)
      else Pv (i + 1) H3)
    (hd : ∀ H, Pv xs.length H → Qd H) :
    ∃ W : Nat → Nat → Hp → Prop, (∃ m, W 0 m (upd H1 D (.lst []))) ∧ ∀ i m H, W i m H →
      ((Itt K a).stop i H ∧ Qd H) ∨ ((Itt K a).go i H ∧ ∃ Nx : Hp → Prop, (∀ H', Nx H' → ∃ m', m' < m ∧ W (i + 1) m' H') ∧ ∀ x H', (Itt K a).yld i H x H' → g x (wipe σ vs) H' fun σ2 H2 => wipe σ2 vs = wipe σ vs ∧ tt σ2 H2 fun b H3 =>
        if b = true then wi1 σ2 H3 fun J1 H4 => ∃ W1 : Nat → Nat → Hp → Prop, (∃ m, W1 0 m H4) ∧ ∀ j k H, W1 j k H →
          (J1.stop j H ∧ Nx H) ∨ (J1.go j H ∧ ∃ Nx1 : Hp → Prop, (∀ H', Nx1 H' → ∃ k', k' < k ∧ W1 (j + 1) k' H') ∧ ∀ x H', J1.yld j H x H' → g1 x (wipe σ2 vs1) H' fun σ3 H5 => wipe σ3 vs1 = wipe σ2 vs1 ∧ tt1 σ3 H5 fun b H6 =>
            if b = true then te σ3 H6 fun y H7 => ∃ acc, H7 D = some (.lst acc) ∧ acc.length < sizeLine ∧ Nx1 (upd H7 D (.lst (acc ++ [y]))) else Nx1 H6)
        else Nx H3) := by
  refine ⟨fun i m H => m = xs.length - i ∧ i ≤ xs.length ∧ Pv i H, ⟨xs.length, rfl, Nat.zero_le _, h0⟩, ?_⟩
  rintro i m H ⟨rfl, le, p⟩
  have q := hl i H le p
  by_cases lt : i < xs.length
  · refine .inr ⟨⟨xs, xs[i], q, List.getElem?_eq_getElem lt⟩, Pv (i + 1), fun H' p' => ⟨_, by omega, rfl, lt, p'⟩, ?_⟩
    rintro x H' ⟨rfl, y⟩
    exact hs i x _ (y xs q) p
  · obtain rfl : i = xs.length := by omega
    exact .inl ⟨⟨xs, q, Nat.le_refl _⟩, hd H p⟩
/-- the inner walk of two, over a tuple -/
theorem lc2_in (Pw : Nat → Hp → Prop) (h0 : Pw 0 H4) (hl : ∀ j H, j ≤ ys.length → Pw j H → SqT K H b ys)
    (hs : ∀ j y H, ys[j]? = some y → Pw j H → g1 y (wipe σ2 vs1) H fun σ3 H5 => wipe σ3 vs1 = wipe σ2 vs1 ∧ tt1 σ3 H5 fun b H6 =>
      if b = true then te σ3 H6 fun y H7 => ∃ acc, H7 D = some (.lst acc) ∧ acc.length < sizeLine ∧ Pw (j + 1) (upd H7 D (.lst (acc ++ [y]))) else Pw (j + 1) H6)
    (hd : ∀ H, Pw ys.length H → Nx H) :
    ∃ W1 : Nat → Nat → Hp → Prop, (∃ m, W1 0 m H4) ∧ ∀ j k H, W1 j k H →
      ((Itt K b).stop j H ∧ Nx H) ∨ ((Itt K b).go j H ∧ ∃ Nx1 : Hp → Prop, (∀ H', Nx1 H' → ∃ k', k' < k ∧ W1 (j + 1) k' H') ∧ ∀ x H', (Itt K b).yld j H x H' → g1 x (wipe σ2 vs1) H' fun σ3 H5 => wipe σ3 vs1 = wipe σ2 vs1 ∧ tt1 σ3 H5 fun b H6 =>
        if b = true then te σ3 H6 fun y H7 => ∃ acc, H7 D = some (.lst acc) ∧ acc.length < sizeLine ∧ Nx1 (upd H7 D (.lst (acc ++ [y]))) else Nx1 H6) := by
  refine ⟨fun j m H => m = ys.length - j ∧ j ≤ ys.length ∧ Pw j H, ⟨ys.length, rfl, Nat.zero_le _, h0⟩, ?_⟩
  rintro j m H ⟨rfl, le, p⟩
  have q := hl j H le p
  by_cases lt : j < ys.length
  · refine .inr ⟨⟨ys, ys[j], q, List.getElem?_eq_getElem lt⟩, Pw (j + 1), fun H' p' => ⟨_, by omega, rfl, lt, p'⟩, ?_⟩
    rintro y H' ⟨rfl, z⟩
    exact hs j y _ (z ys q) p
  · obtain rfl : j = ys.length := by omega
    exact .inl ⟨⟨ys, q, Nat.le_refl _⟩, hd H p⟩
end
end Lk
namespace Lk
open PySem PySem.Spec PyProof.Rows L2 G
/-! ### data that == takes -/
structure Eqb (n : Nat) (d : PyData) : Prop where
  lay : d.canLay0 = true
  dep : d.depth ≤ n
theorem Eqb.mono {n m : Nat} {d : PyData} (h : Eqb n d) (e : n ≤ m) : Eqb m d := ⟨h.lay, Nat.le_trans h.dep e⟩
theorem Eqb.shaped {n : Nat} {d : PyData} (h : Eqb n d) (e : n ≤ 64) : SeqAt.shaped d = true := by
  unfold SeqAt.shaped
  rw [h.lay, decide_eq_true (Nat.le_trans h.dep e)]
  rfl
theorem Eqb.none {n : Nat} : Eqb n .none := ⟨by simp only [PyData.canLay0], by simp only [PyData.depth]; exact Nat.zero_le _⟩
theorem Eqb.bool {n : Nat} (b : Bool) : Eqb n (.bool b) := ⟨by simp only [PyData.canLay0], by simp only [PyData.depth]; exact Nat.zero_le _⟩
theorem Eqb.int {n : Nat} (i : Int) : Eqb n (.int i) := ⟨by simp only [PyData.canLay0], by simp only [PyData.depth]; exact Nat.zero_le _⟩
theorem Eqb.str {n : Nat} {z : Str} (h : ∀ c ∈ z.cps.toList, c < 1000) : Eqb n (.str z) := ⟨by
  simp only [PyData.canLay0]
  unfold PyData.strOk
  rw [Array.all_eq_true_iff_forall_mem]
  exact fun c hc => decide_eq_true (Nat.lt_trans (h c (Array.mem_toList_iff.mpr hc)) (by decide)), by simp only [PyData.depth]; exact Nat.zero_le _⟩
theorem eqb_all {n : Nat} : ∀ {ds : List PyData}, (∀ d ∈ ds, Eqb n d) → PyData.canLayAll0 ds = true ∧ PyData.depthAll ds ≤ n
  | [], _ => ⟨by simp only [PyData.canLayAll0], by simp only [PyData.depthAll]; exact Nat.zero_le _⟩
  | d :: ds, h => by
    obtain ⟨a, b⟩ := eqb_all (ds := ds) fun e he => h e (List.mem_cons_of_mem _ he)
    have c := h d (List.mem_cons_self ..)
    refine ⟨?_, ?_⟩
    · simp only [PyData.canLayAll0]
      rw [c.lay, a]
      rfl
    · simp only [PyData.depthAll]
      exact Nat.max_le.mpr ⟨c.dep, b⟩
theorem Eqb.tup {n : Nat} {ds : List PyData} (h : ∀ d ∈ ds, Eqb n d) : Eqb (n + 1) (.tuple ds) := ⟨by
  simp only [PyData.canLay0]
  exact (eqb_all h).1, by
  simp only [PyData.depth]
  have := (eqb_all h).2
  omega⟩
theorem Eqb.lst {n : Nat} {ds : List PyData} (h : ∀ d ∈ ds, Eqb n d) : Eqb (n + 1) (.list ds) := ⟨by
  simp only [PyData.canLay0]
  exact (eqb_all h).1, by
  simp only [PyData.depth]
  have := (eqb_all h).2
  omega⟩
mutual
theorem Dq.dp {K : PySem.W.Frag} {H : Hp} : ∀ {v : V} {d : PyData}, Dq K H v d → d.canLay0 = true → Dp K H v d
  | _, _, .non, _ => .non
  | _, _, .bl b, _ => .bl b
  | _, _, .int i, _ => .int i
  | _, _, .str x, _ => .str x
  | _, _, .lst h t, e => .lst h (DqAll.dp t (by simp only [PyData.canLay0] at e; exact e))
  | _, _, .tup h t, e => .tup h (DqAll.dp t (by simp only [PyData.canLay0] at e; exact e))
  | _, _, .emp h, e => by simp only [PyData.canLay0] at e; cases e
theorem DqAll.dp {K : PySem.W.Frag} {H : Hp} : ∀ {vs : List V} {ds : List PyData}, DqAll K H vs ds → PyData.canLayAll0 ds = true → DpAll K H vs ds
  | _, _, .nil, _ => .nil
  | _, _, .cons h t, e => by
    simp only [PyData.canLayAll0, Bool.and_eq_true] at e
    exact .cons (Dq.dp h e.1) (DqAll.dp t e.2)
end
/-- x == y of data -/
theorem eqDq {K : PySem.W.Frag} {H : Hp} {x y : V} {d e : PyData} {n m : Nat} {Q : VK} (hx : Dq K H x d) (hy : Dq K H y e) (ed : Eqb n d) (ee : Eqb m e) (hn : n ≤ 64) (hm : m ≤ 64) (q : Q (.bl (PyData.eqv d e)) H) : rEqD K x y H Q :=
  ⟨d, e, hx.dp ed.lay, hy.dp ee.lay, ed.shaped hn, ee.shaped hm, q⟩
theorem neDq {K : PySem.W.Frag} {H : Hp} {x y : V} {d e : PyData} {n m : Nat} {Q : VK} (hx : Dq K H x d) (hy : Dq K H y e) (ed : Eqb n d) (ee : Eqb m e) (hn : n ≤ 64) (hm : m ≤ 64) (q : Q (.bl (!PyData.eqv d e)) H) : rNeD K x y H Q :=
  ⟨d, e, hx.dp ed.lay, hy.dp ee.lay, ed.shaped hn, ee.shaped hm, q⟩
/-! ### what expanders are made of -/
theorem isNone_of {d : PyData} (h : isNone d = true) : d = .none := by
  cases d with
  | none => rfl
  | _ => cases h
theorem shortB_parts {z : Str} {d : PyData} (h : shortB z d = true) : ∃ w, d = .str w ∧ allIn z w = true ∧ w.length ≤ 2000 := by
  cases d with
  | str w =>
    have h : (allIn z w && decide (w.length ≤ 2000)) = true := h
    rw [Bool.and_eq_true, decide_eq_true_eq] at h
    exact ⟨w, rfl, h.1, h.2⟩
  | _ => cases h
theorem moveB_parts {z : Str} {n : Int} {d : PyData} (h : (isNone d || moveB z n d) = true) : d = .none ∨ ∃ (a b : Str) (g : Nat), d = .tuple [.str a, .str b, .int (g : Int)] ∧ (allIn z a = true ∧ a.length ≤ 2000) ∧ (allIn z b = true ∧ b.length ≤ 2000) ∧ (g : Int) < n := by
  rcases Bool.or_eq_true_iff.mp h with h | h
  · exact .inl (isNone_of h)
  · right
    match d, h with
    | .tuple [a, b, c], h =>
      have h : (shortB z a && (shortB z b && countB n c)) = true := h
      rw [Bool.and_eq_true, Bool.and_eq_true] at h
      obtain ⟨h1, h2, h3⟩ := h
      obtain ⟨x, rfl, p⟩ := shortB_parts h1
      obtain ⟨y, rfl, q⟩ := shortB_parts h2
      cases c with
      | int i =>
        have h3 : (decide (0 ≤ i) && decide (i < n)) = true := h3
        rw [Bool.and_eq_true, decide_eq_true_eq, decide_eq_true_eq] at h3
        obtain ⟨g, rfl⟩ := Int.eq_ofNat_of_zero_le h3.1
        exact ⟨x, y, g, rfl, p, q, h3.2⟩
      | _ => cases h3
theorem stateB_parts {z : Str} {n : Int} {d : PyData} (h : stateB z n d = true) : ∃ (ms : List PyData) (l : PyData), d = .tuple [.tuple ms, l] ∧ ms.length = z.length ∧ (l = .none ∨ ∃ w, l = .str w ∧ allIn z w = true ∧ w.length ≤ 2000) ∧ ∀ m ∈ ms, (isNone m || moveB z n m) = true := by
  unfold stateB at h
  split at h
  · rename_i ms l
    rw [Bool.and_eq_true, Bool.and_eq_true, decide_eq_true_eq, List.all_eq_true] at h
    refine ⟨ms, l, rfl, h.1, ?_, h.2.2⟩
    rcases Bool.or_eq_true_iff.mp h.2.1 with h | h
    · exact .inl (isNone_of h)
    · exact .inr (shortB_parts h)
  · cases h
theorem expB_parts {d : PyData} (h : expB d = true) : ∃ (z f : Str) (ss : List PyData), d = .tuple [.str z, .str f, .tuple ss] ∧ SignsP z ∧ (allIn z f = true ∧ f.length ≤ 2000) ∧ 1 ≤ ss.length ∧ ss.length ≤ 60 ∧ ∀ s ∈ ss, stateB z (ss.length : Nat) s = true := by
  unfold expB at h
  split at h
  · rename_i z f t
    rw [Bool.and_eq_true, Bool.and_eq_true] at h
    obtain ⟨h1, h2, h3⟩ := h
    obtain ⟨w, rfl, p⟩ := shortB_parts h2
    unfold statesB at h3
    split at h3
    · rename_i ss
      rw [Bool.and_eq_true, Bool.and_eq_true, decide_eq_true_eq, decide_eq_true_eq, List.all_eq_true] at h3
      exact ⟨z, w, ss, rfl, h1, p, h3.1.1, h3.1.2, h3.2⟩
    · cases h3
  · cases h
end Lk
namespace Lk
open PySem PySem.Spec PyProof.Rows L2 G
/-- what is drawn is an expander -/
theorem WordOf.short {z w : Str} {n : Nat} (h : WordOf z w n) (hn : n ≤ 2000) : shortB z (.str w) = true := by
  show (allIn z w && decide (w.length ≤ 2000)) = true
  rw [Bool.and_eq_true, decide_eq_true_eq]
  refine ⟨?_, Nat.le_trans h.1 hn⟩
  unfold allIn
  rw [List.all_eq_true]
  intro c hc
  rw [List.contains_iff_mem]
  exact h.2 c hc
theorem MoveD.ok {z : Str} {n : Nat} {d : PyData} (h : MoveD z n d) : (isNone d || moveB z (n : Nat) d) = true := by
  rcases h with rfl | ⟨a, b, g, rfl, ha, hb, hg⟩
  · rfl
  · show (shortB z (.str a) && (shortB z (.str b) && (decide (0 ≤ (g : Int)) && decide ((g : Int) < (n : Nat))))) = true
    rw [ha.short (by decide), hb.short (by decide), decide_eq_true (show (0 : Int) ≤ (g : Int) by omega), decide_eq_true (show (g : Int) < (n : Nat) by omega)]
    rfl
theorem StateD.ok {z : Str} {n : Nat} {d : PyData} (h : StateD z n d) : stateB z (n : Nat) d = true := by
  obtain ⟨ms, l, rfl, e, hm, hl⟩ := h
  show (decide (ms.length = z.length) && ((isNone l || shortB z l) && ms.all fun m => isNone m || moveB z (n : Nat) m)) = true
  have a1 : (ms.all fun m => isNone m || moveB z (n : Nat) m) = true := List.all_eq_true.mpr fun m h => (hm m h).ok
  have a2 : (isNone l || shortB z l) = true := by
    rcases hl with rfl | ⟨w, rfl, hw⟩
    · rfl
    · rw [hw.short (by decide), Bool.or_true]
  rw [a1, a2, decide_eq_true e]
  rfl
theorem ExpD.ok {d : PyData} (h : ExpD d) : expB d = true := by
  obtain ⟨z, f, ss, rfl, hz, hf, l1, l4, hss⟩ := h
  show (signsB (.str z) && (shortB z (.str f) && ((decide (1 ≤ ss.length) && decide (ss.length ≤ 60)) && ss.all (stateB z (ss.length : Nat))))) = true
  have a1 : ss.all (stateB z (ss.length : Nat)) = true := List.all_eq_true.mpr fun s h => (hss s h).ok
  have a0 : signsB (.str z) = true := hz.1
  rw [a0, a1, hf.short (by decide), decide_eq_true l1, decide_eq_true (show ss.length ≤ 60 by omega)]
  rfl
theorem DqAll.ix {K : PySem.W.Frag} {H : Hp} {xs : List V} {ds : List PyData} {i : Nat} {d : PyData} (h : DqAll K H xs ds) (e : ds[i]? = some d) : ∃ x, xs[i]? = some x ∧ Dq K H x d := by
  have hi : i < ds.length := (List.getElem?_eq_some_iff.mp e).1
  have hx : i < xs.length := by rw [h.length]; exact hi
  have ex := List.getElem?_eq_getElem hx
  obtain ⟨d', e', q⟩ := h.get ex
  rw [e] at e'
  cases e'
  exact ⟨_, ex, q⟩
end Lk

/-! Drawn data are data that == takes. -/
namespace Lk
open PySem PySem.Spec PyProof.Rows L2 G
theorem eqv_nil (ds : List PyData) : PyData.eqv (.list ds) (.list []) = decide (ds = []) := by
  cases ds with
  | nil => simp [PyData.eqv, PyData.eqvAll]
  | cons n r => simp [PyData.eqv, PyData.eqvAll]
theorem MoveD.eqb {z : Str} {n : Nat} {d : PyData} (h : MoveD z n d) (hz : ∀ c ∈ z.cps.toList, c < 1000) : Eqb 1 d := by
  rcases h with rfl | ⟨a, b, g, rfl, ha, hb, hg⟩
  · exact .none
  · refine .tup (n := 0) fun d hd => ?_
    simp only [List.mem_cons, List.not_mem_nil, or_false] at hd
    rcases hd with rfl | rfl | rfl
    · exact .str fun c hc => hz c (ha.2 c hc)
    · exact .str fun c hc => hz c (hb.2 c hc)
    · exact .int _
theorem StateD.eqb {z : Str} {n : Nat} {d : PyData} (h : StateD z n d) (hz : ∀ c ∈ z.cps.toList, c < 1000) : Eqb 3 d := by
  obtain ⟨ms, l, rfl, _, hm, hl⟩ := h
  refine .tup (n := 2) fun d hd => ?_
  simp only [List.mem_cons, List.not_mem_nil, or_false] at hd
  rcases hd with rfl | rfl
  · exact .tup fun m h => (hm m h).eqb hz
  · rcases hl with rfl | ⟨w, rfl, hw⟩
    · exact .none
    · exact .str fun c hc => hz c (hw.2 c hc)
theorem ExpD.eqb {d : PyData} (h : ExpD d) : Eqb 5 d := by
  obtain ⟨z, f, ss, rfl, hz, hf, _, _, hss⟩ := h
  have zc := hz.small.2.2
  refine .tup (n := 4) fun d hd => ?_
  simp only [List.mem_cons, List.not_mem_nil, or_false] at hd
  rcases hd with rfl | rfl | rfl
  · exact .str zc
  · exact .str fun c hc => zc c (hf.2 c hc)
  · exact .tup fun s h => (hss s h).eqb zc
theorem eqv_same {d : PyData} {n : Nat} (h : Eqb n d) : (!PyData.eqv d d) = false := by
  rw [SeqAt.eqv_refl d h.lay]
  rfl
theorem letter_lt {z : Str} (h : SignsP z) : ∀ c ∈ z.cps.toList, 97 ≤ c := by
  have h : (allIn "abcdefghijklmnopqrstuvwxyz" z && ((decide (1 ≤ z.length) && decide (z.length ≤ 4)) && Ls.ascB z)) = true := h
  rw [Bool.and_eq_true] at h
  intro c hc
  have := List.all_eq_true.mp h.1 c hc
  rw [List.contains_iff_mem] at this
  have all : ∀ c ∈ ("abcdefghijklmnopqrstuvwxyz" : Str).cps.toList, 97 ≤ c := by decide +kernel
  exact all c this
end Lk

/-! Runs, told of data: the stand behind a step. -/
namespace Lk
open PySem PySem.Spec PyProof.Rows L2 G
theorem str_cases (b : Str) : b = "" ∨ ∃ c r, b = tx (c :: r) := by
  have e : b = tx b.cps.toList := str_ext (by rw [tx_codes])
  cases h : b.cps.toList with
  | nil =>
    left
    rw [e, h]
    rfl
  | cons c r =>
    right
    exact ⟨c, r, by rw [e, h]⟩
theorem cutS_from (z : Str) (n : Nat) : cutS z (some (n : Int)) none = tx (z.cps.toList.drop n) := by
  unfold cutS
  rw [HT.sIx_nat, HT.sIx_none]
  have l : z.cps.toList.length = z.length := by simp [Str.length]
  refine str_ext ?_
  rw [tx_codes]
  show ((z.cps.toList.drop _).take _) = _
  by_cases h : n ≤ z.length
  · rw [Nat.min_eq_left h, List.take_of_length_le (by rw [List.length_drop, l]; exact Nat.le_refl _)]
  · rw [Nat.min_eq_right (by omega), List.drop_eq_nil_of_le (by rw [l]; exact Nat.le_refl _), List.drop_eq_nil_of_le (by rw [l]; omega), List.take_nil]
def movesOf : PyData → List PyData
  | .tuple [.tuple ms, _] => ms
  | _ => []
/-- the move for a state and a sign -/
def moveD (z : Str) (ss : List PyData) (s c : Nat) : PyData :=
  match Builtin.Str.occurrences z (Ls.one c) 0 z.length 1 with
  | k :: _ => (movesOf (ss.getD s .none)).getD k .none
  | [] => .none
def stepM (a : Str) (r : List Nat) : PyData → Option (Str × Str × Nat)
  | .tuple [.str x, .str y, .int g] => some (a ++ x, y ++ tx r, g.toNat)
  | _ => none
/-- the stand behind a step -/
def nextD (z : Str) (ss : List PyData) (a b : Str) (s : Nat) : Option (Str × Str × Nat) :=
  match b.cps.toList with
  | [] => none
  | c :: r => stepM a r (moveD z ss s c)
def standD (p : Str × Str × Nat) : PyData := .tuple [.str p.1, .str p.2.1, .int (p.2.2 : Int)]
def whyK (b : Str) : Str := match b.cps.toList with
  | [] => "ends"
  | _ :: _ => "breaks"
def whyT (b : Str) (s : Nat) : List PyData := match b.cps.toList with
  | [] => []
  | c :: _ => [.tuple [.int (s : Int), .str (Ls.one c)]]
def afterD (z : Str) (ss : List PyData) (a b : Str) (s : Nat) : PyData := match nextD z ss a b s with
  | some p => standD p
  | none => .list [.str (whyK b), .list (whyT b s)]
/-- what is known of states of an expander -/
def StatesOk (z : Str) (ss : List PyData) : Prop := SignsP z ∧ 1 ≤ ss.length ∧ ss.length ≤ 60 ∧ ∀ s ∈ ss, stateB z (ss.length : Nat) s = true
theorem place_in {z : Str} {ss : List PyData} {s c : Nat} (h : StatesOk z ss) (hs : s < ss.length) (hc : c ∈ z.cps.toList) :
    ∃ (ms : List PyData) (l : PyData) (k : Nat) (rest : List Nat), ss[s]? = some (.tuple [.tuple ms, l]) ∧ Builtin.Str.occurrences z (Ls.one c) 0 z.length 1 = k :: rest ∧ ms[k]? = some (moveD z ss s c) ∧ (isNone (moveD z ss s c) || moveB z (ss.length : Nat) (moveD z ss s c)) = true := by
  have es := List.getElem?_eq_getElem hs
  obtain ⟨ms, l, e, lms, _, hms⟩ := stateB_parts (h.2.2.2 ss[s] (List.getElem_mem hs))
  obtain ⟨k, rest, ho, hk⟩ := place_of hc
  have hk' : k < ms.length := by omega
  have em : moveD z ss s c = ms[k] := by
    unfold moveD
    rw [ho]
    show (movesOf (ss.getD s .none)).getD k .none = _
    have eg : ss.getD s .none = .tuple [.tuple ms, l] := by
      rw [List.getD_eq_getElem?_getD, es]
      exact e
    rw [eg]
    show ms.getD k .none = _
    rw [List.getD_eq_getElem?_getD, List.getElem?_eq_getElem hk']
    rfl
  refine ⟨ms, l, k, rest, by rw [es, e], ho, by rw [em]; exact List.getElem?_eq_getElem hk', ?_⟩
  rw [em]
  exact hms _ (List.getElem_mem hk')
theorem one_tx (c : Nat) : Ls.one c = tx [c] := rfl
theorem next_empty (z : Str) (ss : List PyData) (a : Str) (s : Nat) : nextD z ss a "" s = none := rfl
theorem next_cons (z : Str) (ss : List PyData) (a : Str) (c : Nat) (r : List Nat) (s : Nat) : nextD z ss a (tx (c :: r)) s = stepM a r (moveD z ss s c) := by
  unfold nextD
  rw [tx_codes]
/-- a stand of these signs and states, of no more than n signs -/
structure Stood (z : Str) (m n : Nat) (p : Str × Str × Nat) : Prop where
  done : p.1.length ≤ n
  doneIn : allIn z p.1 = true
  front : p.2.1.length ≤ n
  frontIn : allIn z p.2.1 = true
  state : p.2.2 < m
theorem allIn_mem {z w : Str} (h : allIn z w = true) : ∀ c ∈ w.cps.toList, c ∈ z.cps.toList := fun c hc => by
  have := List.all_eq_true.mp h c hc
  rwa [List.contains_iff_mem] at this
theorem allIn_of {z w : Str} (h : ∀ c ∈ w.cps.toList, c ∈ z.cps.toList) : allIn z w = true := by
  unfold allIn
  rw [List.all_eq_true]
  intro c hc
  rw [List.contains_iff_mem]
  exact h c hc
theorem allIn_cat {z a b : Str} (ha : allIn z a = true) (hb : allIn z b = true) : allIn z (a ++ b) = true := allIn_of fun c hc => by
  rw [cat_codes] at hc
  rcases List.mem_append.mp hc with h | h
  · exact allIn_mem ha c h
  · exact allIn_mem hb c h
theorem Stood.next {z : Str} {ss : List PyData} {n : Nat} {p q : Str × Str × Nat} (ok : StatesOk z ss) (h : Stood z ss.length n p) (e : nextD z ss p.1 p.2.1 p.2.2 = some q) : Stood z ss.length (n + 2000) q := by
  obtain ⟨a, b, s⟩ := p
  obtain ⟨h1, h2, h3, h4, h5⟩ := h
  rcases str_cases b with rfl | ⟨c, r, rfl⟩
  · cases e
  · have e : nextD z ss a (tx (c :: r)) s = some q := e
    rw [next_cons] at e
    have hc : c ∈ z.cps.toList := allIn_mem h4 c (by rw [tx_codes]; exact List.mem_cons_self ..)
    obtain ⟨ms, l, k, rest, _, _, _, e4⟩ := place_in ok h5 hc
    generalize moveD z ss s c = md at e e4
    rcases moveB_parts e4 with rfl | ⟨x, y, g, rfl, ⟨hx, lx⟩, ⟨hy, ly⟩, hg⟩
    · cases e
    · have e := Option.some.inj e
      subst e
      have h3 : (tx (c :: r)).length ≤ n := h3
      rw [tx_len] at h3
      refine ⟨?_, allIn_cat h2 hx, ?_, allIn_cat hy (allIn_of fun d hd => ?_), ?_⟩
      · show (a ++ x).length ≤ n + 2000
        rw [cat_len]
        exact Nat.add_le_add h1 lx
      · show (y ++ tx r).length ≤ n + 2000
        have e1 : (y ++ tx r).length = y.length + (tx r).length := by rw [cat_len]
        have e2 : (tx r).length = r.length := tx_len r
        have e3 : r.length ≤ n := Nat.le_trans (Nat.le_succ _) h3
        rw [e1, e2, Nat.add_comm]
        exact Nat.add_le_add e3 ly
      · rw [tx_codes] at hd
        exact allIn_mem h4 d (by rw [tx_codes]; exact List.mem_cons_of_mem _ hd)
      · show (g : Int).toNat < ss.length
        omega
end Lk
namespace Lk
open PySem PySem.Spec PyProof.Rows L2 G
/-- __init__ of NoOutcome with a list: a copy of it is kept; the dict and the copy are new -/
def spInitR (K : PySem.W.Frag) (C : Addr) (f g : Str) : Sp := fun vs H Q _ => ∃ (a l : Addr) (v : V) (xs : List V), vs = [.ref a, v, .ref l] ∧ H a = some (exo a C none) ∧ SqL K H l xs ∧
  ∀ (H' : Hp) (d n : Addr), But a H H' → H' a = some (exo a C (some d)) → H' d = some (exd d [(g, .ref n), (f, v)]) → H' n = some (.lst xs) → H n = none → H d = none → Q .non H'
end Lk
namespace Lk
open PySem PySem.Spec PyProof.Rows L2 G
theorem exd_ne_lst {e : Addr} {fs : List (Str × V)} {xs : List V} : exd e fs ≠ .lst xs := fun z => by
  have z' : HO.ext _ = HO.lst xs := z
  cases z'
/-- NoOutcome is wished for: its kind, and at n a new list, the thread -/
def noOutE (K : PySem.W.Frag) (C : Addr) (E : XK) (H : Hp) (kind : Str) (th : List PyData) : Prop :=
  ∀ (H' : Hp) (d n : Addr), Same H H' → H' d = some (.xd [("thread", .ref n), ("kind", .str kind)]) → Dq K H' (.ref n) (.list th) → E (.ref C) (some d) H'
theorem noOutE.mono {K : PySem.W.Frag} {C : Addr} {E : XK} {H H1 : Hp} {kind : Str} {th : List PyData} (h : noOutE K C E H kind th) (s : Same H H1) : noOutE K C E H1 kind th := fun H' d n s' => h H' d n (Same.trans s s')
theorem raise_out {K : PySem.W.Frag} {C l : Addr} {E : XK} {H : Hp} {kind : Str} {xs : List V} {th : List PyData} (hl : H l = some (.lst xs)) (hA : DqAll K H xs th) (k : noOutE K C E H kind th) :
    [V.str kind, .ref l].length ≤ 1000 ∧ ∀ a, H a = none → spInitR K C "kind" "thread" (.ref a :: ([V.str kind, .ref l] ++ [])) (upd H a (exo a C none))
      (fun v H2 => v = .non ∧ ∃ (d : Addr) (fs : List (Str × V)), H2 a = some (exo a C (some d)) ∧ H2 d = some (exd d fs) ∧ H d = none ∧ E (.ref C) (some d) (upd (del H2 a) d (.xd fs))) (fun _ _ _ => False) := by
  refine ⟨(by show 2 ≤ 1000; decide), fun a na => ?_⟩
  refine ⟨a, l, .str kind, xs, rfl, upd_same, SqL.of ((upd_ne (ne_of_none hl na)).trans hl), fun H2 d n bt ha hd hn fn fd => ?_⟩
  have nna : n ≠ a := fun e => by
    rw [e, upd_same] at fn
    cases fn
  have nda : d ≠ a := fun e => by
    rw [e, upd_same] at fd
    cases fd
  have nnd : n ≠ d := fun e => by
    rw [e, hd] at hn
    exact exd_ne_lst (Option.some.inj hn)
  have fd' : H d = none := (upd_ne nda).symm.trans fd
  have s : Same H (upd (del H2 a) d (.xd [("thread", .ref n), ("kind", .str kind)])) := fun b o e => by
    have ba : b ≠ a := ne_of_none e na
    rw [upd_ne (ne_of_none e fd'), del_ne ba]
    exact bt b o ba ((upd_ne ba).trans e)
  refine ⟨rfl, d, _, ha, hd, fd', k _ d n s upd_same ?_⟩
  refine .lst (SqL.of ?_) (hA.mono s)
  rw [upd_ne nnd, del_ne nna]
  exact hn
end Lk
namespace Lk
open PySem PySem.Spec PyProof.Rows L2 G
theorem standV {K : PySem.W.Frag} {H : Hp} {st : V} {a b : Str} {s : Nat} (h : Dq K H st (standD (a, b, s))) : ∃ p, st = .ref p ∧ SqT K H p [.str a, .str b, .int (s : Int)] := by
  obtain ⟨p, xs, rfl, hp, hq⟩ := h.items
  obtain ⟨x1, ys, rfl, h1, hq⟩ := hq.one
  obtain ⟨x2, ys, rfl, h2, hq⟩ := hq.one
  obtain ⟨x3, ys, rfl, h3, hq⟩ := hq.one
  obtain rfl := hq.none
  obtain rfl := h1.strV
  obtain rfl := h2.strV
  obtain rfl := h3.intV
  exact ⟨p, rfl, hp⟩
theorem tx_cons_ne {c : Nat} {r : List Nat} (e : tx (c :: r) = "") : False := by
  have h : (tx (c :: r)).length = ("" : Str).length := congrArg (fun x : Str => x.length) e
  rw [tx_len] at h
  exact Nat.succ_ne_zero _ h
end Lk

/-! Stands: sizes, and that == takes them. -/
namespace Lk
open PySem PySem.Spec PyProof.Rows L2 G
theorem Stood.mono {z : Str} {m n n' : Nat} {p : Str × Str × Nat} (h : Stood z m n p) (e : n ≤ n') : Stood z m n' p := ⟨Nat.le_trans h.done e, h.doneIn, Nat.le_trans h.front e, h.frontIn, h.state⟩
theorem Stood.q {z : Str} {m n : Nat} {p : Str × Str × Nat} {k : Bool} (h : Stood z m n p) (hz : ∀ c ∈ z.cps.toList, c < 1000) (hm : m ≤ 4) (hn : 3 ≤ n) : Qk k 1 (3 * (n + 1)) (standD p) := by
  have hs := h.state
  refine tup3 (k := k) (n := 0) (B := n) (.str h.done fun c hc => hz c (allIn_mem h.doneIn c hc)) (.str h.front fun c hc => hz c (allIn_mem h.frontIn c hc)) (.int (by omega) (by omega) hn) (Nat.le_refl _)
theorem Stood.eqb {z : Str} {m n : Nat} {p : Str × Str × Nat} (h : Stood z m n p) (hz : ∀ c ∈ z.cps.toList, c < 1000) : Eqb 1 (standD p) := by
  refine .tup (n := 0) fun d hd => ?_
  simp only [List.mem_cons, List.not_mem_nil, or_false] at hd
  rcases hd with rfl | rfl | rfl
  · exact .str fun c hc => hz c (allIn_mem h.doneIn c hc)
  · exact .str fun c hc => hz c (allIn_mem h.frontIn c hc)
  · exact .int _
theorem after_eqb {z : Str} {ss : List PyData} {n : Nat} {a b : Str} {s : Nat} (ok : StatesOk z ss) (h : Stood z ss.length n (a, b, s)) : Eqb 3 (afterD z ss a b s) := by
  have hz := ok.1.small.2.2
  unfold afterD
  cases e : nextD z ss a b s with
  | some q => exact ((h.next ok e).eqb hz).mono (by decide)
  | none =>
    refine .lst (n := 2) fun d hd => ?_
    simp only [List.mem_cons, List.not_mem_nil, or_false] at hd
    rcases str_cases b with rfl | ⟨c, r, rfl⟩
    · rcases hd with rfl | rfl
      · exact .str (by show ∀ c ∈ (("ends" : Str)).cps.toList, c < 1000; decide +kernel)
      · exact .lst (n := 1) fun d hd => (List.not_mem_nil (show d ∈ ([] : List PyData) from hd)).elim
    · have hc : c ∈ z.cps.toList := allIn_mem h.frontIn c (by show c ∈ (tx (c :: r)).cps.toList; rw [tx_codes]; exact List.mem_cons_self ..)
      have e5 : whyK (tx (c :: r)) = "breaks" := by
        unfold whyK
        rw [tx_codes]
      have e6 : whyT (tx (c :: r)) s = [.tuple [.int (s : Int), .str (Ls.one c)]] := by
        unfold whyT
        rw [tx_codes]
      rw [e5, e6] at hd
      rcases hd with rfl | rfl
      · exact .str (by decide +kernel)
      · refine .lst (n := 1) fun d hd => ?_
        rw [List.mem_singleton.mp hd]
        refine .tup (n := 0) fun d hd => ?_
        simp only [List.mem_cons, List.not_mem_nil, or_false] at hd
        rcases hd with rfl | rfl
        · exact .int _
        · refine .str fun c' hc' => ?_
          rw [one_tx, tx_codes] at hc'
          rw [List.mem_singleton.mp hc']
          exact hz c hc
theorem ExpD.states {z f : Str} {ss : List PyData} (h : ExpD (.tuple [.str z, .str f, .tuple ss])) : StatesOk z ss := by
  obtain ⟨z', f', ss', e, h1, h2, l1, l4, hs⟩ := h
  cases e
  exact ⟨h1.1, l1, by omega, fun s hs' => (hs s hs').ok⟩
theorem list_out {K : PySem.W.Frag} {H : Hp} {p L : Addr} {ys : List V} {ds : List PyData} (eP : H p = some (.lst ys)) (ne : L ≠ p) (h : Dq K H (.ref L) (.list ds)) (hf : ∀ d ∈ ds, hasList d = false) : Dq K (sans H p) (.ref L) (.list ds) := by
  cases h with
  | lst h1 h2 =>
    refine .lst ?_ (h2.out eP (hasListAll_of hf))
    rcases h1 with (h | ⟨o, h⟩) | h
    · exact .inl (.inl (sans_of ne h))
    · exact .inl (.inr ⟨o, sans_of ne h⟩)
    · exact .inr h
theorem standD_flat (q : Str × Str × Nat) : hasList (standD q) = false := by
  unfold standD
  simp [hasList, hasListAll]
theorem Dq.listV {K : PySem.W.Frag} {H : Hp} {v : V} {ds : List PyData} (h : Dq K H v (.list ds)) : ∃ L xs, v = .ref L ∧ SqL K H L xs ∧ DqAll K H xs ds := by
  cases h with
  | lst h1 h2 => exact ⟨_, _, rfl, h1, h2⟩
theorem allIn_not {z w : Str} {c : Nat} (hc : c ∈ w.cps.toList) (h : c ∉ z.cps.toList) : allIn z w = false := by
  rw [Bool.eq_false_iff]
  exact fun e => h (allIn_mem e c hc)
end Lk

namespace K10
open PySem PySem.Spec PyProof.Rows L2 G Lk
/-! ### the text by places -/
def top (i : Nat) : Stmt := PySem.Challenge.pw_rescans_k10_runs.main.body.getD i (.Pass ⟨0, 0, 0, 0⟩)
abbrev s_is_word : Stmt := top 8
abbrev N_is_word : List Str := ["signs", "thing"]
theorem sc_is_word : FnScope N_is_word ["signs", "thing"] (defScope s_is_word) := ⟨rfl, rfl, rfl, by decide +kernel, rfl, by decide +kernel, by decide +kernel⟩
abbrev s_is_text : Stmt := top 9
abbrev N_is_text : List Str := ["signs", "thing"]
theorem sc_is_text : FnScope N_is_text ["signs", "thing"] (defScope s_is_text) := ⟨rfl, rfl, rfl, by decide +kernel, rfl, by decide +kernel, by decide +kernel⟩
abbrev s_need_text : Stmt := top 10
abbrev N_need_text : List Str := ["signs", "thing"]
theorem sc_need_text : FnScope N_need_text ["signs", "thing"] (defScope s_need_text) := ⟨rfl, rfl, rfl, by decide +kernel, rfl, by decide +kernel, by decide +kernel⟩
abbrev s_is_expander : Stmt := top 16
abbrev N_is_expander : List Str := ["thing", "signs", "first", "states"]
theorem sc_is_expander : FnScope N_is_expander ["thing"] (defScope s_is_expander) := ⟨rfl, rfl, rfl, by decide +kernel, rfl, by decide +kernel, by decide +kernel⟩
abbrev s_need_expander : Stmt := top 17
abbrev N_need_expander : List Str := ["expander"]
theorem sc_need_expander : FnScope N_need_expander ["expander"] (defScope s_need_expander) := ⟨rfl, rfl, rfl, by decide +kernel, rfl, by decide +kernel, by decide +kernel⟩
abbrev s_is_number : Stmt := top 18
abbrev N_is_number : List Str := ["many", "thing"]
theorem sc_is_number : FnScope N_is_number ["many", "thing"] (defScope s_is_number) := ⟨rfl, rfl, rfl, by decide +kernel, rfl, by decide +kernel, by decide +kernel⟩
abbrev s_is_whole : Stmt := top 19
abbrev N_is_whole : List Str := ["thing"]
theorem sc_is_whole : FnScope N_is_whole ["thing"] (defScope s_is_whole) := ⟨rfl, rfl, rfl, by decide +kernel, rfl, by decide +kernel, by decide +kernel⟩
abbrev s_move_of : Stmt := top 20
abbrev N_move_of : List Str := ["expander", "state", "sign"]
theorem sc_move_of : FnScope N_move_of ["expander", "state", "sign"] (defScope s_move_of) := ⟨rfl, rfl, rfl, by decide +kernel, rfl, by decide +kernel, by decide +kernel⟩
abbrev s_are_signs : Stmt := top 21
abbrev N_are_signs : List Str := ["thing"]
theorem sc_are_signs : FnScope N_are_signs ["thing"] (defScope s_are_signs) := ⟨rfl, rfl, rfl, by decide +kernel, rfl, by decide +kernel, by decide +kernel⟩
abbrev s_is_short_word : Stmt := top 22
abbrev N_is_short_word : List Str := ["signs", "thing"]
theorem sc_is_short_word : FnScope N_is_short_word ["signs", "thing"] (defScope s_is_short_word) := ⟨rfl, rfl, rfl, by decide +kernel, rfl, by decide +kernel, by decide +kernel⟩
abbrev s_are_states : Stmt := top 23
abbrev N_are_states : List Str := ["signs", "thing", "state"]
theorem sc_are_states : FnScope N_are_states ["signs", "thing"] (defScope s_are_states) := ⟨rfl, rfl, rfl, by decide +kernel, rfl, by decide +kernel, by decide +kernel⟩
abbrev s_is_state : Stmt := top 24
abbrev N_is_state : List Str := ["signs", "many", "thing", "moves", "last", "move"]
theorem sc_is_state : FnScope N_is_state ["signs", "many", "thing"] (defScope s_is_state) := ⟨rfl, rfl, rfl, by decide +kernel, rfl, by decide +kernel, by decide +kernel⟩
abbrev s_is_move : Stmt := top 25
abbrev N_is_move : List Str := ["signs", "many", "thing", "done", "back", "goal"]
theorem sc_is_move : FnScope N_is_move ["signs", "many", "thing"] (defScope s_is_move) := ⟨rfl, rfl, rfl, by decide +kernel, rfl, by decide +kernel, by decide +kernel⟩
abbrev s_begin : Stmt := top 27
abbrev N_begin : List Str := ["expander", "text"]
theorem sc_begin : FnScope N_begin ["expander", "text"] (defScope s_begin) := ⟨rfl, rfl, rfl, by decide +kernel, rfl, by decide +kernel, by decide +kernel⟩
abbrev s_step : Stmt := top 28
abbrev N_step : List Str := ["expander", "stand", "following", "_", "front", "state"]
theorem sc_step : FnScope N_step ["expander", "stand"] (defScope s_step) := ⟨rfl, rfl, rfl, by decide +kernel, rfl, by decide +kernel, by decide +kernel⟩
abbrev s_stands : Stmt := top 29
abbrev N_stands : List Str := ["expander", "text", "most", "found", "stand"]
theorem sc_stands : FnScope N_stands ["expander", "text", "most"] (defScope s_stands) := ⟨rfl, rfl, rfl, by decide +kernel, rfl, by decide +kernel, by decide +kernel⟩
abbrev s_first_stand : Stmt := top 30
abbrev N_first_stand : List Str := ["expander", "text"]
theorem sc_first_stand : FnScope N_first_stand ["expander", "text"] (defScope s_first_stand) := ⟨rfl, rfl, rfl, by decide +kernel, rfl, by decide +kernel, by decide +kernel⟩
abbrev s_next_stand : Stmt := top 31
abbrev N_next_stand : List Str := ["expander", "stand", "move", "done", "front", "state"]
theorem sc_next_stand : FnScope N_next_stand ["expander", "stand"] (defScope s_next_stand) := ⟨rfl, rfl, rfl, by decide +kernel, rfl, by decide +kernel, by decide +kernel⟩
abbrev s_is_stand : Stmt := top 32
abbrev N_is_stand : List Str := ["expander", "thing", "signs", "_", "states", "done", "front", "state"]
theorem sc_is_stand : FnScope N_is_stand ["expander", "thing"] (defScope s_is_stand) := ⟨rfl, rfl, rfl, by decide +kernel, rfl, by decide +kernel, by decide +kernel⟩
abbrev s_Lkneaded : Stmt := top 34
abbrev N_Lkneaded : List Str := ["seed", "lap", "prime", "amount", "again"]
theorem sc_Lkneaded : FnScope N_Lkneaded ["seed", "lap"] (defScope s_Lkneaded) := ⟨rfl, rfl, rfl, by decide +kernel, rfl, by decide +kernel, by decide +kernel⟩
abbrev s_Lpot_of : Stmt := top 35
abbrev N_Lpot_of : List Str := ["script", "cells", "place", "cell"]
theorem sc_Lpot_of : FnScope N_Lpot_of ["script"] (defScope s_Lpot_of) := ⟨rfl, rfl, rfl, by decide +kernel, rfl, by decide +kernel, by decide +kernel⟩
abbrev s_Lbelow : Stmt := top 36
abbrev N_Lbelow : List Str := ["pot", "bound", "found", "amount", "cells", "place"]
theorem sc_Lbelow : FnScope N_Lbelow ["pot", "bound"] (defScope s_Lbelow) := ⟨rfl, rfl, rfl, by decide +kernel, rfl, by decide +kernel, by decide +kernel⟩
abbrev s_Lpick : Stmt := top 37
abbrev N_Lpick : List Str := ["pot", "items"]
theorem sc_Lpick : FnScope N_Lpick ["pot", "items"] (defScope s_Lpick) := ⟨rfl, rfl, rfl, by decide +kernel, rfl, by decide +kernel, by decide +kernel⟩
abbrev s_Lsome_word : Stmt := top 38
abbrev N_Lsome_word : List Str := ["pot", "signs", "limit", "lap"]
theorem sc_Lsome_word : FnScope N_Lsome_word ["pot", "signs", "limit"] (defScope s_Lsome_word) := ⟨rfl, rfl, rfl, by decide +kernel, rfl, by decide +kernel, by decide +kernel⟩
abbrev s_Lsome_expander : Stmt := top 39
abbrev N_Lsome_expander : List Str := ["pot", "many", "signs", "state", "found", "spans", "count", "kind", "states", "moves", "sign", "last", "back", "done", "move", "call"]
theorem sc_Lsome_expander : FnScope N_Lsome_expander ["pot", "many"] (defScope s_Lsome_expander) := ⟨rfl, rfl, rfl, by decide +kernel, rfl, by decide +kernel, by decide +kernel⟩
abbrev s_Lplainer : Stmt := top 40
abbrev N_Lplainer : List Str := ["state", "move"]
theorem sc_Lplainer : FnScope N_Lplainer ["state"] (defScope s_Lplainer) := ⟨rfl, rfl, rfl, by decide +kernel, rfl, by decide +kernel, by decide +kernel⟩
abbrev s_Lcalls : Stmt := top 41
abbrev N_Lcalls : List Str := ["expander", "found", "state", "sign"]
theorem sc_Lcalls : FnScope N_Lcalls ["expander"] (defScope s_Lcalls) := ⟨rfl, rfl, rfl, by decide +kernel, rfl, by decide +kernel, by decide +kernel⟩
abbrev s_Lsizes : Stmt := top 42
abbrev N_Lsizes : List Str := ["expander", "found", "lap", "state", "sign", "move", "one", "size", "here", "more"]
theorem sc_Lsizes : FnScope N_Lsizes ["expander"] (defScope s_Lsizes) := ⟨rfl, rfl, rfl, by decide +kernel, rfl, by decide +kernel, by decide +kernel⟩
abbrev s_Lafter : Stmt := top 43
abbrev N_Lafter : List Str := ["expander", "stand", "move", "done", "front", "state"]
theorem sc_Lafter : FnScope N_Lafter ["expander", "stand"] (defScope s_Lafter) := ⟨rfl, rfl, rfl, by decide +kernel, rfl, by decide +kernel, by decide +kernel⟩
abbrev s_Ltold : Stmt := top 44
abbrev N_Ltold : List Str := ["expander", "stand", "found", "before", "error"]
theorem sc_Ltold : FnScope N_Ltold ["expander", "stand"] (defScope s_Ltold) := ⟨rfl, rfl, rfl, by decide +kernel, rfl, by decide +kernel, by decide +kernel⟩
abbrev s_Lrun : Stmt := top 45
abbrev N_Lrun : List Str := ["expander", "text", "limit", "found", "lap", "later"]
theorem sc_Lrun : FnScope N_Lrun ["expander", "text", "limit"] (defScope s_Lrun) := ⟨rfl, rfl, rfl, by decide +kernel, rfl, by decide +kernel, by decide +kernel⟩
abbrev s_Llong_right : Stmt := top 46
abbrev N_Llong_right : List Str := ["pot", "word", "loop", "due", "size", "count", "at"]
theorem sc_Llong_right : FnScope N_Llong_right ["pot"] (defScope s_Llong_right) := ⟨rfl, rfl, rfl, by decide +kernel, rfl, by decide +kernel, by decide +kernel⟩
abbrev s_law : Stmt := top 47
abbrev N_law : List Str := ["script", "pot", "turn", "expander", "text", "far", "drawn", "stand", "odd", "wrong", "signs", "count", "due", "limit", "done", "front", "state", "place"]
theorem sc_law : FnScope N_law ["script"] (defScope s_law) := ⟨rfl, rfl, rfl, by decide +kernel, rfl, by decide +kernel, by decide +kernel⟩
/-! ### what the top leaves -/
set_option maxHeartbeats 0 in
structure Tx (K : PySem.W.Frag) (mg : Str → Option Value) where
  a_is_word : Addr
  fd_is_word : FuncData
  g_is_word : mg "is_word" = some (.ref a_is_word)
  F_is_word : Fun K "is_word" "is_word" s_is_word a_is_word fd_is_word
  b_is_word : Binds K fd_is_word ["signs", "thing"] []
  a_is_text : Addr
  fd_is_text : FuncData
  g_is_text : mg "is_text" = some (.ref a_is_text)
  F_is_text : Fun K "is_text" "is_text" s_is_text a_is_text fd_is_text
  b_is_text : Binds K fd_is_text ["signs", "thing"] []
  a_need_text : Addr
  fd_need_text : FuncData
  g_need_text : mg "need_text" = some (.ref a_need_text)
  F_need_text : Fun K "need_text" "need_text" s_need_text a_need_text fd_need_text
  b_need_text : Binds K fd_need_text ["signs", "thing"] []
  a_is_expander : Addr
  fd_is_expander : FuncData
  g_is_expander : mg "is_expander" = some (.ref a_is_expander)
  F_is_expander : Fun K "is_expander" "is_expander" s_is_expander a_is_expander fd_is_expander
  b_is_expander : Binds K fd_is_expander ["thing"] []
  a_need_expander : Addr
  fd_need_expander : FuncData
  g_need_expander : mg "need_expander" = some (.ref a_need_expander)
  F_need_expander : Fun K "need_expander" "need_expander" s_need_expander a_need_expander fd_need_expander
  b_need_expander : Binds K fd_need_expander ["expander"] []
  a_is_number : Addr
  fd_is_number : FuncData
  g_is_number : mg "is_number" = some (.ref a_is_number)
  F_is_number : Fun K "is_number" "is_number" s_is_number a_is_number fd_is_number
  b_is_number : Binds K fd_is_number ["many", "thing"] []
  a_is_whole : Addr
  fd_is_whole : FuncData
  g_is_whole : mg "is_whole" = some (.ref a_is_whole)
  F_is_whole : Fun K "is_whole" "is_whole" s_is_whole a_is_whole fd_is_whole
  b_is_whole : Binds K fd_is_whole ["thing"] []
  a_move_of : Addr
  fd_move_of : FuncData
  g_move_of : mg "move_of" = some (.ref a_move_of)
  F_move_of : Fun K "move_of" "move_of" s_move_of a_move_of fd_move_of
  b_move_of : Binds K fd_move_of ["expander", "state", "sign"] []
  a__are_signs : Addr
  fd__are_signs : FuncData
  g__are_signs : mg "_are_signs" = some (.ref a__are_signs)
  F__are_signs : Fun K "_are_signs" "_are_signs" s_are_signs a__are_signs fd__are_signs
  b__are_signs : Binds K fd__are_signs ["thing"] []
  a__is_short_word : Addr
  fd__is_short_word : FuncData
  g__is_short_word : mg "_is_short_word" = some (.ref a__is_short_word)
  F__is_short_word : Fun K "_is_short_word" "_is_short_word" s_is_short_word a__is_short_word fd__is_short_word
  b__is_short_word : Binds K fd__is_short_word ["signs", "thing"] []
  a__are_states : Addr
  fd__are_states : FuncData
  g__are_states : mg "_are_states" = some (.ref a__are_states)
  F__are_states : Fun K "_are_states" "_are_states" s_are_states a__are_states fd__are_states
  b__are_states : Binds K fd__are_states ["signs", "thing"] []
  a__is_state : Addr
  fd__is_state : FuncData
  g__is_state : mg "_is_state" = some (.ref a__is_state)
  F__is_state : Fun K "_is_state" "_is_state" s_is_state a__is_state fd__is_state
  b__is_state : Binds K fd__is_state ["signs", "many", "thing"] []
  a__is_move : Addr
  fd__is_move : FuncData
  g__is_move : mg "_is_move" = some (.ref a__is_move)
  F__is_move : Fun K "_is_move" "_is_move" s_is_move a__is_move fd__is_move
  b__is_move : Binds K fd__is_move ["signs", "many", "thing"] []
  a_begin : Addr
  fd_begin : FuncData
  g_begin : mg "begin" = some (.ref a_begin)
  F_begin : Fun K "begin" "begin" s_begin a_begin fd_begin
  b_begin : Binds K fd_begin ["expander", "text"] []
  a_step : Addr
  fd_step : FuncData
  g_step : mg "step" = some (.ref a_step)
  F_step : Fun K "step" "step" s_step a_step fd_step
  b_step : Binds K fd_step ["expander", "stand"] []
  a_stands : Addr
  fd_stands : FuncData
  g_stands : mg "stands" = some (.ref a_stands)
  F_stands : Fun K "stands" "stands" s_stands a_stands fd_stands
  ds_stands : List Value
  dv_stands : Vals [V.int 100] ds_stands
  b_stands : Binds K fd_stands ["expander", "text", "most"] ds_stands
  kb_stands : KBn K fd_stands ["expander", "text", "most"] 2 ["most"] (fun us ws => us ++ ws) (fun vs zs => vs ++ zs)
  a__first_stand : Addr
  fd__first_stand : FuncData
  g__first_stand : mg "_first_stand" = some (.ref a__first_stand)
  F__first_stand : Fun K "_first_stand" "_first_stand" s_first_stand a__first_stand fd__first_stand
  b__first_stand : Binds K fd__first_stand ["expander", "text"] []
  a__next_stand : Addr
  fd__next_stand : FuncData
  g__next_stand : mg "_next_stand" = some (.ref a__next_stand)
  F__next_stand : Fun K "_next_stand" "_next_stand" s_next_stand a__next_stand fd__next_stand
  b__next_stand : Binds K fd__next_stand ["expander", "stand"] []
  a__is_stand : Addr
  fd__is_stand : FuncData
  g__is_stand : mg "_is_stand" = some (.ref a__is_stand)
  F__is_stand : Fun K "_is_stand" "_is_stand" s_is_stand a__is_stand fd__is_stand
  b__is_stand : Binds K fd__is_stand ["expander", "thing"] []
  a__law_kneaded : Addr
  fd__law_kneaded : FuncData
  g__law_kneaded : mg "_law_kneaded" = some (.ref a__law_kneaded)
  F__law_kneaded : Fun K "_law_kneaded" "_law_kneaded" s_Lkneaded a__law_kneaded fd__law_kneaded
  b__law_kneaded : Binds K fd__law_kneaded ["seed", "lap"] []
  a__law_pot_of : Addr
  fd__law_pot_of : FuncData
  g__law_pot_of : mg "_law_pot_of" = some (.ref a__law_pot_of)
  F__law_pot_of : Fun K "_law_pot_of" "_law_pot_of" s_Lpot_of a__law_pot_of fd__law_pot_of
  b__law_pot_of : Binds K fd__law_pot_of ["script"] []
  a__law_below : Addr
  fd__law_below : FuncData
  g__law_below : mg "_law_below" = some (.ref a__law_below)
  F__law_below : Fun K "_law_below" "_law_below" s_Lbelow a__law_below fd__law_below
  b__law_below : Binds K fd__law_below ["pot", "bound"] []
  a__law_pick : Addr
  fd__law_pick : FuncData
  g__law_pick : mg "_law_pick" = some (.ref a__law_pick)
  F__law_pick : Fun K "_law_pick" "_law_pick" s_Lpick a__law_pick fd__law_pick
  b__law_pick : Binds K fd__law_pick ["pot", "items"] []
  a__law_some_word : Addr
  fd__law_some_word : FuncData
  g__law_some_word : mg "_law_some_word" = some (.ref a__law_some_word)
  F__law_some_word : Fun K "_law_some_word" "_law_some_word" s_Lsome_word a__law_some_word fd__law_some_word
  b__law_some_word : Binds K fd__law_some_word ["pot", "signs", "limit"] []
  a__law_some_expander : Addr
  fd__law_some_expander : FuncData
  g__law_some_expander : mg "_law_some_expander" = some (.ref a__law_some_expander)
  F__law_some_expander : Fun K "_law_some_expander" "_law_some_expander" s_Lsome_expander a__law_some_expander fd__law_some_expander
  b__law_some_expander : Binds K fd__law_some_expander ["pot", "many"] []
  a__law_plainer : Addr
  fd__law_plainer : FuncData
  g__law_plainer : mg "_law_plainer" = some (.ref a__law_plainer)
  F__law_plainer : Fun K "_law_plainer" "_law_plainer" s_Lplainer a__law_plainer fd__law_plainer
  b__law_plainer : Binds K fd__law_plainer ["state"] []
  a__law_calls : Addr
  fd__law_calls : FuncData
  g__law_calls : mg "_law_calls" = some (.ref a__law_calls)
  F__law_calls : Fun K "_law_calls" "_law_calls" s_Lcalls a__law_calls fd__law_calls
  b__law_calls : Binds K fd__law_calls ["expander"] []
  a__law_sizes : Addr
  fd__law_sizes : FuncData
  g__law_sizes : mg "_law_sizes" = some (.ref a__law_sizes)
  F__law_sizes : Fun K "_law_sizes" "_law_sizes" s_Lsizes a__law_sizes fd__law_sizes
  b__law_sizes : Binds K fd__law_sizes ["expander"] []
  a__law_after : Addr
  fd__law_after : FuncData
  g__law_after : mg "_law_after" = some (.ref a__law_after)
  F__law_after : Fun K "_law_after" "_law_after" s_Lafter a__law_after fd__law_after
  b__law_after : Binds K fd__law_after ["expander", "stand"] []
  a__law_told : Addr
  fd__law_told : FuncData
  g__law_told : mg "_law_told" = some (.ref a__law_told)
  F__law_told : Fun K "_law_told" "_law_told" s_Ltold a__law_told fd__law_told
  b__law_told : Binds K fd__law_told ["expander", "stand"] []
  a__law_run : Addr
  fd__law_run : FuncData
  g__law_run : mg "_law_run" = some (.ref a__law_run)
  F__law_run : Fun K "_law_run" "_law_run" s_Lrun a__law_run fd__law_run
  b__law_run : Binds K fd__law_run ["expander", "text", "limit"] []
  a__law_long_right : Addr
  fd__law_long_right : FuncData
  g__law_long_right : mg "_law_long_right" = some (.ref a__law_long_right)
  F__law_long_right : Fun K "_law_long_right" "_law_long_right" s_Llong_right a__law_long_right fd__law_long_right
  b__law_long_right : Binds K fd__law_long_right ["pot"] []
  a_law : Addr
  fd_law : FuncData
  g_law : mg "law" = some (.ref a_law)
  F_law : Fun K "law" "law" s_law a_law fd_law
  b_law : Binds K fd_law ["script"] []
  z_abs : mg "abs" = none
  z_all : mg "all" = none
  z_bool : mg "bool" = none
  z_enumerate : mg "enumerate" = none
  z_int : mg "int" = none
  z_isinstance : mg "isinstance" = none
  z_len : mg "len" = none
  z_list : mg "list" = none
  z_max : mg "max" = none
  z_range : mg "range" = none
  z_repr : mg "repr" = none
  z_set : mg "set" = none
  z_sorted : mg "sorted" = none
  z_str : mg "str" = none
  z_tuple : mg "tuple" = none
  t_LETTERS : Tok
  m_LETTERS : mg "LETTERS" = some (.str "abcdefghijklmnopqrstuvwxyz" t_LETTERS)
  t_MOST_SIGNS : Tok
  m_MOST_SIGNS : mg "MOST_SIGNS" = some (.int 4 t_MOST_SIGNS)
  t_MOST_STATES : Tok
  m_MOST_STATES : mg "MOST_STATES" = some (.int 60 t_MOST_STATES)
  t_MOST_TEXT : Tok
  m_MOST_TEXT : mg "MOST_TEXT" = some (.int 200 t_MOST_TEXT)
  t_MOST_WORD : Tok
  m_MOST_WORD : mg "MOST_WORD" = some (.int 2000 t_MOST_WORD)
  a_NoExpander : Addr
  g_NoExpander : mg "NoExpander" = some (.ref a_NoExpander)
  a_NoText : Addr
  g_NoText : mg "NoText" = some (.ref a_NoText)
  a_Mismatch : Addr
  g_Mismatch : mg "Mismatch" = some (.ref a_Mismatch)
  a_NoOutcome : Addr
  g_NoOutcome : mg "NoOutcome" = some (.ref a_NoOutcome)
  xi_NoExpander : PySem.W.excIn K a_NoExpander veRest "ValueError.__new__" = true
  k_NoExpander : PySem.W.keepIn K (.ref a_NoExpander) = true
  b_NoExpander : PySem.W.subIn K (.ref a_NoExpander) (.type "BaseException") = some true
  t_NoExpander : PySem.W.typeIn K (.ref a_NoExpander) = some (.type "type")
  xi_NoText : PySem.W.excIn K a_NoText veRest "ValueError.__new__" = true
  k_NoText : PySem.W.keepIn K (.ref a_NoText) = true
  b_NoText : PySem.W.subIn K (.ref a_NoText) (.type "BaseException") = some true
  t_NoText : PySem.W.typeIn K (.ref a_NoText) = some (.type "type")
  xi_Mismatch : PySem.W.excIn K a_Mismatch veRest "ValueError.__new__" = true
  k_Mismatch : PySem.W.keepIn K (.ref a_Mismatch) = true
  b_Mismatch : PySem.W.subIn K (.ref a_Mismatch) (.type "BaseException") = some true
  t_Mismatch : PySem.W.typeIn K (.ref a_Mismatch) = some (.type "type")
  b_NoOutcome : PySem.W.subIn K (.ref a_NoOutcome) (.type "BaseException") = some true
  t_NoOutcome : PySem.W.typeIn K (.ref a_NoOutcome) = some (.type "type")
  o_NoOutcome : OexC K a_NoOutcome
  x_NoOutcome : XfC K a_NoOutcome
  i_NoOutcome : Addr
  if_NoOutcome : FuncData
  ii_NoOutcome : PySem.W.findIn K (.ref a_NoOutcome) "__init__" = some (some (.ref i_NoOutcome))
  it_NoOutcome : PySem.W.typeIn K (.ref i_NoOutcome) = some (.type "function")
  iF_NoOutcome : Fun K "__init__" "NoOutcome.__init__" (inClass (top 2) 0) i_NoOutcome if_NoOutcome
  ib_NoOutcome : Binds K if_NoOutcome ["self", "kind", "thread"] []
  nf_NoOutcome_kind : PySem.W.findIn K (.ref a_NoOutcome) "kind" = some none
  nf_NoOutcome_thread : PySem.W.findIn K (.ref a_NoOutcome) "thread" = some none
  e_NoOutcome_NoOutcome : PySem.W.exmOne K (.ref a_NoOutcome) (.ref a_NoOutcome) = some true
  e_Mismatch_NoOutcome : PySem.W.exmOne K (.ref a_Mismatch) (.ref a_NoOutcome) = some false
  e_Mismatch_Mismatch : PySem.W.exmOne K (.ref a_Mismatch) (.ref a_Mismatch) = some true
end K10

namespace K10
open PySem PySem.Spec PyProof.Rows L2 G Lk
section
variable {P : Program} {w : World} {K : PySem.W.Frag} {mg : Str → Option Value} {base : Heap}
abbrev s_NoOutcome : Stmt := inClass (top 2) 0
theorem sc_NoOutcome : FnScope ["self", "kind", "thread"] ["self", "kind", "thread"] (defScope s_NoOutcome) := ⟨rfl, rfl, rfl, by decide +kernel, rfl, by decide +kernel, by decide +kernel⟩
theorem ok_NoOutcome_init (T : Tx K mg) : FnOk P w K mg base CX0 1 T.i_NoOutcome T.if_NoOutcome ["self", "kind", "thread"] (spInitR K T.a_NoOutcome "kind" "thread") := by
  refine T.iF_NoOutcome.ok sc_NoOutcome (fun vs H Q E h => ?_) (fun cdv A outer s H vs Q E hr h => ?_)
  · obtain ⟨_, _, _, _, rfl, _⟩ := h
    rfl
  · obtain ⟨a, l, v, xs, rfl, ha, hl, q⟩ := h
    refine ⟨_, pss_cons (ps_ost (pv 0) (pv 1)) (pss_one (ps_ost (pv 0) (pe_ifExp (pt_val (pe_callB call_isi (by rfl) T.z_isinstance (by decide +kernel) (pa_cons (pv 2) (pa_cons (pe_bltn (v := .ty "list") (by rfl) T.z_list (by decide +kernel) rfl) pa_nil))))
      (pe_callTy call_list_of (by rfl) T.z_list (by decide +kernel) (pa_cons (pv 2) pa_nil)) (pv 2)))), ?_⟩
    have nla : l ≠ a ∨ K.lookup l ≠ none := by
      rcases hl with (h | ⟨o, h⟩) | ⟨o, its, n, h, _⟩
      · refine .inl fun e => ?_
        rw [e, ha] at h
        exact exo_ne_lst (Option.some.inj h)
      · refine .inl fun e => ?_
        rw [e, ha] at h
        exact exo_frz (Option.some.inj h)
      · exact .inr (by rw [h]; exact Option.some_ne_none _)
    refine ⟨_, rfl, _, rfl, a, T.a_NoOutcome, rfl, T.o_NoOutcome, T.nf_NoOutcome_kind, .inl ⟨ha, fun d nd da => ?_⟩⟩
    have hl1 : SqL K (upd (upd H d (exd d [("kind", v)])) a (exo a T.a_NoOutcome (some d))) l xs := by
      rcases hl with (h | ⟨o, h⟩) | h
      · have n : l ≠ a := fun e => by
          rw [e, ha] at h
          exact exo_ne_lst (Option.some.inj h)
        refine .inl (.inl ?_)
        rw [upd_ne n, upd_ne (ne_of_none h nd)]
        exact h
      · have n : l ≠ a := fun e => by
          rw [e, ha] at h
          exact exo_frz (Option.some.inj h)
        refine .inl (.inr ⟨o, ?_⟩)
        rw [upd_ne n, upd_ne (ne_of_none h nd)]
        exact h
      · exact .inr h
    refine ⟨_, rfl, .ref l, .ty "list", _, _, true, rfl, .ty "list", tyx_seqL hl1, kit_ty kit_list_list, _, rfl, ?_⟩
    refine iteT ⟨_, rfl, l, xs, rfl, .inl hl1, fun n nn => ?_⟩
    have nna : n ≠ a := fun e => by
      rw [e, upd_same] at nn
      cases nn
    have nnd : n ≠ d := fun e => by
      rw [e, upd_ne da, upd_same] at nn
      cases nn
    have nH : H n = none := by
      rw [upd_ne nna, upd_ne nnd] at nn
      exact nn
    refine ⟨_, rfl, a, T.a_NoOutcome, rfl, T.o_NoOutcome, T.nf_NoOutcome_thread, .inr ⟨d, [("kind", v)], by rw [upd_ne nna.symm, upd_same], by rw [upd_ne nnd.symm, upd_ne da, upd_same], (by show 1 ≤ 900; decide), ?_⟩⟩
    refine q _ d n (fun b o nb e => ?_) ?_ upd_same ?_ nH nd
    · rw [upd_ne (ne_of_none e nd), upd_ne (ne_of_none e nH), upd_ne nb, upd_ne (ne_of_none e nd)]
      exact e
    · rw [upd_ne da.symm, upd_ne nna.symm, upd_same]
    · rw [upd_ne nnd, upd_same]
end
end K10

namespace K10
open PySem PySem.Spec PyProof.Rows L2 G Lk
section
variable {P : Program} {w : World} {K : PySem.W.Frag} {mg : Str → Option Value} {base : Heap}
def sp_Lafter (K : PySem.W.Frag) : Sp := fun vs H Q _ => ∃ (v st : V) (z f a b : Str) (s : Nat) (ss : List PyData), vs = [v, st] ∧ Dq K H v (.tuple [.str z, .str f, .tuple ss]) ∧ Dq K H st (standD (a, b, s)) ∧ StatesOk z ss ∧
  s < ss.length ∧ allIn z b = true ∧ a.length ≤ 4000000 ∧ b.length ≤ 4000000 ∧ ∀ H' r, Same H H' → Dq K H' r (afterD z ss a b s) → Q r H'
/-- def _law_after(expander, stand): -/
theorem ok_Lafter (T : Tx K mg) : FnOk P w K mg base CX0 1 T.a__law_after T.fd__law_after ["expander", "stand"] (sp_Lafter K) := by
  refine T.F__law_after.ok sc_Lafter (fun vs H Q E h => ?_) (fun cdv A outer s H vs Q E hr h => ?_)
  · obtain ⟨_, _, _, _, _, _, _, _, rfl, _⟩ := h
    rfl
  · refine ⟨_, (pss_cons (ps_asg (pv 1) (pg_tup rfl (pgs_cons (pg_name (i := 3) sc_Lafter.nd rfl (by first | exact Or.inl rfl | exact Or.inr rfl)) (pgs_cons (pg_name (i := 4) sc_Lafter.nd rfl (by first | exact Or.inl rfl | exact Or.inr rfl)) (pgs_cons (pg_name (i := 5) sc_Lafter.nd rfl (by first | exact Or.inl rfl | exact Or.inr rfl)) pgs_nil)))))
    (pss_cons (ps_if (pt_cmpR op_eq (pv 4) pe_str (nomark _))
      (pss_one (ps_ret (pe_lst (pa_cons pe_str (pa_cons (pe_lst pa_nil) pa_nil)))))
      pss_nil)
    (pss_cons (ps_set (i := 2) sc_Lafter.nd rfl (by first | exact Or.inl rfl | exact Or.inr rfl) (pe_ix ix_tup (pe_ix ix_tup (pe_ix ix_tup (pe_ix ix_tup (pv 0) pe_int (fun _ _ => rfl)) (pv 5) (fun _ _ => rfl)) pe_int (fun _ _ => rfl)) (pe_bm PySem.F.plainAttrs_str PySem.F.slot_str_index PySem.F.type_str_index mt_sindex (pe_ix ix_tup (pv 0) pe_int (fun _ _ => rfl)) (pa_cons (pe_ix ix_str (pv 4) pe_int (fun _ _ => rfl)) pa_nil)) (fun _ _ => rfl)))
    (pss_one (ps_ret (pe_ifExp (pt_cmpR op_isN (pv 2) pe_non (nomark _)) (pe_lst (pa_cons pe_str (pa_cons (pe_lst (pa_cons (pe_tup (pa_cons (pv 5) (pa_cons (pe_ix ix_str (pv 4) pe_int (fun _ _ => rfl)) pa_nil))) pa_nil)) pa_nil))) (pe_tup (pa_cons (pe_op op_add_str (pv 3) (pe_ix ix_tup (pv 2) pe_int (fun _ _ => rfl))) (pa_cons (pe_op op_add_str (pe_ix ix_tup (pv 2) pe_int (fun _ _ => rfl)) (pe_slice sl_str (pv 4) (po_some pe_int) po_none)) (pa_cons (pe_ix ix_tup (pv 2) pe_int (fun _ _ => rfl)) pa_nil)))))))))), ?_⟩
    obtain ⟨v, st, z, f, a, b, s, ss, rfl, hv, hst, ok, hs, hb, la, lb, q⟩ := h
    obtain ⟨p, rfl, hp⟩ := standV hst
    obtain ⟨e0, t, xs, rfl, ht, hts, hA⟩ := expV_of hv
    have hzl : z.length ≤ sizeLine := Nat.le_trans ok.1.small.2.1 (by decide)
    have eaf : ∀ o, nextD z ss a b s = o → afterD z ss a b s = match o with | some p => standD p | none => .list [.str (whyK b), .list (whyT b s)] := fun o e => by
      subst e
      unfold afterD
      first | rfl | (cases nextD z ss a b s <;> rfl)
    refine ⟨_, rfl, p, _, rfl, hp, rfl, _, _, rfl, _, _, rfl, _, _, rfl, rfl, ?_⟩
    refine ⟨_, rfl, rfl, _, rfl, ?_⟩
    rcases str_cases b with rfl | ⟨c, r, rfl⟩
    · refine if_true rfl ?_
      refine ⟨Nat.zero_le _, fun l nl => ?_⟩
      have s1 := same_new (o := .lst []) nl
      have h1 : Dq K (upd H l (.lst [])) (.ref l) (.list []) := .lst (SqL.of upd_same) .nil
      revert s1 h1
      generalize upd H l (.lst []) = H1
      intro s1 h1
      refine ⟨(by show 2 ≤ sizeLine; decide), fun l2 nl2 => ?_⟩
      refine q _ _ (Same.trans s1 (same_new nl2)) ?_
      rw [eaf none rfl]
      exact .lst (SqL.of upd_same) (.cons (.str _) (.cons (h1.mono (same_new nl2)) .nil))
    · refine if_false (decide_eq_false fun e => ?_) ?_
      · injection e with e
        exact tx_cons_ne e
      have hc : c ∈ z.cps.toList := allIn_mem hb c (by rw [tx_codes]; exact List.mem_cons_self ..)
      obtain ⟨ms, l, k, rest, e1, e2, e3, e4⟩ := place_in ok hs hc
      have lbz : (tx (c :: r)).length ≤ sizeLine := Nat.le_trans lb (by decide)
      obtain ⟨sx, esx, hsx⟩ := hA.ix e1
      obtain ⟨ps, us', rfl, hps, hq1⟩ := hsx.items
      obtain ⟨mv, us', rfl, hM, hq1⟩ := hq1.one
      obtain ⟨lv', us'', rfl, hLv, hq1⟩ := hq1.one
      obtain rfl := hq1.none
      obtain ⟨m0, mss, rfl, hm0, hmsA⟩ := hM.items
      obtain ⟨mx, emx, hmx⟩ := hmsA.ix e3
      have ec0 : atI (tx (c :: r)).cps.toList 0 = some c := atI_nat (j := 0) (by rw [tx_codes]; rfl)
      refine ⟨_, rfl, e0, _, 2, _, rfl, rfl, ht, rfl, _, rfl, t, xs, (s : Int), _, rfl, rfl, hts, atI_nat esx, ps, _, 0, _, rfl, rfl, hps, rfl, _, rfl, e0, _, 0, _, rfl, rfl, ht, rfl, rfl, _, rfl, tx (c :: r), _, c, rfl, rfl, lbz, ec0, z, Ls.one c, k, rest, rfl, rfl, e2, m0, mss, (k : Int), _, rfl, rfl, hm0, atI_nat emx, ?_⟩
      refine ⟨_, rfl, rfl, _, rfl, ?_⟩
      have en : nextD z ss a (tx (c :: r)) s = stepM a r (moveD z ss s c) := next_cons ..
      generalize moveD z ss s c = md at en hmx e4
      rcases moveB_parts e4 with rfl | ⟨x, y, g, rfl, ⟨hx, lx⟩, ⟨hy, ly⟩, hg⟩
      · obtain rfl := hmx.noneV
        refine if_true rfl ?_
        refine ⟨_, rfl, _, rfl, tx (c :: r), _, c, rfl, rfl, lbz, ec0, (by show 2 ≤ sizeLine; decide), fun p3 np3 => ?_⟩
        have s3 := same_new (o := .tup [.int (s : Int), .str (tx [c])]) np3
        have h3 : Dq K (upd H p3 (.tup [.int (s : Int), .str (tx [c])])) (.ref p3) (.tuple [.int (s : Int), .str (Ls.one c)]) := .tup (SqT.of upd_same) (.cons (.int _) (.cons (.str _) .nil))
        revert s3 h3
        generalize upd H p3 (.tup [.int (s : Int), .str (tx [c])]) = H3
        intro s3 h3
        refine ⟨(by show 1 ≤ sizeLine; decide), fun l4 nl4 => ?_⟩
        have s4 := same_new (o := .lst [.ref p3]) nl4
        have h4 : Dq K (upd H3 l4 (.lst [.ref p3])) (.ref l4) (.list [.tuple [.int (s : Int), .str (Ls.one c)]]) := .lst (SqL.of upd_same) (.cons (h3.mono s4) .nil)
        revert s4 h4
        generalize upd H3 l4 (.lst [.ref p3]) = H4
        intro s4 h4
        refine ⟨(by show 2 ≤ sizeLine; decide), fun l5 nl5 => ?_⟩
        refine q _ _ (Same.trans s3 (Same.trans s4 (same_new nl5))) ?_
        rw [eaf none en]
        have e5 : whyK (tx (c :: r)) = "breaks" := by
          unfold whyK
          rw [tx_codes]
        have e6 : whyT (tx (c :: r)) s = [.tuple [.int (s : Int), .str (Ls.one c)]] := by
          unfold whyT
          rw [tx_codes]
        show Dq K _ _ (.list [.str (whyK (tx (c :: r))), .list (whyT (tx (c :: r)) s)])
        rw [e5, e6]
        exact .lst (SqL.of upd_same) (.cons (.str _) (.cons (h4.mono (same_new nl5)) .nil))
      · obtain ⟨pm, rfl, hpm⟩ := standV (a := x) (b := y) (s := g) hmx
        refine if_false rfl ?_
        refine ⟨_, rfl, _, rfl, pm, _, 0, _, rfl, rfl, hpm, rfl, a, x, rfl, rfl, Nat.le_trans (Nat.add_le_add la lx) (by decide), ?_⟩
        refine ⟨_, rfl, pm, _, 1, _, rfl, rfl, hpm, rfl, _, rfl, _, rfl, tx (c :: r), rfl, lbz, ?_⟩
        have ec : cutS (tx (c :: r)) (some 1) none = tx r := by
          rw [show (some (1 : Int)) = some ((1 : Nat) : Int) from rfl, cutS_from, tx_codes]
          rfl
        have lr : (tx r).length ≤ 4000000 := by
          rw [tx_len] at lb ⊢
          exact Nat.le_trans (Nat.le_succ _) lb
        rw [ec]
        refine ⟨y, tx r, rfl, rfl, Nat.le_trans (Nat.add_le_add ly lr) (by decide), _, rfl, pm, _, 2, _, rfl, rfl, hpm, rfl, (by show 3 ≤ sizeLine; decide), fun p2 np2 => ?_⟩
        refine q _ _ (same_new np2) ?_
        rw [eaf _ en]
        show Dq K _ (.ref p2) (.tuple [.str (a ++ x), .str (y ++ tx r), .int (((g : Int).toNat : Nat) : Int)])
        rw [Int.toNat_natCast]
        exact .tup (SqT.of upd_same) (.cons (.str _) (.cons (.str _) (.cons (.int _) .nil)))
end
end K10

namespace K10
open PySem PySem.Spec PyProof.Rows L2 G Lk
section
variable {P : Program} {w : World} {K : PySem.W.Frag} {mg : Str → Option Value} {base : Heap}
def sp_Lkneaded (K : PySem.W.Frag) : Sp := fun vs H Q _ => ∃ (a b : Int), vs = [.int a, .int b] ∧ ∀ k : Int, Q (.int k) H
/-- def _law_kneaded(seed, lap): -/
theorem ok_Lkneaded (T : Tx K mg) : FnOk P w K mg base CX0 1 T.a__law_kneaded T.fd__law_kneaded ["seed", "lap"] (sp_Lkneaded K) := by
  refine T.F__law_kneaded.ok sc_Lkneaded (fun vs H Q E h => ?_) (fun cdv A outer s H vs Q E hr h => ?_)
  · obtain ⟨_, _, rfl, _⟩ := h
    rfl
  · refine ⟨_, (pss_cons (ps_set (i := 2) sc_Lkneaded.nd rfl (by first | exact Or.inl rfl | exact Or.inr rfl) pe_int)
    (pss_cons (ps_set (i := 3) sc_Lkneaded.nd rfl (by first | exact Or.inl rfl | exact Or.inr rfl) (pe_op op_mod (pe_callTy call_int1 (by rfl) T.z_int (by decide +kernel) (pa_cons (pe_op op_add (pe_op op_add (pe_op op_mul (pv 0) pe_int) (pe_op op_mul (pv 1) pe_int)) pe_int) pa_nil)) (pv 2)))
    (pss_cons (ps_for PassesOwn.never rfl (pi_range1 (by rfl) T.z_range (pa_cons pe_int pa_nil)) (pg_name (i := 4) sc_Lkneaded.nd rfl (by first | exact Or.inl rfl | exact Or.inr rfl))
      (pss_one (ps_set (i := 3) sc_Lkneaded.nd rfl (by first | exact Or.inl rfl | exact Or.inr rfl) (pe_op op_mod (pe_callTy call_int1 (by rfl) T.z_int (by decide +kernel) (pa_cons (pe_op op_add (pe_op op_add (pe_op op_add (pe_op op_mul (pv 3) (pv 3)) (pe_op op_mul pe_int (pv 3))) (pe_op op_mul pe_int (pv 4))) (pv 1)) pa_nil)) (pv 2)))))
    (pss_one (ps_ret (pe_op op_add (pe_op op_mul (pv 3) (pv 2)) (pe_op op_mod (pe_callTy call_int1 (by rfl) T.z_int (by decide +kernel) (pa_cons (pe_op op_add (pe_op op_mul (pv 3) pe_int) (pv 1)) pa_nil)) (pv 2)))))))), ?_⟩
    obtain ⟨a, b, rfl, q⟩ := h
    have hp : (0 : Int) < 2305843009213693907 := by decide
    have lim : ∀ z : Int, -(2 ^ 64) < z % 2305843009213693907 ∧ z % 2305843009213693907 < 2 ^ 64 := fun z =>
      ⟨Int.lt_of_lt_of_le (by decide) (Int.emod_nonneg z (by decide)), Int.lt_trans (Int.emod_lt_of_pos z hp) (by decide)⟩
    refine ⟨_, rfl, _, _, rfl, rfl, .inr ⟨by decide, by decide⟩, _, rfl, _, _, rfl, rfl, .inr ⟨by decide, by decide⟩, _, _, rfl, rfl, _, _, rfl, rfl, .inl ⟨_, rfl, ?_⟩⟩
    refine ⟨_, rfl, _, _, rfl, rfl, hp, ?_⟩
    refine ⟨4, rfl, by decide, by decide, for_range (n := 4) (fun _ σ H' => ∃ (m : Int) (t : Option V), σ = [some (.int a), some (.int b), some (.int 2305843009213693907), some (.int m), t] ∧ H' = H ∧ -(2 ^ 64) < m ∧ m < 2 ^ 64)
      ⟨_, none, rfl, rfl, (lim _).1, (lim _).2⟩ ?_ ?_⟩
    · rintro i σ H' hi ⟨m, t, rfl, rfl, h1, h2⟩
      refine ⟨_, rfl, _, rfl, _, _, rfl, rfl, .inl ⟨h1, h2⟩, _, rfl, _, _, rfl, rfl, .inl ⟨by decide, by decide⟩, _, _, rfl, rfl, _, rfl, _, _, rfl, rfl, .inl ⟨by decide, by decide⟩, _, _, rfl, rfl, _, rfl, _, _, rfl, rfl, .inl ⟨_, rfl, ?_⟩⟩
      exact ⟨_, rfl, _, _, rfl, rfl, hp, _, _, rfl, rfl, (lim _).1, (lim _).2⟩
    · rintro σ H' ⟨m, t, rfl, rfl, h1, h2⟩
      refine ⟨_, rfl, _, rfl, _, _, rfl, rfl, .inl ⟨h1, h2⟩, _, rfl, _, _, rfl, rfl, .inr ⟨by decide, by decide⟩, _, rfl, _, _, rfl, rfl, .inl ⟨_, rfl, ?_⟩⟩
      exact ⟨_, rfl, _, _, rfl, rfl, hp, _, _, rfl, rfl, q _⟩
end
end K10

namespace K10
open PySem PySem.Spec PyProof.Rows L2 G Lk
section
variable {P : Program} {w : World} {K : PySem.W.Frag} {mg : Str → Option Value} {base : Heap}
def sp_Lbelow (K : PySem.W.Frag) : Sp := spBelow K
/-- def _law_below(pot, bound): -/
theorem ok_Lbelow (T : Tx K mg) : FnOk P w K mg base CX0 2 T.a__law_below T.fd__law_below ["pot", "bound"] (sp_Lbelow K) := by
  refine T.F__law_below.ok sc_Lbelow (fun vs H Q E h => ?_) (fun cdv A outer s H vs Q E hr h => ?_)
  · obtain ⟨_, _, _, rfl, _⟩ := h
    rfl
  · refine ⟨_, (C8.pss_cut (ps_if (pt_cmpR op_lt (pe_ix ix_list (pv 0) pe_int (fun _ _ => rfl)) (pv 1) (nomark _))
      (pss_cons (ps_par (i := 4) (j := 5) (by rfl) sc_Lbelow.nd rfl rfl (by decide) rfl rfl (pa_cons (pe_ix ix_list (pv 0) pe_int (fun _ _ => rfl)) (pa_cons (pe_ix ix_list (pv 0) pe_int (fun _ _ => rfl)) pa_nil)) (by rfl))
    (C8.pss_cut (ps_set (i := 3) sc_Lbelow.nd rfl (by first | exact Or.inl rfl | exact Or.inr rfl) (pe_ifExp (pt_cmpR (op_neD hr.units) (pv 4) (pe_lst pa_nil) (nomark _)) (pe_ix ix_list (pv 4) (pe_op op_mod (pv 5) (pe_callB call_len_seq (by rfl) T.z_len PySem.boot_len (pa_cons (pv 4) pa_nil))) (fun _ _ => rfl)) pe_int))
    (C8.pss_cut (ps_if (PW.pt (pw_or (pt_cmpR op_ge (pv 5) (pe_callB call_len_seq (by rfl) T.z_len PySem.boot_len (pa_cons (pv 4) pa_nil)) (nomark _)) (pw_or1 (pt_cmpR op_lt (pv 3) (pe_op op_pow pe_int pe_int) (nomark _)))))
      (pss_one (ps_set (i := 3) sc_Lbelow.nd rfl (by first | exact Or.inl rfl | exact Or.inr rfl) (pe_call (ok_Lkneaded T) (hr.mono (by decide)) (by rfl) T.g__law_kneaded T.F__law_kneaded.kp T.b__law_kneaded .nil pass0 (pa_cons (pe_op op_mod (pe_callTy call_int1 (by rfl) T.z_int (by decide +kernel) (pa_cons (pv 3) pa_nil)) pe_int) (pa_cons (pv 5) pa_nil)))))
      pss_nil)
    (pss_cons (ps_asg (pe_op op_add (pv 5) pe_int) (pg_sub (pv 0) pe_int set_list))
    (pss_cons (ps_asg (pv 3) (pg_sub (pv 0) pe_int set_list))
    (pss_one (ps_asg (pv 3) (pg_sub (pv 0) pe_int set_list))))))))
      pss_nil)
    (pss_cons (ps_set (i := 2) sc_Lbelow.nd rfl (by first | exact Or.inl rfl | exact Or.inr rfl) (pe_op op_mod (pe_callTy call_int1 (by rfl) T.z_int (by decide +kernel) (pa_cons (pe_ix ix_list (pv 0) pe_int (fun _ _ => rfl)) pa_nil)) (pv 1)))
    (pss_cons (ps_asg (pe_op op_fdiv (pe_ix ix_list (pv 0) pe_int (fun _ _ => rfl)) (pv 1)) (pg_sub (pv 0) pe_int set_list))
    (pss_cons (ps_asg (pe_op op_fdiv (pe_ix ix_list (pv 0) pe_int (fun _ _ => rfl)) (pv 1)) (pg_sub (pv 0) pe_int set_list))
    (pss_one (ps_ret (pv 2))))))), ?_⟩
    obtain ⟨a, c, b, rfl, hp, b1, b2, q⟩ := h
    obtain ⟨⟨p, x, y, ha⟩, ns, hc, hl⟩ := id hp
    have hc0 : SqL K H c (ns.map V.int) := seqL sans_same hc
    refine ⟨fun σ H' => ∃ s2 s3 s4 s5 : Option V, σ = [some (.ref a), some (.int b), s2, s3, s4, s5] ∧ Sm a H H' ∧ ∃ p x y : Int, H' a = some (.lst [.ref c, .int p, .int x, .int y]), ?_, ?_⟩
    · refine ⟨_, rfl, a, _, _, _, rfl, rfl, SqL.of ha, atI_nat (j := 3) rfl, _, rfl, _, _, rfl, rfl, _, rfl, ite2 (fun _ => ?_) (fun _ => ?_)⟩
      · refine ⟨_, rfl, a, _, _, _, rfl, rfl, SqL.of ha, atI_nat (j := 0) rfl, _, rfl, a, _, _, _, rfl, rfl, SqL.of ha, atI_nat (j := 1) rfl, _, _, rfl, ?_⟩
        refine ⟨fun σ H' => ∃ m : Int, σ = [some (.ref a), some (.int b), none, some (.int m), some (.ref c), some (.int p)] ∧ Same H H', ?_, ?_⟩
        · refine ⟨_, rfl, Nat.zero_le _, fun l nl => ?_⟩
          have s1 : Same H (upd H l (.lst [])) := same_new nl
          have hc1 : SqL K (upd H l (.lst [])) c (ns.map V.int) := seqL s1 hc0
          refine ⟨.list (ns.map PyData.int), .list [], .lst hc1 (dq_ints ns), .lst (SqL.of upd_same) .nil, shaped_ints ns, shaped_ints [], _, rfl, ?_⟩
          refine ite2 (fun e => ?_) (fun _ => ⟨0, rfl, s1⟩)
          have hpos : 0 < ns.length := by
            cases ns with
            | nil => exact absurd e (by decide)
            | cons n r => exact Nat.succ_pos _
          have hpi : (0 : Int) < (((ns.map V.int).length : Nat) : Int) := by
            rw [List.length_map]
            omega
          have h1 : (p % (((ns.map V.int).length : Nat) : Int)).toNat < ns.length := by
            have z1 := Int.emod_nonneg p (Int.ne_of_gt hpi)
            have z2 := Int.emod_lt_of_pos p hpi
            rw [List.length_map] at z1 z2 ⊢
            omega
          have e3 := atI_nat (xs := ns.map V.int) (j := (p % (((ns.map V.int).length : Nat) : Int)).toNat) (v := .int ns[(p % (((ns.map V.int).length : Nat) : Int)).toNat]) (by rw [List.getElem?_map, List.getElem?_eq_getElem h1]; rfl)
          have z1 := Int.emod_nonneg p (Int.ne_of_gt hpi)
          rw [Int.toNat_of_nonneg z1] at e3
          exact ⟨_, rfl, _, rfl, _, rfl, c, _, rfl, .inl hc1, _, _, rfl, rfl, hpi, c, _, _, _, rfl, rfl, hc1, e3, _, rfl, s1⟩
        · rintro σ H1 ⟨m, rfl, s1⟩
          have hc1 : SqL K H1 c (ns.map V.int) := seqL s1 hc0
          have ha1 := s1 _ _ ha
          refine ⟨fun σ H' => ∃ m : Int, σ = [some (.ref a), some (.int b), none, some (.int m), some (.ref c), some (.int p)] ∧ H' = H1, ?_, ?_⟩
          · refine ⟨_, rfl, _, rfl, c, _, rfl, .inl hc1, _, _, rfl, rfl, _, rfl, ite2 (fun _ => ?_) (fun _ => ?_)⟩
            · refine iteT ⟨_, rfl, .inl ⟨_, rfl, _, _, rfl, rfl, (show (0 : Int) < 982451629 by decide), _, rfl, _, _, rfl, fun k => ⟨k, rfl, rfl⟩⟩⟩
            · refine ⟨_, rfl, _, _, rfl, rfl, ⟨by decide, by decide, by decide⟩, _, _, rfl, rfl, _, rfl, ite2 (fun _ => ?_) (fun _ => ?_)⟩
              · exact ⟨_, rfl, .inl ⟨_, rfl, _, _, rfl, rfl, (show (0 : Int) < 982451629 by decide), _, rfl, _, _, rfl, fun k => ⟨k, rfl, rfl⟩⟩⟩
              · exact ⟨m, rfl, rfl⟩
          · rintro σ H2 ⟨m, rfl, rfl⟩
            refine ⟨_, rfl, _, _, rfl, rfl, _, rfl, a, _, _, 1, rfl, rfl, ha1, rfl, ?_⟩
            refine ⟨_, rfl, _, rfl, a, _, _, 2, rfl, rfl, upd_same, rfl, ?_⟩
            refine ⟨_, rfl, _, rfl, a, _, _, 3, rfl, rfl, upd_same, rfl, ?_⟩
            exact ⟨_, _, _, _, rfl, (((Sm.of s1).trans Sm.pot).trans Sm.pot).trans Sm.pot, _, _, _, upd_same⟩
      · exact ⟨_, _, _, _, rfl, Sm.refl, p, x, y, ha⟩
    · rintro σ H1 ⟨s2, s3, s4, s5, rfl, sm, p, x, y, ha1⟩
      have hb : (0 : Int) < b := by omega
      refine ⟨_, rfl, a, _, _, _, rfl, rfl, SqL.of ha1, atI_nat (j := 2) rfl, .inl ⟨_, rfl, _, rfl, _, _, rfl, rfl, hb, ?_⟩⟩
      refine ⟨_, rfl, a, _, _, _, rfl, rfl, SqL.of ha1, atI_nat (j := 2) rfl, _, rfl, _, _, rfl, rfl, ⟨hb, b2⟩, _, rfl, a, _, _, 2, rfl, rfl, ha1, rfl, ?_⟩
      refine ⟨_, rfl, a, _, _, _, rfl, rfl, SqL.of upd_same, atI_nat (j := 3) rfl, _, rfl, _, _, rfl, rfl, ⟨hb, b2⟩, _, rfl, a, _, _, 3, rfl, rfl, upd_same, rfl, ?_⟩
      have sm2 := (sm.trans Sm.pot).trans (Sm.pot (H := upd H1 a (.lst [.ref c, .int p, .int (x / b), .int y])) (o := .lst [.ref c, .int p, .int (x / b), .int (y / b)]))
      refine ⟨_, rfl, q _ _ sm2 (hp.to sm2 ⟨p, x / b, y / b, upd_same⟩) (Int.emod_nonneg x (by omega)) (Int.emod_lt_of_pos x hb)⟩
end
end K10

namespace K10
open PySem PySem.Spec PyProof.Rows L2 G Lk
section
variable {P : Program} {w : World} {K : PySem.W.Frag} {mg : Str → Option Value} {base : Heap}
def sp_Lcalls (K : PySem.W.Frag) : Sp := fun vs H Q _ => ∃ (v : V) (z f : Str) (ss : List PyData), vs = [v] ∧ Dq K H v (.tuple [.str z, .str f, .tuple ss]) ∧ z.length ≤ 4 ∧ ss.length ≤ 4 ∧
  ∀ (H' : Hp) (l : Addr), Same H H' → H l = none → CallsL z ss.length H' l 16 → Q (.ref l) H'
/-- def _law_calls(expander): -/
theorem ok_Lcalls (T : Tx K mg) : FnOk P w K mg base CX0 1 T.a__law_calls T.fd__law_calls ["expander"] (sp_Lcalls K) := by
  refine T.F__law_calls.ok sc_Lcalls (fun vs H Q E h => ?_) (fun cdv A outer s H vs Q E hr h => ?_)
  · obtain ⟨_, _, _, _, rfl, _⟩ := h
    rfl
  · refine ⟨_, (pss_cons (ps_set (i := 1) sc_Lcalls.nd rfl (by first | exact Or.inl rfl | exact Or.inr rfl) (pe_lst pa_nil))
    (pss_cons (ps_for PassesOwn.never rfl (pi_range1 (by rfl) T.z_range (pa_cons (pe_callB call_len_seq (by rfl) T.z_len PySem.boot_len (pa_cons (pe_ix ix_tup (pv 0) pe_int (fun _ _ => rfl)) pa_nil)) pa_nil)) (pg_name (i := 2) sc_Lcalls.nd rfl (by first | exact Or.inl rfl | exact Or.inr rfl))
      (pss_one (ps_set (i := 1) sc_Lcalls.nd rfl (by first | exact Or.inl rfl | exact Or.inr rfl) (pe_op op_cat (pv 1) (pe_lc (own := [("sign", 3)]) (g := gName 3) (by rfl) sc_Lcalls.nd (pi_str (pe_ix ix_tup (pv 0) pe_int (fun _ _ => rfl))) (blkOk_by (own := [("sign", 3)]) (N := N_Lcalls) (sc := defScope s_Lcalls) (by decide +kernel)) (fun _ _ _ _ _ => pg_name (i := 3) sc_Lcalls.nd rfl (by first | exact Or.inl rfl | exact Or.inr rfl)) (fun _ _ _ _ _ => pts_nil) (fun _ _ _ _ _ => (pe_tup (pa_cons (pv 2) (pa_cons (pv 3) pa_nil)))))))))
    (pss_one (ps_ret (pv 1))))), ?_⟩
    obtain ⟨v, z, f, ss, rfl, hd, hz, hs, q⟩ := h
    obtain ⟨a, t, xs, rfl, h1, h2, h3⟩ := expV_of hd
    have hl := h3.length
    refine ⟨Nat.zero_le _, fun l nl => ?_⟩
    have s1 := same_new (o := .lst []) nl
    refine ⟨_, rfl, a, _, 2, _, rfl, rfl, seqT s1 h1, rfl, t, xs, rfl, .inr (seqT s1 h2), (xs.length : Nat), rfl, by omega, by omega, ?_⟩
    refine for_range (n := xs.length) (fun i σ H' => ∃ (l : Addr) (s2 : Option V), σ = [some (.ref a), some (.ref l), s2, none] ∧ Same H H' ∧ H l = none ∧ CallsL z ss.length H' l (i * 4)) ⟨l, none, rfl, s1, nl, [], upd_same, Nat.le_refl _, fun x hx => (List.not_mem_nil hx).elim⟩ ?_ ?_
    · rintro i σ H1 hi ⟨l, s2, rfl, s3, nl, ys, hy, ly, hc⟩
      refine ⟨_, rfl, _, rfl, a, _, 0, _, rfl, rfl, seqT s3 h1, rfl, z, rfl, fun D nD => ?_⟩
      have el : z.cps.toList.length = z.length := by simp [Str.length]
      refine lc_it walk_str (fun j H' => Same H1 H' ∧ ∃ us, H' D = some (.lst us) ∧ us.length = j ∧ ∀ x ∈ us, CallV z ss.length H' x) ⟨same_new nD, [], upd_same, rfl, fun x hx => (List.not_mem_nil hx).elim⟩ (fun _ _ _ _ => trivial) ?_ ?_
      · rintro j v H2 H3 hj ⟨s4, us, hu, lu, hcu⟩ ⟨rfl, c, hcc, rfl⟩
        have hcz : c ∈ z.cps.toList := List.mem_of_getElem? (by simpa using hcc)
        refine ⟨rfl, _, rfl, _, rfl, (by show 2 ≤ sizeLine; decide), fun p np => ?_⟩
        have s5 := same_new (o := .tup [.int (0 + ((i : Nat) : Int)), .str ⟨#[c]⟩]) np
        have nDp : D ≠ p := ne_of_none hu np
        refine ⟨us, (upd_ne nDp).trans hu, ?_, ?_⟩
        · have hz' : z.cps.size = z.length := rfl
          refine Nat.lt_of_le_of_lt (show us.length ≤ 4 by omega) (by decide)
        · have s6 : Same H3 (upd (upd H3 p (.tup [.int (0 + ((i : Nat) : Int)), .str ⟨#[c]⟩])) D (.lst (us ++ [.ref p]))) ∨ True := .inr trivial
          have keep : ∀ b o, b ≠ D → H3 b = some o → upd (upd H3 p (.tup [.int (0 + ((i : Nat) : Int)), .str ⟨#[c]⟩])) D (.lst (us ++ [.ref p])) b = some o := fun b o hb e => (upd_ne hb).trans (s5 _ _ e)
          have hp' : upd (upd H3 p (.tup [.int (0 + ((i : Nat) : Int)), .str ⟨#[c]⟩])) D (.lst (us ++ [.ref p])) p = some (.tup [.int (i : Int), .str (Ls.one c)]) := by
            rw [upd_ne nDp.symm, upd_same, Int.zero_add]
            rfl
          refine ⟨fun b o e => keep b o (ne_of_none e nD) (s4 b o e), us ++ [.ref p], upd_same, by rw [List.length_append, lu]; rfl, fun x hx => ?_⟩
          rcases List.mem_append.mp hx with hx | hx
          · obtain ⟨p', i', c', e1, e2, r⟩ := hcu x hx
            refine ⟨p', i', c', e1, keep p' _ (fun z => ?_) e2, r⟩
            rw [z, hu] at e2
            cases e2
          · rw [List.mem_singleton.mp hx]
            exact ⟨p, i, c, rfl, hp', by omega, hcz⟩
      · rintro H2 ⟨s4, us, hu, lu, hcu⟩
        have hyl := s4 _ _ hy
        have lu' : us.length ≤ 4 := by
          have hz' : z.cps.size = z.length := rfl
          omega
        refine ⟨l, D, ys, us, rfl, rfl, hyl, hu, ?_, fun p np => ?_⟩
        · refine Nat.le_trans (show ys.length + us.length ≤ 100 by omega) (by decide)
        · have s5 := same_new (o := .lst (ys ++ us)) np
          have sA := Same.trans s4 s5
          refine ⟨p, _, rfl, Same.trans s3 sA, ?_, ys ++ us, upd_same, ?_, fun x hx => ?_⟩
          · cases e : H p with
            | none => rfl
            | some o =>
              have := s4 _ _ (s3 _ _ e)
              rw [np] at this
              cases this
          · rw [List.length_append]
            omega
          · rcases List.mem_append.mp hx with hx | hx
            · exact (hc x hx).mono sA
            · exact (hcu x hx).mono s5
    · rintro σ H1 ⟨l, s2, rfl, s3, nl, ys, hy, ly, hc⟩
      exact ⟨_, rfl, q H1 l s3 nl ⟨ys, hy, by omega, hc⟩⟩
end
end K10

namespace K10
open PySem PySem.Spec PyProof.Rows L2 G Lk
section
variable {P : Program} {w : World} {K : PySem.W.Frag} {mg : Str → Option Value} {base : Heap}
def sp_first_stand (K : PySem.W.Frag) : Sp := fun vs H Q _ => ∃ (v : V) (z f t : Str) (ss : List PyData), vs = [v, .str t] ∧ Dq K H v (.tuple [.str z, .str f, .tuple ss]) ∧
  ∀ H' r, Same H H' → Dq K H' r (standD (f, t, 0)) → Q r H'
/-- def _first_stand(expander, text): -/
theorem ok_first_stand (T : Tx K mg) : FnOk P w K mg base CX0 1 T.a__first_stand T.fd__first_stand ["expander", "text"] (sp_first_stand K) := by
  refine T.F__first_stand.ok sc_first_stand (fun vs H Q E h => ?_) (fun cdv A outer s H vs Q E hr h => ?_)
  · obtain ⟨_, _, _, _, _, rfl, _⟩ := h
    rfl
  · refine ⟨_, (pss_one (ps_ret (pe_tup (pa_cons (pe_ix ix_tup (pv 0) pe_int (fun _ _ => rfl)) (pa_cons (pv 1) (pa_cons pe_int pa_nil)))))), ?_⟩
    obtain ⟨v, z, f, t, ss, rfl, hv, q⟩ := h
    obtain ⟨a, t', xs, rfl, ht, hts, hA⟩ := expV_of hv
    refine ⟨_, rfl, a, _, _, _, rfl, rfl, ht, rfl, _, rfl, (by show 3 ≤ sizeLine; decide), fun p np => ?_⟩
    exact q _ _ (same_new np) (.tup (SqT.of upd_same) (.cons (.str _) (.cons (.str _) (.cons (.int _) .nil))))
end
end K10

namespace K10
open PySem PySem.Spec PyProof.Rows L2 G Lk
section
variable {P : Program} {w : World} {K : PySem.W.Frag} {mg : Str → Option Value} {base : Heap}
/-- is_word of a text and data -/
def sp_is_word (K : PySem.W.Frag) : Sp := fun vs H Q _ => ∃ (s : Str) (v : V) (d : PyData), vs = [.str s, v] ∧ Dq K H v d ∧ (∀ z, d = .str z → z.length ≤ sizeLine) ∧ Q (.bl (isWord s d)) H
/-- def is_word(signs, thing): -/
theorem ok_is_word (T : Tx K mg) : FnOk P w K mg base CX0 1 T.a_is_word T.fd_is_word ["signs", "thing"] (sp_is_word K) := by
  refine T.F_is_word.ok sc_is_word (fun vs H Q E h => ?_) (fun cdv A outer s H vs Q E hr h => ?_)
  · obtain ⟨_, _, _, rfl, _⟩ := h
    rfl
  · refine ⟨_, (pss_one (ps_ret (pe_and (pe_callB call_isi (by rfl) T.z_isinstance (by decide +kernel) (pa_cons (pv 1) (pa_cons (pe_bltn (v := .ty "str") (by rfl) T.z_str (by decide +kernel) rfl) pa_nil))) (pe_one (pe_cmpR op_eq (pe_bm PySem.F.plainAttrs_str PySem.F.slot_str_strip PySem.F.type_str_strip mt_stripChars (pv 1) (pa_cons (pv 0) pa_nil)) pe_str (nomark _)))))), ?_⟩
    obtain ⟨s, v, d, rfl, hd, hz, q⟩ := h
    refine ⟨v, rfl, v, .ty "str", _, _, _, rfl, .ty "str", hd.ty, kStr d, _, rfl, ?_⟩
    cases hd with
    | str z =>
      refine iteT ⟨.str z, rfl, rfl, .str s, rfl, z, s, rfl, rfl, hz z rfl, ?_⟩
      refine ⟨rfl, ?_⟩
      show Q (.bl (decide (V.str (Txt.stripChars z s) = V.str (tx [])))) H
      rw [strip_none]
      exact q
    | non => exact iteF q
    | bl b => exact iteF q
    | int i => exact iteF q
    | lst _ _ => exact iteF q
    | tup _ _ => exact iteF q
    | emp _ => exact iteF q
end
end K10

namespace K10
open PySem PySem.Spec PyProof.Rows L2 G Lk
section
variable {P : Program} {w : World} {K : PySem.W.Frag} {mg : Str → Option Value} {base : Heap}
def sp_are_signs (K : PySem.W.Frag) : Sp := fun vs H Q _ => ∃ (v : V) (d : PyData), vs = [v] ∧ Dq K H v d ∧ Light d ∧ ∀ H', Same H H' → Q (.bl (signsB d)) H'
/-- def _are_signs(thing): -/
theorem ok_are_signs (T : Tx K mg) : FnOk P w K mg base CX0 2 T.a__are_signs T.fd__are_signs ["thing"] (sp_are_signs K) := by
  refine T.F__are_signs.ok sc_are_signs (fun vs H Q E h => ?_) (fun cdv A outer s H vs Q E hr h => ?_)
  · obtain ⟨_, _, rfl, _⟩ := h
    rfl
  · refine ⟨_, (pss_cons (ps_if (PW.pt (pw_or (pt_not (pt_val (pe_call (ok_is_word T) (hr.mono (by decide)) (by rfl) T.g_is_word T.F_is_word.kp T.b_is_word .nil pass0 (pa_cons (pe_glob (v := .str "abcdefghijklmnopqrstuvwxyz") (by rfl) T.m_LETTERS ⟨_, rfl⟩) (pa_cons (pv 0) pa_nil))))) (pw_or1 (pt_not (pt_chain op_le op_le pe_int (pe_callB call_len_str (by rfl) T.z_len PySem.boot_len (pa_cons (pv 0) pa_nil)) (pe_glob (v := .int 4) (by rfl) T.m_MOST_SIGNS ⟨_, rfl⟩))))))
      (pss_one (ps_ret pe_bl))
      pss_nil)
    (pss_one (ps_ret (pe_cmpR (op_eqD hr.units) (pe_callTy (call_list_ofS rfl) (by rfl) T.z_list (by decide +kernel) (pa_cons (pv 0) pa_nil)) (pe_callB (Ls.cr_sortedT rfl) (by rfl) T.z_sorted (by decide +kernel) (pa_cons (pe_callTy (Ls.cr_setT rfl) (by rfl) T.z_set (by decide +kernel) (pa_cons (pv 0) pa_nil)) pa_nil)) (nomark _))))), ?_⟩
    obtain ⟨v, d, rfl, hd, hz, q⟩ := h
    refine ⟨v, rfl, "abcdefghijklmnopqrstuvwxyz", v, d, rfl, hd, (fun z e => light_str (e ▸ hz)), _, rfl, ?_⟩
    have no : signsB d = false → Q (.bl false) H := fun e => by
      have q := q H (Same.refl H)
      rw [e] at q
      exact q
    cases hd with
    | str z =>
      have q : ∀ H', Same H H' → Q (.bl (allIn "abcdefghijklmnopqrstuvwxyz" z && ((decide (1 ≤ z.length) && decide (z.length ≤ 4)) && Ls.ascB z))) H' := q
      show if (!allIn "abcdefghijklmnopqrstuvwxyz" z) = true then _ else _
      cases e : allIn "abcdefghijklmnopqrstuvwxyz" z with
      | false =>
        rw [e] at q
        exact iteT (iteT (q H (Same.refl H)))
      | true =>
        rw [e, tt_and] at q
        refine iteF ⟨_, rfl, z, rfl, light_str hz, 1, _, rfl, rfl, _, rfl, ?_⟩
        by_cases e1 : 1 ≤ z.length
        · rw [decide_eq_true e1, tt_and] at q
          rw [decide_eq_true (show (1 : Int) ≤ ((z.length : Nat) : Int) by omega)]
          refine iteT ⟨_, _, rfl, rfl, _, rfl, ?_⟩
          by_cases e2 : z.length ≤ 4
          · rw [decide_eq_true e2, tt_and] at q
            rw [decide_eq_true (show ((z.length : Nat) : Int) ≤ 4 by omega)]
            refine iteF ⟨_, rfl, z, rfl, light_str hz, fun l nl => ?_⟩
            have s1 := same_new (o := .lst (sg z)) nl
            refine ⟨_, rfl, z, rfl, (by have : z.cps.size = z.length := rfl; omega), fun S nS => ?_⟩
            have s2 := same_new (o := Ls.SetS w S (Ls.signsT z)) nS
            refine ⟨S, z, rfl, upd_same, (by have : z.cps.size = z.length := rfl; omega), fun cs p iff mem lc np => ?_⟩
            have s3 := same_new (o := .lst ((cs.map Ls.one).map V.str)) np
            have small : ∀ c ∈ z.cps.toList, c < 1000 := small_letters e
            refine ⟨.list ((z.cps.toList.map Ls.one).map PyData.str), .list ((cs.map Ls.one).map PyData.str), .lst (SqL.of (s3 _ _ (s2 _ _ ?_))) (dq_strs _), .lst (SqL.of upd_same) (dq_strs _), shaped_ones _ small, shaped_ones _ fun c hc => small c (mem c hc), ?_⟩
            · rw [upd_same, sg_ones]
            · rw [eqv_strs, asc_eq iff]
              exact q _ (Same.trans s1 (Same.trans s2 s3))
          · rw [decide_eq_false e2, ff_and] at q
            rw [decide_eq_false (show ¬ ((z.length : Nat) : Int) ≤ 4 by omega)]
            exact iteT (q H (Same.refl H))
        · rw [decide_eq_false e1, ff_and, ff_and] at q
          rw [decide_eq_false (show ¬ (1 : Int) ≤ ((z.length : Nat) : Int) by omega)]
          exact iteF ⟨_, rfl, iteT (q H (Same.refl H))⟩
    | non => exact iteT (iteT (no rfl))
    | bl b => exact iteT (iteT (no rfl))
    | int i => exact iteT (iteT (no rfl))
    | lst _ _ => exact iteT (iteT (no rfl))
    | tup _ _ => exact iteT (iteT (no rfl))
    | emp _ => exact iteT (iteT (no rfl))
end
end K10

namespace K10
open PySem PySem.Spec PyProof.Rows L2 G Lk
section
variable {P : Program} {w : World} {K : PySem.W.Frag} {mg : Str → Option Value} {base : Heap}
/-- an integer -/
def wholeB : PyData → Bool
  | .int _ => true
  | _ => false
def sp_is_whole (K : PySem.W.Frag) : Sp := fun vs H Q _ => ∃ (v : V) (d : PyData), vs = [v] ∧ Dq K H v d ∧ Q (.bl (wholeB d)) H
/-- def is_whole(thing): -/
theorem ok_is_whole (T : Tx K mg) : FnOk P w K mg base CX0 1 T.a_is_whole T.fd_is_whole ["thing"] (sp_is_whole K) := by
  refine T.F_is_whole.ok sc_is_whole (fun vs H Q E h => ?_) (fun cdv A outer s H vs Q E hr h => ?_)
  · obtain ⟨_, _, rfl, _⟩ := h
    rfl
  · refine ⟨_, (pss_one (ps_ret (pe_and (pe_callB call_isi (by rfl) T.z_isinstance (by decide +kernel) (pa_cons (pv 0) (pa_cons (pe_bltn (v := .ty "int") (by rfl) T.z_int (by decide +kernel) rfl) pa_nil))) (pe_one (pe_not (pe_callB call_isi (by rfl) T.z_isinstance (by decide +kernel) (pa_cons (pv 0) (pa_cons (pe_bltn (v := .ty "bool") (by rfl) T.z_bool (by decide +kernel) rfl) pa_nil)))))))), ?_⟩
    obtain ⟨v, d, rfl, hd, q⟩ := h
    refine ⟨v, rfl, v, .ty "int", _, _, _, rfl, .ty "int", hd.ty, kInt d, _, rfl, ?_⟩
    cases hd with
    | int i => exact iteT ⟨.int i, rfl, .int i, .ty "bool", _, _, _, rfl, .ty "bool", .base (.int i), kBool (.int i), _, rfl, q⟩
    | bl b => exact iteT ⟨.bl b, rfl, .bl b, .ty "bool", _, _, _, rfl, .ty "bool", .base (.bl b), kBool (.bool b), _, rfl, q⟩
    | non => exact iteF q
    | str z => exact iteF q
    | lst _ _ => exact iteF q
    | tup _ _ => exact iteF q
    | emp _ => exact iteF q
end
end K10

namespace K10
open PySem PySem.Spec PyProof.Rows L2 G Lk
section
variable {P : Program} {w : World} {K : PySem.W.Frag} {mg : Str → Option Value} {base : Heap}
def sp_is_number (K : PySem.W.Frag) : Sp := fun vs H Q _ => ∃ (n : Int) (v : V) (d : PyData), vs = [.int n, v] ∧ Dq K H v d ∧ Q (.bl (countB n d)) H
/-- def is_number(many, thing): -/
theorem ok_is_number (T : Tx K mg) : FnOk P w K mg base CX0 2 T.a_is_number T.fd_is_number ["many", "thing"] (sp_is_number K) := by
  refine T.F_is_number.ok sc_is_number (fun vs H Q E h => ?_) (fun cdv A outer s H vs Q E hr h => ?_)
  · obtain ⟨_, _, _, rfl, _⟩ := h
    rfl
  · refine ⟨_, (pss_one (ps_ret (pe_and (pe_call (ok_is_whole T) (hr.mono (by decide)) (by rfl) T.g_is_whole T.F_is_whole.kp T.b_is_whole .nil pass0 (pa_cons (pv 1) pa_nil)) (pe_one (pe_chain op_le op_lt pe_int (pv 1) (pv 0)))))), ?_⟩
    obtain ⟨n, v, d, rfl, hd, q⟩ := h
    refine ⟨_, rfl, v, d, rfl, hd, _, rfl, ?_⟩
    cases hd with
    | int i =>
      have q : Q (.bl (decide (0 ≤ i) && decide (i < n))) H := q
      refine iteT ⟨_, rfl, 0, i, rfl, rfl, _, rfl, ?_⟩
      cases e : decide (0 ≤ i) with
      | false =>
        rw [e] at q
        exact iteF q
      | true =>
        rw [e] at q
        exact iteT ⟨_, rfl, i, n, rfl, rfl, q⟩
    | bl b => exact iteF q
    | non => exact iteF q
    | str z => exact iteF q
    | lst _ _ => exact iteF q
    | tup _ _ => exact iteF q
    | emp _ => exact iteF q
end
end K10

namespace K10
open PySem PySem.Spec PyProof.Rows L2 G Lk
section
variable {P : Program} {w : World} {K : PySem.W.Frag} {mg : Str → Option Value} {base : Heap}
def sp_is_short_word (K : PySem.W.Frag) : Sp := fun vs H Q _ => ∃ (s : Str) (v : V) (d : PyData), vs = [.str s, v] ∧ Dq K H v d ∧ Light d ∧ Q (.bl (shortB s d)) H
/-- def _is_short_word(signs, thing): -/
theorem ok_is_short_word (T : Tx K mg) : FnOk P w K mg base CX0 2 T.a__is_short_word T.fd__is_short_word ["signs", "thing"] (sp_is_short_word K) := by
  refine T.F__is_short_word.ok sc_is_short_word (fun vs H Q E h => ?_) (fun cdv A outer s H vs Q E hr h => ?_)
  · obtain ⟨_, _, _, rfl, _⟩ := h
    rfl
  · refine ⟨_, (pss_one (ps_ret (pe_and (pe_call (ok_is_word T) (hr.mono (by decide)) (by rfl) T.g_is_word T.F_is_word.kp T.b_is_word .nil pass0 (pa_cons (pv 0) (pa_cons (pv 1) pa_nil))) (pe_one (pe_cmpR op_le (pe_callB call_len_str (by rfl) T.z_len PySem.boot_len (pa_cons (pv 1) pa_nil)) (pe_glob (v := .int 2000) (by rfl) T.m_MOST_WORD ⟨_, rfl⟩) (nomark _)))))), ?_⟩
    obtain ⟨s, v, d, rfl, hd, hz, q⟩ := h
    refine ⟨.str s, rfl, v, rfl, s, v, d, rfl, hd, (fun z e => light_str (e ▸ hz)), _, rfl, ?_⟩
    cases hd with
    | str z =>
      have q : Q (.bl (allIn s z && decide (z.length ≤ 2000))) H := q
      show if allIn s z = true then _ else _
      cases e : allIn s z with
      | false =>
        rw [e] at q
        exact iteF q
      | true =>
        rw [e] at q
        refine iteT ⟨.str z, rfl, z, rfl, light_str hz, _, _, rfl, rfl, ?_⟩
        have e2 : decide (((z.length : Nat) : Int) ≤ 2000) = (true && decide (z.length ≤ 2000)) := by
          rw [Bool.true_and]
          exact decide_eq_decide.mpr ⟨fun x => by omega, fun x => by omega⟩
        show Q (.bl (decide (((z.length : Nat) : Int) ≤ 2000))) H
        rw [e2]
        exact q
    | non => exact iteF q
    | bl b => exact iteF q
    | int i => exact iteF q
    | lst _ _ => exact iteF q
    | tup _ _ => exact iteF q
    | emp _ => exact iteF q
end
end K10

namespace K10
open PySem PySem.Spec PyProof.Rows L2 G Lk
section
variable {P : Program} {w : World} {K : PySem.W.Frag} {mg : Str → Option Value} {base : Heap}
def sp_is_move (K : PySem.W.Frag) : Sp := fun vs H Q _ => ∃ (s : Str) (n : Int) (v : V) (d : PyData), vs = [.str s, .int n, v] ∧ Dq K H v d ∧ Light d ∧ Q (.bl (moveB s n d)) H
/-- def _is_move(signs, many, thing): -/
theorem ok_is_move (T : Tx K mg) : FnOk P w K mg base CX0 3 T.a__is_move T.fd__is_move ["signs", "many", "thing"] (sp_is_move K) := by
  refine T.F__is_move.ok sc_is_move (fun vs H Q E h => ?_) (fun cdv A outer s H vs Q E hr h => ?_)
  · obtain ⟨_, _, _, _, rfl, _⟩ := h
    rfl
  · refine ⟨_, (pss_cons (ps_if (PW.pt (pw_or (pt_not (pt_val (pe_callB call_isi (by rfl) T.z_isinstance (by decide +kernel) (pa_cons (pv 2) (pa_cons (pe_bltn (v := .ty "tuple") (by rfl) T.z_tuple (by decide +kernel) rfl) pa_nil))))) (pw_or1 (pt_cmpR op_ne (pe_callB call_len_seq (by rfl) T.z_len PySem.boot_len (pa_cons (pv 2) pa_nil)) pe_int (nomark _)))))
      (pss_one (ps_ret pe_bl))
      pss_nil)
    (pss_cons (ps_asg (pv 2) (pg_tup rfl (pgs_cons (pg_name (i := 3) sc_is_move.nd rfl (by first | exact Or.inl rfl | exact Or.inr rfl)) (pgs_cons (pg_name (i := 4) sc_is_move.nd rfl (by first | exact Or.inl rfl | exact Or.inr rfl)) (pgs_cons (pg_name (i := 5) sc_is_move.nd rfl (by first | exact Or.inl rfl | exact Or.inr rfl)) pgs_nil)))))
    (pss_cons (ps_if (PW.pt (pw_or (pt_not (pt_val (pe_call (ok_is_short_word T) (hr.mono (by decide)) (by rfl) T.g__is_short_word T.F__is_short_word.kp T.b__is_short_word .nil pass0 (pa_cons (pv 0) (pa_cons (pv 3) pa_nil))))) (pw_or1 (pt_not (pt_val (pe_call (ok_is_short_word T) (hr.mono (by decide)) (by rfl) T.g__is_short_word T.F__is_short_word.kp T.b__is_short_word .nil pass0 (pa_cons (pv 0) (pa_cons (pv 4) pa_nil))))))))
      (pss_one (ps_ret pe_bl))
      pss_nil)
    (pss_one (ps_ret (pe_call (ok_is_number T) (hr.mono (by decide)) (by rfl) T.g_is_number T.F_is_number.kp T.b_is_number .nil pass0 (pa_cons (pv 1) (pa_cons (pv 5) pa_nil)))))))), ?_⟩
    obtain ⟨s, n, v, d, rfl, hd, hz, q⟩ := h
    refine ⟨v, rfl, v, .ty "tuple", _, _, _, rfl, .ty "tuple", hd.ty, kTup d, _, rfl, ?_⟩
    cases e : isTup d with
    | false =>
      rw [moveB_tup e] at q
      exact iteT (iteT q)
    | true =>
      obtain ⟨a, xs, ds, rfl, rfl, ht, ha⟩ := dq_tup hd e
      refine iteF ⟨_, rfl, a, xs, rfl, .inr ht, rfl, _, rfl, ?_⟩
      rw [Lk.ne_int]
      by_cases hl : xs.length = 3
      · rw [decide_eq_true (show ((xs.length : Nat) : Int) = 3 by omega)]
        refine iteF ?_
        obtain ⟨x, y, z, d1, d2, d3, rfl, rfl, h1, h2, h3⟩ := ha.three hl
        have hw := light_tup hz
        refine ⟨_, rfl, a, _, rfl, ht, rfl, x, _, rfl, y, _, rfl, z, _, rfl, rfl, ?_⟩
        refine ⟨_, rfl, x, rfl, s, x, d1, rfl, h1, hw d1 (by simp), _, rfl, ?_⟩
        have q : Q (.bl (shortB s d1 && (shortB s d2 && countB n d3))) H := q
        cases e1 : shortB s d1 with
        | false =>
          rw [e1] at q
          exact iteT (iteT q)
        | true =>
          rw [e1] at q
          refine iteF ⟨_, rfl, y, rfl, s, y, d2, rfl, h2, hw d2 (by simp), _, rfl, ?_⟩
          cases e2 : shortB s d2 with
          | false =>
            rw [e2] at q
            exact iteT q
          | true =>
            rw [e2] at q
            exact iteF ⟨_, rfl, z, rfl, n, z, d3, rfl, h3, q⟩
      · rw [decide_eq_false (show ¬ ((xs.length : Nat) : Int) = 3 by omega)]
        rw [moveB_len (fun z => hl (ha.length.trans z))] at q
        exact iteT q
end
end K10

namespace K10
open PySem PySem.Spec PyProof.Rows L2 G Lk
section
variable {P : Program} {w : World} {K : PySem.W.Frag} {mg : Str → Option Value} {base : Heap}
def sp_is_state (K : PySem.W.Frag) : Sp := fun vs H Q _ => ∃ (s : Str) (n : Int) (v : V) (d : PyData), vs = [.str s, .int n, v] ∧ Dq K H v d ∧ Light d ∧ s.length ≤ 4 ∧ ∀ H', Same H H' → Q (.bl (stateB s n d)) H'
/-- def _is_state(signs, many, thing): -/
theorem ok_is_state (T : Tx K mg) : FnOk P w K mg base CX0 4 T.a__is_state T.fd__is_state ["signs", "many", "thing"] (sp_is_state K) := by
  refine T.F__is_state.ok sc_is_state (fun vs H Q E h => ?_) (fun cdv A outer s H vs Q E hr h => ?_)
  · obtain ⟨_, _, _, _, rfl, _⟩ := h
    rfl
  · refine ⟨_, (pss_cons (ps_if (PW.pt (pw_or (pt_not (pt_val (pe_callB call_isi (by rfl) T.z_isinstance (by decide +kernel) (pa_cons (pv 2) (pa_cons (pe_bltn (v := .ty "tuple") (by rfl) T.z_tuple (by decide +kernel) rfl) pa_nil))))) (pw_or1 (pt_cmpR op_ne (pe_callB call_len_seq (by rfl) T.z_len PySem.boot_len (pa_cons (pv 2) pa_nil)) pe_int (nomark _)))))
      (pss_one (ps_ret pe_bl))
      pss_nil)
    (pss_cons (ps_asg (pv 2) (pg_tup rfl (pgs_cons (pg_name (i := 3) sc_is_state.nd rfl (by first | exact Or.inl rfl | exact Or.inr rfl)) (pgs_cons (pg_name (i := 4) sc_is_state.nd rfl (by first | exact Or.inl rfl | exact Or.inr rfl)) pgs_nil))))
    (pss_cons (ps_if (PW.pt (pw_or (pt_not (pt_val (pe_callB call_isi (by rfl) T.z_isinstance (by decide +kernel) (pa_cons (pv 3) (pa_cons (pe_bltn (v := .ty "tuple") (by rfl) T.z_tuple (by decide +kernel) rfl) pa_nil))))) (pw_or1 (pt_cmpR op_ne (pe_callB call_len_seq (by rfl) T.z_len PySem.boot_len (pa_cons (pv 3) pa_nil)) (pe_callB call_len_str (by rfl) T.z_len PySem.boot_len (pa_cons (pv 0) pa_nil)) (nomark _)))))
      (pss_one (ps_ret pe_bl))
      pss_nil)
    (pss_cons (ps_if (PW.pt (pw_and (pt_cmpR op_notN (pv 4) pe_non (nomark _)) (pw_and1 (pt_not (pt_val (pe_call (ok_is_short_word T) (hr.mono (by decide)) (by rfl) T.g__is_short_word T.F__is_short_word.kp T.b__is_short_word .nil pass0 (pa_cons (pv 0) (pa_cons (pv 4) pa_nil))))))))
      (pss_one (ps_ret pe_bl))
      pss_nil)
    (pss_one (ps_ret (pe_callB (cr_all rfl) (by rfl) T.z_all (by decide +kernel) (pa_cons (pe_lc (own := [("move", 5)]) (g := gName 5) (by rfl) sc_is_state.nd (pi_tup (pv 3)) (blkOk_by (own := [("move", 5)]) (N := N_is_state) (sc := defScope s_is_state) (by decide +kernel)) (fun _ _ _ _ _ => pg_name (i := 5) sc_is_state.nd rfl (by first | exact Or.inl rfl | exact Or.inr rfl)) (fun _ _ _ _ _ => pts_nil) (fun _ _ _ _ _ => (pe_or (pe_cmpR op_isN (pv 5) pe_non (nomark _)) (pe_one (pe_call (ok_is_move T) (hr.mono (by decide)) (by rfl) T.g__is_move T.F__is_move.kp T.b__is_move .nil pass0 (pa_cons (pv 0) (pa_cons (pv 1) (pa_cons (pv 5) pa_nil)))))))) pa_nil)))))))), ?_⟩
    obtain ⟨s, n, v, d, rfl, hd, hz, hs4, q⟩ := h
    refine ⟨v, rfl, v, .ty "tuple", _, _, _, rfl, .ty "tuple", hd.ty, kTup d, _, rfl, ?_⟩
    cases e : isTup d with
    | false =>
      rw [stateB_tup e] at q
      exact iteT (iteT (q H (Same.refl H)))
    | true =>
      obtain ⟨a, xs, ds, rfl, rfl, ht, ha⟩ := dq_tup hd e
      refine iteF ⟨_, rfl, a, xs, rfl, .inr ht, rfl, _, rfl, ?_⟩
      rw [Lk.ne_int]
      by_cases hl : xs.length = 2
      · rw [decide_eq_true (show ((xs.length : Nat) : Int) = 2 by omega)]
        refine iteF ?_
        obtain ⟨x, y, d1, d2, rfl, rfl, h1, h2⟩ := ha.two hl
        have hw := light_tup hz
        refine ⟨_, rfl, a, _, rfl, ht, rfl, x, _, rfl, y, _, rfl, rfl, ?_⟩
        refine ⟨x, rfl, x, .ty "tuple", _, _, _, rfl, .ty "tuple", h1.ty, kTup d1, _, rfl, ?_⟩
        cases e1 : isTup d1 with
        | false =>
          rw [stateB_first e1] at q
          exact iteT (iteT (q H (Same.refl H)))
        | true =>
          obtain ⟨a1, ms, es, rfl, rfl, ht1, ha1⟩ := dq_tup h1 e1
          have hw1 := hw _ (List.mem_cons_self ..)
          refine iteF ⟨_, rfl, a1, ms, rfl, .inr ht1, _, rfl, s, rfl, Nat.le_trans hs4 (by decide), rfl, _, rfl, ?_⟩
          rw [Lk.ne_int]
          have q : ∀ H', Same H H' → Q (.bl (decide (es.length = s.length) && ((isNone d2 || shortB s d2) && es.all fun m => isNone m || moveB s n m))) H' := q
          by_cases hl1 : ms.length = s.length
          · rw [decide_eq_true (show ((ms.length : Nat) : Int) = ((s.length : Nat) : Int) by omega)]
            rw [decide_eq_true (show es.length = s.length from ha1.length.symm.trans hl1)] at q
            refine iteF ?_
            rw [tt_and] at q
            refine ⟨y, rfl, rfl, _, rfl, ?_⟩
            rw [isNone_non h2]
            cases e3 : isNone d2 || shortB s d2 with
            | false =>
              rw [e3, ff_and] at q
              obtain ⟨e4, e5⟩ := Bool.or_eq_false_iff.mp e3
              rw [e4]
              refine iteT ⟨_, rfl, y, rfl, s, y, d2, rfl, h2, hw d2 (by simp), _, rfl, ?_⟩
              rw [e5]
              exact iteT (q H (Same.refl H))
            | true =>
              rw [e3, tt_and] at q
              refine two_ways ?_ (fun ec rest => ⟨_, rfl, y, rfl, s, y, d2, rfl, h2, hw d2 (by simp), _, rfl, ?_⟩)
              · refine ⟨_, rfl, a1, rfl, ⟨_, ht1⟩, fun D nD => ?_⟩
                refine lc_bools (fun m => isNone m || moveB s n m) ht1 ha1 nD (by omega) (fun x d H1 Nxt Els s1 hx hm k => ?_) (fun H1 s1 hD => ?_)
                · refine ⟨rfl, x, rfl, rfl, _, rfl, ?_⟩
                  rw [isNone_non hx]
                  have k := k H1 (Same.refl H1)
                  cases e4 : isNone d with
                  | true =>
                    rw [e4] at k
                    exact iteT k
                  | false =>
                    rw [e4] at k
                    exact iteF ⟨_, rfl, _, rfl, x, rfl, s, n, x, d, rfl, hx, light_tup hw1 d hm, k⟩
                · refine ⟨D, _, rfl, SqL.of hD, ?_⟩
                  have ea : (es.map fun m => isNone m || moveB s n m).all id = es.all fun m => isNone m || moveB s n m := by
                    rw [List.all_map]
                    rfl
                  rw [ea]
                  exact q H1 s1
              · have e4 : isNone d2 = false := by
                  cases z : isNone d2 with
                  | false => rfl
                  | true =>
                    rw [z] at ec
                    cases ec
                rw [e4, ff_or] at e3
                rw [e3]
                exact iteF rest
          · rw [decide_eq_false (show ¬ ((ms.length : Nat) : Int) = ((s.length : Nat) : Int) by omega)]
            rw [decide_eq_false (show ¬ es.length = s.length from fun z => hl1 (ha1.length.trans z))] at q
            exact iteT (q H (Same.refl H))
      · rw [decide_eq_false (show ¬ ((xs.length : Nat) : Int) = 2 by omega)]
        rw [stateB_len (fun z => hl (ha.length.trans z))] at q
        exact iteT (q H (Same.refl H))
end
end K10

namespace K10
open PySem PySem.Spec PyProof.Rows L2 G Lk
section
variable {P : Program} {w : World} {K : PySem.W.Frag} {mg : Str → Option Value} {base : Heap}
def sp_are_states (K : PySem.W.Frag) : Sp := fun vs H Q _ => ∃ (s : Str) (v : V) (d : PyData), vs = [.str s, v] ∧ Dq K H v d ∧ Light d ∧ s.length ≤ 4 ∧ ∀ H', Same H H' → Q (.bl (statesB s d)) H'
/-- def _are_states(signs, thing): -/
theorem ok_are_states (T : Tx K mg) : FnOk P w K mg base CX0 5 T.a__are_states T.fd__are_states ["signs", "thing"] (sp_are_states K) := by
  refine T.F__are_states.ok sc_are_states (fun vs H Q E h => ?_) (fun cdv A outer s H vs Q E hr h => ?_)
  · obtain ⟨_, _, _, rfl, _⟩ := h
    rfl
  · refine ⟨_, (pss_cons (ps_if (PW.pt (pw_or (pt_not (pt_val (pe_callB call_isi (by rfl) T.z_isinstance (by decide +kernel) (pa_cons (pv 1) (pa_cons (pe_bltn (v := .ty "tuple") (by rfl) T.z_tuple (by decide +kernel) rfl) pa_nil))))) (pw_or1 (pt_not (pt_chain op_le op_le pe_int (pe_callB call_len_seq (by rfl) T.z_len PySem.boot_len (pa_cons (pv 1) pa_nil)) (pe_glob (v := .int 60) (by rfl) T.m_MOST_STATES ⟨_, rfl⟩))))))
      (pss_one (ps_ret pe_bl))
      pss_nil)
    (pss_one (ps_ret (pe_callB (cr_all rfl) (by rfl) T.z_all (by decide +kernel) (pa_cons (pe_lc (own := [("state", 2)]) (g := gName 2) (by rfl) sc_are_states.nd (pi_tup (pv 1)) (blkOk_by (own := [("state", 2)]) (N := N_are_states) (sc := defScope s_are_states) (by decide +kernel)) (fun _ _ _ _ _ => pg_name (i := 2) sc_are_states.nd rfl (by first | exact Or.inl rfl | exact Or.inr rfl)) (fun _ _ _ _ _ => pts_nil) (fun _ _ _ _ _ => (pe_call (ok_is_state T) (hr.mono (by decide)) (by rfl) T.g__is_state T.F__is_state.kp T.b__is_state .nil pass0 (pa_cons (pv 0) (pa_cons (pe_callB (call_len_seq : CallR _ _ (rLenSeq K)) (by rfl) T.z_len PySem.boot_len (pa_cons (pv 1) pa_nil)) (pa_cons (pv 2) pa_nil)))))) pa_nil))))), ?_⟩
    obtain ⟨s, v, d, rfl, hd, hz, hs4, q⟩ := h
    refine ⟨v, rfl, v, .ty "tuple", _, _, _, rfl, .ty "tuple", hd.ty, kTup d, _, rfl, ?_⟩
    cases e : isTup d with
    | false =>
      rw [statesB_tup e] at q
      exact iteT (iteT (q H (Same.refl H)))
    | true =>
      obtain ⟨a, xs, ds, rfl, rfl, ht, ha⟩ := dq_tup hd e
      have q : ∀ H', Same H H' → Q (.bl ((decide (1 ≤ ds.length) && decide (ds.length ≤ 60)) && ds.all (stateB s (ds.length : Nat)))) H' := q
      have hl := ha.length
      refine iteF ⟨_, rfl, a, xs, rfl, .inr ht, 1, _, rfl, rfl, _, rfl, ?_⟩
      by_cases e1 : 1 ≤ ds.length
      · rw [decide_eq_true e1, tt_and] at q
        rw [decide_eq_true (show (1 : Int) ≤ ((xs.length : Nat) : Int) by omega)]
        refine iteT ⟨_, _, rfl, rfl, _, rfl, ?_⟩
        by_cases e2 : ds.length ≤ 60
        · rw [decide_eq_true e2, tt_and] at q
          rw [decide_eq_true (show ((xs.length : Nat) : Int) ≤ 60 by omega)]
          refine iteF ⟨_, rfl, a, rfl, ⟨_, ht⟩, fun D nD => ?_⟩
          refine lc_bools (stateB s (ds.length : Nat)) ht ha nD (by omega) (fun x d H1 Nxt Els s1 hx hm k => ?_) (fun H1 s1 hD => ?_)
          · refine ⟨rfl, _, rfl, _, rfl, a, xs, rfl, .inr (seqT s1 ht), x, rfl, s, _, x, d, ?_, hx, light_tup hz d hm, hs4, k⟩
            rw [hl] <;> rfl
          · refine ⟨D, _, rfl, SqL.of hD, ?_⟩
            have ea : (ds.map (stateB s (ds.length : Nat))).all id = ds.all (stateB s (ds.length : Nat)) := by
              rw [List.all_map]
              rfl
            rw [ea]
            exact q H1 s1
        · rw [decide_eq_false e2, ff_and] at q
          rw [decide_eq_false (show ¬ ((xs.length : Nat) : Int) ≤ 60 by omega)]
          exact iteT (q H (Same.refl H))
      · rw [decide_eq_false e1, ff_and, ff_and] at q
        rw [decide_eq_false (show ¬ (1 : Int) ≤ ((xs.length : Nat) : Int) by omega)]
        exact iteF ⟨_, rfl, iteT (q H (Same.refl H))⟩
end
end K10

namespace K10
open PySem PySem.Spec PyProof.Rows L2 G Lk
section
variable {P : Program} {w : World} {K : PySem.W.Frag} {mg : Str → Option Value} {base : Heap}
def sp_is_expander (K : PySem.W.Frag) : Sp := fun vs H Q _ => ∃ (v : V) (d : PyData), vs = [v] ∧ Dq K H v d ∧ Light d ∧ ∀ H', Same H H' → Q (.bl (expB d)) H'
/-- def is_expander(thing): -/
theorem ok_is_expander (T : Tx K mg) : FnOk P w K mg base CX0 6 T.a_is_expander T.fd_is_expander ["thing"] (sp_is_expander K) := by
  refine T.F_is_expander.ok sc_is_expander (fun vs H Q E h => ?_) (fun cdv A outer s H vs Q E hr h => ?_)
  · obtain ⟨_, _, rfl, _⟩ := h
    rfl
  · refine ⟨_, (pss_cons (ps_if (PW.pt (pw_or (pt_not (pt_val (pe_callB call_isi (by rfl) T.z_isinstance (by decide +kernel) (pa_cons (pv 0) (pa_cons (pe_bltn (v := .ty "tuple") (by rfl) T.z_tuple (by decide +kernel) rfl) pa_nil))))) (pw_or1 (pt_cmpR op_ne (pe_callB call_len_seq (by rfl) T.z_len PySem.boot_len (pa_cons (pv 0) pa_nil)) pe_int (nomark _)))))
      (pss_one (ps_ret pe_bl))
      pss_nil)
    (pss_cons (ps_asg (pv 0) (pg_tup rfl (pgs_cons (pg_name (i := 1) sc_is_expander.nd rfl (by first | exact Or.inl rfl | exact Or.inr rfl)) (pgs_cons (pg_name (i := 2) sc_is_expander.nd rfl (by first | exact Or.inl rfl | exact Or.inr rfl)) (pgs_cons (pg_name (i := 3) sc_is_expander.nd rfl (by first | exact Or.inl rfl | exact Or.inr rfl)) pgs_nil)))))
    (pss_one (ps_ret (pe_and (pe_call (ok_are_signs T) (hr.mono (by decide)) (by rfl) T.g__are_signs T.F__are_signs.kp T.b__are_signs .nil pass0 (pa_cons (pv 1) pa_nil)) (pe_and (pe_call (ok_is_short_word T) (hr.mono (by decide)) (by rfl) T.g__is_short_word T.F__is_short_word.kp T.b__is_short_word .nil pass0 (pa_cons (pv 1) (pa_cons (pv 2) pa_nil))) (pe_one (pe_call (ok_are_states T) (hr.mono (by decide)) (by rfl) T.g__are_states T.F__are_states.kp T.b__are_states .nil pass0 (pa_cons (pv 1) (pa_cons (pv 3) pa_nil)))))))))), ?_⟩
    obtain ⟨v, d, rfl, hd, hz, q⟩ := h
    refine ⟨v, rfl, v, .ty "tuple", _, _, _, rfl, .ty "tuple", hd.ty, kTup d, _, rfl, ?_⟩
    cases e : isTup d with
    | false =>
      rw [expB_tup e] at q
      exact iteT (iteT (q H (Same.refl H)))
    | true =>
      obtain ⟨a, xs, ds, rfl, rfl, ht, ha⟩ := dq_tup hd e
      refine iteF ⟨_, rfl, a, xs, rfl, .inr ht, rfl, _, rfl, ?_⟩
      rw [Lk.ne_int]
      by_cases hl : xs.length = 3
      · rw [decide_eq_true (show ((xs.length : Nat) : Int) = 3 by omega)]
        refine iteF ?_
        obtain ⟨x, y, z, d1, d2, d3, rfl, rfl, h1, h2, h3⟩ := ha.three hl
        have hw := light_tup hz
        refine ⟨_, rfl, a, _, rfl, ht, rfl, x, _, rfl, y, _, rfl, z, _, rfl, rfl, ?_⟩
        refine ⟨x, rfl, x, d1, rfl, h1, hw d1 (by simp), fun H1 s1 => ⟨_, rfl, ?_⟩⟩
        cases e1 : isStr d1 with
        | false =>
          rw [expB_first e1] at q
          have e2 : signsB d1 = false := by
            cases d1 with
            | str _ => cases e1
            | _ => rfl
          rw [e2]
          exact iteF (q H1 s1)
        | true =>
          obtain ⟨s, rfl, rfl⟩ := dq_str h1 e1
          have q : ∀ H', Same H H' → Q (.bl (signsB (.str s) && (shortB s d2 && statesB s d3))) H' := q
          cases e2 : signsB (.str s) with
          | false =>
            rw [e2] at q
            exact iteF (q H1 s1)
          | true =>
            have h4 : s.length ≤ 4 := signs_four e2
            rw [e2, tt_and] at q
            refine iteT ⟨_, rfl, y, rfl, s, y, d2, rfl, h2.mono s1, hw d2 (by simp), _, rfl, ?_⟩
            cases e3 : shortB s d2 with
            | false =>
              rw [e3] at q
              exact iteF (q H1 s1)
            | true =>
              rw [e3, tt_and] at q
              exact iteT ⟨_, rfl, z, rfl, s, z, d3, rfl, h3.mono s1, hw d3 (by simp), h4, fun H2 s2 => q H2 (Same.trans s1 s2)⟩
      · rw [decide_eq_false (show ¬ ((xs.length : Nat) : Int) = 3 by omega)]
        rw [expB_len (fun z => hl (ha.length.trans z))] at q
        exact iteT (q H (Same.refl H))
end
end K10

namespace K10
open PySem PySem.Spec PyProof.Rows L2 G Lk
section
variable {P : Program} {w : World} {K : PySem.W.Frag} {mg : Str → Option Value} {base : Heap}
def sp_need_expander (K : PySem.W.Frag) (mg : Str → Option Value) (T : Tx K mg) : Sp := fun vs H Q E => ∃ (v : V) (d : PyData), vs = [v] ∧ Dq K H v d ∧ Light d ∧
  (expB d = false → ∀ H', Same H H' → E (.ref T.a_NoExpander) none H') ∧ (expB d = true → ∀ H', Same H H' → Q .non H')
/-- def need_expander(expander): -/
theorem ok_need_expander (T : Tx K mg) : FnOk P w K mg base (L2.CX P w) 7 T.a_need_expander T.fd_need_expander ["expander"] (sp_need_expander K mg T) := by
  refine T.F_need_expander.okX sc_need_expander (fun vs H Q E h => ?_) (fun cdv A outer s H vs Q E hr h => ?_)
  · obtain ⟨_, _, rfl, _⟩ := h
    rfl
  · refine ⟨_, (pss_one (ps_if (pt_not (pt_val (pe_call (ok_is_expander T) (hr.mono (by decide)) (by rfl) T.g_is_expander T.F_is_expander.kp T.b_is_expander .nil pass0 (pa_cons (pv 0) pa_nil))))
      (pss_one (ps_raise rfl (takes_of rfl rfl rfl rfl) (pmk_own PySem.F.excBase_ValueError T.xi_NoExpander T.g_NoExpander T.k_NoExpander (raises_own T.b_NoExpander T.t_NoExpander) (by rfl))))
      pss_nil)), ?_⟩
    obtain ⟨v, d, rfl, hd, hz, kE, k⟩ := h
    refine ⟨_, rfl, v, d, rfl, hd, hz, fun H1 s1 => ⟨_, rfl, ?_⟩⟩
    cases e : expB d with
    | false => exact iteT (kE e H1 s1)
    | true => exact iteF (k e H1 s1)
end
end K10

namespace K10
open PySem PySem.Spec PyProof.Rows L2 G Lk
section
variable {P : Program} {w : World} {K : PySem.W.Frag} {mg : Str → Option Value} {base : Heap}
/-- is_text of a text and data -/
def isText (s : Str) : PyData → Bool
  | .str z => allIn s z && decide (z.length ≤ 200)
  | _ => false
def sp_is_text (K : PySem.W.Frag) : Sp := fun vs H Q _ => ∃ (s : Str) (v : V) (d : PyData), vs = [.str s, v] ∧ Dq K H v d ∧ (∀ z, d = .str z → z.length ≤ sizeLine) ∧ Q (.bl (isText s d)) H
/-- def is_text(signs, thing): -/
theorem ok_is_text (T : Tx K mg) : FnOk P w K mg base CX0 2 T.a_is_text T.fd_is_text ["signs", "thing"] (sp_is_text K) := by
  refine T.F_is_text.ok sc_is_text (fun vs H Q E h => ?_) (fun cdv A outer s H vs Q E hr h => ?_)
  · obtain ⟨_, _, _, rfl, _⟩ := h
    rfl
  · refine ⟨_, (pss_one (ps_ret (pe_and (pe_call (ok_is_word T) (hr.mono (by decide)) (by rfl) T.g_is_word T.F_is_word.kp T.b_is_word .nil pass0 (pa_cons (pv 0) (pa_cons (pv 1) pa_nil))) (pe_one (pe_cmpR op_le (pe_callB call_len_str (by rfl) T.z_len PySem.boot_len (pa_cons (pv 1) pa_nil)) (pe_glob (v := .int 200) (by rfl) T.m_MOST_TEXT ⟨_, rfl⟩) (nomark _)))))), ?_⟩
    obtain ⟨s, v, d, rfl, hd, hz, q⟩ := h
    refine ⟨.str s, rfl, v, rfl, s, v, d, rfl, hd, hz, _, rfl, ?_⟩
    cases hd with
    | str z =>
      have q : Q (.bl (allIn s z && decide (z.length ≤ 200))) H := q
      show if allIn s z = true then _ else _
      cases e : allIn s z with
      | false =>
        rw [e] at q
        exact iteF q
      | true =>
        rw [e] at q
        refine iteT ⟨.str z, rfl, z, rfl, hz z rfl, _, _, rfl, rfl, ?_⟩
        have e2 : decide (((z.length : Nat) : Int) ≤ 200) = (true && decide (z.length ≤ 200)) := by
          rw [Bool.true_and]
          exact decide_eq_decide.mpr ⟨fun x => by omega, fun x => by omega⟩
        show Q (.bl (decide (((z.length : Nat) : Int) ≤ 200))) H
        rw [e2]
        exact q
    | non => exact iteF q
    | bl b => exact iteF q
    | int i => exact iteF q
    | lst _ _ => exact iteF q
    | tup _ _ => exact iteF q
    | emp _ => exact iteF q
end
end K10

namespace K10
open PySem PySem.Spec PyProof.Rows L2 G Lk
section
variable {P : Program} {w : World} {K : PySem.W.Frag} {mg : Str → Option Value} {base : Heap}
def sp_need_text (K : PySem.W.Frag) (mg : Str → Option Value) (T : Tx K mg) : Sp := fun vs H Q E => ∃ (z : Str) (v : V) (d : PyData), vs = [.str z, v] ∧ Dq K H v d ∧ (∀ w, d = .str w → w.length ≤ sizeLine) ∧
  (isText z d = false → E (.ref T.a_NoText) none H) ∧ (isText z d = true → Q .non H)
theorem text_str {z : Str} {d : PyData} (h : isText z d = true) : ∃ t, d = .str t := by
  cases d with
  | str t => exact ⟨t, rfl⟩
  | _ => cases h
/-- def need_text(signs, thing): -/
theorem ok_need_text (T : Tx K mg) : FnOk P w K mg base (L2.CX P w) 3 T.a_need_text T.fd_need_text ["signs", "thing"] (sp_need_text K mg T) := by
  refine T.F_need_text.okX sc_need_text (fun vs H Q E h => ?_) (fun cdv A outer s H vs Q E hr h => ?_)
  · obtain ⟨_, _, _, rfl, _⟩ := h
    rfl
  · refine ⟨_, (pss_one (ps_if (pt_not (pt_val (pe_call (ok_is_text T) (hr.mono (by decide)) (by rfl) T.g_is_text T.F_is_text.kp T.b_is_text .nil pass0 (pa_cons (pv 0) (pa_cons (pv 1) pa_nil)))))
      (pss_one (ps_raise rfl (takes_of rfl rfl rfl rfl) (pmk_own PySem.F.excBase_ValueError T.xi_NoText T.g_NoText T.k_NoText (raises_own T.b_NoText T.t_NoText) (by rfl))))
      pss_nil)), ?_⟩
    obtain ⟨z, v, d, rfl, hd, hz, kE, k⟩ := h
    refine ⟨_, rfl, _, rfl, z, v, d, rfl, hd, hz, _, rfl, ?_⟩
    cases e : isText z d with
    | false => exact iteT (kE e)
    | true => exact iteF (k e)
end
end K10

namespace K10
open PySem PySem.Spec PyProof.Rows L2 G Lk
section
variable {P : Program} {w : World} {K : PySem.W.Frag} {mg : Str → Option Value} {base : Heap}
/-- the move for a call -/
def IsMove (d x y m : PyData) : Prop := ∃ (z f : Str) (ss : List PyData) (i : Nat) (c : Str) (ms : List PyData) (l : PyData) (k : Nat) (rest : List Nat), d = .tuple [.str z, .str f, .tuple ss] ∧ x = .int (i : Int) ∧ y = .str c ∧
  ss[i]? = some (.tuple [.tuple ms, l]) ∧ Builtin.Str.occurrences z c 0 z.length 1 = k :: rest ∧ ms[k]? = some m
def sp_move_of (K : PySem.W.Frag) : Sp := fun vs H Q _ => ∃ (v x y : V) (d dx dy m : PyData), vs = [v, x, y] ∧ Dq K H v d ∧ Dq K H x dx ∧ Dq K H y dy ∧ IsMove d dx dy m ∧ ∀ r, Dq K H r m → Q r H
/-- def move_of(expander, state, sign): -/
theorem ok_move_of (T : Tx K mg) : FnOk P w K mg base CX0 1 T.a_move_of T.fd_move_of ["expander", "state", "sign"] (sp_move_of K) := by
  refine T.F_move_of.ok sc_move_of (fun vs H Q E h => ?_) (fun cdv A outer s H vs Q E hr h => ?_)
  · obtain ⟨_, _, _, _, _, _, _, rfl, _⟩ := h
    rfl
  · refine ⟨_, (pss_one (ps_ret (pe_ix ix_tup (pe_ix ix_tup (pe_ix ix_tup (pe_ix ix_tup (pv 0) pe_int (fun _ _ => rfl)) (pv 1) (fun _ _ => rfl)) pe_int (fun _ _ => rfl)) (pe_bm PySem.F.plainAttrs_str PySem.F.slot_str_index PySem.F.type_str_index mt_sindex (pe_ix ix_tup (pv 0) pe_int (fun _ _ => rfl)) (pa_cons (pv 2) pa_nil)) (fun _ _ => rfl)))), ?_⟩
    obtain ⟨v, x, y, d, dx, dy, m, rfl, hv, hx, hy, ⟨z, f, ss, i, c, ms, l, k, rest, rfl, rfl, rfl, e1, e2, e3⟩, q⟩ := h
    obtain ⟨a, t, xs, rfl, ht, hts, hA⟩ := expV_of hv
    obtain rfl := hx.intV
    obtain rfl := hy.strV
    obtain ⟨s, ex, hs⟩ := hA.ix e1
    obtain ⟨p, us, rfl, hp, hq⟩ := hs.items
    obtain ⟨mv, us', rfl, hM, hq⟩ := hq.one
    obtain ⟨lv, us'', rfl, _, hq⟩ := hq.one
    obtain rfl := hq.none
    obtain ⟨m0, mss, rfl, hm0, hms⟩ := hM.items
    obtain ⟨r, er, hr'⟩ := hms.ix e3
    refine ⟨_, rfl, a, _, 2, _, rfl, rfl, ht, rfl, _, rfl, t, xs, (i : Int), _, rfl, rfl, hts, atI_nat ex, p, _, 0, _, rfl, rfl, hp, rfl, _, rfl, a, _, 0, _, rfl, rfl, ht, rfl, rfl, _, rfl, z, c, k, rest, rfl, rfl, e2, m0, mss, (k : Int), _, rfl, rfl, hm0, atI_nat er, q r hr'⟩
end
end K10

namespace K10
open PySem PySem.Spec PyProof.Rows L2 G Lk
section
variable {P : Program} {w : World} {K : PySem.W.Frag} {mg : Str → Option Value} {base : Heap}
/-- the value of a next stand, or None -/
def optD : Option (Str × Str × Nat) → PyData
  | some p => standD p
  | none => .none
def sp_next_stand (K : PySem.W.Frag) : Sp := fun vs H Q _ => ∃ (v st : V) (z f a b : Str) (s : Nat) (ss : List PyData), vs = [v, st] ∧ Dq K H v (.tuple [.str z, .str f, .tuple ss]) ∧ Dq K H st (standD (a, b, s)) ∧ StatesOk z ss ∧
  s < ss.length ∧ allIn z b = true ∧ a.length ≤ 4000000 ∧ b.length ≤ 4000000 ∧ ∀ H' r, Same H H' → Dq K H' r (optD (nextD z ss a b s)) → Q r H'
/-- def _next_stand(expander, stand): -/
theorem ok_next_stand (T : Tx K mg) : FnOk P w K mg base CX0 2 T.a__next_stand T.fd__next_stand ["expander", "stand"] (sp_next_stand K) := by
  refine T.F__next_stand.ok sc_next_stand (fun vs H Q E h => ?_) (fun cdv A outer s H vs Q E hr h => ?_)
  · obtain ⟨_, _, _, _, _, _, _, _, rfl, _⟩ := h
    rfl
  · refine ⟨_, (pss_cons (ps_asg (pv 1) (pg_tup rfl (pgs_cons (pg_name (i := 3) sc_next_stand.nd rfl (by first | exact Or.inl rfl | exact Or.inr rfl)) (pgs_cons (pg_name (i := 4) sc_next_stand.nd rfl (by first | exact Or.inl rfl | exact Or.inr rfl)) (pgs_cons (pg_name (i := 5) sc_next_stand.nd rfl (by first | exact Or.inl rfl | exact Or.inr rfl)) pgs_nil)))))
    (pss_cons (ps_if (pt_cmpR op_eq (pv 4) pe_str (nomark _))
      (pss_one (ps_ret pe_non))
      pss_nil)
    (pss_cons (ps_set (i := 2) sc_next_stand.nd rfl (by first | exact Or.inl rfl | exact Or.inr rfl) (pe_call (ok_move_of T) (hr.mono (by decide)) (by rfl) T.g_move_of T.F_move_of.kp T.b_move_of .nil pass0 (pa_cons (pv 0) (pa_cons (pv 5) (pa_cons (pe_ix ix_str (pv 4) pe_int (fun _ _ => rfl)) pa_nil)))))
    (pss_cons (ps_if (pt_cmpR op_isN (pv 2) pe_non (nomark _))
      (pss_one (ps_ret pe_non))
      pss_nil)
    (pss_one (ps_ret (pe_tup (pa_cons (pe_op op_add_str (pv 3) (pe_ix ix_tup (pv 2) pe_int (fun _ _ => rfl))) (pa_cons (pe_op op_add_str (pe_ix ix_tup (pv 2) pe_int (fun _ _ => rfl)) (pe_slice sl_str (pv 4) (po_some pe_int) po_none)) (pa_cons (pe_ix ix_tup (pv 2) pe_int (fun _ _ => rfl)) pa_nil)))))))))), ?_⟩
    obtain ⟨v, st, z, f, a, b, s, ss, rfl, hv, hst, ok, hs, hb, la, lb, q⟩ := h
    obtain ⟨p, rfl, hp⟩ := standV hst
    refine ⟨_, rfl, p, _, rfl, hp, rfl, _, _, rfl, _, _, rfl, _, _, rfl, rfl, ?_⟩
    refine ⟨_, rfl, rfl, _, rfl, ?_⟩
    rcases str_cases b with rfl | ⟨c, r, rfl⟩
    · refine if_true rfl ?_
      exact q H .non (Same.refl H) .non
    · refine if_false (decide_eq_false fun e => ?_) ?_
      · injection e with e
        exact tx_cons_ne e
      have hc : c ∈ z.cps.toList := allIn_mem hb c (by rw [tx_codes]; exact List.mem_cons_self ..)
      obtain ⟨ms, l, k, rest, e1, e2, e3, e4⟩ := place_in ok hs hc
      have lbz : (tx (c :: r)).length ≤ sizeLine := Nat.le_trans lb (by decide)
      refine ⟨_, rfl, _, rfl, _, rfl, tx (c :: r), _, c, rfl, rfl, lbz, atI_nat (j := 0) (by rw [tx_codes]; rfl), ?_⟩
      refine ⟨v, _, _, _, _, _, moveD z ss s c, rfl, hv, .int _, .str _, ⟨z, f, ss, s, Ls.one c, ms, l, k, rest, rfl, rfl, rfl, e1, e2, e3⟩, fun m hm => ?_⟩
      rw [next_cons] at q
      refine ⟨_, rfl, rfl, _, rfl, ?_⟩
      generalize moveD z ss s c = md at q hm e4
      rcases moveB_parts e4 with rfl | ⟨x, y, g, rfl, ⟨hx, lx⟩, ⟨hy, ly⟩, hg⟩
      · obtain rfl := hm.noneV
        exact if_true rfl (q H .non (Same.refl H) .non)
      · obtain ⟨pm, rfl, hpm⟩ := standV (a := x) (b := y) (s := g) hm
        refine if_false rfl ?_
        refine ⟨_, rfl, _, rfl, pm, _, 0, _, rfl, rfl, hpm, rfl, a, x, rfl, rfl, Nat.le_trans (Nat.add_le_add la lx) (by decide), ?_⟩
        refine ⟨_, rfl, pm, _, 1, _, rfl, rfl, hpm, rfl, _, rfl, _, rfl, tx (c :: r), rfl, lbz, ?_⟩
        have ec : cutS (tx (c :: r)) (some 1) none = tx r := by
          rw [show (some (1 : Int)) = some ((1 : Nat) : Int) from rfl, cutS_from, tx_codes]
          rfl
        have lr : (tx r).length ≤ 4000000 := by
          rw [tx_len] at lb ⊢
          exact Nat.le_trans (Nat.le_succ _) lb
        rw [ec]
        refine ⟨y, tx r, rfl, rfl, Nat.le_trans (Nat.add_le_add ly lr) (by decide), _, rfl, pm, _, 2, _, rfl, rfl, hpm, rfl, (by show 3 ≤ sizeLine; decide), fun p2 np2 => ?_⟩
        refine q _ _ (same_new np2) ?_
        show Dq K _ (.ref p2) (.tuple [.str (a ++ x), .str (y ++ tx r), .int (((g : Int).toNat : Nat) : Int)])
        rw [Int.toNat_natCast]
        exact .tup (SqT.of upd_same) (.cons (.str _) (.cons (.str _) (.cons (.int _) .nil)))
end
end K10

namespace K10
open PySem PySem.Spec PyProof.Rows L2 G Lk
section
variable {P : Program} {w : World} {K : PySem.W.Frag} {mg : Str → Option Value} {base : Heap}
/-- the first stands of a run -/
def runD (z : Str) (ss : List PyData) : Nat → Str × Str × Nat → List (Str × Str × Nat)
  | 0, _ => []
  | n + 1, p => p :: match nextD z ss p.1 p.2.1 p.2.2 with
    | some q => runD z ss n q
    | none => []
def sp_stands (K : PySem.W.Frag) (mg : Str → Option Value) (T : Tx K mg) : Sp := fun vs H Q E => ∃ (v x : V) (n : Nat) (d dx : PyData), vs = [v, x, .int (n : Int)] ∧ Dq K H v d ∧ Dq K H x dx ∧ Light d ∧ Light dx ∧ n ≤ 1000 ∧
  (expB d = false → ∀ H', Same H H' → E (.ref T.a_NoExpander) none H') ∧
  (∀ z f ss, d = .tuple [.str z, .str f, .tuple ss] → expB d = true → (isText z dx = false → ∀ H', Same H H' → E (.ref T.a_NoText) none H') ∧
    ∀ t, dx = .str t → isText z dx = true → ∀ H' (r : Addr), Same H H' → H r = none → (∃ us, H' r = some (.lst us) ∧ DqAll K H' us ((runD z ss n (f, t, 0)).map standD)) → Q (.ref r) H')
section
variable {T : Tx K mg} {H : Hp} {Q : VK} {v : V} {z f t : Str} {ss : List PyData}
theorem stands_k {n : Nat} (hn : n ≤ 1000) (hd : Dq K H v (.tuple [.str z, .str f, .tuple ss])) (lE : Light (.tuple [.str z, .str f, .tuple ss])) (he : expB (.tuple [.str z, .str f, .tuple ss]) = true) (ht : allIn z t = true) (lt : t.length ≤ 200)
    (k : ∀ H' (r : Addr), Same H H' → H r = none → (∃ us, H' r = some (.lst us) ∧ DqAll K H' us ((runD z ss n (f, t, 0)).map standD)) → Q (.ref r) H') : sp_stands K mg T [v, .str t, .int (n : Int)] H Q E0 := by
  have e1 : isText z (.str t) = true := by
    show (allIn z t && decide (t.length ≤ 200)) = true
    rw [ht, decide_eq_true lt]
    rfl
  refine ⟨v, .str t, n, _, .str t, rfl, hd, .str t, lE, by unfold Light; simp only [PyData.weight]; exact Nat.le_trans lt (by decide), hn, fun e => (Bool.false_ne_true (e.symm.trans he)).elim, fun z' f' ss' e _ => ?_⟩
  cases e
  refine ⟨fun e => (Bool.false_ne_true (e.symm.trans e1)).elim, fun t' et _ H' r s hn hr => ?_⟩
  cases et
  exact k H' r s hn hr
end
/-- def stands(expander, text, *, most=100): -/
theorem ok_stands (T : Tx K mg) : FnOk P w K mg base (L2.CX P w) 8 T.a_stands T.fd_stands ["expander", "text", "most"] (sp_stands K mg T) := by
  refine T.F_stands.okX sc_stands (fun vs H Q E h => ?_) (fun cdv A outer s H vs Q E hr h => ?_)
  · obtain ⟨_, _, _, _, _, rfl, _⟩ := h
    rfl
  · refine ⟨_, (pss_cons (ps_expr (pe_call (ok_need_expander T) (hr.mono (by decide)) (by rfl) T.g_need_expander T.F_need_expander.kp T.b_need_expander .nil (passes_call (takes_of rfl rfl rfl rfl) (fun _ _ _ _ h => h)) (pa_cons (pv 0) pa_nil)))
    (pss_cons (ps_expr (pe_call (ok_need_text T) (hr.mono (by decide)) (by rfl) T.g_need_text T.F_need_text.kp T.b_need_text .nil (passes_call (takes_of rfl rfl rfl rfl) (fun _ _ _ _ h => h)) (pa_cons (pe_ix ix_tup (pv 0) pe_int (fun _ _ => rfl)) (pa_cons (pv 1) pa_nil))))
    (pss_cons (ps_set (i := 3) sc_stands.nd rfl (by first | exact Or.inl rfl | exact Or.inr rfl) (pe_lst pa_nil))
    (pss_cons (ps_set (i := 4) sc_stands.nd rfl (by first | exact Or.inl rfl | exact Or.inr rfl) (pe_call (ok_first_stand T) (hr.mono (by decide)) (by rfl) T.g__first_stand T.F__first_stand.kp T.b__first_stand .nil pass0 (pa_cons (pv 0) (pa_cons (pv 1) pa_nil))))
    (pss_cons (ps_while (passes_of rfl) (PW.pt (pw_and (pt_cmpR op_notN (pv 4) pe_non (nomark _)) (pw_and1 (pt_cmpR op_lt (pe_callB call_len_seq (by rfl) T.z_len PySem.boot_len (pa_cons (pv 3) pa_nil)) (pv 2) (nomark _)))))
      (pss_cons (ps_expr (pe_bm PySem.F.plainAttrs_list PySem.F.slot_list_append PySem.F.type_list_append mt_append (pv 3) (pa_cons (pv 4) pa_nil)))
    (pss_one (ps_set (i := 4) sc_stands.nd rfl (by first | exact Or.inl rfl | exact Or.inr rfl) (pe_call (ok_next_stand T) (hr.mono (by decide)) (by rfl) T.g__next_stand T.F__next_stand.kp T.b__next_stand .nil pass0 (pa_cons (pv 0) (pa_cons (pv 4) pa_nil)))))))
    (pss_one (ps_ret (pv 3)))))))), ?_⟩
    obtain ⟨v, x, n, d, dx, rfl, hv, hx, hz, hzx, hn, kE, k⟩ := h
    refine ⟨_, rfl, v, d, rfl, hv, hz, kE, fun eb H1 s1 => ?_⟩
    obtain ⟨z, f, ss, rfl, hzs, ⟨hf, lf⟩, l1, l60, hss⟩ := expB_parts eb
    obtain ⟨k1, k2⟩ := k z f ss rfl eb
    have hv1 := hv.mono s1
    obtain ⟨a, t', xs, rfl, ht, hts, hA⟩ := expV_of hv1
    have ok : StatesOk z ss := ⟨hzs, l1, l60, hss⟩
    refine ⟨_, rfl, a, _, _, _, rfl, rfl, ht, rfl, _, rfl, z, x, dx, rfl, hx.mono s1, fun w e => by subst e; exact light_str hzx, fun e => k1 e H1 s1, fun e => ?_⟩
    obtain ⟨t, rfl⟩ := text_str e
    obtain rfl := hx.strV
    have et : allIn z t = true ∧ t.length ≤ 200 := by
      have e : (allIn z t && decide (t.length ≤ 200)) = true := e
      rw [Bool.and_eq_true, decide_eq_true_eq] at e
      exact e
    refine ⟨Nat.zero_le _, fun L nL => ?_⟩
    have s2 := same_new (o := .lst []) nL
    have nLH : H L = none := by
      cases e0 : H L with
      | none => rfl
      | some o =>
        rw [s1 _ _ e0] at nL
        cases nL
    refine ⟨_, rfl, _, rfl, _, z, f, t, ss, rfl, hv1.mono s2, fun H3 r s3 hr => ?_⟩
    have e3 : H3 L = some (.lst []) := s3 _ _ upd_same
    have s13 := Same.trans s2 s3
    have s13 := Same.trans s2 s3
    have st0 : Stood z ss.length 2000 (f, t, 0) := ⟨lf, hf, Nat.le_trans et.2 (by decide), et.1, by show 0 < ss.length; omega⟩
    have fl : ∀ q : Str × Str × Nat, hasList (standD q) = false := fun q => by
      unfold standD
      simp [hasList, hasListAll]
    have ofl : ∀ q : Option (Str × Str × Nat), hasList (optD q) = false := fun q => by
      cases q with
      | none => simp [optD, hasList]
      | some q => exact fl q
    refine while_by (fun σ H' => ∃ (us : List V) (pre : List (Str × Str × Nat)) (cur : Option (Str × Str × Nat)) (cv : V), σ = [some (.ref a), some (.str t), some (.int (n : Int)), some (.ref L), some cv] ∧ Same H1 H' ∧ H' L = some (.lst us) ∧ DqAll K (sans H' L) us (pre.map standD) ∧
      Dq K (sans H' L) cv (optD cur) ∧ pre.length ≤ n ∧ runD z ss n (f, t, 0) = pre ++ (match cur with | some q => runD z ss (n - pre.length) q | none => []) ∧ ∀ q, cur = some q → Stood z ss.length (2000 + 2000 * pre.length) q)
      (fun _ H' => match H' L with | some (.lst us) => n - us.length | _ => 0) ?_ ?_ ?_
    · exact ⟨[], [], some (f, t, 0), r, rfl, s13, e3, .nil, hr.out e3 (fl _), Nat.zero_le _, rfl, fun q e => by cases e; exact st0⟩
    · rintro σ H4 ⟨us, pre, cur, cv, rfl, s4, e4, hA4, hc4, lp, er, hcur⟩
      have lus : us.length = pre.length := by
        rw [hA4.length, List.length_map]
      cases cur with
      | none =>
        obtain rfl := hc4.noneV
        refine ⟨_, rfl, rfl, _, rfl, ?_⟩
        refine if_false rfl ?_
        refine if_false rfl ⟨_, rfl, ?_⟩
        rw [List.append_nil] at er
        refine k2 t rfl e H4 L (Same.trans s1 s4) nLH ⟨us, e4, ?_⟩
        rw [er]
        exact hA4.mono sans_same
      | some p =>
        have hst := hcur p rfl
        obtain ⟨pa, pb, ps⟩ := p
        obtain ⟨pp, rfl, hpp⟩ := standV (hc4.mono sans_same)
        refine ⟨_, rfl, rfl, _, rfl, ?_⟩
        refine if_true rfl ?_
        refine ⟨_, rfl, L, us, rfl, .inl (SqL.of e4), _, rfl, _, _, rfl, rfl, _, rfl, ?_⟩
        by_cases hlt : us.length < n
        · rw [decide_eq_true (show ((us.length : Nat) : Int) < (n : Int) by omega)]
          refine if_true rfl ?_
          refine ⟨_, rfl, .inl ⟨rfl, _, SqL.of e4⟩, _, rfl, L, us, _, rfl, rfl, e4, Nat.lt_of_lt_of_le (show us.length < 1000 by omega) (by decide), ?_⟩
          have sm5 : Sm L H4 (upd H4 L (.lst (us ++ [.ref pp]))) := Sm.pot
          have e5 : upd H4 L (.lst (us ++ [.ref pp])) L = some (.lst (us ++ [.ref pp])) := upd_same
          have s5 : Same H1 (upd H4 L (.lst (us ++ [.ref pp]))) := fun b o eb => (upd_ne (ne_of_none eb nL)).trans (s4 _ _ eb)
          revert sm5 e5 s5
          generalize upd H4 L (.lst (us ++ [.ref pp])) = H5
          intro sm5 e5 s5
          have hc5 := hc4.mono sm5
          have ll : 2000 + 2000 * pre.length ≤ 4000000 := by omega
          refine ⟨_, rfl, _, rfl, _, .ref pp, z, f, pa, pb, ps, ss, rfl, hv1.mono s5, hc5.mono sans_same, ok, hst.state, hst.frontIn, Nat.le_trans hst.done ll, Nat.le_trans hst.front ll, fun H6 r6 s6 hr6 => ?_⟩
          have e6 := s6 _ _ e5
          refine ⟨⟨us ++ [.ref pp], pre ++ [(pa, pb, ps)], nextD z ss pa pb ps, r6, rfl, Same.trans s5 s6, e6, ?_, hr6.out e6 (ofl _), by rw [List.length_append]; show pre.length + 1 ≤ n; omega, ?_, fun q eq => ?_⟩, ?_⟩
          · rw [List.map_append]
            exact ((hA4.append (.cons hc4 .nil)).mono sm5).mono (Sm.of s6)
          · rw [er]
            have e7 : n - pre.length = (n - (pre.length + 1)) + 1 := by omega
            show pre ++ runD z ss (n - pre.length) (pa, pb, ps) = _
            rw [e7, List.append_assoc, List.length_append]
            rfl
          · have := hst.next ok eq
            rw [List.length_append]
            show Stood z ss.length (2000 + 2000 * (pre.length + 1)) q
            rw [Nat.mul_add]
            exact this
          · rw [e6, e4]
            show n - (us ++ [V.ref pp]).length < n - us.length
            rw [List.length_append]
            show n - (us.length + 1) < n - us.length
            omega
        · rw [decide_eq_false (show ¬ ((us.length : Nat) : Int) < (n : Int) by omega)]
          refine if_false rfl ⟨_, rfl, ?_⟩
          have e0 : n - pre.length = 0 := by omega
          rw [e0] at er
          have er : runD z ss n (f, t, 0) = pre ++ [] := er
          rw [List.append_nil] at er
          refine k2 t rfl e H4 L (Same.trans s1 s4) nLH ⟨us, e4, ?_⟩
          rw [er]
          exact hA4.mono sans_same
    · rintro σ H' Q1 Q2 hQ h
      obtain ⟨v, hv, e1, k, e2, h⟩ := h
      refine ⟨v, hv, e1, k, e2, ?_⟩
      cases k with
      | false => exact hQ _ _ h
      | true =>
        obtain ⟨u, hu, p, ys, e3, e4, v2, hv2, i, j, e5, e6, k2, e7, h⟩ := h
        exact ⟨u, hu, p, ys, e3, e4, v2, hv2, i, j, e5, e6, k2, e7, hQ _ _ h⟩
end
end K10

namespace K10
open PySem PySem.Spec PyProof.Rows L2 G Lk
section
variable {P : Program} {w : World} {K : PySem.W.Frag} {mg : Str → Option Value} {base : Heap}
def sp_Llong_right (K : PySem.W.Frag) : Sp := fun vs H Q _ => ∃ (a c : Addr), vs = [.ref a] ∧ Pot K H a c ∧ ∀ H', Q (.bl true) H'
/-- the expander that puts its sign back, and its runs -/
def loopD (w : Str) : List PyData := [.tuple [.tuple [.tuple [.str w, .str "a", .int 0]], .str ""]]
theorem loop_exp {w : Str} (h1 : w.length ≤ 60) (h2 : allIn "a" w = true) : expB (.tuple [.str "a", .str "", .tuple (loopD w)]) = true := by
  have hs : shortB "a" (.str w) = true := by
    show (allIn "a" w && decide (w.length ≤ 2000)) = true
    rw [h2, decide_eq_true (show w.length ≤ 2000 by omega)]
    rfl
  have ha : shortB "a" (.str "a") = true := by decide +kernel
  have he : shortB "a" (.str "") = true := by decide +kernel
  have hg : signsB (.str "a") = true := by decide +kernel
  have hm : moveB "a" ((1 : Nat) : Int) (.tuple [.str w, .str "a", .int 0]) = true := by
    show (shortB "a" (.str w) && (shortB "a" (.str "a") && countB _ (.int 0))) = true
    rw [hs, ha]
    rfl
  have hst : stateB "a" ((1 : Nat) : Int) (.tuple [.tuple [.tuple [.str w, .str "a", .int 0]], .str ""]) = true := by
    show (decide (1 = ("a" : Str).length) && ((isNone (.str "") || shortB "a" (.str "")) && ([PyData.tuple [.str w, .str "a", .int 0]].all fun m => isNone m || moveB "a" ((1 : Nat) : Int) m))) = true
    have e : ([PyData.tuple [.str w, .str "a", .int 0]].all fun m => isNone m || moveB "a" ((1 : Nat) : Int) m) = true := by
      show ((isNone _ || moveB "a" ((1 : Nat) : Int) (.tuple [.str w, .str "a", .int 0])) && true) = true
      rw [hm]
      rfl
    rw [e, he]
    rfl
  show (signsB (.str "a") && (shortB "a" (.str "") && ((decide (1 ≤ 1) && decide (1 ≤ 60)) && ((stateB "a" ((1 : Nat) : Int) (.tuple [.tuple [.tuple [.str w, .str "a", .int 0]], .str ""])) && true)))) = true
  rw [hg, he, hst]
  rfl
theorem loop_move (w : Str) : moveD "a" (loopD w) 0 97 = .tuple [.str w, .str "a", .int 0] := by
  have e : Builtin.Str.occurrences ("a" : Str) (Ls.one 97) 0 ("a" : Str).length 1 = [0] := by decide +kernel
  unfold moveD
  rw [e]
  rfl
theorem cat_empty (a : Str) : a ++ tx [] = a := by
  refine str_ext ?_
  rw [cat_codes, tx_codes, List.append_nil]
theorem loop_next (w x : Str) : nextD "a" (loopD w) x "a" 0 = some (x ++ w, ("a" : Str), 0) := by
  have e : ("a" : Str) = tx [97] := by decide +kernel
  have e2 : nextD "a" (loopD w) x (tx [97]) 0 = stepM x [] (moveD "a" (loopD w) 0 97) := next_cons ..
  rw [← e, loop_move] at e2
  rw [e2]
  show some (x ++ w, ("a" : Str) ++ tx [], (0 : Int).toNat) = _
  rw [cat_empty]
  rfl
theorem rep_succ (w : Str) (n : Nat) : repS w n ++ w = repS w (n + 1) := by
  refine str_ext ?_
  rw [cat_codes, repS_codes, repS_codes, List.replicate_succ', List.flatten_append, List.flatten_cons, List.flatten_nil, List.append_nil]
theorem loop_run (w : Str) : ∀ (n k : Nat), runD "a" (loopD w) n (repS w k, ("a" : Str), 0) = (List.range n).map fun j => (repS w (k + j), ("a" : Str), 0)
  | 0, k => rfl
  | n + 1, k => by
    show (repS w k, ("a" : Str), 0) :: (match nextD "a" (loopD w) (repS w k) "a" 0 with | some q => runD "a" (loopD w) n q | none => []) = _
    rw [loop_next, rep_succ]
    show (repS w k, ("a" : Str), 0) :: runD "a" (loopD w) n (repS w (k + 1), ("a" : Str), 0) = _
    rw [loop_run w n (k + 1), List.range_succ_eq_map, List.map_cons, List.map_map]
    congr 1
    refine List.map_congr_left fun j _ => ?_
    show (repS w (k + 1 + j), _, _) = (repS w (k + (j + 1)), _, _)
    rw [show k + 1 + j = k + (j + 1) by omega]
/-- def _law_long_right(pot): -/
theorem ok_Llong_right (T : Tx K mg) : FnOk P w K mg base CX0 9 T.a__law_long_right T.fd__law_long_right ["pot"] (sp_Llong_right K) := by
  refine T.F__law_long_right.ok sc_Llong_right (fun vs H Q E h => ?_) (fun cdv A outer s H vs Q E hr h => ?_)
  · obtain ⟨_, _, rfl, _⟩ := h
    rfl
  · refine ⟨_, (pss_cons (ps_par (i := 4) (j := 5) (by rfl) sc_Llong_right.nd rfl rfl (by decide) rfl rfl (pa_cons (pe_op op_add pe_int (pe_call (ok_Lbelow T) (hr.mono (by decide)) (by rfl) T.g__law_below T.F__law_below.kp T.b__law_below .nil pass0 (pa_cons (pv 0) (pa_cons pe_int pa_nil)))) (pa_cons (pe_op op_add pe_int (pe_call (ok_Lbelow T) (hr.mono (by decide)) (by rfl) T.g__law_below T.F__law_below.kp T.b__law_below .nil pass0 (pa_cons (pv 0) (pa_cons pe_int pa_nil)))) pa_nil)) (by rfl))
    (pss_cons (ps_set (i := 1) sc_Llong_right.nd rfl (by first | exact Or.inl rfl | exact Or.inr rfl) (pe_op op_mulS pe_str (pv 4)))
    (pss_cons (ps_set (i := 2) sc_Llong_right.nd rfl (by first | exact Or.inl rfl | exact Or.inr rfl) (pe_tup (pa_cons pe_str (pa_cons pe_str (pa_cons (pe_tup (pa_cons (pe_tup (pa_cons (pe_tup (pa_cons (pe_tup (pa_cons (pv 1) (pa_cons pe_str (pa_cons pe_int pa_nil)))) pa_nil)) (pa_cons pe_str pa_nil))) pa_nil)) pa_nil)))))
    (pss_cons (ps_setLc (i := 3) (own := [("at", 6)]) (g := gName 6) (by rfl) sc_Llong_right.nd rfl rfl (sw_true rfl rfl rfl (by decide +kernel)) (pi_range1 (by rfl) T.z_range (pa_cons (pv 5) pa_nil)) (blkOk_by (own := [("at", 6)]) (N := N_Llong_right) (sc := defScope s_Llong_right) (by decide +kernel)) (fun _ _ _ _ _ => pg_name (i := 6) sc_Llong_right.nd rfl (by first | exact Or.inl rfl | exact Or.inr rfl)) (fun _ _ _ _ _ => pts_nil) (fun _ _ _ _ _ => (pe_tup (pa_cons (pe_op op_mulS (pv 1) (pv 6)) (pa_cons pe_str (pa_cons pe_int pa_nil))))))
    (pss_one (ps_ret (pe_cmpR (op_eqD hr.units) (pe_callN (ok_stands T) (hr.mono (by decide)) (by rfl) T.g_stands T.F_stands.kp T.kb_stands passL (pa_cons (pv 2) (pa_cons pe_str pa_nil)) (pk_cons (pv 5) pk_nil)) (pv 3) (nomark _)))))))), ?_⟩
    obtain ⟨p, c, rfl, hp, q⟩ := h
    refine ⟨_, rfl, p, c, 50, rfl, hp, by decide, by decide, fun H1 k1 sm1 hp1 a1 b1 => ⟨_, _, rfl, rfl, ?_⟩⟩
    refine ⟨_, rfl, p, c, 120, rfl, hp1, by decide, by decide, fun H2 k2 sm2 hp2 a2 b2 => ⟨_, _, rfl, rfl, _, _, rfl, ?_⟩⟩
    obtain ⟨n1, rfl⟩ := Int.eq_ofNat_of_zero_le a1
    obtain ⟨n2, rfl⟩ := Int.eq_ofNat_of_zero_le a2
    have e1 : (1 + ((n1 : Nat) : Int)) = ((n1 + 1 : Nat) : Int) := by omega
    have e2 : (1 + ((n2 : Nat) : Int)) = ((n2 + 1 : Nat) : Int) := by omega
    refine ⟨_, rfl, "a", n1 + 1, rfl, congrArg V.int e1, ?_, by omega, ?_⟩
    · show 1 * (n1 + 1) ≤ 16777216
      omega
    have wl : (repS "a" (n1 + 1)).length ≤ 60 := by
      rw [repS_len]
      show (n1 + 1) * 1 ≤ 60
      omega
    have wi : allIn "a" (repS "a" (n1 + 1)) = true := allIn_of fun c hc => rep_mem hc
    have wc : ∀ c ∈ (repS "a" (n1 + 1)).cps.toList, c < 1000 := fun c hc => (show ∀ c ∈ ("a" : Str).cps.toList, c < 1000 by decide +kernel) c (rep_mem hc)
    generalize repS "a" (n1 + 1) = wd at wl wi wc ⊢
    clear hp hp1 sm1 sm2
    -- the expander
    refine ⟨_, rfl, (by show 3 ≤ sizeLine; decide), fun p3 np3 => ?_⟩
    have h3 : Dq K (upd H2 p3 (.tup [.str wd, .str "a", .int 0])) (.ref p3) (.tuple [.str wd, .str "a", .int 0]) := .tup (SqT.of upd_same) (.cons (.str _) (.cons (.str _) (.cons (.int _) .nil)))
    revert h3
    generalize upd H2 p3 (.tup [.str wd, .str "a", .int 0]) = H3
    intro h3
    refine ⟨(by show 1 ≤ sizeLine; decide), fun p4 np4 => ?_⟩
    have h4 : Dq K (upd H3 p4 (.tup [.ref p3])) (.ref p4) (.tuple [.tuple [.str wd, .str "a", .int 0]]) := .tup (SqT.of upd_same) (.cons (h3.mono (same_new np4)) .nil)
    revert h4
    generalize upd H3 p4 (.tup [.ref p3]) = H4
    intro h4
    refine ⟨(by show 2 ≤ sizeLine; decide), fun p5 np5 => ?_⟩
    have h5 : Dq K (upd H4 p5 (.tup [.ref p4, .str ""])) (.ref p5) (.tuple [.tuple [.tuple [.str wd, .str "a", .int 0]], .str ""]) := .tup (SqT.of upd_same) (.cons (h4.mono (same_new np5)) (.cons (.str _) .nil))
    revert h5
    generalize upd H4 p5 (.tup [.ref p4, .str ""]) = H5
    intro h5
    refine ⟨(by show 1 ≤ sizeLine; decide), fun p6 np6 => ?_⟩
    have h6 : Dq K (upd H5 p6 (.tup [.ref p5])) (.ref p6) (.tuple (loopD wd)) := .tup (SqT.of upd_same) (.cons (h5.mono (same_new np6)) .nil)
    revert h6
    generalize upd H5 p6 (.tup [.ref p5]) = H6
    intro h6
    refine ⟨(by show 3 ≤ sizeLine; decide), fun p7 np7 => ?_⟩
    have h7 : Dq K (upd H6 p7 (.tup [.str "a", .str "", .ref p6])) (.ref p7) (.tuple [.str "a", .str "", .tuple (loopD wd)]) := .tup (SqT.of upd_same) (.cons (.str _) (.cons (.str _) (.cons (h6.mono (same_new np7)) .nil)))
    revert h7
    generalize upd H6 p7 (.tup [.str "a", .str "", .ref p6]) = H7
    intro h7
    have hE := loop_exp wl wi
    have ac : ∀ c ∈ ("a" : Str).cps.toList, c < 1000 := by decide +kernel
    have lE : Light (.tuple [.str "a", .str "", .tuple (loopD wd)]) := by
      have q0 : Qk true 1 303 (.tuple [.str wd, .str "a", .int 0]) := tup3 (k := true) (n := 0) (B := 100) (.str (by omega) wc) (.str (by decide) ac) (.int (by decide) (by decide) (by decide)) (by decide)
      have q1 : Qk true 2 400 (.tuple [.tuple [.str wd, .str "a", .int 0]]) := Qk.tup (n := 1) (B := 303) (fun d hd => by rw [List.mem_singleton.mp hd]; exact q0) (by show 1 * 304 ≤ 400; decide)
      have q2 : Qk true 3 802 (.tuple [.tuple [.tuple [.str wd, .str "a", .int 0]], .str ""]) := tup2 (k := true) (n := 2) (B := 400) q1 (.str (by decide) (by decide +kernel)) (by decide)
      have q3 : Qk true 4 803 (.tuple (loopD wd)) := Qk.tup (n := 3) (B := 802) (fun d hd => by rw [List.mem_singleton.mp hd]; exact q2) (by show 1 * 803 ≤ 803; decide)
      exact (tup3 (k := true) (n := 4) (B := 803) (.str (by decide) ac) (.str (by decide) (by decide +kernel)) q3 (Nat.le_refl _)).light (by decide)
    -- due
    refine ⟨_, rfl, ((n2 + 1 : Nat) : Int), congrArg (fun i => [V.int i]) e2, by omega, by omega, fun D nD => ?_⟩
    let sd : Nat → PyData := fun j => standD (repS wd j, ("a" : Str), 0)
    refine lc_range (lo := 0) (n := n2 + 1) (fun j H' => Same H7 H' ∧ ∃ vs, H' D = some (.lst vs) ∧ vs.length = j ∧ DqAll K (sans H' D) vs ((List.range j).map sd)) ⟨same_new nD, [], upd_same, rfl, .nil⟩ ?_ ?_
    · rintro j H8 hj ⟨s8, vs, hD8, lv, hA8⟩
      have ll : wd.length * j ≤ 60 * 121 := Nat.mul_le_mul wl (by omega)
      refine ⟨rfl, _, rfl, _, rfl, wd, j, rfl, by rw [Int.zero_add], by omega, by omega, (by show 3 ≤ sizeLine; decide), fun r nr => ?_⟩
      have s9 := same_new (o := .tup [.str (repS wd j), .str "a", .int 0]) nr
      have e9 : upd H8 r (.tup [.str (repS wd j), .str "a", .int 0]) r = some (.tup [.str (repS wd j), .str "a", .int 0]) := upd_same
      have rD : r ≠ D := (ne_of_none hD8 nr).symm
      have hD9 := s9 _ _ hD8
      revert s9 e9 hD9
      generalize upd H8 r (.tup [.str (repS wd j), .str "a", .int 0]) = H9
      intro s9 e9 hD9
      have sm : Sm D H9 (upd H9 D (.lst (vs ++ [.ref r]))) := Sm.pot
      have hq : Dq K (sans H9 D) (.ref r) (sd j) := .tup (SqT.of (sans_of rD e9)) (.cons (.str _) (.cons (.str _) (.cons (.int _) .nil)))
      refine ⟨vs, hD9, ?_, fun b o eb => (upd_ne (ne_of_none eb nD)).trans (s9 _ _ (s8 b o eb)), vs ++ [.ref r], upd_same, ?_, ?_⟩
      · rw [lv]
        exact Nat.lt_of_lt_of_le (show j < 300 by omega) (by decide)
      · rw [List.length_append, lv]
        rfl
      · rw [List.range_succ, List.map_append]
        exact ((hA8.mono (Sm.of s9)).mono sm).append (.cons (hq.mono sm) .nil)
    · rintro H8 ⟨s8, vs, hD8, lv, hA8⟩
      refine ⟨_, rfl, _, rfl, rfl, rfl, ?_⟩
      dsimp only [tNil, List.cons_append, List.nil_append]
      rw [e2]
      refine stands_k (n := n2 + 1) (by omega) (h7.mono s8) lE hE (by decide +kernel) (by decide) fun H9 r9 s9 n9 hr9 => ?_
      obtain ⟨us9, e9, hu9⟩ := hr9
      have er : runD "a" (loopD wd) (n2 + 1) ("", "a", 0) = (List.range (n2 + 1)).map fun j => (repS wd j, ("a" : Str), 0) := by
        have h := loop_run wd (n2 + 1) 0
        have e0 : repS wd 0 = "" := rfl
        rw [e0] at h
        rw [h]
        refine List.map_congr_left fun j _ => ?_
        rw [Nat.zero_add]
      rw [er, List.map_map] at hu9
      have eqd : Eqb 2 (.list ((List.range (n2 + 1)).map sd)) := .lst (n := 1) fun d hd => by
        obtain ⟨j, _, rfl⟩ := List.mem_map.mp hd
        refine .tup (n := 0) fun d hd => ?_
        simp only [List.mem_cons, List.not_mem_nil, or_false] at hd
        rcases hd with rfl | rfl | rfl
        · exact .str fun c hc => wc c (rep_mem hc)
        · exact .str ac
        · exact .int _
      refine ⟨_, rfl, eqDq (.lst (SqL.of e9) hu9) (.lst (SqL.of (s9 _ _ hD8)) ((hA8.mono sans_same).mono s9)) eqd eqd (by decide) (by decide) ?_⟩
      show Q (.bl (PyData.eqv (.list ((List.range (n2 + 1)).map sd)) (.list ((List.range (n2 + 1)).map sd)))) H9
      rw [SeqAt.eqv_refl _ eqd.lay]
      exact q H9
end
end K10

namespace K10
open PySem PySem.Spec PyProof.Rows L2 G Lk
section
variable {P : Program} {w : World} {K : PySem.W.Frag} {mg : Str → Option Value} {base : Heap}
def sp_Lpick (K : PySem.W.Frag) : Sp := spPick K
/-- def _law_pick(pot, items): -/
theorem ok_Lpick (T : Tx K mg) : FnOk P w K mg base CX0 3 T.a__law_pick T.fd__law_pick ["pot", "items"] (sp_Lpick K) := by
  refine T.F__law_pick.ok sc_Lpick (fun vs H Q E h => ?_) (fun cdv A outer s H vs Q E hr h => ?_)
  · obtain ⟨_, _, _, _, rfl, _⟩ := h
    rfl
  · refine ⟨_, (pss_one (ps_ret (pe_ix ix_seq (pv 1) (pe_call (ok_Lbelow T) (hr.mono (by decide)) (by rfl) T.g__law_below T.F__law_below.kp T.b__law_below .nil pass0 (pa_cons (pv 0) (pa_cons (pe_callB call_len (by rfl) T.z_len PySem.boot_len (pa_cons (pv 1) pa_nil)) pa_nil))) (fun _ _ => rfl)))), ?_⟩
    obtain ⟨a, c, v, xs, rfl, hp, hne, hx, hl, q⟩ := h
    have hpos : 0 < xs.length := List.length_pos_iff.mpr hne
    refine ⟨_, rfl, _, rfl, _, rfl, ?_⟩
    have fin : ∀ (H' : Hp) (k : Int), 0 ≤ k → k < (xs.length : Int) → ∃ x, xs[k.toNat]? = some x ∧ atI xs k = some x ∧ x ∈ xs := fun H' k k0 k1 => by
      have hk : k.toNat < xs.length := by omega
      refine ⟨xs[k.toNat], List.getElem?_eq_getElem hk, ?_, List.getElem_mem hk⟩
      have e := atI_nat (xs := xs) (j := k.toNat) (List.getElem?_eq_getElem hk)
      rw [show ((k.toNat : Nat) : Int) = k by omega] at e
      exact e
    rcases hx with ⟨l, rfl, h1⟩ | ⟨l, rfl, h1⟩ | ⟨z, rfl, rfl, hz⟩
    · refine ⟨_, xs.length, rfl, .inl ⟨_, seqL sans_same h1, rfl⟩, a, c, _, rfl, hp, by omega, by omega, fun H' k sm hp' k0 k1 => ?_⟩
      obtain ⟨x, e1, e2, e3⟩ := fin H' k k0 k1
      exact .inl ⟨l, xs, k, x, rfl, rfl, seqL sm.same h1, e2, q H' x sm hp' e3⟩
    · refine ⟨_, xs.length, rfl, .inr ⟨_, seqT sans_same h1, rfl⟩, a, c, _, rfl, hp, by omega, by omega, fun H' k sm hp' k0 k1 => ?_⟩
      obtain ⟨x, e1, e2, e3⟩ := fin H' k k0 k1
      exact .inr (.inl ⟨l, xs, k, x, rfl, rfl, seqT sm.same h1, e2, q H' x sm hp' e3⟩)
    · refine ⟨_, z.length, rfl, ⟨hz, rfl⟩, a, c, _, rfl, hp, by rw [sg_len] at hpos; omega, by rw [sg_len] at hl; omega, fun H' k sm hp' k0 k1 => ?_⟩
      have hk : k.toNat < (sg z).length := by rw [sg_len]; omega
      obtain ⟨c, e1, e2⟩ := sg_get hk
      have e3 := atI_nat (xs := z.cps.toList) (j := k.toNat) e2
      rw [show ((k.toNat : Nat) : Int) = k by omega] at e3
      exact .inr (.inr ⟨z, k, c, rfl, rfl, hz, e3, q H' _ sm hp' (e1 ▸ List.getElem_mem hk)⟩)
end
end K10

namespace K10
open PySem PySem.Spec PyProof.Rows L2 G Lk
section
variable {P : Program} {w : World} {K : PySem.W.Frag} {mg : Str → Option Value} {base : Heap}
def sp_Lplainer (K : PySem.W.Frag) : Sp := fun vs H Q _ => ∃ (v : V) (d : PyData) (z : Str) (n : Nat), vs = [v] ∧ Dq K H v d ∧ StateD z n d ∧ z.length ≤ 4 ∧
  ∀ (H' : Hp) (v' : V) (d' : PyData), Same H H' → Dq K H' v' d' → StateD z n d' → Q v' H'
/-- def _law_plainer(state): -/
theorem ok_Lplainer (T : Tx K mg) : FnOk P w K mg base CX0 1 T.a__law_plainer T.fd__law_plainer ["state"] (sp_Lplainer K) := by
  refine T.F__law_plainer.ok sc_Lplainer (fun vs H Q E h => ?_) (fun cdv A outer s H vs Q E hr h => ?_)
  · obtain ⟨_, _, _, _, rfl, _⟩ := h
    rfl
  · refine ⟨_, (pss_one (ps_ret (pe_tup (pa_cons (pe_callTy call_tuple_of (by rfl) T.z_tuple (by decide +kernel) (pa_cons (pe_lc (own := [("move", 1)]) (g := gName 1) (by rfl) sc_Lplainer.nd (pi_tup (pe_ix ix_tup (pv 0) pe_int (fun _ _ => rfl))) (blkOk_by (own := [("move", 1)]) (N := N_Lplainer) (sc := defScope s_Lplainer) (by decide +kernel)) (fun _ _ _ _ _ => pg_name (i := 1) sc_Lplainer.nd rfl (by first | exact Or.inl rfl | exact Or.inr rfl)) (fun _ _ _ _ _ => pts_nil) (fun _ _ _ _ _ => (pe_ifExp (pt_cmpR op_isN (pv 1) pe_non (nomark _)) pe_non (pe_tup (pa_cons (pe_ix (ix_tup : IxR _ (rIxT K)) (pv 1) pe_int (fun _ _ => rfl)) (pa_cons pe_str (pa_cons (pe_ix (ix_tup : IxR _ (rIxT K)) (pv 1) pe_int (fun _ _ => rfl)) pa_nil))))))) pa_nil)) (pa_cons (pe_ix ix_tup (pv 0) pe_int (fun _ _ => rfl)) pa_nil))))), ?_⟩
    obtain ⟨v, d, z, n, rfl, hd, ⟨ms, l, rfl, hm, hms, hl⟩, hz, q⟩ := h
    obtain ⟨a, xs, rfl, h1, h2⟩ := hd.items
    obtain ⟨x, ys, rfl, hx, h2⟩ := h2.one
    obtain ⟨y, ys, rfl, hy, h2⟩ := h2.one
    obtain rfl := h2.none
    obtain ⟨t, zs, rfl, h3, h4⟩ := hx.items
    have hlen := h4.length
    refine ⟨_, rfl, a, _, 0, _, rfl, rfl, h1, rfl, t, rfl, ⟨_, h3⟩, fun D nD => ?_⟩
    refine lc_tup (xs := zs) (fun i H' => Same H H' ∧ ∃ us es, H' D = some (.lst us) ∧ us.length = i ∧ DqAll K (sans H' D) us es ∧ ∀ d ∈ es, MoveD z n d) ⟨same_new nD, [], [], upd_same, rfl, .nil, fun _ h => (List.not_mem_nil h).elim⟩ (fun _ _ _ p => seqT p.1 h3) ?_ ?_
    · rintro i m H1 hmi ⟨s1, us, es, hu, lu, hA, hE⟩
      obtain ⟨e, he, hem, _, hq⟩ := dqAll_get' (h4.mono s1) hmi
      have hi : i < zs.length := (List.getElem?_eq_some_iff.mp hmi).1
      have fin : ∀ (H2 : Hp) (y' : V) (e' : PyData), Same H1 H2 → Dq K (sans H2 D) y' e' → MoveD z n e' → ∃ acc, H2 D = some (.lst acc) ∧ acc.length < sizeLine ∧
          (Same H (upd H2 D (.lst (acc ++ [y']))) ∧ ∃ us es, upd H2 D (.lst (acc ++ [y'])) D = some (.lst us) ∧ us.length = i + 1 ∧ DqAll K (sans (upd H2 D (.lst (acc ++ [y']))) D) us es ∧ ∀ d ∈ es, MoveD z n d) := fun H2 y' e' s2 hy' hm' => by
        refine ⟨us, s2 _ _ hu, Nat.lt_of_le_of_lt (show us.length ≤ 4 by omega) (by decide), fun b o eb => (upd_ne (ne_of_none eb nD)).trans (s2 _ _ (s1 _ _ eb)), us ++ [y'], es ++ [e'], upd_same, by rw [List.length_append, lu]; rfl, ?_, ?_⟩
        · have sm : Sm D H2 (upd H2 D (.lst (us ++ [y']))) := Sm.pot
          exact ((hA.mono (Sm.of s2)).mono sm).append (.cons (hy'.mono sm) .nil)
        · intro d hd
          rcases List.mem_append.mp hd with z | z
          · exact hE d z
          · rw [List.mem_singleton.mp z]
            exact hm'
      rcases hms e hem with rfl | ⟨b, c, g, rfl, hb, hc, hg⟩
      · obtain rfl := hq.noneV
        refine ⟨rfl, _, rfl, rfl, _, rfl, ?_⟩
        exact iteT (fin H1 .non .none (Same.refl _) .non (.inl rfl))
      · obtain ⟨p, ps, rfl, hp, hp2⟩ := hq.items
        obtain ⟨x1, ps, rfl, hx1, hp2⟩ := hp2.one
        obtain ⟨x2, ps, rfl, hx2, hp2⟩ := hp2.one
        obtain ⟨x3, ps, rfl, hx3, hp2⟩ := hp2.one
        obtain rfl := hp2.none
        obtain rfl := hx1.strV
        obtain rfl := hx2.strV
        obtain rfl := hx3.intV
        refine ⟨rfl, _, rfl, rfl, _, rfl, ?_⟩
        refine iteF ⟨_, rfl, p, _, 0, _, rfl, rfl, hp, rfl, _, rfl, p, _, 2, _, rfl, rfl, hp, rfl, (by show 3 ≤ sizeLine; decide), fun r nr => ?_⟩
        have nrD : r ≠ D := (ne_of_none hu nr).symm
        refine fin _ _ (.tuple [.str b, .str "", .int (g : Int)]) (same_new nr) ?_ (.inr ⟨b, "", g, rfl, hb, ⟨Nat.zero_le _, fun c h => by cases h⟩, hg⟩)
        exact .tup (SqT.of (sans_of nrD upd_same)) (.cons (.str _) (.cons (.str _) (.cons (.int _) .nil)))
    · rintro H1 ⟨s1, us, es, hu, lu, hA, hE⟩
      refine ⟨D, us, rfl, .inl ⟨SqL.of hu, fun p np => ?_⟩⟩
      have s2 := same_new (o := .tup us) np
      refine ⟨_, rfl, a, _, 1, y, rfl, rfl, seqT (Same.trans s1 s2) h1, rfl, (by show 2 ≤ sizeLine; decide), fun r nr => ?_⟩
      have s3 := same_new (o := .tup [.ref p, y]) nr
      have sA := Same.trans s1 (Same.trans s2 s3)
      refine q _ _ (.tuple [.tuple es, l]) sA ?_ ⟨es, l, rfl, ?_, hE, hl⟩
      · refine .tup (SqT.of upd_same) (.cons (.tup (SqT.of (s3 _ _ upd_same)) ?_) (.cons (hy.mono sA) .nil))
        exact (hA.mono sans_same).mono (Same.trans s2 s3)
      · rw [← hA.length, lu, hlen, hm]
end
end K10

namespace K10
open PySem PySem.Spec PyProof.Rows L2 G Lk
section
variable {P : Program} {w : World} {K : PySem.W.Frag} {mg : Str → Option Value} {base : Heap}
/-- a new pot -/
def sp_Lpot_of (K : PySem.W.Frag) : Sp := fun vs H Q _ => ∃ (a : Addr) (ns : List Int), vs = [.ref a] ∧ SqL K H a (ns.map V.int) ∧ ns.length ≤ 63 ∧
  ∀ (H' : Hp) (p c : Addr), Same H H' → H p = none → Pot K H' p c → Q (.ref p) H'
/-- def _law_pot_of(script): -/
theorem ok_Lpot_of (T : Tx K mg) : FnOk P w K mg base CX0 1 T.a__law_pot_of T.fd__law_pot_of ["script"] (sp_Lpot_of K) := by
  refine T.F__law_pot_of.ok sc_Lpot_of (fun vs H Q E h => ?_) (fun cdv A outer s H vs Q E hr h => ?_)
  · obtain ⟨_, _, rfl, _⟩ := h
    rfl
  · refine ⟨_, (pss_cons (ps_setLc (i := 1) (own := [("cell", 3)]) (g := gName 3) (by rfl) sc_Lpot_of.nd rfl rfl (sw_true rfl rfl rfl (by decide +kernel)) (pi_list (pe_slice sl_list (pv 0) po_none (po_some pe_int))) (blkOk_by (own := [("cell", 3)]) (N := N_Lpot_of) (sc := defScope s_Lpot_of) (by decide +kernel)) (fun _ _ _ _ _ => pg_name (i := 3) sc_Lpot_of.nd rfl (by first | exact Or.inl rfl | exact Or.inr rfl)) (fun _ _ _ _ _ => pts_nil) (fun _ _ _ _ _ => (pe_callB call_abs (by rfl) T.z_abs (by decide +kernel) (pa_cons (pv 3) pa_nil))))
    (pss_cons (ps_for PassesOwn.never rfl (pi_enum (by rfl) T.z_enumerate (pa_cons (pe_slice sl_list (pv 0) (po_some pe_int) (po_some pe_int)) pa_nil)) (pg_tup rfl (pgs_cons (pg_name (i := 2) sc_Lpot_of.nd rfl (by first | exact Or.inl rfl | exact Or.inr rfl)) (pgs_cons (pg_name (i := 3) sc_Lpot_of.nd rfl (by first | exact Or.inl rfl | exact Or.inr rfl)) pgs_nil)))
      (pss_one (ps_asg (pe_op op_add (pe_ix ix_list (pv 1) (pe_op op_mod (pv 2) pe_int) (fun _ _ => rfl)) (pe_callB call_abs (by rfl) T.z_abs (by decide +kernel) (pa_cons (pv 3) pa_nil))) (pg_sub (pv 1) (pe_op op_mod (pv 2) pe_int) set_list))))
    (pss_one (ps_ret (pe_lst (pa_cons (pv 1) (pa_cons pe_int (pa_cons pe_int (pa_cons pe_int pa_nil))))))))), ?_⟩
    obtain ⟨a, ns, rfl, hS, hlen, q⟩ := h
    refine ⟨_, rfl, _, rfl, a, _, rfl, hS, fun e ne => ?_⟩
    have s1 : Same H (upd H e (.lst (cutV (ns.map V.int) none (some 17)))) := same_new ne
    have e17 : cutV (ns.map V.int) none (some 17) = (ns.take 17).map V.int := by
      rw [show (17 : Int) = ((17 : Nat) : Int) from rfl, cutV_to, List.map_take]
    have hE : (upd H e (.lst (cutV (ns.map V.int) none (some 17)))) e = some (.lst ((ns.take 17).map V.int)) := by
      rw [upd_same, e17]
    generalize upd H e (.lst (cutV (ns.map V.int) none (some 17))) = H1 at s1 hE
    refine ⟨e, rfl, ⟨_, SqL.of hE⟩, fun D hD => ?_⟩
    have neD : e ≠ D := ne_of_none hE hD
    refine lc_list (K := K) (a := e) (xs := (ns.take 17).map V.int) (fun i H' => Same H1 H' ∧ ∃ ms : List Int, ms.length = i ∧ H' D = some (.lst (ms.map V.int)))
      ⟨same_new hD, [], rfl, upd_same⟩ (fun i H' _ ⟨s, _⟩ => seqL s (SqL.of hE)) ?_ ?_
    · rintro i x H' hi ⟨s, ms, hm, hD'⟩
      obtain ⟨n, rfl⟩ : ∃ n, x = V.int n := by
        rw [List.getElem?_map, Option.map_eq_some_iff] at hi
        obtain ⟨n, _, rfl⟩ := hi
        exact ⟨n, rfl⟩
      have h17 : i < 17 := by
        have z := (List.getElem?_eq_some_iff.mp hi).1
        rw [List.length_map, List.length_take] at z
        omega
      refine ⟨rfl, _, rfl, _, rfl, _, hD', ?_, ?_, ms ++ [if n < 0 then -n else n], ?_, ?_⟩
      · rw [List.length_map, hm]
        exact Nat.lt_trans h17 (by decide)
      · exact fun b o z => (upd_ne (ne_of_none z hD)).trans (s b o z)
      · rw [List.length_append, hm]
        rfl
      · rw [upd_same, List.map_append]
        rfl
    · rintro H2 ⟨s2, ms, hm, hD2⟩
      rw [List.length_map, List.length_take] at hm
      have sH : Same H H2 := s1.trans s2
      have hDH : H D = none := s1.free hD
      have hS2 : SqL K H2 a (ns.map V.int) := sH.seq hS
      refine ⟨_, rfl, _, rfl, _, rfl, a, _, rfl, hS2, fun f nf => ?_⟩
      have nDf : D ≠ f := ne_of_none hD2 nf
      have e43 : cutV (ns.map V.int) (some 17) (some 60) = ((ns.drop 17).take 43).map V.int := by
        unfold cutV
        rw [show (17 : Int) = ((17 : Nat) : Int) from rfl, show (60 : Int) = ((60 : Nat) : Int) from rfl, HT.sIx_nat, HT.sIx_nat, List.map_take, List.map_drop, List.length_map]
        by_cases c : 17 ≤ ns.length
        · rw [Nat.min_eq_left c]
          by_cases c2 : 60 ≤ ns.length
          · rw [Nat.min_eq_left c2]
          · rw [Nat.min_eq_right (by omega : ns.length ≤ 60), List.take_of_length_le (by rw [List.length_drop, List.length_map]; omega), List.take_of_length_le (by rw [List.length_drop, List.length_map]; omega)]
        · rw [Nat.min_eq_right (by omega : ns.length ≤ 17), List.drop_of_length_le (by rw [List.length_map]; omega), List.drop_of_length_le (by rw [List.length_map]; omega)]
          simp
      have s3 : Same H (upd H2 f (.lst (cutV (ns.map V.int) (some 17) (some 60)))) := sH.trans (same_new nf)
      have hF : (upd H2 f (.lst (cutV (ns.map V.int) (some 17) (some 60)))) f = some (.lst (((ns.drop 17).take 43).map V.int)) := by
        rw [upd_same, e43]
      have hD3 : (upd H2 f (.lst (cutV (ns.map V.int) (some 17) (some 60)))) D = some (.lst (ms.map V.int)) := by
        rw [upd_ne nDf]
        exact hD2
      generalize upd H2 f (.lst (cutV (ns.map V.int) (some 17) (some 60))) = H3 at s3 hF hD3
      refine ⟨f, _, rfl, SqL.of hF, ?_⟩
      generalize hg : (ns.drop 17).take 43 = gs at hF
      have h17 : 0 < gs.length → ms.length = 17 := fun z => by
        rw [← hg, List.length_take, List.length_drop] at z
        omega
      refine ⟨fun i m σ H' => ∃ (t2 t3 : Option V) (ks : List Int), σ = [some (.ref a), some (.ref D), t2, t3] ∧ m = gs.length - i ∧ Same H H' ∧ H' f = some (.lst (gs.map V.int)) ∧ H' D = some (.lst (ks.map V.int)) ∧ ks.length = ms.length,
        ⟨gs.length, none, none, ms, rfl, rfl, s3, hF, hD3, rfl⟩, ?_⟩
      rintro i m σ H' ⟨t2, t3, ks, rfl, em, sm, ef, ed, ek⟩
      by_cases hi : i < gs.length
      · have hg1 : (gs.map V.int)[i]? = some (.int gs[i]) := by
          rw [List.getElem?_map, List.getElem?_eq_getElem hi]
          rfl
        refine .inr ⟨⟨_, _, SqL.of ef, hg1⟩, fun σ' H'' => ∃ (t2 t3 : Option V) (ks : List Int), σ' = [some (.ref a), some (.ref D), t2, t3] ∧ Same H H'' ∧ H'' f = some (.lst (gs.map V.int)) ∧ H'' D = some (.lst (ks.map V.int)) ∧ ks.length = ms.length, ?_, ?_⟩
        · rintro σ' H'' ⟨u2, u3, ls, e1, e2, e3, e4, e5⟩
          exact ⟨gs.length - (i + 1), by omega, u2, u3, ls, e1, rfl, e2, e3, e4, e5⟩
        · rintro v H'' ⟨T0, x, rfl, nT, rfl, fx⟩
          obtain rfl : x = .int gs[i] := Option.some.inj ((fx _ (SqL.of ef)).symm.trans hg1)
          have nDT : D ≠ T0 := ne_of_none ed nT
          have nfT : f ≠ T0 := ne_of_none ef nT
          have hk := h17 (by omega)
          have sT : Same H' (upd H' T0 (.tup [.int ((i : Nat) : Int), .int gs[i]])) := same_new nT
          refine ⟨T0, _, rfl, SqT.of upd_same, rfl, _, _, rfl, _, _, rfl, rfl, ?_⟩
          have p17 : (0 : Int) < 17 := by decide
          have hz : (((i : Nat) : Int) % 17).toNat < ks.length := by
            have z1 := Int.emod_nonneg ((i : Nat) : Int) (by decide : (17 : Int) ≠ 0)
            have z2 := Int.emod_lt_of_pos ((i : Nat) : Int) p17
            omega
          have ez := Int.toNat_of_nonneg (Int.emod_nonneg ((i : Nat) : Int) (by decide : (17 : Int) ≠ 0))
          have e3 := atI_nat (xs := ks.map V.int) (j := (((i : Nat) : Int) % 17).toNat) (v := .int ks[(((i : Nat) : Int) % 17).toNat]) (by rw [List.getElem?_map, List.getElem?_eq_getElem hz]; rfl)
          have e4 : ixN (ks.map V.int).length (((i : Nat) : Int) % 17) = some (((i : Nat) : Int) % 17).toNat := by
            have z := ixN_nat (n := (ks.map V.int).length) (j := (((i : Nat) : Int) % 17).toNat) (by rw [List.length_map]; exact hz)
            rw [ez] at z
            exact z
          rw [ez] at e3
          have ed2 : (upd H' T0 (.tup [.int ((i : Nat) : Int), .int gs[i]])) D = some (.lst (ks.map V.int)) := sT _ _ ed
          refine ⟨_, rfl, _, rfl, _, _, rfl, rfl, p17, D, _, _, _, rfl, rfl, SqL.of ed2, e3, _, rfl, _, rfl, _, _, rfl, rfl, _, rfl, _, rfl, _, _, rfl, rfl, p17, D, _, _, _, rfl, rfl, ed2, e4, ?_⟩
          refine ⟨_, _, ks.set (((i : Nat) : Int) % 17).toNat (ks[(((i : Nat) : Int) % 17).toNat] + (if gs[i] < 0 then -gs[i] else gs[i])), rfl, ?_, ?_, ?_, ?_⟩
          · exact fun b o z => (upd_ne (ne_of_none z hDH)).trans (sT _ _ (sm b o z))
          · rw [upd_ne nDf.symm]
            exact sT _ _ ef
          · rw [upd_same, List.map_set]
          · rw [List.length_set]
            exact ek
      · refine .inl ⟨⟨_, SqL.of ef, by rw [List.length_map]; omega⟩, ?_⟩
        refine ⟨_, rfl, (by show 4 ≤ sizeLine; decide), fun p np => ?_⟩
        have nDp : D ≠ p := ne_of_none ed np
        refine q _ p D (sm.trans (same_new np)) (sm.free np) ⟨⟨0, 0, 0, upd_same⟩, ks, ?_, ?_⟩
        · refine SqL.of (sans_of nDp ?_)
          rw [upd_ne nDp]
          exact ed
        · omega
end
end K10

namespace K10
open PySem PySem.Spec PyProof.Rows L2 G Lk
section
variable {P : Program} {w : World} {K : PySem.W.Frag} {mg : Str → Option Value} {base : Heap}
def sp_Lrun (K : PySem.W.Frag) : Sp := fun vs H Q _ => ∃ (v : V) (z f t : Str) (ss : List PyData) (n : Nat), vs = [v, .str t, .int (n : Int)] ∧ Dq K H v (.tuple [.str z, .str f, .tuple ss]) ∧ StatesOk z ss ∧ (allIn z f = true ∧ f.length ≤ 2000) ∧ (allIn z t = true ∧ t.length ≤ 200) ∧ 1 ≤ n ∧ n ≤ 1000 ∧
  ∀ H' (r : Addr), Same H H' → H r = none → (∃ us, H' r = some (.lst us) ∧ DqAll K H' us ((runD z ss n (f, t, 0)).map standD)) → Q (.ref r) H'
/-- def _law_run(expander, text, limit): -/
theorem ok_Lrun (T : Tx K mg) : FnOk P w K mg base CX0 2 T.a__law_run T.fd__law_run ["expander", "text", "limit"] (sp_Lrun K) := by
  refine T.F__law_run.ok sc_Lrun (fun vs H Q E h => ?_) (fun cdv A outer s H vs Q E hr h => ?_)
  · obtain ⟨_, _, _, _, _, _, rfl, _⟩ := h
    rfl
  · refine ⟨_, (pss_cons (ps_set (i := 3) sc_Lrun.nd rfl (by first | exact Or.inl rfl | exact Or.inr rfl) (pe_lst (pa_cons (pe_tup (pa_cons (pe_ix ix_tup (pv 0) pe_int (fun _ _ => rfl)) (pa_cons (pv 1) (pa_cons pe_int pa_nil)))) pa_nil)))
    (pss_cons (ps_for PassesOwn.never rfl (pi_range1 (by rfl) T.z_range (pa_cons (pe_op op_sub (pv 2) pe_int) pa_nil)) (pg_name (i := 4) sc_Lrun.nd rfl (by first | exact Or.inl rfl | exact Or.inr rfl))
      (pss_cons (ps_set (i := 5) sc_Lrun.nd rfl (by first | exact Or.inl rfl | exact Or.inr rfl) (pe_call (ok_Lafter T) (hr.mono (by decide)) (by rfl) T.g__law_after T.F__law_after.kp T.b__law_after .nil pass0 (pa_cons (pv 0) (pa_cons (pe_ix ix_list (pv 3) (pe_op op_sub (pe_callB call_len_seq (by rfl) T.z_len PySem.boot_len (pa_cons (pv 3) pa_nil)) pe_int) (fun _ _ => rfl)) pa_nil))))
    (pss_cons (ps_if (pt_val (pe_callB call_isi (by rfl) T.z_isinstance (by decide +kernel) (pa_cons (pv 5) (pa_cons (pe_bltn (v := .ty "list") (by rfl) T.z_list (by decide +kernel) rfl) pa_nil))))
      (pss_one (ps_ret (pv 3)))
      pss_nil)
    (pss_one (ps_expr (pe_bm PySem.F.plainAttrs_list PySem.F.slot_list_append PySem.F.type_list_append mt_append (pv 3) (pa_cons (pv 5) pa_nil)))))))
    (pss_one (ps_ret (pv 3))))), ?_⟩
    obtain ⟨v, z, f, t, ss, n, rfl, hv, ok, hf, het, n1, n2, q⟩ := h
    obtain ⟨a, t', xs, rfl, ht, hts, hA⟩ := expV_of hv
    have st0 : Stood z ss.length 2000 (f, t, 0) := ⟨hf.2, hf.1, Nat.le_trans het.2 (by decide), het.1, by show 0 < ss.length; exact ok.2.1⟩
    refine ⟨_, rfl, a, _, 1, _, rfl, rfl, ht, rfl, _, rfl, (by show 3 ≤ sizeLine; decide), fun p np => ?_⟩
    have s1 := same_new (o := .tup [.str f, .str t, .int 0]) np
    have h1 : Dq K (upd H p (.tup [.str f, .str t, .int 0])) (.ref p) (standD (f, t, 0)) := .tup (SqT.of upd_same) (.cons (.str _) (.cons (.str _) (.cons (.int _) .nil)))
    revert s1 h1
    generalize upd H p (.tup [.str f, .str t, .int 0]) = H1
    intro s1 h1
    refine ⟨(by show 1 ≤ sizeLine; decide), fun L nL => ?_⟩
    have nLH : H L = none := by
      cases e0 : H L with
      | none => rfl
      | some o =>
        rw [s1 _ _ e0] at nL
        cases nL
    have s2 := same_new (o := .lst [.ref p]) nL
    have e2 : upd H1 L (.lst [.ref p]) L = some (.lst [.ref p]) := upd_same
    revert s2 e2
    generalize upd H1 L (.lst [.ref p]) = H2
    intro s2 e2
    have fl : ∀ q : Str × Str × Nat, hasList (standD q) = false := fun q => by
      unfold standD
      simp [hasList, hasListAll]
    have hn : ((n : Int) - 1) = ((n - 1 : Nat) : Int) := by omega
    refine ⟨_, rfl, _, _, rfl, rfl, ((n - 1 : Nat) : Int), congrArg (fun i => [V.int i]) hn, by omega, by omega, ?_⟩
    rw [Int.toNat_natCast]
    refine for_range (n := n - 1) (fun j σ H' => ∃ (us : List V) (pre : List (Str × Str × Nat)) (cur : Str × Str × Nat) (t4 t5 : Option V), σ = [some (.ref a), some (.str t), some (.int (n : Int)), some (.ref L), t4, t5] ∧ Same H H' ∧ H' L = some (.lst us) ∧
      DqAll K (sans H' L) us ((pre ++ [cur]).map standD) ∧ pre.length = j ∧ runD z ss n (f, t, 0) = pre ++ runD z ss (n - j) cur ∧ Stood z ss.length (2000 + 2000 * j) cur) ?_ ?_ ?_
    · exact ⟨[.ref p], [], (f, t, 0), _, _, rfl, Same.trans s1 s2, e2, .cons ((h1.mono s2).out e2 (fl _)) .nil, rfl, rfl, st0⟩
    · rintro j σ H3 hj ⟨us, pre, cur, t4, t5, rfl, s3, e3, hA3, lp, er, hst⟩
      obtain ⟨ca, cb, cs⟩ := cur
      have ll : 2000 + 2000 * j ≤ 4000000 := by omega
      have lus : us.length = j + 1 := by
        rw [hA3.length, List.length_map, List.length_append, lp]
        rfl
      have ecur : ((pre ++ [(ca, cb, cs)]).map standD)[j]? = some (standD (ca, cb, cs)) := by
        rw [List.getElem?_map, List.getElem?_append_right (by omega), lp, Nat.sub_self]
        rfl
      obtain ⟨x, ex, hx⟩ := hA3.ix ecur
      have hat : atI us (((us.length : Nat) : Int) - 1) = some x := by
        rw [lus]
        have e : (((j + 1 : Nat) : Int) - 1) = ((j : Nat) : Int) := by omega
        rw [e]
        exact atI_nat ex
      refine ⟨_, rfl, _, rfl, _, rfl, L, us, rfl, .inl (SqL.of e3), _, _, rfl, rfl, L, us, _, x, rfl, rfl, SqL.of e3, hat, ?_⟩
      refine ⟨_, x, z, f, ca, cb, cs, ss, rfl, hv.mono s3, hx.mono sans_same, ok, hst.state, hst.frontIn, Nat.le_trans hst.done ll, Nat.le_trans hst.front ll, fun H4 r s4 hr => ?_⟩
      refine ⟨_, rfl, r, .ty "list", _, _, _, rfl, .ty "list", hr.ty, kLst _, _, rfl, ?_⟩
      have e4 := s4 _ _ e3
      have hA4 := hA3.mono (Sm.of (a := L) s4)
      have e5 : n - j = (n - (j + 1)) + 1 := by omega
      cases en : nextD z ss ca cb cs with
      | none =>
        have ea : afterD z ss ca cb cs = .list [.str (whyK cb), .list (whyT cb cs)] := by
          unfold afterD
          rw [en]
        rw [ea]
        refine if_true rfl ⟨_, rfl, q H4 L (Same.trans s3 s4) nLH ⟨us, e4, ?_⟩⟩
        have e6 : runD z ss n (f, t, 0) = pre ++ [(ca, cb, cs)] := by
          rw [er, e5]
          show pre ++ ((ca, cb, cs) :: match nextD z ss ca cb cs with | some q => runD z ss (n - (j + 1)) q | none => []) = _
          rw [en]
        rw [e6]
        exact hA4.mono sans_same
      | some p' =>
        have ea : afterD z ss ca cb cs = standD p' := by
          unfold afterD
          rw [en]
        rw [ea] at hr ⊢
        obtain ⟨pp, rfl, _⟩ := standV hr
        refine if_false rfl ?_
        have hr4 := hr.out e4 (fl _)
        refine ⟨_, rfl, .inl ⟨rfl, _, SqL.of e4⟩, _, rfl, L, us, _, rfl, rfl, e4, Nat.lt_of_lt_of_le (show us.length < 2000 by omega) (by decide), ?_⟩
        have sm5 : Sm L H4 (upd H4 L (.lst (us ++ [.ref pp]))) := Sm.pot
        refine ⟨us ++ [.ref pp], pre ++ [(ca, cb, cs)], p', _, _, rfl, fun b o eb => (upd_ne (fun e => ?_)).trans (s4 _ _ (s3 _ _ eb)), upd_same, ?_, by rw [List.length_append, lp]; rfl, ?_, ?_⟩
        · rw [e, nLH] at eb
          cases eb
        · rw [List.map_append]
          exact (hA4.append (.cons hr4 .nil)).mono sm5
        · rw [er, e5, List.append_assoc]
          show pre ++ ((ca, cb, cs) :: match nextD z ss ca cb cs with | some q => runD z ss (n - (j + 1)) q | none => []) = _
          rw [en]
          rfl
        · rw [Nat.mul_add]
          exact hst.next ok en
    · rintro σ H3 ⟨us, pre, cur, t4, t5, rfl, s3, e3, hA3, lp, er, hst⟩
      refine ⟨_, rfl, q H3 L s3 nLH ⟨us, e3, ?_⟩⟩
      have e5 : n - (n - 1) = 0 + 1 := by omega
      have e6 : runD z ss n (f, t, 0) = pre ++ [cur] := by
        rw [er, e5]
        show pre ++ (cur :: match nextD z ss cur.1 cur.2.1 cur.2.2 with | some q => [] | none => []) = _
        cases nextD z ss cur.1 cur.2.1 cur.2.2 <;> rfl
      rw [e6]
      exact hA3.mono sans_same
end
end K10

namespace K10
open PySem PySem.Spec PyProof.Rows L2 G Lk
section
variable {P : Program} {w : World} {K : PySem.W.Frag} {mg : Str → Option Value} {base : Heap}
def sp_Lsizes (K : PySem.W.Frag) : Sp := fun vs H Q _ => ∃ (v : V) (z f : Str) (ss : List PyData), vs = [v] ∧ Dq K H v (.tuple [.str z, .str f, .tuple ss]) ∧ SignsD z ∧ ss.length ≤ 4 ∧ (∀ s ∈ ss, StateD z ss.length s) ∧
  ∀ (H' : Hp) (d : Addr), Same H H' → H d = none → Sizes H' d 256 → Q (.ref d) H'
/-- def _law_sizes(expander): -/
theorem ok_Lsizes (T : Tx K mg) : FnOk P w K mg base CX0 2 T.a__law_sizes T.fd__law_sizes ["expander"] (sp_Lsizes K) := by
  refine T.F__law_sizes.ok sc_Lsizes (fun vs H Q E h => ?_) (fun cdv A outer s H vs Q E hr h => ?_)
  · obtain ⟨_, _, _, _, rfl, _⟩ := h
    rfl
  · refine ⟨_, (pss_cons (ps_set (i := 1) sc_Lsizes.nd rfl (by first | exact Or.inl rfl | exact Or.inr rfl) pe_dnewT)
    (pss_cons (ps_for PassesOwn.never rfl (pi_range1 (by rfl) T.z_range (pa_cons (pe_op op_mul (pe_callB call_len_seq (by rfl) T.z_len PySem.boot_len (pa_cons (pe_ix ix_tup (pv 0) pe_int (fun _ _ => rfl)) pa_nil)) (pe_callB call_len_str (by rfl) T.z_len PySem.boot_len (pa_cons (pe_ix ix_tup (pv 0) pe_int (fun _ _ => rfl)) pa_nil))) pa_nil)) (pg_name (i := 2) sc_Lsizes.nd rfl (by first | exact Or.inl rfl | exact Or.inr rfl))
      (pss_one (ps_for PassesOwn.never rfl (pi_list (pe_call (ok_Lcalls T) (hr.mono (by decide)) (by rfl) T.g__law_calls T.F__law_calls.kp T.b__law_calls .nil pass0 (pa_cons (pv 0) pa_nil))) (pg_tup rfl (pgs_cons (pg_name (i := 3) sc_Lsizes.nd rfl (by first | exact Or.inl rfl | exact Or.inr rfl)) (pgs_cons (pg_name (i := 4) sc_Lsizes.nd rfl (by first | exact Or.inl rfl | exact Or.inr rfl)) pgs_nil)))
      (pss_cons (ps_set (i := 5) sc_Lsizes.nd rfl (by first | exact Or.inl rfl | exact Or.inr rfl) (pe_ix ix_tup (pe_ix ix_tup (pe_ix ix_tup (pe_ix ix_tup (pv 0) pe_int (fun _ _ => rfl)) (pv 3) (fun _ _ => rfl)) pe_int (fun _ _ => rfl)) (pe_bm PySem.F.plainAttrs_str PySem.F.slot_str_index PySem.F.type_str_index mt_sindex (pe_ix ix_tup (pv 0) pe_int (fun _ _ => rfl)) (pa_cons (pv 4) pa_nil)) (fun _ _ => rfl)))
    (pss_one (ps_if (PW.pt (pw_and (pt_cmpR op_notN (pv 5) pe_non (nomark _)) (pw_and1 (pt_cmp (pc_dnotin (unit1 hr.units) (pe_tup (pa_cons (pv 3) (pa_cons (pv 4) pa_nil))) (pv 1))))))
      (pss_cons (ps_par (i := 7) (j := 8) (by rfl) sc_Lsizes.nd rfl rfl (by decide) rfl rfl (pa_cons (pe_callB call_len_str (by rfl) T.z_len PySem.boot_len (pa_cons (pe_ix ix_tup (pv 5) pe_int (fun _ _ => rfl)) pa_nil)) (pa_cons (pe_ix ix_tup (pv 5) pe_int (fun _ _ => rfl)) pa_nil)) (by rfl))
    (pss_cons (ps_for PassesOwn.never rfl (pi_str (pe_ix ix_tup (pv 5) pe_int (fun _ _ => rfl))) (pg_name (i := 6) sc_Lsizes.nd rfl (by first | exact Or.inl rfl | exact Or.inr rfl))
      (C8.pss_cut (ps_set (i := 9) sc_Lsizes.nd rfl (by first | exact Or.inl rfl | exact Or.inr rfl) (pe_ifExp (pt_cmpR op_notN (pv 8) pe_non (nomark _)) (pe_dget2 (unit1 hr.units) (pv 1) (pe_tup (pa_cons (pv 8) (pa_cons (pv 6) pa_nil))) (pe_tup (pa_cons pe_int (pa_cons pe_non pa_nil))) ⟨rfl, rfl, rfl, rfl⟩) (pe_tup (pa_cons pe_int (pa_cons pe_non pa_nil)))))
    (pss_one (ps_par (i := 7) (j := 8) (by rfl) sc_Lsizes.nd rfl rfl (by decide) rfl rfl (pa_cons (pe_op op_add (pv 7) (pe_ix ix_tup (pv 9) pe_int (fun _ _ => rfl))) (pa_cons (pe_ix ix_tup (pv 9) pe_int (fun _ _ => rfl)) pa_nil)) (by rfl)))))
    (pss_one (ps_if (pt_cmpR op_notN (pv 8) pe_non (nomark _))
      (pss_one (ps_dput (unit1 hr.units) (pv 1) (pe_tup (pa_cons (pv 3) (pa_cons (pv 4) pa_nil))) (pe_tup (pa_cons (pv 7) (pa_cons (pv 8) pa_nil))) (by rfl)))
      pss_nil))))
      pss_nil))))))
    (pss_one (ps_ret (pv 1))))), ?_⟩
    obtain ⟨v, z, f, ss, rfl, hd, hz, h4, hss, q⟩ := h
    obtain ⟨z1, z4, zc⟩ := hz.small
    have hzl : z.length ≤ sizeLine := Nat.le_trans z4 (by decide)
    obtain ⟨a, t, xs, rfl, ht, hts, hA⟩ := expV_of hd
    have hl := hA.length
    intro d nd
    have s0 := same_new (o := .dT []) nd
    have hN : ((xs.length : Nat) : Int) * ((z.length : Nat) : Int) = ((xs.length * z.length : Nat) : Int) := by rw [Int.natCast_mul]
    have hN2 : xs.length * z.length ≤ 4 * 4 := Nat.mul_le_mul (by omega) z4
    refine ⟨_, rfl, a, _, 2, _, rfl, rfl, seqT s0 ht, rfl, t, xs, rfl, .inr (seqT s0 hts), _, rfl, a, _, 0, _, rfl, rfl, seqT s0 ht, rfl, z, rfl, hzl, _, _, rfl, rfl, .inl ⟨by omega, by omega⟩, _, rfl, by omega, by omega, ?_⟩
    rw [hN, Int.toNat_natCast]
    refine for_range (n := xs.length * z.length) (fun i σ H' => ∃ s2 s3 s4 s5 s6 s7 s8 s9 : Option V, σ = [some (.ref a), some (.ref d), s2, s3, s4, s5, s6, s7, s8, s9] ∧ Same H H' ∧ Sizes H' d (16 * i))
      ⟨_, _, _, _, _, _, _, _, rfl, s0, [], upd_same, Nat.le_refl _, fun kv h => (List.not_mem_nil h).elim⟩ ?_ ?_
    · rintro i σ H1 hi ⟨s2, s3, s4, s5, s6, s7, s8, s9, rfl, sH1, hF⟩
      refine ⟨_, rfl, _, z, f, ss, rfl, hd.mono sH1, z4, h4, fun H2 l sH2 nl hc => ?_⟩
      obtain ⟨ys, hy, ly, hcv⟩ := hc
      have hF2 := hF.mono sH2 (Nat.le_refl _)
      have dl : l ≠ d := fun e => by
        obtain ⟨_, e', _⟩ := hF2
        rw [← e, hy] at e'
        cases e'
      refine ⟨l, rfl, ⟨ys, SqL.of hy⟩, for_list (xs := ys) (fun j σ H' => ∃ s2 s3 s4 s5 s6 s7 s8 s9 : Option V, σ = [some (.ref a), some (.ref d), s2, s3, s4, s5, s6, s7, s8, s9] ∧ Same H H' ∧ Sm d H2 H' ∧ Sizes H' d (16 * i + j))
        ⟨_, _, _, _, _, _, _, _, rfl, Same.trans sH1 sH2, Sm.refl, hF2⟩ (fun j σ H' _ ⟨_, _, _, _, _, _, _, _, _, _, sm, _⟩ => SqL.of (sm.at_ dl hy)) ?_ ?_⟩
      · rintro j x σ H3 hx ⟨s2, s3, s4, s5, s6, s7, s8, s9, rfl, sH3, sm3, kvs, hd3, lk, hkv⟩
        have hj : j < ys.length := (List.getElem?_eq_some_iff.mp hx).1
        obtain ⟨p, i0, c, rfl, hp, hi0, hc0⟩ := hcv x (List.mem_of_getElem? hx)
        have pd : ∀ {b : Addr} {us : List V} {G : Hp} {ks : List (List Key × V)}, G d = some (.dT ks) → G b = some (.tup us) → b ≠ d := fun e1 e2 e => by
          rw [e, e1] at e2
          cases e2
        have hp3 : H3 p = some (.tup [.int (i0 : Int), .str (Ls.one c)]) := by
          obtain ⟨_, e', _⟩ := hF2
          exact sm3.at_ (pd e' hp) hp
        obtain ⟨xi, di, hxi, hdi, hqi⟩ := dqAll_at hA hi0
        obtain ⟨pi, mi, li, ms, es, rfl, hpi, hmi, hms, les, hes⟩ := stateV hqi (hss di hdi)
        obtain ⟨k, rest, hocc, hk⟩ := place_of hc0
        obtain ⟨mv, md, hmv, hmd, hmq⟩ := dqAll_at hms (by rw [les]; exact hk)
        refine ⟨p, _, rfl, SqT.of hp3, rfl, _, _, rfl, _, _, rfl, rfl, ?_⟩
        refine ⟨_, rfl, a, _, 2, _, rfl, rfl, seqT sH3 ht, rfl, _, rfl, t, xs, (i0 : Int), _, rfl, rfl, seqT sH3 hts, atI_nat hxi, pi, _, 0, _, rfl, rfl, seqT sH3 hpi, rfl, _, rfl, a, _, 0, _, rfl, rfl, seqT sH3 ht, rfl, rfl, _, rfl, z, Ls.one c, k, rest, rfl, rfl, hocc, mi, ms, (k : Int), mv, rfl, rfl, seqT sH3 hmi, atI_nat hmv, ?_⟩
        have skip : ∀ (H' : Hp) (s2 s3 s4 s5 s6 s7 s8 s9 : Option V), Same H3 H' → ∃ t2 t3 t4 t5 t6 t7 t8 t9 : Option V, [some (V.ref a), some (V.ref d), s2, s3, s4, s5, s6, s7, s8, s9] = [some (.ref a), some (.ref d), t2, t3, t4, t5, t6, t7, t8, t9] ∧ Same H H' ∧ Sm d H2 H' ∧ Sizes H' d (16 * i + (j + 1)) := fun H' s2 s3 s4 s5 s6 s7 s8 s9 s => by
          refine ⟨_, _, _, _, _, _, _, _, rfl, Same.trans sH3 s, sm3.trans (Sm.of s), kvs, s _ _ hd3, by omega, fun kv h => (hkv kv h).mono (Sm.of s)⟩
        rcases moveV hmq (hes md hmd) with rfl | ⟨pm, m1, m2, g, rfl, hpm, hm1, hm2, hg⟩
        · refine ⟨_, rfl, rfl, _, rfl, ?_⟩
          exact iteF (iteF (skip H3 _ _ _ _ _ _ _ _ (Same.refl H3)))
        · refine ⟨_, rfl, rfl, _, rfl, ?_⟩
          refine iteT ⟨_, rfl, _, rfl, (by show 2 ≤ sizeLine; decide), fun p2 np2 => ?_⟩
          have s4 := same_new (o := .tup [.int (i0 : Int), .str (Ls.one c)]) np2
          refine ⟨_, rfl, d, valV kvs [.inl (i0 : Int), .inr (Ls.one c)], rfl, DGet.t (k := [.inl (i0 : Int), .inr (Ls.one c)]) (s4 _ _ hd3) upd_same, _, rfl, ?_⟩
          have hd4 := s4 _ _ hd3
          revert s4 hd4
          generalize upd H3 p2 (.tup [.int (i0 : Int), .str (Ls.one c)]) = H4
          intro s4 hd4
          have hkv4 : ∀ kv ∈ kvs, SizeV (sans H4 d) kv.2 := fun kv h => (hkv kv h).mono (Sm.of s4)
          have sH4 := Same.trans sH3 s4
          cases hv : valV kvs [.inl (i0 : Int), .inr (Ls.one c)] with
          | some w' => exact iteF (skip H4 _ _ _ _ _ _ _ _ s4)
          | none =>
            have hpm4 := seqT sH4 hpm
            refine iteT ⟨_, rfl, pm, _, 0, _, rfl, rfl, hpm4, rfl, m1, rfl, Nat.le_trans hm1.1 (by decide), _, rfl, pm, _, 2, _, rfl, rfl, hpm4, rfl, _, _, rfl, ?_⟩
            refine ⟨_, rfl, pm, _, 1, _, rfl, rfl, hpm4, rfl, m2, rfl, ?_⟩
            refine for_it walk_str (fun k σ H' => ∃ (s2 s6 s9 : Option V) (sz : Int) (hr : V), σ = [some (.ref a), some (.ref d), s2, some (.int (i0 : Int)), some (.str (Ls.one c)), some (.ref pm), s6, some (.int sz), some hr, s9] ∧ HereV hr ∧ Sm d H4 H' ∧ H' d = some (.dT kvs))
              ⟨_, _, _, _, _, rfl, .inr ⟨_, rfl⟩, Sm.refl, hd4⟩ (fun _ _ _ _ _ => trivial) ?_ ?_
            · rintro k1 x σ H5 H6 hk1 ⟨s2, s6, s9, sz, hr, rfl, hhr, sm5, hd5⟩ ⟨rfl, c1, hc1, rfl⟩
              refine ⟨fun σ H' => ∃ (r : Addr) (b : Int) (h2 : V), σ = [some (.ref a), some (.ref d), s2, some (.int (i0 : Int)), some (.str (Ls.one c)), some (.ref pm), some (.str (Ls.one c1)), some (.int sz), some hr, some (.ref r)] ∧ H' r = some (.tup [.int b, h2]) ∧ HereV h2 ∧ Same H6 H', ?_, ?_⟩
              · refine ⟨_, rfl, rfl, _, rfl, ?_⟩
                rcases hhr with rfl | ⟨g1, rfl⟩
                · refine iteF ⟨(by show 2 ≤ sizeLine; decide), fun r nr => ?_⟩
                  exact ⟨r, 0, .non, rfl, upd_same, .inl rfl, same_new nr⟩
                · refine iteT ⟨_, rfl, d, rfl, .inr ⟨kvs, .inl hd5⟩, _, rfl, _, rfl, (by show 2 ≤ sizeLine; decide), fun p3 np3 => ?_⟩
                  have s7 := same_new (o := .tup [.int g1, .str (Ls.one c1)]) np3
                  refine ⟨(by show 2 ≤ sizeLine; decide), fun p4 np4 => ?_⟩
                  have s8 := same_new (o := .tup [.int 0, .non]) np4
                  have sA := Same.trans s7 s8
                  refine ⟨valV kvs [.inl g1, .inr (Ls.one c1)], DGet.t (k := [.inl g1, .inr (Ls.one c1)]) (sA _ _ hd5) (s8 _ _ upd_same), ?_⟩
                  cases hv1 : valV kvs [.inl g1, .inr (Ls.one c1)] with
                  | none => exact ⟨p4, 0, .non, rfl, upd_same, .inl rfl, sA⟩
                  | some w' =>
                    obtain ⟨kv, hkvm, rfl⟩ := val_mem hv1
                    obtain ⟨pw, b, h2, e1, e2, e3⟩ := (hkv4 kv hkvm).mono sm5
                    rw [e1]
                    exact ⟨pw, b, h2, rfl, sA _ _ (sans_some e2).2, e3, sA⟩
              · rintro σ H7 ⟨r, b, h2, rfl, hr2, hh2, s7⟩
                refine ⟨_, rfl, _, rfl, r, _, 0, _, rfl, rfl, SqT.of hr2, rfl, _, _, rfl, rfl, _, rfl, r, _, 1, _, rfl, rfl, SqT.of hr2, rfl, _, _, rfl, ?_⟩
                exact ⟨_, _, _, _, _, rfl, hh2, sm5.trans (Sm.of s7), s7 _ _ hd5⟩
            · rintro σ H5 ⟨s2, s6, s9, sz, hr, rfl, hhr, sm5, hd5⟩
              refine ⟨_, rfl, rfl, _, rfl, ?_⟩
              have sH5 := Sm.same_of sH4 sm5 nd
              have smA := (sm3.trans (Sm.of s4)).trans sm5
              rcases hhr with rfl | ⟨g1, rfl⟩
              · refine iteF ?_
                exact ⟨_, _, _, _, _, _, _, _, rfl, sH5, smA, kvs, hd5, by omega, fun kv h => (hkv4 kv h).mono sm5⟩
              · refine iteT ⟨_, rfl, _, rfl, (by show 2 ≤ sizeLine; decide), fun p5 np5 => ?_⟩
                have s6 := same_new (o := .tup [.int sz, .int g1]) np5
                refine ⟨_, rfl, _, rfl, _, rfl, (by show 2 ≤ sizeLine; decide), fun p6 np6 => ?_⟩
                have s7 := same_new (o := .tup [.int (i0 : Int), .str (Ls.one c)]) np6
                have sB := Same.trans s6 s7
                have hd7 := sB _ _ hd5
                have hp5 : upd (upd H5 p5 (.tup [.int sz, .int g1])) p6 (.tup [.int (i0 : Int), .str (Ls.one c)]) p5 = some (.tup [.int sz, .int g1]) := s7 _ _ upd_same
                refine ⟨d, _, rfl, DPut.t (k := [.inl (i0 : Int), .inr (Ls.one c)]) hd7 upd_same (Nat.lt_of_le_of_lt (show kvs.length ≤ 300 by omega) (by decide)), ?_⟩
                have smP : Sm d (upd (upd H5 p5 (.tup [.int sz, .int g1])) p6 (.tup [.int (i0 : Int), .str (Ls.one c)])) (upd (upd (upd H5 p5 (.tup [.int sz, .int g1])) p6 (.tup [.int (i0 : Int), .str (Ls.one c)])) d (.dT (putK kvs [.inl (i0 : Int), .inr (Ls.one c)] (.ref p5)))) := Sm.pot
                refine ⟨_, _, _, _, _, _, _, _, rfl, Sm.same_of (Same.trans sH5 sB) smP nd, (smA.trans (Sm.of sB)).trans smP, _, upd_same, ?_, fun kv h => ?_⟩
                · have := length_putK kvs [.inl (i0 : Int), .inr (Ls.one c)] (.ref p5)
                  omega
                · rcases put_mem h with h | h
                  · exact (((hkv4 kv h).mono sm5).mono (Sm.of sB)).mono smP
                  · rw [h]
                    have n5 : p5 ≠ d := pd hd7 hp5
                    exact SizeV.mono ⟨p5, sz, .int g1, rfl, sans_of n5 hp5, .inr ⟨g1, rfl⟩⟩ smP
      · rintro σ H3 ⟨s2, s3, s4, s5, s6, s7, s8, s9, rfl, sH3, sm3, hF3⟩
        refine ⟨_, _, _, _, _, _, _, _, rfl, sH3, ?_⟩
        obtain ⟨kvs, e, lk, hkv⟩ := hF3
        exact ⟨kvs, e, by omega, hkv⟩
    · rintro σ H1 ⟨s2, s3, s4, s5, s6, s7, s8, s9, rfl, sH1, kvs, e, lk, hkv⟩
      exact ⟨_, rfl, q H1 d sH1 nd ⟨kvs, e, by omega, hkv⟩⟩
end
end K10

namespace K10
open PySem PySem.Spec PyProof.Rows L2 G Lk
section
variable {P : Program} {w : World} {K : PySem.W.Frag} {mg : Str → Option Value} {base : Heap}
def sp_Lsome_word (K : PySem.W.Frag) : Sp := fun vs H Q _ => ∃ (a c : Addr) (z : Str) (m : Int), vs = [.ref a, .str z, .int m] ∧ Pot K H a c ∧ 0 < z.length ∧ z.length ≤ 1000 ∧ 0 ≤ m ∧ m ≤ 1000 ∧
  ∀ (H' : Hp) (l : List Nat), Sm a H H' → Pot K H' a c → (l.length : Int) ≤ m → (∀ c ∈ l, c ∈ z.cps.toList) → Q (.str (tx l)) H'
/-- def _law_some_word(pot, signs, limit): -/
theorem ok_Lsome_word (T : Tx K mg) : FnOk P w K mg base CX0 4 T.a__law_some_word T.fd__law_some_word ["pot", "signs", "limit"] (sp_Lsome_word K) := by
  refine T.F__law_some_word.ok sc_Lsome_word (fun vs H Q E h => ?_) (fun cdv A outer s H vs Q E hr h => ?_)
  · obtain ⟨_, _, _, _, rfl, _⟩ := h
    rfl
  · refine ⟨_, (pss_one (ps_ret (pe_join pe_str (pe_lc (own := [("lap", 3)]) (g := gName 3) (by rfl) sc_Lsome_word.nd (pi_range1 (by rfl) T.z_range (pa_cons (pe_call (ok_Lbelow T) (hr.mono (by decide)) (by rfl) T.g__law_below T.F__law_below.kp T.b__law_below .nil pass0 (pa_cons (pv 0) (pa_cons (pe_op op_add (pv 2) pe_int) pa_nil))) pa_nil)) (blkOk_by (own := [("lap", 3)]) (N := N_Lsome_word) (sc := defScope s_Lsome_word) (by decide +kernel)) (fun _ _ _ _ _ => pg_name (i := 3) sc_Lsome_word.nd rfl (by first | exact Or.inl rfl | exact Or.inr rfl)) (fun _ _ _ _ _ => pts_nil) (fun _ _ _ _ _ => (pe_call (ok_Lpick T) (hr.mono (by decide)) (by rfl) T.g__law_pick T.F__law_pick.kp T.b__law_pick .nil pass0 (pa_cons (pv 0) (pa_cons (pv 1) pa_nil)))))))), ?_⟩
    obtain ⟨a, c, z, m, rfl, hp, z0, z1, m0, m1, q⟩ := h
    have hzl : z.length ≤ sizeLine := Nat.le_trans z1 (by decide)
    refine ⟨⟨_, rfl⟩, _, rfl, _, rfl, _, _, rfl, rfl, a, c, _, rfl, hp, by omega, by omega, fun H1 k sm1 hp1 k0 k1 => ?_⟩
    refine ⟨k, rfl, by omega, by omega, fun D nD => ?_⟩
    have nDa := hp1.ne nD
    refine lc_range (lo := 0) (n := k.toNat) (fun i H' => Sm a H1 H' ∧ PotAt H' a c ∧ ∃ l : List Nat, l.length = i ∧ (∀ c ∈ l, c ∈ z.cps.toList) ∧ H' D = some (.lst ((l.map fun c => tx [c]).map V.str))) ?_ ?_ ?_
    · exact ⟨Sm.new nD, hp1.at_.upd nDa, [], rfl, fun _ h => (List.not_mem_nil h).elim, upd_same⟩
    · rintro i H2 hi ⟨sm2, hp2, l, hl, hc, hD⟩
      refine ⟨rfl, _, rfl, _, rfl, ?_⟩
      refine ⟨a, c, .str z, sg z, rfl, hp1.to sm2 hp2, ?_, .inr (.inr ⟨z, rfl, rfl, hzl⟩), by rw [sg_len]; omega, fun H4 x sm4 hp4 hx => ?_⟩
      · intro e
        have := sg_len z
        rw [e] at this
        exact absurd this.symm (Nat.ne_of_gt z0)
      · obtain ⟨c, hcz, rfl⟩ : ∃ c, c ∈ z.cps.toList ∧ x = .str (tx [c]) := by
          unfold sg at hx
          obtain ⟨c, h1, h2⟩ := List.mem_map.mp hx
          exact ⟨c, h1, h2.symm⟩
        have hD4 : H4 D = some (.lst ((l.map fun c => tx [c]).map V.str)) := (sans_some (sm4 D _ (sans_of nDa hD))).2
        refine ⟨_, hD4, ?_, ?_, hp4.at_.upd nDa, l ++ [c], ?_, ?_, ?_⟩
        · rw [List.length_map, List.length_map, hl]
          refine Nat.lt_of_lt_of_le (show i < 1001 by omega) (by decide)
        · exact (sm2.trans sm4).upd (by rw [sans_ne nDa]; exact nD)
        · rw [List.length_append, hl]
          rfl
        · intro d hd
          rcases List.mem_append.mp hd with h | h
          · exact hc d h
          · rw [List.mem_singleton.mp h]
            exact hcz
        · rw [upd_same, List.map_append, List.map_append]
          rfl
    · rintro H2 ⟨sm2, hp2, l, hl, hc, hD⟩
      refine ⟨tx [], D, l.map fun c => tx [c], rfl, rfl, .inl (SqL.of hD), ?_, ?_⟩
      · rw [sum_ones]
        show _ + _ * 0 ≤ _
        omega
      · rw [join_empty, catS_ones]
        exact q _ l (sm1.trans sm2) (hp1.to sm2 hp2) (by omega) hc
end
end K10

namespace K10
open PySem PySem.Spec PyProof.Rows L2 G Lk
section
variable {P : Program} {w : World} {K : PySem.W.Frag} {mg : Str → Option Value} {base : Heap}
def sp_Lsome_expander (K : PySem.W.Frag) : Sp := fun vs H Q _ => ∃ (a c : Addr) (m : Int), vs = [.ref a, .int m] ∧ Pot K H a c ∧ 1 ≤ m ∧ m ≤ 4 ∧
  ∀ (H' : Hp) (v : V) (d : PyData), Sm a H H' → Pot K H' a c → Dq K (sans H' a) v d → ExpD d → Q v H'
/-- def _law_some_expander(pot, many): -/
theorem ok_Lsome_expander (T : Tx K mg) : FnOk P w K mg base CX0 5 T.a__law_some_expander T.fd__law_some_expander ["pot", "many"] (sp_Lsome_expander K) := by
  refine T.F__law_some_expander.ok sc_Lsome_expander (fun vs H Q E h => ?_) (fun cdv A outer s H vs Q E hr h => ?_)
  · obtain ⟨_, _, _, rfl, _⟩ := h
    rfl
  · refine ⟨_, (pss_cons (ps_set (i := 2) sc_Lsome_expander.nd rfl (by first | exact Or.inl rfl | exact Or.inr rfl) (pe_call (ok_Lpick T) (hr.mono (by decide)) (by rfl) T.g__law_pick T.F__law_pick.kp T.b__law_pick .nil pass0 (pa_cons (pv 0) (pa_cons (pe_lst (pa_cons pe_str (pa_cons pe_str (pa_cons pe_str (pa_cons pe_str (pa_cons pe_str (pa_cons pe_str (pa_cons pe_str pa_nil)))))))) pa_nil))))
    (pss_cons (ps_par3 (i := 6) (j := 7) (l := 8) (by rfl) sc_Lsome_expander.nd rfl rfl rfl (by decide) (by decide) (by decide) rfl rfl rfl (pa_cons (pe_op op_add pe_int (pe_call (ok_Lbelow T) (hr.mono (by decide)) (by rfl) T.g__law_below T.F__law_below.kp T.b__law_below .nil pass0 (pa_cons (pv 0) (pa_cons (pv 1) pa_nil)))) (pa_cons (pe_call (ok_Lbelow T) (hr.mono (by decide)) (by rfl) T.g__law_below T.F__law_below.kp T.b__law_below .nil pass0 (pa_cons (pv 0) (pa_cons pe_int pa_nil))) (pa_cons (pe_lst pa_nil) pa_nil))) (by rfl))
    (pss_cons (ps_for PassesOwn.never rfl (pi_range1 (by rfl) T.z_range (pa_cons (pv 6) pa_nil)) (pg_name (i := 3) sc_Lsome_expander.nd rfl (by first | exact Or.inl rfl | exact Or.inr rfl))
      (pss_cons (ps_set (i := 9) sc_Lsome_expander.nd rfl (by first | exact Or.inl rfl | exact Or.inr rfl) (pe_lst pa_nil))
    (pss_cons (ps_for PassesOwn.never rfl (pi_str (pv 2)) (pg_name (i := 10) sc_Lsome_expander.nd rfl (by first | exact Or.inl rfl | exact Or.inr rfl))
      (C8.pss_cut (ps_set (i := 12) sc_Lsome_expander.nd rfl (by first | exact Or.inl rfl | exact Or.inr rfl) (pe_ifExp (PW.pt (pw_and (pt_cmpR op_gt (pv 7) pe_int (nomark _)) (pw_and1 (pt_cmpR op_eq (pe_call (ok_Lbelow T) (hr.mono (by decide)) (by rfl) T.g__law_below T.F__law_below.kp T.b__law_below .nil pass0 (pa_cons (pv 0) (pa_cons pe_int pa_nil))) pe_int (nomark _))))) (pe_call (ok_Lsome_word T) (hr.mono (by decide)) (by rfl) T.g__law_some_word T.F__law_some_word.kp T.b__law_some_word .nil pass0 (pa_cons (pv 0) (pa_cons (pv 2) (pa_cons pe_int pa_nil)))) pe_str))
    (pss_cons (ps_set (i := 13) sc_Lsome_expander.nd rfl (by first | exact Or.inl rfl | exact Or.inr rfl) (pe_call (ok_Lpick T) (hr.mono (by decide)) (by rfl) T.g__law_pick T.F__law_pick.kp T.b__law_pick .nil pass0 (pa_cons (pv 0) (pa_cons (pe_lst (pa_cons pe_str (pa_cons (pv 10) (pa_cons (pe_call (ok_Lsome_word T) (hr.mono (by decide)) (by rfl) T.g__law_some_word T.F__law_some_word.kp T.b__law_some_word .nil pass0 (pa_cons (pv 0) (pa_cons (pv 2) (pa_cons pe_int pa_nil)))) (pa_cons (pe_call (ok_Lsome_word T) (hr.mono (by decide)) (by rfl) T.g__law_some_word T.F__law_some_word.kp T.b__law_some_word .nil pass0 (pa_cons (pv 0) (pa_cons (pv 2) (pa_cons pe_int pa_nil)))) pa_nil))))) pa_nil))))
    (pss_cons (ps_set (i := 14) sc_Lsome_expander.nd rfl (by first | exact Or.inl rfl | exact Or.inr rfl) (pe_tup (pa_cons (pv 13) (pa_cons (pv 12) (pa_cons (pe_call (ok_Lbelow T) (hr.mono (by decide)) (by rfl) T.g__law_below T.F__law_below.kp T.b__law_below .nil pass0 (pa_cons (pv 0) (pa_cons (pv 6) pa_nil))) pa_nil)))))
    (pss_one (ps_expr (pe_bm PySem.F.plainAttrs_list PySem.F.slot_list_append PySem.F.type_list_append mt_append (pv 9) (pa_cons (pe_ifExp (pt_cmpR op_eq (pe_call (ok_Lbelow T) (hr.mono (by decide)) (by rfl) T.g__law_below T.F__law_below.kp T.b__law_below .nil pass0 (pa_cons (pv 0) (pa_cons pe_int pa_nil))) pe_int (nomark _)) pe_non (pv 14)) pa_nil))))))))
    (C8.pss_cut (ps_set (i := 11) sc_Lsome_expander.nd rfl (by first | exact Or.inl rfl | exact Or.inr rfl) (pe_ifExp (pt_cmpR op_eq (pe_call (ok_Lbelow T) (hr.mono (by decide)) (by rfl) T.g__law_below T.F__law_below.kp T.b__law_below .nil pass0 (pa_cons (pv 0) (pa_cons pe_int pa_nil))) pe_int (nomark _)) pe_non (pe_call (ok_Lsome_word T) (hr.mono (by decide)) (by rfl) T.g__law_some_word T.F__law_some_word.kp T.b__law_some_word .nil pass0 (pa_cons (pv 0) (pa_cons (pv 2) (pa_cons pe_int pa_nil))))))
    (pss_one (ps_expr (pe_bm PySem.F.plainAttrs_list PySem.F.slot_list_append PySem.F.type_list_append mt_append (pv 8) (pa_cons (pe_tup (pa_cons (pe_callTy call_tuple_of (by rfl) T.z_tuple (by decide +kernel) (pa_cons (pv 9) pa_nil)) (pa_cons (pv 11) pa_nil))) pa_nil))))))))
    (pss_cons (ps_set (i := 4) sc_Lsome_expander.nd rfl (by first | exact Or.inl rfl | exact Or.inr rfl) (pe_tup (pa_cons (pv 2) (pa_cons (pe_call (ok_Lsome_word T) (hr.mono (by decide)) (by rfl) T.g__law_some_word T.F__law_some_word.kp T.b__law_some_word .nil pass0 (pa_cons (pv 0) (pa_cons (pv 2) (pa_cons pe_int pa_nil)))) (pa_cons (pe_callTy call_tuple_of (by rfl) T.z_tuple (by decide +kernel) (pa_cons (pv 8) pa_nil)) pa_nil)))))
    (pss_cons (ps_set (i := 5) sc_Lsome_expander.nd rfl (by first | exact Or.inl rfl | exact Or.inr rfl) (pe_call (ok_Lsizes T) (hr.mono (by decide)) (by rfl) T.g__law_sizes T.F__law_sizes.kp T.b__law_sizes .nil pass0 (pa_cons (pv 4) pa_nil)))
    (C8.pss_cut (ps_if (PW.pt (pw_and (pt_cmpR (op_neT0 (unit0 hr.units)) (pv 5) pe_dnewT (nomark _)) (pw_and1 (pt_cmpR op_gt (pe_callB (cr_max rfl) (by rfl) T.z_max (by decide +kernel) (pa_cons (pe_lock (pe_lc (own := [("call", 15)]) (g := gName 15) (by rfl) sc_Lsome_expander.nd (pi_keys (pv 5)) (blkOk_by (own := [("call", 15)]) (N := N_Lsome_expander) (sc := defScope s_Lsome_expander) (by decide +kernel)) (fun _ _ _ _ _ => pg_name (i := 15) sc_Lsome_expander.nd rfl (by first | exact Or.inl rfl | exact Or.inr rfl)) (fun _ _ _ _ _ => pts_nil) (fun _ _ _ _ _ => (pe_ix (ix_tup : IxR _ (rIxT K)) (pe_dget (unit1 hr.units) (pv 5) (pv 15) (fun _ _ => rfl)) pe_int (fun _ _ => rfl))))) pa_nil)) pe_int (nomark _)))))
      (pss_one (ps_set (i := 4) sc_Lsome_expander.nd rfl (by first | exact Or.inl rfl | exact Or.inr rfl) (pe_tup (pa_cons (pv 2) (pa_cons (pe_ix ix_tup (pv 4) pe_int (fun _ _ => rfl)) (pa_cons (pe_callTy call_tuple_of (by rfl) T.z_tuple (by decide +kernel) (pa_cons (pe_lc (own := [("state", 3)]) (g := gName 3) (by rfl) sc_Lsome_expander.nd (pi_list (pv 8)) (blkOk_by (own := [("state", 3)]) (N := N_Lsome_expander) (sc := defScope s_Lsome_expander) (by decide +kernel)) (fun _ _ _ _ _ => pg_name (i := 3) sc_Lsome_expander.nd rfl (by first | exact Or.inl rfl | exact Or.inr rfl)) (fun _ _ _ _ _ => pts_nil) (fun _ _ _ _ _ => (pe_call (ok_Lplainer T) (hr.mono (by decide)) (by rfl) T.g__law_plainer T.F__law_plainer.kp T.b__law_plainer .nil pass0 (pa_cons (pv 3) pa_nil)))) pa_nil)) pa_nil))))))
      pss_nil)
    (pss_one (ps_ret (pv 4))))))))), ?_⟩
    obtain ⟨a, c, m, rfl, hp, m1, m4, q⟩ := h
    refine ⟨_, rfl, (by show 7 ≤ sizeLine; decide), fun l nl => ?_⟩
    refine ⟨a, c, .ref l, _, rfl, hp.new (o := .lst [.str "a", .str "ab", .str "ab", .str "bz", .str "abc", .str "ab", .str "abcz"]) nl, by simp, .inl ⟨l, rfl, SqL.of (sans_of (hp.ne nl) upd_same)⟩, by decide, fun H1 x sm1 hp1 hx => ?_⟩
    have sm1 := (Sm.new nl).trans sm1
    obtain ⟨z, rfl, hz⟩ : ∃ z, x = .str z ∧ SignsD z := by
      simp only [List.mem_cons, List.not_mem_nil, or_false] at hx
      rcases hx with rfl | rfl | rfl | rfl | rfl | rfl | rfl
      · exact ⟨_, rfl, signs_a⟩
      · exact ⟨_, rfl, signs_ab⟩
      · exact ⟨_, rfl, signs_ab⟩
      · exact ⟨_, rfl, signs_bz⟩
      · exact ⟨_, rfl, signs_abc⟩
      · exact ⟨_, rfl, signs_ab⟩
      · exact ⟨_, rfl, signs_abcz⟩
    obtain ⟨z1, z4, zc⟩ := hz.small
    have z1000 : z.length ≤ 1000 := by omega
    refine ⟨_, rfl, _, rfl, a, c, m, rfl, hp1, m1, by omega, fun H2 k sm2 hp2 k0 k1 => ?_⟩
    obtain ⟨k, rfl⟩ := Int.eq_ofNat_of_zero_le k0
    refine ⟨_, _, rfl, rfl, _, rfl, a, c, 4, rfl, hp2, by decide, by decide, fun H3 kind sm3 hp3 _ _ => ?_⟩
    have sm3 := (sm1.trans sm2).trans sm3
    refine ⟨Nat.zero_le _, fun S nS => ⟨_, _, _, rfl, ?_⟩⟩
    have Sa := hp3.ne nS
    have smS := sm3.trans (Sm.new (o := .lst []) nS)
    have hpS := hp3.new (o := .lst []) nS
    have gS : Grows K (upd H3 S (.lst [])) a S S 0 (StateD z (1 + k)) := Grows.new upd_same
    revert smS hpS gS
    generalize upd H3 S (.lst []) = H4
    intro smS hpS gS
    have hSa : S ≠ a := Sa
    have nS0 : sans H a S = none := by
      rw [sans_ne Sa]
      cases e : H S with
      | none => rfl
      | some o =>
        have := sm3.at_ Sa e
        rw [nS] at this
        cases this
    have en : (1 : Int) + ((k : Nat) : Int) = ((1 + k : Nat) : Int) := by omega
    refine ⟨_, rfl, _, rfl, by omega, by omega, ?_⟩
    rw [show ((1 : Int) + ((k : Nat) : Int)).toNat = 1 + k by omega]
    refine for_range (n := 1 + k) (fun i σ H' => ∃ s3 s9 s10 s11 s12 s13 s14 : Option V, σ = [some (.ref a), some (.int m), some (.str z), s3, none, none, some (.int (1 + (k : Int))), some (.int kind), some (.ref S), s9, s10, s11, s12, s13, s14, none] ∧ Sm a H H' ∧ Pot K H' a c ∧ Grows K H' a S S i (StateD z (1 + k)))
      ⟨_, _, _, _, _, _, _, rfl, smS, hpS, gS⟩ ?_ ?_
    · rintro i σ H5 hi ⟨s3, s9, s10, s11, s12, s13, s14, rfl, smA, hpA, gA⟩
      refine ⟨Nat.zero_le _, fun M nM => ?_⟩
      have Ma := hpA.ne nM
      have MS : S ≠ M := by
        obtain ⟨us, es, e, _⟩ := gA.it
        exact ne_of_none e nM
      have smM := Sm.new (a := a) (o := .lst []) nM
      have hpM := hpA.new (o := .lst []) nM
      have gM : Grows K (upd H5 M (.lst [])) a M S 0 (MoveD z (1 + k)) := Grows.new upd_same
      have nM' : sans H5 a M = none := by
        rw [sans_ne Ma]
        exact nM
      revert smM hpM gM
      generalize upd H5 M (.lst []) = H6
      intro smM hpM gM
      refine ⟨_, rfl, z, rfl, for_it walk_str (fun j σ H' => ∃ s10 s12 s13 s14 : Option V, σ = [some (.ref a), some (.int m), some (.str z), some (.int (0 + (i : Int))), none, none, some (.int (1 + (k : Int))), some (.int kind), some (.ref S), some (.ref M), s10, s11, s12, s13, s14, none] ∧ Sm a H5 H' ∧ Pot K H' a c ∧ Grows K H' a M S j (MoveD z (1 + k)))
        ⟨_, _, _, _, rfl, smM, hpM, gM⟩ (fun _ _ _ _ _ => trivial) ?_ ?_⟩
      · rintro j x σ H7 H8 hj ⟨s10, s12, s13, s14, rfl, smB, hpB, gB⟩ ⟨rfl, c1, hc1, rfl⟩
        have hc1z : c1 ∈ z.cps.toList := List.mem_of_getElem? (by simpa using hc1)
        refine ⟨fun σ H' => ∃ b : Str, WordOf z b 3 ∧ σ = [some (.ref a), some (.int m), some (.str z), some (.int (0 + (i : Int))), none, none, some (.int (1 + (k : Int))), some (.int kind), some (.ref S), some (.ref M), some (.str ⟨#[c1]⟩), s11, some (.str b), s13, s14, none] ∧ Sm a H8 H' ∧ Pot K H' a c, ?_, ?_⟩
        · refine ⟨_, rfl, _, _, rfl, rfl, _, rfl, ite2 (fun _ => ?_) (fun _ => ?_)⟩
          · refine ⟨_, rfl, a, c, 2, rfl, hpB, by decide, by decide, fun H9 k2 smk hpk _ _ => ⟨rfl, _, rfl, ite2 (fun _ => ?_) (fun _ => ?_)⟩⟩
            · exact ⟨_, rfl, _, rfl, a, c, z, 3, rfl, hpk, z1, z1000, by decide, by decide, fun H10 l smw hpw hl hc => ⟨tx l, word_tx (by omega) hc, rfl, smk.trans smw, hpw⟩⟩
            · exact ⟨"", word_empty z 3, rfl, smk, hpk⟩
          · exact iteF ⟨"", word_empty z 3, rfl, Sm.refl, hpB⟩
        · rintro σ H9 ⟨b, hb, rfl, smb, hpb⟩
          refine ⟨_, rfl, _, rfl, _, rfl, _, rfl, a, c, z, 2, rfl, hpb, z1, z1000, by decide, by decide, fun H10 l1 sm10 hp10 hl1 hk1 => ⟨_, rfl, _, rfl, a, c, z, 2, rfl, hp10, z1, z1000, by decide, by decide, fun H11 l2 sm11 hp11 hl2 hk2 => ⟨(by show 4 ≤ sizeLine; decide), fun L nL => ?_⟩⟩⟩
          refine ⟨a, c, .ref L, _, rfl, hp11.new (o := .lst [.str "", .str ⟨#[c1]⟩, .str (tx l1), .str (tx l2)]) nL, by simp, .inl ⟨L, rfl, SqL.of (sans_of (hp11.ne nL) upd_same)⟩, by show 4 < 1073741824; decide, fun H12 x sm12 hp12 hx => ?_⟩
          have smC := ((smb.trans (sm10.trans sm11)).trans (Sm.new nL)).trans sm12
          obtain ⟨y, rfl, hy⟩ : ∃ y, x = .str y ∧ WordOf z y 3 := by
            simp only [List.mem_cons, List.not_mem_nil, or_false] at hx
            rcases hx with rfl | rfl | rfl | rfl
            · exact ⟨_, rfl, word_empty z 3⟩
            · refine ⟨_, rfl, (by show 1 ≤ 3; decide), fun d hd => ?_⟩
              have hd' : d ∈ [c1] := hd
              rw [List.mem_singleton.mp hd']
              exact hc1z
            · exact ⟨_, rfl, word_tx (by omega) hk1⟩
            · exact ⟨_, rfl, word_tx (by omega) hk2⟩
          refine ⟨_, rfl, _, rfl, _, rfl, _, rfl, a, c, _, rfl, hp12, by omega, by omega, fun H13 g sm13 hp13 g0 g1 => ⟨(by show 3 ≤ sizeLine; decide), fun p np => ?_⟩⟩
          have smD := (smC.trans sm13)
          have smE := smB.trans smD
          obtain ⟨us0, es0, eM, _⟩ := (gB.sm Ma smD).it
          have pM : p ≠ M := (ne_of_none eM np).symm
          have pa := hp13.ne np
          obtain ⟨us1, es1, eS, _⟩ := (gA.sm hSa (smE)).it
          have pS : p ≠ S := (ne_of_none eS np).symm
          have gC := (gB.sm Ma smD).sm Ma (Sm.new (o := .tup [.str y, .str b, .int g]) np)
          have hpC := hp13.new (o := .tup [.str y, .str b, .int g]) np
          have smF := smE.trans (Sm.new (o := .tup [.str y, .str b, .int g]) np)
          have hT : SqT K (out3 (upd H13 p (.tup [.str y, .str b, .int g])) a M S) p [.str y, .str b, .int g] := out3_tup pa pM pS
          revert gC hpC smF hT
          generalize upd H13 p (.tup [.str y, .str b, .int g]) = H14
          intro gC hpC smF hT
          obtain ⟨g, rfl⟩ := Int.eq_ofNat_of_zero_le g0
          have fin : ∀ (H' : Hp) (x : V) (d : PyData), Sm a H14 H' → Pot K H' a c → Dq K (out3 H14 a M S) x d → MoveD z (1 + k) d → ∃ l xs w', V.ref M = .ref l ∧ [x] = [w'] ∧ H' l = some (.lst xs) ∧ xs.length < sizeLine ∧
              ∃ s10 s12 s13 s14 : Option V, [some (V.ref a), some (V.int m), some (V.str z), some (V.int (0 + (i : Int))), none, none, some (V.int (1 + (k : Int))), some (V.int kind), some (V.ref S), some (V.ref M), some (V.str ⟨#[c1]⟩), s11, some (V.str b), some (V.str y), some (V.ref p), none] = [some (.ref a), some (.int m), some (.str z), some (.int (0 + (i : Int))), none, none, some (.int (1 + (k : Int))), some (.int kind), some (.ref S), some (.ref M), s10, s11, s12, s13, s14, none] ∧
                Sm a H5 (upd H' l (.lst (xs ++ [w']))) ∧ Pot K (upd H' l (.lst (xs ++ [w']))) a c ∧ Grows K (upd H' l (.lst (xs ++ [w']))) a M S (j + 1) (MoveD z (1 + k)) := fun H' x d s hp' hx hG => by
            obtain ⟨us, e, lu, gD⟩ := (gC.sm Ma s).add Ma (hx.mono (out3_sm s)) hG
            have smG : Sm a H5 (upd H' M (.lst (us ++ [x]))) := (smF.trans s).upd nM'
            exact ⟨M, us, x, rfl, rfl, e, Nat.lt_of_le_of_lt (show us.length ≤ 4 by have : z.cps.size = z.length := rfl; omega) (by decide), _, _, _, _, rfl, smG, hpA.to smG (hp'.at_.upd Ma), gD⟩
          have hty : ∃ us, SqL K H14 M us := by
            obtain ⟨us, _, e, _⟩ := gC.it
            exact ⟨us, SqL.of e⟩
          refine ⟨_, rfl, .inl ⟨rfl, hty⟩, _, rfl, a, c, 8, rfl, hpC, by decide, by decide, fun H15 k8 sm15 hp15 _ _ => ⟨rfl, _, rfl, ite2 (fun _ => ?_) (fun _ => ⟨_, rfl, ?_⟩)⟩⟩
          · exact fin H15 .non .none sm15 hp15 .non (.inl rfl)
          · exact fin H15 (.ref p) (.tuple [.str y, .str b, .int (g : Int)]) sm15 hp15 (.tup hT (.cons (.str _) (.cons (.str _) (.cons (.int _) .nil)))) (.inr ⟨y, b, g, rfl, hy, hb, by omega⟩)
      · rintro σ H7 ⟨s10, s12, s13, s14, rfl, smB, hpB, gB⟩
        have gB : Grows K H7 a M S z.length (MoveD z (1 + k)) := gB
        refine ⟨fun σ H' => ∃ (lv : V) (ld : PyData), σ = [some (.ref a), some (.int m), some (.str z), some (.int (0 + (i : Int))), none, none, some (.int (1 + (k : Int))), some (.int kind), some (.ref S), some (.ref M), s10, some lv, s12, s13, s14, none] ∧ (∀ G : Hp, Dq K G lv ld) ∧ (ld = .none ∨ ∃ w, ld = .str w ∧ WordOf z w 3) ∧ Sm a H7 H' ∧ Pot K H' a c, ?_, ?_⟩
        · refine ⟨_, rfl, a, c, 5, rfl, hpB, by decide, by decide, fun H8 k5 sm8 hp8 _ _ => ⟨rfl, _, rfl, ite2 (fun _ => ?_) (fun _ => ?_)⟩⟩
          · exact ⟨.non, .none, rfl, fun _ => .non, .inl rfl, sm8, hp8⟩
          · exact ⟨_, rfl, _, rfl, a, c, z, 2, rfl, hp8, z1, z1000, by decide, by decide, fun H9 l sm9 hp9 hl hc => ⟨.str (tx l), .str (tx l), rfl, fun _ => .str _, .inr ⟨tx l, rfl, word_tx (by omega) hc⟩, sm8.trans sm9, hp9⟩⟩
        · rintro σ H8 ⟨lv, ld, rfl, hlv, hld, sm8, hp8⟩
          have smC := smB.trans sm8
          have gC := gB.sm Ma sm8
          obtain ⟨us, es, eM, lM, dM, qM⟩ := gC.it
          have hty : ∃ us, SqL K H8 S us := by
            obtain ⟨us, _, e, _⟩ := (gA.sm hSa smC).it
            exact ⟨us, SqL.of e⟩
          refine ⟨_, rfl, .inl ⟨rfl, hty⟩, _, rfl, M, us, rfl, .inl ⟨SqL.of eM, fun p np => ?_⟩⟩
          have pa := hp8.ne np
          have pM : p ≠ M := (ne_of_none eM np).symm
          obtain ⟨us1, es1, eS, _⟩ := (gA.sm hSa smC).it
          have pS : p ≠ S := (ne_of_none eS np).symm
          have hT1 : Dq K (out3 (upd H8 p (.tup us)) a M S) (.ref p) (.tuple es) := .tup (out3_tup pa pM pS) (dM.mono (out3_sm (Sm.new np)))
          have smD := smC.trans (Sm.new (o := .tup us) np)
          have hpD := hp8.new (o := .tup us) np
          have eS1 : upd H8 p (.tup us) S = some (.lst us1) := (upd_ne pS.symm).trans eS
          have eM1 : upd H8 p (.tup us) M = some (.lst us) := (upd_ne pM.symm).trans eM
          revert hT1 smD hpD eS1 eM1
          generalize upd H8 p (.tup us) = H9
          intro hT1 smD hpD eS1 eM1
          refine ⟨_, rfl, (by show 2 ≤ sizeLine; decide), fun r nr => ?_⟩
          have ra := hpD.ne nr
          have rS : r ≠ S := (ne_of_none eS1 nr).symm
          have rM : r ≠ M := (ne_of_none eM1 nr).symm
          have hT2 : Dq K (out3 (upd H9 r (.tup [.ref p, lv])) a M S) (.ref r) (.tuple [.tuple es, ld]) := .tup (out3_tup ra rM rS) (.cons (hT1.mono (out3_sm (Sm.new nr))) (.cons (hlv _) .nil))
          have smE := smD.trans (Sm.new (o := .tup [.ref p, lv]) nr)
          have hpE := hpD.new (o := .tup [.ref p, lv]) nr
          revert hT2 smE hpE
          generalize upd H9 r (.tup [.ref p, lv]) = H10
          intro hT2 smE hpE
          have hst : StateD z (1 + k) (.tuple [.tuple es, ld]) := ⟨es, ld, rfl, by rw [← dM.length]; exact lM, qM, hld⟩
          obtain ⟨us2, e2, l2, gE⟩ := (gA.sm hSa smE).add hSa (hT2.mono out3_swap) hst
          refine ⟨S, us2, _, rfl, rfl, e2, Nat.lt_of_le_of_lt (show us2.length ≤ 4 by omega) (by decide), ?_⟩
          have smZ : Sm a H (upd H10 S (.lst (us2 ++ [.ref r]))) := (smA.trans smE).upd nS0
          exact ⟨_, _, _, _, _, _, _, rfl, smZ, hp.to smZ (hpE.at_.upd hSa), gE⟩
    · rintro σ H5 ⟨s3, s9, s10, s11, s12, s13, s14, rfl, smA, hpA, gA⟩
      refine ⟨_, rfl, _, rfl, _, rfl, a, c, z, 2, rfl, hpA, z1, z1000, by decide, by decide, fun H6 l sm6 hp6 hl6 hc6 => ?_⟩
      obtain ⟨us, es, eS, lS, dS, qS⟩ := (gA.sm hSa sm6).it
      refine ⟨_, rfl, S, us, rfl, .inl ⟨SqL.of eS, fun p np => ?_⟩⟩
      have s7 := same_new (o := .tup us) np
      refine ⟨(by show 3 ≤ sizeLine; decide), fun r nr => ?_⟩
      have s8 := same_new (o := .tup [.str z, .str (tx l), .ref p]) nr
      have les : es.length = 1 + k := by rw [← dS.length]; exact lS
      have hS6 : DqAll K H6 us es := ((dS.mono sans_same).mono sans_same).mono sans_same
      have dq8 : Dq K (upd (upd H6 p (.tup us)) r (.tup [.str z, .str (tx l), .ref p])) (.ref r) (.tuple [.str z, .str (tx l), .tuple es]) :=
        .tup (SqT.of upd_same) (.cons (.str _) (.cons (.str _) (.cons (.tup (SqT.of (s8 _ _ upd_same)) (hS6.mono (Same.trans s7 s8))) .nil)))
      have hr8 : upd (upd H6 p (.tup us)) r (.tup [.str z, .str (tx l), .ref p]) r = some (.tup [.str z, .str (tx l), .ref p]) := upd_same
      have sA := Same.trans s7 s8
      have eS8 := sA _ _ eS
      have hS8 := hS6.mono sA
      have sm8 := (smA.trans sm6).trans (Sm.of sA)
      have hp8 := hp6.same sA
      revert dq8 hr8 eS8 hS8 sm8 hp8
      generalize upd (upd H6 p (.tup us)) r (.tup [.str z, .str (tx l), .ref p]) = H8
      intro dq8 hr8 eS8 hS8 sm8 hp8
      have hx8 : ExpD (.tuple [.str z, .str (tx l), .tuple es]) := ⟨z, tx l, es, rfl, hz, word_tx (by omega) hc6, by omega, by omega, fun s hs => by rw [les]; exact qS s hs⟩
      refine ⟨_, rfl, _, z, tx l, es, rfl, dq8, hz, by omega, (fun s hs => by rw [les]; exact qS s hs), fun H9 d s9 nd hsz => ?_⟩
      obtain ⟨kvs, hd9, lk, hkv⟩ := hsz
      have sm9 := sm8.trans (Sm.of s9)
      have hp9 := hp8.same s9
      have fin : ∀ (H' : Hp) (v : V) (e : PyData), Same H9 H' → Dq K H' v e → ExpD e → Dq K (sans H' a) v e ∧ ExpD e ∧ Sm a H H' ∧ Pot K H' a c := fun H' v e s hv he => by
        have hp' := hp9.same s
        obtain ⟨x, y, w', e0⟩ := hp'.at_
        exact ⟨hv.out e0 he.flat, he, sm9.trans (Sm.of s), hp'⟩
      refine ⟨fun σ H' => ∃ (v : V) (e : PyData) (s3 s5 s9 s10 s11 s12 s13 s14 : Option V), σ = [some (.ref a), some (.int m), some (.str z), s3, some v, s5, some (.int (1 + (k : Int))), some (.int kind), some (.ref S), s9, s10, s11, s12, s13, s14, none] ∧ Dq K (sans H' a) v e ∧ ExpD e ∧ Sm a H H' ∧ Pot K H' a c, ?_, ?_⟩
      · refine ⟨_, rfl, fun p1 np1 => ?_⟩
        have s10 := same_new (o := .dT []) np1
        have hd10 := s10 _ _ hd9
        refine ⟨d, p1, kvs, rfl, rfl, hd10, upd_same, _, rfl, ?_⟩
        revert s10 hd10
        generalize upd H9 p1 (.dT []) = H10
        intro s10 hd10
        have dq10 := dq8.mono (Same.trans s9 s10)
        cases hem : kvs.isEmpty with
        | true => exact iteF (iteF ⟨_, _, _, _, _, _, _, _, _, _, rfl, fin H10 _ _ s10 dq10 hx8⟩)
        | false =>
          refine iteT ⟨d, .dT kvs, hd10, trivial, fun od => ?_⟩
          have hF : upd H10 d (.frz od (.dT kvs)) d = some (.frz od (.dT kvs)) := upd_same
          have oF : ∀ b o, b ≠ d → H10 b = some o → upd H10 d (.frz od (.dT kvs)) b = some o := fun b o n e => (upd_ne n).trans e
          revert hF oF
          generalize upd H10 d (.frz od (.dT kvs)) = HF
          intro hF oF
          refine ⟨_, rfl, d, od, rfl, .inr ⟨kvs, hF, fun D nD => ?_⟩⟩
          have nDd : D ≠ d := fun e => by
            rw [e, hF] at nD
            cases nD
          refine lc_it walk_keysT (fun j H' => Same HF H' ∧ ∃ ns : List Int, H' D = some (.lst (ns.map V.int)) ∧ ns.length = j) ⟨same_new nD, [], upd_same, rfl⟩ (fun _ _ _ p => p.1 _ _ hF) ?_ ?_
          · rintro j x H11 H12 hj ⟨s12, ns, hD, ln⟩ ⟨rfl, kk, w0, q0, hk, rfl, hq⟩
            obtain ⟨w', hw⟩ := val_some (List.mem_of_getElem? hk)
            obtain ⟨kv, hkvm, rfl⟩ := val_mem hw
            obtain ⟨p2, n0, h0, e1, e2, _⟩ := hkv kv hkvm
            obtain ⟨n2, e2⟩ := sans_some e2
            have e3 := s12 _ _ (oF _ _ n2 (s10 _ _ e2))
            refine ⟨rfl, _, rfl, _, rfl, d, kv.2, rfl, .inr ⟨kvs, kk, q0, .inr ⟨od, s12 _ _ hF⟩, rfl, hq, hw.symm⟩, p2, _, 0, _, e1, rfl, SqT.of e3, rfl, ns.map V.int, hD, ?_, ?_, ns ++ [n0], ?_, ?_⟩
            · rw [List.length_map, ln]
              exact Nat.lt_of_lt_of_le (show j < 300 by omega) (by decide)
            · exact fun b o e => (upd_ne (ne_of_none e nD)).trans (s12 b o e)
            · rw [upd_same, List.map_append]
              rfl
            · rw [List.length_append, ln]
              rfl
          · rintro H11 ⟨s11, ns, hD, ln⟩
            refine ⟨s11 _ _ hF, D, ns, rfl, SqL.of ((upd_ne nDd).trans hD), ?_, fun mx _ _ => ?_⟩
            · rw [ln]
              cases kvs with
              | nil => cases hem
              | cons _ _ => exact Nat.succ_pos _
            · have s12 : Same H9 (upd H11 d (.dT kvs)) := fun b o e => by
                by_cases n : b = d
                · rw [n] at e ⊢
                  rw [hd9] at e
                  rw [upd_same]
                  exact e
                · exact (upd_ne n).trans (s11 _ _ (oF _ _ n (s10 _ _ e)))
              revert s12
              generalize upd H11 d (.dT kvs) = H12
              intro s12
              have dq12 := dq8.mono (Same.trans s9 s12)
              refine ⟨_, _, rfl, rfl, _, rfl, ite2 (fun _ => ?_) (fun _ => ?_)⟩
              · have hr12 := s12 _ _ (s9 _ _ hr8)
                have eS12 := s12 _ _ (s9 _ _ eS8)
                have hS12 := hS8.mono (Same.trans s9 s12)
                refine ⟨_, rfl, _, rfl, r, _, 1, _, rfl, rfl, SqT.of hr12, rfl, _, rfl, S, rfl, ⟨_, SqL.of eS12⟩, fun D2 nD2 => ?_⟩
                refine lc_list (xs := us) (fun j H' => Same H12 H' ∧ ∃ vs ds, H' D2 = some (.lst vs) ∧ vs.length = j ∧ DqAll K (sans H' D2) vs ds ∧ ∀ d ∈ ds, StateD z (1 + k) d) ⟨same_new nD2, [], [], upd_same, rfl, .nil, fun _ h => (List.not_mem_nil h).elim⟩ (fun _ _ _ p => SqL.of (p.1 _ _ eS12)) ?_ ?_
                · rintro j x H13 hx ⟨s13, vs, ds, hD2, lv, hA, hG⟩
                  obtain ⟨dx, _, hdx, _, hqx⟩ := dqAll_get' (hS12.mono s13) hx
                  have hj : j < us.length := (List.getElem?_eq_some_iff.mp hx).1
                  refine ⟨rfl, _, rfl, x, dx, z, 1 + k, rfl, hqx, qS dx hdx, z4, fun H14 v' d' s14 hv' hs' => ?_⟩
                  have e14 := s14 _ _ hD2
                  have smP : Sm D2 H14 (upd H14 D2 (.lst (vs ++ [v']))) := Sm.pot
                  refine ⟨vs, e14, ?_, fun b o e => (upd_ne (ne_of_none e nD2)).trans (s14 _ _ (s13 b o e)), vs ++ [v'], ds ++ [d'], upd_same, ?_, ?_, ?_⟩
                  · rw [lv]
                    exact Nat.lt_of_lt_of_le (show j < 300 by omega) (by decide)
                  · rw [List.length_append, lv]
                    rfl
                  · exact ((hA.mono (Sm.of s14)).mono smP).append (.cons ((hv'.out e14 hs'.flat).mono smP) .nil)
                  · intro e he
                    rcases List.mem_append.mp he with h | h
                    · exact hG e h
                    · rw [List.mem_singleton.mp h]
                      exact hs'
                · rintro H13 ⟨s13, vs, ds, hD2, lv, hA, hG⟩
                  refine ⟨D2, vs, rfl, .inl ⟨SqL.of hD2, fun p2 np2 => ?_⟩⟩
                  have s14 := same_new (o := .tup vs) np2
                  refine ⟨(by show 3 ≤ sizeLine; decide), fun r2 nr2 => ?_⟩
                  have s15 := same_new (o := .tup [.str z, .str (tx l), .ref p2]) nr2
                  have lds : ds.length = 1 + k := by rw [← hA.length, lv, lS]
                  have hA' : DqAll K H13 vs ds := hA.mono sans_same
                  have dq15 : Dq K (upd (upd H13 p2 (.tup vs)) r2 (.tup [.str z, .str (tx l), .ref p2])) (.ref r2) (.tuple [.str z, .str (tx l), .tuple ds]) :=
                    .tup (SqT.of upd_same) (.cons (.str _) (.cons (.str _) (.cons (.tup (SqT.of (s15 _ _ upd_same)) (hA'.mono (Same.trans s14 s15))) .nil)))
                  exact ⟨_, _, _, _, _, _, _, _, _, _, rfl, fin _ _ _ (Same.trans s12 (Same.trans s13 (Same.trans s14 s15))) dq15 ⟨z, tx l, ds, rfl, hz, word_tx (by omega) hc6, by omega, by omega, fun s hs => by rw [lds]; exact hG s hs⟩⟩
              · exact ⟨_, _, _, _, _, _, _, _, _, _, rfl, fin H12 _ _ s12 dq12 hx8⟩
      · rintro σ H10 ⟨v, e, s3, s5, s9, s10, s11, s12, s13, s14, rfl, dq, he, sm, hpq⟩
        exact ⟨_, rfl, q H10 v e sm hpq dq he⟩
end
end K10

namespace K10
open PySem PySem.Spec PyProof.Rows L2 G Lk
section
variable {P : Program} {w : World} {K : PySem.W.Frag} {mg : Str → Option Value} {base : Heap}
def standB (z : Str) (n : Nat) : PyData → Bool
  | .tuple [a, b, s] => isWord z a && (isWord z b && countB (n : Int) s)
  | _ => false
theorem standB_tup {z : Str} {n : Nat} {d : PyData} (e : isTup d = false) : standB z n d = false := by
  cases d with
  | tuple _ => cases e
  | _ => rfl
theorem standB_len {z : Str} {n : Nat} {ds : List PyData} (e : ds.length ≠ 3) : standB z n (.tuple ds) = false := by
  unfold standB
  split
  · rename_i q
    injection q with q
    rw [q] at e
    exact absurd rfl e
  · rfl
def sp_is_stand (K : PySem.W.Frag) : Sp := fun vs H Q _ => ∃ (v st : V) (z f : Str) (ss : List PyData) (d : PyData), vs = [v, st] ∧ Dq K H v (.tuple [.str z, .str f, .tuple ss]) ∧ Dq K H st d ∧ Light d ∧ Q (.bl (standB z ss.length d)) H
/-- def _is_stand(expander, thing): -/
theorem ok_is_stand (T : Tx K mg) : FnOk P w K mg base CX0 3 T.a__is_stand T.fd__is_stand ["expander", "thing"] (sp_is_stand K) := by
  refine T.F__is_stand.ok sc_is_stand (fun vs H Q E h => ?_) (fun cdv A outer s H vs Q E hr h => ?_)
  · obtain ⟨_, _, _, _, _, _, rfl, _⟩ := h
    rfl
  · refine ⟨_, (pss_cons (ps_if (PW.pt (pw_or (pt_not (pt_val (pe_callB call_isi (by rfl) T.z_isinstance (by decide +kernel) (pa_cons (pv 1) (pa_cons (pe_bltn (v := .ty "tuple") (by rfl) T.z_tuple (by decide +kernel) rfl) pa_nil))))) (pw_or1 (pt_cmpR op_ne (pe_callB call_len_seq (by rfl) T.z_len PySem.boot_len (pa_cons (pv 1) pa_nil)) pe_int (nomark _)))))
      (pss_one (ps_ret pe_bl))
      pss_nil)
    (pss_cons (ps_asg (pv 0) (pg_tup rfl (pgs_cons (pg_name (i := 2) sc_is_stand.nd rfl (by first | exact Or.inl rfl | exact Or.inr rfl)) (pgs_cons (pg_name (i := 3) sc_is_stand.nd rfl (by first | exact Or.inl rfl | exact Or.inr rfl)) (pgs_cons (pg_name (i := 4) sc_is_stand.nd rfl (by first | exact Or.inl rfl | exact Or.inr rfl)) pgs_nil)))))
    (pss_cons (ps_asg (pv 1) (pg_tup rfl (pgs_cons (pg_name (i := 5) sc_is_stand.nd rfl (by first | exact Or.inl rfl | exact Or.inr rfl)) (pgs_cons (pg_name (i := 6) sc_is_stand.nd rfl (by first | exact Or.inl rfl | exact Or.inr rfl)) (pgs_cons (pg_name (i := 7) sc_is_stand.nd rfl (by first | exact Or.inl rfl | exact Or.inr rfl)) pgs_nil)))))
    (pss_one (ps_ret (pe_and (pe_call (ok_is_word T) (hr.mono (by decide)) (by rfl) T.g_is_word T.F_is_word.kp T.b_is_word .nil pass0 (pa_cons (pv 2) (pa_cons (pv 5) pa_nil))) (pe_and (pe_call (ok_is_word T) (hr.mono (by decide)) (by rfl) T.g_is_word T.F_is_word.kp T.b_is_word .nil pass0 (pa_cons (pv 2) (pa_cons (pv 6) pa_nil))) (pe_one (pe_call (ok_is_number T) (hr.mono (by decide)) (by rfl) T.g_is_number T.F_is_number.kp T.b_is_number .nil pass0 (pa_cons (pe_callB call_len_seq (by rfl) T.z_len PySem.boot_len (pa_cons (pv 4) pa_nil)) (pa_cons (pv 7) pa_nil))))))))))), ?_⟩
    obtain ⟨v, st, z, f, ss, d, rfl, hv, hd, hz, q⟩ := h
    refine ⟨_, rfl, st, .ty "tuple", _, _, _, rfl, .ty "tuple", hd.ty, kTup d, _, rfl, ?_⟩
    cases e : isTup d with
    | false =>
      rw [standB_tup e] at q
      exact iteT (iteT q)
    | true =>
      obtain ⟨a, xs, ds, rfl, rfl, ht, ha⟩ := dq_tup hd e
      refine iteF ⟨_, rfl, a, xs, rfl, .inr ht, rfl, _, rfl, ?_⟩
      rw [Lk.ne_int]
      by_cases hl : xs.length = 3
      · rw [decide_eq_true (show ((xs.length : Nat) : Int) = 3 by omega)]
        refine iteF ?_
        obtain ⟨x, y, w', d1, d2, d3, rfl, rfl, h1, h2, h3⟩ := ha.three hl
        have hw := light_tup hz
        obtain ⟨e', t', xs', rfl, ht', hts', hA'⟩ := expV_of hv
        have q : Q (.bl (isWord z d1 && (isWord z d2 && countB ((ss.length : Nat) : Int) d3))) H := q
        refine ⟨_, rfl, e', _, rfl, ht', rfl, _, _, rfl, _, _, rfl, _, _, rfl, rfl, ?_⟩
        refine ⟨_, rfl, a, _, rfl, ht, rfl, x, _, rfl, y, _, rfl, w', _, rfl, rfl, ?_⟩
        have lw : ∀ d, Light d → ∀ z, d = .str z → z.length ≤ sizeLine := fun d h z e => by
          subst e
          exact light_str h
        refine ⟨_, rfl, _, rfl, z, x, d1, rfl, h1, lw d1 (hw d1 (by simp)), _, rfl, ?_⟩
        cases e1 : isWord z d1 with
        | false =>
          rw [e1] at q
          exact iteF q
        | true =>
          rw [e1] at q
          refine iteT ⟨_, rfl, _, rfl, z, y, d2, rfl, h2, lw d2 (hw d2 (by simp)), _, rfl, ?_⟩
          cases e2 : isWord z d2 with
          | false =>
            rw [e2] at q
            exact iteF q
          | true =>
            rw [e2] at q
            refine iteT ⟨_, rfl, t', xs', rfl, .inr hts', _, rfl, _, w', d3, rfl, h3, ?_⟩
            rw [hA'.length]
            exact q
      · rw [decide_eq_false (show ¬ ((xs.length : Nat) : Int) = 3 by omega)]
        rw [standB_len (fun z => hl (ha.length.trans z))] at q
        exact iteT q
end
end K10

namespace K10
open PySem PySem.Spec PyProof.Rows L2 G Lk
section
variable {P : Program} {w : World} {K : PySem.W.Frag} {mg : Str → Option Value} {base : Heap}
def sp_step (K : PySem.W.Frag) (mg : Str → Option Value) (T : Tx K mg) : Sp := fun vs H Q E => ∃ (v st : V) (d ds : PyData), vs = [v, st] ∧ Dq K H v d ∧ Dq K H st ds ∧ Light d ∧ Light ds ∧
  (expB d = false → ∀ H', Same H H' → E (.ref T.a_NoExpander) none H') ∧
  (∀ z f ss, d = .tuple [.str z, .str f, .tuple ss] → expB d = true → (standB z ss.length ds = false → ∀ H', Same H H' → E (.ref T.a_Mismatch) none H') ∧
    ∀ a b s, ds = standD (a, b, s) → standB z ss.length ds = true →
      (∀ p, nextD z ss a b s = some p → ∀ H' r, Same H H' → Dq K H' r (standD p) → Q r H') ∧ (nextD z ss a b s = none → noOutE K T.a_NoOutcome E H (whyK b) (whyT b s)))
theorem standB_parts {z : Str} {n : Nat} {d : PyData} (h : standB z n d = true) : ∃ (a b : Str) (s : Nat), d = standD (a, b, s) ∧ allIn z a = true ∧ allIn z b = true ∧ s < n := by
  match d, h with
  | .tuple [x, y, w], h =>
    have h : (isWord z x && (isWord z y && countB (n : Int) w)) = true := h
    rw [Bool.and_eq_true, Bool.and_eq_true] at h
    obtain ⟨h1, h2, h3⟩ := h
    cases x with
    | str a =>
      cases y with
      | str b =>
        cases w with
        | int i =>
          have h3 : (decide (0 ≤ i) && decide (i < (n : Int))) = true := h3
          rw [Bool.and_eq_true, decide_eq_true_eq, decide_eq_true_eq] at h3
          obtain ⟨s, rfl⟩ := Int.eq_ofNat_of_zero_le h3.1
          exact ⟨a, b, s, rfl, h1, h2, by omega⟩
        | _ => cases h3
      | _ => cases h2
    | _ => cases h1
/-- def step(expander, stand): -/
theorem ok_step (T : Tx K mg) : FnOk P w K mg base (L2.CX P w) 8 T.a_step T.fd_step ["expander", "stand"] (sp_step K mg T) := by
  refine T.F_step.okX sc_step (fun vs H Q E h => ?_) (fun cdv A outer s H vs Q E hr h => ?_)
  · obtain ⟨_, _, _, _, rfl, _⟩ := h
    rfl
  · refine ⟨_, (pss_cons (ps_expr (pe_call (ok_need_expander T) (hr.mono (by decide)) (by rfl) T.g_need_expander T.F_need_expander.kp T.b_need_expander .nil (passes_call (takes_of rfl rfl rfl rfl) (fun _ _ _ _ h => h)) (pa_cons (pv 0) pa_nil)))
    (pss_cons (ps_if (pt_not (pt_val (pe_call (ok_is_stand T) (hr.mono (by decide)) (by rfl) T.g__is_stand T.F__is_stand.kp T.b__is_stand .nil pass0 (pa_cons (pv 0) (pa_cons (pv 1) pa_nil)))))
      (pss_one (ps_raise rfl (takes_of rfl rfl rfl rfl) (pmk_own PySem.F.excBase_ValueError T.xi_Mismatch T.g_Mismatch T.k_Mismatch (raises_own T.b_Mismatch T.t_Mismatch) (by rfl))))
      pss_nil)
    (pss_cons (ps_asg (pv 1) (pg_tup rfl (pgs_cons (pg_name (i := 3) sc_step.nd rfl (by first | exact Or.inl rfl | exact Or.inr rfl)) (pgs_cons (pg_name (i := 4) sc_step.nd rfl (by first | exact Or.inl rfl | exact Or.inr rfl)) (pgs_cons (pg_name (i := 5) sc_step.nd rfl (by first | exact Or.inl rfl | exact Or.inr rfl)) pgs_nil)))))
    (pss_cons (ps_if (pt_cmpR op_eq (pv 4) pe_str (nomark _))
      (pss_one (ps_raise rfl (takes_of rfl rfl rfl rfl) (pmk_oex T.o_NoOutcome T.ii_NoOutcome T.it_NoOutcome (ok_NoOutcome_init T) (hr.mono (by decide)) T.ib_NoOutcome .nil pass0 (by rfl) T.g_NoOutcome (pa_cons pe_str (pa_cons (pe_lst pa_nil) pa_nil)))))
      pss_nil)
    (pss_cons (ps_set (i := 2) sc_step.nd rfl (by first | exact Or.inl rfl | exact Or.inr rfl) (pe_call (ok_next_stand T) (hr.mono (by decide)) (by rfl) T.g__next_stand T.F__next_stand.kp T.b__next_stand .nil pass0 (pa_cons (pv 0) (pa_cons (pv 1) pa_nil))))
    (pss_cons (ps_if (pt_cmpR op_isN (pv 2) pe_non (nomark _))
      (pss_one (ps_raise rfl (takes_of rfl rfl rfl rfl) (pmk_oex T.o_NoOutcome T.ii_NoOutcome T.it_NoOutcome (ok_NoOutcome_init T) (hr.mono (by decide)) T.ib_NoOutcome .nil pass0 (by rfl) T.g_NoOutcome (pa_cons pe_str (pa_cons (pe_lst (pa_cons (pe_tup (pa_cons (pv 5) (pa_cons (pe_ix ix_str (pv 4) pe_int (fun _ _ => rfl)) pa_nil))) pa_nil)) pa_nil)))))
      pss_nil)
    (pss_one (ps_ret (pv 2))))))))), ?_⟩
    obtain ⟨v, st, d, ds, rfl, hv, hst, hz, hzs, kE, k⟩ := h
    refine ⟨_, rfl, v, d, rfl, hv, hz, kE, fun eb H1 s1 => ?_⟩
    obtain ⟨z, f, ss, rfl, hzz, ⟨hf, lf⟩, l1, l60, hss⟩ := expB_parts eb
    obtain ⟨k1, k2⟩ := k z f ss rfl eb
    have ok : StatesOk z ss := ⟨hzz, l1, l60, hss⟩
    have hv1 := hv.mono s1
    have hst1 := hst.mono s1
    refine ⟨_, rfl, _, rfl, v, st, z, f, ss, ds, rfl, hv1, hst1, hzs, _, rfl, ?_⟩
    cases es : standB z ss.length ds with
    | false => exact iteT (k1 es H1 s1)
    | true =>
      refine iteF ?_
      obtain ⟨a, b, s, rfl, ha, hb, hs⟩ := standB_parts es
      obtain ⟨q1, q2⟩ := k2 a b s rfl es
      obtain ⟨p, rfl, hp⟩ := standV hst1
      have la : a.length ≤ 4000000 := by
        have h := light_tup hzs (.str a) (by simp)
        unfold Light PyData.weight at h
        exact Nat.le_trans h (by decide)
      have lb : b.length ≤ 4000000 := by
        have h := light_tup hzs (.str b) (by simp)
        unfold Light PyData.weight at h
        exact Nat.le_trans h (by decide)
      have lbz : b.length ≤ sizeLine := Nat.le_trans lb (by decide)
      refine ⟨_, rfl, p, _, rfl, hp, rfl, _, _, rfl, _, _, rfl, _, _, rfl, rfl, ?_⟩
      refine ⟨_, rfl, rfl, _, rfl, ?_⟩
      rcases str_cases b with rfl | ⟨c, r, rfl⟩
      · refine if_true rfl ?_
        refine ⟨Nat.zero_le _, fun l nl => ?_⟩
        exact raise_out upd_same .nil ((q2 rfl).mono (Same.trans s1 (same_new nl)))
      · refine if_false (decide_eq_false fun e => ?_) ?_
        · injection e with e
          exact tx_cons_ne e
        refine ⟨_, rfl, _, rfl, v, .ref p, z, f, a, _, s, ss, rfl, hv1, hst1, ok, hs, hb, la, lb, fun H2 r2 s2 hr2 => ?_⟩
        refine ⟨_, rfl, rfl, _, rfl, ?_⟩
        cases en : nextD z ss a (tx (c :: r)) s with
        | some p' =>
          rw [en] at hr2
          obtain ⟨pp, rfl, _⟩ := standV hr2
          refine if_false rfl ⟨_, rfl, ?_⟩
          exact q1 p' en H2 _ (Same.trans s1 s2) hr2
        | none =>
          rw [en] at hr2
          obtain rfl := Dq.noneV (show Dq K H2 r2 .none from hr2)
          refine if_true rfl ?_
          refine ⟨_, rfl, _, rfl, tx (c :: r), _, c, rfl, rfl, lbz, atI_nat (j := 0) (by rw [tx_codes]; rfl), (by show 2 ≤ sizeLine; decide), fun p3 np3 => ?_⟩
          have s3 := same_new (o := .tup [.int (s : Int), .str (tx [c])]) np3
          have h3 : Dq K (upd H2 p3 (.tup [.int (s : Int), .str (tx [c])])) (.ref p3) (.tuple [.int (s : Int), .str (Ls.one c)]) := .tup (SqT.of upd_same) (.cons (.int _) (.cons (.str _) .nil))
          revert s3 h3
          generalize upd H2 p3 (.tup [.int (s : Int), .str (tx [c])]) = H3
          intro s3 h3
          refine ⟨(by show 1 ≤ sizeLine; decide), fun l nl => ?_⟩
          have kk := (q2 en).mono (Same.trans s1 (Same.trans s2 (Same.trans s3 (same_new (o := .lst [.ref p3]) nl))))
          have e1 : whyK (tx (c :: r)) = "breaks" := by
            unfold whyK
            rw [tx_codes]
          have e2 : whyT (tx (c :: r)) s = [.tuple [.int (s : Int), .str (Ls.one c)]] := by
            unfold whyT
            rw [tx_codes]
          rw [e1, e2] at kk
          exact raise_out upd_same ((DqAll.cons h3 .nil).mono (same_new nl)) kk
end
end K10

namespace K10
open PySem PySem.Spec PyProof.Rows L2 G Lk
section
variable {P : Program} {w : World} {K : PySem.W.Frag} {mg : Str → Option Value} {base : Heap}
def toldD (z : Str) (ss : List PyData) : PyData → PyData
  | .tuple [.str a, .str b, .int i] => if standB z ss.length (.tuple [.str a, .str b, .int i]) = true then afterD z ss a b i.toNat else .str "match"
  | _ => .str "match"
theorem toldD_no {z : Str} {ss : List PyData} {d : PyData} (h : standB z ss.length d = false) : toldD z ss d = .str "match" := by
  unfold toldD
  split
  · rw [if_neg (by rw [h]; decide)]
  · rfl
theorem toldD_yes {z : Str} {ss : List PyData} {a b : Str} {s : Nat} (h : standB z ss.length (standD (a, b, s)) = true) : toldD z ss (standD (a, b, s)) = afterD z ss a b s := by
  show (if standB z ss.length (standD (a, b, s)) = true then afterD z ss a b (s : Int).toNat else .str "match") = _
  rw [if_pos h, Int.toNat_natCast]
def sp_Ltold (K : PySem.W.Frag) : Sp := fun vs H Q _ => ∃ (v st : V) (z f : Str) (ss : List PyData) (d : PyData), vs = [v, st] ∧ Dq K H v (.tuple [.str z, .str f, .tuple ss]) ∧ expB (.tuple [.str z, .str f, .tuple ss]) = true ∧ Light (.tuple [.str z, .str f, .tuple ss]) ∧
  Dq K H st d ∧ Light d ∧ ReprOk d ∧ ∀ H' r, Same H H' → Dq K H' r (toldD z ss d) → Q r H'
/-- def _law_told(expander, stand): -/
theorem ok_Ltold (T : Tx K mg) : FnG P w K mg base CX0 9 T.a__law_told T.fd__law_told ["expander", "stand"] (sp_Ltold K) := by
  refine T.F__law_told.okG sc_Ltold (fun vs H Q E h => ?_) (fun cdv A outer s H vs Q E gd hr h => ?_)
  · obtain ⟨_, _, _, _, _, _, rfl, _⟩ := h
    rfl
  · refine ⟨_, (pss_cons (ps_par (i := 2) (j := 3) (by rfl) sc_Ltold.nd rfl rfl (by decide) rfl rfl (pa_cons pe_non (pa_cons (pe_callB (call_repr_data gd hr.units) (by rfl) T.z_repr (by decide +kernel) (pa_cons (pv 1) pa_nil)) pa_nil)) (by rfl))
    (C8.pss_cut (ps_try_names (Wout := fun _ _ _ _ => False) rfl rfl takes0 (fun W pn xe tk po => (pss_one (ps_set (i := 2) sc_Ltold.nd rfl (by first | exact Or.inl rfl | exact Or.inr rfl) (by exact (pe_callS (ok_step T) (hr.mono (by decide)) (by rfl) T.g_step T.F_step.kp T.b_step (fun σ => passAt tk σ) (by exact (pa_cons (pv 0) (pa_cons (pv 1) pa_nil)))))))) (.more (i := 4) ⟨rfl, by decide, .inl T.g_NoOutcome⟩ sc_Ltold.nd rfl rfl (fun a oe cls d pn hz hf => (pss_one (ps_set (i := 2) sc_Ltold.nd rfl (by first | exact Or.inl rfl | exact Or.inr rfl) (pe_lst (pa_cons (pe_xf T.x_NoOutcome T.nf_NoOutcome_kind hz hf (pv 4)) (pa_cons (pe_xf T.x_NoOutcome T.nf_NoOutcome_thread hz hf (pv 4)) pa_nil)))))) (.more (i := 4) ⟨rfl, by decide, .inl T.g_Mismatch⟩ sc_Ltold.nd rfl rfl (fun a oe cls d pn hz hf => (pss_one (ps_set (i := 2) sc_Ltold.nd rfl (by first | exact Or.inl rfl | exact Or.inr rfl) pe_str))) .none)))
    (pss_one (ps_ret (pe_ifExp (pt_cmpR op_eq (pe_callB (call_repr_data gd hr.units) (by rfl) T.z_repr (by decide +kernel) (pa_cons (pv 1) pa_nil)) (pv 3) (nomark _)) (pv 2) pe_str))))), ?_⟩
    obtain ⟨v, st, z, f, ss, d, rfl, hv, he, hz, hst, hzd, sh, q⟩ := h
    refine ⟨_, rfl, st, d, rfl, hst, sh, ?_⟩
    refine ⟨_, _, rfl, fun σ H' => ∃ (r : V) (t4 : Option V), σ = [some v, some st, some r, some (.str d.shown), t4] ∧ Same H H' ∧ Dq K H' r (toldD z ss d), ?_, ?_⟩
    · refine ⟨_, rfl, _, rfl, v, st, _, d, rfl, hv, hst, hz, hzd, fun e => (Bool.false_ne_true (e.symm.trans he)).elim, fun z' f' ss' e1 _ => ?_⟩
      cases e1
      refine ⟨fun e H1 s1 => ?_, fun a b s e1 e2 => ⟨fun p en H1 r s1 hr => ?_, fun en => ?_⟩⟩
      · refine ⟨false, T.e_Mismatch_NoOutcome, (fun z => nomatch z), fun _ => ⟨true, T.e_Mismatch_Mismatch, fun _ a na => ⟨_, _, rfl, s1, ?_⟩, fun z => nomatch z⟩⟩
        rw [toldD_no e]
        exact .str _
      · refine ⟨r, none, rfl, s1, ?_⟩
        subst e1
        rw [toldD_yes e2]
        unfold afterD
        rw [en]
        exact hr
      · intro H1 dd n s1 ed hn
        refine ⟨true, T.e_NoOutcome_NoOutcome, fun _ a' na => ?_, fun z => nomatch z⟩
        refine ⟨_, rfl, rfl, rfl, dd, _, _, rfl, ed, rfl, _, rfl, rfl, rfl, dd, _, _, rfl, ed, rfl, (by show 2 ≤ sizeLine; decide), fun l nl => ?_⟩
        refine ⟨_, _, rfl, Same.trans s1 (same_new nl), ?_⟩
        subst e1
        rw [toldD_yes e2]
        unfold afterD
        rw [en]
        exact .lst (SqL.of upd_same) (.cons (.str _) (.cons (hn.mono (same_new nl)) .nil))
    · rintro σ H1 ⟨r, t4, rfl, s1, hr⟩
      refine ⟨_, rfl, st, d, rfl, hst.mono s1, sh, _, rfl, rfl, _, rfl, ?_⟩
      refine if_true (decide_eq_true rfl) ⟨_, rfl, q H1 r s1 hr⟩
end
end K10

namespace K10
open PySem PySem.Spec PyProof.Rows L2 G Lk
section
variable {P : Program} {w : World} {K : PySem.W.Frag} {mg : Str → Option Value} {base : Heap}
def sp_begin (K : PySem.W.Frag) (mg : Str → Option Value) (T : Tx K mg) : Sp := fun vs H Q E => ∃ (v x : V) (d dx : PyData), vs = [v, x] ∧ Dq K H v d ∧ Dq K H x dx ∧ Light d ∧ Light dx ∧
  (expB d = false → ∀ H', Same H H' → E (.ref T.a_NoExpander) none H') ∧
  (∀ z f ss, d = .tuple [.str z, .str f, .tuple ss] → expB d = true → (isText z dx = false → ∀ H', Same H H' → E (.ref T.a_NoText) none H') ∧
    ∀ t, dx = .str t → isText z dx = true → ∀ H' r, Same H H' → Dq K H' r (standD (f, t, 0)) → Q r H')
section
variable {T : Tx K mg} {H : Hp} {Q : VK} {v : V} {z f t : Str} {ss : List PyData}
theorem begin_k (hd : Dq K H v (.tuple [.str z, .str f, .tuple ss])) (lE : Light (.tuple [.str z, .str f, .tuple ss])) (he : expB (.tuple [.str z, .str f, .tuple ss]) = true) (ht : allIn z t = true) (lt : t.length ≤ 200)
    (k : ∀ H' r, Same H H' → Dq K H' r (standD (f, t, 0)) → Q r H') : sp_begin K mg T [v, .str t] H Q E0 := by
  have e1 : isText z (.str t) = true := by
    show (allIn z t && decide (t.length ≤ 200)) = true
    rw [ht, decide_eq_true lt]
    rfl
  refine ⟨v, .str t, _, .str t, rfl, hd, .str t, lE, by unfold Light; simp only [PyData.weight]; exact Nat.le_trans lt (by decide), fun e => (Bool.false_ne_true (e.symm.trans he)).elim, fun z' f' ss' e _ => ?_⟩
  cases e
  refine ⟨fun e => (Bool.false_ne_true (e.symm.trans e1)).elim, fun t' et _ H' r s hr => ?_⟩
  cases et
  exact k H' r s hr
end
/-- def begin(expander, text): -/
theorem ok_begin (T : Tx K mg) : FnOk P w K mg base (L2.CX P w) 8 T.a_begin T.fd_begin ["expander", "text"] (sp_begin K mg T) := by
  refine T.F_begin.okX sc_begin (fun vs H Q E h => ?_) (fun cdv A outer s H vs Q E hr h => ?_)
  · obtain ⟨_, _, _, _, rfl, _⟩ := h
    rfl
  · refine ⟨_, (pss_cons (ps_expr (pe_call (ok_need_expander T) (hr.mono (by decide)) (by rfl) T.g_need_expander T.F_need_expander.kp T.b_need_expander .nil (passes_call (takes_of rfl rfl rfl rfl) (fun _ _ _ _ h => h)) (pa_cons (pv 0) pa_nil)))
    (pss_cons (ps_expr (pe_call (ok_need_text T) (hr.mono (by decide)) (by rfl) T.g_need_text T.F_need_text.kp T.b_need_text .nil (passes_call (takes_of rfl rfl rfl rfl) (fun _ _ _ _ h => h)) (pa_cons (pe_ix ix_tup (pv 0) pe_int (fun _ _ => rfl)) (pa_cons (pv 1) pa_nil))))
    (pss_one (ps_ret (pe_call (ok_first_stand T) (hr.mono (by decide)) (by rfl) T.g__first_stand T.F__first_stand.kp T.b__first_stand .nil pass0 (pa_cons (pv 0) (pa_cons (pv 1) pa_nil))))))), ?_⟩
    obtain ⟨v, x, d, dx, rfl, hv, hx, hz, hzx, kE, k⟩ := h
    refine ⟨_, rfl, v, d, rfl, hv, hz, kE, fun eb H1 s1 => ?_⟩
    obtain ⟨z, f, ss, rfl, _⟩ := expB_parts eb
    obtain ⟨k1, k2⟩ := k z f ss rfl eb
    have hv1 := hv.mono s1
    obtain ⟨a, t', xs, rfl, ht, hts, hA⟩ := expV_of hv1
    refine ⟨_, rfl, a, _, _, _, rfl, rfl, ht, rfl, _, rfl, z, x, dx, rfl, hx.mono s1, fun w e => by subst e; exact light_str hzx, fun e => k1 e H1 s1, fun e => ?_⟩
    obtain ⟨t, rfl⟩ := text_str e
    obtain rfl := hx.strV
    exact ⟨_, rfl, _, rfl, _, z, f, t, ss, rfl, hv1, fun H2 r s2 hr => k2 t rfl e H2 r (Same.trans s1 s2) hr⟩
end
end K10

namespace K10
open PySem PySem.Spec PyProof.Rows L2 G Lk
section
variable {P : Program} {w : World} {K : PySem.W.Frag} {mg : Str → Option Value} {base : Heap}
def sp_law (K : PySem.W.Frag) : Sp := fun vs H Q _ => ∃ (a : Addr) (ns : List Int), vs = [.ref a] ∧ SqL K H a (ns.map V.int) ∧ ns.length ≤ 63 ∧ ∀ H', Q (.bl true) H'
theorem runD_take (z : Str) (ss : List PyData) : ∀ (n m : Nat) (p : Str × Str × Nat), (runD z ss n p).take m = runD z ss (min m n) p
  | 0, m, p => by rw [Nat.min_zero]; exact List.take_nil
  | n + 1, 0, p => by rw [Nat.zero_min]; exact List.take_zero
  | n + 1, m + 1, p => by
    rw [Nat.succ_min_succ]
    show p :: (List.take m _) = p :: _
    cases e : nextD z ss p.1 p.2.1 p.2.2 with
    | none => exact congrArg _ List.take_nil
    | some q => exact congrArg _ (runD_take z ss n m q)
theorem runD_stood {z : Str} {ss : List PyData} (ok : StatesOk z ss) : ∀ (n k : Nat) (p : Str × Str × Nat), Stood z ss.length k p → ∀ q ∈ runD z ss n p, Stood z ss.length (k + 2000 * n) q
  | 0, k, p, h, q, hq => (List.not_mem_nil hq).elim
  | n + 1, k, p, h, q, hq => by
    rcases List.mem_cons.mp (show q ∈ p :: _ from hq) with e | hq
    · rw [e]
      exact h.mono (by omega)
    · cases e : nextD z ss p.1 p.2.1 p.2.2 with
      | none =>
        rw [e] at hq
        exact (List.not_mem_nil hq).elim
      | some r =>
        rw [e] at hq
        have := runD_stood ok n (k + 2000) r (h.next ok e) q hq
        exact this.mono (by omega)
theorem runD_pos (z : Str) (ss : List PyData) (n : Nat) (p : Str × Str × Nat) : 1 ≤ (runD z ss (n + 1) p).length := by
  show 1 ≤ (p :: _).length
  rw [List.length_cons]
  omega
theorem runD_len (z : Str) (ss : List PyData) : ∀ (n : Nat) (p : Str × Str × Nat), (runD z ss n p).length ≤ n
  | 0, p => Nat.le_refl 0
  | n + 1, p => by
    show (p :: _).length ≤ n + 1
    rw [List.length_cons]
    cases e : nextD z ss p.1 p.2.1 p.2.2 with
    | none => exact Nat.succ_le_succ (Nat.zero_le _)
    | some q => exact Nat.succ_le_succ (runD_len z ss n q)
/-- def law(script): -/
theorem ok_law (T : Tx K mg) : FnG P w K mg base CX0 10 T.a_law T.fd_law ["script"] (sp_law K) := by
  refine T.F_law.okG sc_law (fun vs H Q E h => ?_) (fun cdv A outer s H vs Q E gd hr h => ?_)
  · obtain ⟨_, _, rfl, _⟩ := h
    rfl
  · refine ⟨_, (pss_cons (ps_set (i := 1) sc_law.nd rfl (by first | exact Or.inl rfl | exact Or.inr rfl) (pe_call (ok_Lpot_of T) (hr.mono (by decide)) (by rfl) T.g__law_pot_of T.F__law_pot_of.kp T.b__law_pot_of .nil pass0 (pa_cons (pv 0) pa_nil)))
    (pss_cons (ps_for PassesOwn.never rfl (pi_range1 (by rfl) T.z_range (pa_cons pe_int pa_nil)) (pg_name (i := 2) sc_law.nd rfl (by first | exact Or.inl rfl | exact Or.inr rfl))
      (pss_cons (ps_set (i := 3) sc_law.nd rfl (by first | exact Or.inl rfl | exact Or.inr rfl) (pe_call (ok_Lsome_expander T) (hr.mono (by decide)) (by rfl) T.g__law_some_expander T.F__law_some_expander.kp T.b__law_some_expander .nil pass0 (pa_cons (pv 1) (pa_cons pe_int pa_nil))))
    (pss_cons (ps_par (i := 10) (j := 11) (by rfl) sc_law.nd rfl rfl (by decide) rfl rfl (pa_cons (pe_ix ix_tup (pv 3) pe_int (fun _ _ => rfl)) (pa_cons (pe_callB call_len_seq (by rfl) T.z_len PySem.boot_len (pa_cons (pe_ix ix_tup (pv 3) pe_int (fun _ _ => rfl)) pa_nil)) pa_nil)) (by rfl))
    (pss_cons (ps_set (i := 4) sc_law.nd rfl (by first | exact Or.inl rfl | exact Or.inr rfl) (pe_call (ok_Lsome_word T) (hr.mono (by decide)) (by rfl) T.g__law_some_word T.F__law_some_word.kp T.b__law_some_word .nil pass0 (pa_cons (pv 1) (pa_cons (pv 10) (pa_cons pe_int pa_nil)))))
    (pss_cons (ps_if (pt_cmpR (op_neD hr.units) (pe_call (ok_begin T) (hr.mono (by decide)) (by rfl) T.g_begin T.F_begin.kp T.b_begin .nil passL (pa_cons (pv 3) (pa_cons (pv 4) pa_nil))) (pe_tup (pa_cons (pe_ix ix_tup (pv 3) pe_int (fun _ _ => rfl)) (pa_cons (pv 4) (pa_cons pe_int pa_nil)))) (nomark _))
      (pss_one (ps_ret pe_bl))
      pss_nil)
    (pss_cons (ps_par (i := 12) (j := 13) (by rfl) sc_law.nd rfl rfl (by decide) rfl rfl (pa_cons (pe_call (ok_Lrun T) (hr.mono (by decide)) (by rfl) T.g__law_run T.F__law_run.kp T.b__law_run .nil pass0 (pa_cons (pv 3) (pa_cons (pv 4) (pa_cons pe_int pa_nil)))) (pa_cons (pe_call (ok_Lpick T) (hr.mono (by decide)) (by rfl) T.g__law_pick T.F__law_pick.kp T.b__law_pick .nil pass0 (pa_cons (pv 1) (pa_cons (pe_lst (pa_cons pe_int (pa_cons pe_int (pa_cons pe_int (pa_cons pe_int pa_nil))))) pa_nil))) pa_nil)) (by rfl))
    (pss_cons (ps_if (PW.pt (pw_or (pt_cmpR (op_neD hr.units) (pe_call (ok_stands T) (hr.mono (by decide)) (by rfl) T.g_stands T.F_stands.kp T.b_stands T.dv_stands passL (pa_cons (pv 3) (pa_cons (pv 4) pa_nil))) (pv 12) (nomark _)) (pw_or1 (pt_cmpR (op_neD hr.units) (pe_callN (ok_stands T) (hr.mono (by decide)) (by rfl) T.g_stands T.F_stands.kp T.kb_stands passL (pa_cons (pv 3) (pa_cons (pv 4) pa_nil)) (pk_cons (pv 13) pk_nil)) (pe_slice sl_list (pv 12) po_none (po_some (pv 13))) (nomark _)))))
      (pss_one (ps_ret pe_bl))
      pss_nil)
    (pss_cons (ps_expr (pe_bm0 PySem.F.plainAttrs_list PySem.F.slot_list_clear PySem.F.type_list_clear mt_clear (pe_call (ok_stands T) (hr.mono (by decide)) (by rfl) T.g_stands T.F_stands.kp T.b_stands T.dv_stands passL (pa_cons (pv 3) (pa_cons (pv 4) pa_nil)))))
    (C8.pss_cut (ps_set (i := 5) sc_law.nd rfl (by first | exact Or.inl rfl | exact Or.inr rfl) (pe_ifExp (pt_cmpR op_eq (pv 2) pe_int (nomark _)) (pe_call (ok_Lrun T) (hr.mono (by decide)) (by rfl) T.g__law_run T.F__law_run.kp T.b__law_run .nil pass0 (pa_cons (pv 3) (pa_cons (pv 4) (pa_cons pe_int pa_nil)))) (pv 12)))
    (C8.pss_cut (ps_if (PW.pt (pw_or (PW.pt (pw_and (pt_cmpR op_eq (pv 2) pe_int (nomark _)) (pw_and1 (pt_cmpR (op_neD hr.units) (pe_callN (ok_stands T) (hr.mono (by decide)) (by rfl) T.g_stands T.F_stands.kp T.kb_stands passL (pa_cons (pv 3) (pa_cons (pv 4) pa_nil)) (pk_cons pe_int pk_nil)) (pv 5) (nomark _))))) (pw_or1 (pt_cmpR (op_neD hr.units) (pe_slice sl_list (pe_callN (ok_stands T) (hr.mono (by decide)) (by rfl) T.g_stands T.F_stands.kp T.kb_stands passL (pa_cons (pv 3) (pa_cons (pv 4) pa_nil)) (pk_cons pe_int pk_nil)) po_none (po_some pe_int)) (pv 12) (nomark _)))))
      (pss_one (ps_ret pe_bl))
      pss_nil)
    (pss_cons (ps_set (i := 6) sc_law.nd rfl (by first | exact Or.inl rfl | exact Or.inr rfl) (pe_tup (pa_cons (pe_call (ok_Lsome_word T) (hr.mono (by decide)) (by rfl) T.g__law_some_word T.F__law_some_word.kp T.b__law_some_word .nil pass0 (pa_cons (pv 1) (pa_cons (pv 10) (pa_cons pe_int pa_nil)))) (pa_cons (pe_call (ok_Lsome_word T) (hr.mono (by decide)) (by rfl) T.g__law_some_word T.F__law_some_word.kp T.b__law_some_word .nil pass0 (pa_cons (pv 1) (pa_cons (pv 10) (pa_cons pe_int pa_nil)))) (pa_cons (pe_call (ok_Lbelow T) (hr.mono (by decide)) (by rfl) T.g__law_below T.F__law_below.kp T.b__law_below .nil pass0 (pa_cons (pv 1) (pa_cons (pv 11) pa_nil))) pa_nil)))))
    (pss_cons (ps_for PassesOwn.never rfl (pi_list (pe_op op_cat (pe_op op_cat (pe_slice sl_list (pv 12) po_none (po_some pe_int)) (pe_slice sl_list (pv 12) (po_some (pe_op op_sub (pe_callB call_len_seq (by rfl) T.z_len PySem.boot_len (pa_cons (pv 12) pa_nil)) pe_int)) po_none)) (pe_lst (pa_cons (pv 6) pa_nil)))) (pg_name (i := 7) sc_law.nd rfl (by first | exact Or.inl rfl | exact Or.inr rfl))
      (pss_one (ps_if (pt_cmpR (op_neD hr.units) (pe_callG (ok_Ltold T) gd (hr.mono (by decide)) (by rfl) T.g__law_told T.F__law_told.kp T.b__law_told .nil pass0 (pa_cons (pv 3) (pa_cons (pv 7) pa_nil))) (pe_call (ok_Lafter T) (hr.mono (by decide)) (by rfl) T.g__law_after T.F__law_after.kp T.b__law_after .nil pass0 (pa_cons (pv 3) (pa_cons (pv 7) pa_nil))) (nomark _))
      (pss_one (ps_ret pe_bl))
      pss_nil)))
    (pss_cons (ps_asg (pv 6) (pg_tup rfl (pgs_cons (pg_name (i := 14) sc_law.nd rfl (by first | exact Or.inl rfl | exact Or.inr rfl)) (pgs_cons (pg_name (i := 15) sc_law.nd rfl (by first | exact Or.inl rfl | exact Or.inr rfl)) (pgs_cons (pg_name (i := 16) sc_law.nd rfl (by first | exact Or.inl rfl | exact Or.inr rfl)) pgs_nil)))))
    (pss_cons (ps_set (i := 8) sc_law.nd rfl (by first | exact Or.inl rfl | exact Or.inr rfl) (pe_call (ok_Lpick T) (hr.mono (by decide)) (by rfl) T.g__law_pick T.F__law_pick.kp T.b__law_pick .nil pass0 (pa_cons (pv 1) (pa_cons (pe_lst (pa_cons pe_non (pa_cons pe_int (pa_cons pe_str (pa_cons (pe_tup (pa_cons (pv 15) pa_nil)) (pa_cons (pe_lst (pa_cons (pv 15) pa_nil)) (pa_cons pe_bl (pa_cons pe_str pa_nil)))))))) pa_nil))))
    (pss_cons (ps_set (i := 5) sc_law.nd rfl (by first | exact Or.inl rfl | exact Or.inr rfl) (pe_op op_mulS (pe_ix ix_str (pv 10) pe_int (fun _ _ => rfl)) (pe_call (ok_Lpick T) (hr.mono (by decide)) (by rfl) T.g__law_pick T.F__law_pick.kp T.b__law_pick .nil pass0 (pa_cons (pv 1) (pa_cons (pe_lst (pa_cons pe_int (pa_cons pe_int pa_nil))) pa_nil)))))
    (pss_cons (ps_for PassesOwn.never rfl (pi_tup (pe_tup (pa_cons (pe_tup (pa_cons (pv 5) (pa_cons (pv 15) (pa_cons (pv 16) pa_nil)))) (pa_cons (pe_tup (pa_cons (pv 14) (pa_cons (pe_op op_add_str (pe_slice sl_str (pv 15) po_none (po_some pe_int)) (pv 5)) (pa_cons (pv 16) pa_nil)))) (pa_cons (pe_tup (pa_cons (pv 5) (pa_cons (pe_ix ix_str (pv 10) pe_int (fun _ _ => rfl)) (pa_cons (pv 16) pa_nil)))) pa_nil))))) (pg_name (i := 7) sc_law.nd rfl (by first | exact Or.inl rfl | exact Or.inr rfl))
      (pss_one (ps_if (pt_cmpR (op_neD hr.units) (pe_callG (ok_Ltold T) gd (hr.mono (by decide)) (by rfl) T.g__law_told T.F__law_told.kp T.b__law_told .nil pass0 (pa_cons (pv 3) (pa_cons (pv 7) pa_nil))) (pe_call (ok_Lafter T) (hr.mono (by decide)) (by rfl) T.g__law_after T.F__law_after.kp T.b__law_after .nil pass0 (pa_cons (pv 3) (pa_cons (pv 7) pa_nil))) (nomark _))
      (pss_one (ps_ret pe_bl))
      pss_nil)))
    (pss_cons (ps_set (i := 9) sc_law.nd rfl (by first | exact Or.inl rfl | exact Or.inr rfl) (pe_lst (pa_cons (pe_tup (pa_cons (pv 14) (pa_cons (pe_op op_add_str (pv 15) pe_str) (pa_cons (pv 16) pa_nil)))) (pa_cons (pe_tup (pa_cons (pv 14) (pa_cons (pe_op op_add_str pe_str (pv 15)) (pa_cons (pv 16) pa_nil)))) (pa_cons (pe_tup (pa_cons (pe_op op_add_str (pv 14) pe_str) (pa_cons (pv 15) (pa_cons (pv 16) pa_nil)))) (pa_cons pe_non (pa_cons (pe_tup pa_nil) pa_nil)))))))
    (pss_cons (ps_set (i := 9) sc_law.nd rfl (by first | exact Or.inl rfl | exact Or.inr rfl) (pe_op op_cat (pv 9) (pe_lst (pa_cons (pe_callTy call_list_of (by rfl) T.z_list (by decide +kernel) (pa_cons (pv 6) pa_nil)) (pa_cons (pe_slice sl_tupA (pv 6) po_none (po_some pe_int)) (pa_cons (pe_op op_catA (pv 6) (pe_tup (pa_cons pe_int pa_nil))) (pa_cons (pe_tup (pa_cons (pv 8) (pa_cons (pv 15) (pa_cons (pv 16) pa_nil)))) (pa_cons (pe_tup (pa_cons (pv 14) (pa_cons (pv 8) (pa_cons (pv 16) pa_nil)))) (pa_cons pe_dnewK (pa_cons pe_str pa_nil))))))))))
    (pss_one (ps_for PassesOwn.never rfl (pi_list (pe_op op_cat (pv 9) (pe_lc (own := [("place", 17)]) (g := gName 17) (by rfl) sc_law.nd (pi_tup (pe_tup (pa_cons (pv 11) (pa_cons pe_bl (pa_cons (pe_op op_sub pe_int pe_int) (pa_cons pe_non (pa_cons pe_str pa_nil))))))) (blkOk_by (own := [("place", 17)]) (N := N_law) (sc := defScope s_law) (by decide +kernel)) (fun _ _ _ _ _ => pg_name (i := 17) sc_law.nd rfl (by first | exact Or.inl rfl | exact Or.inr rfl)) (fun _ _ _ _ _ => pts_nil) (fun _ _ _ _ _ => (pe_tup (pa_cons (pv 14) (pa_cons (pv 15) (pa_cons (pv 17) pa_nil)))))))) (pg_name (i := 7) sc_law.nd rfl (by first | exact Or.inl rfl | exact Or.inr rfl))
      (pss_one (ps_if (pt_cmpR (op_neD hr.units) (pe_callG (ok_Ltold T) gd (hr.mono (by decide)) (by rfl) T.g__law_told T.F__law_told.kp T.b__law_told .nil pass0 (pa_cons (pv 3) (pa_cons (pv 7) pa_nil))) pe_str (nomark _))
      (pss_one (ps_ret pe_bl))
      pss_nil))))))))))))))))))))))
    (pss_one (ps_ret (pe_call (ok_Llong_right T) (hr.mono (by decide)) (by rfl) T.g__law_long_right T.F__law_long_right.kp T.b__law_long_right .nil pass0 (pa_cons (pv 1) pa_nil)))))), ?_⟩
    obtain ⟨a, ns, rfl, hS, hlen, q⟩ := h
    refine ⟨_, rfl, a, ns, rfl, hS, hlen, fun H1 p c s1 np hp1 => ?_⟩
    refine ⟨8, rfl, by decide, by decide, for_range (n := 8) (fun _ σ H' => ∃ t2 t3 t4 t5 t6 t7 t8 t9 t10 t11 t12 t13 t14 t15 t16 : Option V, σ = [some (.ref a), some (.ref p), t2, t3, t4, t5, t6, t7, t8, t9, t10, t11, t12, t13, t14, t15, t16, none] ∧ Pot K H' p c)
      ⟨_, _, _, _, _, _, _, _, _, _, _, _, _, _, _, rfl, hp1⟩ ?_ ?_⟩
    · rintro i σ H3 hi ⟨t2, t3, t4, t5, t6, t7, t8, t9, t10, t11, t12, t13, t14, t15, t16, rfl, hp3⟩
      refine ⟨_, rfl, p, c, 4, rfl, hp3, by decide, by decide, fun H4 v d sm4 hp4 hd hD => ?_⟩
      have hE := hD.ok
      obtain ⟨z, f, ss, rfl, hz, hf, l1, l4, hss⟩ := id hD
      have ok := hD.states
      obtain ⟨z1, z4, zc⟩ := hz.small
      have hzl : z.length ≤ sizeLine := Nat.le_trans z4 (by decide)
      have qs : ∀ (k : Bool), ∀ s ∈ ss, Qk k 3 106 s := fun k s hs => (hss s hs).q zc z4 l4
      have qE : ∀ k : Bool, Qk k 5 1290 (.tuple [.str z, .str f, .tuple ss]) := fun k => (tup3 (k := k) (n := 4) (B := 428) (.str (by omega) zc) (hf.q zc (by decide)) (Qk.tup (qs k) (by omega)) (Nat.le_refl _)).mono (by decide) (by decide)
      have lE : Light (.tuple [.str z, .str f, .tuple ss]) := (qE true).light (by decide)
      have hfi : allIn z f = true := allIn_of hf.2
      have hfl : f.length ≤ 2000 := Nat.le_trans hf.1 (by decide)
      obtain ⟨e, t, xs, rfl, ht, hts, hA⟩ := expV_of hd
      have hl := hA.length
      refine ⟨_, rfl, e, _, 0, _, rfl, rfl, seqT sans_same ht, rfl, _, rfl, e, _, 2, _, rfl, rfl, seqT sans_same ht, rfl, t, xs, rfl, .inr (seqT sans_same hts), _, _, rfl, ?_⟩
      rw [hl]
      refine ⟨_, rfl, _, rfl, p, c, z, 10, rfl, hp4, by omega, by omega, by decide, by decide, fun H5 w sm5 hp5 hwl hwc => ?_⟩
      have tl : (tx w).length ≤ 200 := by
        rw [tx_len]
        omega
      have ti : allIn z (tx w) = true := allIn_of fun c hc => hwc c (by rw [tx_codes] at hc; exact hc)
      generalize tx w = tw at tl ti ⊢
      have hd5 := hd.mono sm5
      have ht5 := seqT sm5 ht
      have st0 : Stood z ss.length 2000 (f, tw, 0) := ⟨hfl, hfi, Nat.le_trans tl (by decide), ti, by show 0 < ss.length; omega⟩
      -- begin
      refine ⟨_, rfl, _, rfl, begin_k (hd5.mono sans_same) lE hE ti tl fun H6 r6 s6 hr6 => ?_⟩
      refine ⟨_, rfl, e, _, 1, _, rfl, rfl, seqT s6 (seqT sans_same ht5), rfl, _, rfl, (by show 3 ≤ sizeLine; decide), fun p7 np7 => ?_⟩
      have s7 := same_new (o := .tup [.str f, .str tw, .int 0]) np7
      have h7 : Dq K (upd H6 p7 (.tup [.str f, .str tw, .int 0])) (.ref p7) (standD (f, tw, 0)) := .tup (SqT.of upd_same) (.cons (.str _) (.cons (.str _) (.cons (.int _) .nil)))
      revert s7 h7
      generalize upd H6 p7 (.tup [.str f, .str tw, .int 0]) = H7
      intro s7 h7
      have e0 := st0.eqb zc
      refine neDq (hr6.mono s7) h7 e0 e0 (by decide) (by decide) ⟨_, rfl, ?_⟩
      refine if_false (eqv_same e0) ?_
      have s57 := Same.trans s6 s7
      have hp7 := hp5.same s57
      have hd7 := (hd5.mono (Sm.of (a := p) s57))
      have ht7 := seqT (Sm.of (a := p) s57) ht5
      clear h7 hr6
      -- due, limit
      refine ⟨_, rfl, _, rfl, .ref e, z, f, tw, ss, 100, rfl, hd7.mono sans_same, ok, ⟨hfi, hfl⟩, ⟨ti, tl⟩, by decide, by decide, fun H8 L s8 nL hdue => ?_⟩
      obtain ⟨us, eL, hus⟩ := hdue
      have nLp : L ≠ p := by
        obtain ⟨_, _, _, eP⟩ := hp7.at_
        exact (ne_of_none eP nL).symm
      have hp8 := hp7.same s8
      have hdue : Dq K (sans H8 p) (.ref L) (.list ((runD z ss 100 (f, tw, 0)).map standD)) := by
        obtain ⟨_, _, _, eP⟩ := hp8.at_
        refine .lst (SqL.of (sans_of nLp eL)) (hus.out eP (hasListAll_of fun d hd => ?_))
        obtain ⟨q', _, rfl⟩ := List.mem_map.mp hd
        unfold standD
        simp [hasList, hasListAll]
      have hd8 := hd7.mono (Sm.of (a := p) s8)
      refine ⟨_, rfl, (by show 4 ≤ sizeLine; decide), fun l9 nl9 => ?_⟩
      refine pick_new hp8 nl9 (.cons (.int 1) (.cons (.int 2) (.cons (.int 5) (.cons (.int 30) .nil)))) (by simp) (by show 4 < 1073741824; decide) fun H9 x9 d9 sm9 hp9 hd9 hq9 => ?_
      obtain ⟨m, rfl, hm⟩ : ∃ m : Nat, x9 = .int (m : Int) ∧ m ≤ 100 := by
        simp only [List.mem_cons, List.not_mem_nil, or_false] at hd9
        rcases hd9 with rfl | rfl | rfl | rfl
        · exact ⟨1, hq9.intV, by decide⟩
        · exact ⟨2, hq9.intV, by decide⟩
        · exact ⟨5, hq9.intV, by decide⟩
        · exact ⟨30, hq9.intV, by decide⟩
      refine ⟨_, _, rfl, ?_⟩
      have hd10 := (hd8.mono sm9).mono sans_same
      have hdu9 := hdue.mono sm9
      have eqR : ∀ n : Nat, Eqb 2 (.list ((runD z ss n (f, tw, 0)).map standD)) := fun n => .lst (n := 1) fun d hd => by
        obtain ⟨q', hq', rfl⟩ := List.mem_map.mp hd
        exact (runD_stood ok n 2000 _ st0 q' hq').eqb zc
      have eL9 := sm9.at_ nLp eL
      have hus9 := (hdu9.mono (sans_same (a := p)))
      -- stands
      refine ⟨_, rfl, _, rfl, ?_⟩
      dsimp only [tNil, List.cons_append, List.nil_append]
      refine stands_k (n := 100) (by decide) hd10 lE hE ti tl fun H10 r10 s10 n10 hr10 => ?_
      obtain ⟨us10, e10, hu10⟩ := hr10
      refine ⟨_, rfl, neDq (.lst (SqL.of e10) hu10) (hus9.mono s10) (eqR 100) (eqR 100) (by decide) (by decide) ⟨_, rfl, ?_⟩⟩
      refine if_false (eqv_same (eqR 100)) ?_
      refine ⟨_, rfl, _, rfl, _, rfl, rfl, rfl, ?_⟩
      dsimp only [tNil, List.cons_append, List.nil_append]
      refine stands_k (n := m) (by omega) (hd10.mono s10) lE hE ti tl fun H11 r11 s11 n11 hr11 => ?_
      obtain ⟨us11, e11, hu11⟩ := hr11
      have s911 := Same.trans s10 s11
      have ltk : (runD z ss 100 (f, tw, 0)).take m = runD z ss m (f, tw, 0) := by
        rw [runD_take, Nat.min_eq_left hm]
      obtain ⟨L', xs', eL', hqL, hqA⟩ : ∃ L' xs', V.ref L = .ref L' ∧ SqL K H9 L' xs' ∧ DqAll K H9 xs' ((runD z ss 100 (f, tw, 0)).map standD) := by
        cases hus9 with
        | lst h1 h2 => exact ⟨_, _, rfl, h1, h2⟩
      cases eL'
      refine ⟨_, rfl, _, rfl, (m : Int), rfl, L, xs', rfl, seqL s911 hqL, fun p12 np12 => ?_⟩
      rw [cutV_to]
      have s12 := same_new (o := .lst (xs'.take m)) np12
      have h12 : Dq K (upd H11 p12 (.lst (xs'.take m))) (.ref p12) (.list ((runD z ss m (f, tw, 0)).map standD)) := by
        refine .lst (SqL.of upd_same) ?_
        rw [← ltk, List.map_take]
        exact ((hqA.take m).mono s911).mono s12
      have h11 : Dq K (upd H11 p12 (.lst (xs'.take m))) (.ref r11) (.list ((runD z ss m (f, tw, 0)).map standD)) := (Dq.lst (SqL.of e11) hu11).mono s12
      refine neDq h11 h12 (eqR m) (eqR m) (by decide) (by decide) ⟨_, rfl, ?_⟩
      refine if_false (eqv_same (eqR m)) ?_
      revert s12
      generalize upd H11 p12 (.lst (xs'.take m)) = H12
      intro s12
      have s912 := Same.trans s911 s12
      clear h11 h12 e11 hu11 e10 hu10
      -- clear
      refine ⟨_, rfl, _, rfl, ?_⟩
      dsimp only [tNil, List.cons_append, List.nil_append]
      refine stands_k (n := 100) (by decide) (hd10.mono s912) lE hE ti tl fun H13 r13 s13 n13 hr13 => ?_
      obtain ⟨us13, e13, hu13⟩ := hr13
      refine ⟨.inl ⟨rfl, _, SqL.of e13⟩, r13, _, rfl, rfl, e13, ?_⟩
      have s14 : Same H12 (upd H13 r13 (.lst [])) := fun b o eb => (upd_ne (ne_of_none eb n13)).trans (s13 _ _ eb)
      revert s14
      generalize upd H13 r13 (.lst []) = H14
      intro s14
      have s914 := Same.trans s912 s14
      have hd14 := hd10.mono s914
      have hu14 := hus9.mono s914
      have hp14 := hp9.same s914
      have ht14 := seqT s914 (seqT sans_same (seqT ((Sm.of s8).trans sm9) ht7))
      clear hd10 hus9 hd7 hp7 hp8 hd8 hdue hd9 hp9 hus e13 hu13
      -- far
      refine ⟨fun σ H' => ∃ fv : V, σ = [some (.ref a), some (.ref p), some (.int (0 + ((i : Nat) : Int))), some (.ref e), some (.str tw), some fv, t6, t7, t8, t9, some (.str z), some (.int ((ss.length : Nat) : Int)), some (.ref L), some (.int (m : Int)), t14, t15, t16, none] ∧ Same H14 H' ∧ (i = 0 → Dq K H' fv (.list ((runD z ss 1000 (f, tw, 0)).map standD))), ?_, ?_⟩
      · refine ⟨_, rfl, rfl, _, rfl, ite2 (fun c0 => ?_) (fun c0 => ?_)⟩
        · refine ⟨_, rfl, _, rfl, .ref e, z, f, tw, ss, 1000, rfl, hd14, ok, ⟨hfi, hfl⟩, ⟨ti, tl⟩, by decide, by decide, fun H15 r15 s15 n15 hr15 => ?_⟩
          obtain ⟨us15, e15, hu15⟩ := hr15
          exact ⟨_, rfl, s15, fun _ => .lst (SqL.of e15) hu15⟩
        · refine ⟨_, rfl, _, rfl, Same.refl _, fun ei => ?_⟩
          subst ei
          exact absurd rfl c0
      rintro σ H15 ⟨fv, rfl, s15, hfar⟩
      have hd15 := hd14.mono s15
      have hu15 := hu14.mono s15
      have ht15 := seqT s15 ht14
      have hp15 := hp14.same s15
      refine ⟨fun σ H' => σ = [some (.ref a), some (.ref p), some (.int (0 + ((i : Nat) : Int))), some (.ref e), some (.str tw), some fv, t6, t7, t8, t9, some (.str z), some (.int ((ss.length : Nat) : Int)), some (.ref L), some (.int (m : Int)), t14, t15, t16, none] ∧ Same H15 H', ?_, ?_⟩
      · refine ⟨_, rfl, rfl, _, rfl, ?_⟩
        by_cases hi0 : i = 0
        · subst hi0
          refine if_true rfl ?_
          refine ⟨_, rfl, _, rfl, rfl, rfl, ?_⟩
          dsimp only [tNil, List.cons_append, List.nil_append]
          refine stands_k (n := 1000) (by decide) hd15 lE hE ti tl fun H16 r16 s16 n16 hr16 => ?_
          obtain ⟨us16, e16, hu16⟩ := hr16
          refine ⟨_, rfl, neDq (.lst (SqL.of e16) hu16) ((hfar rfl).mono s16) (eqR 1000) (eqR 1000) (by decide) (by decide) ⟨_, rfl, ?_⟩⟩
          refine if_false (eqv_same (eqR 1000)) ?_
          refine ⟨_, rfl, _, rfl, rfl, rfl, ?_⟩
          dsimp only [tNil, List.cons_append, List.nil_append]
          refine stands_k (n := 101) (by decide) (hd15.mono s16) lE hE ti tl fun H17 r17 s17 n17 hr17 => ?_
          obtain ⟨us17, e17, hu17⟩ := hr17
          refine ⟨(100 : Nat), rfl, r17, us17, rfl, SqL.of e17, fun p18 np18 => ?_⟩
          rw [cutV_to]
          have s18 := same_new (o := .lst (us17.take 100)) np18
          have h18 : Dq K (upd H17 p18 (.lst (us17.take 100))) (.ref p18) (.list ((runD z ss 100 (f, tw, 0)).map standD)) := by
            refine .lst (SqL.of upd_same) ?_
            have e := runD_take z ss 101 100 (f, tw, 0)
            rw [show min 100 101 = 100 from rfl] at e
            rw [← e, List.map_take]
            exact (hu17.take 100).mono s18
          refine ⟨_, rfl, neDq h18 (((hu15.mono s16).mono s17).mono s18) (eqR 100) (eqR 100) (by decide) (by decide) ⟨_, rfl, ?_⟩⟩
          refine if_false (eqv_same (eqR 100)) ?_
          exact ⟨rfl, Same.trans s16 (Same.trans s17 s18)⟩
        · refine if_false (decide_eq_false fun h => hi0 (by injection h with h; omega)) ?_
          refine if_false rfl ?_
          refine ⟨_, rfl, _, rfl, rfl, rfl, ?_⟩
          dsimp only [tNil, List.cons_append, List.nil_append]
          refine stands_k (n := 101) (by decide) hd15 lE hE ti tl fun H17 r17 s17 n17 hr17 => ?_
          obtain ⟨us17, e17, hu17⟩ := hr17
          refine ⟨(100 : Nat), rfl, r17, us17, rfl, SqL.of e17, fun p18 np18 => ?_⟩
          rw [cutV_to]
          have s18 := same_new (o := .lst (us17.take 100)) np18
          have h18 : Dq K (upd H17 p18 (.lst (us17.take 100))) (.ref p18) (.list ((runD z ss 100 (f, tw, 0)).map standD)) := by
            refine .lst (SqL.of upd_same) ?_
            have e := runD_take z ss 101 100 (f, tw, 0)
            rw [show min 100 101 = 100 from rfl] at e
            rw [← e, List.map_take]
            exact (hu17.take 100).mono s18
          refine ⟨_, rfl, neDq h18 ((hu15.mono s17).mono s18) (eqR 100) (eqR 100) (by decide) (by decide) ⟨_, rfl, ?_⟩⟩
          refine if_false (eqv_same (eqR 100)) ?_
          exact ⟨rfl, Same.trans s17 s18⟩
      rintro σ H18 ⟨rfl, s18⟩
      have hd18 : Dq K (sans H18 p) (.ref e) (.tuple [.str z, .str f, .tuple ss]) := by
        obtain ⟨_, _, _, eP⟩ := (hp15.same s18).at_
        exact (hd15.mono s18).out eP hD.flat
      have hp18 := hp15.same s18
      have hl18 : Dq K (sans H18 p) (.ref L) (.list ((runD z ss 100 (f, tw, 0)).map standD)) := by
        obtain ⟨_, _, _, eP⟩ := hp18.at_
        exact list_out eP nLp (hu15.mono s18) fun d hd => by
          obtain ⟨q', _, rfl⟩ := List.mem_map.mp hd
          exact standD_flat q'
      clear hd15 hd14 hp15 hp14 hu14 ht14 hfar hu15 hdu9 hqA hqL eL9 ht15 ht7 eL
      -- drawn
      refine ⟨_, rfl, _, rfl, p, c, z, 4, rfl, hp18, by omega, by omega, by decide, by decide, fun H19 w19 sm19 hp19 hwl19 hwc19 => ?_⟩
      refine ⟨_, rfl, _, rfl, p, c, z, 4, rfl, hp19, by omega, by omega, by decide, by decide, fun H20 w20 sm20 hp20 hwl20 hwc20 => ?_⟩
      have dl : (tx w19).length ≤ 4 := by
        rw [tx_len]
        omega
      have di : allIn z (tx w19) = true := allIn_of fun c hc => hwc19 c (by rw [tx_codes] at hc; exact hc)
      have fl : (tx w20).length ≤ 4 := by
        rw [tx_len]
        omega
      have fi : allIn z (tx w20) = true := allIn_of fun c hc => hwc20 c (by rw [tx_codes] at hc; exact hc)
      generalize tx w19 = dn at dl di ⊢
      generalize tx w20 = fr at fl fi ⊢
      refine ⟨_, rfl, _, rfl, p, c, _, rfl, hp20, by omega, by omega, fun H21 sk sm21 hp21 sk0 sk1 => ?_⟩
      obtain ⟨st, rfl⟩ := Int.eq_ofNat_of_zero_le sk0
      have hst : st < ss.length := by omega
      refine ⟨(by show 3 ≤ sizeLine; decide), fun D22 nD22 => ?_⟩
      obtain ⟨H22, e22, s22, h22, hp22⟩ := tupK hp21 nD22 (.cons (.str dn) (.cons (.str fr) (.cons (.int (st : Int)) .nil)))
      have hD22 : H22 D22 = some (.tup [.str dn, .str fr, .int (st : Int)]) := by
        rw [e22]
        exact upd_same
      rw [← e22]
      have sm1822 : Sm p H18 H22 := ((sm19.trans sm20).trans sm21).trans (Sm.of s22)
      have hd22 := hd18.mono sm1822
      have hl22 := hl18.mono sm1822
      obtain ⟨L', xsL, eL', hqL, hqA⟩ := hl22.listV
      cases eL'
      have stD : Stood z ss.length 2000 (dn, fr, st) := ⟨Nat.le_trans dl (by decide), di, Nat.le_trans fl (by decide), fi, hst⟩
      have h22 : Dq K (sans H22 p) (.ref D22) (standD (dn, fr, st)) := h22
      clear sm19 sm20 sm21 hp19 hp20 hp21 hd18 hl18 hp18 e22
      have lenL : 1 ≤ xsL.length := by
        rw [hqA.length, List.length_map]
        exact runD_pos z ss 99 _
      have lenL2 : xsL.length ≤ 100 := by
        rw [hqA.length, List.length_map]
        exact runD_len z ss 100 _
      have hqL2 := seqL (K := K) sans_same hqL
      have hln : (((xsL.length : Nat) : Int) - 1) = ((xsL.length - 1 : Nat) : Int) := by omega
      -- the stands of it
      refine ⟨_, rfl, (12 : Nat), rfl, L, xsL, rfl, hqL2, fun p23 np23 => ?_⟩
      rw [cutV_to]
      obtain ⟨H23, e23, s23, h23, hp23, el23⟩ := lstK hp22 np23 (hqA.take 12)
      rw [← e23]
      refine ⟨_, rfl, _, rfl, L, xsL, rfl, .inl (seqL s23 hqL2), _, _, rfl, rfl, ((xsL.length - 1 : Nat) : Int), congrArg V.int hln, L, xsL, rfl, seqL s23 hqL2, fun p24 np24 => ?_⟩
      rw [cutV_from]
      obtain ⟨H24, e24, s24, h24, hp24, el24⟩ := lstK hp23 np24 ((hqA.drop (xsL.length - 1)).mono (Sm.of s23))
      rw [← e24]
      refine ⟨p23, p24, _, _, rfl, rfl, s24 _ _ el23, el24, ?_, fun p25 np25 => ?_⟩
      · rw [List.length_take, List.length_drop]
        exact Nat.le_trans (show _ ≤ 1000 by omega) (by decide)
      have hA25 := ((hqA.take 12).append (hqA.drop (xsL.length - 1))).mono (Sm.of (a := p) (Same.trans s23 s24))
      obtain ⟨H25, e25, s25, h25, hp25, el25⟩ := lstK hp24 np25 hA25
      rw [← e25]
      refine ⟨_, rfl, (by show 1 ≤ sizeLine; decide), fun p26 np26 => ?_⟩
      obtain ⟨H26, e26, s26, h26, hp26, el26⟩ := lstK hp25 np26 (.cons (h22.mono (Sm.of (Same.trans s23 (Same.trans s24 s25)))) .nil)
      rw [← e26]
      refine ⟨p25, p26, _, _, rfl, rfl, s26 _ _ el25, el26, ?_, fun p27 np27 => ?_⟩
      · rw [List.length_append, List.length_take, List.length_drop]
        exact Nat.le_trans (show _ ≤ 1000 by simp only [List.length_cons, List.length_nil]; omega) (by decide)
      have hA27 := (hA25.mono (Sm.of (Same.trans s25 s26))).append (.cons (h22.mono (Sm.of (Same.trans s23 (Same.trans s24 (Same.trans s25 s26))))) .nil)
      obtain ⟨H27, e27, s27, h27, hp27, el27⟩ := lstK hp26 np27 hA27
      rw [← e27]
      have hd27 := (hd22.mono (Sm.of (a := p) (Same.trans s23 (Same.trans s24 (Same.trans s25 (Same.trans s26 s27))))))
      have hD27 := (Same.trans s23 (Same.trans s24 (Same.trans s25 (Same.trans s26 s27)))) _ _ hD22
      have hA27 := (hA27.mono (Sm.of (a := p) s27)).mono sans_same
      refine ⟨p27, rfl, ⟨_, SqL.of el27⟩, ?_⟩
      refine for_list (K := K) (a := p27) (fun j σ H' => ∃ t7 : Option V, σ = [some (.ref a), some (.ref p), some (.int (0 + ((i : Nat) : Int))), some (.ref e), some (.str tw), some fv, some (.ref D22), t7, t8, t9, some (.str z), some (.int ((ss.length : Nat) : Int)), some (.ref L), some (.int (m : Int)), t14, t15, t16, none] ∧ Same H27 H')
        ⟨_, rfl, Same.refl _⟩ (fun _ _ _ _ ⟨_, _, h⟩ => seqL h (SqL.of el27)) ?_ ?_
      · rintro j x σ H28 hj ⟨t7, rfl, s28⟩
        obtain ⟨dx, hdx, hx⟩ := hA27.get hj
        have hx := hx.mono s28
        obtain ⟨q, rfl, hq⟩ : ∃ q, dx = standD q ∧ Stood z ss.length 202000 q := by
          have h := List.mem_of_getElem? hdx
          rcases List.mem_append.mp h with h | h
          · have h : dx ∈ (runD z ss 100 (f, tw, 0)).map standD := by
              rcases List.mem_append.mp h with h | h
              · exact List.mem_of_mem_take h
              · exact List.mem_of_mem_drop h
            obtain ⟨q, hq, rfl⟩ := List.mem_map.mp h
            exact ⟨q, rfl, runD_stood ok 100 2000 _ st0 q hq⟩
          · exact ⟨_, List.mem_singleton.mp h, stD.mono (by decide)⟩
        obtain ⟨qa, qb, qs⟩ := q
        have hb : standB z ss.length (standD (qa, qb, qs)) = true := by
          show (allIn z qa && (allIn z qb && (decide (0 ≤ (qs : Int)) && decide ((qs : Int) < (ss.length : Nat))))) = true
          have h1 := hq.doneIn
          have h2 := hq.frontIn
          have h3 := hq.state
          rw [show allIn z qa = true from h1, show allIn z qb = true from h2, decide_eq_true (show (0 : Int) ≤ (qs : Int) by omega), decide_eq_true (show (qs : Int) < (ss.length : Nat) from Int.ofNat_lt.mpr h3)]
          rfl
        have qq := hq.q (k := true) zc l4 (by decide)
        have ea := after_eqb ok hq
        refine ⟨_, rfl, _, rfl, .ref e, x, z, f, ss, _, rfl, (hd27.mono sans_same).mono s28, hE, lE, hx, qq.light (by decide), (qq.shows (by decide) (by decide)).ok, fun HA r sA hr => ?_⟩
        rw [toldD_yes hb] at hr
        refine ⟨_, rfl, _, rfl, .ref e, x, z, f, qa, qb, qs, ss, rfl, ((hd27.mono sans_same).mono s28).mono sA, hx.mono sA, ok, hq.state, hq.frontIn, Nat.le_trans hq.done (by decide), Nat.le_trans hq.front (by decide), fun HB r2 sB hr2 => ?_⟩
        refine neDq (hr.mono sB) hr2 ea ea (by decide) (by decide) ⟨_, rfl, ?_⟩
        refine if_false (eqv_same ea) ?_
        exact ⟨_, rfl, Same.trans s28 (Same.trans sA sB)⟩
      rintro σ H28 ⟨t7, rfl, s28⟩
      have hp28 := hp27.same s28
      have hD28 := s28 _ _ hD27
      have hd28 := hd27.mono (Sm.of (a := p) s28)
      clear hA27 hA25 h23 h24 h25 h26 h27 el23 el24 el25 el26 el27 hp23 hp24 hp25 hp26 hd27 hD27 e23 e24 e25 e26 e27
      refine ⟨_, rfl, D22, _, rfl, SqT.of hD28, rfl, _, _, rfl, _, _, rfl, _, _, rfl, rfl, ?_⟩
      -- odd
      refine ⟨_, rfl, _, rfl, (by show 1 ≤ sizeLine; decide), fun p29 np29 => ?_⟩
      obtain ⟨H29, e29, s29, h29, hp29⟩ := tupK hp28 np29 (.cons (.str fr) .nil)
      rw [← e29]
      refine ⟨_, rfl, (by show 1 ≤ sizeLine; decide), fun p30 np30 => ?_⟩
      obtain ⟨H30, e30, s30, h30, hp30, _⟩ := lstK hp29 np30 (.cons (.str fr) .nil)
      rw [← e30]
      refine ⟨(by show 7 ≤ sizeLine; decide), fun p31 np31 => ?_⟩
      refine pick_new hp30 np31 (.cons .non (.cons (.int 0) (.cons (.str "A") (.cons (h29.mono (Sm.of s30)) (.cons h30 (.cons (.bl true) (.cons (.str "y") .nil))))))) (by simp) (by show 7 < 1073741824; decide) fun H32 od dd sm32 hp32 hdd hqd => ?_
      have sm2832 := (Sm.of (a := p) (Same.trans s29 s30)).trans sm32
      have hd32 := hd28.mono sm2832
      obtain ⟨c0, hc0⟩ : ∃ c0, z.cps.toList[0]? = some c0 := by
        have e : z.cps.toList.length = z.length := by simp [Str.length]
        exact ⟨_, List.getElem?_eq_getElem (by omega)⟩
      have hc0m : c0 ∈ z.cps.toList := List.mem_of_getElem? hc0
      -- far
      refine ⟨_, rfl, z, _, c0, rfl, rfl, hzl, atI_nat (j := 0) hc0, ?_⟩
      refine ⟨_, rfl, (by show 2 ≤ sizeLine; decide), fun p33 np33 => ?_⟩
      refine pick_new hp32 np33 (.cons (.int 2001) (.cons (.int 3000) .nil)) (by simp) (by show 2 < 1073741824; decide) fun H34 x34 d34 sm34 hp34 hd34' hq34 => ?_
      obtain ⟨nf, rfl, hnf⟩ : ∃ n : Nat, x34 = .int (n : Int) ∧ n ≤ 3000 := by
        simp only [List.mem_cons, List.not_mem_nil, or_false] at hd34'
        rcases hd34' with rfl | rfl
        · exact ⟨2001, hq34.intV, by decide⟩
        · exact ⟨3000, hq34.intV, by decide⟩
      have one : (⟨#[c0]⟩ : Str).length = 1 := rfl
      refine ⟨_, nf, rfl, rfl, by rw [one]; omega, by omega, ?_⟩
      have farl : (repS (⟨#[c0]⟩ : Str) nf).length ≤ 3000 := by
        rw [repS_len, one]
        omega
      have fari : allIn z (repS (⟨#[c0]⟩ : Str) nf) = true := allIn_of fun c hc => by
        have h := rep_mem hc
        have e : (⟨#[c0]⟩ : Str).cps.toList = [c0] := rfl
        rw [e] at h
        rw [List.mem_singleton.mp h]
        exact hc0m
      generalize repS (⟨#[c0]⟩ : Str) nf = fw at farl fari ⊢
      have hd34 := (hd32.mono sm34).mono sans_same
      have hD34 : H34 D22 = some (.tup [.str dn, .str fr, .int (st : Int)]) := by
        have n22 := hp28.at_
        obtain ⟨_, _, _, eP⟩ := n22
        have ne : D22 ≠ p := fun e => by
          rw [e, eP] at hD28
          cases hD28
        exact (sm2832.trans sm34).at_ ne hD28
      have hqd34 := (hqd.mono sm34)
      have frl : fr.length ≤ sizeLine := Nat.le_trans fl (by decide)
      have fwl : fw.length ≤ sizeLine := Nat.le_trans farl (by decide)
      refine ⟨_, rfl, _, rfl, _, rfl, (by show 3 ≤ sizeLine; decide), fun p35 np35 => ?_⟩
      have s35 := same_new (o := .tup [.str fw, .str fr, .int (st : Int)]) np35
      have h35 : Dq K (upd H34 p35 (.tup [.str fw, .str fr, .int (st : Int)])) (.ref p35) (standD (fw, fr, st)) := .tup (SqT.of upd_same) (.cons (.str _) (.cons (.str _) (.cons (.int _) .nil)))
      revert s35 h35
      generalize upd H34 p35 (.tup [.str fw, .str fr, .int (st : Int)]) = H35
      intro s35 h35
      have cutl : (cutS fr none (some ((1 : Nat) : Int))).length ≤ 4 := Nat.le_trans (cutS_length _ _ _) fl
      have cuti : allIn z (cutS fr none (some ((1 : Nat) : Int))) = true := allIn_of fun c hc => by
        rw [cutS_all, tx_codes] at hc
        exact allIn_mem fi c (List.mem_of_mem_take hc)
      refine ⟨_, rfl, _, rfl, ((1 : Nat) : Int), rfl, fr, rfl, frl, _, rfl, cutS fr none (some ((1 : Nat) : Int)), fw, rfl, rfl, Nat.le_trans (Nat.add_le_add cutl farl) (by decide), _, rfl, (by show 3 ≤ sizeLine; decide), fun p36 np36 => ?_⟩
      generalize cutS fr none (some ((1 : Nat) : Int)) = cw at cutl cuti ⊢
      have s36 := same_new (o := .tup [.str dn, .str (cw ++ fw), .int (st : Int)]) np36
      have h36 : Dq K (upd H35 p36 (.tup [.str dn, .str (cw ++ fw), .int (st : Int)])) (.ref p36) (standD (dn, cw ++ fw, st)) := .tup (SqT.of upd_same) (.cons (.str _) (.cons (.str _) (.cons (.int _) .nil)))
      revert s36 h36
      generalize upd H35 p36 (.tup [.str dn, .str (cw ++ fw), .int (st : Int)]) = H36
      intro s36 h36
      refine ⟨_, rfl, _, rfl, z, _, c0, rfl, rfl, hzl, atI_nat (j := 0) hc0, _, rfl, (by show 3 ≤ sizeLine; decide), fun p37 np37 => ?_⟩
      have s37 := same_new (o := .tup [.str fw, .str (tx [c0]), .int (st : Int)]) np37
      have h37 : Dq K (upd H36 p37 (.tup [.str fw, .str (tx [c0]), .int (st : Int)])) (.ref p37) (standD (fw, tx [c0], st)) := .tup (SqT.of upd_same) (.cons (.str _) (.cons (.str _) (.cons (.int _) .nil)))
      revert s37 h37
      generalize upd H36 p37 (.tup [.str fw, .str (tx [c0]), .int (st : Int)]) = H37
      intro s37 h37
      refine ⟨(by show 3 ≤ sizeLine; decide), fun p38 np38 => ?_⟩
      have hA38 : DqAll K H37 [.ref p35, .ref p36, .ref p37] [standD (fw, fr, st), standD (dn, cw ++ fw, st), standD (fw, tx [c0], st)] := .cons (h35.mono (Same.trans s36 s37)) (.cons (h36.mono s37) (.cons h37 .nil))
      have s38' := same_new (o := .tup [.ref p35, .ref p36, .ref p37]) np38
      have e38 : upd H37 p38 (.tup [.ref p35, .ref p36, .ref p37]) p38 = some (.tup [.ref p35, .ref p36, .ref p37]) := upd_same
      revert s38' e38
      generalize upd H37 p38 (.tup [.ref p35, .ref p36, .ref p37]) = H38
      intro s38' e38
      have hA38 := hA38.mono s38'
      have s38 := Same.trans s35 (Same.trans s36 (Same.trans s37 s38'))
      have hp38 := hp34.same s38
      refine ⟨p38, rfl, ⟨_, SqT.of e38⟩, ?_⟩
      refine for_tup (K := K) (a := p38) (fun j σ H' => ∃ t7 : Option V, σ = [some (.ref a), some (.ref p), some (.int (0 + ((i : Nat) : Int))), some (.ref e), some (.str tw), some (.str fw), some (.ref D22), t7, some od, t9, some (.str z), some (.int ((ss.length : Nat) : Int)), some (.ref L), some (.int (m : Int)), some (.str dn), some (.str fr), some (.int (st : Int)), none] ∧ Same H38 H')
        ⟨_, rfl, Same.refl _⟩ (fun _ _ _ _ ⟨_, _, h⟩ => seqT h (SqT.of e38)) ?_ ?_
      · rintro j x σ H39 hj ⟨t7, rfl, s39⟩
        obtain ⟨dx, hdx, hx⟩ := hA38.get hj
        have hx := hx.mono s39
        obtain ⟨q, rfl, hq⟩ : ∃ q, dx = standD q ∧ Stood z ss.length 202000 q := by
          have h := List.mem_of_getElem? hdx
          simp only [List.mem_cons, List.not_mem_nil, or_false] at h
          rcases h with rfl | rfl | rfl
          · exact ⟨_, rfl, Nat.le_trans farl (by decide), fari, Nat.le_trans fl (by decide), fi, hst⟩
          · refine ⟨_, rfl, Nat.le_trans dl (by decide), di, ?_, allIn_cat cuti fari, hst⟩
            show (cw ++ fw).length ≤ 202000
            rw [cat_len]
            exact Nat.le_trans (Nat.add_le_add cutl farl) (by decide)
          · refine ⟨_, rfl, Nat.le_trans farl (by decide), fari, by show 1 ≤ 202000; decide, allIn_of fun c hc => ?_, hst⟩
            have hc : c ∈ (tx [c0]).cps.toList := hc
            rw [tx_codes] at hc
            rw [List.mem_singleton.mp hc]
            exact hc0m
        obtain ⟨qa, qb, qs⟩ := q
        have hb : standB z ss.length (standD (qa, qb, qs)) = true := by
          show (allIn z qa && (allIn z qb && (decide (0 ≤ (qs : Int)) && decide ((qs : Int) < (ss.length : Nat))))) = true
          have h1 := hq.doneIn
          have h2 := hq.frontIn
          have h3 := hq.state
          rw [show allIn z qa = true from h1, show allIn z qb = true from h2, decide_eq_true (show (0 : Int) ≤ (qs : Int) by omega), decide_eq_true (show (qs : Int) < (ss.length : Nat) from Int.ofNat_lt.mpr h3)]
          rfl
        have qq := hq.q (k := true) zc l4 (by decide)
        have ea := after_eqb ok hq
        refine ⟨_, rfl, _, rfl, .ref e, x, z, f, ss, _, rfl, (hd34.mono s38).mono s39, hE, lE, hx, qq.light (by decide), (qq.shows (by decide) (by decide)).ok, fun HA r sA hr => ?_⟩
        rw [toldD_yes hb] at hr
        refine ⟨_, rfl, _, rfl, .ref e, x, z, f, qa, qb, qs, ss, rfl, ((hd34.mono s38).mono s39).mono sA, hx.mono sA, ok, hq.state, hq.frontIn, Nat.le_trans hq.done (by decide), Nat.le_trans hq.front (by decide), fun HB r2 sB hr2 => ?_⟩
        refine neDq (hr.mono sB) hr2 ea ea (by decide) (by decide) ⟨_, rfl, ?_⟩
        refine if_false (eqv_same ea) ?_
        exact ⟨_, rfl, Same.trans s39 (Same.trans sA sB)⟩
      rintro σ H39 ⟨t7, rfl, s39⟩
      have hp39 := hp38.same s39
      have s3439 := Same.trans s38 s39
      have hd39 := hd34.mono s3439
      have hD39 := s3439 _ _ hD34
      have hqd39 := hqd34.mono (Sm.of (a := p) s3439)
      have neD : D22 ≠ p := fun e => by
        obtain ⟨_, _, _, eP⟩ := hp39.at_
        rw [e, eP] at hD39
        cases hD39
      have hW39 : Dq K (sans H39 p) (.ref D22) (.tuple [.str dn, .str fr, .int (st : Int)]) := .tup (SqT.of (sans_of neD hD39)) (.cons (.str _) (.cons (.str _) (.cons (.int _) .nil)))
      clear hA38 h35 h36 h37 e38 hd32 hd28 hD28 hp34 hp38 h29 h30 hp29 hp30 hp28 hqd hqd34
      have no65 : 65 ∉ z.cps.toList := fun h => absurd (letter_lt hz.1 65 h) (by decide)
      have no121 := hz.2
      have add1 : ∀ a b : Str, a.length ≤ 1000 → b.length ≤ 1000 → a.length + b.length ≤ sizeLine := fun a b h1 h2 => Nat.le_trans (Nat.add_le_add h1 h2) (by decide)
      -- what is no stand
      refine ⟨_, rfl, _, rfl, fr, "A", rfl, rfl, add1 _ _ (by omega) (by decide), _, rfl, (by show 3 ≤ sizeLine; decide), fun p40 np40 => ?_⟩
      obtain ⟨H40, e40, s40, h40, hp40⟩ := tupK hp39 np40 (.cons (.str dn) (.cons (.str (fr ++ "A")) (.cons (.int (st : Int)) .nil)))
      rw [← e40]
      refine ⟨_, rfl, _, rfl, "A", fr, rfl, rfl, add1 _ _ (by decide) (by omega), _, rfl, (by show 3 ≤ sizeLine; decide), fun p41 np41 => ?_⟩
      obtain ⟨H41, e41, s41, h41, hp41⟩ := tupK hp40 np41 (.cons (.str dn) (.cons (.str ("A" ++ fr)) (.cons (.int (st : Int)) .nil)))
      rw [← e41]
      refine ⟨_, rfl, dn, "y", rfl, rfl, add1 _ _ (by omega) (by decide), _, rfl, _, rfl, (by show 3 ≤ sizeLine; decide), fun p42 np42 => ?_⟩
      obtain ⟨H42, e42, s42, h42, hp42⟩ := tupK hp41 np42 (.cons (.str (dn ++ "y")) (.cons (.str fr) (.cons (.int (st : Int)) .nil)))
      rw [← e42]
      refine ⟨(by show 0 ≤ sizeLine; decide), fun p43 np43 => ?_⟩
      obtain ⟨H43, e43, s43, h43, hp43⟩ := tupK hp42 np43 .nil
      rw [← e43]
      refine ⟨(by show 5 ≤ sizeLine; decide), fun p44 np44 => ?_⟩
      have hA44 := DqAll.cons (h40.mono (Sm.of (Same.trans s41 (Same.trans s42 s43)))) (DqAll.cons (h41.mono (Sm.of (Same.trans s42 s43))) (DqAll.cons (h42.mono (Sm.of s43)) (DqAll.cons .non (DqAll.cons h43 .nil))))
      obtain ⟨H44, e44, s44, h44, hp44, el44⟩ := lstK hp43 np44 hA44
      rw [← e44]
      have hA44 := hA44.mono (Sm.of (a := p) s44)
      have s3944 := Same.trans s40 (Same.trans s41 (Same.trans s42 (Same.trans s43 s44)))
      have hW44 := hW39.mono (Sm.of (a := p) s3944)
      have hqd44 := hqd39.mono (Sm.of (a := p) s3944)
      refine ⟨_, rfl, _, rfl, D22, _, rfl, .inr (SqT.of (s3944 _ _ hD39)), fun p45 np45 => ?_⟩
      obtain ⟨H45, e45, s45, h45, hp45, _⟩ := lstK hp44 np45 (.cons (.str dn) (.cons (.str fr) (.cons (.int (st : Int)) .nil)))
      rw [← e45]
      refine ⟨_, rfl, _, rfl, slToI 2 rfl hp45.at_ (hW44.mono (Sm.of s45)) fun H46 v46 s46 h46 => ?_⟩
      have hp46 := hp45.same s46
      refine ⟨_, rfl, (by show 1 ≤ sizeLine; decide), fun p47 np47 => ?_⟩
      obtain ⟨H47, e47, s47, h47, hp47⟩ := tupK hp46 np47 (.cons (.int 0) .nil)
      rw [← e47]
      refine catP hp47.at_ (hW44.mono (Sm.of (Same.trans s45 (Same.trans s46 s47)))) h47 (by show 3 + 1 ≤ 100000; decide) fun H48 v48 s48 h48 => ?_
      have hp48 := hp47.same s48
      have s4448 := Same.trans s45 (Same.trans s46 (Same.trans s47 s48))
      refine ⟨_, rfl, _, rfl, _, rfl, (by show 3 ≤ sizeLine; decide), fun p49 np49 => ?_⟩
      obtain ⟨H49, e49, s49, h49, hp49⟩ := tupK hp48 np49 (.cons (hqd44.mono (Sm.of s4448)) (.cons (.str fr) (.cons (.int (st : Int)) .nil)))
      rw [← e49]
      refine ⟨_, rfl, _, rfl, _, rfl, (by show 3 ≤ sizeLine; decide), fun p50 np50 => ?_⟩
      obtain ⟨H50, e50, s50, h50, hp50⟩ := tupK hp49 np50 (.cons (.str dn) (.cons (hqd44.mono (Sm.of (Same.trans s4448 s49))) (.cons (.int (st : Int)) .nil)))
      rw [← e50]
      refine fun p51 np51 => ?_
      obtain ⟨H51, e51, s51, h51, hp51⟩ := empK hp50 np51
      rw [← e51]
      refine ⟨(by show 7 ≤ sizeLine; decide), fun p52 np52 => ?_⟩
      have s4851 := Same.trans s49 (Same.trans s50 s51)
      have hA52 := DqAll.cons (h45.mono (Sm.of (Same.trans s46 (Same.trans s47 (Same.trans s48 s4851))))) (DqAll.cons (h46.mono (Sm.of (Same.trans s47 (Same.trans s48 s4851)))) (DqAll.cons (h48.mono (Sm.of s4851)) (DqAll.cons (h49.mono (Sm.of (Same.trans s50 s51))) (DqAll.cons (h50.mono (Sm.of s51)) (DqAll.cons h51 (DqAll.cons (.str "ab0") .nil))))))
      obtain ⟨H52, e52, s52, h52, hp52, el52⟩ := lstK hp51 np52 hA52
      rw [← e52]
      have s4452 := Same.trans s4448 (Same.trans s4851 s52)
      refine ⟨p44, p52, _, _, rfl, rfl, s4452 _ _ el44, el52, (by show 5 + 7 ≤ sizeLine; decide), fun p53 np53 => ?_⟩
      have hA53 := (hA44.mono (Sm.of (a := p) s4452)).append (hA52.mono (Sm.of s52))
      obtain ⟨H53, e53, s53, h53, hp53, el53⟩ := lstK hp52 np53 hA53
      rw [← e53]
      have hA53 := hA53.mono (Sm.of (a := p) s53)
      have hd53 := hd39.mono (Same.trans s3944 (Same.trans s4452 s53))
      clear hA44 hA52 h40 h41 h42 h43 h44 h45 h46 h47 h48 h49 h50 h51 h52 e40 e41 e42 e43 e44 e45 e47 e49 e50 e51 e52 e53 hp40 hp41 hp42 hp43 hp44 hp45 hp46 hp47 hp48 hp49 hp50 hp51 hp52 el44 el52
      -- places
      refine ⟨_, rfl, _, rfl, _, _, rfl, rfl, (by show 5 ≤ sizeLine; decide), fun p54 np54 => ?_⟩
      have e54 : upd H53 p54 (.tup [.int ((ss.length : Nat) : Int), .bl true, .int (0 - 1), .non, .str "0"]) p54 = some (.tup [.int ((ss.length : Nat) : Int), .bl true, .int (0 - 1), .non, .str "0"]) := upd_same
      have s54 := same_new (o := .tup [.int ((ss.length : Nat) : Int), .bl true, .int (0 - 1), .non, .str "0"]) np54
      have hp54 := hp53.new (o := .tup [.int ((ss.length : Nat) : Int), .bl true, .int (0 - 1), .non, .str "0"]) np54
      revert e54 s54 hp54
      generalize upd H53 p54 (.tup [.int ((ss.length : Nat) : Int), .bl true, .int (0 - 1), .non, .str "0"]) = H54
      intro e54 s54 hp54
      have pl : ∀ H, DqAll K H [.int ((ss.length : Nat) : Int), .bl true, .int (0 - 1), .non, .str "0"] [.int ((ss.length : Nat) : Int), .bool true, .int (0 - 1), .none, .str "0"] := fun H => .cons (.int _) (.cons (.bl _) (.cons (.int _) (.cons .non (.cons (.str _) .nil))))
      let tp : PyData → PyData := fun d => .tuple [.str dn, .str fr, d]
      refine ⟨p54, rfl, ⟨_, SqT.of e54⟩, fun D nD => ?_⟩
      refine lc_tup (xs := [.int ((ss.length : Nat) : Int), .bl true, .int (0 - 1), .non, .str "0"]) (fun j H' => Same H54 H' ∧ ∃ vs, H' D = some (.lst vs) ∧ vs.length = j ∧ DqAll K (sans H' D) vs (([PyData.int ((ss.length : Nat) : Int), .bool true, .int (0 - 1), .none, .str "0"].take j).map tp)) ⟨same_new nD, [], upd_same, rfl, .nil⟩ (fun _ _ _ h => SqT.of (h.1 _ _ e54)) ?_ ?_
      · rintro j x H55 hx ⟨s55, vs, hD55, lv, hA55⟩
        obtain ⟨dx, _, hm, em, hqx⟩ := dqAll_get' (pl (sans H55 D)) hx
        have hj : j < 5 := (List.getElem?_eq_some_iff.mp hx).1
        refine ⟨rfl, _, rfl, _, rfl, _, rfl, (by show 3 ≤ sizeLine; decide), fun r nr => ?_⟩
        have s56 := same_new (o := .tup [.str dn, .str fr, x]) nr
        have e56 : upd H55 r (.tup [.str dn, .str fr, x]) r = some (.tup [.str dn, .str fr, x]) := upd_same
        have rD : r ≠ D := (ne_of_none hD55 nr).symm
        have hD56 := s56 _ _ hD55
        revert s56 e56 hD56
        generalize upd H55 r (.tup [.str dn, .str fr, x]) = H56
        intro s56 e56 hD56
        have sm : Sm D H56 (upd H56 D (.lst (vs ++ [.ref r]))) := Sm.pot
        have hq : Dq K (sans H56 D) (.ref r) (tp dx) := .tup (SqT.of (sans_of rD e56)) (.cons (.str _) (.cons (.str _) (.cons (hqx.mono (Sm.of s56)) .nil)))
        refine ⟨vs, hD56, ?_, fun b o eb => (upd_ne (ne_of_none eb nD)).trans (s56 _ _ (s55 b o eb)), vs ++ [.ref r], upd_same, ?_, ?_⟩
        · rw [lv]
          exact Nat.lt_of_lt_of_le (show j < 300 by omega) (by decide)
        · rw [List.length_append, lv]
          rfl
        · rw [em, List.map_append]
          exact ((hA55.mono (Sm.of s56)).mono sm).append (.cons (hq.mono sm) .nil)
      rintro H55 ⟨s55, vs, hD55, lv, hA55⟩
      have hA55 := hA55.mono sans_same
      have el55 := s55 _ _ (s54 _ _ el53)
      refine ⟨p53, D, _, _, rfl, rfl, el55, hD55, (by rw [lv]; show 12 + 5 ≤ sizeLine; decide), fun p56 np56 => ?_⟩
      have s56 := same_new (o := .lst ([.ref p40, .ref p41, .ref p42, .non, .ref p43] ++ [.ref p45, v46, v48, .ref p49, .ref p50, .ref p51, .str "ab0"] ++ vs)) np56
      have e56 : upd H55 p56 (.lst ([.ref p40, .ref p41, .ref p42, .non, .ref p43] ++ [.ref p45, v46, v48, .ref p49, .ref p50, .ref p51, .str "ab0"] ++ vs)) p56 = some (.lst ([.ref p40, .ref p41, .ref p42, .non, .ref p43] ++ [.ref p45, v46, v48, .ref p49, .ref p50, .ref p51, .str "ab0"] ++ vs)) := upd_same
      revert s56 e56
      generalize upd H55 p56 (.lst ([.ref p40, .ref p41, .ref p42, .non, .ref p43] ++ [.ref p45, v46, v48, .ref p49, .ref p50, .ref p51, .str "ab0"] ++ vs)) = H56
      intro s56 e56
      have hA56 := (((hA53.mono sans_same).mono (Same.trans s54 s55)).append hA55).mono s56
      have hp56 := (hp54.same s55).same s56
      have hd56 := hd53.mono (Same.trans s54 (Same.trans s55 s56))
      clear hA53 hA55 hp54 hp53 h53 el53 el55
      have ddb : isWord z dd = false ∧ Bad 2 1000 dd := by
        have fc : ∀ c ∈ fr.cps.toList, c < 1000 := fun c hc => zc c (allIn_mem fi c hc)
        simp only [List.mem_cons, List.not_mem_nil, or_false] at hdd
        rcases hdd with rfl | rfl | rfl | rfl | rfl | rfl | rfl
        · exact ⟨rfl, true, .none⟩
        · exact ⟨rfl, true, .int (by decide) (by decide) (by decide)⟩
        · exact ⟨allIn_not (c := 65) (by decide +kernel) no65, true, .str (by decide) (by decide +kernel)⟩
        · refine ⟨rfl, Bad.of (Qk.tup (k := true) (n := 0) (B := 4) (fun d hd => ?_) (Nat.le_refl _)) (by decide) (by show 1 * 5 ≤ 1000; decide)⟩
          rw [List.mem_singleton.mp hd]
          exact .str fl fc
        · refine ⟨rfl, Bad.of (Qk.lst (n := 0) (B := 4) (fun d hd => ?_) (Nat.le_refl _)) (by decide) (by show 1 * 5 ≤ 1000; decide)⟩
          rw [List.mem_singleton.mp hd]
          exact .str fl fc
        · exact ⟨rfl, true, .bool true⟩
        · exact ⟨allIn_not (c := 121) (by decide +kernel) no121, true, .str (by decide) (by decide +kernel)⟩
      refine ⟨p56, rfl, ⟨_, SqL.of e56⟩, ?_⟩
      refine for_list (K := K) (a := p56) (fun j σ H' => ∃ t7 : Option V, σ = [some (.ref a), some (.ref p), some (.int (0 + ((i : Nat) : Int))), some (.ref e), some (.str tw), some (.str fw), some (.ref D22), t7, some od, some (.ref p53), some (.str z), some (.int ((ss.length : Nat) : Int)), some (.ref L), some (.int (m : Int)), some (.str dn), some (.str fr), some (.int (st : Int)), none] ∧ Same H56 H')
        ⟨_, rfl, Same.refl _⟩ (fun _ _ _ _ ⟨_, _, h⟩ => seqL h (SqL.of e56)) ?_ ?_
      · rintro j x σ H57 hj ⟨t7, rfl, s57⟩
        obtain ⟨dx, hdx, hx⟩ := hA56.get hj
        have hx := hx.mono s57
        have sq : ∀ (k : Bool) (w : Str), w.length ≤ 4 → allIn z w = true → Qk k 3 1000 (.str w) := fun k w h1 h2 => .str (Nat.le_trans h1 (by decide)) fun c hc => zc c (allIn_mem h2 c hc)
        have sm : ∀ (k : Bool) (w : Str), w.length ≤ 5 → (∀ c ∈ w.cps.toList, c < 1000) → Qk k 3 1000 (.str w) := fun k w h1 h2 => .str (Nat.le_trans h1 (by decide)) h2
        have si : ∀ k : Bool, Qk k 3 1000 (.int (st : Int)) := fun k => .int (by omega) (by omega) (by decide)
        have cats : ∀ a b : Str, (∀ c ∈ a.cps.toList, c < 1000) → (∀ c ∈ b.cps.toList, c < 1000) → ∀ c ∈ (a ++ b).cps.toList, c < 1000 := fun a b h1 h2 c hc => by
          rw [cat_codes] at hc
          rcases List.mem_append.mp hc with h | h
          · exact h1 c h
          · exact h2 c h
        have fc : ∀ c ∈ fr.cps.toList, c < 1000 := fun c hc => zc c (allIn_mem fi c hc)
        have dc : ∀ c ∈ dn.cps.toList, c < 1000 := fun c hc => zc c (allIn_mem di c hc)
        have cA : ∀ c ∈ ("A" : Str).cps.toList, c < 1000 := by decide +kernel
        have cy : ∀ c ∈ ("y" : Str).cps.toList, c < 1000 := by decide +kernel
        have hb : standB z ss.length dx = false ∧ Bad 5 100000 dx := by
          have h := List.mem_of_getElem? hdx
          rcases List.mem_append.mp h with h | h
          · simp only [List.cons_append, List.nil_append, List.mem_cons, List.not_mem_nil, or_false] at h
            rcases h with rfl | rfl | rfl | rfl | rfl | rfl | rfl | rfl | rfl | rfl | rfl | rfl
            · refine ⟨?_, Bad.of (tup3 (k := true) (sq true dn dl di) (sm true (fr ++ "A") (by rw [cat_len]; exact Nat.add_le_add fl (show ("A" : Str).length ≤ 1 by decide)) (cats _ _ fc cA)) (si true) (Nat.le_refl _)) (by decide) (by decide)⟩
              show (allIn z dn && (allIn z (fr ++ "A") && _)) = false
              rw [allIn_not (w := fr ++ "A") (c := 65) (by rw [cat_codes]; exact List.mem_append_right _ (by decide +kernel)) no65, Bool.false_and, Bool.and_false]
            · refine ⟨?_, Bad.of (tup3 (k := true) (sq true dn dl di) (sm true ("A" ++ fr) (by rw [cat_len, Nat.add_comm]; exact Nat.add_le_add fl (show ("A" : Str).length ≤ 1 by decide)) (cats _ _ cA fc)) (si true) (Nat.le_refl _)) (by decide) (by decide)⟩
              show (allIn z dn && (allIn z ("A" ++ fr) && _)) = false
              rw [allIn_not (w := "A" ++ fr) (c := 65) (by rw [cat_codes]; exact List.mem_append_left _ (by decide +kernel)) no65, Bool.false_and, Bool.and_false]
            · refine ⟨?_, Bad.of (tup3 (k := true) (sm true (dn ++ "y") (by rw [cat_len]; exact Nat.add_le_add dl (show ("y" : Str).length ≤ 1 by decide)) (cats _ _ dc cy)) (sq true fr fl fi) (si true) (Nat.le_refl _)) (by decide) (by decide)⟩
              show (allIn z (dn ++ "y") && _) = false
              rw [allIn_not (w := dn ++ "y") (c := 121) (by rw [cat_codes]; exact List.mem_append_right _ (by decide +kernel)) no121, Bool.false_and]
            · exact ⟨rfl, true, .none⟩
            · exact ⟨rfl, true, tup0⟩
            · refine ⟨rfl, Bad.of (Qk.lst (n := 3) (B := 1000) (fun d hd => ?_) (Nat.le_refl _)) (by decide) (by show 3 * 1001 ≤ 100000; decide)⟩
              simp only [List.mem_cons, List.not_mem_nil, or_false] at hd
              rcases hd with rfl | rfl | rfl
              · exact sq true dn dl di
              · exact sq true fr fl fi
              · exact si true
            · exact ⟨rfl, Bad.of (tup2 (k := true) (sq true dn dl di) (sq true fr fl fi) (Nat.le_refl _)) (by decide) (by decide)⟩
            · refine ⟨rfl, Bad.of (Qk.tup (k := true) (n := 3) (B := 1000) (fun d hd => ?_) (Nat.le_refl _)) (by decide) (by show 4 * 1001 ≤ 100000; decide)⟩
              simp only [List.cons_append, List.nil_append, List.mem_cons, List.not_mem_nil, or_false] at hd
              rcases hd with rfl | rfl | rfl | rfl
              · exact sq true dn dl di
              · exact sq true fr fl fi
              · exact si true
              · exact .int (by decide) (by decide) (by decide)
            · obtain ⟨e1, k, hk⟩ := ddb
              refine ⟨?_, Bad.of (tup3 (k := k) (hk.mono (by decide) (Nat.le_refl _)) (sq k fr fl fi) (si k) (Nat.le_refl _)) (by decide) (by decide)⟩
              show (isWord z dd && _) = false
              rw [e1, Bool.false_and]
            · obtain ⟨e1, k, hk⟩ := ddb
              refine ⟨?_, Bad.of (tup3 (k := k) (sq k dn dl di) (hk.mono (by decide) (Nat.le_refl _)) (si k) (Nat.le_refl _)) (by decide) (by decide)⟩
              show (allIn z dn && (isWord z dd && _)) = false
              rw [e1, Bool.false_and, Bool.and_false]
            · exact ⟨rfl, false, .emp (by decide)⟩
            · exact ⟨rfl, true, .str (by decide) (by decide +kernel)⟩
          · obtain ⟨d', hd', rfl⟩ := List.mem_map.mp h
            have hd' := List.mem_of_mem_take hd'
            have key : countB ((ss.length : Nat) : Int) d' = false ∧ Qk true 3 1000 d' := by
              simp only [List.mem_cons, List.not_mem_nil, or_false] at hd'
              rcases hd' with rfl | rfl | rfl | rfl | rfl
              · refine ⟨?_, .int (by omega) (by omega) (by decide)⟩
                show (decide (0 ≤ ((ss.length : Nat) : Int)) && decide (((ss.length : Nat) : Int) < ((ss.length : Nat) : Int))) = false
                rw [decide_eq_false (show ¬ ((ss.length : Nat) : Int) < ((ss.length : Nat) : Int) by omega), Bool.and_false]
              · exact ⟨rfl, .bool true⟩
              · refine ⟨?_, .int (by decide) (by decide) (by decide)⟩
                show (decide ((0 : Int) ≤ 0 - 1) && decide ((0 - 1 : Int) < ((ss.length : Nat) : Int))) = false
                rw [decide_eq_false (by decide)]
                rfl
              · exact ⟨rfl, .none⟩
              · exact ⟨rfl, .str (by decide) (by decide +kernel)⟩
            refine ⟨?_, Bad.of (tup3 (k := true) (sq true dn dl di) (sq true fr fl fi) key.2 (Nat.le_refl _)) (by decide) (by decide)⟩
            show (allIn z dn && (allIn z fr && countB ((ss.length : Nat) : Int) d')) = false
            rw [key.1, Bool.and_false, Bool.and_false]
        obtain ⟨hb1, k, hk⟩ := hb
        refine ⟨_, rfl, _, rfl, .ref e, x, z, f, ss, _, rfl, hd56.mono s57, hE, lE, hx, hk.light (by decide), (hk.shows (by decide) (by decide)).ok, fun HA r sA hr => ?_⟩
        rw [toldD_no hb1] at hr
        have em : Eqb 0 (.str "match") := .str (by decide +kernel)
        dsimp only [tC]
        refine neDq hr (.str "match") em em (by decide) (by decide) ⟨_, rfl, ?_⟩
        refine if_false (eqv_same em) ?_
        exact ⟨_, rfl, Same.trans s57 sA⟩
      · rintro σ H57 ⟨t7, rfl, s57⟩
        exact ⟨_, _, _, _, _, _, _, _, _, _, _, _, _, _, _, rfl, hp56.same s57⟩
    · rintro σ H' ⟨t2, t3, t4, t5, t6, t7, t8, t9, t10, t11, t12, t13, t14, t15, t16, rfl, hp⟩
      exact ⟨_, rfl, p, c, rfl, hp, fun H'' => q H''⟩
end
end K10

namespace K10
open PySem PySem.Spec PyProof.Rows L2 G Lk
theorem all_mk {l : PySem.W.OpenLaw} {w : World} {K : PySem.W.Frag} {h : Heap} {mg : Str → Option Value} {fa : Addr} (X : K.In h) (G : h.Ns mainGlobals mg) (hfa : mg "law" = some (.ref fa))
    {f0 : Addr} {od0 an0 : Option Addr} {sl0 : Array (Option Value)} {oc0 kV0 dc0 pm0 cd0 ct0 : Value}
    {f1 : Addr} {od1 an1 : Option Addr} {sl1 : Array (Option Value)} {oc1 kV1 dc1 pm1 cd1 ct1 : Value}
    {f2 : Addr} {od2 an2 : Option Addr} {sl2 : Array (Option Value)} {oc2 kV2 dc2 pm2 cd2 ct2 : Value}
    {f3 : Addr} {od3 an3 : Option Addr} {sl3 : Array (Option Value)} {oc3 kV3 dc3 pm3 cd3 ct3 : Value}
    {f4 : Addr} {od4 an4 : Option Addr} {sl4 : Array (Option Value)} {oc4 kV4 dc4 pm4 cd4 ct4 : Value}
    {f5 : Addr} {od5 an5 : Option Addr} {sl5 : Array (Option Value)} {oc5 kV5 dc5 pm5 cd5 ct5 : Value}
    {f6 : Addr} {od6 an6 : Option Addr} {sl6 : Array (Option Value)} {oc6 kV6 dc6 pm6 cd6 ct6 : Value}
    {f7 : Addr} {od7 an7 : Option Addr} {sl7 : Array (Option Value)} {oc7 kV7 dc7 pm7 cd7 ct7 : Value}
    {f8 : Addr} {od8 an8 : Option Addr} {sl8 : Array (Option Value)} {oc8 kV8 dc8 pm8 cd8 ct8 : Value}
    {f9 : Addr} {od9 an9 : Option Addr} {sl9 : Array (Option Value)} {oc9 kV9 dc9 pm9 cd9 ct9 : Value}
    {f10 : Addr} {od10 an10 : Option Addr} {sl10 : Array (Option Value)} {oc10 kV10 dc10 pm10 cd10 ct10 : Value}
    {f11 : Addr} {od11 an11 : Option Addr} {sl11 : Array (Option Value)} {oc11 kV11 dc11 pm11 cd11 ct11 : Value}
    {f12 : Addr} {od12 an12 : Option Addr} {sl12 : Array (Option Value)} {oc12 kV12 dc12 pm12 cd12 ct12 : Value}
    {f13 : Addr} {od13 an13 : Option Addr} {sl13 : Array (Option Value)} {oc13 kV13 dc13 pm13 cd13 ct13 : Value}
    {f14 : Addr} {od14 an14 : Option Addr} {sl14 : Array (Option Value)} {oc14 kV14 dc14 pm14 cd14 ct14 : Value}
    {f15 D15 : Addr} {tD15 : Tok} {od15 an15 : Option Addr} {sl15 : Array (Option Value)} {oc15 dc15 pm15 cd15 ct15 : Value}
    {f16 : Addr} {od16 an16 : Option Addr} {sl16 : Array (Option Value)} {oc16 kV16 dc16 pm16 cd16 ct16 : Value}
    {f17 : Addr} {od17 an17 : Option Addr} {sl17 : Array (Option Value)} {oc17 kV17 dc17 pm17 cd17 ct17 : Value}
    {f18 : Addr} {od18 an18 : Option Addr} {sl18 : Array (Option Value)} {oc18 kV18 dc18 pm18 cd18 ct18 : Value}
    {f19 : Addr} {od19 an19 : Option Addr} {sl19 : Array (Option Value)} {oc19 kV19 dc19 pm19 cd19 ct19 : Value}
    {f20 : Addr} {od20 an20 : Option Addr} {sl20 : Array (Option Value)} {oc20 kV20 dc20 pm20 cd20 ct20 : Value}
    {f21 : Addr} {od21 an21 : Option Addr} {sl21 : Array (Option Value)} {oc21 kV21 dc21 pm21 cd21 ct21 : Value}
    {f22 : Addr} {od22 an22 : Option Addr} {sl22 : Array (Option Value)} {oc22 kV22 dc22 pm22 cd22 ct22 : Value}
    {f23 : Addr} {od23 an23 : Option Addr} {sl23 : Array (Option Value)} {oc23 kV23 dc23 pm23 cd23 ct23 : Value}
    {f24 : Addr} {od24 an24 : Option Addr} {sl24 : Array (Option Value)} {oc24 kV24 dc24 pm24 cd24 ct24 : Value}
    {f25 : Addr} {od25 an25 : Option Addr} {sl25 : Array (Option Value)} {oc25 kV25 dc25 pm25 cd25 ct25 : Value}
    {f26 : Addr} {od26 an26 : Option Addr} {sl26 : Array (Option Value)} {oc26 kV26 dc26 pm26 cd26 ct26 : Value}
    {f27 : Addr} {od27 an27 : Option Addr} {sl27 : Array (Option Value)} {oc27 kV27 dc27 pm27 cd27 ct27 : Value}
    {f28 : Addr} {od28 an28 : Option Addr} {sl28 : Array (Option Value)} {oc28 kV28 dc28 pm28 cd28 ct28 : Value}
    {f29 : Addr} {od29 an29 : Option Addr} {sl29 : Array (Option Value)} {oc29 kV29 dc29 pm29 cd29 ct29 : Value}
    {f30 : Addr} {od30 an30 : Option Addr} {sl30 : Array (Option Value)} {oc30 kV30 dc30 pm30 cd30 ct30 : Value}
    {f31 : Addr} {od31 an31 : Option Addr} {sl31 : Array (Option Value)} {oc31 kV31 dc31 pm31 cd31 ct31 : Value}
    {f32 : Addr} {od32 an32 : Option Addr} {sl32 : Array (Option Value)} {oc32 kV32 dc32 pm32 cd32 ct32 : Value}
    {t_LETTERS : Tok}
    {t_MOST_SIGNS : Tok}
    {t_MOST_STATES : Tok}
    {t_MOST_TEXT : Tok}
    {t_MOST_WORD : Tok}
    {c_NoExpander : Addr}
    {c_NoText : Addr}
    {c_Mismatch : Addr}
    {c_NoOutcome : Addr}
    {c_ScanError : Addr} {i_NoOutcome : Addr} {nm_NoOutcome q_NoOutcome : Str} {N_NoOutcome : Addr} {bs_NoOutcome : List Value} {sn_NoOutcome : List Str} {sub_NoOutcome : List Value} {ab_NoOutcome : Bool} {col_NoOutcome : Option Bool} {dd_NoOutcome : Option Addr} {m0_NoOutcome m1_NoOutcome m2_NoOutcome m3_NoOutcome m5_NoOutcome : Option Value}
    {iod_NoOutcome ian_NoOutcome : Option Addr} {isl_NoOutcome : Array (Option Value)} {ioc_NoOutcome ikV_NoOutcome idc_NoOutcome ipm_NoOutcome icd_NoOutcome ict_NoOutcome : Value}
    (a0 : PySem.W.nsIn K mainGlobals "is_word" = some (some (.ref f0)))
    (l0 : K.lookup f0 = some ⟨oc0, od0, .func (PySem.W.fnOf "is_word" "is_word" (defArgs s_is_word) (defBody s_is_word) (defScope s_is_word) .none kV0 dc0 pm0 an0 cd0 ct0), sl0⟩)
    (c0 : PySem.W.codeIn K cd0 "is_word" = true)
    (k0 : PySem.W.keepIn K (.ref f0) = true)
    (a1 : PySem.W.nsIn K mainGlobals "is_text" = some (some (.ref f1)))
    (l1 : K.lookup f1 = some ⟨oc1, od1, .func (PySem.W.fnOf "is_text" "is_text" (defArgs s_is_text) (defBody s_is_text) (defScope s_is_text) .none kV1 dc1 pm1 an1 cd1 ct1), sl1⟩)
    (c1 : PySem.W.codeIn K cd1 "is_text" = true)
    (k1 : PySem.W.keepIn K (.ref f1) = true)
    (a2 : PySem.W.nsIn K mainGlobals "need_text" = some (some (.ref f2)))
    (l2 : K.lookup f2 = some ⟨oc2, od2, .func (PySem.W.fnOf "need_text" "need_text" (defArgs s_need_text) (defBody s_need_text) (defScope s_need_text) .none kV2 dc2 pm2 an2 cd2 ct2), sl2⟩)
    (c2 : PySem.W.codeIn K cd2 "need_text" = true)
    (k2 : PySem.W.keepIn K (.ref f2) = true)
    (a3 : PySem.W.nsIn K mainGlobals "is_expander" = some (some (.ref f3)))
    (l3 : K.lookup f3 = some ⟨oc3, od3, .func (PySem.W.fnOf "is_expander" "is_expander" (defArgs s_is_expander) (defBody s_is_expander) (defScope s_is_expander) .none kV3 dc3 pm3 an3 cd3 ct3), sl3⟩)
    (c3 : PySem.W.codeIn K cd3 "is_expander" = true)
    (k3 : PySem.W.keepIn K (.ref f3) = true)
    (a4 : PySem.W.nsIn K mainGlobals "need_expander" = some (some (.ref f4)))
    (l4 : K.lookup f4 = some ⟨oc4, od4, .func (PySem.W.fnOf "need_expander" "need_expander" (defArgs s_need_expander) (defBody s_need_expander) (defScope s_need_expander) .none kV4 dc4 pm4 an4 cd4 ct4), sl4⟩)
    (c4 : PySem.W.codeIn K cd4 "need_expander" = true)
    (k4 : PySem.W.keepIn K (.ref f4) = true)
    (a5 : PySem.W.nsIn K mainGlobals "is_number" = some (some (.ref f5)))
    (l5 : K.lookup f5 = some ⟨oc5, od5, .func (PySem.W.fnOf "is_number" "is_number" (defArgs s_is_number) (defBody s_is_number) (defScope s_is_number) .none kV5 dc5 pm5 an5 cd5 ct5), sl5⟩)
    (c5 : PySem.W.codeIn K cd5 "is_number" = true)
    (k5 : PySem.W.keepIn K (.ref f5) = true)
    (a6 : PySem.W.nsIn K mainGlobals "is_whole" = some (some (.ref f6)))
    (l6 : K.lookup f6 = some ⟨oc6, od6, .func (PySem.W.fnOf "is_whole" "is_whole" (defArgs s_is_whole) (defBody s_is_whole) (defScope s_is_whole) .none kV6 dc6 pm6 an6 cd6 ct6), sl6⟩)
    (c6 : PySem.W.codeIn K cd6 "is_whole" = true)
    (k6 : PySem.W.keepIn K (.ref f6) = true)
    (a7 : PySem.W.nsIn K mainGlobals "move_of" = some (some (.ref f7)))
    (l7 : K.lookup f7 = some ⟨oc7, od7, .func (PySem.W.fnOf "move_of" "move_of" (defArgs s_move_of) (defBody s_move_of) (defScope s_move_of) .none kV7 dc7 pm7 an7 cd7 ct7), sl7⟩)
    (c7 : PySem.W.codeIn K cd7 "move_of" = true)
    (k7 : PySem.W.keepIn K (.ref f7) = true)
    (a8 : PySem.W.nsIn K mainGlobals "_are_signs" = some (some (.ref f8)))
    (l8 : K.lookup f8 = some ⟨oc8, od8, .func (PySem.W.fnOf "_are_signs" "_are_signs" (defArgs s_are_signs) (defBody s_are_signs) (defScope s_are_signs) .none kV8 dc8 pm8 an8 cd8 ct8), sl8⟩)
    (c8 : PySem.W.codeIn K cd8 "_are_signs" = true)
    (k8 : PySem.W.keepIn K (.ref f8) = true)
    (a9 : PySem.W.nsIn K mainGlobals "_is_short_word" = some (some (.ref f9)))
    (l9 : K.lookup f9 = some ⟨oc9, od9, .func (PySem.W.fnOf "_is_short_word" "_is_short_word" (defArgs s_is_short_word) (defBody s_is_short_word) (defScope s_is_short_word) .none kV9 dc9 pm9 an9 cd9 ct9), sl9⟩)
    (c9 : PySem.W.codeIn K cd9 "_is_short_word" = true)
    (k9 : PySem.W.keepIn K (.ref f9) = true)
    (a10 : PySem.W.nsIn K mainGlobals "_are_states" = some (some (.ref f10)))
    (l10 : K.lookup f10 = some ⟨oc10, od10, .func (PySem.W.fnOf "_are_states" "_are_states" (defArgs s_are_states) (defBody s_are_states) (defScope s_are_states) .none kV10 dc10 pm10 an10 cd10 ct10), sl10⟩)
    (c10 : PySem.W.codeIn K cd10 "_are_states" = true)
    (k10 : PySem.W.keepIn K (.ref f10) = true)
    (a11 : PySem.W.nsIn K mainGlobals "_is_state" = some (some (.ref f11)))
    (l11 : K.lookup f11 = some ⟨oc11, od11, .func (PySem.W.fnOf "_is_state" "_is_state" (defArgs s_is_state) (defBody s_is_state) (defScope s_is_state) .none kV11 dc11 pm11 an11 cd11 ct11), sl11⟩)
    (c11 : PySem.W.codeIn K cd11 "_is_state" = true)
    (k11 : PySem.W.keepIn K (.ref f11) = true)
    (a12 : PySem.W.nsIn K mainGlobals "_is_move" = some (some (.ref f12)))
    (l12 : K.lookup f12 = some ⟨oc12, od12, .func (PySem.W.fnOf "_is_move" "_is_move" (defArgs s_is_move) (defBody s_is_move) (defScope s_is_move) .none kV12 dc12 pm12 an12 cd12 ct12), sl12⟩)
    (c12 : PySem.W.codeIn K cd12 "_is_move" = true)
    (k12 : PySem.W.keepIn K (.ref f12) = true)
    (a13 : PySem.W.nsIn K mainGlobals "begin" = some (some (.ref f13)))
    (l13 : K.lookup f13 = some ⟨oc13, od13, .func (PySem.W.fnOf "begin" "begin" (defArgs s_begin) (defBody s_begin) (defScope s_begin) .none kV13 dc13 pm13 an13 cd13 ct13), sl13⟩)
    (c13 : PySem.W.codeIn K cd13 "begin" = true)
    (k13 : PySem.W.keepIn K (.ref f13) = true)
    (a14 : PySem.W.nsIn K mainGlobals "step" = some (some (.ref f14)))
    (l14 : K.lookup f14 = some ⟨oc14, od14, .func (PySem.W.fnOf "step" "step" (defArgs s_step) (defBody s_step) (defScope s_step) .none kV14 dc14 pm14 an14 cd14 ct14), sl14⟩)
    (c14 : PySem.W.codeIn K cd14 "step" = true)
    (k14 : PySem.W.keepIn K (.ref f14) = true)
    (a15 : PySem.W.nsIn K mainGlobals "stands" = some (some (.ref f15)))
    (l15 : K.lookup f15 = some ⟨oc15, od15, .func (PySem.W.fnOf "stands" "stands" (defArgs s_stands) (defBody s_stands) (defScope s_stands) .none (.ref D15) dc15 pm15 an15 cd15 ct15), sl15⟩)
    (dk15 : PySem.W.nsIn K D15 "most" = some (some (.int 100 tD15)))
    (c15 : PySem.W.codeIn K cd15 "stands" = true)
    (k15 : PySem.W.keepIn K (.ref f15) = true)
    (a16 : PySem.W.nsIn K mainGlobals "_first_stand" = some (some (.ref f16)))
    (l16 : K.lookup f16 = some ⟨oc16, od16, .func (PySem.W.fnOf "_first_stand" "_first_stand" (defArgs s_first_stand) (defBody s_first_stand) (defScope s_first_stand) .none kV16 dc16 pm16 an16 cd16 ct16), sl16⟩)
    (c16 : PySem.W.codeIn K cd16 "_first_stand" = true)
    (k16 : PySem.W.keepIn K (.ref f16) = true)
    (a17 : PySem.W.nsIn K mainGlobals "_next_stand" = some (some (.ref f17)))
    (l17 : K.lookup f17 = some ⟨oc17, od17, .func (PySem.W.fnOf "_next_stand" "_next_stand" (defArgs s_next_stand) (defBody s_next_stand) (defScope s_next_stand) .none kV17 dc17 pm17 an17 cd17 ct17), sl17⟩)
    (c17 : PySem.W.codeIn K cd17 "_next_stand" = true)
    (k17 : PySem.W.keepIn K (.ref f17) = true)
    (a18 : PySem.W.nsIn K mainGlobals "_is_stand" = some (some (.ref f18)))
    (l18 : K.lookup f18 = some ⟨oc18, od18, .func (PySem.W.fnOf "_is_stand" "_is_stand" (defArgs s_is_stand) (defBody s_is_stand) (defScope s_is_stand) .none kV18 dc18 pm18 an18 cd18 ct18), sl18⟩)
    (c18 : PySem.W.codeIn K cd18 "_is_stand" = true)
    (k18 : PySem.W.keepIn K (.ref f18) = true)
    (a19 : PySem.W.nsIn K mainGlobals "_law_kneaded" = some (some (.ref f19)))
    (l19 : K.lookup f19 = some ⟨oc19, od19, .func (PySem.W.fnOf "_law_kneaded" "_law_kneaded" (defArgs s_Lkneaded) (defBody s_Lkneaded) (defScope s_Lkneaded) .none kV19 dc19 pm19 an19 cd19 ct19), sl19⟩)
    (c19 : PySem.W.codeIn K cd19 "_law_kneaded" = true)
    (k19 : PySem.W.keepIn K (.ref f19) = true)
    (a20 : PySem.W.nsIn K mainGlobals "_law_pot_of" = some (some (.ref f20)))
    (l20 : K.lookup f20 = some ⟨oc20, od20, .func (PySem.W.fnOf "_law_pot_of" "_law_pot_of" (defArgs s_Lpot_of) (defBody s_Lpot_of) (defScope s_Lpot_of) .none kV20 dc20 pm20 an20 cd20 ct20), sl20⟩)
    (c20 : PySem.W.codeIn K cd20 "_law_pot_of" = true)
    (k20 : PySem.W.keepIn K (.ref f20) = true)
    (a21 : PySem.W.nsIn K mainGlobals "_law_below" = some (some (.ref f21)))
    (l21 : K.lookup f21 = some ⟨oc21, od21, .func (PySem.W.fnOf "_law_below" "_law_below" (defArgs s_Lbelow) (defBody s_Lbelow) (defScope s_Lbelow) .none kV21 dc21 pm21 an21 cd21 ct21), sl21⟩)
    (c21 : PySem.W.codeIn K cd21 "_law_below" = true)
    (k21 : PySem.W.keepIn K (.ref f21) = true)
    (a22 : PySem.W.nsIn K mainGlobals "_law_pick" = some (some (.ref f22)))
    (l22 : K.lookup f22 = some ⟨oc22, od22, .func (PySem.W.fnOf "_law_pick" "_law_pick" (defArgs s_Lpick) (defBody s_Lpick) (defScope s_Lpick) .none kV22 dc22 pm22 an22 cd22 ct22), sl22⟩)
    (c22 : PySem.W.codeIn K cd22 "_law_pick" = true)
    (k22 : PySem.W.keepIn K (.ref f22) = true)
    (a23 : PySem.W.nsIn K mainGlobals "_law_some_word" = some (some (.ref f23)))
    (l23 : K.lookup f23 = some ⟨oc23, od23, .func (PySem.W.fnOf "_law_some_word" "_law_some_word" (defArgs s_Lsome_word) (defBody s_Lsome_word) (defScope s_Lsome_word) .none kV23 dc23 pm23 an23 cd23 ct23), sl23⟩)
    (c23 : PySem.W.codeIn K cd23 "_law_some_word" = true)
    (k23 : PySem.W.keepIn K (.ref f23) = true)
    (a24 : PySem.W.nsIn K mainGlobals "_law_some_expander" = some (some (.ref f24)))
    (l24 : K.lookup f24 = some ⟨oc24, od24, .func (PySem.W.fnOf "_law_some_expander" "_law_some_expander" (defArgs s_Lsome_expander) (defBody s_Lsome_expander) (defScope s_Lsome_expander) .none kV24 dc24 pm24 an24 cd24 ct24), sl24⟩)
    (c24 : PySem.W.codeIn K cd24 "_law_some_expander" = true)
    (k24 : PySem.W.keepIn K (.ref f24) = true)
    (a25 : PySem.W.nsIn K mainGlobals "_law_plainer" = some (some (.ref f25)))
    (l25 : K.lookup f25 = some ⟨oc25, od25, .func (PySem.W.fnOf "_law_plainer" "_law_plainer" (defArgs s_Lplainer) (defBody s_Lplainer) (defScope s_Lplainer) .none kV25 dc25 pm25 an25 cd25 ct25), sl25⟩)
    (c25 : PySem.W.codeIn K cd25 "_law_plainer" = true)
    (k25 : PySem.W.keepIn K (.ref f25) = true)
    (a26 : PySem.W.nsIn K mainGlobals "_law_calls" = some (some (.ref f26)))
    (l26 : K.lookup f26 = some ⟨oc26, od26, .func (PySem.W.fnOf "_law_calls" "_law_calls" (defArgs s_Lcalls) (defBody s_Lcalls) (defScope s_Lcalls) .none kV26 dc26 pm26 an26 cd26 ct26), sl26⟩)
    (c26 : PySem.W.codeIn K cd26 "_law_calls" = true)
    (k26 : PySem.W.keepIn K (.ref f26) = true)
    (a27 : PySem.W.nsIn K mainGlobals "_law_sizes" = some (some (.ref f27)))
    (l27 : K.lookup f27 = some ⟨oc27, od27, .func (PySem.W.fnOf "_law_sizes" "_law_sizes" (defArgs s_Lsizes) (defBody s_Lsizes) (defScope s_Lsizes) .none kV27 dc27 pm27 an27 cd27 ct27), sl27⟩)
    (c27 : PySem.W.codeIn K cd27 "_law_sizes" = true)
    (k27 : PySem.W.keepIn K (.ref f27) = true)
    (a28 : PySem.W.nsIn K mainGlobals "_law_after" = some (some (.ref f28)))
    (l28 : K.lookup f28 = some ⟨oc28, od28, .func (PySem.W.fnOf "_law_after" "_law_after" (defArgs s_Lafter) (defBody s_Lafter) (defScope s_Lafter) .none kV28 dc28 pm28 an28 cd28 ct28), sl28⟩)
    (c28 : PySem.W.codeIn K cd28 "_law_after" = true)
    (k28 : PySem.W.keepIn K (.ref f28) = true)
    (a29 : PySem.W.nsIn K mainGlobals "_law_told" = some (some (.ref f29)))
    (l29 : K.lookup f29 = some ⟨oc29, od29, .func (PySem.W.fnOf "_law_told" "_law_told" (defArgs s_Ltold) (defBody s_Ltold) (defScope s_Ltold) .none kV29 dc29 pm29 an29 cd29 ct29), sl29⟩)
    (c29 : PySem.W.codeIn K cd29 "_law_told" = true)
    (k29 : PySem.W.keepIn K (.ref f29) = true)
    (a30 : PySem.W.nsIn K mainGlobals "_law_run" = some (some (.ref f30)))
    (l30 : K.lookup f30 = some ⟨oc30, od30, .func (PySem.W.fnOf "_law_run" "_law_run" (defArgs s_Lrun) (defBody s_Lrun) (defScope s_Lrun) .none kV30 dc30 pm30 an30 cd30 ct30), sl30⟩)
    (c30 : PySem.W.codeIn K cd30 "_law_run" = true)
    (k30 : PySem.W.keepIn K (.ref f30) = true)
    (a31 : PySem.W.nsIn K mainGlobals "_law_long_right" = some (some (.ref f31)))
    (l31 : K.lookup f31 = some ⟨oc31, od31, .func (PySem.W.fnOf "_law_long_right" "_law_long_right" (defArgs s_Llong_right) (defBody s_Llong_right) (defScope s_Llong_right) .none kV31 dc31 pm31 an31 cd31 ct31), sl31⟩)
    (c31 : PySem.W.codeIn K cd31 "_law_long_right" = true)
    (k31 : PySem.W.keepIn K (.ref f31) = true)
    (a32 : PySem.W.nsIn K mainGlobals "law" = some (some (.ref f32)))
    (l32 : K.lookup f32 = some ⟨oc32, od32, .func (PySem.W.fnOf "law" "law" (defArgs s_law) (defBody s_law) (defScope s_law) .none kV32 dc32 pm32 an32 cd32 ct32), sl32⟩)
    (c32 : PySem.W.codeIn K cd32 "law" = true)
    (k32 : PySem.W.keepIn K (.ref f32) = true)
    (z_abs : PySem.W.nsIn K mainGlobals "abs" = some none)
    (z_all : PySem.W.nsIn K mainGlobals "all" = some none)
    (z_bool : PySem.W.nsIn K mainGlobals "bool" = some none)
    (z_enumerate : PySem.W.nsIn K mainGlobals "enumerate" = some none)
    (z_int : PySem.W.nsIn K mainGlobals "int" = some none)
    (z_isinstance : PySem.W.nsIn K mainGlobals "isinstance" = some none)
    (z_len : PySem.W.nsIn K mainGlobals "len" = some none)
    (z_list : PySem.W.nsIn K mainGlobals "list" = some none)
    (z_max : PySem.W.nsIn K mainGlobals "max" = some none)
    (z_range : PySem.W.nsIn K mainGlobals "range" = some none)
    (z_repr : PySem.W.nsIn K mainGlobals "repr" = some none)
    (z_set : PySem.W.nsIn K mainGlobals "set" = some none)
    (z_sorted : PySem.W.nsIn K mainGlobals "sorted" = some none)
    (z_str : PySem.W.nsIn K mainGlobals "str" = some none)
    (z_tuple : PySem.W.nsIn K mainGlobals "tuple" = some none)
    (m_LETTERS : PySem.W.nsIn K mainGlobals "LETTERS" = some (some (.str "abcdefghijklmnopqrstuvwxyz" t_LETTERS)))
    (m_MOST_SIGNS : PySem.W.nsIn K mainGlobals "MOST_SIGNS" = some (some (.int 4 t_MOST_SIGNS)))
    (m_MOST_STATES : PySem.W.nsIn K mainGlobals "MOST_STATES" = some (some (.int 60 t_MOST_STATES)))
    (m_MOST_TEXT : PySem.W.nsIn K mainGlobals "MOST_TEXT" = some (some (.int 200 t_MOST_TEXT)))
    (m_MOST_WORD : PySem.W.nsIn K mainGlobals "MOST_WORD" = some (some (.int 2000 t_MOST_WORD)))
    (n_NoExpander : PySem.W.nsIn K mainGlobals "NoExpander" = some (some (.ref c_NoExpander)))
    (n_NoText : PySem.W.nsIn K mainGlobals "NoText" = some (some (.ref c_NoText)))
    (n_Mismatch : PySem.W.nsIn K mainGlobals "Mismatch" = some (some (.ref c_Mismatch)))
    (n_NoOutcome : PySem.W.nsIn K mainGlobals "NoOutcome" = some (some (.ref c_NoOutcome)))
    (xi_NoExpander : PySem.W.excIn K c_NoExpander [.type "ValueError", .type "Exception", .type "BaseException", .type "object"] "ValueError.__new__" = true)
    (kc_NoExpander : PySem.W.keepIn K (.ref c_NoExpander) = true)
    (b_NoExpander : PySem.W.subIn K (.ref c_NoExpander) (.type "BaseException") = some true)
    (t_NoExpander : PySem.W.typeIn K (.ref c_NoExpander) = some (.type "type"))
    (ic_NoExpander : PySem.W.isClsIn K c_NoExpander = true)
    (xi_NoText : PySem.W.excIn K c_NoText [.type "ValueError", .type "Exception", .type "BaseException", .type "object"] "ValueError.__new__" = true)
    (kc_NoText : PySem.W.keepIn K (.ref c_NoText) = true)
    (b_NoText : PySem.W.subIn K (.ref c_NoText) (.type "BaseException") = some true)
    (t_NoText : PySem.W.typeIn K (.ref c_NoText) = some (.type "type"))
    (ic_NoText : PySem.W.isClsIn K c_NoText = true)
    (xi_Mismatch : PySem.W.excIn K c_Mismatch [.type "ValueError", .type "Exception", .type "BaseException", .type "object"] "ValueError.__new__" = true)
    (kc_Mismatch : PySem.W.keepIn K (.ref c_Mismatch) = true)
    (b_Mismatch : PySem.W.subIn K (.ref c_Mismatch) (.type "BaseException") = some true)
    (t_Mismatch : PySem.W.typeIn K (.ref c_Mismatch) = some (.type "type"))
    (ic_Mismatch : PySem.W.isClsIn K c_Mismatch = true)
    (hg_NoOutcome : PySem.W.findIn K (.ref c_NoOutcome) "__getattribute__" = some (some (.builtin "BaseException.__getattribute__")))
    (hk_NoOutcome : PySem.W.findIn K (.ref c_NoOutcome) "__getattr__" = some none)
    (b_NoOutcome : PySem.W.subIn K (.ref c_NoOutcome) (.type "BaseException") = some true)
    (hd_NoOutcome : PySem.W.hasDictIn K c_NoOutcome = true)
    (t_NoOutcome : PySem.W.typeIn K (.ref c_NoOutcome) = some (.type "type"))
    (ic_NoOutcome : PySem.W.isClsIn K c_NoOutcome = true)
    (nf_NoOutcome_kind : PySem.W.findIn K (.ref c_NoOutcome) "kind" = some none)
    (nf_NoOutcome_thread : PySem.W.findIn K (.ref c_NoOutcome) "thread" = some none)
    (xl_NoOutcome : K.lookup c_NoOutcome = some (excClassObj nm_NoOutcome q_NoOutcome c_NoOutcome N_NoOutcome bs_NoOutcome [.ref c_ScanError, .type "ValueError", .type "Exception", .type "BaseException", .type "object"] true sn_NoOutcome sub_NoOutcome ab_NoOutcome col_NoOutcome dd_NoOutcome m0_NoOutcome m1_NoOutcome m2_NoOutcome m3_NoOutcome m5_NoOutcome "ValueError.__new__"))
    (sa_NoOutcome : PySem.W.findIn K (.ref c_NoOutcome) "__setattr__" = some (some (.builtin "object.__setattr__")))
    (kc_NoOutcome : PySem.W.keepIn K (.ref c_NoOutcome) = true)
    (ii_NoOutcome : PySem.W.findIn K (.ref c_NoOutcome) "__init__" = some (some (.ref i_NoOutcome)))
    (it_NoOutcome : PySem.W.typeIn K (.ref i_NoOutcome) = some (.type "function"))
    (il_NoOutcome : K.lookup i_NoOutcome = some ⟨ioc_NoOutcome, iod_NoOutcome, .func (PySem.W.fnOf "__init__" "NoOutcome.__init__" (defArgs (inClass (top 2) 0)) (defBody (inClass (top 2) 0)) (defScope (inClass (top 2) 0)) .none ikV_NoOutcome idc_NoOutcome ipm_NoOutcome ian_NoOutcome icd_NoOutcome ict_NoOutcome), isl_NoOutcome⟩)
    (icd_NoOutcome : PySem.W.codeIn K icd_NoOutcome "NoOutcome.__init__" = true)
    (ik_NoOutcome : PySem.W.keepIn K (.ref i_NoOutcome) = true)
    (s_NoOutcome_NoOutcome : PySem.W.subIn K (.ref c_NoOutcome) (.ref c_NoOutcome) = some true)
    (s_Mismatch_NoOutcome : PySem.W.subIn K (.ref c_Mismatch) (.ref c_NoOutcome) = some false)
    (s_Mismatch_Mismatch : PySem.W.subIn K (.ref c_Mismatch) (.ref c_Mismatch) = some true)
    : ∃ fd : FuncData, (∀ (s : Shared) (v : Value), BindsTo s fd ⟨[v], []⟩ [("script", v)]) ∧ ∀ base : Heap, K.In base → base.Ns mainGlobals mg → FnG l.prog w K mg base CX0 10 fa fd ["script"] (sp_law K) := by
  have e := hfa.symm.trans (PySem.W.mg_of X G a32)
  cases e
  have F0 := fun_mk (st := s_is_word) l0 c0 k0
  have b0 := F0.binds (ps := ["signs", "thing"]) fun _ _ _ _ _ _ us hl => match us, hl with | [_, _], _ => rfl
  have F1 := fun_mk (st := s_is_text) l1 c1 k1
  have b1 := F1.binds (ps := ["signs", "thing"]) fun _ _ _ _ _ _ us hl => match us, hl with | [_, _], _ => rfl
  have F2 := fun_mk (st := s_need_text) l2 c2 k2
  have b2 := F2.binds (ps := ["signs", "thing"]) fun _ _ _ _ _ _ us hl => match us, hl with | [_, _], _ => rfl
  have F3 := fun_mk (st := s_is_expander) l3 c3 k3
  have b3 := F3.binds (ps := ["thing"]) fun _ _ _ _ _ _ us hl => match us, hl with | [_], _ => rfl
  have F4 := fun_mk (st := s_need_expander) l4 c4 k4
  have b4 := F4.binds (ps := ["expander"]) fun _ _ _ _ _ _ us hl => match us, hl with | [_], _ => rfl
  have F5 := fun_mk (st := s_is_number) l5 c5 k5
  have b5 := F5.binds (ps := ["many", "thing"]) fun _ _ _ _ _ _ us hl => match us, hl with | [_, _], _ => rfl
  have F6 := fun_mk (st := s_is_whole) l6 c6 k6
  have b6 := F6.binds (ps := ["thing"]) fun _ _ _ _ _ _ us hl => match us, hl with | [_], _ => rfl
  have F7 := fun_mk (st := s_move_of) l7 c7 k7
  have b7 := F7.binds (ps := ["expander", "state", "sign"]) fun _ _ _ _ _ _ us hl => match us, hl with | [_, _, _], _ => rfl
  have F8 := fun_mk (st := s_are_signs) l8 c8 k8
  have b8 := F8.binds (ps := ["thing"]) fun _ _ _ _ _ _ us hl => match us, hl with | [_], _ => rfl
  have F9 := fun_mk (st := s_is_short_word) l9 c9 k9
  have b9 := F9.binds (ps := ["signs", "thing"]) fun _ _ _ _ _ _ us hl => match us, hl with | [_, _], _ => rfl
  have F10 := fun_mk (st := s_are_states) l10 c10 k10
  have b10 := F10.binds (ps := ["signs", "thing"]) fun _ _ _ _ _ _ us hl => match us, hl with | [_, _], _ => rfl
  have F11 := fun_mk (st := s_is_state) l11 c11 k11
  have b11 := F11.binds (ps := ["signs", "many", "thing"]) fun _ _ _ _ _ _ us hl => match us, hl with | [_, _, _], _ => rfl
  have F12 := fun_mk (st := s_is_move) l12 c12 k12
  have b12 := F12.binds (ps := ["signs", "many", "thing"]) fun _ _ _ _ _ _ us hl => match us, hl with | [_, _, _], _ => rfl
  have F13 := fun_mk (st := s_begin) l13 c13 k13
  have b13 := F13.binds (ps := ["expander", "text"]) fun _ _ _ _ _ _ us hl => match us, hl with | [_, _], _ => rfl
  have F14 := fun_mk (st := s_step) l14 c14 k14
  have b14 := F14.binds (ps := ["expander", "stand"]) fun _ _ _ _ _ _ us hl => match us, hl with | [_, _], _ => rfl
  have F15 := fun_mk (st := s_stands) l15 c15 k15
  have FD15 : FunD K "stands" "stands" (defArgs s_stands) (defBody s_stands) (defScope s_stands) [] [("most", .int 100)] f15 _ := ⟨⟨_, _, _, _, _, _, _, _, _, _, rfl, l15, c15, .inl ⟨rfl, rfl⟩, .inr ⟨D15, rfl, fun q hq => by rw [List.mem_singleton.mp hq]; exact ⟨_, dk15, _, rfl⟩⟩⟩, k15⟩
  obtain ⟨ds15, dv15, b15⟩ := FD15.binds0 (ps := ["expander", "text", "most"]) 2 (by simp) rfl fun D doc pm an cdv ct us ks l1 l2 => match us, ks, l1, l2 with | [_, _], [_], _, _ => ⟨_, _, _, _, _, _, rfl, rfl, rfl⟩
  obtain ⟨_, kb15⟩ := FD15.kbinds0 (ps := ["expander", "text", "most"]) 2 ["most"] [] (fun us _ ws => us ++ ws) (by simp) (fun q hq => nomatch hq) (fun r1 _ r2 => r1.append r2) fun D doc pm an cdv ct us mv ws l1 l2 l3 => match us, mv, ws, l1, l2, l3 with | [_, _], [], [_], _, _, _ => rfl
  have F16 := fun_mk (st := s_first_stand) l16 c16 k16
  have b16 := F16.binds (ps := ["expander", "text"]) fun _ _ _ _ _ _ us hl => match us, hl with | [_, _], _ => rfl
  have F17 := fun_mk (st := s_next_stand) l17 c17 k17
  have b17 := F17.binds (ps := ["expander", "stand"]) fun _ _ _ _ _ _ us hl => match us, hl with | [_, _], _ => rfl
  have F18 := fun_mk (st := s_is_stand) l18 c18 k18
  have b18 := F18.binds (ps := ["expander", "thing"]) fun _ _ _ _ _ _ us hl => match us, hl with | [_, _], _ => rfl
  have F19 := fun_mk (st := s_Lkneaded) l19 c19 k19
  have b19 := F19.binds (ps := ["seed", "lap"]) fun _ _ _ _ _ _ us hl => match us, hl with | [_, _], _ => rfl
  have F20 := fun_mk (st := s_Lpot_of) l20 c20 k20
  have b20 := F20.binds (ps := ["script"]) fun _ _ _ _ _ _ us hl => match us, hl with | [_], _ => rfl
  have F21 := fun_mk (st := s_Lbelow) l21 c21 k21
  have b21 := F21.binds (ps := ["pot", "bound"]) fun _ _ _ _ _ _ us hl => match us, hl with | [_, _], _ => rfl
  have F22 := fun_mk (st := s_Lpick) l22 c22 k22
  have b22 := F22.binds (ps := ["pot", "items"]) fun _ _ _ _ _ _ us hl => match us, hl with | [_, _], _ => rfl
  have F23 := fun_mk (st := s_Lsome_word) l23 c23 k23
  have b23 := F23.binds (ps := ["pot", "signs", "limit"]) fun _ _ _ _ _ _ us hl => match us, hl with | [_, _, _], _ => rfl
  have F24 := fun_mk (st := s_Lsome_expander) l24 c24 k24
  have b24 := F24.binds (ps := ["pot", "many"]) fun _ _ _ _ _ _ us hl => match us, hl with | [_, _], _ => rfl
  have F25 := fun_mk (st := s_Lplainer) l25 c25 k25
  have b25 := F25.binds (ps := ["state"]) fun _ _ _ _ _ _ us hl => match us, hl with | [_], _ => rfl
  have F26 := fun_mk (st := s_Lcalls) l26 c26 k26
  have b26 := F26.binds (ps := ["expander"]) fun _ _ _ _ _ _ us hl => match us, hl with | [_], _ => rfl
  have F27 := fun_mk (st := s_Lsizes) l27 c27 k27
  have b27 := F27.binds (ps := ["expander"]) fun _ _ _ _ _ _ us hl => match us, hl with | [_], _ => rfl
  have F28 := fun_mk (st := s_Lafter) l28 c28 k28
  have b28 := F28.binds (ps := ["expander", "stand"]) fun _ _ _ _ _ _ us hl => match us, hl with | [_, _], _ => rfl
  have F29 := fun_mk (st := s_Ltold) l29 c29 k29
  have b29 := F29.binds (ps := ["expander", "stand"]) fun _ _ _ _ _ _ us hl => match us, hl with | [_, _], _ => rfl
  have F30 := fun_mk (st := s_Lrun) l30 c30 k30
  have b30 := F30.binds (ps := ["expander", "text", "limit"]) fun _ _ _ _ _ _ us hl => match us, hl with | [_, _, _], _ => rfl
  have F31 := fun_mk (st := s_Llong_right) l31 c31 k31
  have b31 := F31.binds (ps := ["pot"]) fun _ _ _ _ _ _ us hl => match us, hl with | [_], _ => rfl
  have F32 := fun_mk (st := s_law) l32 c32 k32
  have b32 := F32.binds (ps := ["script"]) fun _ _ _ _ _ _ us hl => match us, hl with | [_], _ => rfl
  exact ⟨_, fun s v => .of_eq rfl, fun base _ _ => ok_law {
    a_is_word := f0
    fd_is_word := _
    g_is_word := PySem.W.mg_of X G a0
    F_is_word := F0
    b_is_word := b0
    a_is_text := f1
    fd_is_text := _
    g_is_text := PySem.W.mg_of X G a1
    F_is_text := F1
    b_is_text := b1
    a_need_text := f2
    fd_need_text := _
    g_need_text := PySem.W.mg_of X G a2
    F_need_text := F2
    b_need_text := b2
    a_is_expander := f3
    fd_is_expander := _
    g_is_expander := PySem.W.mg_of X G a3
    F_is_expander := F3
    b_is_expander := b3
    a_need_expander := f4
    fd_need_expander := _
    g_need_expander := PySem.W.mg_of X G a4
    F_need_expander := F4
    b_need_expander := b4
    a_is_number := f5
    fd_is_number := _
    g_is_number := PySem.W.mg_of X G a5
    F_is_number := F5
    b_is_number := b5
    a_is_whole := f6
    fd_is_whole := _
    g_is_whole := PySem.W.mg_of X G a6
    F_is_whole := F6
    b_is_whole := b6
    a_move_of := f7
    fd_move_of := _
    g_move_of := PySem.W.mg_of X G a7
    F_move_of := F7
    b_move_of := b7
    a__are_signs := f8
    fd__are_signs := _
    g__are_signs := PySem.W.mg_of X G a8
    F__are_signs := F8
    b__are_signs := b8
    a__is_short_word := f9
    fd__is_short_word := _
    g__is_short_word := PySem.W.mg_of X G a9
    F__is_short_word := F9
    b__is_short_word := b9
    a__are_states := f10
    fd__are_states := _
    g__are_states := PySem.W.mg_of X G a10
    F__are_states := F10
    b__are_states := b10
    a__is_state := f11
    fd__is_state := _
    g__is_state := PySem.W.mg_of X G a11
    F__is_state := F11
    b__is_state := b11
    a__is_move := f12
    fd__is_move := _
    g__is_move := PySem.W.mg_of X G a12
    F__is_move := F12
    b__is_move := b12
    a_begin := f13
    fd_begin := _
    g_begin := PySem.W.mg_of X G a13
    F_begin := F13
    b_begin := b13
    a_step := f14
    fd_step := _
    g_step := PySem.W.mg_of X G a14
    F_step := F14
    b_step := b14
    a_stands := f15
    fd_stands := _
    g_stands := PySem.W.mg_of X G a15
    F_stands := F15
    b_stands := b15
    ds_stands := ds15
    dv_stands := dv15
    kb_stands := kb15
    a__first_stand := f16
    fd__first_stand := _
    g__first_stand := PySem.W.mg_of X G a16
    F__first_stand := F16
    b__first_stand := b16
    a__next_stand := f17
    fd__next_stand := _
    g__next_stand := PySem.W.mg_of X G a17
    F__next_stand := F17
    b__next_stand := b17
    a__is_stand := f18
    fd__is_stand := _
    g__is_stand := PySem.W.mg_of X G a18
    F__is_stand := F18
    b__is_stand := b18
    a__law_kneaded := f19
    fd__law_kneaded := _
    g__law_kneaded := PySem.W.mg_of X G a19
    F__law_kneaded := F19
    b__law_kneaded := b19
    a__law_pot_of := f20
    fd__law_pot_of := _
    g__law_pot_of := PySem.W.mg_of X G a20
    F__law_pot_of := F20
    b__law_pot_of := b20
    a__law_below := f21
    fd__law_below := _
    g__law_below := PySem.W.mg_of X G a21
    F__law_below := F21
    b__law_below := b21
    a__law_pick := f22
    fd__law_pick := _
    g__law_pick := PySem.W.mg_of X G a22
    F__law_pick := F22
    b__law_pick := b22
    a__law_some_word := f23
    fd__law_some_word := _
    g__law_some_word := PySem.W.mg_of X G a23
    F__law_some_word := F23
    b__law_some_word := b23
    a__law_some_expander := f24
    fd__law_some_expander := _
    g__law_some_expander := PySem.W.mg_of X G a24
    F__law_some_expander := F24
    b__law_some_expander := b24
    a__law_plainer := f25
    fd__law_plainer := _
    g__law_plainer := PySem.W.mg_of X G a25
    F__law_plainer := F25
    b__law_plainer := b25
    a__law_calls := f26
    fd__law_calls := _
    g__law_calls := PySem.W.mg_of X G a26
    F__law_calls := F26
    b__law_calls := b26
    a__law_sizes := f27
    fd__law_sizes := _
    g__law_sizes := PySem.W.mg_of X G a27
    F__law_sizes := F27
    b__law_sizes := b27
    a__law_after := f28
    fd__law_after := _
    g__law_after := PySem.W.mg_of X G a28
    F__law_after := F28
    b__law_after := b28
    a__law_told := f29
    fd__law_told := _
    g__law_told := PySem.W.mg_of X G a29
    F__law_told := F29
    b__law_told := b29
    a__law_run := f30
    fd__law_run := _
    g__law_run := PySem.W.mg_of X G a30
    F__law_run := F30
    b__law_run := b30
    a__law_long_right := f31
    fd__law_long_right := _
    g__law_long_right := PySem.W.mg_of X G a31
    F__law_long_right := F31
    b__law_long_right := b31
    a_law := fa
    fd_law := _
    g_law := PySem.W.mg_of X G a32
    F_law := F32
    b_law := b32
    z_abs := PySem.W.mg_none_of X G z_abs
    z_all := PySem.W.mg_none_of X G z_all
    z_bool := PySem.W.mg_none_of X G z_bool
    z_enumerate := PySem.W.mg_none_of X G z_enumerate
    z_int := PySem.W.mg_none_of X G z_int
    z_isinstance := PySem.W.mg_none_of X G z_isinstance
    z_len := PySem.W.mg_none_of X G z_len
    z_list := PySem.W.mg_none_of X G z_list
    z_max := PySem.W.mg_none_of X G z_max
    z_range := PySem.W.mg_none_of X G z_range
    z_repr := PySem.W.mg_none_of X G z_repr
    z_set := PySem.W.mg_none_of X G z_set
    z_sorted := PySem.W.mg_none_of X G z_sorted
    z_str := PySem.W.mg_none_of X G z_str
    z_tuple := PySem.W.mg_none_of X G z_tuple
    t_LETTERS := t_LETTERS
    m_LETTERS := PySem.W.mg_of X G m_LETTERS
    t_MOST_SIGNS := t_MOST_SIGNS
    m_MOST_SIGNS := PySem.W.mg_of X G m_MOST_SIGNS
    t_MOST_STATES := t_MOST_STATES
    m_MOST_STATES := PySem.W.mg_of X G m_MOST_STATES
    t_MOST_TEXT := t_MOST_TEXT
    m_MOST_TEXT := PySem.W.mg_of X G m_MOST_TEXT
    t_MOST_WORD := t_MOST_WORD
    m_MOST_WORD := PySem.W.mg_of X G m_MOST_WORD
    a_NoExpander := c_NoExpander
    g_NoExpander := PySem.W.mg_of X G n_NoExpander
    a_NoText := c_NoText
    g_NoText := PySem.W.mg_of X G n_NoText
    a_Mismatch := c_Mismatch
    g_Mismatch := PySem.W.mg_of X G n_Mismatch
    a_NoOutcome := c_NoOutcome
    g_NoOutcome := PySem.W.mg_of X G n_NoOutcome
    xi_NoExpander := xi_NoExpander
    k_NoExpander := kc_NoExpander
    b_NoExpander := b_NoExpander
    t_NoExpander := t_NoExpander
    xi_NoText := xi_NoText
    k_NoText := kc_NoText
    b_NoText := b_NoText
    t_NoText := t_NoText
    xi_Mismatch := xi_Mismatch
    k_Mismatch := kc_Mismatch
    b_Mismatch := b_Mismatch
    t_Mismatch := t_Mismatch
    nf_NoOutcome_kind := nf_NoOutcome_kind
    nf_NoOutcome_thread := nf_NoOutcome_thread
    b_NoOutcome := b_NoOutcome
    t_NoOutcome := t_NoOutcome
    o_NoOutcome := ⟨⟨nm_NoOutcome, q_NoOutcome, N_NoOutcome, bs_NoOutcome, _, sn_NoOutcome, sub_NoOutcome, ab_NoOutcome, col_NoOutcome, dd_NoOutcome, m0_NoOutcome, m1_NoOutcome, m2_NoOutcome, m3_NoOutcome, m5_NoOutcome, xl_NoOutcome, refs_one⟩, sa_NoOutcome, b_NoOutcome, t_NoOutcome, kc_NoOutcome⟩
    x_NoOutcome := ⟨hg_NoOutcome, hk_NoOutcome, b_NoOutcome, hd_NoOutcome⟩
    i_NoOutcome := i_NoOutcome
    if_NoOutcome := _
    ii_NoOutcome := ii_NoOutcome
    it_NoOutcome := it_NoOutcome
    iF_NoOutcome := fun_mk (st := (inClass (top 2) 0)) il_NoOutcome icd_NoOutcome ik_NoOutcome
    ib_NoOutcome := (fun_mk (st := (inClass (top 2) 0)) il_NoOutcome icd_NoOutcome ik_NoOutcome).binds (ps := ["self", "kind", "thread"]) fun _ _ _ _ _ _ us hl => match us, hl with | [_, _, _], _ => rfl
    e_NoOutcome_NoOutcome := exm_is b_NoOutcome ic_NoOutcome t_NoOutcome s_NoOutcome_NoOutcome
    e_Mismatch_NoOutcome := exm_is b_NoOutcome ic_NoOutcome t_NoOutcome s_Mismatch_NoOutcome
    e_Mismatch_Mismatch := exm_is b_Mismatch ic_Mismatch t_Mismatch s_Mismatch_Mismatch
  }⟩

theorem walk {l : PySem.W.OpenLaw} {q : Program} {loose : List Str} {XP : (Str → Option Value) → Heap → Prop} {YP : World → Heap → Prop} {d : DefRec} {K : Params → PySem.W.Frag} (hn : l.most = some 63) (hdf : d.params.defaults = [])
    (hY : ∀ (w : World) (h : Heap), YP w h → (K w.params).In h)
    (F : ∀ (w : World) (mg : Str → Option Value) (fa : Addr) (h : Heap), (K w.params).In h → h.Ns mainGlobals mg → mg d.name = some (.ref fa) →
      ∃ fd : FuncData, (∀ (s : Shared) (u : Value), BindsTo s fd ⟨[u], []⟩ [("script", u)]) ∧ ∀ base : Heap, (K w.params).In base → base.Ns mainGlobals mg → FnG l.prog w (K w.params) mg base CX0 10 fa fd ["script"] (sp_law (K w.params))) :
    PySem.W.WalkO q loose XP YP l.row.toRowW d [] (fun f vs => PySem.call f vs) :=
  G.walk_ofG (n := 63) (k := 10) (x := "script") (CX := fun _ => CX0) (sp := sp_law) hn (by decide) hdf ⟨rfl, by decide, by decide⟩ hY F (fun _ _ a ns hl _ hS => ⟨a, ns, rfl, hS, hl, fun _ => rfl⟩) fun _ _ _ _ _ z => z
end K10

open PySem PySem.W PyProof.Rows in
set_option maxRecDepth 100000 in
set_option maxHeartbeats 0 in
theorem PySem.Challenge.cw_rescans_k10_runs_holds : PySem.Challenge.rw_rescans_k10_runs.Holds := by
  w_on; o_law; k_head; (case hw => w_witness2)
  k_fill
  refine K10.walk (l := PySem.Challenge.rw_rescans_k10_runs) rfl rfl (fun w h Y => PySem.W.kIn_of Y) ?F
  case F =>
    intro w mg fa h KX G hmg
    refine' K10.all_mk KX G hmg ?a0 ?l0 ?c0 ?k0 ?a1 ?l1 ?c1 ?k1 ?a2 ?l2 ?c2 ?k2 ?a3 ?l3 ?c3 ?k3 ?a4 ?l4 ?c4 ?k4 ?a5 ?l5 ?c5 ?k5 ?a6 ?l6 ?c6 ?k6 ?a7 ?l7 ?c7 ?k7 ?a8 ?l8 ?c8 ?k8 ?a9 ?l9 ?c9 ?k9 ?a10 ?l10 ?c10 ?k10 ?a11 ?l11 ?c11 ?k11 ?a12 ?l12 ?c12 ?k12 ?a13 ?l13 ?c13 ?k13 ?a14 ?l14 ?c14 ?k14 ?a15 ?l15 ?dk15 ?c15 ?k15 ?a16 ?l16 ?c16 ?k16 ?a17 ?l17 ?c17 ?k17 ?a18 ?l18 ?c18 ?k18 ?a19 ?l19 ?c19 ?k19 ?a20 ?l20 ?c20 ?k20 ?a21 ?l21 ?c21 ?k21 ?a22 ?l22 ?c22 ?k22 ?a23 ?l23 ?c23 ?k23 ?a24 ?l24 ?c24 ?k24 ?a25 ?l25 ?c25 ?k25 ?a26 ?l26 ?c26 ?k26 ?a27 ?l27 ?c27 ?k27 ?a28 ?l28 ?c28 ?k28 ?a29 ?l29 ?c29 ?k29 ?a30 ?l30 ?c30 ?k30 ?a31 ?l31 ?c31 ?k31 ?a32 ?l32 ?c32 ?k32 ?z_abs ?z_all ?z_bool ?z_enumerate ?z_int ?z_isinstance ?z_len ?z_list ?z_max ?z_range ?z_repr ?z_set ?z_sorted ?z_str ?z_tuple ?m_LETTERS ?m_MOST_SIGNS ?m_MOST_STATES ?m_MOST_TEXT ?m_MOST_WORD ?n_NoExpander ?n_NoText ?n_Mismatch ?n_NoOutcome ?xi_NoExpander ?kc_NoExpander ?b_NoExpander ?t_NoExpander ?ic_NoExpander ?xi_NoText ?kc_NoText ?b_NoText ?t_NoText ?ic_NoText ?xi_Mismatch ?kc_Mismatch ?b_Mismatch ?t_Mismatch ?ic_Mismatch ?hg_NoOutcome ?hk_NoOutcome ?b_NoOutcome ?hd_NoOutcome ?t_NoOutcome ?ic_NoOutcome ?nf_NoOutcome_kind ?nf_NoOutcome_thread ?xl_NoOutcome ?sa_NoOutcome ?kc_NoOutcome ?ii_NoOutcome ?it_NoOutcome ?il_NoOutcome ?icd_NoOutcome ?ik_NoOutcome ?s_NoOutcome_NoOutcome ?s_Mismatch_NoOutcome ?s_Mismatch_Mismatch
    (case a0 => k_is)
    (case l0 => k_is)
    (case c0 => k_is)
    (case k0 => k_is)
    (case a1 => k_is)
    (case l1 => k_is)
    (case c1 => k_is)
    (case k1 => k_is)
    (case a2 => k_is)
    (case l2 => k_is)
    (case c2 => k_is)
    (case k2 => k_is)
    (case a3 => k_is)
    (case l3 => k_is)
    (case c3 => k_is)
    (case k3 => k_is)
    (case a4 => k_is)
    (case l4 => k_is)
    (case c4 => k_is)
    (case k4 => k_is)
    (case a5 => k_is)
    (case l5 => k_is)
    (case c5 => k_is)
    (case k5 => k_is)
    (case a6 => k_is)
    (case l6 => k_is)
    (case c6 => k_is)
    (case k6 => k_is)
    (case a7 => k_is)
    (case l7 => k_is)
    (case c7 => k_is)
    (case k7 => k_is)
    (case a8 => k_is)
    (case l8 => k_is)
    (case c8 => k_is)
    (case k8 => k_is)
    (case a9 => k_is)
    (case l9 => k_is)
    (case c9 => k_is)
    (case k9 => k_is)
    (case a10 => k_is)
    (case l10 => k_is)
    (case c10 => k_is)
    (case k10 => k_is)
    (case a11 => k_is)
    (case l11 => k_is)
    (case c11 => k_is)
    (case k11 => k_is)
    (case a12 => k_is)
    (case l12 => k_is)
    (case c12 => k_is)
    (case k12 => k_is)
    (case a13 => k_is)
    (case l13 => k_is)
    (case c13 => k_is)
    (case k13 => k_is)
    (case a14 => k_is)
    (case l14 => k_is)
    (case c14 => k_is)
    (case k14 => k_is)
    (case a15 => k_is)
    (case l15 => k_is)
    (case dk15 => k_is)
    (case c15 => k_is)
    (case k15 => k_is)
    (case a16 => k_is)
    (case l16 => k_is)
    (case c16 => k_is)
    (case k16 => k_is)
    (case a17 => k_is)
    (case l17 => k_is)
    (case c17 => k_is)
    (case k17 => k_is)
    (case a18 => k_is)
    (case l18 => k_is)
    (case c18 => k_is)
    (case k18 => k_is)
    (case a19 => k_is)
    (case l19 => k_is)
    (case c19 => k_is)
    (case k19 => k_is)
    (case a20 => k_is)
    (case l20 => k_is)
    (case c20 => k_is)
    (case k20 => k_is)
    (case a21 => k_is)
    (case l21 => k_is)
    (case c21 => k_is)
    (case k21 => k_is)
    (case a22 => k_is)
    (case l22 => k_is)
    (case c22 => k_is)
    (case k22 => k_is)
    (case a23 => k_is)
    (case l23 => k_is)
    (case c23 => k_is)
    (case k23 => k_is)
    (case a24 => k_is)
    (case l24 => k_is)
    (case c24 => k_is)
    (case k24 => k_is)
    (case a25 => k_is)
    (case l25 => k_is)
    (case c25 => k_is)
    (case k25 => k_is)
    (case a26 => k_is)
    (case l26 => k_is)
    (case c26 => k_is)
    (case k26 => k_is)
    (case a27 => k_is)
    (case l27 => k_is)
    (case c27 => k_is)
    (case k27 => k_is)
    (case a28 => k_is)
    (case l28 => k_is)
    (case c28 => k_is)
    (case k28 => k_is)
    (case a29 => k_is)
    (case l29 => k_is)
    (case c29 => k_is)
    (case k29 => k_is)
    (case a30 => k_is)
    (case l30 => k_is)
    (case c30 => k_is)
    (case k30 => k_is)
    (case a31 => k_is)
    (case l31 => k_is)
    (case c31 => k_is)
    (case k31 => k_is)
    (case a32 => k_is)
    (case l32 => k_is)
    (case c32 => k_is)
    (case k32 => k_is)
    (case z_abs => k_is)
    (case z_all => k_is)
    (case z_bool => k_is)
    (case z_enumerate => k_is)
    (case z_int => k_is)
    (case z_isinstance => k_is)
    (case z_len => k_is)
    (case z_list => k_is)
    (case z_max => k_is)
    (case z_range => k_is)
    (case z_repr => k_is)
    (case z_set => k_is)
    (case z_sorted => k_is)
    (case z_str => k_is)
    (case z_tuple => k_is)
    (case m_LETTERS => k_is)
    (case m_MOST_SIGNS => k_is)
    (case m_MOST_STATES => k_is)
    (case m_MOST_TEXT => k_is)
    (case m_MOST_WORD => k_is)
    (case n_NoExpander => k_is)
    (case n_NoText => k_is)
    (case n_Mismatch => k_is)
    (case n_NoOutcome => k_is)
    (case xi_NoExpander => k_exc)
    (case kc_NoExpander => k_is)
    (case b_NoExpander => k_is)
    (case t_NoExpander => k_is)
    (case ic_NoExpander => k_is)
    (case xi_NoText => k_exc)
    (case kc_NoText => k_is)
    (case b_NoText => k_is)
    (case t_NoText => k_is)
    (case ic_NoText => k_is)
    (case xi_Mismatch => k_exc)
    (case kc_Mismatch => k_is)
    (case b_Mismatch => k_is)
    (case t_Mismatch => k_is)
    (case ic_Mismatch => k_is)
    (case hg_NoOutcome => k_is)
    (case hk_NoOutcome => k_is)
    (case b_NoOutcome => k_is)
    (case hd_NoOutcome => k_is)
    (case t_NoOutcome => k_is)
    (case ic_NoOutcome => k_is)
    (case nf_NoOutcome_kind => k_is)
    (case nf_NoOutcome_thread => k_is)
    (case xl_NoOutcome => k_is)
    (case sa_NoOutcome => k_is)
    (case kc_NoOutcome => k_is)
    (case ii_NoOutcome => k_is)
    (case it_NoOutcome => k_is)
    (case il_NoOutcome => k_is)
    (case icd_NoOutcome => k_is)
    (case ik_NoOutcome => k_is)
    (case s_NoOutcome_NoOutcome => first | rfl | k_is)
    (case s_Mismatch_NoOutcome => first | rfl | k_is)
    (case s_Mismatch_Mismatch => first | rfl | k_is)

