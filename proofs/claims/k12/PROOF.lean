import PyProof.Rows.All
import Wide.All
import OpenK.AllK
import Wide.FinOn
import HandS.ForMost
import HandS.ForExc
import HandS.IsInst
import HandS.StrMore
import PyProof.Rows.StrCut
import PyProof.StrOps2
import PyProof.ListStr
import HandS.Codes
import HandS.ExcInit
import HandS.ExcValue
import HandS.ExcIs
import HandS.ExcField
import HandS.Set
import HandS.Strs
import PyProof.Rows.SetFrom
import HandS.Walk
import HandS.Style
import HandS.Dict
import HandS.DictComp
import KE.KEqDict
import HandS.Replace
import PyProof.Rows.StrLawsPart
import HandS.Text
import KE.KRevSl
import HandS.TupAny
import HandS.TupMul
import HandS.TryMany
import HandS.SuiteRaise
import HandS.ExcOwn
import HandS.MakeKwOnly
import HandS.DictTup
import KE.KDictWalk
import HandS.Iter
import HandS.Deep
import KE.KPairComp
import KE.KDictPairs
import HandS.TupLen
import HandS.Zip0
import KE.KDictCopyH
import HandS.Finally
import HandS.More
import PySem.Challenge.RW_rescans_k12_whole_values_and_outcomes
set_option Elab.async false
set_option linter.all false
set_option maxRecDepth 100000
set_option maxHeartbeats 8000000
/-! A def's promise where it is known that no container is being shown (guards): repr of containers can be told then. -/
namespace G
open PySem PySem.Spec PyProof.Rows L2

/-- as FnOk, but asked only where nothing is being shown -/
structure FnG (P : Program) (w : World) (K : PySem.W.Frag) (mg : Str → Option Value) (base : Heap) (CX : CXT) (k : Nat)
    (f : Addr) (fd : FuncData) (ps : List Str) (sp : Sp) : Prop where
  len : ∀ vs H Q E, sp vs H Q E → vs.length = ps.length
  run : ∀ (A : Around) (outer : List Env) (s : Shared) (H : Hp) (args : Args) (us : List Value) (vs : List V) (Q : VK) (E : XK),
    A.guards = some [] → Room k A → Env0 P w K mg base A outer s H → BindsTo s fd args (ps.zip us) → Vals vs us → sp vs H Q E →
      codeAny (model P w) A (.call (.ref f) args) (CR CX outer P w H s Q E) s

theorem _root_.L2.FnOk.g {P w K mg base CX k f fd ps sp} (F : FnOk P w K mg base CX k f fd ps sp) : FnG P w K mg base CX k f fd ps sp :=
  ⟨F.len, fun A outer s H args us vs Q E _ => F.run A outer s H args us vs Q E⟩

theorem FnG.imp {P w K mg base CX k f fd ps sp sp'} (F : FnG P w K mg base CX k f fd ps sp)
    (h : ∀ vs H Q E, sp' vs H Q E → sp vs H Q E) : FnG P w K mg base CX k f fd ps sp' :=
  ⟨fun vs H Q E q => F.len _ _ _ _ (h _ _ _ _ q), fun A o s H ar us vs Q E g r e b v q => F.run A o s H ar us vs Q E g r e b v (h _ _ _ _ q)⟩

section
variable {X : Cx} {CX : CXT} {k : Nat} {f : Addr} {fd : FuncData} {ps : List Str} {sp : Sp} {dvs : List V} {ds : List Value} {E : XK} {x : Str} {p pos : Pos} {e : Expr} {es : List Expr} {t : TA}

theorem run_fnG {pins σ H s Q us vs} (F : FnG X.prog X.w X.K X.mg X.base CX k f fd ps sp) (gd : X.A.guards = some []) (hr : Room k X.A)
    (hb : Binds X.K fd ps ds) (hd : Vals dvs ds) (hx : Passes CX X E) (I : Inv X pins σ H s) (r : Vals vs us) (h : sp (vs ++ dvs) H Q E) :
    wpAny (model X.prog X.w) X.A (call (.ref f) us) (EP X pins σ Q) X.xe s := by
  have rr := r.append hd
  have ll : (us ++ ds).length = ps.length := rr.length ▸ F.len _ _ _ _ h
  refine wpAny_call (codeAny_mono (F.run _ _ _ _ ⟨us, []⟩ _ _ Q E gd hr I.env0 (hb s us I.kIn ll) rr h) ?_)
  intro res t' hq
  cases res with
  | error er => exact hx pins σ H s er t' I hq
  | ok fl =>
    cases fl with
    | ret u => exact I.after hq
    | next => exact (show False from hq).elim
    | brk => exact (show False from hq).elim
    | cont => exact (show False from hq).elim

theorem pe_callG (F : FnG X.prog X.w X.K X.mg X.base CX k f fd ps sp) (gd : X.A.guards = some []) (hr : Room k X.A) (hg : Gl X x)
    (hm : X.mg x = some (.ref f)) (hk : PySem.W.keepIn X.K (.ref f) = true) (hb : Binds X.K fd ps ds) (hd : Vals dvs ds) (hx : Passes CX X E)
    (ha : PA X (e :: es) t) (hdb : (x == ("__debug__" : Str)) = false := by decide)
    (he : starEach (e :: es) X.env = (false, eval e X.env) :: starEach es X.env := by rfl)
    (hpl : (backTo pos (starEach es X.env)).any (·.1) = false := by rfl) :
    PE X (.Call (.Name x p) (e :: es) [] pos) (tCall sp dvs E t) := by
  constructor
  intro pins s σ H Q I h
  refine wpAny_Call_Name_kw (ld_glob I hg hm ?_ hdb)
  refine PySem.W.callWith_K (h₀ := X.base) I.ok.mod.kin hk ?_ he hpl
  refine thn (ha.run pos pins s σ H _ I h) ?_
  rintro us s1 ⟨vs, H1, I1, r, q⟩
  exact ⟨I1.kIn, run_fnG F gd hr hb hd hx I1 r q⟩

theorem pe_callG0 (F : FnG X.prog X.w X.K X.mg X.base CX k f fd ps sp) (gd : X.A.guards = some []) (hr : Room k X.A) (hg : Gl X x)
    (hm : X.mg x = some (.ref f)) (hk : PySem.W.keepIn X.K (.ref f) = true) (hb : Binds X.K fd ps ds) (hd : Vals dvs ds) (hx : Passes CX X E)
    (hdb : (x == ("__debug__" : Str)) = false := by decide) : PE X (.Call (.Name x p) [] [] pos) (tCall sp dvs E tNil) := by
  constructor
  intro pins s σ H Q I h
  refine wpAny_Call_Name_kw (ld_glob I hg hm ?_ hdb)
  exact PySem.W.callWith_K0 I.kIn hk (run_fnG (us := []) F gd hr hb hd hx I .nil h)
end

/-- a def by its body, where nothing is being shown -/
theorem fn_ofG {CX : CXT} {P : Program} {w : World} {K : PySem.W.Frag} {mg : Str → Option Value} {base : Heap} {k : Nat} {f : Addr} {name qual : Str}
    {params : Arguments} {body : List Stmt} {scope : Scope} {dV kV doc pm cdv ct oc : Value} {an od : Option Addr} {osl : Array (Option Value)} {N ps : List Str} {sp : Sp}
    (lk : K.lookup f = some ⟨oc, od, .func (PySem.W.fnOf name qual params body scope dV kV doc pm an cdv ct), osl⟩)
    (hcd : PySem.W.codeIn K cdv qual = true) (S : FnScope N ps scope) (len : ∀ vs H Q E, sp vs H Q E → vs.length = ps.length)
    (hbody : ∀ (A : Around) (outer : List Env) (s : Shared) (H : Hp) (vs : List V) (Q : VK) (E : XK), A.guards = some [] →
      Room k (A.deeper (envOfC qual scope s.heap.objs.size f cdv)) → sp vs H Q E →
      ∃ t, PSs (cxOf CX P w K mg base N qual scope f cdv A outer s H E) body t ∧ t { nx := fun _ H' => Q .non H', rt := Q } (start N vs) H) :
    FnG P w K mg base CX (k + 1) f (PySem.W.fnOf name qual params body scope dV kV doc pm an cdv ct) ps sp := by
  refine ⟨len, ?_⟩
  intro A outer s H args us vs Q E gd hr e0 hb r hsp
  have inK : K.In s.heap := e0.mod.kin.keeps fun b o q => (e0.bs b o q).1
  have nolim : s.heap.NoLimit := e0.mod.nolimit.keeps fun b o q => (e0.bs b o q).1
  refine codeAny_call_function hr.depth (inK _ _ lk) rfl S.co S.gen rfl (PySem.W.codeRec_of inK hcd) (hb _ _ _ _ ?_)
  refine wpAny_newFunctionEnv_cells S.kind ?_ ?_
  · rintro ⟨n, v⟩ hy
    have q := S.par n (List.of_mem_zip hy).1
    exact q.imp id fun z => ⟨z, PySem.W.cellsFrom_some _ _ _ (.inl z)⟩
  · rintro env rfl s1 x
    refine ⟨nolim.keeps x.toInCall.keep, codeAny_func ?_⟩
    obtain ⟨t, ht, hq⟩ := hbody A outer s H vs Q E gd (hr.deeper _) hsp
    have I := inv_start (CX := CX) (E := E) (mg := mg) (base := base) S hr.hd e0 (len _ _ _ _ hsp) r x
    refine wpAny_mono (ht.run [] s1 _ H _ I hq) ?_ fun _ _ z => z
    intro fl s' hs
    have fin : ∀ {σ' : L2.St} {H' : Hp} {v : V} {u : Value}, Inv (cxOf CX P w K mg base N qual scope f cdv A outer s H E) [] σ' H' s' →
        RelV v u → Q v H' → CE outer P w H s Q u s' := by
      intro σ' H' v u J rv z
      exact ⟨v, H', J.os, J.bare, J.base, J.hok, rv, z⟩
    cases fl with
    | ret u =>
      obtain ⟨v, σ', H', J, rv, z⟩ := hs
      exact fin J rv z
    | next =>
      obtain ⟨σ', H', J, z⟩ := hs
      exact fin (v := V.non) (u := Value.none) J rfl z
    | brk =>
      obtain ⟨_, _, _, z⟩ := hs
      exact False.elim z
    | cont =>
      obtain ⟨_, _, _, z⟩ := hs
      exact False.elim z

theorem _root_.L2.Fun.okG {P w K mg base} {x qual : Str} {st : Stmt} {f : Addr} {fd : FuncData} {N ps : List Str} {k : Nat} {sp : Sp} (F : Fun K x qual st f fd)
    (S : FnScope N ps (defScope st)) (len : ∀ vs H Q E, sp vs H Q E → vs.length = ps.length)
    (hbody : ∀ (cdv : Value) (A : Around) (outer : List Env) (s : Shared) (H : Hp) (vs : List V) (Q : VK) (E : XK), A.guards = some [] →
      Room k (A.deeper (envOfC qual (defScope st) s.heap.objs.size f cdv)) → sp vs H Q E →
      ∃ t, PSs (cxOf CX0 P w K mg base N qual (defScope st) f cdv A outer s H E).nox (defBody st) t ∧ t { nx := fun _ H' => Q .non H', rt := Q } (start N vs) H) :
    FnG P w K mg base CX0 (k + 1) f fd ps sp := by
  obtain ⟨oc, od, kV, doc, pm, an, cdv, ct, osl, rfl, lk, hcd⟩ := F.ex
  refine fn_ofG lk hcd S len ?_
  intro A outer s H vs Q E gd hr hsp
  obtain ⟨t, h, q⟩ := hbody cdv A outer s H vs Q E gd hr hsp
  exact ⟨t, h.nox, q⟩

theorem _root_.L2.Fun.okXG {P w K mg base} {x qual : Str} {st : Stmt} {f : Addr} {fd : FuncData} {N ps : List Str} {k : Nat} {sp : Sp} (F : Fun K x qual st f fd)
    (S : FnScope N ps (defScope st)) (len : ∀ vs H Q E, sp vs H Q E → vs.length = ps.length)
    (hbody : ∀ (cdv : Value) (A : Around) (outer : List Env) (s : Shared) (H : Hp) (vs : List V) (Q : VK) (E : XK), A.guards = some [] →
      Room k (A.deeper (envOfC qual (defScope st) s.heap.objs.size f cdv)) → sp vs H Q E →
      ∃ t, PSs (cxOf (L2.CX P w) P w K mg base N qual (defScope st) f cdv A outer s H E) (defBody st) t ∧ t { nx := fun _ H' => Q .non H', rt := Q } (start N vs) H) :
    FnG P w K mg base (L2.CX P w) (k + 1) f fd ps sp := by
  obtain ⟨oc, od, kV, doc, pm, an, cdv, ct, osl, rfl, lk, hcd⟩ := F.ex
  exact fn_ofG lk hcd S len fun A outer s H vs Q E gd hr hsp => hbody cdv A outer s H vs Q E gd hr hsp

/-! ### the law's own call -/
theorem law_callG {P : Program} {w : World} {K : PySem.W.Frag} {mg mb : Str → Option Value} {CX : CXT} {k : Nat} {fa a : Addr} {fd : FuncData} {x : Str} {sp : Sp}
    {z : Shared} {vs : List Value} {ns : List Int} (inK : K.In z.heap) (hns : z.heap.Ns mainGlobals mg) (hb : z.heap.Ns builtinsNs mb)
    (hbb : ∀ y : Str, y ≠ "__name__" → mb y = bootBuiltins y) (nolim : z.heap.NoLimit) (hgen : z.gens = #[])
    (ha : z.heap.get? a = some { cls := .type "list", data := .seq vs.toArray }) (hi : IntsAre vs ns) (hl : ns.length ≤ sizeLine) (hr : Room k callerA)
    (F : ∀ base : Heap, K.In base → base.Ns mainGlobals mg → FnG P w K mg base CX k fa fd [x] sp)
    (hbind : ∀ (s : Shared) (u : Value), BindsTo s fd ⟨[u], []⟩ [(x, u)])
    (hsp : ∀ H : Hp, Only H → SqL K H a (ns.map V.int) → sp [.ref a] H (fun v _ => v = .bl true) fun _ _ _ => False)
    (hCX : ∀ H e s', CX [] H z (fun _ _ _ => False) e s' → False) :
    codeAny (model P w) callerA (.call (.ref fa) ⟨[.ref a], []⟩) (fun r s' => r = .ok (.ret (.bool true)) ∧ OldK z.heap s'.heap ∧ s'.os = z.os ∧ AllBare s'.gens) z := by
  have rv := vals_ints hi
  have lv := hi.length
  have main : ∀ H : Hp, Only H → SqL K H a (ns.map V.int) → HOk P w H z.heap → (∀ b, H b ≠ none → b = a) → (H a ≠ none → K.lookup a = none) →
      codeAny (model P w) callerA (.call (.ref fa) ⟨[.ref a], []⟩) (fun r s' => r = .ok (.ret (.bool true)) ∧ OldK z.heap s'.heap ∧ s'.os = z.os ∧ AllBare s'.gens) z := by
    intro H only hS ok at_a free_a
    have nd : ∀ {b : Addr} {o : Obj} {es : Array DictEntry} {ep : Nat}, z.heap.get? b = some o → o.data = .dict es ep → H b = none := by
      intro b o es ep e d
      refine Option.eq_none_iff_forall_ne_some.mpr fun u q => ?_
      obtain rfl : b = a := at_a b (q ▸ Option.some_ne_none u)
      rw [ha] at e
      cases e
      cases (show Data.seq vs.toArray _ = Data.dict es ep from d)
    have ns_of : ∀ {b : Addr} {m : Str → Option Value}, z.heap.Ns b m → (hidT z.heap H).Ns b m := by
      rintro b m ⟨o, es, ep, e, d, r⟩
      exact ⟨o, es, ep, hidT_get e (nd e d), d, r⟩
    have inB : K.In (hidT z.heap H) := by
      intro b o e
      refine hidT_get (inK b o e) (Option.eq_none_iff_forall_ne_some.mpr fun u q => ?_)
      obtain rfl : b = a := at_a b (q ▸ Option.some_ne_none u)
      rw [free_a (q ▸ Option.some_ne_none u)] at e
      cases e
    obtain ⟨mc, l1, l2⟩ := nolim
    have hM : Mod K mg (hidT z.heap H) := ⟨inB, ns_of hns, ⟨mb, ns_of hb, hbb⟩, ⟨mc, ns_of l1, l2⟩⟩
    have e0 : Env0 P w K mg (hidT z.heap H) callerA [] z H :=
      ⟨rfl, hM, fun b o e => of_hidT e, Nat.le_of_eq (hidT_size _ _), trivial, fun b hb => (List.not_mem_nil hb).elim, ok, .of_eq hgen⟩
    refine codeAny_mono ((F _ inB (ns_of hns)).run callerA [] z H _ [.ref a] [.ref a] _ _ rfl hr e0 (hbind z (.ref a)) (.cons rfl .nil) (hsp H only hS)) ?_
    intro r s' h
    cases r with
    | error e => exact (hCX H e s' h).elim
    | ok fl =>
     cases fl with
     | next => exact (show False from h).elim
     | brk => exact (show False from h).elim
     | cont => exact (show False from h).elim
     | ret u =>
      obtain ⟨v, H', os, bare, un, hok', r', q⟩ := h
      obtain rfl : v = .bl true := q
      obtain rfl : u = Value.bool true := r'
      refine ⟨rfl, OldK.of_keep fun b o e => ?_, os, bare⟩
      cases q : H b with
      | none => exact un.keep b o e q List.not_mem_nil List.not_mem_nil
      | some u =>
        rcases only b with y | ⟨ob, xs, y⟩
        · exact absurd (q.symm.trans y) (Option.some_ne_none u)
        · obtain ⟨e1, _⟩ := ok b _ y
          obtain ⟨e2, _⟩ := hok' b _ (un.frzs b ob _ y)
          rw [e] at e1
          cases e1
          exact e2
  cases hk : K.lookup a with
  | some o =>
    have e := inK a o hk
    rw [ha] at e
    cases e
    refine main (fun _ => none) (fun _ => .inl rfl) (.inr ⟨_, vs.toArray, _, hk, rfl, rfl, rfl, ?_, by simpa using rv⟩) (fun b u q => nomatch q) (fun b q => absurd rfl q) fun q => absurd rfl q
    rw [List.size_toArray, lv]
    exact hl
  | none =>
    have here : (fun b => if b = a then some (HO.frz { cls := .type "list", data := .seq vs.toArray } (.lst (ns.map V.int))) else none) a =
        some (HO.frz { cls := .type "list", data := .seq vs.toArray } (.lst (ns.map V.int))) := if_pos rfl
    refine main (fun b => if b = a then some (.frz { cls := .type "list", data := .seq vs.toArray } (.lst (ns.map V.int))) else none) ?_ (.inl (.inr ⟨_, here⟩)) ?_ ?_ fun _ => hk
    · intro b
      by_cases hb : b = a
      · exact .inr ⟨_, _, if_pos hb⟩
      · exact .inl (if_neg hb)
    · intro b u q
      by_cases hb : b = a
      · cases (if_pos hb).symm.trans q
        subst hb
        exact ⟨ha, by rw [List.length_map]; exact hl, vs, _, rv, ha⟩
      · cases (if_neg hb).symm.trans q
    · intro b q
      by_cases hb : b = a
      · exact hb
      · exact absurd (if_neg hb) q

theorem walk_ofG {l : PySem.W.OpenLaw} {n k : Nat} {q : Program} {loose : List Str} {XP : (Str → Option Value) → Heap → Prop} {YP : World → Heap → Prop} {d : DefRec}
    {K : Params → PySem.W.Frag} {CX : World → CXT} {sp : PySem.W.Frag → Sp} {x : Str} (hn : l.most = some n) (hn2 : n ≤ sizeLine) (hdf : d.params.defaults = [])
    (hr : Room k callerA) (hY : ∀ (w : World) (h : Heap), YP w h → (K w.params).In h)
    (F : ∀ (w : World) (mg : Str → Option Value) (fa : Addr) (h : Heap), (K w.params).In h → h.Ns mainGlobals mg → mg d.name = some (.ref fa) →
      ∃ fd : FuncData, (∀ (s : Shared) (u : Value), BindsTo s fd ⟨[u], []⟩ [(x, u)]) ∧
        ∀ base : Heap, (K w.params).In base → base.Ns mainGlobals mg → FnG l.prog w (K w.params) mg base (CX w) k fa fd [x] (sp (K w.params)))
    (hsp : ∀ (K : PySem.W.Frag) (H : Hp) (a : Addr) (ns : List Int), ns.length ≤ n → Only H → SqL K H a (ns.map V.int) →
      sp K [.ref a] H (fun v _ => v = .bl true) fun _ _ _ => False)
    (hCX : ∀ (w : World) (H : Hp) (s : Shared) (e : Value) (s' : Shared), CX w [] H s (fun _ _ _ => False) e s' → False) :
    PySem.W.WalkO q loose XP YP l.row.toRowW d [] (fun f vs => PySem.call f vs) := by
  refine Att.attach_call hn hdf ?_
  intro w s₀ s₁ mg mb fa o pm cd doc a vs ns G Y ho hd hcd hmg hobj hints hlen hg
  obtain ⟨fd, hb, hF⟩ := F w mg fa _ (hY w _ Y) G.T.g hmg
  exact law_callG (hY w _ Y) G.T.g G.T.b G.T.builtins G.T.nolimit hg hobj hints (Nat.le_trans hlen hn2) hr hF hb (fun H h1 h2 => hsp _ H a ns hlen h1 h2) fun H e s' => hCX w H s₁ e s'

end G

/-! Data of any depth (empty dicts too), the heap without one mutable list (the pot), repr of data. -/
namespace Lk
open PySem PySem.Spec PyProof.Rows L2 G

/-! ### the heap without the pot -/
def sans (H : Hp) (a : Addr) : Hp := fun b => if b = a then none else H b
theorem sans_ne {H : Hp} {a b : Addr} (h : b ≠ a) : sans H a b = H b := if_neg h
theorem sans_self {H : Hp} {a : Addr} : sans H a a = none := if_pos rfl
theorem sans_some {H : Hp} {a b : Addr} {o : HO} (h : sans H a b = some o) : b ≠ a ∧ H b = some o := by
  by_cases e : b = a
  · subst e
    rw [sans_self] at h
    cases h
  · exact ⟨e, (sans_ne e).symm.trans h⟩
theorem sans_of {H : Hp} {a b : Addr} {o : HO} (h : b ≠ a) (e : H b = some o) : sans H a b = some o := (sans_ne h).trans e
theorem sans_same {H : Hp} {a : Addr} : Same (sans H a) H := fun _ _ h => (sans_some h).2
/-- all but the pot stands as it stood -/
def Sm (a : Addr) (H H' : Hp) : Prop := Same (sans H a) (sans H' a)
theorem Sm.refl {a H} : Sm a H H := Same.refl _
theorem Sm.trans {a H H1 H2} (x : Sm a H H1) (y : Sm a H1 H2) : Sm a H H2 := Same.trans x y
theorem Sm.of {a H H'} (x : Same H H') : Sm a H H' := fun b o h => by
  obtain ⟨n, e⟩ := sans_some h
  exact sans_of n (x b o e)
theorem same_new {H : Hp} {p : Addr} {o : HO} (h : H p = none) : Same H (upd H p o) := fun b u e => (upd_ne (ne_of_none e h)).trans e
theorem Sm.new {a : Addr} {H : Hp} {p : Addr} {o : HO} (h : H p = none) : Sm a H (upd H p o) := Sm.of (same_new h)
theorem Sm.pot {a : Addr} {H : Hp} {o : HO} : Sm a H (upd H a o) := fun b u h => by
  obtain ⟨n, e⟩ := sans_some h
  exact sans_of n ((upd_ne n).trans e)
theorem Sm.upd {a : Addr} {H H' : Hp} {p : Addr} {o : HO} (s : Sm a H H') (h : sans H a p = none) : Sm a H (upd H' p o) := fun b u e => by
  have q := s b u e
  obtain ⟨n, q'⟩ := sans_some q
  have nb : b ≠ p := fun z => by
    rw [z, h] at e
    cases e
  exact sans_of n ((upd_ne nb).trans q')
theorem Sm.same {a H H'} (x : Sm a H H') : Same (sans H a) H' := Same.trans x sans_same

/-! ### reading under Same -/
theorem rd_mono {H H' : Hp} (s : Same H H') {a : Addr} {u : HO} (h : Rd H a u) : Rd H' a u := h.imp (s _ _) fun ⟨o, e⟩ => ⟨o, s _ _ e⟩
theorem seqL {K : PySem.W.Frag} {H H' : Hp} (s : Same H H') {a : Addr} {xs : List V} (h : SqL K H a xs) : SqL K H' a xs := h.imp (rd_mono s) id
theorem seqT {K : PySem.W.Frag} {H H' : Hp} (s : Same H H') {a : Addr} {xs : List V} (h : SqT K H a xs) : SqT K H' a xs := h.imp (rd_mono s) id

/-! ### data -/
mutual
inductive Dq (K : PySem.W.Frag) (H : Hp) : V → PyData → Prop
  | non : Dq K H .non .none
  | bl (b : Bool) : Dq K H (.bl b) (.bool b)
  | int (i : Int) : Dq K H (.int i) (.int i)
  | str (x : Str) : Dq K H (.str x) (.str x)
  | lst {a : Addr} {xs : List V} {ds : List PyData} : SqL K H a xs → DqAll K H xs ds → Dq K H (.ref a) (.list ds)
  | tup {a : Addr} {xs : List V} {ds : List PyData} : SqT K H a xs → DqAll K H xs ds → Dq K H (.ref a) (.tuple ds)
  | emp {a : Addr} : H a = some (.dK []) → Dq K H (.ref a) (.dict [])
inductive DqAll (K : PySem.W.Frag) (H : Hp) : List V → List PyData → Prop
  | nil : DqAll K H [] []
  | cons {v : V} {vs : List V} {d : PyData} {ds : List PyData} : Dq K H v d → DqAll K H vs ds → DqAll K H (v :: vs) (d :: ds)
end
mutual
theorem Dq.mono {K : PySem.W.Frag} {H H' : Hp} (s : Same H H') : ∀ {v : V} {d : PyData}, Dq K H v d → Dq K H' v d
  | _, _, .non => .non
  | _, _, .bl b => .bl b
  | _, _, .int i => .int i
  | _, _, .str x => .str x
  | _, _, .lst h t => .lst (seqL s h) (DqAll.mono s t)
  | _, _, .tup h t => .tup (seqT s h) (DqAll.mono s t)
  | _, _, .emp h => .emp (s _ _ h)
theorem DqAll.mono {K : PySem.W.Frag} {H H' : Hp} (s : Same H H') : ∀ {vs : List V} {ds : List PyData}, DqAll K H vs ds → DqAll K H' vs ds
  | _, _, .nil => .nil
  | _, _, .cons h t => .cons (Dq.mono s h) (DqAll.mono s t)
end
theorem DqAll.length {K : PySem.W.Frag} {H : Hp} : ∀ {vs : List V} {ds : List PyData}, DqAll K H vs ds → vs.length = ds.length
  | _, _, .nil => rfl
  | _, _, .cons _ t => congrArg (· + 1) t.length
theorem DqAll.get {K : PySem.W.Frag} {H : Hp} : ∀ {vs : List V} {ds : List PyData} {i : Nat} {v : V}, DqAll K H vs ds → vs[i]? = some v → ∃ d, ds[i]? = some d ∧ Dq K H v d
  | _, _, _, _, .nil, e => by simp at e
  | _, _, 0, _, .cons h _, e => by
    obtain rfl := Option.some.inj e
    exact ⟨_, rfl, h⟩
  | _, _, i + 1, _, .cons _ t, e => DqAll.get (i := i) t e
theorem DqAll.append {K : PySem.W.Frag} {H : Hp} : ∀ {vs ws : List V} {ds es : List PyData}, DqAll K H vs ds → DqAll K H ws es → DqAll K H (vs ++ ws) (ds ++ es)
  | _, _, _, _, .nil, s => s
  | _, _, _, _, .cons h t, s => .cons h (t.append s)
theorem DqAll.take {K : PySem.W.Frag} {H : Hp} : ∀ {vs : List V} {ds : List PyData} (n : Nat), DqAll K H vs ds → DqAll K H (vs.take n) (ds.take n)
  | _, _, 0, _ => .nil
  | _, _, _ + 1, .nil => .nil
  | _, _, n + 1, .cons h t => .cons h (t.take n)
theorem DqAll.drop {K : PySem.W.Frag} {H : Hp} : ∀ {vs : List V} {ds : List PyData} (n : Nat), DqAll K H vs ds → DqAll K H (vs.drop n) (ds.drop n)
  | _, _, 0, h => h
  | _, _, _ + 1, .nil => .nil
  | _, _, n + 1, .cons _ t => t.drop n
theorem DqAll.rep {K : PySem.W.Frag} {H : Hp} {v : V} {d : PyData} (h : Dq K H v d) : ∀ n, DqAll K H (List.replicate n v) (List.replicate n d)
  | 0 => .nil
  | n + 1 => .cons h (DqAll.rep h n)

/-! ### the type of data -/
def tyName : PyData → String
  | .none => "NoneType"
  | .bool _ => "bool"
  | .int _ => "int"
  | .str _ => "str"
  | .list _ => "list"
  | .tuple _ => "tuple"
  | .dict _ => "dict"
theorem tyx_seqL {K : PySem.W.Frag} {H : Hp} {a : Addr} {xs : List V} (h : SqL K H a xs) : TyX K H (.ref a) (.type "list") := by
  rcases h with (h | ⟨o, h⟩) | ⟨o, _, _, h, hc, _⟩
  · exact .base (.lst h)
  · exact .base (.frz h)
  · exact .kList h hc
theorem tyx_seqT {K : PySem.W.Frag} {H : Hp} {a : Addr} {xs : List V} (h : SqT K H a xs) : TyX K H (.ref a) (.type "tuple") := by
  rcases h with (h | ⟨o, h⟩) | ⟨o, _, _, h, hc, _⟩
  · exact .base (.tup h)
  · exact .fTuple h
  · exact .kTuple h hc
theorem Dq.ty {K : PySem.W.Frag} {H : Hp} {v : V} {d : PyData} (h : Dq K H v d) : TyX K H v (.type (tyName d)) := by
  cases h with
  | non => exact .base .non
  | bl b => exact .base (.bl b)
  | int i => exact .base (.int i)
  | str x => exact .base (.str x)
  | lst h _ => exact tyx_seqL h
  | tup h _ => exact tyx_seqT h
  | emp h => exact .base (.dK h)
/-- isinstance(x, T) of data, T a built-in class -/
def isA (T : String) (d : PyData) : Bool := (kitB (tyName d) T).getD false
theorem Dq.isi {K : PySem.W.Frag} {H : Hp} {v : V} {d : PyData} {T : String} {Q : VK} (h : Dq K H v d) (k : (kitB (tyName d) T).isSome = true) (q : Q (.bl (isA T d)) H) :
    rIsi K [v, .ty T] H Q := by
  obtain ⟨b, e⟩ := Option.isSome_iff_exists.mp k
  have eb : isA T d = b := by
    unfold isA
    rw [e]
    exact rfl
  rw [eb] at q
  exact ⟨v, .ty T, _, _, b, rfl, .ty T, h.ty, kit_ty e, q⟩

/-! ### repr of data -/
mutual
def hasList : PyData → Bool
  | .list _ => true
  | .tuple xs => hasListAll xs
  | _ => false
def hasListAll : List PyData → Bool
  | [] => false
  | x :: xs => hasList x || hasListAll xs
end
section
variable {X : Cx} {pins : List (Addr × Obj)} {σ : L2.St} {H : Hp} {s : Shared}
mutual
theorem Dq.reads (I : Inv X pins σ H s) : ∀ (d : PyData) (v : V) (u : Value), Dq X.K H v d → RelV v u → ∃ as, Reads s.heap u d as ∧ (hasList d = false → sysModules ∉ as)
  | .none, _, _, h, r => by
    cases h
    cases r
    exact ⟨_, Reads.none, fun _ => List.not_mem_nil⟩
  | .bool b, _, _, h, r => by
    cases h
    cases r
    exact ⟨_, Reads.bool b, fun _ => List.not_mem_nil⟩
  | .int i, _, _, h, r => by
    cases h
    obtain ⟨t, rfl⟩ := r
    exact ⟨_, Reads.int i t, fun _ => List.not_mem_nil⟩
  | .str x, _, _, h, r => by
    cases h
    obtain ⟨t, rfl⟩ := r
    exact ⟨_, Reads.str x t, fun _ => List.not_mem_nil⟩
  | .list ds, _, _, h, r => by
    cases h with
    | lst hs ha =>
      cases r
      obtain ⟨its, rv, ⟨o, n, ho, hc, _, hd⟩, _⟩ := I.list hs
      obtain ⟨as, hr, _⟩ := DqAll.reads I ds _ its ha rv
      exact ⟨_, Reads.list ho hc hd hr, fun q => by
        unfold hasList at q
        cases q⟩
  | .tuple ds, _, _, h, r => by
    cases h with
    | tup hs ha =>
      cases r
      obtain ⟨its, rv, ⟨o, ho, hc, n, hd⟩, _⟩ := I.tuple hs
      obtain ⟨as, hr, hm⟩ := DqAll.reads I ds _ its ha rv
      exact ⟨_, Reads.tuple ho hc hd hr, fun q => hm (by
        unfold hasList at q
        exact q)⟩
  | .dict kvs, _, _, h, r => by
    cases h with
    | emp he =>
      cases r
      obtain ⟨_, ns, vs, kv, o, es, ep, ho, hx, hd, _, hp, _⟩ := I.hok _ _ he
      cases kv
      have en : es.toList = [] := List.eq_nil_of_length_eq_zero (by
        rw [hp.length]
        exact rfl)
      refine ⟨_, Reads.dict (as := []) (bs := []) ho hx.1 hd (by
        rw [en]
        exact .nil) (by
        rw [en]
        exact .nil), fun _ => ?_⟩
      intro z
      have z' : sysModules ∈ [_] := z
      rw [List.mem_singleton] at z'
      rw [← z'] at ns
      simp at ns
theorem DqAll.reads (I : Inv X pins σ H s) : ∀ (ds : List PyData) (vs : List V) (us : List Value), DqAll X.K H vs ds → Vals vs us → ∃ as, ReadsAll s.heap us ds as ∧ (hasListAll ds = false → sysModules ∉ as)
  | [], _, _, h, r => by
    cases h
    cases r
    exact ⟨_, ReadsAll.nil, fun _ => List.not_mem_nil⟩
  | d :: ds, _, _, h, r => by
    cases h with
    | cons h1 h2 =>
      cases r with
      | cons r1 r2 =>
        obtain ⟨as, q1, m1⟩ := Dq.reads I d _ _ h1 r1
        obtain ⟨bs, q2, m2⟩ := DqAll.reads I ds _ _ h2 r2
        refine ⟨_, ReadsAll.cons q1 q2, fun q => ?_⟩
        unfold hasListAll at q
        rw [Bool.or_eq_false_iff] at q
        intro z
        rcases List.mem_append.mp z with z | z
        · exact m1 q.1 z
        · exact m2 q.2 z
end
end
/-- what repr is asked of here: shallow enough, short enough, no list and dict together -/
def ReprOk (d : PyData) : Prop := d.showable = true ∧ (d.hasDict = true → hasList d = false) ∧ d.depth ≤ 60 ∧ d.shown.length ≤ sizeLine
def rRepr (K : PySem.W.Frag) : List V → Hp → VK → Prop := fun xs H Q => ∃ v d, xs = [v] ∧ Dq K H v d ∧ ReprOk d ∧ Q (.str d.shown) H
theorem call_repr_data {X : Cx} (gd : X.A.guards = some []) (hu : X.A.units + 64 < cLine) : CallR X (.builtin "repr") (rRepr X.K) := by
  intro pins s σ H xs us Q I r h
  obtain ⟨v, d, rfl, hd, ⟨hs, hl, h60, hz⟩, q⟩ := h
  obtain ⟨u, rfl, rv⟩ : ∃ u, us = [u] ∧ RelV v u := by
    cases r with
    | cons a b =>
      cases b
      exact ⟨_, rfl, a⟩
  have fin : ∀ (h' : Heap) (t t' : Nat), (∀ b o, s.heap.get? b = some o → h'.get? b = some o) → EP X pins σ Q (.str d.shown t) { s with heap := h', toks := t' } :=
    fun h' t t' k => ⟨.str d.shown, H, I.kept k, ⟨t, rfl⟩, q⟩
  have big : ∀ a, u = .ref a → wpAny (model X.prog X.w) X.A (call (.builtin "repr") [u]) (EP X pins σ Q) X.xe s := by
    rintro a rfl
    obtain ⟨as, hr, hm⟩ := Dq.reads I d v _ hd rv
    exact repr_of_reads' hr hs (fun z => hm (hl z)) gd (by omega) (fun _ _ e => e) (fun h' t tk k => fin h' t tk k) hz
  cases hd with
  | non =>
    cases rv
    exact PySem.P.repr_of_none (fin s.heap _ _ fun _ _ e => e)
  | bl b =>
    cases rv
    refine PySem.P.repr_of_bool (b := b) ?_
    have e : (if b = true then ("True" : Str) else "False") = PyData.shown (.bool b) := by
      unfold PyData.shown
      exact rfl
    have f := fin s.heap s.toks (s.toks + 1) fun _ _ e => e
    rw [← e] at f
    exact f
  | int i =>
    obtain ⟨t, rfl⟩ := rv
    refine PySem.P.repr_of_int (a := i) (by
      unfold PyData.showable at hs
      exact of_decide_eq_true hs) ?_
    have f := fin s.heap s.toks (s.toks + 1) fun _ _ e => e
    unfold PyData.shown at f
    exact f
  | str x =>
    obtain ⟨t, rfl⟩ := rv
    unfold PyData.shown at hz
    refine PySem.P.repr_of_str (x := x) ?_ hz
    have f := fin s.heap s.toks (s.toks + 1) fun _ _ e => e
    unfold PyData.shown at f
    exact f
  | lst h1 h2 => exact big _ rv
  | tup h1 h2 => exact big _ rv
  | emp h1 => exact big _ rv
end Lk

/-! Texts: signs of a text as values, list of a text, a text repeated, strip. -/
namespace Lk
open PySem PySem.Spec PyProof.Rows L2 G PySem.Builtin.Str PySem.Builtin

/-- a text by its codes -/
abbrev tx (l : List Nat) : Str := ⟨l.toArray⟩
theorem tx_of (x : Str) : x = tx x.cps.toList := rfl
theorem tx_inj {a b : List Nat} (h : tx a = tx b) : a = b := by
  have := congrArg (fun s : Str => s.cps.toList) h
  simpa using this
theorem str_ext {x y : Str} (h : x.cps.toList = y.cps.toList) : x = y := by
  cases x
  cases y
  simp at h
  subst h
  rfl
/-- a text's signs, as values -/
def sg (z : Str) : List V := z.cps.toList.map fun c => V.str ⟨#[c]⟩
theorem sg_len (z : Str) : (sg z).length = z.length := by
  unfold sg
  rw [List.length_map]
  exact rfl

theorem vals_of_get : ∀ {xs : List V} {us : List Value}, xs.length = us.length → (∀ (i : Nat) (x : V) (u : Value), xs[i]? = some x → us[i]? = some u → RelV x u) → Vals xs us
  | [], [], _, _ => .nil
  | _ :: _, [], h, _ => by simp at h
  | [], _ :: _, h, _ => by simp at h
  | x :: xs, u :: us, h, k => .cons (k 0 x u rfl rfl) (vals_of_get (by simpa using h) fun i a b e f => k (i + 1) a b (by simpa using e) (by simpa using f))

section
variable {X : Cx}
/-- list(s), s a text -/
def rListS : List V → Hp → VK → Prop := fun xs H Q => ∃ z : Str, xs = [.str z] ∧ z.length ≤ sizeLine ∧ ∀ l, H l = none → Q (.ref l) (upd H l (.lst (sg z)))
theorem call_list_ofS (hc : X.calm = true) : CallR X (.type "list") rListS := by
  intro pins s σ H xs us Q I r h
  obtain ⟨z, rfl, hz, q⟩ := h
  obtain ⟨u, rfl, t, rfl⟩ : ∃ u, us = [u] ∧ ∃ t, u = Value.str z t := by
    cases r with
    | cons a b =>
      cases b
      exact ⟨_, rfl, a⟩
  refine call_list_str (I.ok.hd hc) z t ?_ hz
  intro h' tk acc c kp e hacc
  obtain ⟨n1, n2⟩ := hacc
  have v : Vals (sg z) acc.toList := by
    refine vals_of_get (by rw [sg_len, Array.length_toList, n1]; rfl) fun i x u e1 e2 => ?_
    unfold sg at e1
    rw [List.getElem?_map, Option.map_eq_some_iff] at e1
    obtain ⟨c, ec, rfl⟩ := e1
    rw [Array.getElem?_toList] at e2
    obtain ⟨c', tu, ec', rfl⟩ := n2 i u e2
    rw [Array.getElem?_toList] at ec
    rw [ec] at ec'
    cases ec'
    exact ⟨tu, rfl⟩
  refine ⟨.ref s.heap.objs.size, upd H s.heap.objs.size (.lst (sg z)), I.laid (t' := tk) kp (Nat.le_refl _) ?_, rfl, q _ (I.hok.fresh (Nat.le_refl _))⟩
  exact ⟨by rw [sg_len]; exact hz, acc.toList, c, v, by simpa using e⟩

/-- s repeated -/
def repS (z : Str) : Nat → Str
  | 0 => tx []
  | n + 1 => tx (z.cps.toList ++ (repS z n).cps.toList)
theorem repS_codes (z : Str) : ∀ n, (repS z n).cps.toList = (List.replicate n z.cps.toList).flatten
  | 0 => rfl
  | n + 1 => by
    unfold repS
    rw [List.replicate_succ, List.flatten_cons, ← repS_codes z n]
theorem rep_fold (c : Array Nat) : ∀ (n : Nat) (acc : Array Nat), ((List.replicate n c).foldl (· ++ ·) acc).toList = acc.toList ++ (List.replicate n c.toList).flatten
  | 0, acc => by simp
  | n + 1, acc => by
    rw [List.replicate_succ, List.foldl_cons, rep_fold c n, Array.toList_append, List.replicate_succ, List.flatten_cons, List.append_assoc]
theorem repS_eq (z : Str) (n : Nat) : (⟨(List.replicate n z.cps).foldl (· ++ ·) #[]⟩ : Str) = repS z n := by
  refine str_ext ?_
  rw [repS_codes]
  show ((List.replicate n z.cps).foldl (· ++ ·) #[]).toList = _
  rw [rep_fold]
  simp
theorem repS_len (z : Str) (n : Nat) : (repS z n).length = n * z.length := by
  show (repS z n).cps.size = _
  rw [← Array.length_toList, repS_codes]
  simp [Str.length]
theorem repS_one (z : Str) : repS z 1 = z := by
  refine str_ext ?_
  rw [repS_codes]
  simp
theorem repS_empty {z : Str} (h : z.length = 0) (n : Nat) : repS z n = z := by
  have e : z.cps.toList = [] := List.eq_nil_of_length_eq_zero (by simpa [Str.length] using h)
  refine str_ext ?_
  rw [repS_codes, e]
  simp
/-- s * n -/
def rMulS : R2 := fun x y H Q => ∃ (z : Str) (n : Nat), x = .str z ∧ y = .int (n : Int) ∧ z.length * n ≤ 16777216 ∧ n ≤ 16777216 ∧ Q (.str (repS z n)) H
theorem op_mulS : OpR X (binaryOp .Mult) rMulS := by
  intro pins s σ H x y v u Q I rx ry h
  obtain ⟨z, n, rfl, rfl, hz, hn, q⟩ := h
  obtain ⟨t, rfl⟩ := rx
  obtain ⟨t', rfl⟩ := ry
  refine PySem.P.mul_str (x := z) (n := (n : Int)) ?_ ?_ ?_ ?_
  · have e1 : ¬ ((n : Int) < -(2 ^ 63 : Int)) := by omega
    have e2 : ¬ ((n : Int) ≥ 2 ^ 63) := by omega
    rw [decide_eq_false e1, decide_eq_false e2]
    exact rfl
  · intro h1 _ h2
    have h3 : (1 : Int) ≤ n := by omega
    have hb : (z.length : Int) * n ≤ 16777216 := by
      have := Int.ofNat_le.mpr hz
      rw [Int.natCast_mul] at this
      exact this
    have h4 : (z.length : Int) ≤ (2 ^ 63 - 1) / n := by
      refine (Int.le_ediv_iff_mul_le (by omega)).mpr ?_
      exact Int.le_trans hb (by decide)
    omega
  · intro _ _
    unfold tooLong
    rw [Int.toNat_natCast]
    refine decide_eq_false ?_
    rw [sizeLine_eq]
    omega
  · have fin : ∀ (t t' : Nat), EP X pins σ Q (.str (repS z n) t) { s with toks := t' } := fun t t' => ⟨.str (repS z n), H, I.tok _, ⟨t, rfl⟩, q⟩
    by_cases h1 : (n : Int) < 1
    · rw [if_pos h1]
      have e : n = 0 := by omega
      subst e
      exact ⟨by decide, fin _ _⟩
    · rw [if_neg h1]
      by_cases h2 : ((n : Int) == 1 || z.length == 0) = true
      · rw [if_pos h2]
        have e : repS z n = z := by
          rw [Bool.or_eq_true, beq_iff_eq, beq_iff_eq] at h2
          rcases h2 with h2 | h2
          · have : n = 1 := by omega
            subst this
            exact repS_one z
          · exact repS_empty h2 n
        have f := fin t s.toks
        rw [e] at f
        exact f
      · rw [if_neg h2]
        rw [Int.toNat_natCast, repS_eq]
        refine ⟨?_, fin _ _⟩
        rw [repS_len, sizeLine_eq, Nat.mul_comm]
        exact hz
end

/-! ### strip leaves nothing just where all signs are among the given ones -/
theorem getD_mem {z : Str} {k : Nat} (h : k < z.length) : z.cps.getD k 0 ∈ z.cps.toList := by
  have h' : k < z.cps.size := h
  simp [Array.getD, h']
theorem mem_getD {z : Str} {c : Nat} (h : c ∈ z.cps.toList) : ∃ k, k < z.length ∧ z.cps.getD k 0 = c := by
  obtain ⟨k, hk, e⟩ := List.getElem_of_mem h
  have h' : k < z.cps.size := by simpa using hk
  refine ⟨k, h', ?_⟩
  simp [Array.getD, h']
  simpa using e
theorem stripBy_none (goes : Nat → Bool) (z : Str) : (Txt.stripBy goes true true z).length = 0 ↔ ∀ c ∈ z.cps.toList, goes c = true := by
  rw [stripBy_eq]
  obtain ⟨a0, a1, a2⟩ := lo_facts goes z
  obtain ⟨b0, b1, b2, b3⟩ := hi_facts goes z (stripLo goes true z) a0
  generalize stripLo goes true z = lo at *
  generalize stripHi goes true z lo = hi at *
  have len : (strSub z lo hi).length = hi - lo := by
    show (z.cps.extract lo hi).size = _
    have h1 : hi ≤ z.cps.size := b1
    rw [Array.size_extract]
    omega
  rw [len]
  constructor
  · intro h c hc
    obtain ⟨k, hk, rfl⟩ := mem_getD hc
    by_cases h1 : k < lo
    · exact a1 k h1
    · exact b2 k (by omega) hk
  · intro h
    by_cases h1 : lo = hi
    · omega
    · rcases a2 with h2 | h2
      · omega
      · have := h _ (getD_mem (z := z) (k := lo) (by omega))
        rw [h2] at this
        cases this
/-- all signs of z are among those of s -/
def allIn (s z : Str) : Bool := z.cps.toList.all fun c => s.cps.toList.contains c
theorem strip_none (z s : Str) : decide (V.str (Txt.stripChars z s) = V.str (tx [])) = allIn s z := by
  have h := stripBy_none s.cps.contains z
  have e : (∀ c ∈ z.cps.toList, s.cps.contains c = true) ↔ allIn s z = true := by
    unfold allIn
    rw [List.all_eq_true]
    simp
  rw [e] at h
  have f : V.str (Txt.stripChars z s) = V.str (tx []) ↔ (Txt.stripChars z s).length = 0 := by
    constructor
    · intro q
      rw [V.str.inj q]
      rfl
    · intro q
      refine congrArg V.str (str_ext ?_)
      exact List.eq_nil_of_length_eq_zero (by simpa [Str.length] using q)
  by_cases q : allIn s z = true
  · rw [q]
    exact decide_eq_true (f.mpr (h.mpr q))
  · rw [Bool.eq_false_iff.mpr q]
    exact decide_eq_false fun z' => q (h.mp (f.mp z'))
end Lk
namespace Lk
open PySem PySem.Spec PyProof.Rows L2 G
def isStr : PyData → Bool | .str _ => true | _ => false
def isInt : PyData → Bool | .int _ => true | .bool _ => true | _ => false
def isBool : PyData → Bool | .bool _ => true | _ => false
def isTup : PyData → Bool | .tuple _ => true | _ => false
def isLst : PyData → Bool | .list _ => true | _ => false
section
variable {K : PySem.W.Frag} {H : Hp} {v : V} {d : PyData} {Q : VK}
theorem kit_NoneType_str : kitB "NoneType" "str" = some false := by decide +kernel
theorem kit_bool_str : kitB "bool" "str" = some false := by decide +kernel
theorem kit_int_str : kitB "int" "str" = some false := by decide +kernel
theorem kit_str_str : kitB "str" "str" = some true := by decide +kernel
theorem kit_list_str : kitB "list" "str" = some false := by decide +kernel
theorem kit_tuple_str : kitB "tuple" "str" = some false := by decide +kernel
theorem kit_dict_str : kitB "dict" "str" = some false := by decide +kernel
theorem kStr : ∀ d : PyData, PySem.W.kitOne K (.type (tyName d)) (.type "str") = some (isStr d)
  | .none => kit_ty kit_NoneType_str
  | .bool _ => kit_ty kit_bool_str
  | .int _ => kit_ty kit_int_str
  | .str _ => kit_ty kit_str_str
  | .list _ => kit_ty kit_list_str
  | .tuple _ => kit_ty kit_tuple_str
  | .dict _ => kit_ty kit_dict_str
theorem kit_NoneType_int : kitB "NoneType" "int" = some false := by decide +kernel
theorem kit_bool_int : kitB "bool" "int" = some true := by decide +kernel
theorem kit_int_int : kitB "int" "int" = some true := by decide +kernel
theorem kit_str_int : kitB "str" "int" = some false := by decide +kernel
theorem kit_list_int : kitB "list" "int" = some false := by decide +kernel
theorem kit_tuple_int : kitB "tuple" "int" = some false := by decide +kernel
theorem kit_dict_int : kitB "dict" "int" = some false := by decide +kernel
theorem kInt : ∀ d : PyData, PySem.W.kitOne K (.type (tyName d)) (.type "int") = some (isInt d)
  | .none => kit_ty kit_NoneType_int
  | .bool _ => kit_ty kit_bool_int
  | .int _ => kit_ty kit_int_int
  | .str _ => kit_ty kit_str_int
  | .list _ => kit_ty kit_list_int
  | .tuple _ => kit_ty kit_tuple_int
  | .dict _ => kit_ty kit_dict_int
theorem kit_NoneType_bool : kitB "NoneType" "bool" = some false := by decide +kernel
theorem kit_bool_bool : kitB "bool" "bool" = some true := by decide +kernel
theorem kit_int_bool : kitB "int" "bool" = some false := by decide +kernel
theorem kit_str_bool : kitB "str" "bool" = some false := by decide +kernel
theorem kit_list_bool : kitB "list" "bool" = some false := by decide +kernel
theorem kit_tuple_bool : kitB "tuple" "bool" = some false := by decide +kernel
theorem kit_dict_bool : kitB "dict" "bool" = some false := by decide +kernel
theorem kBool : ∀ d : PyData, PySem.W.kitOne K (.type (tyName d)) (.type "bool") = some (isBool d)
  | .none => kit_ty kit_NoneType_bool
  | .bool _ => kit_ty kit_bool_bool
  | .int _ => kit_ty kit_int_bool
  | .str _ => kit_ty kit_str_bool
  | .list _ => kit_ty kit_list_bool
  | .tuple _ => kit_ty kit_tuple_bool
  | .dict _ => kit_ty kit_dict_bool
theorem kit_NoneType_tuple : kitB "NoneType" "tuple" = some false := by decide +kernel
theorem kit_bool_tuple : kitB "bool" "tuple" = some false := by decide +kernel
theorem kit_int_tuple : kitB "int" "tuple" = some false := by decide +kernel
theorem kit_str_tuple : kitB "str" "tuple" = some false := by decide +kernel
theorem kit_list_tuple : kitB "list" "tuple" = some false := by decide +kernel
theorem kit_tuple_tuple : kitB "tuple" "tuple" = some true := by decide +kernel
theorem kit_dict_tuple : kitB "dict" "tuple" = some false := by decide +kernel
theorem kTup : ∀ d : PyData, PySem.W.kitOne K (.type (tyName d)) (.type "tuple") = some (isTup d)
  | .none => kit_ty kit_NoneType_tuple
  | .bool _ => kit_ty kit_bool_tuple
  | .int _ => kit_ty kit_int_tuple
  | .str _ => kit_ty kit_str_tuple
  | .list _ => kit_ty kit_list_tuple
  | .tuple _ => kit_ty kit_tuple_tuple
  | .dict _ => kit_ty kit_dict_tuple
theorem kit_NoneType_list : kitB "NoneType" "list" = some false := by decide +kernel
theorem kit_bool_list : kitB "bool" "list" = some false := by decide +kernel
theorem kit_int_list : kitB "int" "list" = some false := by decide +kernel
theorem kit_str_list : kitB "str" "list" = some false := by decide +kernel
theorem kit_list_list : kitB "list" "list" = some true := by decide +kernel
theorem kit_tuple_list : kitB "tuple" "list" = some false := by decide +kernel
theorem kit_dict_list : kitB "dict" "list" = some false := by decide +kernel
theorem kLst : ∀ d : PyData, PySem.W.kitOne K (.type (tyName d)) (.type "list") = some (isLst d)
  | .none => kit_ty kit_NoneType_list
  | .bool _ => kit_ty kit_bool_list
  | .int _ => kit_ty kit_int_list
  | .str _ => kit_ty kit_str_list
  | .list _ => kit_ty kit_list_list
  | .tuple _ => kit_ty kit_tuple_list
  | .dict _ => kit_ty kit_dict_list
end
/-- is_word -/
def isWord (s : Str) : PyData → Bool
  | .str z => allIn s z
  | _ => false
end Lk
namespace Lk
open PySem PySem.Spec PyProof.Rows L2 G
/-! ### slices by places within, the longest common beginning -/
theorem cutS_nat (z : Str) (a b : Nat) (ha : a ≤ z.length) (hb : b ≤ z.length) : cutS z (some (a : Int)) (some (b : Int)) = tx ((z.cps.toList.drop a).take (b - a)) := by
  unfold cutS
  rw [HT.sIx_nat, HT.sIx_nat, Nat.min_eq_left ha, Nat.min_eq_left hb]
theorem cutS_to (z : Str) (b : Nat) (hb : b ≤ z.length) : cutS z none (some (b : Int)) = tx (z.cps.toList.take b) := by
  unfold cutS
  rw [HT.sIx_nat, HT.sIx_none, Nat.min_eq_left hb]
  rfl
theorem cutV_nat (xs : List V) (a b : Nat) (ha : a ≤ xs.length) (hb : b ≤ xs.length) : cutV xs (some (a : Int)) (some (b : Int)) = (xs.drop a).take (b - a) := by
  unfold cutV
  rw [HT.sIx_nat, HT.sIx_nat, Nat.min_eq_left ha, Nat.min_eq_left hb]
theorem cutV_to (xs : List V) (b : Nat) : cutV xs none (some (b : Int)) = xs.take b := by
  unfold cutV
  rw [HT.sIx_nat, HT.sIx_none]
  show (xs.take (min b xs.length - 0)) = _
  rw [Nat.sub_zero]
  by_cases h : b ≤ xs.length
  · rw [Nat.min_eq_left h]
  · rw [Nat.min_eq_right (by omega), List.take_of_length_le (Nat.le_refl _), List.take_of_length_le (by omega)]

def lcp : List Nat → List Nat → List Nat
  | a :: as, b :: bs => if a = b then a :: lcp as bs else []
  | _, _ => []
theorem lcp_len_le : ∀ as bs : List Nat, (lcp as bs).length ≤ as.length ∧ (lcp as bs).length ≤ bs.length
  | [], bs => by simp [lcp]
  | a :: as, [] => by simp [lcp]
  | a :: as, b :: bs => by
    unfold lcp
    by_cases h : a = b
    · rw [if_pos h]
      have := lcp_len_le as bs
      simp
      exact this
    · rw [if_neg h]
      simp
theorem lcp_take : ∀ (as bs : List Nat) (k : Nat), k ≤ as.length → k ≤ bs.length → (as.take k = bs.take k ↔ k ≤ (lcp as bs).length)
  | [], bs, k, h1, _ => by
    have : k = 0 := by simpa using h1
    subst this
    simp
  | a :: as, [], k, _, h2 => by
    have : k = 0 := by simpa using h2
    subst this
    simp
  | a :: as, b :: bs, 0, _, _ => by simp
  | a :: as, b :: bs, k + 1, h1, h2 => by
    have ih := lcp_take as bs k (by simpa using h1) (by simpa using h2)
    unfold lcp
    rw [List.take_succ_cons, List.take_succ_cons]
    by_cases h : a = b
    · subst h
      rw [if_pos rfl, List.length_cons]
      constructor
      · intro q
        have := ih.mp (List.cons.inj q).2
        omega
      · intro q
        rw [ih.mpr (by omega)]
    · rw [if_neg h]
      constructor
      · intro q
        exact absurd (List.cons.inj q).1 h
      · intro q
        simp at q
theorem lcp_is : ∀ as bs : List Nat, lcp as bs = as.take (lcp as bs).length
  | [], bs => by simp [lcp]
  | a :: as, [] => by simp [lcp]
  | a :: as, b :: bs => by
    have ih := lcp_is as bs
    unfold lcp
    by_cases h : a = b
    · rw [if_pos h, List.length_cons, List.take_succ_cons, ← ih]
    · rw [if_neg h]
      simp
/-- the longest text with which both begin -/
def comS (x y : Str) : Str := tx (lcp x.cps.toList y.cps.toList)
/-- one step of halving: the two parts between are the same just if the beginnings are -/
theorem part_eq {as bs : List Nat} {lo mid : Nat} (hlm : lo ≤ mid) (h : as.take lo = bs.take lo) :
    (as.drop lo).take (mid - lo) = (bs.drop lo).take (mid - lo) ↔ as.take mid = bs.take mid := by
  have e : ∀ l : List Nat, l.take mid = l.take lo ++ (l.drop lo).take (mid - lo) := fun l => by
    have := List.take_add (l := l) (i := lo) (j := mid - lo)
    rw [show lo + (mid - lo) = mid by omega] at this
    exact this
  constructor
  · intro q
    rw [e as, e bs, q, h]
  · intro q
    rw [e as, e bs, h] at q
    exact List.append_cancel_left q
end Lk

/-! The pot of numbers that a law draws from. -/
namespace Lk
open PySem PySem.Spec PyProof.Rows L2 G

theorem seqL_ne {K : PySem.W.Frag} {H : Hp} {a : Addr} {xs : List V} {o : HO} (h : SqL K (sans H a) a xs) : K.lookup a ≠ none := by
  rcases h with (h | ⟨o, h⟩) | ⟨o, its, n, h, _⟩
  · rw [sans_self] at h
    cases h
  · rw [sans_self] at h
    cases h
  · rw [h]
    exact Option.some_ne_none _
/-- at a the pot: its cells' list at c, three numbers -/
def PotAt (H : Hp) (a c : Addr) : Prop := ∃ (p x y : Int), H a = some (.lst [.ref c, .int p, .int x, .int y])
def Cells (K : PySem.W.Frag) (H : Hp) (a c : Addr) : Prop := ∃ ns : List Int, SqL K (sans H a) c (ns.map V.int) ∧ ns.length ≤ 63
structure Pot (K : PySem.W.Frag) (H : Hp) (a c : Addr) : Prop where
  at_ : PotAt H a c
  cells : Cells K H a c
theorem Cells.mono {K : PySem.W.Frag} {H H' : Hp} {a c : Addr} (s : Sm a H H') (h : Cells K H a c) : Cells K H' a c := by
  obtain ⟨ns, h, l⟩ := h
  exact ⟨ns, seqL s h, l⟩
theorem Pot.to {K : PySem.W.Frag} {H H' : Hp} {a c : Addr} (h : Pot K H a c) (s : Sm a H H') (p : PotAt H' a c) : Pot K H' a c := ⟨p, h.cells.mono s⟩
theorem PotAt.ne {H : Hp} {a c p : Addr} (h : PotAt H a c) (n : H p = none) : p ≠ a := by
  obtain ⟨_, _, _, e⟩ := h
  exact (ne_of_none e n).symm
theorem PotAt.upd {H : Hp} {a c p : Addr} {o : HO} (h : PotAt H a c) (n : p ≠ a) : PotAt (upd H p o) a c := by
  obtain ⟨x, y, z, e⟩ := h
  exact ⟨x, y, z, (upd_ne n.symm).trans e⟩
theorem PotAt.same {H H' : Hp} {a c : Addr} (h : PotAt H a c) (s : Same H H') : PotAt H' a c := by
  obtain ⟨x, y, z, e⟩ := h
  exact ⟨x, y, z, s _ _ e⟩
theorem Pot.ne {K : PySem.W.Frag} {H : Hp} {a c p : Addr} (h : Pot K H a c) (n : H p = none) : p ≠ a := h.at_.ne n
theorem Pot.same {K : PySem.W.Frag} {H H' : Hp} {a c : Addr} (h : Pot K H a c) (s : Same H H') : Pot K H' a c := h.to (Sm.of s) (h.at_.same s)
theorem Pot.new {K : PySem.W.Frag} {H : Hp} {a c p : Addr} {o : HO} (h : Pot K H a c) (n : H p = none) : Pot K (L2.upd H p o) a c := h.same (same_new n)
/-- _law_below: some number from 0 on below the bound; all but the pot stands -/
def spBelow (K : PySem.W.Frag) : Sp := fun vs H Q _ => ∃ (a c : Addr) (b : Int), vs = [.ref a, .int b] ∧ Pot K H a c ∧ 1 ≤ b ∧ b < 1073741824 ∧
  ∀ (H' : Hp) (k : Int), Sm a H H' → Pot K H' a c → 0 ≤ k → k < b → Q (.int k) H'
/-- _law_pick: some item of a list, of a tuple or of a text -/
def spPick (K : PySem.W.Frag) : Sp := fun vs H Q _ => ∃ (a c : Addr) (v : V) (xs : List V), vs = [.ref a, v] ∧ Pot K H a c ∧ xs ≠ [] ∧
  ((∃ l, v = .ref l ∧ SqL K (sans H a) l xs) ∨ (∃ l, v = .ref l ∧ SqT K (sans H a) l xs) ∨ (∃ z : Str, v = .str z ∧ xs = sg z ∧ z.length ≤ sizeLine)) ∧ xs.length < 1073741824 ∧
  ∀ (H' : Hp) (x : V), Sm a H H' → Pot K H' a c → x ∈ xs → Q x H'
theorem dq_ints {K : PySem.W.Frag} {H : Hp} : ∀ ns : List Int, DpAll K H (ns.map V.int) (ns.map PyData.int)
  | [] => .nil
  | n :: ns => .cons (.int n) (dq_ints ns)
theorem shaped_ints (ns : List Int) : SeqAt.shaped (.list (ns.map PyData.int)) = true := by
  have h1 : ∀ l : List Int, PyData.canLayAll0 (l.map PyData.int) = true := fun l => by
    induction l with
    | nil => rfl
    | cons n r ih =>
      rw [List.map_cons]
      unfold PyData.canLayAll0
      rw [ih, Bool.and_true]
      rfl
  have h2 : ∀ l : List Int, PyData.depthAll (l.map PyData.int) = 0 := fun l => by
    induction l with
    | nil => rfl
    | cons n r ih =>
      rw [List.map_cons]
      unfold PyData.depthAll
      rw [ih]
      rfl
  unfold SeqAt.shaped
  rw [Bool.and_eq_true]
  constructor
  · unfold PyData.canLay0
    exact h1 ns
  · unfold PyData.depth
    rw [h2]
    exact rfl
theorem sg_get {z : Str} {k : Nat} (h : k < (sg z).length) : ∃ c, (sg z)[k] = .str (tx [c]) ∧ z.cps.toList[k]? = some c := by
  unfold sg at h ⊢
  rw [List.length_map] at h
  refine ⟨z.cps.toList[k], ?_, List.getElem?_eq_getElem h⟩
  rw [List.getElem_map]
end Lk
namespace Lk
open PySem PySem.Spec PyProof.Rows L2 G
theorem ixN_nat {n j : Nat} (h : j < n) : ixN n (j : Int) = some j := by
  unfold ixN
  rw [if_pos (by omega)]
  simp
  exact h
end Lk
namespace Lk
open PySem PySem.Spec PyProof.Rows L2 G PySem.Builtin.Str PySem.Builtin
/-- the texts one behind another -/
def catS (ys : List Str) : List Nat := (ys.map fun y => y.cps.toList).flatten
theorem glue_fold : ∀ (rest : List Str) (acc : Array Nat), (rest.foldl (fun acc p => acc ++ (tx []).cps ++ p.cps) acc).toList = acc.toList ++ catS rest
  | [], acc => by simp [catS]
  | y :: r, acc => by
    rw [List.foldl_cons, glue_fold r]
    simp [catS]
theorem join_empty (ys : List Str) : Txt.join (tx []) ys = tx (catS ys) := by
  refine str_ext ?_
  unfold Txt.join
  cases ys with
  | nil => rfl
  | cons y r =>
    show ((r.foldl (fun acc p => acc ++ (tx []).cps ++ p.cps) y.cps)).toList = _
    rw [glue_fold]
    simp [catS]
end Lk
namespace Lk
open PySem PySem.Spec PyProof.Rows L2 G
theorem catS_ones : ∀ l : List Nat, catS (l.map fun c => tx [c]) = l
  | [] => rfl
  | c :: r => by
    have ih := catS_ones r
    unfold catS at ih ⊢
    rw [List.map_cons, List.map_cons, List.flatten_cons, ih]
    rfl
theorem sum_ones : ∀ l : List Nat, ((l.map fun c => tx [c]).map (·.length)).sum = l.length
  | [] => rfl
  | c :: r => by
    rw [List.map_cons, List.map_cons, List.sum_cons, sum_ones r, List.length_cons]
    show 1 + r.length = _
    omega
end Lk

/-! Exceptions of own classes as values: made (with and without an own __init__), asked by isinstance, their fields read. -/
namespace Lk
open PySem PySem.Spec PySem.Calls PyProof.Rows L2 G

/-- at a an exception of the class at D: one without a dict, or one with its dict at d -/
def ExAt (H : Hp) (a D : Addr) : Prop := H a = some (ExO (.ref D) a) ∨ ∃ d, H a = some (exo a D (some d)) ∧ ∃ fs, H d = some (exd d fs)
theorem ExAt.mono {H H' : Hp} {a D : Addr} (s : Same H H') (h : ExAt H a D) : ExAt H' a D :=
  h.imp (s _ _) fun ⟨d, e, fs, f⟩ => ⟨d, s _ _ e, fs, s _ _ f⟩

section
open PySem.W
variable {prog : Program} {w : World} {A : Around} {E : Value → Shared → Prop} {s : Shared} {K : Frag} {x D : Addr}

theorem exc_class {ox : Obj} {od : Option Obj} {Q : Option Value → Shared → Prop} (T : ExcC K D) (X : K.In s.heap) (I : InstAt s.heap x ox D od)
    (q : Q (some (.ref D)) { s with toks := s.toks + 1 }) : wpAny (model prog w) A (getAttr? (.ref x) "__class__") Q E s := by
  have found : findObj K D od "__class__" = some (.bind (.builtin "getset_descriptor.__get__") (.builtin "object.__class__")) := by
    obtain ⟨cd, hc, _⟩ := any_some T.hd
    unfold findObj
    rw [hc, Option.bind_some, T.ha, Option.bind_some]
    simp [T.hn, T.ht]
  obtain ⟨hp, g, d, t, os⟩ := s
  have t0 := I.type (M := model prog w)
  have t1 := looks_findIn (M := model prog w) X T.hg
  have t2 := looks_findIn (M := model prog w) X T.hk
  have t3 := looks_find (M := model prog w) X I found
  have isExc : Looks (model prog w) hp (isInstance (.ref x) (.type "BaseException")) true := t0.andThen (looks_subIn X T.hs)
  have no1 : (Value.builtin "BaseException.__getattribute__" == Value.builtin "object.__getattribute__") = false := by decide +kernel
  have no2 : (onTheHeap (Value.ref D) && Value.builtin "BaseException.__getattribute__" == Value.builtin "object.__getattribute__") = false := by
    rw [no1]
    exact rfl
  have no3 : (false && onTheHeap (Value.builtin "BaseException.__getattribute__")) = false := rfl
  unfold getAttr?
  unfold getAttrBy?
  unfold getAttrBy
  refine wpAny_bind (wpAny_mkText (wpAny_bind (wpAny_attempt (wpAny_holding ?_))))
  refine wpAny_bind (t0.at (wpAny_bind (t1.at ?_)))
  show wpAny _ _ (if (onTheHeap (Value.ref D) && Value.builtin "BaseException.__getattribute__" == Value.builtin "object.__getattribute__") = true then _ else _) _ _ _
  rw [no2]
  rw [if_neg Bool.false_ne_true]
  unfold getAttrByItsOwn
  unfold hookBefore
  refine wpAny_bind ?_
  rw [if_pos (show onTheHeap (Value.ref D) = true from rfl)]
  refine t2.at (wpAny_bind (wpAny_attempt (wpAny_holding ?_)))
  unfold callGetattribute
  rw [no3]
  rw [if_neg Bool.false_ne_true]
  unfold boundAndCalled
  rw [PySem.F.excAttr_ValueError.ga.bind (.ref x)]
  refine wpAny_bind (wpAny_pure ?_)
  show wpAny _ _ (call (.builtin "BaseException.__getattribute__") [.ref x, .str "__class__" t]) _ _ _
  refine wpAny_call (codeAny_call_builtin PySem.F.excAttr_ValueError.ga.plain PySem.F.entry_bexc_ga ?_)
  refine @check_slot (model prog w) _ _ ⟨hp, g, d, t + 1, os⟩ "BaseException.__getattribute__" "BaseException" "__getattribute__"
    (.ref x) [.str "__class__" t] [] _ (by decide +kernel) (by decide +kernel) isExc (PySem.F.args_bexc_ga (.ref x) (.str "__class__" t)) ?_
  unfold Builtin.«object.__getattribute__»
  refine wpAny_bind (wpAny_of_eq (a := ((Value.ref x : Value), [Value.str "__class__" t])) ?_ ?_)
  · first
      | rfl
      | (simp only [slotArgs]; rfl)
  refine wpAny_bind (wpAny_pure (wpAny_bind (t0.at (wpAny_bind (t3.at ?_)))))
  show wpAny _ _ (holding [Value.builtin "object.__class__"] (call (.builtin "getset_descriptor.__get__") [.builtin "object.__class__", .ref x, .ref D]) >>= ret) _ _ _
  refine wpAny_bind (wpAny_holding (wpAny_call (class_get (s := ⟨hp, g, d, t + 1, os⟩) (ox := ox) (od := od) X I T.hm ?_)))
  refine wpAny_pure ?_
  show wpAny _ _ (handedOut (.ref D)) _ _ _
  rw [handedOut_of (v := .ref D) rfl]
  first
    | exact wpAny_pure (wpAny_pure q)
    | exact wpAny_pure q
    | exact wpAny_pure (wpAny_bind (wpAny_pure (wpAny_pure q)))

theorem exc_kit (T : ExcC K D) : KitX K (.ref x) (.ref D) (fun h => ∃ ox od, InstAt h x ox D od) := by
  obtain ⟨cdD, hcD, _⟩ := any_some T.hd
  unfold clsIn at hcD
  split at hcD
  · rename_i c' d' cd' sl' ho
    constructor
    · rintro _ _ _ ⟨ox, od, I⟩
      exact I.type
    · intro M h X _ A' Q' E' s' k q
      unfold isType loadHead
      exact wpAny_bind (wpAny_loadPart (k _ _ (X _ _ ho)) (wpAny_pure q))
    · intro h tp dd its n sl X htp
      rw [Bool.eq_false_iff]
      intro q
      obtain rfl : D = tp := Value.ref.inj (beq_iff_eq.mp q)
      cases (X _ _ ho).symm.trans htp
    · rintro prog w A E Q s X ⟨ox, od, I⟩ k
      exact exc_class T X I k
  · cases hcD
end

theorem ExAt.inst {X : Cx} {pins : List (Addr × Obj)} {σ : L2.St} {H : Hp} {s : Shared} {a D : Addr} (I : Inv X pins σ H s) (h : ExAt H a D) : ∃ ox od, PySem.W.InstAt s.heap a ox D od := by
  rcases h with h | ⟨d, h, fs, hd⟩
  · have z : ObjOk X.prog X.w H s.heap a (ExO (.ref D) a) := I.hok a _ h
    obtain ⟨⟨oe, vs, e, ⟨hc, hn⟩, hdt, _⟩, _, _⟩ := z
    refine ⟨oe, none, e, hc, ?_, ?_⟩
    · unfold PySem.W.notCls
      rw [hdt] <;> rfl
    · rw [hn]
      trivial
  · obtain ⟨t1, e⟩ := exo_at I.hok h
    obtain ⟨mA, hns, _⟩ := exd_at I.hok hd
    obtain ⟨o, es, ep, ho, _⟩ := hns
    exact ⟨_, some o, e, rfl, rfl, ho⟩

section
variable {X : Cx}
/-- isinstance(e, c), e an exception as a value -/
def rIsX (K : PySem.W.Frag) : List V → Hp → VK → Prop := fun xs H Q => ∃ (a D : Addr) (c : V) (cv : Value) (b : Bool), xs = [.ref a, c] ∧ ExAt H a D ∧ ExcC K D ∧ ClsV c cv ∧ PySem.W.kitOne K (.ref D) cv = some b ∧ Q (.bl b) H
theorem call_isX : CallR X (.builtin "isinstance") (rIsX X.K) := by
  intro pins s σ H xs us Q I r h
  obtain ⟨a, D, c, cv, b, rfl, ha, T, hc, e, q⟩ := h
  cases r with
  | cons rx rr =>
    cases rr with
    | cons rt rr =>
      cases rr
      cases rx
      cases hc.eq rt
      exact PySem.W.kia_one (exc_kit T) I.kIn (ha.inst I) e (fun z => nomatch z) fun tk => ⟨.bl b, H, I.tok tk, rfl, q⟩
/-- isinstance(e, (c1, c2, ..)) -/
def rIsXT (K : PySem.W.Frag) : List V → Hp → VK → Prop := fun xs H Q => ∃ (a D tp : Addr) (cs : List V) (us : List Value) (b : Bool), xs = [.ref a, .ref tp] ∧ ExAt H a D ∧ ExcC K D ∧ H tp = some (.tup cs) ∧ Paired ClsV cs us ∧ PySem.W.kitAny K (.ref D) us = some b ∧ Q (.bl b) H
theorem call_isXT : CallR X (.builtin "isinstance") (rIsXT X.K) := by
  intro pins s σ H xs us Q I r h
  obtain ⟨a, D, tp, cs, ws, b, rfl, ha, T, hT, hc, e, q⟩ := h
  cases r with
  | cons rx rr =>
    cases rr with
    | cons rt rr =>
      cases rr
      cases rx
      cases rt
      have z : ObjOk X.prog X.w H s.heap tp (.tup cs) := I.hok tp _ hT
      obtain ⟨_, its, rv, ⟨oc, od, dt, sl⟩, h1, h2, n, h3⟩ := z
      simp only at h2 h3
      subst h2 h3
      obtain rfl := ClsV.all hc rv
      exact PySem.W.kia_tup (exc_kit T) I.kIn (ha.inst I) h1 e (fun z => nomatch z) fun tk => ⟨.bl b, H, I.tok tk, rfl, q⟩

/-- e.f of an exception with its own dict -/
def tXv (K : PySem.W.Frag) (f : Str) (te : TE) : TE := fun σ H Q => te σ H fun x H1 => ∃ (a C d : Addr) (fs : List (Str × V)) (v : V), x = .ref a ∧ XfC K C ∧ PySem.W.findIn K (.ref C) f = some none ∧
  H1 a = some (exo a C (some d)) ∧ H1 d = some (exd d fs) ∧ fs.lookup f = some v ∧ Q v H1
theorem pe_xv {e : Expr} {te : TE} {pos : Pos} {n : Str} (he : PE X e te) (hb : attributeBase e n X.env (eval e X.env) = eval e X.env := by rfl) : PE X (.Attribute e n pos) (tXv X.K n te) := by
  constructor
  intro pins s σ H Q I h
  refine attr_of hb (thn (he.run pins s σ H _ I h) ?_)
  rintro u s1 ⟨x, H1, I1, rx, a, C, d, fs, v, rfl, T, hno, ea, ed, hl, q⟩
  obtain rfl : u = Value.ref a := rx
  obtain ⟨t1, hoe⟩ := exo_at I1.hok ea
  obtain ⟨mA, hns, rel⟩ := exd_at I1.hok ed
  obtain ⟨od, hod, hlk⟩ := lookIn_ns hns
  have hv : RelO (some v) (mA n) := hl ▸ rel n
  obtain ⟨u, hu, ru⟩ := RelO.some_of hv
  have J : PySem.W.InstAt s1.heap a _ C (some od) := ⟨hoe, rfl, rfl, hod⟩
  exact HandSPX.exc_get I1.kIn J T.ga T.gg T.exC (PySem.W.findObj_own T.hdC hno rfl (by rw [hlk, hu])) (handed_of ru) ⟨v, H1, I1.tok _, ru, q⟩

/-- C(e, ..) as a value, C's own __init__ keeping sp -/
def tMkV (C : Addr) (sp : Sp) (ta : TA) : TE := fun σ H Q => ta σ H fun vs H1 => vs.length ≤ 1000 ∧ ∀ a, H1 a = none → sp (.ref a :: vs) (upd H1 a (exo a C none)) (fun v H2 => v = .non ∧ Q (.ref a) H2) (fun _ _ _ => False)
variable {e : Expr} {es : List Expr} {ta : TA} {p pos : Pos}
theorem pe_mkV {CX : CXT} {x : Str} {C fI : Addr} {k : Nat} {fd : FuncData} {ps : List Str} {sp : Sp} (T : OexC X.K C)
    (iC : PySem.W.findIn X.K (.ref C) "__init__" = some (some (.ref fI))) (tI : PySem.W.typeIn X.K (.ref fI) = some (.type "function"))
    (F1 : FnOk X.prog X.w X.K X.mg X.base CX k fI fd ps sp) (hr : Room (k + 1) X.A) (hb : Binds X.K fd ps []) (hx : Passes CX X (fun _ _ _ => False))
    (hg : Gl X x) (hm : X.mg x = some (.ref C)) (ha : PA X (e :: es) ta) (hdb : (x == ("__debug__" : Str)) = false := by decide)
    (he : starEach (e :: es) X.env = (false, eval e X.env) :: starEach es X.env := by rfl) (hpl : (backTo pos (starEach es X.env)).any (·.1) = false := by rfl) :
    PE X (.Call (.Name x p) (e :: es) [] pos) (tMkV C sp ta) := by
  constructor
  intro pins s σ H Q I h
  obtain ⟨nm, q, N, bs, bm, sn, sub, ab, col, dd, k0, k1, k2, k3, k5, hC, hbm⟩ := T.cls
  refine wpAny_Call_Name_kw (ld_glob I hg hm ?_ hdb)
  refine PySem.W.callWith_K (h₀ := X.base) I.ok.mod.kin T.kC (thn (ha.run pos pins s σ H _ I h) ?_) he hpl
  rintro us s1 ⟨vs, H1, I1, r1, hz, q1⟩
  refine ⟨I1.kIn, ?_⟩
  show wpAny _ _ (call (.ref C) us) _ _ _
  obtain ⟨hp, g, dr, tk, os⟩ := s1
  have big : hp.objs.size ≤ hp.objs.size + 1 := Nat.le_succ _
  have hq := q1 (hp.objs.size + 1) (I1.hok.fresh big)
  have kk : ∀ b o, hp.get? b = some o → ((hp.push (PySem.W.kdv_tup us)).push (PySem.HandSPX.excO C hp.objs.size)).get? b = some o :=
    fun b o e => Heap.get?_push_of_some _ (Heap.get?_push_of_some _ e)
  have here : ((hp.push (PySem.W.kdv_tup us)).push (PySem.HandSPX.excO C hp.objs.size)).get? (hp.objs.size + 1) = some (PySem.HandSPX.excO C hp.objs.size) := by heap_get
  have I2 := I1.laid (t' := tk) (a := hp.objs.size + 1) (o := exo (hp.objs.size + 1) C none) kk big (L2.exo_ok here)
  have r2 : Vals (V.ref (hp.objs.size + 1) :: vs) (Value.ref (hp.objs.size + 1) :: us) := .cons rfl r1
  have ll : (Value.ref (hp.objs.size + 1) :: us).length = ps.length := r2.length.symm.trans (F1.len _ _ _ _ hq)
  have hus : us.length ≤ sizeLine := by
    rw [← Paired.length r1, sizeLine_eq]
    omega
  have hbb := hb _ (Value.ref (hp.objs.size + 1) :: us) I2.kIn (by rw [List.append_nil]; exact ll)
  rw [List.append_nil] at hbb
  refine wpAny_call (PySem.HandSPX.call_own F.excBase_ValueError (fun Y => PySem.HandSPX.refsVE_contains Y bm hbm) (I1.kIn _ _ hC)
    (PySem.W.looks_findIn I1.kIn iC) (fun self => PySem.W.bind_fn I1.kIn self tI) hus ?_)
  refine codeAny_mono (F1.run _ X.stack _ _ ⟨Value.ref (hp.objs.size + 1) :: us, []⟩ _ _ _ (fun _ _ _ => False) (hr.make C us []) (I2.env0.make C us []) hbb r2 hq) ?_
  intro r s' hq'
  cases r with
  | error er => exact hx pins σ _ _ er s' I2 hq'
  | ok fl =>
    cases fl with
    | next => exact (show False from hq').elim
    | brk => exact (show False from hq').elim
    | cont => exact (show False from hq').elim
    | ret u =>
      obtain ⟨v, H2, os2, bare2, un2, hok2, rv, ev, q2⟩ := hq'
      subst ev
      obtain ⟨h2, g2, d2, t2, os'⟩ := s'
      obtain rfl : os' = os := os2
      exact ⟨rv, .ref (hp.objs.size + 1), H2, I2.call (h' := h2) (g' := g2) (d' := d2) (t' := t2) (ch := []) un2 hok2 bare2 (fun b z => absurd z (by simp)), rfl, q2⟩
end
end Lk
namespace Lk
open PySem PySem.Spec PySem.Calls PyProof.Rows L2 G
/-- what the class D is to each of the classes -/
def RowK (K : PySem.W.Frag) (D : Addr) : List Addr → List Bool → Prop
  | c :: cs, b :: bs => PySem.W.kitOne K (.ref D) (.ref c) = some b ∧ RowK K D cs bs
  | _, _ => True
theorem refs_one {a : Addr} : PySem.HandSPX.refsVE [.ref a, .type "ValueError", .type "Exception", .type "BaseException", .type "object"] = true := by
  show PySem.HandSPX.refsVE [.type "ValueError", .type "Exception", .type "BaseException", .type "object"] = true
  decide +kernel
def veRest : List Value := [.type "ValueError", .type "Exception", .type "BaseException", .type "object"]
/-- all but a stands -/
def But (a : Addr) (H H' : Hp) : Prop := ∀ b o, b ≠ a → H b = some o → H' b = some o
theorem But.same {a : Addr} {H H' : Hp} {o : HO} (n : H a = none) (h : But a (upd H a o) H') : Same H H' := fun b u e =>
  h b u (ne_of_none e n) ((upd_ne (ne_of_none e n)).trans e)
/-- __init__ of an error with one field -/
def spInit1 (K : PySem.W.Frag) (C : Addr) (f : Str) : Sp := fun vs H Q _ => ∃ (a : Addr) (v : V), vs = [.ref a, v] ∧ H a = some (exo a C none) ∧
  ∀ (H' : Hp) (d : Addr), But a H H' → H' a = some (exo a C (some d)) → H' d = some (exd d [(f, v)]) → Q .non H'
def spInit2 (K : PySem.W.Frag) (C : Addr) (f g : Str) : Sp := fun vs H Q _ => ∃ (a : Addr) (v u : V), vs = [.ref a, v, u] ∧ H a = some (exo a C none) ∧
  ∀ (H' : Hp) (d : Addr), But a H H' → H' a = some (exo a C (some d)) → H' d = some (exd d [(g, u), (f, v)]) → Q .non H'
/-- __init__ of NoOutcome with a list: a copy of it is kept -/
def spInitL (K : PySem.W.Frag) (C : Addr) (f g : Str) : Sp := fun vs H Q _ => ∃ (a l : Addr) (v : V) (xs : List V), vs = [.ref a, v, .ref l] ∧ H a = some (exo a C none) ∧ SqL K H l xs ∧
  ∀ (H' : Hp) (d n : Addr), But a H H' → H' a = some (exo a C (some d)) → H' d = some (exd d [(g, .ref n), (f, v)]) → H' n = some (.lst xs) → H n = none → Q .non H'
end Lk
namespace Lk
open PySem L2
theorem exo_ne_lst {e C : Addr} {d : Option Addr} {xs : List V} : exo e C d ≠ .lst xs := fun z => by
  have z' : HO.ext _ = HO.lst xs := z
  cases z'
theorem exo_ne_tup {e C : Addr} {d : Option Addr} {xs : List V} : exo e C d ≠ .tup xs := exo_tup
end Lk
namespace Lk
open PySem L2
theorem bools_dp {K : PySem.W.Frag} {H : Hp} : ∀ bs : List Bool, DpAll K H (bs.map V.bl) (bs.map PyData.bool)
  | [] => .nil
  | b :: bs => .cons (.bl b) (bools_dp bs)
theorem bools_lay : ∀ l : List Bool, PyData.canLayAll0 (l.map PyData.bool) = true
  | [] => rfl
  | b :: r => by
    rw [List.map_cons]
    unfold PyData.canLayAll0
    rw [bools_lay r, Bool.and_true]
    rfl
theorem bools_depth : ∀ l : List Bool, PyData.depthAll (l.map PyData.bool) = 0
  | [] => rfl
  | b :: r => by
    rw [List.map_cons]
    unfold PyData.depthAll
    rw [bools_depth r]
    rfl
theorem bools_shaped (l : List Bool) : SeqAt.shaped (.list (l.map PyData.bool)) = true := by
  unfold SeqAt.shaped
  rw [Bool.and_eq_true]
  constructor
  · unfold PyData.canLay0
    exact bools_lay l
  · unfold PyData.depth
    rw [bools_depth]
    exact rfl
theorem ne_refl {d : PyData} (h : SeqAt.shaped d = true) : (!PyData.eqv d d) = false := by
  rw [SeqAt.eqv_refl d (SeqAt.canLay_of_shaped h)]
  rfl
theorem if_false {c : Bool} {A B : Prop} (hc : c = false) (h : B) : if c = true then A else B := by
  rw [hc]
  exact iteF h
theorem if_true {c : Bool} {A B : Prop} (hc : c = true) (h : A) : if c = true then A else B := by
  rw [hc]
  exact iteT h
end Lk
namespace Lk
open PySem PySem.Spec PyProof.Rows L2 G
/-- small texts of usual signs -/
def SmallS (z : Str) : Prop := 0 < z.length ∧ z.length ≤ 10 ∧ ∀ c ∈ z.cps.toList, c < 1000
theorem cat_codes (a b : Str) : (a ++ b).cps.toList = a.cps.toList ++ b.cps.toList := by
  show (a.cps ++ b.cps).toList = _
  rw [Array.toList_append]
theorem cat_len (a b : Str) : (a ++ b).length = a.length + b.length := by
  show (a.cps ++ b.cps).size = _
  rw [Array.size_append]
  rfl
theorem cutS_all (z : Str) (b : Nat) : cutS z none (some (b : Int)) = tx (z.cps.toList.take b) := by
  unfold cutS
  rw [HT.sIx_nat, HT.sIx_none, List.drop_zero, Nat.sub_zero]
  have e : z.cps.toList.length = z.length := by simp [Str.length]
  by_cases h : b ≤ z.length
  · rw [Nat.min_eq_left h]
  · rw [Nat.min_eq_right (by omega), List.take_of_length_le (by omega), List.take_of_length_le (by omega)]
theorem tx_len (l : List Nat) : (tx l).length = l.length := by simp [Str.length]
theorem tx_codes (l : List Nat) : (tx l).cps.toList = l := by simp
theorem lcp_comm : ∀ a b : List Nat, lcp a b = lcp b a
  | [], [] => rfl
  | [], b :: bs => by simp [lcp]
  | a :: as, [] => by simp [lcp]
  | a :: as, b :: bs => by
    unfold lcp
    by_cases h : a = b
    · rw [if_pos h, if_pos h.symm, lcp_comm as bs, h]
    · rw [if_neg h, if_neg fun z => h z.symm]
/-- data that repr shows: small leaves, not too much of it -/
structure Shows (d : PyData) : Prop where
  leaves : d.leavesShort 13 = true
  weight : d.weight ≤ 1048576
  shape : d.showable = true
  dict : d.hasDict = true → hasList d = false
  depth : d.depth ≤ 60
theorem Shows.ok {d : PyData} (h : Shows d) : ReprOk d :=
  ⟨h.shape, h.dict, h.depth, PyData.shown_fits (by decide) (by decide) h.leaves h.weight⟩
theorem shows_str {z : Str} (h1 : z.length ≤ 100000) (h2 : ∀ c ∈ z.cps.toList, c < 1000) : Shows (.str z) where
  leaves := by
    unfold PyData.leavesShort
    rw [List.all_eq_true]
    intro c hc
    exact decide_eq_true (Nat.lt_trans (h2 c hc) (by decide))
  weight := by
    unfold PyData.weight
    exact Nat.le_trans h1 (by decide)
  shape := by unfold PyData.showable; rfl
  dict := fun h => by
    unfold PyData.hasDict at h
    cases h
  depth := by unfold PyData.depth; exact Nat.zero_le _
theorem shows_bool (b : Bool) : Shows (.bool b) where
  leaves := by unfold PyData.leavesShort; rfl
  weight := by unfold PyData.weight; exact Nat.zero_le _
  shape := by unfold PyData.showable; rfl
  dict := fun h => by
    unfold PyData.hasDict at h
    cases h
  depth := by unfold PyData.depth; exact Nat.zero_le _
theorem shows_none : Shows .none where
  leaves := by unfold PyData.leavesShort; rfl
  weight := by unfold PyData.weight; exact Nat.zero_le _
  shape := by unfold PyData.showable; rfl
  dict := fun h => by
    unfold PyData.hasDict at h
    cases h
  depth := by unfold PyData.depth; exact Nat.zero_le _
theorem shows_zero : Shows (.int 0) where
  leaves := by unfold PyData.leavesShort; decide +kernel
  weight := by unfold PyData.weight; decide
  shape := by unfold PyData.showable; decide
  dict := fun h => by
    unfold PyData.hasDict at h
    cases h
  depth := by unfold PyData.depth; exact Nat.zero_le _
theorem shows_emp : Shows (.dict []) where
  leaves := by unfold PyData.leavesShort PyData.leavesShortKv; rfl
  weight := by unfold PyData.weight PyData.weightKv; exact Nat.zero_le _
  shape := by unfold PyData.showable PyData.showableKv; rfl
  dict := fun _ => by unfold hasList; rfl
  depth := by unfold PyData.depth PyData.depthKv; decide
theorem shows_tup1 {z : Str} (h1 : z.length ≤ 100000) (h2 : ∀ c ∈ z.cps.toList, c < 1000) : Shows (.tuple [.str z]) where
  leaves := by
    have h := (shows_str h1 h2).leaves
    simp only [PyData.leavesShort, PyData.leavesShortAll, Bool.and_true] at h ⊢
    exact h
  weight := by
    have h := (shows_str h1 h2).weight
    simp only [PyData.weight, PyData.weightAll] at h ⊢
    have : z.cps.size ≤ 100000 := h1
    omega
  shape := by simp [PyData.showable, PyData.showableAll]
  dict := fun h => by simp [PyData.hasDict, PyData.hasDictAll] at h
  depth := by simp [PyData.depth, PyData.depthAll]
theorem shows_lst1 {z : Str} (h1 : z.length ≤ 100000) (h2 : ∀ c ∈ z.cps.toList, c < 1000) : Shows (.list [.str z]) where
  leaves := by
    have h := (shows_str h1 h2).leaves
    simp only [PyData.leavesShort, PyData.leavesShortAll, Bool.and_true] at h ⊢
    exact h
  weight := by
    have h := (shows_str h1 h2).weight
    simp only [PyData.weight, PyData.weightAll] at h ⊢
    have : z.cps.size ≤ 100000 := h1
    omega
  shape := by simp [PyData.showable, PyData.showableAll]
  dict := fun h => by simp [PyData.hasDict, PyData.hasDictAll] at h
  depth := by simp [PyData.depth, PyData.depthAll]
theorem rep_mem {z : Str} {n c : Nat} (h : c ∈ (repS z n).cps.toList) : c ∈ z.cps.toList := by
  rw [repS_codes] at h
  obtain ⟨l, hl, hc⟩ := List.mem_flatten.mp h
  rw [(List.mem_replicate.mp hl).2] at hc
  exact hc
/-- the ones for the signs that are not among s -/
def strange (s : Str) (l : List Nat) : List Nat := l.filter fun c => !s.cps.toList.contains c
theorem strange_nil (s z : Str) : strange s z.cps.toList = [] ↔ allIn s z = true := by
  unfold strange allIn
  rw [List.filter_eq_nil_iff, List.all_eq_true]
  simp
theorem eqv_nil_ints (ns : List Int) : PyData.eqv (.list (ns.map PyData.int)) (.list []) = decide (ns = []) := by
  cases ns with
  | nil => simp [PyData.eqv, PyData.eqvAll]
  | cons n r => simp [PyData.eqv, PyData.eqvAll]
end Lk
namespace Lk
open PySem PySem.Spec PyProof.Rows L2 G
theorem and_str {d : PyData} {z : Str} {t : TE} {σ : L2.St} {Q : VK} {H : Hp} (h : ∀ y, d = .str y → ∀ Q' : VK, (∀ H', Same H H' → Q' (.bl (allIn z y)) H') → t σ H Q')
    (k : ∀ H', Same H H' → Q (.bl (isWord z d)) H') : if isStr d = true then t σ H Q else Q (.bl false) H := by
  cases d with
  | str y => exact iteT (h y rfl Q k)
  | none => exact iteF (k _ (Same.refl _))
  | bool _ => exact iteF (k _ (Same.refl _))
  | int _ => exact iteF (k _ (Same.refl _))
  | list _ => exact iteF (k _ (Same.refl _))
  | tuple _ => exact iteF (k _ (Same.refl _))
  | dict _ => exact iteF (k _ (Same.refl _))
theorem ne_same {x : V} : (!decide (x = x)) = false := by simp
end Lk
namespace Lk
open PySem L2
theorem strange_in {s : Str} {c : Nat} (l : List Nat) (h : c ∈ s.cps.toList) : strange s (l ++ [c]) = strange s l := by
  unfold strange
  rw [List.filter_append]
  have e : s.cps.toList.contains c = true := List.contains_iff_mem.mpr h
  rw [List.filter_cons_of_neg (by rw [e]; decide), List.filter_nil, List.append_nil]
theorem strange_out {s : Str} {c : Nat} (l : List Nat) (h : ¬ c ∈ s.cps.toList) : strange s (l ++ [c]) = strange s l ++ [c] := by
  unfold strange
  rw [List.filter_append]
  have e : s.cps.toList.contains c = false := by
    rw [Bool.eq_false_iff]
    exact fun z => h (List.contains_iff_mem.mp z)
  rw [List.filter_cons_of_pos (by rw [e]; decide), List.filter_nil]
end Lk

/-! set(text) and sorted of it. -/
namespace Ls
open PySem PySem.Spec PyProof.Rows L2 Lk

def one (c : Nat) : Str := ⟨#[c]⟩
def keyT (e : Int × Value) : Str := match e.2 with | .str k _ => k | _ => one 0
def GoodT (w : World) (e : Int × Value) : Prop := ∃ k tk, e.2 = Value.str k tk ∧ e.1 = hashStr w k
/-- at a a set that holds just the texts of l -/
def SetT (w : World) (h : Heap) (a : Addr) (l : List Str) : Prop :=
  ∃ o es ep t, h.get? a = some o ∧ o.ExactSet ∧ o.data = .set es ep t ∧ (∀ e ∈ es.toList, GoodT w e) ∧ (es.toList.map keyT).Nodup ∧
    (∀ k, k ∈ l ↔ k ∈ es.toList.map keyT) ∧ es.size < scanBound ∧ t.fits es.size = true ∧ es.size ≤ l.length ∧ Ris t.place.toList ∧
    (w.params.followText "set-order" = true ∨ t.led = true)
section
variable {P : Program} {w : World} {h h' : Heap} {a : Addr} {l : List Str}
theorem SetT.at_ (R : SetT w h a l) (k : ∀ o, h.get? a = some o → h'.get? a = some o) : SetT w h' a l := by
  obtain ⟨o, es, ep, t, eo, r⟩ := R
  exact ⟨o, es, ep, t, k o eo, r⟩
theorem str_is (k : Str) (u : Tok) : (PySem.strKind P w).is k (.str k u) = true := by
  show Value.isStrOf k (.str k u) = true
  unfold Value.isStrOf
  exact beq_self_eq_true k
theorem good_elemsT {l : List (Int × Value)} (g : ∀ e ∈ l, GoodT w e) : ElemsOf (PySem.strKind P w) l := fun e he => by
  obtain ⟨k, tk, q1, q2⟩ := g e he
  refine ⟨⟨k, ?_, q2⟩, ?_⟩
  · rw [q1]
    exact str_is k tk
  · rw [q1] <;> rfl
theorem good_isT {e : Int × Value} (g : GoodT w e) (k : Str) : (PySem.strKind P w).is k e.2 = true ↔ keyT e = k := by
  obtain ⟨k0, tk, q1, _⟩ := g
  unfold keyT
  rw [q1]
  show (Value.isStrOf k (.str k0 tk) = true) ↔ k0 = k
  unfold Value.isStrOf
  exact beq_iff_eq
theorem good_memT {l : List (Int × Value)} (g : ∀ e ∈ l, GoodT w e) (k : Str) : k ∈ l.map keyT ↔ ∃ e ∈ l, (PySem.strKind P w).is k e.2 = true := by
  rw [List.mem_map]
  constructor
  · rintro ⟨e, he, q⟩
    exact ⟨e, he, (good_isT (g e he) k).2 q⟩
  · rintro ⟨e, he, q⟩
    exact ⟨e, he, (good_isT (g e he) k).1 q⟩
end

section
variable {P : Program} {w : World} {A : Around} {E : Value → Shared → Prop} {s : Shared} {a : Addr} {l : List Str}
theorem addT_tail {g : Bool → Sem Unit} (hg : ∀ (b : Bool) (s₁ : Shared) (Q' : Unit → Shared → Prop), Q' () s₁ → wpAny (model P w) A (g b) Q' E s₁)
    {o : Obj} {es : Array (Int × Value)} {ep : Nat} {t : SetTable} (eo : s.heap.get? a = some o) (ex : o.ExactSet) (ed : o.data = .set es ep t)
    {fs : Array (Int × Value)} {u : SetTable} {l' : List Str} (g1 : ∀ e ∈ fs.toList, GoodT w e) (nd1 : (fs.toList.map keyT).Nodup) (m1 : ∀ k, k ∈ l' ↔ k ∈ fs.toList.map keyT)
    (b1 : fs.size < scanBound) (f1 : u.fits fs.size = true) (z1 : fs.size ≤ l'.length) (r1 : Ris u.place.toList) (o1 : w.params.followText "set-order" = true ∨ u.led = true)
    {dummy : Bool} {R : Option Bool → Shared → Prop} (hR : ∀ h', Heap.SameBut a s.heap h' → SetT w h' a l' → R (some true) { s with heap := h' }) :
    wpAny (model P w) A (do
        storeSet a fs u
        if (!dummy && u.tooFull) = true then do
            g (relayAll u fs (SetTable.grown fs.size)).2.2
            storeSet a (relayAll u fs (SetTable.grown fs.size)).1 (relayAll u fs (SetTable.grown fs.size)).2.1
            pure (some true)
          else pure (some true)) R E s := by
  refine wpAny_bind (wpAny_storeSet_of eo ed ?_ (fits_of_scanBound b1))
  have eo1 := store_at (es' := fs) (t' := u) eo ed
  have sb := Heap.SameBut.update s.heap a (Obj.putSet fs u)
  split
  · have pm := relayAll_perm u fs (SetTable.grown fs.size)
    have ff := relayAll_fits u fs (SetTable.grown fs.size)
    have rr := relayAll_ris u fs (SetTable.grown fs.size)
    have le := relayAll_led u fs (SetTable.grown fs.size)
    generalize relayAll u fs (SetTable.grown fs.size) = Z at pm ff rr le ⊢
    obtain ⟨gs, v, gave⟩ := Z
    dsimp only at pm ff rr le ⊢
    have sz : gs.size = fs.size := by
      rw [← Array.length_toList, pm.length_eq, Array.length_toList]
    have b2 : gs.size < scanBound := sz ▸ b1
    refine wpAny_bind (hg _ _ _ ?_)
    refine wpAny_bind (wpAny_storeSet_of eo1 rfl ?_ (fits_of_scanBound b2))
    have eo2 := store_at (es' := gs) (t' := v) eo1 rfl
    refine wpAny_pure (hR _ (sb.trans (Heap.SameBut.update _ a _)) ⟨_, gs, _, v, eo2, ex, rfl, fun e he => g1 e (pm.mem_iff.mp he), ?_, fun k => ?_, b2, ff, sz ▸ z1, rr, ?_⟩)
    · exact (pm.map keyT).nodup_iff.mpr nd1
    · exact (m1 k).trans (pm.map keyT).mem_iff.symm
    · exact o1.imp id fun z => le.trans z
  · exact wpAny_pure (hR _ sb ⟨_, fs, _, u, eo1, ex, rfl, g1, nd1, m1, b1, f1, z1, r1, o1⟩)

theorem addT_hashed {k : Str} {tk : Tok} {Q : Bool → Shared → Prop} (R : SetT w s.heap a l) (room : l.length + 1 < scanBound)
    (hQ : ∀ b h', Heap.SameBut a s.heap h' → SetT w h' a (l ++ [k]) → Q b { s with heap := h' }) :
    wpAny (model P w) A (setAddHashed a (.str k tk) ((PySem.strKind P w).hash k)) Q E s := by
  obtain ⟨o, es, ep, t, eo, ex, ed, g, nd, em, eb, ef, en, er, el⟩ := R
  have isk : (PySem.strKind P w).is k (.str k tk) = true := str_is k tk
  have scn : (Value.str k tk).scannable = true := rfl
  have els : ElemsOf (PySem.strKind P w) es.toList := good_elemsT g
  unfold setAddHashed
  unfold setAddHashedIn
  refine wpAny_holding (wpAny_bind (wpAny_setState_of eo ed ef ?_))
  dsimp only
  rw [byScan_of scn eb els]
  simp only [↓reduceIte]
  unfold setAddByScan
  refine wpAny_bind (wpAny_bind (wpAny_rule (wpAny_bind (wpAny_setScan_of isk eo ed ef els ?_))))
  cases fi : List.findIdx? (fun e => (PySem.strKind P w).is k e.2) es.toList with
  | some j =>
    dsimp only
    obtain ⟨hj, pj, _⟩ := List.findIdx?_eq_some_iff_getElem.mp fi
    have kin : k ∈ l := (em k).2 ((good_memT (P := P) (w := w) g k).2 ⟨es.toList[j], List.getElem_mem hj, pj⟩)
    refine wpAny_pure (wpAny_pure (hQ _ s.heap (Heap.SameBut.refl a s.heap) ⟨o, es, ep, t, eo, ex, ed, g, nd, fun i => ?_, eb, ef, ?_, er, el⟩))
    · rw [← em i, List.mem_append, List.mem_singleton]
      exact ⟨fun z => z.elim id fun e => e ▸ kin, .inl⟩
    · rw [List.length_append]
      exact Nat.le_trans en (Nat.le_add_right _ _)
  | none =>
    dsimp only
    have kout : k ∉ es.toList.map keyT := fun z => by
      obtain ⟨e, he, q⟩ := (good_memT (P := P) (w := w) g k).1 z
      have c := List.findIdx?_eq_none_iff.mp fi e he
      rw [q] at c
      cases c
    have gw : ∀ (b : Bool) {s₁ : Shared} {Q' : Unit → Shared → Prop}, Q' () s₁ → wpAny (model P w) A (match b with | true => rule "set.scan.the-table-gave-way" | false => pure ()) Q' E s₁ := by
      intro b s₁ Q' q
      cases b
      · exact wpAny_pure q
      · exact wpAny_rule q
    have pm := layNew_perm t es ((PySem.strKind P w).hash k) (.str k tk)
    have f1 := layNew_fits t es ((PySem.strKind P w).hash k) (.str k tk)
    have r1 := layNew_ris t es ((PySem.strKind P w).hash k) (.str k tk) er
    have l1 := layNew_led t es ((PySem.strKind P w).hash k) (.str k tk)
    generalize layNew t es ((PySem.strKind P w).hash k) (.str k tk) = Z at pm f1 r1 l1 ⊢
    obtain ⟨fs, u, dummy, gave⟩ := Z
    dsimp only at pm f1 r1 l1 ⊢
    rw [Array.toList_push] at pm
    have pc : fs.toList.Perm (((PySem.strKind P w).hash k, Value.str k tk) :: es.toList) := pm.trans (List.perm_append_singleton _ _)
    have pk : (fs.toList.map keyT).Perm (k :: es.toList.map keyT) := pc.map keyT
    have g1 : ∀ e ∈ fs.toList, GoodT w e := fun e he => by
      rcases List.mem_cons.mp (pc.mem_iff.mp he) with z | z
      · rw [z]
        exact ⟨k, tk, rfl, rfl⟩
      · exact g e z
    have n1 : (fs.toList.map keyT).Nodup := pk.nodup_iff.mpr (List.nodup_cons.mpr ⟨kout, nd⟩)
    have m1 : ∀ i, i ∈ l ++ [k] ↔ i ∈ fs.toList.map keyT := fun i => by
      rw [List.mem_append, List.mem_singleton, em i, pk.mem_iff, List.mem_cons]
      exact Or.comm
    have sz : fs.size = es.size + 1 := by
      rw [← Array.length_toList, pc.length_eq, List.length_cons, Array.length_toList]
    have z1 : fs.size ≤ (l ++ [k]).length := by
      rw [sz, List.length_append]
      exact Nat.succ_le_succ en
    have b1 : fs.size < scanBound := by omega
    have o1 : w.params.followText "set-order" = true ∨ u.led = true := el.imp id fun z => l1.trans z
    have gg : ∀ (b : Bool) (s₁ : Shared) (Q' : Unit → Shared → Prop), Q' () s₁ → wpAny (model P w) A (match b with | true => rule "set.scan.the-table-gave-way" | false => pure ()) Q' E s₁ := fun b s₁ Q' q => gw b q
    refine wpAny_bind (gw _ ?_)
    split
    · refine wpAny_bind ?_
      rw [hashByValue_scannable 8 scn]
      refine wpAny_pure (addT_tail ?_ eo ex ed g1 n1 m1 b1 ?_ z1 ?_ ?_ ?_)
      · intro b s₁ Q' q
        cases b <;> first | exact wpAny_pure q | exact wpAny_rule q
      · first | (split <;> first | exact f1 | exact SetTable.fits_plain_off f1) | exact f1
      · first | (split <;> exact r1) | exact r1
      · first | (split <;> exact o1) | exact o1
      · intro h' sb r
        dsimp only
        exact wpAny_pure (hQ _ h' sb r)
    · refine wpAny_bind (wpAny_pure ?_)
      simp only [↓reduceIte]
      refine addT_tail ?_ eo ex ed g1 n1 m1 b1 f1 z1 r1 o1 ?_
      · intro b s₁ Q' q
        cases b <;> first | exact wpAny_pure q | exact wpAny_rule q
      · intro h' sb r
        dsimp only
        exact wpAny_pure (hQ _ h' sb r)

theorem freshT {h : Heap} (w : World) : SetT w (h.push { cls := .type "set", dict := none, data := .set #[] 0 (.fresh 0 0 (!w.params.followText "set-order")) }) h.objs.size [] := by
  refine ⟨_, #[], 0, _, Heap.get?_push_size _ rfl, ⟨rfl, rfl, rfl⟩, rfl, ?_, ?_, ?_, by decide, rfl, Nat.le_refl _, List.Pairwise.nil, ?_⟩
  · intro e he
    simp at he
  · simp
  · intro k
    simp
  · show _ ∨ (!w.params.followText "set-order") = true
    cases w.params.followText "set-order"
    · exact .inr rfl
    · exact .inl rfl

theorem newT (v : Value) {Q₁ : Value → Shared → Prop}
    (q : Q₁ (.ref s.heap.objs.size) { s with heap := s.heap.push { cls := .type "set", dict := none, data := .set #[] 0 (.fresh 0 0 (!w.params.followText "set-order")) } }) :
    codeAny (model P w) A (.call (.builtin "set.__new__") ⟨[.type "set", v], []⟩) (wants Q₁ E) s := by
  refine codeAny_of_tree ?_
  show wpAny _ A.in1 (do checkBuiltinCall "set.__new__" ⟨[.type "set", v], []⟩; again (.builtin "set.__new__" ⟨[.type "set", v], []⟩)) _ _ s
  refine wpAny_bind (wpAny_of_eq (PySem.F.newCall_set_1 v) (wpAny_pure ⟨plainId_quiet PySem.F.plain_set_new _, codeAny_builtin PySem.F.entry_set_new ?_⟩))
  rw [Around.under_plainId PySem.F.plain_set_new _]
  unfold Builtin.«set.__new__»
  unfold Builtin.Frozenset.newClass
  have selfsub := sub_set_self
  obtain ⟨hp, g, d, tk, os⟩ := s
  dsimp only
  wp_walk
  refine wpAny_askSetting (wpAny_pure ?_)
  dsimp only
  simp only [newObj]
  exact wpAny_bind (wpAny_alloc (wpAny_pure (wpAny_pure q)))
end
end Ls

/-! set(text), sorted of it: the loop, the calls, the rules. -/
namespace Ls
open PySem PySem.Spec PyProof.Rows L2 Lk

section
variable {P : Program} {w : World} {A : Around} {R : Result → Shared → Prop} {I : Addr} {fp wr : List Addr} {G : Array GenState → Array GenState → Prop} {n : Nat} {St : Nat → Shared → Prop}
def signsT (x : Str) : List Str := x.cps.toList.map one
theorem loopT {x : Str} (W : WalksS P w A.in1 I fp wr G n (SignAt x) St) (S : Addr) (hSf : S ∉ fp) (hsz : x.cps.size = n) (hb : n + 1 < scanBound) :
    ∀ (k i : Nat) (s : Shared), n - i = k → i ≤ n → St i s → SetT w s.heap S ((signsT x).take i) →
      (∀ s', Moved (S :: wr) G s s' → SetT w s'.heap S (signsT x) → R (.ok (.ret .none)) s') →
      codeAny (model P w) A (.builtin "set.update.loop" ⟨[.ref S, .ref I], []⟩) R s := by
  have hSw : S ∉ wr := fun h => hSf (W.sub _ h)
  have hsub : ∀ b ∈ wr, b ∈ S :: wr := fun b hb => List.mem_cons_of_mem _ hb
  have hlen : (signsT x).length = n := by
    unfold signsT
    rw [List.length_map, Array.length_toList, hsz]
  intro k
  induction k with
  | zero =>
    intro i s hk hi hst hS hR
    have hin : i = n := by omega
    subst hin
    refine codeAny_builtin F.entry_set_update_loop ?_
    rw [Around.under_plainId F.plain_set_update_loop _]
    show wpAny _ A.in1 (pyNext (.ref I) >>= _) _ _ s
    refine wpAny_bind (W.done s _ _ hst fun s' hm => ?_)
    show wpAny _ A.in1 (ret Value.none) _ _ s'
    refine wpAny_pure (hR s' (hm.mono hsub) ?_)
    rw [List.take_of_length_le (Nat.le_of_eq hlen)] at hS
    exact hS.at_ fun o e => hm.heap S o hSw e
  | succ k ih =>
    intro i s hk hi hst hS hR
    have hlt : i < n := by omega
    refine codeAny_builtin F.entry_set_update_loop ?_
    rw [Around.under_plainId F.plain_set_update_loop _]
    show wpAny _ A.in1 (pyNext (.ref I) >>= _) _ _ s
    refine wpAny_bind (W.item i s _ _ hlt hst fun v s' hP hst' hm => ?_)
    obtain ⟨c, t, ec, ev⟩ := hP
    subst ev
    have hS' : SetT w s'.heap S ((signsT x).take i) := hS.at_ fun o e => hm.heap S o hSw e
    show wpAny _ A.in1 (holding [Value.str (one c) t] (setAdd S (.str (one c) t)) >>= _) _ _ s'
    refine wpAny_bind (wpAny_holding ?_)
    unfold setAdd
    refine wpAny_holding ?_
    refine wpAny_bind ((PySem.strKind P w).pyHash (k := one c) (str_is _ _) ?_)
    have room : ((signsT x).take i).length + 1 < scanBound := by
      rw [List.length_take]
      omega
    have et : (signsT x).take i ++ [one c] = (signsT x).take (i + 1) := by
      rw [List.take_succ]
      unfold signsT
      rw [List.getElem?_map, Array.getElem?_toList, ec]
      rfl
    refine addT_hashed (s := { s' with toks := s'.toks + 1 }) hS' room fun b h' sb hS2 => ?_
    rw [et] at hS2
    refine wpAny_pure ⟨plainId_quiet F.plain_set_update_loop _, ih (i + 1) _ (by omega) hlt (W.frame _ s' _ _ hst' (Nat.le_succ _) fun b hb o e => ?_) hS2 fun s'' hm'' hS'' => ?_⟩
    · rw [sb.2 b (fun h : b = S => hSf (by rw [← h]; exact hb))]
      exact e
    · refine hR s'' (Moved.trans W.gtrans ((hm.mono hsub).then_heap (Nat.le_succ _) fun b o hb e => ?_) hm'') hS''
      rw [sb.2 b (fun h : b = S => hb (by rw [h]; exact List.mem_cons_self))]
      exact e
end

section
variable {P : Program} {w : World} {A : Around} {E : Value → Shared → Prop} {s : Shared}
theorem sub_str_set : isSubtype (.type "str") (.type "set") = pure false := by rw [isSubtype_type]; kernel_rfl
theorem sub_str_frozenset : isSubtype (.type "str") (.type "frozenset") = pure false := by rw [isSubtype_type]; kernel_rfl

theorem call_setT {x : Str} {t0 : Tok} {Q : Value → Shared → Prop} (hh : A.handled = none) (hb : x.cps.size + 1 < scanBound)
    (h : ∀ (h' : Heap) (tk : Nat), SetT w h' s.heap.objs.size (signsT x) → (∀ b o, b < s.heap.objs.size → s.heap.get? b = some o → h'.get? b = some o) →
      Q (.ref s.heap.objs.size) { s with heap := h', toks := tk }) :
    wpAny (model P w) A (call (.type "set") [.str x t0]) Q E s := by
  obtain ⟨c, tl, hmro⟩ := F.called_set.mro
  have hmade := F.called_set.made
  have hsub := F.called_set.sub
  refine wpAny_call (codeAny_of_tree ?_)
  show wpAny _ _ (callAny (.type "set") _) _ _ _
  refine wpAny_pure ⟨Code.quiet_builtin _ (by decide +kernel), codeAny_builtin F.entry_type_call ?_⟩
  rw [Around.under_plain (weight_type_call_type "set" [.str x t0] []) rfl]
  have h1 := F.called_set.notType
  have h2 := F.called_set.canCreate
  have hct := F.typeCall_set_1 (.str x t0)
  repeat (any_goals (first | assumption | wp_step))
  refine codeAny_mono (newT (.str x t0) (E := E) (Q₁ := fun obj s₁ => obj = .ref s.heap.objs.size ∧ s₁ = { s with heap := s.heap.push { cls := .type "set", dict := none, data := .set #[] 0 (.fresh 0 0 (!w.params.followText "set-order")) } }) ⟨rfl, rfl⟩) fun r s₁ hr => ?_
  cases r with
  | error e => exact hr
  | ok fl =>
    cases fl with
    | ret obj =>
      obtain ⟨rfl, rfl⟩ := hr
      have hF := freshT (h := s.heap) w
      generalize eo : ({ cls := .type "set", dict := none, data := .set #[] 0 (.fresh 0 0 (!w.params.followText "set-order")) } : Obj) = ob at hF ⊢
      have hcls : ob.cls = .type "set" := by
        rw [← eo]
      have hS : (s.heap.push ob).get? s.heap.objs.size = some ob := Heap.get?_push_size _ (by rw [← eo] <;> rfl)
      have hT : Shared.TypeIs { s with heap := s.heap.push ob } (.ref s.heap.objs.size) "set" := ⟨_, hS, hcls⟩
      have hli := F.called_set.init.lookup
      have hbi := F.called_set.init.bind (.ref s.heap.objs.size)
      have hS0 := hS
      rw [← eo] at hS hT hF ⊢
      repeat (any_goals (first | assumption | wp_step))
      refine codeAny_mono (codeAny_call_builtin (R := wants (fun r s₂ => r = .none ∧ ∃ h' tk, s₂ = { s with heap := h', toks := tk } ∧ SetT w h' s.heap.objs.size (signsT x) ∧
          (∀ b o, b < s.heap.objs.size → s.heap.get? b = some o → h'.get? b = some o)) E) F.called_set.init.plain F.entry_set_init (check_set_init_1 hT ?_)) fun r₂ s₂ hr₂ => ?_
      · have hsls := sub_str_set
        have hslf := sub_str_frozenset
        have hne : (Value.type "str" == Value.type "dict") = false := by decide
        unfold Builtin.«set.__init__» noKeywords Builtin.Frozenset.updateFrom
        generalize hPI : pyIter = PI
        wp_walk
        subst hPI
        refine wpAny_pyIter_str fun o St W hst => ?_
        refine wpAny_bind (wpAny_runValue ?_)
        have hh3 : A.in1.in1.in1.handled = none := by simp [hh]
        generalize eH : s.heap.push { cls := .type "set", dict := none, data := .set #[] 0 (.fresh 0 0 (!w.params.followText "set-order")) } = H1 at W hst hF ⊢
        have hH1 : H1.objs.size = s.heap.objs.size + 1 := by rw [← eH, Heap.size_push]
        have hSf : s.heap.objs.size ∉ [H1.objs.size] := fun hm => by
          rw [List.mem_singleton.mp hm] at hH1
          exact absurd hH1 (Nat.ne_of_lt (Nat.lt_succ_self _))
        refine loopT (W _ hh3).toS s.heap.objs.size hSf rfl hb (x.cps.size - 0) 0 _ (by omega) (Nat.zero_le _) hst ?hS0 ?hR
        case hS0 => exact hF.at_ fun u e => Heap.get?_push_of_some _ e
        case hR =>
          intro s' hm hS'
          obtain ⟨h', g', d', tk', os'⟩ := s'
          have eg : g' = s.gens := hm.gens
          have ed : d' = s.drawn := hm.drawn
          have eo : os' = s.os := hm.os
          subst eg; subst ed; subst eo
          show wpAny _ _ _ _ _ _
          refine wpAny_pure ?_
          show wpAny _ _ (ret Value.none) _ _ _
          refine wpAny_pure ⟨rfl, h', tk', rfl, hS', fun b o hb e => ?_⟩
          have hb1 : b ≠ s.heap.objs.size := Nat.ne_of_lt hb
          have hb2 : b ≠ H1.objs.size := by
            rw [hH1]
            exact Nat.ne_of_lt (Nat.lt_succ_of_lt hb)
          refine hm.heap b o (by simp only [List.mem_cons, List.mem_singleton, List.not_mem_nil, or_false, not_or]; exact ⟨hb1, hb2⟩) (Heap.get?_push_of_some _ ?_)
          rw [← eH]
          exact Heap.get?_push_of_some _ e
      · cases r₂ with
        | error e => exact hr₂
        | ok fl₂ =>
          cases fl₂ with
          | ret r =>
            obtain ⟨rfl, h', tk, rfl, hS', hk'⟩ := hr₂
            repeat (any_goals (first | assumption | wp_step))
            exact h _ _ hS' hk'
          | _ => exact hr₂.elim
    | _ => exact hr.elim
end
end Ls

namespace Ls
open PySem PySem.Spec PyProof.Rows L2 Lk

section
variable {P : Program} {w : World} {A : Around} {E : Value → Shared → Prop} {s : Shared} {a : Addr} {l : List Str}
theorem sorted_setT {Q : Value → Shared → Prop} (R : SetT w s.heap a l) (hh : A.handled = none) (h64 : l.length < 64)
    (hQ : ∀ s' p (out : Array Value) (c : Nat) (ns : List Str), (∀ b o, s.heap.get? b = some o → s'.heap.get? b = some o) → s'.gens = s.gens → s'.os = s.os → s.heap.objs.size ≤ p →
      s'.heap.get? p = some (seqObj "list" out c) → StrsAre out.toList ns → sortedS ns = true → ns.Nodup → (∀ k, k ∈ ns ↔ k ∈ l) → ns.length ≤ l.length → Q (.ref p) s') :
    wpAny (model P w) A (call (.builtin "sorted") [.ref a]) Q E s := by
  obtain ⟨o, es, ep, t, ho, hex, hd, g, nd, hm, hb, hf, hn, hr, hl⟩ := R
  refine Calls.call_function_entry kind_sorted plain_sorted entry_sorted (args_sorted1 _) ?_
  unfold Builtin.«sorted»
  refine wpAny_bind (m := checkCount "sorted" 1 1 _) (wpAny_pure ?_)
  refine wpAny_bind (collect_set (A := A.in1) hh ⟨o, ho, hex.1, hd⟩ hf hb hr hl fun s1 vs k1 hz g1 o1 pm => ?_)
  have hvl : vs.length = es.size := by rw [pm.length_eq, List.length_map, Array.length_toList]
  have hstr : ∀ v ∈ vs, ∃ k tk, v = Value.str k tk := fun v hv => by
    obtain ⟨e, he, q⟩ := List.mem_map.mp (pm.mem_iff.mp hv)
    obtain ⟨k, tk, h1, _⟩ := g e he
    exact ⟨k, tk, by rw [← q]; exact h1⟩
  have hS : StrsAre vs (vs.map strOf) := strsAre_map vs hstr
  have ek : (es.toList.map (·.2)).map strOf = es.toList.map keyT := by
    rw [List.map_map]
    refine List.map_congr_left fun e he => ?_
    obtain ⟨k, tk, h1, _⟩ := g e he
    show strOf e.2 = keyT e
    unfold keyT
    rw [h1] <;> rfl
  have pk : (vs.map strOf).Perm (es.toList.map keyT) := by
    have q := pm.map strOf
    rw [ek] at q
    exact q
  have h64' : vs.length < 64 := by omega
  refine wpAny_bind (wpAny_newList ?_ (by rw [sizeLine_eq]; omega))
  have hoL : (s1.heap.push (seqObj "list" vs.toArray 0)).get? s1.heap.objs.size = some (seqObj "list" vs.toArray 0) := Heap.get?_push_size _ rfl
  refine wpAny_bind (wpAny_holding (wpAny_call_entry slot_list_sort ⟨_, hoL, rfl⟩ entry_list_sort
    (list_sort_treeK strKind_oneLt hoL hS.keysOf (fun v₁ v₂ rest e => keyKind_strs (by rw [← e]; exact hS)) h64' fun st' hp hs => ⟨_, rfl, ?_⟩) (args_list_sort _)))
  obtain ⟨ns, a1, a2, a3⟩ := sorted_out_str hS hp hs
  obtain ⟨c, hc⟩ := sortedHeap_at (vs := vs) (out := (arrOf st').map (·.2)) hoL
  have pn : ns.Perm (es.toList.map keyT) := a2.trans pk
  refine wpAny_pure ⟨_, rfl, hQ _ s1.heap.objs.size _ c ns (fun b u e => ?_) g1 o1 hz hc a1 a3 (pn.nodup_iff.mpr nd) (fun k => by rw [pn.mem_iff, ← hm k]) ?_⟩
  · have q := k1 b u e
    have hlt := Heap.lt_size q
    show (sortedHeap (s1.heap.push (seqObj "list" vs.toArray 0)) s1.heap.objs.size vs _).get? b = some u
    rw [sortedHeap_old (Nat.ne_of_lt hlt) (by rw [size_push']; exact Nat.lt_succ_of_lt hlt)]
    exact Heap.get?_push_of_some _ q
  · rw [pn.length_eq, List.length_map, Array.length_toList]
    exact hn
end


/-- ascending, each once -/
def ascB (x : Str) : Bool := decide (x.cps.toList.Pairwise (· < ·))
theorem rising_le : ∀ (c : Nat) (cs : List Nat), risingS (one c) (cs.map one) = true → (∀ d ∈ cs, c ≤ d) ∧ cs.Pairwise (· ≤ ·)
  | _, [], _ => ⟨fun d h => (List.not_mem_nil h).elim, List.Pairwise.nil⟩
  | c, d :: cs, h => by
    have h' : (!ltCps [d] [c] && risingS (one d) (cs.map one)) = true := h
    rw [Bool.and_eq_true] at h'
    obtain ⟨h1, h2⟩ := h'
    obtain ⟨a, b⟩ := rising_le d cs h2
    have e : ¬ d < c := fun z => by
      rw [ltCps_eq] at h1
      have q : ([d] : List Nat) < [c] := List.cons_lt_cons_iff.mpr (.inl z)
      rw [decide_eq_true q] at h1
      cases h1
    have e' : c ≤ d := Nat.le_of_not_lt e
    refine ⟨fun k hk => ?_, List.pairwise_cons.mpr ⟨a, b⟩⟩
    rcases List.mem_cons.mp hk with z | z
    · rw [z]
      exact e'
    · exact Nat.le_trans e' (a k z)
theorem sorted_le : ∀ (cs : List Nat), sortedS (cs.map one) = true → cs.Pairwise (· ≤ ·)
  | [], _ => List.Pairwise.nil
  | c :: cs, h => List.pairwise_cons.mpr (rising_le c cs h)
theorem lt_of_le_nodupN : ∀ l : List Nat, l.Pairwise (· ≤ ·) → l.Nodup → l.Pairwise (· < ·)
  | [], _, _ => List.Pairwise.nil
  | x :: l, h, d => by
    obtain ⟨h1, h2⟩ := List.pairwise_cons.mp h
    obtain ⟨d1, d2⟩ := List.nodup_cons.mp d
    refine List.pairwise_cons.mpr ⟨fun y hy => ?_, lt_of_le_nodupN l h2 d2⟩
    have a := h1 y hy
    have b : x ≠ y := fun z => d1 (z ▸ hy)
    omega
theorem eq_of_strict : ∀ (l m : List Nat), l.Pairwise (· < ·) → m.Pairwise (· < ·) → (∀ k, k ∈ l ↔ k ∈ m) → l = m
  | [], [], _, _, _ => rfl
  | [], b :: m, _, _, h => (List.not_mem_nil ((h b).2 List.mem_cons_self)).elim
  | a :: l, [], _, _, h => (List.not_mem_nil ((h a).1 List.mem_cons_self)).elim
  | a :: l, b :: m, h1, h2, h => by
    obtain ⟨p1, p2⟩ := List.pairwise_cons.mp h1
    obtain ⟨q1, q2⟩ := List.pairwise_cons.mp h2
    have e : a = b := by
      have x := (h a).1 List.mem_cons_self
      have y := (h b).2 List.mem_cons_self
      rcases List.mem_cons.mp x with z | z
      · exact z
      · rcases List.mem_cons.mp y with z' | z'
        · exact z'.symm
        · have u := q1 a z
          have v := p1 b z'
          omega
    subst e
    refine congrArg (a :: ·) (eq_of_strict l m p2 q2 fun k => ⟨fun z => ?_, fun z => ?_⟩)
    · rcases List.mem_cons.mp ((h k).1 (List.mem_cons_of_mem _ z)) with q | q
      · exact absurd (p1 k z) (by omega)
      · exact q
    · rcases List.mem_cons.mp ((h k).2 (List.mem_cons_of_mem _ z)) with q | q
      · exact absurd (q1 k z) (by omega)
      · exact q
theorem one_inj {a b : Nat} (h : one a = one b) : a = b := by
  have e : (one a).cps.toList = (one b).cps.toList := congrArg (fun z : Str => z.cps.toList) h
  exact (List.cons.inj e).1
theorem nodup_of_map : ∀ cs : List Nat, (cs.map one).Nodup → cs.Nodup
  | [], _ => List.nodup_nil
  | c :: cs, h => by
    rw [List.map_cons] at h
    obtain ⟨a, b⟩ := List.nodup_cons.mp h
    exact List.nodup_cons.mpr ⟨fun z => a (List.mem_map_of_mem z), nodup_of_map cs b⟩
theorem ones_of {x : Str} : ∀ (ns : List Str), (∀ k ∈ ns, k ∈ signsT x) → ∃ cs : List Nat, ns = cs.map one
  | [], _ => ⟨[], rfl⟩
  | n :: ns, h => by
    obtain ⟨c, _, e⟩ := List.mem_map.mp (h n List.mem_cons_self)
    obtain ⟨cs, e'⟩ := ones_of ns fun k hk => h k (List.mem_cons_of_mem _ hk)
    exact ⟨c :: cs, by rw [List.map_cons, ← e', e]⟩
/-- what sorted of a text's signs tells -/
theorem sorted_signs {x : Str} {ns : List Str} (h1 : sortedS ns = true) (h2 : ns.Nodup) (h3 : ∀ k, k ∈ ns ↔ k ∈ signsT x) :
    ∃ cs : List Nat, ns = cs.map one ∧ (cs = x.cps.toList ↔ ascB x = true) ∧ (∀ c ∈ cs, c ∈ x.cps.toList) := by
  obtain ⟨cs, e⟩ := ones_of (x := x) ns fun k hk => (h3 k).1 hk
  subst e
  have nd : cs.Nodup := nodup_of_map cs h2
  have lt := lt_of_le_nodupN cs (sorted_le cs h1) nd
  have mem : ∀ c ∈ cs, c ∈ x.cps.toList := fun c q => by
    obtain ⟨d, hd, e⟩ := List.mem_map.mp ((h3 (one c)).1 (List.mem_map_of_mem q))
    rw [← one_inj e]
    exact hd
  refine ⟨cs, rfl, ⟨fun z => ?_, fun z => ?_⟩, mem⟩
  · unfold ascB
    rw [← z]
    exact decide_eq_true lt
  · refine eq_of_strict _ _ lt (of_decide_eq_true z) fun k => ⟨fun q => ?_, fun q => ?_⟩
    · obtain ⟨c, hc, e⟩ := List.mem_map.mp ((h3 (one k)).1 (List.mem_map_of_mem q))
      rw [← one_inj e]
      exact hc
    · obtain ⟨c, hc, e⟩ := List.mem_map.mp ((h3 (one k)).2 (List.mem_map_of_mem q))
      rw [← one_inj e]
      exact hc

/-! ### the rules -/
def SetS (w : World) (a : Addr) (l : List Str) : HO := .ext fun h => SetT w h a l
section
variable {X : Cx}
theorem setS_new {w : World} {P : Program} {H : Hp} {h : Heap} {a : Addr} {l : List Str} (R : SetT w h a l) : ObjOk P w H h a (SetS w a l) := by
  have ⟨o, _, _, _, ho, _⟩ := R
  exact ⟨R, ⟨o, ho⟩, fun h1 h2 p k => SetT.at_ p k⟩
theorem setS_get {pins : List (Addr × Obj)} {σ : L2.St} {H : Hp} {s : Shared} {a : Addr} {l : List Str} (I : Inv X pins σ H s) (ha : H a = some (SetS X.w a l)) : SetT X.w s.heap a l := (I.hok a _ ha).1
/-- set(text) -/
def rSetT (w : World) : List V → Hp → VK → Prop := fun xs H Q => ∃ x : Str, xs = [.str x] ∧ x.cps.size < 64 ∧ ∀ p, H p = none → Q (.ref p) (upd H p (SetS w p (signsT x)))
theorem cr_setT (hc : X.calm = true) : CallR X (.type "set") (rSetT X.w) := by
  intro pins s σ H xs us Q I r h
  obtain ⟨x, rfl, hx, q⟩ := h
  obtain ⟨u, rfl, t, rfl⟩ := vals1 r
  refine call_setT (I.ok.hd hc) (by unfold scanBound; omega) fun h' tk S k => ?_
  exact ⟨.ref _, upd H s.heap.objs.size (SetS X.w s.heap.objs.size (signsT x)), I.laid (t' := tk) (fun b u e => k b u (Heap.lt_size e) e) (Nat.le_refl _) (setS_new S), rfl, q _ (I.hok.fresh (Nat.le_refl _))⟩
/-- sorted(set(text)) -/
def rSortedT (w : World) : List V → Hp → VK → Prop := fun vs H Q => ∃ (a : Addr) (x : Str), vs = [V.ref a] ∧ H a = some (SetS w a (signsT x)) ∧ x.cps.size < 64 ∧
  ∀ (cs : List Nat) (p : Addr), (cs = x.cps.toList ↔ ascB x = true) → (∀ c ∈ cs, c ∈ x.cps.toList) → cs.length ≤ x.cps.size → H p = none → Q (.ref p) (upd H p (.lst ((cs.map one).map V.str)))
theorem cr_sortedT (hc : X.calm = true) : CallR X (.builtin "sorted") (rSortedT X.w) := by
  intro pins s σ H vs us Q I r h
  obtain ⟨a, x, rfl, ha, h64, q⟩ := h
  have R := setS_get I ha
  have hsz : (signsT x).length = x.cps.size := by
    unfold signsT
    rw [List.length_map, Array.length_toList]
  rw [Vals.ref1 r]
  refine sorted_setT R (I.ok.hd hc) (by rw [hsz] <;> exact h64) fun s' p out c ns k g o hp hg hi hs hm hl hz => ?_
  obtain ⟨cs, e, iff, mem⟩ := sorted_signs hs hm hl
  subst e
  rw [hsz, List.length_map] at hz
  have hlen : ((cs.map one).map V.str).length ≤ sizeLine := by rw [List.length_map, List.length_map, sizeLine_eq]; omega
  have hn : H p = none := I.hok.fresh hp
  have J : Inv X pins σ (upd H p (.lst ((cs.map one).map V.str))) { s with heap := s'.heap, gens := s'.gens, drawn := s'.drawn, toks := s'.toks } :=
    I.call (ch := []) (Un.laid k hp hn) (I.hok.laid k hp ⟨hlen, out.toList, c, vals_of_strs hi, hg⟩) (by rw [g]; exact I.bare) (fun _ z => nomatch z)
  have e : s' = { s with heap := s'.heap, gens := s'.gens, drawn := s'.drawn, toks := s'.toks } := by
    cases s'
    cases s
    cases o
    rfl
  rw [e]
  exact ⟨.ref p, _, J, rfl, q cs p iff mem hz hn⟩
/-- joining signs tells the text just if they are its signs -/
theorem catS_ones (cs : List Nat) : True := trivial
end
end Ls

/-! What an expander is, told of data. -/
namespace Lk
open PySem PySem.Spec PyProof.Rows L2 G
def Light (d : PyData) : Prop := d.weight ≤ 1048576
theorem light_str {z : Str} (h : Light (.str z)) : z.length ≤ sizeLine := by
  unfold Light PyData.weight at h
  exact Nat.le_trans h (by decide)
theorem weight_mem : ∀ {ds : List PyData} {d : PyData}, d ∈ ds → d.weight ≤ PyData.weightAll ds
  | e :: ds, d, h => by
    have u : PyData.weightAll (e :: ds) = e.weight + 1 + PyData.weightAll ds := by simp only [PyData.weightAll]
    rw [u]
    rcases List.mem_cons.mp h with z | z
    · rw [z]
      omega
    · have := weight_mem z
      omega
theorem light_tup {ds : List PyData} (h : Light (.tuple ds)) : ∀ d ∈ ds, Light d := fun d hd => by
  unfold Light at h ⊢
  have u : PyData.weight (.tuple ds) = PyData.weightAll ds := by simp only [PyData.weight]
  rw [u] at h
  exact Nat.le_trans (weight_mem hd) h
theorem weightAll_len : ∀ ds : List PyData, ds.length ≤ PyData.weightAll ds
  | [] => Nat.zero_le _
  | e :: ds => by
    have u : PyData.weightAll (e :: ds) = e.weight + 1 + PyData.weightAll ds := by simp only [PyData.weightAll]
    have := weightAll_len ds
    rw [u, List.length_cons]
    omega
theorem light_len {ds : List PyData} (h : Light (.tuple ds)) : ds.length ≤ 1048576 := by
  unfold Light at h
  have u : PyData.weight (.tuple ds) = PyData.weightAll ds := by simp only [PyData.weight]
  rw [u] at h
  exact Nat.le_trans (weightAll_len ds) h
/-- a word of so many signs at most -/
def shortB (s : Str) : PyData → Bool
  | .str z => allIn s z && decide (z.length ≤ 2000)
  | _ => false
def countB (n : Int) : PyData → Bool
  | .int i => decide (0 ≤ i) && decide (i < n)
  | _ => false
def isNone : PyData → Bool
  | .none => true
  | _ => false
def moveB (s : Str) (n : Int) : PyData → Bool
  | .tuple [a, b, c] => shortB s a && (shortB s b && countB n c)
  | _ => false
def stateB (s : Str) (n : Int) : PyData → Bool
  | .tuple [.tuple ms, last] => decide (ms.length = s.length) && ((isNone last || shortB s last) && ms.all fun m => isNone m || moveB s n m)
  | _ => false
def statesB (s : Str) : PyData → Bool
  | .tuple ss => (decide (1 ≤ ss.length) && decide (ss.length ≤ 60)) && ss.all (stateB s (ss.length : Nat))
  | _ => false
def signsB : PyData → Bool
  | .str z => allIn "abcdefghijklmnopqrstuvwxyz" z && ((decide (1 ≤ z.length) && decide (z.length ≤ 4)) && Ls.ascB z)
  | _ => false
def expB : PyData → Bool
  | .tuple [.str s, f, t] => signsB (.str s) && (shortB s f && statesB s t)
  | _ => false
theorem dq_tup {K : PySem.W.Frag} {H : Hp} {v : V} {d : PyData} (h : Dq K H v d) (e : isTup d = true) : ∃ a xs ds, v = .ref a ∧ d = .tuple ds ∧ SqT K H a xs ∧ DqAll K H xs ds := by
  cases h with
  | tup h1 h2 => exact ⟨_, _, _, rfl, rfl, h1, h2⟩
  | _ => cases e
theorem dq_str {K : PySem.W.Frag} {H : Hp} {v : V} {d : PyData} (h : Dq K H v d) (e : isStr d = true) : ∃ z, v = .str z ∧ d = .str z := by
  cases h with
  | str z => exact ⟨z, rfl, rfl⟩
  | _ => cases e
end Lk
namespace Lk
open PySem PySem.Spec PyProof.Rows L2 G
theorem moveB_tup {s : Str} {n : Int} {d : PyData} (e : isTup d = false) : moveB s n d = false := by
  cases d with
  | tuple _ => cases e
  | _ => rfl
theorem moveB_len {s : Str} {n : Int} {ds : List PyData} (e : ds.length ≠ 3) : moveB s n (.tuple ds) = false := by
  unfold moveB
  split
  · rename_i q
    injection q with q
    rw [q] at e
    exact absurd rfl e
  · rfl
theorem ne_int (a b : Int) : (!decide (V.int a = V.int b)) = !decide (a = b) := by
  congr 1
  exact decide_eq_decide.mpr ⟨fun z => V.int.inj z, fun z => congrArg V.int z⟩
theorem DqAll.three {K : PySem.W.Frag} {H : Hp} {xs : List V} {ds : List PyData} (h : DqAll K H xs ds) (e : xs.length = 3) :
    ∃ x y z d1 d2 d3, xs = [x, y, z] ∧ ds = [d1, d2, d3] ∧ Dq K H x d1 ∧ Dq K H y d2 ∧ Dq K H z d3 := by
  cases h with
  | nil => cases e
  | cons h1 t =>
    cases t with
    | nil => cases e
    | cons h2 t =>
      cases t with
      | nil => cases e
      | cons h3 t =>
        cases t with
        | nil => exact ⟨_, _, _, _, _, _, rfl, rfl, h1, h2, h3⟩
        | cons _ t => simp at e
theorem DqAll.two {K : PySem.W.Frag} {H : Hp} {xs : List V} {ds : List PyData} (h : DqAll K H xs ds) (e : xs.length = 2) :
    ∃ x y d1 d2, xs = [x, y] ∧ ds = [d1, d2] ∧ Dq K H x d1 ∧ Dq K H y d2 := by
  cases h with
  | nil => cases e
  | cons h1 t =>
    cases t with
    | nil => cases e
    | cons h2 t =>
      cases t with
      | nil => exact ⟨_, _, _, _, rfl, rfl, h1, h2⟩
      | cons _ t => simp at e
end Lk
namespace Lk
open PySem PySem.Spec PyProof.Rows L2 G
section
variable {K : PySem.W.Frag} {a D : Addr} {xs : List V} {ds : List PyData} {g : TG} {tt : TT} {te : TE} {vs : List Nat} {σ : L2.St} {H : Hp} {Qd : Hp → Prop}
theorem dqAll_get' {H : Hp} {i : Nat} {x : V} (hA : DqAll K H xs ds) (h : xs[i]? = some x) : ∃ d, ds[i]? = some d ∧ d ∈ ds ∧ ds.take (i + 1) = ds.take i ++ [d] ∧ Dq K H x d := by
  obtain ⟨d, e, q⟩ := hA.get h
  refine ⟨d, e, List.mem_of_getElem? e, ?_, q⟩
  rw [List.take_add_one, e]
  exact rfl
/-- what is told of each item of a tuple of data, in a list -/
theorem lc_bools (f : PyData → Bool) (hT : SqT K H a xs) (hA : DqAll K H xs ds) (nD : H D = none) (hlen : xs.length ≤ 1048576)
    (hs : ∀ x d H' (Nxt : V → Hp → Prop) (Els : Hp → Prop), Same H H' → Dq K H' x d → d ∈ ds → (∀ H4, Same H' H4 → Nxt (.bl (f d)) H4) →
      g x (wipe σ vs) H' fun σ2 H2 => wipe σ2 vs = wipe σ vs ∧ tt σ2 H2 fun b H3 => if b = true then te σ2 H3 Nxt else Els H3)
    (hd : ∀ H', Same H H' → H' D = some (.lst ((ds.map f).map V.bl)) → Qd H') :
    ∃ W : Nat → Nat → Hp → Prop, (∃ m, W 0 m (upd H D (.lst []))) ∧ ∀ i m H, W i m H →
      ((Itt K a).stop i H ∧ Qd H) ∨ ((Itt K a).go i H ∧ ∃ Nx : Hp → Prop, (∀ H', Nx H' → ∃ m', m' < m ∧ W (i + 1) m' H') ∧ ∀ x H', (Itt K a).yld i H x H' → g x (wipe σ vs) H' fun σ2 H2 => wipe σ2 vs = wipe σ vs ∧ tt σ2 H2 fun b H3 =>
        if b = true then te σ2 H3 fun y H4 => ∃ acc, H4 D = some (.lst acc) ∧ acc.length < sizeLine ∧ Nx (upd H4 D (.lst (acc ++ [y]))) else Nx H3) := by
  refine lc_tup (xs := xs) (fun i H' => Same H H' ∧ H' D = some (.lst (((ds.take i).map f).map V.bl))) ⟨same_new nD, upd_same⟩ (fun _ _ _ p => seqT p.1 hT) ?_ ?_
  · rintro i x H1 hx ⟨s1, hD⟩
    obtain ⟨d, e, m, t, q⟩ := dqAll_get' hA hx
    have hi : i < xs.length := (List.getElem?_eq_some_iff.mp hx).1
    refine hs x d H1 _ _ s1 (q.mono s1) m fun H4 s4 => ⟨_, s4 _ _ hD, ?_, fun b o eo => (upd_ne (ne_of_none eo nD)).trans (s4 _ _ (s1 b o eo)), ?_⟩
    · rw [List.length_map, List.length_map, List.length_take]
      refine Nat.lt_of_le_of_lt (Nat.min_le_left _ _) ?_
      exact Nat.lt_of_lt_of_le hi (Nat.le_trans hlen (by decide))
    · rw [upd_same, t, List.map_append, List.map_append]
      rfl
  · rintro H1 ⟨s1, hD⟩
    refine hd H1 s1 ?_
    rw [hD, List.take_of_length_le (Nat.le_of_eq hA.length.symm)]
/-- a one for each item of a tuple of data of which it is not told -/
def onesOf (f : PyData → Bool) (ds : List PyData) : List Int := (ds.filter fun d => !f d).map fun _ => 1
theorem onesOf_nil (f : PyData → Bool) (ds : List PyData) : decide (onesOf f ds = []) = ds.all f := by
  unfold onesOf
  rw [Bool.eq_iff_iff, decide_eq_true_eq, List.map_eq_nil_iff, List.filter_eq_nil_iff, List.all_eq_true]
  simp
theorem lc_ones (f : PyData → Bool) (hT : SqT K H a xs) (hA : DqAll K H xs ds) (nD : H D = none) (hlen : xs.length ≤ 1048576)
    (hs : ∀ x d H' (Nxt : V → Hp → Prop) (Els : Hp → Prop), Same H H' → Dq K H' x d → d ∈ ds → (f d = false → ∀ H4, Same H' H4 → Nxt (.int 1) H4) → (f d = true → ∀ H4, Same H' H4 → Els H4) →
      g x (wipe σ vs) H' fun σ2 H2 => wipe σ2 vs = wipe σ vs ∧ tt σ2 H2 fun b H3 => if b = true then te σ2 H3 Nxt else Els H3)
    (hd : ∀ H', Same H H' → H' D = some (.lst ((onesOf f ds).map V.int)) → Qd H') :
    ∃ W : Nat → Nat → Hp → Prop, (∃ m, W 0 m (upd H D (.lst []))) ∧ ∀ i m H, W i m H →
      ((Itt K a).stop i H ∧ Qd H) ∨ ((Itt K a).go i H ∧ ∃ Nx : Hp → Prop, (∀ H', Nx H' → ∃ m', m' < m ∧ W (i + 1) m' H') ∧ ∀ x H', (Itt K a).yld i H x H' → g x (wipe σ vs) H' fun σ2 H2 => wipe σ2 vs = wipe σ vs ∧ tt σ2 H2 fun b H3 =>
        if b = true then te σ2 H3 fun y H4 => ∃ acc, H4 D = some (.lst acc) ∧ acc.length < sizeLine ∧ Nx (upd H4 D (.lst (acc ++ [y]))) else Nx H3) := by
  refine lc_tup (xs := xs) (fun i H' => Same H H' ∧ H' D = some (.lst ((onesOf f (ds.take i)).map V.int))) ⟨same_new nD, upd_same⟩ (fun _ _ _ p => seqT p.1 hT) ?_ ?_
  · rintro i x H1 hx ⟨s1, hD⟩
    obtain ⟨d, e, m, t, q⟩ := dqAll_get' hA hx
    have hi : i < xs.length := (List.getElem?_eq_some_iff.mp hx).1
    refine hs x d H1 _ _ s1 (q.mono s1) m (fun ef H4 s4 => ⟨_, s4 _ _ hD, ?_, fun b o eo => (upd_ne (ne_of_none eo nD)).trans (s4 _ _ (s1 b o eo)), ?_⟩) (fun ef H4 s4 => ⟨Same.trans s1 s4, ?_⟩)
    · unfold onesOf
      rw [List.length_map, List.length_map]
      refine Nat.lt_of_le_of_lt (List.length_filter_le _ _) ?_
      rw [List.length_take]
      refine Nat.lt_of_le_of_lt (Nat.min_le_left _ _) ?_
      exact Nat.lt_of_lt_of_le hi (Nat.le_trans hlen (by decide))
    · rw [upd_same, t]
      unfold onesOf
      rw [List.filter_append, List.filter_cons_of_pos (by rw [ef] <;> rfl), List.filter_nil, List.map_append, List.map_append]
      rfl
    · rw [s4 _ _ hD, t]
      unfold onesOf
      rw [List.filter_append, List.filter_cons_of_neg (by rw [ef]; decide), List.filter_nil, List.append_nil]
  · rintro H1 ⟨s1, hD⟩
    refine hd H1 s1 ?_
    rw [hD, List.take_of_length_le (Nat.le_of_eq hA.length.symm)]
end
section
variable {D : Addr} {z s : Str} {g : TG} {tt : TT} {te : TE} {vs : List Nat} {σ : L2.St} {H : Hp} {Qd : Hp → Prop}
/-- a one for each sign of a text that is not among some -/
theorem lc_strange (nD : H D = none) (hlen : z.length ≤ 1048576)
    (hs : ∀ c H' (Nxt : V → Hp → Prop) (Els : Hp → Prop), Same H H' → (decide (c ∈ s.cps.toList) = false → Nxt (.int 1) H') → (decide (c ∈ s.cps.toList) = true → Els H') →
      g (.str ⟨#[c]⟩) (wipe σ vs) H' fun σ2 H2 => wipe σ2 vs = wipe σ vs ∧ tt σ2 H2 fun b H3 => if b = true then te σ2 H3 Nxt else Els H3)
    (hd : ∀ H', Same H H' → H' D = some (.lst (((strange s z.cps.toList).map fun _ => (1 : Int)).map V.int)) → Qd H') :
    ∃ W : Nat → Nat → Hp → Prop, (∃ m, W 0 m (upd H D (.lst []))) ∧ ∀ i m H, W i m H →
      ((Its z).stop i H ∧ Qd H) ∨ ((Its z).go i H ∧ ∃ Nx : Hp → Prop, (∀ H', Nx H' → ∃ m', m' < m ∧ W (i + 1) m' H') ∧ ∀ x H', (Its z).yld i H x H' → g x (wipe σ vs) H' fun σ2 H2 => wipe σ2 vs = wipe σ vs ∧ tt σ2 H2 fun b H3 =>
        if b = true then te σ2 H3 fun y H4 => ∃ acc, H4 D = some (.lst acc) ∧ acc.length < sizeLine ∧ Nx (upd H4 D (.lst (acc ++ [y]))) else Nx H3) := by
  have el : z.cps.toList.length = z.length := by simp [Str.length]
  refine lc_it walk_str (fun j H' => Same H H' ∧ H' D = some (.lst (((strange s (z.cps.toList.take j)).map fun _ => (1 : Int)).map V.int))) ⟨same_new nD, upd_same⟩ (fun _ _ _ _ => trivial) ?_ ?_
  · rintro j v H1 H2 hj ⟨s1, hD⟩ ⟨rfl, cc, hcc, rfl⟩
    have et : z.cps.toList.take (j + 1) = z.cps.toList.take j ++ [cc] := by
      rw [List.take_add_one]
      have : z.cps.toList[j]? = some cc := by simpa using hcc
      rw [this]
      rfl
    refine hs cc H2 _ _ s1 (fun e => ⟨_, hD, ?_, fun b o e => (upd_ne (ne_of_none e nD)).trans (s1 b o e), ?_⟩) (fun e => ⟨s1, ?_⟩)
    · rw [List.length_map, List.length_map]
      refine Nat.lt_of_le_of_lt (List.length_filter_le _ _) ?_
      rw [List.length_take, el]
      exact Nat.lt_of_le_of_lt (Nat.min_le_right _ _) (Nat.lt_of_le_of_lt hlen (by decide))
    · rw [upd_same, et, strange_out _ (of_decide_eq_false e), List.map_append, List.map_append]
      rfl
    · rw [et, strange_in _ (of_decide_eq_true e)]
      exact hD
  · rintro H1 ⟨s1, hD⟩
    refine hd H1 s1 ?_
    rw [List.take_of_length_le (by rw [el]; exact Nat.le_refl _)] at hD
    exact hD
theorem strange_ones (s z : Str) : decide (((strange s z.cps.toList).map fun _ => (1 : Int)) = []) = allIn s z := by
  have h := strange_nil s z
  rw [Bool.eq_iff_iff, decide_eq_true_eq, List.map_eq_nil_iff]
  exact h
end
/-- not a tuple, or not of so many items -/
theorem stateB_tup {s : Str} {n : Int} {d : PyData} (e : isTup d = false) : stateB s n d = false := by
  cases d with
  | tuple _ => cases e
  | _ => rfl
theorem stateB_len {s : Str} {n : Int} {ds : List PyData} (e : ds.length ≠ 2) : stateB s n (.tuple ds) = false := by
  unfold stateB
  split
  · rename_i q
    injection q with q
    rw [q] at e
    exact absurd rfl e
  · rfl
theorem stateB_first {s : Str} {n : Int} {d e : PyData} (h : isTup d = false) : stateB s n (.tuple [d, e]) = false := by
  cases d with
  | tuple _ => cases h
  | _ => rfl
theorem statesB_tup {s : Str} {d : PyData} (e : isTup d = false) : statesB s d = false := by
  cases d with
  | tuple _ => cases e
  | _ => rfl
theorem expB_tup {d : PyData} (e : isTup d = false) : expB d = false := by
  cases d with
  | tuple _ => cases e
  | _ => rfl
theorem expB_len {ds : List PyData} (e : ds.length ≠ 3) : expB (.tuple ds) = false := by
  unfold expB
  split
  · rename_i q
    injection q with q
    rw [q] at e
    exact absurd rfl e
  · rfl
theorem expB_first {d e f : PyData} (h : isStr d = false) : expB (.tuple [d, e, f]) = false := by
  cases d with
  | str _ => cases h
  | _ => rfl
theorem isNone_non {K : PySem.W.Frag} {H : Hp} {v : V} {d : PyData} (h : Dq K H v d) : decide (v = .non) = isNone d := by
  cases h <;> first | rfl | exact decide_eq_false (fun z => by cases z)
end Lk
namespace Lk
theorem two_ways {c : Bool} {A R : Prop} (r : R) (h : c = true → R → A) : if c = true then A else R := by
  cases e : c with
  | true => exact h e r
  | false => exact r
theorem tt_and (b : Bool) : (true && b) = b := rfl
theorem ff_and (b : Bool) : (false && b) = false := rfl
theorem tt_or (b : Bool) : (true || b) = true := rfl
theorem ff_or (b : Bool) : (false || b) = b := rfl
end Lk
namespace Lk
open PySem PySem.Spec PyProof.Rows L2 G
theorem canLay_one {c : Nat} (h : c < 1000) : PyData.canLay0 (.str (Ls.one c)) = true := by
  unfold PyData.canLay0
  show (#[c] : Array Nat).all (· < 0x110000) = true
  simp
  omega
theorem eqvAll_strs : ∀ l m : List Str, PyData.eqvAll (l.map PyData.str) (m.map PyData.str) = decide (l = m)
  | [], [] => by simp [PyData.eqvAll]
  | [], b :: m => by simp [PyData.eqvAll]
  | a :: l, [] => by simp [PyData.eqvAll]
  | a :: l, b :: m => by
    have ih := eqvAll_strs l m
    rw [List.map_cons, List.map_cons]
    simp only [PyData.eqvAll, PyData.eqv]
    rw [ih, Bool.eq_iff_iff]
    simp
theorem eqv_strs (l m : List Str) : PyData.eqv (.list (l.map PyData.str)) (.list (m.map PyData.str)) = decide (l = m) := by
  simp only [PyData.eqv]
  exact eqvAll_strs l m
theorem dq_strs {K : PySem.W.Frag} {H : Hp} : ∀ ns : List Str, DpAll K H (ns.map V.str) (ns.map PyData.str)
  | [] => .nil
  | n :: ns => .cons (.str n) (dq_strs ns)
theorem shaped_ones (ns : List Nat) (h : ∀ c ∈ ns, c < 1000) : SeqAt.shaped (.list ((ns.map Ls.one).map PyData.str)) = true := by
  have h1 : ∀ l : List Nat, (∀ c ∈ l, c < 1000) → PyData.canLayAll0 ((l.map Ls.one).map PyData.str) = true := fun l => by
    induction l with
    | nil =>
      intro _
      rfl
    | cons n r ih =>
      intro h
      rw [List.map_cons, List.map_cons]
      unfold PyData.canLayAll0
      rw [ih fun c hc => h c (List.mem_cons_of_mem _ hc), Bool.and_true]
      have hn := h n (List.mem_cons_self ..)
      exact canLay_one hn
  have h2 : ∀ l : List Str, PyData.depthAll (l.map PyData.str) = 0 := fun l => by
    induction l with
    | nil => rfl
    | cons n r ih =>
      rw [List.map_cons]
      unfold PyData.depthAll
      rw [ih]
      rfl
  unfold SeqAt.shaped
  rw [Bool.and_eq_true]
  constructor
  · unfold PyData.canLay0
    exact h1 ns h
  · unfold PyData.depth
    rw [h2]
    exact rfl
theorem sg_ones (z : Str) : sg z = (z.cps.toList.map Ls.one).map V.str := by
  unfold sg
  rw [List.map_map]
  rfl
theorem ones_eq {l m : List Nat} : l.map Ls.one = m.map Ls.one ↔ l = m := by
  constructor
  · intro h
    induction l generalizing m with
    | nil =>
      cases m with
      | nil => rfl
      | cons b m => cases h
    | cons a l ih =>
      cases m with
      | nil => cases h
      | cons b m =>
        rw [List.map_cons, List.map_cons] at h
        obtain ⟨h1, h2⟩ := List.cons.inj h
        rw [Ls.one_inj h1, ih h2]
  · intro h
    rw [h]
theorem asc_eq {x : Str} {cs : List Nat} (h : cs = x.cps.toList ↔ Ls.ascB x = true) : decide (x.cps.toList.map Ls.one = cs.map Ls.one) = Ls.ascB x := by
  rw [Bool.eq_iff_iff, decide_eq_true_eq, ones_eq, ← h]
  exact eq_comm
theorem asc_join {x : Str} {cs : List Nat} (h : cs = x.cps.toList ↔ Ls.ascB x = true) : (!decide (V.str (Txt.join (tx []) (cs.map Ls.one)) = V.str x)) = !Ls.ascB x := by
  congr 1
  rw [join_empty]
  have e : catS (cs.map Ls.one) = cs := catS_ones cs
  rw [e, Bool.eq_iff_iff, decide_eq_true_eq, ← h]
  constructor
  · intro z
    rw [← V.str.inj z]
  · intro z
    rw [z]
end Lk
namespace Lk
open PySem
theorem small_letters {z : Str} (h : allIn "abcdefghijklmnopqrstuvwxyz" z = true) : ∀ c ∈ z.cps.toList, c < 1000 := by
  intro c hc
  unfold allIn at h
  have q := List.contains_iff_mem.mp (List.all_eq_true.mp h c hc)
  have all : ∀ d ∈ ("abcdefghijklmnopqrstuvwxyz" : Str).cps.toList, d < 1000 := by decide +kernel
  exact all c q
end Lk
namespace Lk
open PySem PySem.Spec PyProof.Rows L2 G
def rLenSeq (K : PySem.W.Frag) : List V → Hp → VK → Prop := fun xs H Q => ∃ p ys, xs = [.ref p] ∧ (SqL K H p ys ∨ SqT K H p ys) ∧ Q (.int ys.length) H
end Lk
namespace Lk
open PySem
theorem signs_four {s : Str} (h : signsB (.str s) = true) : s.length ≤ 4 := by
  have h : (allIn "abcdefghijklmnopqrstuvwxyz" s && ((decide (1 ≤ s.length) && decide (s.length ≤ 4)) && Ls.ascB s)) = true := h
  simp only [Bool.and_eq_true, decide_eq_true_eq] at h
  exact h.2.1.2
end Lk
namespace Lk
open PySem PySem.Spec PyProof.Rows L2 G
theorem two_waysH {H : Hp} {c : Bool} {A : Prop} {R : Hp → Prop} (r : ∀ H0, Same H H0 → R H0) (h : c = true → (∀ H0, Same H H0 → R H0) → A) : if c = true then A else R H := by
  cases e : c with
  | true => exact h e r
  | false => exact r H (Same.refl H)
end Lk

/-! A dict with pairs as keys against the empty one. -/
namespace Lk
open PySem PySem.Spec PyProof.Rows L2
section
variable {P : Program} {w : World} {K : Type} [DecidableEq K] {knd : HeapKind P w K} {A : Around} {E : Value → Shared → Prop} {s : Shared}
theorem same_pairs0 {nm : String} {a b : Addr} {ka kb : List (K × Addr × Value)} {Q : Bool → Shared → Prop} (ha : (a == sysModules) = false) (hb : (b == sysModules) = false)
    (da : s.heap.DictOfH knd a ka) (db : s.heap.DictOfH knd b kb) (h0 : kb = []) (h : Q ka.isEmpty s) : wpAny (model P w) A (Builtin.Dict.samePairs nm a b) Q E s := by
  obtain ⟨oa, es, ep, hoa, _, hda, hea, _⟩ := da
  obtain ⟨ob, es', ep', hob, _, hdb, heb, _⟩ := db
  have hla : es.size = ka.length := size_of_entries hea
  have hlb : es'.size = 0 := by rw [size_of_entries heb, h0]; rfl
  unfold Builtin.Dict.samePairs Builtin.Dict.showsAll
  rw [if_neg (show ¬ (a == sysModules) = true by rw [ha]; exact Bool.false_ne_true), if_neg (show ¬ (b == sysModules) = true by rw [hb]; exact Bool.false_ne_true)]
  refine wpAny_bind (wpAny_pure (wpAny_bind (wpAny_pure ?_)))
  refine wpAny_bind (wpAny_dictEntries hoa hda ?_)
  dsimp only
  refine wpAny_bind (wpAny_dictEntries hob hdb ?_)
  by_cases hsz : es.size = es'.size
  case neg =>
    rw [if_pos (by simpa using hsz)]
    have e : ka.isEmpty = false := by
      cases ka with
      | nil => exact absurd (hla.trans hlb.symm) hsz
      | cons _ _ => rfl
    rw [e] at h
    exact wpAny_bind (wpAny_rule (wpAny_pure h))
  case pos =>
    have e : ka.isEmpty = true := by
      cases ka with
      | nil => rfl
      | cons x r =>
        rw [hsz, hlb] at hla
        cases hla
    rw [e] at h
    rw [if_neg (by rw [hsz]; simp)]
    refine wpAny_bind (wpAny_dictEpoch hoa hda ?_)
    refine wpAny_bind ?_
    rw [Std.Legacy.Range.forIn_eq_forIn_range']
    simp only [Std.Legacy.Range.size, Nat.sub_zero, Nat.add_sub_cancel, Nat.div_one]
    have e0 : es.size = 0 := hsz.trans hlb
    rw [e0]
    simp only [List.range'_zero, List.forIn_nil]
    exact wpAny_pure (wpAny_pure h)
theorem ne_pairs0 {a b : Addr} {ka kb : List (K × Addr × Value)} {Q : Value → Shared → Prop} (ha : (a == sysModules) = false) (hb : (b == sysModules) = false)
    (da : s.heap.DictOfH knd a ka) (db : s.heap.DictOfH knd b kb) (h0 : kb = []) (hu : A.units < cLine) (h : Q (.bool (!ka.isEmpty)) s) :
    wpAny (model P w) A (compareOp .NotEq (.ref a) (.ref b)) Q E s := by
  refine wpAny_richCompare_same_room (op := .NotEq) da.typeIs db.typeIs PySem.F.slot_dict_ne (wpAny_call_entry PySem.F.slot_dict_ne da.typeIs PySem.F.entry_dict_ne ?_ (PySem.F.args_dict_ne_2 _ _)) hu
  show wpAny _ _ (Builtin.Dict.dictSlotArgs "__ne__" ⟨[.ref a, .ref b], []⟩ >>= _) _ _ s
  refine wpAny_bind ?_
  unfold Builtin.Dict.dictSlotArgs
  refine wpAny_bind (PySem.wpAny_notOrdered_dict da.typeIs ?_)
  show wpAny _ _ (pure (Value.ref a, Value.ref b)) _ _ s
  refine wpAny_pure ?_
  refine wpAny_bind (wpAny_isInstance (T := "dict") db.typeIs PySem.F.sub_dict_dict ?_)
  simp only [Bool.not_true, Bool.false_eq_true, if_false]
  refine wpAny_bind (wpAny_pure (wpAny_bind (wpAny_pure ?_)))
  refine wpAny_bind (same_pairs0 ha hb da db h0 ?_)
  refine wpAny_pure ⟨_, rfl, ?_, ?_⟩
  · exact fun x => nomatch x
  · simpa using h
end
section
variable {X : Cx}
def rNeT0 : R2 := fun x y H Q => ∃ a b kvs, x = .ref a ∧ y = .ref b ∧ H a = some (.dT kvs) ∧ H b = some (.dT []) ∧ Q (.bl (!kvs.isEmpty)) H
theorem op_neT0 (hu : X.A.units < cLine) : OpR X (compareOp .NotEq) rNeT0 := by
  intro pins s σ H x y v u Q I rx ry h
  obtain ⟨a, b, kvs, rfl, rfl, ea, eb, q⟩ := h
  obtain rfl : v = Value.ref a := rx
  obtain rfl : u = Value.ref b := ry
  obtain ⟨_, ya, va, ra, da⟩ := dt_of I.hok ea
  obtain ⟨_, yb, vb, rb, db⟩ := dt_of I.hok eb
  have e0 : vb = [] := by
    cases rb
    rfl
  have e1 : va.isEmpty = kvs.isEmpty := by cases ra <;> rfl
  refine ne_pairs0 ya yb da db e0 hu ?_
  rw [e1]
  exact ⟨.bl (!kvs.isEmpty), H, I, rfl, q⟩
end
end Lk

/-! Drawn expanders, told of data; calls and sizes. -/
namespace Lk
open PySem PySem.Spec PyProof.Rows L2 G
/-- a text of so many signs of z at most -/
def WordOf (z w : Str) (n : Nat) : Prop := w.length ≤ n ∧ ∀ c ∈ w.cps.toList, c ∈ z.cps.toList
def MoveD (z : Str) (n : Nat) (d : PyData) : Prop := d = .none ∨ ∃ (a b : Str) (g : Nat), d = .tuple [.str a, .str b, .int (g : Int)] ∧ WordOf z a 3 ∧ WordOf z b 3 ∧ g < n
def StateD (z : Str) (n : Nat) (d : PyData) : Prop := ∃ (ms : List PyData) (l : PyData), d = .tuple [.tuple ms, l] ∧ ms.length = z.length ∧ (∀ m ∈ ms, MoveD z n m) ∧ (l = .none ∨ ∃ w, l = .str w ∧ WordOf z w 3)
/-- signs: one to four letters, ascending -/
def SignsP (z : Str) : Prop := signsB (.str z) = true
/-- as they are drawn: no y among them -/
def SignsD (z : Str) : Prop := SignsP z ∧ 121 ∉ z.cps.toList
def ExpD (d : PyData) : Prop := ∃ (z f : Str) (ss : List PyData), d = .tuple [.str z, .str f, .tuple ss] ∧ SignsD z ∧ WordOf z f 3 ∧ 1 ≤ ss.length ∧ ss.length ≤ 4 ∧ ∀ s ∈ ss, StateD z ss.length s
theorem SignsP.small {z : Str} (h : SignsP z) : 1 ≤ z.length ∧ z.length ≤ 4 ∧ ∀ c ∈ z.cps.toList, c < 1000 := by
  have h : (allIn "abcdefghijklmnopqrstuvwxyz" z && ((decide (1 ≤ z.length) && decide (z.length ≤ 4)) && Ls.ascB z)) = true := h
  rw [Bool.and_eq_true, Bool.and_eq_true, Bool.and_eq_true, decide_eq_true_eq, decide_eq_true_eq] at h
  exact ⟨h.2.1.1, h.2.1.2, small_letters h.1⟩
theorem SignsD.small {z : Str} (h : SignsD z) : 1 ≤ z.length ∧ z.length ≤ 4 ∧ ∀ c ∈ z.cps.toList, c < 1000 := h.1.small
/-- items of a tuple of data -/
theorem Dq.items {K : PySem.W.Frag} {H : Hp} {v : V} {ds : List PyData} (h : Dq K H v (.tuple ds)) : ∃ a xs, v = .ref a ∧ SqT K H a xs ∧ DqAll K H xs ds := by
  cases h with
  | tup h1 h2 => exact ⟨_, _, rfl, h1, h2⟩
theorem DqAll.one {K : PySem.W.Frag} {H : Hp} {xs : List V} {d : PyData} {ds : List PyData} (h : DqAll K H xs (d :: ds)) : ∃ x ys, xs = x :: ys ∧ Dq K H x d ∧ DqAll K H ys ds := by
  cases h with
  | cons h1 h2 => exact ⟨_, _, rfl, h1, h2⟩
theorem DqAll.none {K : PySem.W.Frag} {H : Hp} {xs : List V} (h : DqAll K H xs []) : xs = [] := by
  cases h
  rfl
theorem Dq.strV {K : PySem.W.Frag} {H : Hp} {v : V} {z : Str} (h : Dq K H v (.str z)) : v = .str z := by
  cases h
  rfl
theorem Dq.intV {K : PySem.W.Frag} {H : Hp} {v : V} {i : Int} (h : Dq K H v (.int i)) : v = .int i := by
  cases h
  rfl
theorem Dq.noneV {K : PySem.W.Frag} {H : Hp} {v : V} (h : Dq K H v .none) : v = .non := by
  cases h
  rfl
/-- a call: a new pair of a state and a sign -/
def CallV (z : Str) (n : Nat) (H : Hp) (x : V) : Prop := ∃ (p : Addr) (i c : Nat), x = .ref p ∧ H p = some (.tup [.int (i : Int), .str (Ls.one c)]) ∧ i < n ∧ c ∈ z.cps.toList
theorem CallV.mono {z : Str} {n : Nat} {H H' : Hp} {x : V} (h : CallV z n H x) (s : Same H H') : CallV z n H' x := by
  obtain ⟨p, i, c, e, t, r⟩ := h
  exact ⟨p, i, c, e, s _ _ t, r⟩
def CallsL (z : Str) (n : Nat) (H : Hp) (l : Addr) (k : Nat) : Prop := ∃ xs, H l = some (.lst xs) ∧ xs.length ≤ k ∧ ∀ x ∈ xs, CallV z n H x
theorem CallsL.mono {z : Str} {n k : Nat} {H H' : Hp} {l : Addr} (h : CallsL z n H l k) (s : Same H H') : CallsL z n H' l k := by
  obtain ⟨xs, e, hl, q⟩ := h
  exact ⟨xs, s _ _ e, hl, fun x hx => (q x hx).mono s⟩
/-- an expander as it lies -/
structure ExpV (K : PySem.W.Frag) (H : Hp) (v : V) (z f : Str) (ss : List PyData) : Prop where
  it : ∃ a y t xs, v = .ref a ∧ SqT K H a [.str z, .str f, .ref t] ∧ y = V.ref t ∧ SqT K H t xs ∧ DqAll K H xs ss
theorem expV_of {K : PySem.W.Frag} {H : Hp} {v : V} {z f : Str} {ss : List PyData} (h : Dq K H v (.tuple [.str z, .str f, .tuple ss])) :
    ∃ a t xs, v = .ref a ∧ SqT K H a [.str z, .str f, .ref t] ∧ SqT K H t xs ∧ DqAll K H xs ss := by
  obtain ⟨a, xs, rfl, h1, h2⟩ := h.items
  obtain ⟨x, ys, rfl, hx, h2⟩ := h2.one
  obtain ⟨y, ys, rfl, hy, h2⟩ := h2.one
  obtain ⟨u, ys, rfl, hu, h2⟩ := h2.one
  obtain rfl := h2.none
  obtain rfl := hx.strV
  obtain rfl := hy.strV
  obtain ⟨t, zs, rfl, h3, h4⟩ := hu.items
  exact ⟨a, t, zs, rfl, h1, h3, h4⟩
end Lk
namespace Lk
open PySem PySem.Spec PyProof.Rows L2 G
theorem unit1 {n : Nat} (h : n + 64 < cLine) : n + 1 < cLine := Nat.lt_of_le_of_lt (by omega) h
/-- the place of a sign of z -/
theorem place_of {z : Str} {c : Nat} (h : c ∈ z.cps.toList) : ∃ i rest, Builtin.Str.occurrences z (Ls.one c) 0 z.length 1 = i :: rest ∧ i < z.length := by
  have e := PySem.StrLaws.found_one z c
  rw [decide_eq_true h] at e
  cases q : Builtin.Str.occurrences z (Ls.one c) 0 z.length 1 with
  | nil =>
    have e' : (!(Builtin.Str.occurrences z (Ls.one c) 0 z.length 1).isEmpty) = true := e
    rw [q] at e'
    cases e'
  | cons i rest =>
    have s := (PySem.StrLaws.occ_spec z (Ls.one c) 0 z.length 1 i (by rw [q]; exact List.mem_cons_self ..)).1
    have l : (Ls.one c).length = 1 := rfl
    exact ⟨i, rest, rfl, by omega⟩
/-- what stands at a call: how many signs, and the state or nothing -/
def SizeV (H : Hp) (v : V) : Prop := ∃ (p : Addr) (a : Int) (h : V), v = .ref p ∧ H p = some (.tup [.int a, h]) ∧ (h = .non ∨ ∃ g : Int, h = .int g)
theorem SizeV.mono {H H' : Hp} {v : V} (h : SizeV H v) (s : Same H H') : SizeV H' v := by
  obtain ⟨p, a, x, e, t, r⟩ := h
  exact ⟨p, a, x, e, s _ _ t, r⟩
def Sizes (H : Hp) (d : Addr) (k : Nat) : Prop := ∃ kvs : List (List Key × V), H d = some (.dT kvs) ∧ kvs.length ≤ k ∧ ∀ kv ∈ kvs, SizeV (sans H d) kv.2
theorem Sizes.mono {H H' : Hp} {d : Addr} {k k' : Nat} (h : Sizes H d k) (s : Same H H') (hk : k ≤ k') : Sizes H' d k' := by
  obtain ⟨kvs, e, l, q⟩ := h
  exact ⟨kvs, s _ _ e, Nat.le_trans l hk, fun kv hkv => (q kv hkv).mono (Sm.of s)⟩
theorem val_mem {kvs : List (List Key × V)} {k : List Key} {v : V} (h : valV kvs k = some v) : ∃ kv ∈ kvs, kv.2 = v := by
  unfold valV at h
  rw [Option.map_eq_some_iff] at h
  obtain ⟨kv, e, r⟩ := h
  exact ⟨kv, List.mem_of_find?_eq_some e, r⟩
theorem put_mem {kvs : List (List Key × V)} {k : List Key} {v : V} {kv : List Key × V} (h : kv ∈ putK kvs k v) : kv ∈ kvs ∨ kv.2 = v := by
  unfold putK at h
  split at h
  · obtain ⟨x, hx, e⟩ := List.mem_map.mp h
    split at e
    · right
      rw [← e]
    · left
      rw [← e]
      exact hx
  · rcases List.mem_append.mp h with z | z
    · exact .inl z
    · right
      rw [List.mem_singleton.mp z]
end Lk
namespace Lk
open PySem PySem.Spec PyProof.Rows L2 G
theorem Sm.same_of {d : Addr} {H H1 H2 : Hp} (s : Same H H1) (sm : Sm d H1 H2) (nd : H d = none) : Same H H2 := fun b o e =>
  (sans_some (sm b o (sans_of (fun z => by
    rw [z, nd] at e
    cases e) (s b o e)))).2
theorem Sm.at_ {d b : Addr} {H1 H2 : Hp} {o : HO} (sm : Sm d H1 H2) (n : b ≠ d) (e : H1 b = some o) : H2 b = some o := (sans_some (sm b o (sans_of n e))).2
/-- the parts of a drawn state -/
theorem stateV {K : PySem.W.Frag} {H : Hp} {z : Str} {n : Nat} {x : V} {d : PyData} (h : Dq K H x d) (s : StateD z n d) : ∃ (p m : Addr) (l : V) (ms : List V) (es : List PyData),
    x = .ref p ∧ SqT K H p [.ref m, l] ∧ SqT K H m ms ∧ DqAll K H ms es ∧ es.length = z.length ∧ (∀ e ∈ es, MoveD z n e) := by
  obtain ⟨es, l, rfl, hl, hm, _⟩ := s
  obtain ⟨p, xs, rfl, h1, h2⟩ := h.items
  obtain ⟨y, ys, rfl, hy, h2⟩ := h2.one
  obtain ⟨u, ys, rfl, hu, h2⟩ := h2.one
  obtain rfl := h2.none
  obtain ⟨m, ms, rfl, h3, h4⟩ := hy.items
  exact ⟨p, m, u, ms, es, rfl, h1, h3, h4, hl, hm⟩
/-- the parts of a drawn move -/
theorem moveV {K : PySem.W.Frag} {H : Hp} {z : Str} {n : Nat} {x : V} {d : PyData} (h : Dq K H x d) (s : MoveD z n d) : x = .non ∨ ∃ (p : Addr) (a b : Str) (g : Nat),
    x = .ref p ∧ SqT K H p [.str a, .str b, .int (g : Int)] ∧ WordOf z a 3 ∧ WordOf z b 3 ∧ g < n := by
  rcases s with rfl | ⟨a, b, g, rfl, ha, hb, hg⟩
  · exact .inl h.noneV
  · obtain ⟨p, ps, rfl, hp, hp2⟩ := h.items
    obtain ⟨x1, ps, rfl, hx1, hp2⟩ := hp2.one
    obtain ⟨x2, ps, rfl, hx2, hp2⟩ := hp2.one
    obtain ⟨x3, ps, rfl, hx3, hp2⟩ := hp2.one
    obtain rfl := hp2.none
    obtain rfl := hx1.strV
    obtain rfl := hx2.strV
    obtain rfl := hx3.intV
    exact .inr ⟨p, a, b, g, rfl, hp, ha, hb, hg⟩
theorem dqAll_at {K : PySem.W.Frag} {H : Hp} {xs : List V} {ds : List PyData} {i : Nat} (h : DqAll K H xs ds) (hi : i < ds.length) : ∃ x d, xs[i]? = some x ∧ d ∈ ds ∧ Dq K H x d := by
  have hx : i < xs.length := by rw [h.length]; exact hi
  have e := List.getElem?_eq_getElem hx
  obtain ⟨d, _, m, _, q⟩ := dqAll_get' h e
  exact ⟨xs[i], d, e, m, q⟩
/-- here: nothing, or a state -/
def HereV (v : V) : Prop := v = .non ∨ ∃ g : Int, v = .int g
end Lk
namespace Lk
open PySem PySem.Spec PyProof.Rows L2 G
theorem unit0 {n : Nat} (h : n + 64 < cLine) : n < cLine := Nat.lt_of_le_of_lt (by omega) h
theorem sans_upd {H : Hp} {a b : Addr} {o : HO} (n : b ≠ a) : sans (upd H b o) a = upd (sans H a) b o := by
  funext x
  by_cases e : x = b
  · subst e
    rw [sans_ne n, upd_same, upd_same]
  · by_cases e2 : x = a
    · subst e2
      rw [sans_self, upd_ne e, sans_self]
    · rw [sans_ne e2, upd_ne e, upd_ne e, sans_ne e2]
/-- data that lie outside the pot and one list -/
abbrev out2 (H : Hp) (a b : Addr) : Hp := sans (sans H a) b
theorem out2_sm {H H' : Hp} {a b : Addr} (s : Sm a H H') : Same (out2 H a b) (out2 H' a b) := Sm.of s
theorem out2_upd {H : Hp} {a b : Addr} {o : HO} (n : b ≠ a) : Same (out2 H a b) (out2 (upd H b o) a b) := by
  unfold out2
  rw [sans_upd n]
  exact Sm.pot
theorem signs_a : SignsD "a" := by unfold SignsD SignsP; decide +kernel
theorem signs_ab : SignsD "ab" := by unfold SignsD SignsP; decide +kernel
theorem signs_bz : SignsD "bz" := by unfold SignsD SignsP; decide +kernel
theorem signs_abc : SignsD "abc" := by unfold SignsD SignsP; decide +kernel
theorem signs_abcz : SignsD "abcz" := by unfold SignsD SignsP; decide +kernel
theorem word_tx {z : Str} {l : List Nat} {n : Nat} (h : l.length ≤ n) (hc : ∀ c ∈ l, c ∈ z.cps.toList) : WordOf z (tx l) n := ⟨by rw [tx_len]; exact h, fun c h => hc c (by rw [tx_codes] at h; exact h)⟩
theorem word_empty (z : Str) (n : Nat) : WordOf z "" n := ⟨Nat.zero_le _, fun c h => by cases h⟩
theorem val_some {kvs : List (List Key × V)} {k : List Key} {v : V} (h : (k, v) ∈ kvs) : ∃ w, valV kvs k = some w := by
  have e := valV_any k kvs
  have t : (kvs.any fun kv => decide (kv.1 = k)) = true := List.any_eq_true.mpr ⟨(k, v), h, decide_eq_true rfl⟩
  rw [t] at e
  exact Option.isSome_iff_exists.mp e.symm
/-- a list that grows behind the pot; its items lie outside it, the pot and X -/
abbrev out3 (H : Hp) (a M X : Addr) : Hp := sans (out2 H a M) X
theorem out3_sm {H H' : Hp} {a M X : Addr} (s : Sm a H H') : Same (out3 H a M X) (out3 H' a M X) := Sm.of (out2_sm s)
structure Grows (K : PySem.W.Frag) (H : Hp) (a M X : Addr) (n : Nat) (G : PyData → Prop) : Prop where
  it : ∃ us es, H M = some (.lst us) ∧ us.length = n ∧ DqAll K (out3 H a M X) us es ∧ ∀ e ∈ es, G e
theorem Grows.sm {K : PySem.W.Frag} {H H' : Hp} {a M X : Addr} {n : Nat} {G : PyData → Prop} (h : Grows K H a M X n G) (ne : M ≠ a) (s : Sm a H H') : Grows K H' a M X n G := by
  obtain ⟨us, es, e, l, d, q⟩ := h.it
  exact ⟨us, es, s.at_ ne e, l, d.mono (out3_sm s), q⟩
theorem Grows.new {K : PySem.W.Frag} {H : Hp} {a M X : Addr} {G : PyData → Prop} (h : H M = some (.lst [])) : Grows K H a M X 0 G := ⟨[], [], h, rfl, .nil, fun _ h => (List.not_mem_nil h).elim⟩
theorem Grows.add {K : PySem.W.Frag} {H : Hp} {a M X : Addr} {n : Nat} {G : PyData → Prop} (h : Grows K H a M X n G) (ne : M ≠ a) {x : V} {d : PyData} (hx : Dq K (out3 H a M X) x d) (hG : G d) :
    ∃ us, H M = some (.lst us) ∧ us.length = n ∧ Grows K (L2.upd H M (.lst (us ++ [x]))) a M X (n + 1) G := by
  obtain ⟨us, es, e, l, dd, q⟩ := h.it
  refine ⟨us, e, l, us ++ [x], es ++ [d], upd_same, by rw [List.length_append, l]; rfl, (dd.append (.cons hx .nil)).mono (Sm.of (out2_upd ne)), fun y hy => ?_⟩
  rcases List.mem_append.mp hy with z | z
  · exact q y z
  · rw [List.mem_singleton.mp z]
    exact hG
/-- a new tuple lies outside them -/
theorem out3_tup {K : PySem.W.Frag} {H : Hp} {a M X p : Addr} {xs : List V} (pa : p ≠ a) (pM : p ≠ M) (pX : p ≠ X) : SqT K (out3 (upd H p (.tup xs)) a M X) p xs := SqT.of (sans_of pX (sans_of pM (sans_of pa upd_same)))
theorem out3_swap {H : Hp} {a M X : Addr} : Same (out3 H a M X) (out3 H a X X) := fun b o e => by
  obtain ⟨n1, e1⟩ := sans_some e
  obtain ⟨n2, e2⟩ := sans_some e1
  exact sans_of n1 (sans_of n1 e2)
theorem out3_in {H : Hp} {a M X : Addr} : Same (out3 H a M X) (sans H a) := Same.trans sans_same sans_same
end Lk
namespace Lk
open PySem PySem.Spec PyProof.Rows L2 G
theorem seqT_out {K : PySem.W.Frag} {H : Hp} {a D : Addr} {xs ys : List V} (h : SqT K H a xs) (hD : H D = some (.lst ys)) : SqT K (sans H D) a xs := by
  rcases h with (h | ⟨o, h⟩) | h
  · exact .inl (.inl (sans_of (fun z => by
      rw [z, hD] at h
      cases h) h))
  · exact .inl (.inr ⟨o, sans_of (fun z => by
      rw [z, hD] at h
      cases h) h⟩)
  · exact .inr h
mutual
/-- data without a list lie outside any list -/
theorem Dq.out {K : PySem.W.Frag} {H : Hp} {D : Addr} {ys : List V} (hD : H D = some (.lst ys)) : ∀ {v : V} {d : PyData}, Dq K H v d → hasList d = false → Dq K (sans H D) v d
  | _, _, .non, _ => .non
  | _, _, .bl b, _ => .bl b
  | _, _, .int i, _ => .int i
  | _, _, .str x, _ => .str x
  | _, _, .lst h t, n => by
    unfold hasList at n
    cases n
  | _, _, .tup h t, n => .tup (seqT_out h hD) (DqAll.out hD t (by
    unfold hasList at n
    exact n))
  | _, _, .emp h, _ => .emp (sans_of (fun z => by
      rw [z, hD] at h
      cases h) h)
theorem DqAll.out {K : PySem.W.Frag} {H : Hp} {D : Addr} {ys : List V} (hD : H D = some (.lst ys)) : ∀ {vs : List V} {ds : List PyData}, DqAll K H vs ds → hasListAll ds = false → DqAll K (sans H D) vs ds
  | _, _, .nil, _ => .nil
  | _, _, .cons h t, n => by
    unfold hasListAll at n
    obtain ⟨n1, n2⟩ := Bool.or_eq_false_iff.mp n
    exact .cons (Dq.out hD h n1) (DqAll.out hD t n2)
end
theorem hasListAll_of : ∀ {ds : List PyData}, (∀ d ∈ ds, hasList d = false) → hasListAll ds = false
  | [], _ => by unfold hasListAll; rfl
  | d :: ds, h => by
    unfold hasListAll
    rw [h d (List.mem_cons_self ..), hasListAll_of fun e he => h e (List.mem_cons_of_mem _ he)]
    rfl
theorem MoveD.flat {z : Str} {n : Nat} {d : PyData} (h : MoveD z n d) : hasList d = false := by
  rcases h with rfl | ⟨a, b, g, rfl, _⟩
  · unfold hasList
    rfl
  · simp [hasList, hasListAll]
theorem StateD.flat {z : Str} {n : Nat} {d : PyData} (h : StateD z n d) : hasList d = false := by
  obtain ⟨ms, l, rfl, _, hm, hl⟩ := h
  have e1 : hasListAll ms = false := hasListAll_of fun d hd => (hm d hd).flat
  have e2 : hasList l = false := by
    rcases hl with rfl | ⟨w, rfl, _⟩ <;> simp [hasList]
  simp [hasList, hasListAll, e1, e2]
theorem ExpD.flat {d : PyData} (h : ExpD d) : hasList d = false := by
  obtain ⟨z, f, ss, rfl, _, _, _, _, hs⟩ := h
  have e1 : hasListAll ss = false := hasListAll_of fun d hd => (hs d hd).flat
  simp [hasList, hasListAll, e1]
end Lk

/-! A text backwards. -/
namespace Lk
open PySem PySem.Spec PyProof.Rows L2
def revS (z : Str) : Str := ⟨z.cps.toList.reverse.toArray⟩
theorem revS_len (z : Str) : (revS z).length = z.length := by
  show (z.cps.toList.reverse.toArray).size = z.cps.size
  simp
theorem rev_picked (z : Str) : ((Builtin.Str.strSliceIndices none none (-1) z.length).filterMap (z.cps[·]?)).toArray = z.cps.toList.reverse.toArray := by
  have e : Builtin.Str.strSliceIndices none none (-1) z.length = sliceRange ((z.cps.size : Int) - 1) (-1) (-1) := rfl
  rw [e, PySem.W.krv_sliceRange, PySem.W.krv_range, List.filterMap_reverse, PySem.W.krv_all]
def tRevS (te : TE) : TE := fun σ H Q => te σ H fun x H1 => ∃ z, x = .str z ∧ z.length ≤ sizeLine ∧ Q (.str (revS z)) H1
section
variable {X : Cx}
theorem pe_revS {e : Expr} {te : TE} {k : Nat} {p1 p2 p3 pos : Pos} (he : PE X e te) : PE X (.Subscript e (.Slice none none (some (.UnaryOp .USub (.Constant (.int 1) k p1) p2)) p3) pos) (tRevS te) := by
  refine ⟨fun pins s σ H Q I h => ?_⟩
  refine Subscript_ (thn (he.run pins s σ H _ I h) fun v s1 ⟨x, H1, I1, r1, q1⟩ => ?_)
  obtain ⟨z, ex, hz, q⟩ := q1
  subst ex
  obtain ⟨t, rfl⟩ := r1
  have hst : PO X (some (.UnaryOp .USub (.Constant (.int 1) k p1) p2)) (tPart (tUn (rU fun i => .int (-i)) (tC (.int 1)))) := po_some (pe_un un_neg pe_int)
  refine wpAny_Slice (thn (po_none.run pins s1 σ H1 (fun o H2 => o = none ∧ H2 = H1) I1 ⟨rfl, rfl⟩) fun vl s2 ⟨l, H2, I2, pl, el, e2⟩ => ?_)
  subst el e2
  refine thn (po_none.run pins s2 σ H2 (fun o H3 => o = none ∧ H3 = H2) I2 ⟨rfl, rfl⟩) fun vu s3 ⟨u, H3, I3, pu, eu, e3⟩ => ?_
  subst eu e3
  refine thn (hst.run pins s3 σ H3 (fun o H4 => o = some (-1) ∧ H4 = H3) I3 ⟨1, rfl, -1, rfl, rfl, rfl⟩) fun vs s4 ⟨o, H4, I4, ps, eo, e4⟩ => ?_
  subst eo e4
  have I5 : Inv X pins σ H4 { s4 with heap := s4.heap.push { cls := .type "slice", data := .fields #[vl, vu, vs] } } := I4.kept (t' := s4.toks) fun b ob q => Heap.get?_push_of_some _ q
  show wpAny (model X.prog X.w) X.A (subscriptTail e (.Slice none none (some (.UnaryOp .USub (.Constant (.int 1) k p1) p2)) p3) (.str z t) (.ref s4.heap.objs.size)) (EP X pins σ Q) X.xe { s4 with heap := s4.heap.push { cls := .type "slice", data := .fields #[vl, vu, vs] } }
  refine tail_any (ops := [.str z t, .ref s4.heap.objs.size]) (typeIs_str _ _ _) (F.slot_str_getitem.lookup) ?_ (by with_unfolding_all rfl)
  obtain ⟨l, rfl, el⟩ := IsPart.raw pl
  obtain ⟨u, rfl, eu⟩ := IsPart.raw pu
  obtain ⟨w, rfl, ew⟩ := IsPart.raw ps
  cases l with
  | some l => cases el
  | none =>
    cases u with
    | some u => cases eu
    | none =>
      cases w with
      | none => cases ew
      | some w =>
        obtain ⟨w, tw⟩ := w
        have e1 : w = -1 := by
          first | exact Option.some.inj ew | exact (Option.some.inj ew).symm
        subst e1
        refine wpAny_getItem_str_slice (l := none) (u := none) (st := some (-1, tw)) ⟨_, Heap.get?_push_size _ rfl, rfl, rfl⟩ rfl ?_
        show Made.post (if ((-1 : Int) == 1 && _) = true then Made.val (.str z t) else Made.str ⟨((Builtin.Str.strSliceIndices none none (-1) z.length).filterMap (z.cps[·]?)).toArray⟩) (EP X pins σ Q) _
        rw [if_neg (by simp), rev_picked]
        exact ⟨by show (revS z).length ≤ sizeLine; rw [revS_len]; exact hz, .str (revS z), H4, I5.tok _, ⟨_, rfl⟩, q⟩
end
end Lk

/-! How large and deep data are; parts and sums of tuples of data behind a pot. -/
namespace Lk
open PySem PySem.Spec PyProof.Rows L2 G
/-- k: without dicts, else without lists; so deep, so heavy at most -/
structure Qk (k : Bool) (n B : Nat) (d : PyData) : Prop where
  leaves : d.leavesShort 13 = true
  shape : d.showable = true
  depth : d.depth ≤ n
  weight : d.weight ≤ B
  noD : k = true → d.hasDict = false
  noL : k = false → hasList d = false
theorem Qk.mono {k : Bool} {n n' B B' : Nat} {d : PyData} (h : Qk k n B d) (hn : n ≤ n') (hB : B ≤ B') : Qk k n' B' d :=
  ⟨h.leaves, h.shape, Nat.le_trans h.depth hn, Nat.le_trans h.weight hB, h.noD, h.noL⟩
theorem Qk.shows {k : Bool} {n B : Nat} {d : PyData} (h : Qk k n B d) (hn : n ≤ 60) (hB : B ≤ 1048576) : Shows d :=
  ⟨h.leaves, Nat.le_trans h.weight hB, h.shape, fun e => by
    cases k with
    | true =>
      rw [h.noD rfl] at e
      cases e
    | false => exact h.noL rfl, Nat.le_trans h.depth hn⟩
theorem Qk.light {k : Bool} {n B : Nat} {d : PyData} (h : Qk k n B d) (hB : B ≤ 1048576) : Light d := Nat.le_trans h.weight hB
section
variable {k : Bool} {n B : Nat} {ds : List PyData}
theorem all_leaves : ∀ {ds : List PyData}, (∀ d ∈ ds, Qk k n B d) → PyData.leavesShortAll 13 ds = true
  | [], _ => by simp [PyData.leavesShortAll]
  | d :: ds, h => by
    simp only [PyData.leavesShortAll]
    rw [(h d (List.mem_cons_self ..)).leaves, all_leaves fun e he => h e (List.mem_cons_of_mem _ he)]
    rfl
theorem all_shape : ∀ {ds : List PyData}, (∀ d ∈ ds, Qk k n B d) → PyData.showableAll ds = true
  | [], _ => by simp [PyData.showableAll]
  | d :: ds, h => by
    simp only [PyData.showableAll]
    rw [(h d (List.mem_cons_self ..)).shape, all_shape fun e he => h e (List.mem_cons_of_mem _ he)]
    rfl
theorem all_depth : ∀ {ds : List PyData}, (∀ d ∈ ds, Qk k n B d) → PyData.depthAll ds ≤ n
  | [], _ => by simp [PyData.depthAll]
  | d :: ds, h => by
    simp only [PyData.depthAll]
    exact Nat.max_le.mpr ⟨(h d (List.mem_cons_self ..)).depth, all_depth fun e he => h e (List.mem_cons_of_mem _ he)⟩
theorem all_weight : ∀ {ds : List PyData}, (∀ d ∈ ds, Qk k n B d) → PyData.weightAll ds ≤ ds.length * (B + 1)
  | [], _ => by simp [PyData.weightAll]
  | d :: ds, h => by
    have h1 := (h d (List.mem_cons_self ..)).weight
    have h2 := all_weight fun e he => h e (List.mem_cons_of_mem _ he)
    simp only [PyData.weightAll]
    rw [List.length_cons, Nat.succ_mul]
    omega
theorem all_noD : ∀ {ds : List PyData}, (∀ d ∈ ds, Qk true n B d) → PyData.hasDictAll ds = false
  | [], _ => by simp [PyData.hasDictAll]
  | d :: ds, h => by
    simp only [PyData.hasDictAll]
    rw [(h d (List.mem_cons_self ..)).noD rfl, all_noD fun e he => h e (List.mem_cons_of_mem _ he)]
    rfl
theorem Qk.tup {B' : Nat} (h : ∀ d ∈ ds, Qk k n B d) (hB : ds.length * (B + 1) ≤ B') : Qk k (n + 1) B' (.tuple ds) where
  leaves := by
    simp only [PyData.leavesShort]
    exact all_leaves h
  shape := by
    simp only [PyData.showable]
    exact all_shape h
  depth := by
    simp only [PyData.depth]
    have := all_depth h
    omega
  weight := by
    simp only [PyData.weight]
    exact Nat.le_trans (all_weight h) hB
  noD := fun e => by
    subst e
    simp only [PyData.hasDict]
    exact all_noD h
  noL := fun e => by
    subst e
    simp only [hasList]
    exact hasListAll_of fun d hd => (h d hd).noL rfl
theorem Qk.lst {B' : Nat} (h : ∀ d ∈ ds, Qk true n B d) (hB : ds.length * (B + 1) ≤ B') : Qk true (n + 1) B' (.list ds) where
  leaves := by
    simp only [PyData.leavesShort]
    exact all_leaves h
  shape := by
    simp only [PyData.showable]
    exact all_shape h
  depth := by
    simp only [PyData.depth]
    have := all_depth h
    omega
  weight := by
    simp only [PyData.weight]
    exact Nat.le_trans (all_weight h) hB
  noD := fun _ => by
    simp only [PyData.hasDict]
    exact all_noD h
  noL := fun e => by cases e
end
theorem Qk.str {k : Bool} {n B : Nat} {z : Str} (h1 : z.length ≤ B) (h2 : ∀ c ∈ z.cps.toList, c < 1000) : Qk k n B (.str z) where
  leaves := by
    simp only [PyData.leavesShort]
    rw [List.all_eq_true]
    intro c hc
    exact decide_eq_true (Nat.lt_trans (h2 c hc) (by decide))
  shape := by simp only [PyData.showable]
  depth := by simp only [PyData.depth]; exact Nat.zero_le _
  weight := by simp only [PyData.weight]; exact h1
  noD := fun _ => by simp only [PyData.hasDict]
  noL := fun _ => by simp only [hasList]
theorem Qk.none {k : Bool} {n B : Nat} : Qk k n B .none where
  leaves := by simp only [PyData.leavesShort]
  shape := by simp only [PyData.showable]
  depth := by simp only [PyData.depth]; exact Nat.zero_le _
  weight := by simp only [PyData.weight]; exact Nat.zero_le _
  noD := fun _ => by simp only [PyData.hasDict]
  noL := fun _ => by simp only [hasList]
theorem Qk.bool {k : Bool} {n B : Nat} (b : Bool) : Qk k n B (.bool b) where
  leaves := by simp only [PyData.leavesShort]
  shape := by simp only [PyData.showable]
  depth := by simp only [PyData.depth]; exact Nat.zero_le _
  weight := by simp only [PyData.weight]; exact Nat.zero_le _
  noD := fun _ => by simp only [PyData.hasDict]
  noL := fun _ => by simp only [hasList]
theorem Qk.int {k : Bool} {n B : Nat} {i : Int} (h1 : -1 ≤ i) (h2 : i ≤ 4) (hB : 3 ≤ B) : Qk k n B (.int i) := by
  have all : i = -1 ∨ i = 0 ∨ i = 1 ∨ i = 2 ∨ i = 3 ∨ i = 4 := by omega
  have go : ∀ j : Int, (PyData.int j).leavesShort 13 = true → (PyData.int j).showable = true → (PyData.int j).weight ≤ 3 → Qk k n B (.int j) := fun j a b c =>
    ⟨a, b, by simp only [PyData.depth]; exact Nat.zero_le _, Nat.le_trans c hB, fun _ => by simp only [PyData.hasDict], fun _ => by simp only [hasList]⟩
  rcases all with rfl | rfl | rfl | rfl | rfl | rfl
  all_goals exact go _ (by unfold PyData.leavesShort; decide +kernel) (by unfold PyData.showable; decide +kernel) (by unfold PyData.weight; decide +kernel)
theorem Qk.emp {n B : Nat} (hn : 1 ≤ n) : Qk false n B (.dict []) where
  leaves := by unfold PyData.leavesShort PyData.leavesShortKv; rfl
  shape := by unfold PyData.showable PyData.showableKv; rfl
  depth := by unfold PyData.depth PyData.depthKv; exact hn
  weight := by unfold PyData.weight PyData.weightKv; exact Nat.zero_le _
  noD := fun e => by cases e
  noL := fun _ => by unfold hasList; rfl
/-- drawn parts are light -/
theorem WordOf.q {k : Bool} {n B m : Nat} {z w : Str} (h : WordOf z w m) (hz : ∀ c ∈ z.cps.toList, c < 1000) (hB : m ≤ B) : Qk k n B (.str w) := Qk.str (Nat.le_trans h.1 hB) fun c hc => hz c (h.2 c hc)
theorem MoveD.q {k : Bool} {z : Str} {m : Nat} {d : PyData} (h : MoveD z m d) (hz : ∀ c ∈ z.cps.toList, c < 1000) (hm : m ≤ 4) : Qk k 1 12 d := by
  rcases h with rfl | ⟨a, b, g, rfl, ha, hb, hg⟩
  · exact .none
  · refine Qk.tup (n := 0) (B := 3) (fun d hd => ?_) (by show 3 * 4 ≤ 12; decide)
    simp only [List.mem_cons, List.not_mem_nil, or_false] at hd
    rcases hd with rfl | rfl | rfl
    · exact ha.q hz (Nat.le_refl _)
    · exact hb.q hz (Nat.le_refl _)
    · exact .int (by omega) (by omega) (Nat.le_refl _)
theorem StateD.parts {k : Bool} {z : Str} {m : Nat} {ms : List PyData} {l : PyData} (h : StateD z m (.tuple [.tuple ms, l])) (hz : ∀ c ∈ z.cps.toList, c < 1000) (hm : m ≤ 4) :
    ms.length = z.length ∧ (∀ d ∈ ms, Qk k 1 12 d) ∧ Qk k 2 52 l := by
  obtain ⟨ms', l', e, h1, h2, h3⟩ := h
  injection e with e
  injection e with e1 e
  injection e with e2 _
  injection e1 with e1
  subst e1 e2
  refine ⟨h1, fun d hd => (h2 d hd).q hz hm, ?_⟩
  rcases h3 with rfl | ⟨w, rfl, hw⟩
  · exact .none
  · exact hw.q hz (by decide)
theorem StateD.q {k : Bool} {z : Str} {m : Nat} {d : PyData} (h : StateD z m d) (hz : ∀ c ∈ z.cps.toList, c < 1000) (hz4 : z.length ≤ 4) (hm : m ≤ 4) : Qk k 3 106 d := by
  obtain ⟨ms, l, rfl, _⟩ := id h
  obtain ⟨h1, h2, h3⟩ := h.parts (k := k) hz hm
  refine Qk.tup (n := 2) (B := 52) (fun d hd => ?_) (by show 2 * 53 ≤ 106; decide)
  simp only [List.mem_cons, List.not_mem_nil, or_false] at hd
  rcases hd with rfl | rfl
  · exact Qk.tup h2 (by rw [h1]; omega)
  · exact h3
end Lk
namespace Lk
open PySem PySem.Spec PyProof.Rows L2 G
theorem new_tup {K : PySem.W.Frag} {H : Hp} {a c p : Addr} {xs : List V} {ds : List PyData} (hp : PotAt H a c) (np : H p = none) (h : DqAll K (sans H a) xs ds) : Dq K (sans (upd H p (.tup xs)) a) (.ref p) (.tuple ds) :=
  .tup (SqT.of (sans_of (hp.ne np) upd_same)) (h.mono (Sm.new np))
theorem new_lst {K : PySem.W.Frag} {H : Hp} {a c p : Addr} {xs : List V} {ds : List PyData} (hp : PotAt H a c) (np : H p = none) (h : DqAll K (sans H a) xs ds) : Dq K (sans (upd H p (.lst xs)) a) (.ref p) (.list ds) :=
  .lst (SqL.of (sans_of (hp.ne np) upd_same)) (h.mono (Sm.new np))
theorem new_emp {K : PySem.W.Frag} {H : Hp} {a c p : Addr} (hp : PotAt H a c) (np : H p = none) : Dq K (sans (upd H p (.dK [])) a) (.ref p) (.dict []) :=
  .emp (sans_of (hp.ne np) upd_same)
theorem DqAll.nil_iff {K : PySem.W.Frag} {H : Hp} {xs : List V} {ds : List PyData} (h : DqAll K H xs ds) : xs = [] ↔ ds = [] := by
  cases h <;> simp
/-- t + u -/
theorem catP {K : PySem.W.Frag} {H : Hp} {a c : Addr} {x y : V} {ds es : List PyData} {Q : VK} (hp : PotAt H a c) (hx : Dq K (sans H a) x (.tuple ds)) (hy : Dq K (sans H a) y (.tuple es)) (hz : ds.length + es.length ≤ 100000)
    (q : ∀ (H' : Hp) (v : V), Same H H' → Dq K (sans H' a) v (.tuple (ds ++ es)) → Q v H') : rCatA K x y H Q := by
  obtain ⟨p, xs, rfl, h1, h2⟩ := hx.items
  obtain ⟨r, ys, rfl, h3, h4⟩ := hy.items
  refine ⟨p, r, xs, ys, rfl, rfl, seqT sans_same h1, seqT sans_same h3, ?_, fun e => ?_, fun e1 e2 => ?_, fun _ _ u nu => ?_⟩
  · rw [h2.length, h4.length]
    exact Nat.le_trans hz (by decide)
  · have e' := h2.nil_iff.mp e
    subst e'
    exact q H _ (Same.refl H) hy
  · have e' := h4.nil_iff.mp e2
    subst e'
    rw [List.append_nil] at q
    exact q H _ (Same.refl H) hx
  · exact q _ _ (same_new nu) (new_tup hp nu (h2.append h4))
theorem cutV_from (xs : List V) (n : Nat) : cutV xs (some (n : Int)) none = xs.drop n := by
  unfold cutV
  rw [HT.sIx_nat, HT.sIx_none]
  by_cases h : n ≤ xs.length
  · rw [Nat.min_eq_left h, List.take_of_length_le (by rw [List.length_drop] <;> omega)]
  · rw [Nat.min_eq_right (by omega), List.drop_eq_nil_of_le (Nat.le_refl _), List.drop_eq_nil_of_le (by omega), List.take_nil]
/-- t[:n], t[n:] -/
theorem slTo {K : PySem.W.Frag} {H : Hp} {a c : Addr} {x : V} {ds : List PyData} {n : Nat} {Q : VK} (hp : PotAt H a c) (hx : Dq K (sans H a) x (.tuple ds))
    (q : ∀ (H' : Hp) (v : V), Same H H' → Dq K (sans H' a) v (.tuple (ds.take n)) → Q v H') : rSlA K x none (some (n : Int)) H Q := by
  obtain ⟨p, xs, rfl, h1, h2⟩ := hx.items
  refine ⟨p, xs, rfl, seqT sans_same h1, fun e => ?_, fun _ u nu => ?_⟩
  · have e2 := e.2
    rw [HT.sIx_nat] at e2
    have e3 : ds.take n = ds := List.take_of_length_le (by rw [← h2.length]; omega)
    rw [e3] at q
    exact q H _ (Same.refl H) hx
  · rw [cutV_to]
    exact q _ _ (same_new nu) (new_tup hp nu (h2.take n))
theorem slFrom {K : PySem.W.Frag} {H : Hp} {a c : Addr} {x : V} {ds : List PyData} {n : Nat} {Q : VK} (hp : PotAt H a c) (hx : Dq K (sans H a) x (.tuple ds))
    (q : ∀ (H' : Hp) (v : V), Same H H' → Dq K (sans H' a) v (.tuple (ds.drop n)) → Q v H') : rSlA K x (some (n : Int)) none H Q := by
  obtain ⟨p, xs, rfl, h1, h2⟩ := hx.items
  refine ⟨p, xs, rfl, seqT sans_same h1, fun e => ?_, fun _ u nu => ?_⟩
  · have e1 := e.1
    rw [HT.sIx_nat] at e1
    have e3 : ds.drop n = ds := by
      by_cases z : n = 0
      · rw [z]
        rfl
      · have l : ds.length = 0 := by rw [← h2.length]; omega
        rw [List.eq_nil_of_length_eq_zero l, List.drop_nil]
    rw [e3] at q
    exact q H _ (Same.refl H) hx
  · rw [cutV_from]
    exact q _ _ (same_new nu) (new_tup hp nu (h2.drop n))
theorem DqAll.reps {K : PySem.W.Frag} {H : Hp} {xs : List V} {ds : List PyData} (h : DqAll K H xs ds) : ∀ n, DqAll K H (List.replicate n xs).flatten (List.replicate n ds).flatten
  | 0 => .nil
  | n + 1 => by
    rw [List.replicate_succ, List.flatten_cons, List.replicate_succ, List.flatten_cons]
    exact h.append (h.reps n)
/-- t * n -/
theorem repP {K : PySem.W.Frag} {H : Hp} {a c : Addr} {x : V} {ds : List PyData} {n : Nat} {Q : VK} (hp : PotAt H a c) (hx : Dq K (sans H a) x (.tuple ds)) (h0 : ds ≠ []) (h1 : ds.length ≤ 1000) (n2 : 2 ≤ n) (n3 : n ≤ 1000)
    (q : ∀ (H' : Hp) (v : V), Same H H' → Dq K (sans H' a) v (.tuple (List.replicate n ds).flatten) → Q v H') : rRepT K x (.int (n : Int)) H Q := by
  obtain ⟨p, xs, rfl, h2, h3⟩ := hx.items
  refine ⟨p, (n : Int), xs, rfl, rfl, seqT sans_same h2, fun e => h0 (h3.nil_iff.mp e), by omega, by omega, by rw [h3.length]; exact h1, fun u nu => ?_⟩
  rw [Int.toNat_natCast]
  exact q _ _ (same_new nu) (new_tup hp nu (h3.reps n))
end Lk
namespace Lk
open PySem PySem.Spec PyProof.Rows L2 G
theorem DqAll.mem {K : PySem.W.Frag} {H : Hp} : ∀ {xs : List V} {ds : List PyData} {x : V}, DqAll K H xs ds → x ∈ xs → ∃ d ∈ ds, Dq K H x d
  | _, _, _, .nil, h => (List.not_mem_nil h).elim
  | _, _, _, .cons h t, m => by
    rcases List.mem_cons.mp m with z | z
    · rw [z]
      exact ⟨_, List.mem_cons_self .., h⟩
    · obtain ⟨d, hd, q⟩ := DqAll.mem t z
      exact ⟨d, List.mem_cons_of_mem _ hd, q⟩
/-- one more item, in a heap that has grown -/
theorem DqAll.more {K : PySem.W.Frag} {H H' : Hp} {a : Addr} {xs : List V} {ds : List PyData} {x : V} {d : PyData} (h : DqAll K (sans H a) xs ds) (s : Same H H') (hx : Dq K (sans H' a) x d) : DqAll K (sans H' a) (xs ++ [x]) (ds ++ [d]) :=
  (h.mono (Sm.of s)).append (.cons hx .nil)
/-- some size or other -/
def Bad (n B : Nat) (d : PyData) : Prop := ∃ k, Qk k n B d
theorem Bad.of {k : Bool} {n B n' B' : Nat} {d : PyData} (h : Qk k n B d) (hn : n ≤ n') (hB : B ≤ B') : Bad n' B' d := ⟨k, h.mono hn hB⟩
def odds : List PyData := [.none, .int 0, .str "A", .str "ab c", .list [.str "a"], .tuple [.str "a"], .bool true, .str "y", .str (repS "a" 2001), .str "", .dict []]
theorem odds_bad : ∀ d ∈ odds, Bad 1 2001 d := by
  intro d hd
  have sa : ∀ k : Bool, ∀ e ∈ [PyData.str "a"], Qk k 0 1 e := fun k e he => by
    rw [List.mem_singleton.mp he]
    exact .str (by decide) (by decide +kernel)
  simp only [odds, List.mem_cons, List.not_mem_nil, or_false] at hd
  rcases hd with rfl | rfl | rfl | rfl | rfl | rfl | rfl | rfl | rfl | rfl | rfl
  · exact ⟨true, .none⟩
  · exact ⟨true, .int (by decide) (by decide) (by decide)⟩
  · exact ⟨true, .str (by decide) (by decide +kernel)⟩
  · exact ⟨true, .str (by decide) (by decide +kernel)⟩
  · exact ⟨true, (Qk.lst (sa true) (Nat.le_refl _)).mono (Nat.le_refl _) (by decide)⟩
  · exact ⟨true, (Qk.tup (sa true) (Nat.le_refl _)).mono (Nat.le_refl _) (by decide)⟩
  · exact ⟨true, .bool true⟩
  · exact ⟨true, .str (by decide) (by decide +kernel)⟩
  · refine ⟨true, .str (by rw [repS_len]; decide) fun c hc => ?_⟩
    have all : ∀ c ∈ ("a" : Str).cps.toList, c < 1000 := by decide +kernel
    exact all c (rep_mem hc)
  · exact ⟨true, .str (by decide) (by decide +kernel)⟩
  · exact ⟨false, .emp (Nat.le_refl _)⟩
end Lk
namespace Lk
open PySem PySem.Spec PyProof.Rows L2 G
theorem tup3 {k : Bool} {n B B' : Nat} {x y w : PyData} (hx : Qk k n B x) (hy : Qk k n B y) (hw : Qk k n B w) (hB : 3 * (B + 1) ≤ B') : Qk k (n + 1) B' (.tuple [x, y, w]) := by
  refine Qk.tup (n := n) (B := B) (fun d hd => ?_) hB
  simp only [List.mem_cons, List.not_mem_nil, or_false] at hd
  rcases hd with rfl | rfl | rfl
  · exact hx
  · exact hy
  · exact hw
theorem tup2 {k : Bool} {n B B' : Nat} {x y : PyData} (hx : Qk k n B x) (hy : Qk k n B y) (hB : 2 * (B + 1) ≤ B') : Qk k (n + 1) B' (.tuple [x, y]) := by
  refine Qk.tup (n := n) (B := B) (fun d hd => ?_) hB
  simp only [List.mem_cons, List.not_mem_nil, or_false] at hd
  rcases hd with rfl | rfl
  · exact hx
  · exact hy
theorem tup0 {k : Bool} {n B : Nat} : Qk k (n + 1) B (.tuple []) := Qk.tup (n := n) (B := B) (fun d hd => (List.not_mem_nil hd).elim) (by show 0 * _ ≤ _; omega)
theorem Bad.k {k : Bool} {n B : Nat} {d : PyData} (h : Qk k n B d) : Bad n B d := ⟨k, h⟩
theorem str_small {k : Bool} {n B : Nat} {z : Str} (h1 : z.length ≤ B) (h2 : ∀ c ∈ z.cps.toList, c < 1000) : Qk k n B (.str z) := Qk.str h1 h2
end Lk
namespace Lk
open PySem PySem.Spec PyProof.Rows L2 G
/-- the first item of a tuple of data -/
theorem Dq.head {K : PySem.W.Frag} {H : Hp} {x : V} {d : PyData} {ds : List PyData} (h : Dq K H x (.tuple (d :: ds))) : ∃ p y ys, x = .ref p ∧ SqT K H p (y :: ys) ∧ Dq K H y d := by
  obtain ⟨p, xs, rfl, h1, h2⟩ := h.items
  obtain ⟨y, ys, rfl, hy, _⟩ := h2.one
  exact ⟨p, y, ys, rfl, h1, hy⟩
/-- an item in the middle of a tuple put in -/
theorem mid_bad {k : Bool} {n B : Nat} {ds es : List PyData} {x d : PyData} (h1 : ∀ e ∈ ds, Qk k n B e) (h2 : ∀ e ∈ es, Qk k n B e) (hx : Qk k n B x) (h : d ∈ ds ++ [x] ++ es) : Qk k n B d := by
  rcases List.mem_append.mp h with h | h
  · rcases List.mem_append.mp h with h | h
    · exact h1 d h
    · rw [List.mem_singleton.mp h]
      exact hx
  · exact h2 d h
end Lk
namespace Lk
open PySem PySem.Spec PyProof.Rows L2 G
theorem repI {K : PySem.W.Frag} {H : Hp} {a c : Addr} {x : V} {ds : List PyData} {m : Int} {Q : VK} (n : Nat) (hm : (n : Int) = m) (hp : PotAt H a c) (hx : Dq K (sans H a) x (.tuple ds)) (h0 : ds ≠ []) (h1 : ds.length ≤ 1000) (n2 : 2 ≤ n) (n3 : n ≤ 1000)
    (q : ∀ (H' : Hp) (v : V), Same H H' → Dq K (sans H' a) v (.tuple (List.replicate n ds).flatten) → Q v H') : rRepT K x (.int m) H Q := by
  subst hm
  exact repP hp hx h0 h1 n2 n3 q
end Lk
namespace Lk
open PySem PySem.Spec PyProof.Rows L2 G
theorem slFromI {K : PySem.W.Frag} {H : Hp} {a c : Addr} {x : V} {ds : List PyData} {m : Int} {Q : VK} (n : Nat) (hm : (n : Int) = m) (hp : PotAt H a c) (hx : Dq K (sans H a) x (.tuple ds))
    (q : ∀ (H' : Hp) (v : V), Same H H' → Dq K (sans H' a) v (.tuple (ds.drop n)) → Q v H') : rSlA K x (some m) none H Q := by
  subst hm
  exact slFrom hp hx q
theorem slToI {K : PySem.W.Frag} {H : Hp} {a c : Addr} {x : V} {ds : List PyData} {m : Int} {Q : VK} (n : Nat) (hm : (n : Int) = m) (hp : PotAt H a c) (hx : Dq K (sans H a) x (.tuple ds))
    (q : ∀ (H' : Hp) (v : V), Same H H' → Dq K (sans H' a) v (.tuple (ds.take n)) → Q v H') : rSlA K x none (some m) H Q := by
  subst hm
  exact slTo hp hx q
end Lk
namespace Lk
theorem or_ways {c : Bool} {A R : Prop} (r : A) (h : A → R) : if c = true then A else R := by
  cases c with
  | true => exact r
  | false => exact h r
end Lk
namespace Lk
open PySem PySem.Spec PyProof.Rows L2 G
theorem DqAll.set {K : PySem.W.Frag} {H : Hp} {x : V} {d : PyData} (hx : Dq K H x d) : ∀ {xs : List V} {ds : List PyData} (i : Nat), DqAll K H xs ds → DqAll K H (xs.set i x) (ds.set i d)
  | _, _, _, .nil => .nil
  | _, _, 0, .cons _ t => .cons hx t
  | _, _, i + 1, .cons h t => .cons h (t.set hx i)
end Lk

/-! A tuple times a number from 1 on. -/
namespace Lk
open PySem PySem.Spec PyProof.Rows L2 G
theorem tuple_mul1 (l : Addr) (items : Array Value) (n : Nat) (sl : Array (Option Value)) (dd : Option Addr) (u : Tok) :
    Meets (Builtin.«tuple.__mul__» ⟨[.ref l, .int 1 u], []⟩) (fun _ R s => s.heap.get? l = some { cls := .type "tuple", dict := dd, data := .seq items n, slots := sl } ∧
      R (.ok (.ret (Value.ref l))) s) :=
  .of_wp fun prog w A R s h => by
    obtain ⟨hp, g, d, tk, os⟩ := s
    obtain ⟨hl, h⟩ := h
    have f1 := AutoSeq1.idx_int
    wp_walk using wpAny_loadPart' hl
    exact ⟨_, rfl, h⟩
def rRepU (K : PySem.W.Frag) : R2 := fun x y H Q => ∃ l k xs, x = .ref l ∧ y = .int k ∧ SqT K H l xs ∧ xs ≠ [] ∧ 1 ≤ k ∧ k ≤ 1000 ∧ xs.length ≤ 1000 ∧ (k = 1 → Q (.ref l) H) ∧ (2 ≤ k → ∀ p, H p = none → Q (.ref p) (upd H p (.tup (List.replicate k.toNat xs).flatten)))
section
variable {X : Cx}
theorem op_repU : OpR X (binaryOp .Mult) (rRepU X.K) := by
  intro pins s σ H x y v u Q I rx ry h
  obtain ⟨l, k, xs, rfl, rfl, hT, hne, h1, h2, hz, q1, q2⟩ := h
  by_cases hk : k = 1
  · subst hk
    cases rx
    obtain ⟨t, rfl⟩ := ry
    obtain ⟨its, r, ⟨⟨cls, dd, data, sl⟩, ho, hc, n, hd⟩, hs⟩ := I.tuple hT
    simp only at hc hd
    subst hc hd
    refine wpAny_binaryOp_repeat_ref (T := "tuple") (U := "int") (by decide) ⟨_, ho, rfl⟩ (fun s' => typeIs_int s' 1 t) noFill_tuple_mul F.fills_int_mul F.slot_int_rmul repeat_tuple F.slot_int_index.lookup
      (call_meets F.slot_int_rmul (typeIs_int s 1 t) F.entry_int_rmul (F.args_int_rmul_2 _ _) (int_rmul_tuple 1 t l its.toArray n dd sl)
        ⟨ho, rfl, ⟨_, ho, rfl⟩, call_meets F.slot_tuple_mul ⟨_, ho, rfl⟩ F.entry_tuple_mul (F.args_tuple_mul_2 _ _) (tuple_mul1 l its.toArray n sl dd t) ⟨ho, ?_⟩⟩)
    exact ⟨.ref l, H, I, rfl, q1 rfl⟩
  · exact op_repT pins s σ H _ _ v u Q I rx ry ⟨l, k, xs, rfl, rfl, hT, hne, by omega, h2, hz, q2 (by omega)⟩
end
/-- t * n, n from 1 on -/
theorem repU {K : PySem.W.Frag} {H : Hp} {a c : Addr} {x : V} {ds : List PyData} {m : Int} {Q : VK} (n : Nat) (hm : (n : Int) = m) (hp : PotAt H a c) (hx : Dq K (sans H a) x (.tuple ds)) (h0 : ds ≠ []) (h1 : ds.length ≤ 1000) (n1 : 1 ≤ n) (n3 : n ≤ 1000)
    (q : ∀ (H' : Hp) (v : V), Same H H' → Dq K (sans H' a) v (.tuple (List.replicate n ds).flatten) → Q v H') : rRepU K x (.int m) H Q := by
  subst hm
  obtain ⟨p, xs, rfl, h2, h3⟩ := hx.items
  refine ⟨p, (n : Int), xs, rfl, rfl, seqT sans_same h2, fun e => h0 (h3.nil_iff.mp e), by omega, by omega, by rw [h3.length]; exact h1, fun e => ?_, fun _ u nu => ?_⟩
  · obtain rfl : n = 1 := by omega
    rw [List.replicate_one, List.flatten_cons, List.flatten_nil, List.append_nil] at q
    exact q H _ (Same.refl H) hx
  · rw [Int.toNat_natCast]
    exact q _ _ (same_new nu) (new_tup hp nu (h3.reps n))
theorem rep_mem' {α : Type} {n : Nat} {l : List α} {x : α} (h : x ∈ (List.replicate n l).flatten) : x ∈ l := by
  obtain ⟨k, hk, hx⟩ := List.mem_flatten.mp h
  rw [(List.mem_replicate.mp hk).2] at hx
  exact hx
theorem rep_len {α : Type} {n : Nat} {l : List α} : (List.replicate n l).flatten.length = n * l.length := by
  rw [List.length_flatten, List.map_replicate, List.sum_replicate_nat]
end Lk
namespace Lk
open PySem PySem.Spec PyProof.Rows L2 G
/-- a pick from a new list of data -/
theorem pick_new {K : PySem.W.Frag} {H : Hp} {a c l : Addr} {xs : List V} {ds : List PyData} {Q : VK} (hp : Pot K H a c) (nl : H l = none) (h : DqAll K (sans H a) xs ds) (h0 : ds ≠ []) (h1 : ds.length < 1073741824)
    (q : ∀ (H' : Hp) (x : V) (d : PyData), Sm a H H' → Pot K H' a c → d ∈ ds → Dq K (sans H' a) x d → Q x H') : spPick K [.ref a, .ref l] (upd H l (.lst xs)) Q E0 := by
  refine ⟨a, c, .ref l, xs, rfl, hp.new nl, fun e => h0 (h.nil_iff.mp e), .inl ⟨l, rfl, SqL.of (sans_of (hp.ne nl) upd_same)⟩, by rw [h.length]; exact h1, fun H' x sm hp' hx => ?_⟩
  obtain ⟨d, hd, hq⟩ := h.mem hx
  have s : Sm a H H' := (Sm.new nl).trans sm
  exact q H' x d s hp' hd (hq.mono s)
/-- a text of data -/
def Txt (n : Nat) (z : Str) : Prop := z.length ≤ n ∧ ∀ c ∈ z.cps.toList, c < 1000
theorem Txt.q {k : Bool} {m n B : Nat} {z : Str} (h : Txt n z) (hB : n ≤ B) : Qk k m B (.str z) := .str (Nat.le_trans h.1 hB) h.2
theorem Txt.line {n : Nat} {z : Str} (h : Txt n z) (hn : n ≤ 1000000) : z.length ≤ sizeLine := Nat.le_trans h.1 (Nat.le_trans hn (by decide))
theorem txt_empty (n : Nat) : Txt n "" := ⟨Nat.zero_le _, fun c h => by cases h⟩
theorem Txt.rep {n m : Nat} {z : Str} (h : Txt n z) {B : Nat} (hB : m * n ≤ B) : Txt B (repS z m) := ⟨by
  rw [repS_len]
  exact Nat.le_trans (Nat.mul_le_mul (Nat.le_refl _) h.1) hB, fun c hc => h.2 c (rep_mem hc)⟩
end Lk
namespace Lk
open PySem PySem.Spec PyProof.Rows L2 G
/-- a new tuple of data behind the pot, the heap by a name -/
theorem tupK {K : PySem.W.Frag} {H : Hp} {a c p : Addr} {xs : List V} {ds : List PyData} (hp : Pot K H a c) (np : H p = none) (h : DqAll K (sans H a) xs ds) :
    ∃ H', H' = upd H p (.tup xs) ∧ Same H H' ∧ Dq K (sans H' a) (.ref p) (.tuple ds) ∧ Pot K H' a c := ⟨_, rfl, same_new np, new_tup hp.at_ np h, hp.new np⟩
theorem lstK {K : PySem.W.Frag} {H : Hp} {a c p : Addr} {xs : List V} {ds : List PyData} (hp : Pot K H a c) (np : H p = none) (h : DqAll K (sans H a) xs ds) :
    ∃ H', H' = upd H p (.lst xs) ∧ Same H H' ∧ Dq K (sans H' a) (.ref p) (.list ds) ∧ Pot K H' a c ∧ H' p = some (.lst xs) := ⟨_, rfl, same_new np, new_lst hp.at_ np h, hp.new np, upd_same⟩
theorem empK {K : PySem.W.Frag} {H : Hp} {a c p : Addr} (hp : Pot K H a c) (np : H p = none) :
    ∃ H', H' = upd H p (.dK []) ∧ Same H H' ∧ Dq K (sans H' a) (.ref p) (.dict []) ∧ Pot K H' a c := ⟨_, rfl, same_new np, new_emp hp.at_ np, hp.new np⟩
end Lk

/-! Clauses that keep the error under a name, several of them. -/
namespace Lk
open PySem PySem.Spec PyProof.Rows L2 G
abbrev Suite := Addr → Value → Option Addr → TS
/-- behind a clause its name is gone -/
def goneEnds (i : Nat) (D : Ends) : Ends where
  nx := fun z K => D.nx (z.set i none) K
  rt := D.rt
  bk := fun z K => D.bk (z.set i none) K
  ct := fun z K => D.ct (z.set i none) K
/-- what clauses with names wish of an error -/
def wClauses (K : PySem.W.Frag) (Wout : WX) (D : Ends) : List (Value × Nat × Suite) → WX
  | [] => Wout
  | (c, i, ts) :: r => fun cls d σ H => ∃ b, PySem.W.exmOne K cls c = some b ∧
      (b = true → ∀ a, H a = none → ts a cls d (goneEnds i D) (σ.set i (some (.ref a))) H) ∧ (b = false → wClauses K Wout D r cls d σ H)
inductive Clauses (X : Cx) : List ExceptHandler → List (Value × Nat × Suite) → Prop
  | none : Clauses X [] []
  | more {x n : Str} {c : Value} {i : Nat} {ts : Suite} {st : Stmt} {sts : List Stmt} {p1 p2 : Pos} {hds : List ExceptHandler} {l : List (Value × Nat × Suite)}
      (nm : Names X x c) (nd : X.N.Nodup) (sl : X.N[i]? = some n) (lo : X.env.kindOf n = some .local)
      (su : ∀ (a : Addr) (oe : Obj) (cls : Value) (d : Option Addr) (pn : List (Addr × Obj)), Zc cls d oe → (∃ vs, oe.data = .fields vs) → PSs (X.suite a ((a, oe) :: pn)) (st :: sts) (ts a cls d))
      (rest : Clauses X hds l) : Clauses X (.ExceptHandler (some (.Name x p1)) (some n) (st :: sts) p2 :: hds) ((c, i, ts) :: l)
section
variable {X : Cx} {body : List Stmt} {h₀ : ExceptHandler} {hds : List ExceptHandler} {l : List (Value × Nat × Suite)} {pos : Pos} {tb : WX → TS} {Wout : WX}
theorem ps_try_names (hs : X.stack = X.env :: X.outer) (hf : X.env.frame = some X.env.locals) (tk : Takes X Wout)
    (hb : ∀ (W : WX) (pn : List (Addr × Obj)) (xe : Value → Shared → Prop), Takes (X.tr pn xe) W → PassesOwn (model X.prog X.w) X.A X.env xe → PSs (X.tr pn xe) body (tb W))
    (cl : Clauses X (h₀ :: hds) l) : PS X (.Try body (h₀ :: hds) [] [] pos) (fun D σ H => tb (wClauses X.K Wout D l) D σ H) := by
  constructor
  intro pins s σ H D I h
  have ok := I.ok
  have fr : X.A.frames = some (X.env :: X.outer) := hs ▸ ok.frames
  let caught : Value → Shared → Prop := fun e s₁ => wpAny (model X.prog X.w) X.A (noteFrame e X.env)
    (fun _ s₂ => wpAny (model X.prog X.w) X.A (setFlight e none)
      (fun _ s₃ => wpAny (model X.prog X.w) X.A (handleBy e X.env (h₀ :: hds)) (SP X pins D) X.xe s₃) X.xe s₂) X.xe s₁
  have takes : Takes (X.tr (X.pn ++ pins) caught) (wClauses X.K Wout D l) := by
    rintro u s2 ⟨a, B, sI, pins2, σ2, H2, cls, d, rfl, J2, nb, up, sky, na, os, ag, wish⟩
    have J : Inv X pins σ2 H2 sI := J2.ofTry ok
    have sky2 : Sky B (X.env :: X.outer) a (Zc cls d) X.env.locals s2.heap := by
      rw [← hs]
      exact sky
    show wpAny (model X.prog X.w) X.A (noteFrame (.ref a) X.env) _ _ _
    refine Sky.land Zc.steady fr hf sky2 fun g land rise => ?_
    have J3 : Inv X pins σ2 H2 { s2 with heap := g } := J.landed nb land.1 (up.trans rise) os ag
    obtain ⟨oe, fs, there, zc, dt⟩ := land.there
    have out : a ∉ frs (X.env :: X.outer) := fun m => by
      obtain ⟨_, o, e, n⟩ := land.2.2.1.mem m
      cases there.symm.trans e
      exact n _ dt
    have out1 : a ≠ X.env.locals := fun z => out (List.mem_filterMap.mpr ⟨X.env, List.mem_cons_self .., by rw [hf, z]⟩)
    have out2 : a ∉ X.fs := fun m => by
      obtain ⟨e, me, q⟩ := List.mem_filterMap.mp m
      exact out (List.mem_filterMap.mpr ⟨e, List.mem_cons_of_mem _ me, q⟩)
    have inside := J3.suite there dt na out1 out2
    have steps : ∀ {hs2 : List ExceptHandler} {l2 : List (Value × Nat × Suite)}, Clauses X hs2 l2 → wClauses X.K Wout D l2 cls d σ2 H2 →
        wpAny (model X.prog X.w) X.A (handleBy (.ref a) X.env hs2) (SP X pins D) X.xe { s2 with heap := g } := by
      intro hs2 l2 c2
      induction c2 with
      | none =>
        intro wish
        refine wpAny_handleBy_nil ?_
        obtain ⟨_, _, _, ob, us, T, _, _, hob, _, hdat, h1, _⟩ := id land
        have onward : wpAny (model X.prog X.w) X.A (setFlight (.ref a) X.env.frame)
            (fun _ s4 => wpAny (model X.prog X.w) X.A (throw (.ref a) : Sem Flow) (SP X pins D) X.xe s4) X.xe { s2 with heap := g } := by
          rw [hf]
          refine HandSPX.setFlight_upZ land fun g4 sk4 up4 => wpAny_throw (tk _ _ ?_)
          refine ⟨a, B, sI, pins, σ2, H2, cls, d, rfl, J, nb, (up.trans rise).trans up4, .inr (.inr ?_), na, os, ag, wish⟩
          rw [hs]
          exact sk4
        unfold PySem.passOn
        refine wpAny_bind (wpAny_field hob hdat h1 ?_)
        have ne : ¬ ((Value.ref T == Value.none) = true) := by simp
        rw [if_neg ne]
        first
          | exact wpAny_bind onward
          | exact wpAny_bind (wpAny_pure (wpAny_bind onward))
      | @more x n c i ts st sts p1 p2 hds2 l3 nm nd sl lo su rest ih =>
        rintro ⟨b, eb, yes, no⟩
        refine wpAny_handleBy_cons (codeAny_handlers_test ?_) (by intro q; cases q)
        have looks : PySem.W.Looks (model X.prog X.w) g (typeOf (.ref a)) cls := fun _ _ _ _ k q => wpAny_typeOf_ref (k _ _ there) (zc.1.symm ▸ q)
        have asks := PySem.W.exm_one (M := model X.prog X.w) J3.kIn looks eb
        have named : ∀ {Q E : Value → Shared → Prop}, Q c { s2 with heap := g } →
            wpAny (model X.prog X.w) (X.A.mark (some (.ref a))) (eval (.Name x p1) X.env) Q E { s2 with heap := g } := by
          intro Q E q
          obtain ⟨g1, g2, g3⟩ := nm
          rcases g3 with m | ⟨m, v, w⟩
          · exact ld_glob (X := X.suite a ((a, oe) :: (X.pn ++ pins))) inside g1 m q g2
          · exact ld_blt (X := X.suite a ((a, oe) :: (X.pn ++ pins))) inside g1 m v q w g2
        refine named (asks.here ?_)
        cases b with
        | false => exact ih (no rfl)
        | true =>
          refine codeAny_handlers_suite_as ?_
          refine HandSPX.lands_againZ land fun g4 land4 rise4 => ?_
          have J4 : Inv X pins σ2 H2 { s2 with heap := g4 } := J.landed nb land4.1 ((up.trans rise).trans rise4) os ag
          obtain ⟨oe4, fs4, there4, zc4, dt4⟩ := land4.there
          have S4 := J4.suite there4 dt4 na out1 out2
          refine store_ok (X := X.suite a ((a, oe4) :: (X.pn ++ pins))) (v := .ref a) S4 nd sl (.inl lo) rfl (fun s5 S5 => ?_) (.inr lo)
          refine wpAny_mono ((su a oe4 cls d (X.pn ++ pins) zc4 ⟨_, dt4⟩).run [] s5 _ H2 _ S5 (yes rfl a na)) (fun f s6 done => ?_) (fun _ _ z => z.elim)
          cases f with
          | next =>
            obtain ⟨_, _, S6, q6⟩ := done
            exact gone_ok (S6.unsuite ok) nd sl lo fun s7 J7 => ⟨_, _, J7, q6⟩
          | brk =>
            obtain ⟨_, _, S6, q6⟩ := done
            exact gone_ok (S6.unsuite ok) nd sl lo fun s7 J7 => ⟨_, _, J7, q6⟩
          | cont =>
            obtain ⟨_, _, S6, q6⟩ := done
            exact gone_ok (S6.unsuite ok) nd sl lo fun s7 J7 => ⟨_, _, J7, q6⟩
          | ret u =>
            obtain ⟨_, _, _, S6, r6, q6⟩ := done
            exact gone_ok (S6.unsuite ok) nd sl lo fun s7 J7 => ⟨_, _, _, J7, r6, q6⟩
    exact steps cl wish
  refine wpAny_Try_except ?_
  refine wpAny_mono ((hb _ (X.pn ++ pins) caught takes PassesOwn.looking).run [] s σ H D (I.toTry _) h) (fun f s1 done => ?_) (fun _ _ he => he)
  cases f with
  | next =>
    obtain ⟨_, _, J, q⟩ := done
    exact wpAny_execs_nil ⟨_, _, J.ofTry ok, q⟩
  | brk =>
    obtain ⟨_, _, J, q⟩ := done
    exact ⟨_, _, J.ofTry ok, q⟩
  | cont =>
    obtain ⟨_, _, J, q⟩ := done
    exact ⟨_, _, J.ofTry ok, q⟩
  | ret u =>
    obtain ⟨_, _, _, J, r, q⟩ := done
    exact ⟨_, _, _, J.ofTry ok, r, q⟩
end
end Lk

/-! Calls of defs that stand in a list; comprehensions with two walks; what expanders are made of. -/
namespace Lk
open PySem PySem.Spec PyProof.Rows L2 G
theorem exm_is {K : PySem.W.Frag} {S C : Addr} {b : Bool} (h1 : PySem.W.subIn K (.ref C) (.type "BaseException") = some true) (h2 : PySem.W.isClsIn K C = true)
    (h3 : PySem.W.typeIn K (.ref C) = some (Value.type "type")) (h4 : PySem.W.subIn K (.ref S) (.ref C) = some b) : PySem.W.exmOne K (.ref S) (.ref C) = some b := by
  have e1 : (PySem.W.subIn K (.ref C) (.type "BaseException") == some true) = true := by
    rw [h1] <;> rfl
  have e2 : ((PySem.W.clsIn K C).isSome && PySem.W.typeIn K (.ref C) == some (Value.type "type")) = true := by
    have h : (PySem.W.clsIn K C).isSome = true := h2
    rw [h, h3] <;> rfl
  show (if (PySem.W.subIn K (.ref C) (.type "BaseException") == some true) = true then (if ((PySem.W.clsIn K C).isSome && PySem.W.typeIn K (.ref C) == some (Value.type "type")) = true then PySem.W.subIn K (.ref S) (.ref C) else none) else none) = some b
  rw [if_pos e1, if_pos e2]
  exact h4
/-- a def with its promise, of a level up to k -/
structure HeldX (P : Program) (w : World) (K : PySem.W.Frag) (mg : Str → Option Value) (base : Heap) (k : Nat) (f : Addr) (sp : Sp) : Prop where
  ex : ∃ (fd : FuncData) (ps : List Str) (j : Nat), FnOk P w K mg base (L2.CX P w) j f fd ps sp ∧ j ≤ k ∧ PySem.W.keepIn K (.ref f) = true ∧ Binds K fd ps []
def tCallE (S : Addr → Sp → Prop) (E : XK) (t0 : TE) (t : TA) : TE := fun σ H Q => t0 σ H fun v H1 => ∃ f sp, v = .ref f ∧ S f sp ∧ t σ H1 fun vs H2 => sp vs H2 Q E
theorem eval_call_sub (o i : Expr) (p : Pos) (args : List Expr) (ks : List Keyword) (pos : Pos) (env : Env) :
    eval (.Call (.Subscript o i p) args ks pos) env = (do callWith pos (← eval (.Subscript o i p) env) [] (backTo pos (starEach args env)) (backToKw pos (keywordEach ks env))) := rfl
section
variable {X : Cx} {k : Nat} {E : XK} {o i e : Expr} {es : List Expr} {p pos : Pos} {t0 : TE} {t : TA} {S : Addr → Sp → Prop}
theorem pe_callE (A : ∀ f sp, S f sp → HeldX X.prog X.w X.K X.mg X.base k f sp) (hr : Room k X.A) (h0 : PE X (.Subscript o i p) t0) (hx : Passes (L2.CX X.prog X.w) X E) (ha : PA X (e :: es) t)
    (he : starEach (e :: es) X.env = (false, eval e X.env) :: starEach es X.env := by rfl) (hpl : (backTo pos (starEach es X.env)).any (·.1) = false := by rfl) :
    PE X (.Call (.Subscript o i p) (e :: es) [] pos) (tCallE S E t0 t) := by
  constructor
  intro pins s σ H Q I h
  rw [eval_call_sub]
  refine wpAny_bind (thn (h0.run pins s σ H _ I h) fun u s1 got => ?_)
  obtain ⟨v, H1, I1, r1, f, sp, rfl, hS, ht⟩ := got
  cases r1
  obtain ⟨fd, ps, j, F, hj, kp, b⟩ := (A f sp hS).ex
  refine PySem.W.callWith_K (h₀ := X.base) I1.ok.mod.kin kp (thn (ha.run pos pins s1 σ _ _ I1 ht) fun us s2 args => ?_) he hpl
  obtain ⟨vs, H2, I2, r, q⟩ := args
  refine ⟨I2.kIn, run_fn F (hr.mono hj) b .nil hx I2 r ?_⟩
  rw [List.append_nil]
  exact q
end
section
variable {K : PySem.W.Frag} {a b D : Addr} {xs ys : List V} {g g1 : TG} {tt tt1 : TT} {wi1 : TI} {te : TE} {vs vs1 : List Nat} {σ σ2 : L2.St} {H1 H4 : Hp} {Qd Nx : Hp → Prop}
/-- the outer walk of two, over a tuple -/
theorem lc2_out (Pv : Nat → Hp → Prop) (h0 : Pv 0 (upd H1 D (.lst []))) (hl : ∀ i H, i ≤ xs.length → Pv i H → SqT K H a xs)
    (hs : ∀ i x H, xs[i]? = some x → Pv i H → g x (wipe σ vs) H fun σ2 H2 => wipe σ2 vs = wipe σ vs ∧ tt σ2 H2 fun b H3 =>
      if b = true then wi1 σ2 H3 fun J1 H4 => ∃ W1 : Nat → Nat → Hp → Prop, (∃ m, W1 0 m H4) ∧ ∀ j k H, W1 j k H →
        (J1.stop j H ∧ Pv (i + 1) H) ∨ (J1.go j H ∧ ∃ Nx1 : Hp → Prop, (∀ H', Nx1 H' → ∃ k', k' < k ∧ W1 (j + 1) k' H') ∧ ∀ x H', J1.yld j H x H' → g1 x (wipe σ2 vs1) H' fun σ3 H5 => wipe σ3 vs1 = wipe σ2 vs1 ∧ tt1 σ3 H5 fun b H6 =>
          if b = true then te σ3 H6 fun y H7 => ∃ acc, H7 D = some (.lst acc) ∧ acc.length < sizeLine ∧ Nx1 (upd H7 D (.lst (acc ++ [y]))) else Nx1 H6)
      else Pv (i + 1) H3)
    (hd : ∀ H, Pv xs.length H → Qd H) :
    ∃ W : Nat → Nat → Hp → Prop, (∃ m, W 0 m (upd H1 D (.lst []))) ∧ ∀ i m H, W i m H →
      ((Itt K a).stop i H ∧ Qd H) ∨ ((Itt K a).go i H ∧ ∃ Nx : Hp → Prop, (∀ H', Nx H' → ∃ m', m' < m ∧ W (i + 1) m' H') ∧ ∀ x H', (Itt K a).yld i H x H' → g x (wipe σ vs) H' fun σ2 H2 => wipe σ2 vs = wipe σ vs ∧ tt σ2 H2 fun b H3 =>
        if b = true then wi1 σ2 H3 fun J1 H4 => ∃ W1 : Nat → Nat → Hp → Prop, (∃ m, W1 0 m H4) ∧ ∀ j k H, W1 j k H →
          (J1.stop j H ∧ Nx H) ∨ (J1.go j H ∧ ∃ Nx1 : Hp → Prop, (∀ H', Nx1 H' → ∃ k', k' < k ∧ W1 (j + 1) k' H') ∧ ∀ x H', J1.yld j H x H' → g1 x (wipe σ2 vs1) H' fun σ3 H5 => wipe σ3 vs1 = wipe σ2 vs1 ∧ tt1 σ3 H5 fun b H6 =>
            if b = true then te σ3 H6 fun y H7 => ∃ acc, H7 D = some (.lst acc) ∧ acc.length < sizeLine ∧ Nx1 (upd H7 D (.lst (acc ++ [y]))) else Nx1 H6)
        else Nx H3) := by
  refine ⟨fun i m H => m = xs.length - i ∧ i ≤ xs.length ∧ Pv i H, ⟨xs.length, rfl, Nat.zero_le _, h0⟩, ?_⟩
  rintro i m H ⟨rfl, le, p⟩
  have q := hl i H le p
  by_cases lt : i < xs.length
  · refine .inr ⟨⟨xs, xs[i], q, List.getElem?_eq_getElem lt⟩, Pv (i + 1), fun H' p' => ⟨_, by omega, rfl, lt, p'⟩, ?_⟩
    rintro x H' ⟨rfl, y⟩
    exact hs i x _ (y xs q) p
  · obtain rfl : i = xs.length := by omega
    exact .inl ⟨⟨xs, q, Nat.le_refl _⟩, hd H p⟩
/-- the inner walk of two, over a tuple -/
theorem lc2_in (Pw : Nat → Hp → Prop) (h0 : Pw 0 H4) (hl : ∀ j H, j ≤ ys.length → Pw j H → SqT K H b ys)
    (hs : ∀ j y H, ys[j]? = some y → Pw j H → g1 y (wipe σ2 vs1) H fun σ3 H5 => wipe σ3 vs1 = wipe σ2 vs1 ∧ tt1 σ3 H5 fun b H6 =>
      if b = true then te σ3 H6 fun y H7 => ∃ acc, H7 D = some (.lst acc) ∧ acc.length < sizeLine ∧ Pw (j + 1) (upd H7 D (.lst (acc ++ [y]))) else Pw (j + 1) H6)
    (hd : ∀ H, Pw ys.length H → Nx H) :
    ∃ W1 : Nat → Nat → Hp → Prop, (∃ m, W1 0 m H4) ∧ ∀ j k H, W1 j k H →
      ((Itt K b).stop j H ∧ Nx H) ∨ ((Itt K b).go j H ∧ ∃ Nx1 : Hp → Prop, (∀ H', Nx1 H' → ∃ k', k' < k ∧ W1 (j + 1) k' H') ∧ ∀ x H', (Itt K b).yld j H x H' → g1 x (wipe σ2 vs1) H' fun σ3 H5 => wipe σ3 vs1 = wipe σ2 vs1 ∧ tt1 σ3 H5 fun b H6 =>
        if b = true then te σ3 H6 fun y H7 => ∃ acc, H7 D = some (.lst acc) ∧ acc.length < sizeLine ∧ Nx1 (upd H7 D (.lst (acc ++ [y]))) else Nx1 H6) := by
  refine ⟨fun j m H => m = ys.length - j ∧ j ≤ ys.length ∧ Pw j H, ⟨ys.length, rfl, Nat.zero_le _, h0⟩, ?_⟩
  rintro j m H ⟨rfl, le, p⟩
  have q := hl j H le p
  by_cases lt : j < ys.length
  · refine .inr ⟨⟨ys, ys[j], q, List.getElem?_eq_getElem lt⟩, Pw (j + 1), fun H' p' => ⟨_, by omega, rfl, lt, p'⟩, ?_⟩
    rintro y H' ⟨rfl, z⟩
    exact hs j y _ (z ys q) p
  · obtain rfl : j = ys.length := by omega
    exact .inl ⟨⟨ys, q, Nat.le_refl _⟩, hd H p⟩
end
end Lk
namespace Lk
open PySem PySem.Spec PyProof.Rows L2 G
/-! ### data that == takes -/
structure Eqb (n : Nat) (d : PyData) : Prop where
  lay : d.canLay0 = true
  dep : d.depth ≤ n
theorem Eqb.mono {n m : Nat} {d : PyData} (h : Eqb n d) (e : n ≤ m) : Eqb m d := ⟨h.lay, Nat.le_trans h.dep e⟩
theorem Eqb.shaped {n : Nat} {d : PyData} (h : Eqb n d) (e : n ≤ 64) : SeqAt.shaped d = true := by
  unfold SeqAt.shaped
  rw [h.lay, decide_eq_true (Nat.le_trans h.dep e)]
  rfl
theorem Eqb.none {n : Nat} : Eqb n .none := ⟨by simp only [PyData.canLay0], by simp only [PyData.depth]; exact Nat.zero_le _⟩
theorem Eqb.bool {n : Nat} (b : Bool) : Eqb n (.bool b) := ⟨by simp only [PyData.canLay0], by simp only [PyData.depth]; exact Nat.zero_le _⟩
theorem Eqb.int {n : Nat} (i : Int) : Eqb n (.int i) := ⟨by simp only [PyData.canLay0], by simp only [PyData.depth]; exact Nat.zero_le _⟩
theorem Eqb.str {n : Nat} {z : Str} (h : ∀ c ∈ z.cps.toList, c < 1000) : Eqb n (.str z) := ⟨by
  simp only [PyData.canLay0]
  unfold PyData.strOk
  rw [Array.all_eq_true_iff_forall_mem]
  exact fun c hc => decide_eq_true (Nat.lt_trans (h c (Array.mem_toList_iff.mpr hc)) (by decide)), by simp only [PyData.depth]; exact Nat.zero_le _⟩
theorem eqb_all {n : Nat} : ∀ {ds : List PyData}, (∀ d ∈ ds, Eqb n d) → PyData.canLayAll0 ds = true ∧ PyData.depthAll ds ≤ n
  | [], _ => ⟨by simp only [PyData.canLayAll0], by simp only [PyData.depthAll]; exact Nat.zero_le _⟩
  | d :: ds, h => by
    obtain ⟨a, b⟩ := eqb_all (ds := ds) fun e he => h e (List.mem_cons_of_mem _ he)
    have c := h d (List.mem_cons_self ..)
    refine ⟨?_, ?_⟩
    · simp only [PyData.canLayAll0]
      rw [c.lay, a]
      rfl
    · simp only [PyData.depthAll]
      exact Nat.max_le.mpr ⟨c.dep, b⟩
theorem Eqb.tup {n : Nat} {ds : List PyData} (h : ∀ d ∈ ds, Eqb n d) : Eqb (n + 1) (.tuple ds) := ⟨by
  simp only [PyData.canLay0]
  exact (eqb_all h).1, by
  simp only [PyData.depth]
  have := (eqb_all h).2
  omega⟩
theorem Eqb.lst {n : Nat} {ds : List PyData} (h : ∀ d ∈ ds, Eqb n d) : Eqb (n + 1) (.list ds) := ⟨by
  simp only [PyData.canLay0]
  exact (eqb_all h).1, by
  simp only [PyData.depth]
  have := (eqb_all h).2
  omega⟩
mutual
theorem Dq.dp {K : PySem.W.Frag} {H : Hp} : ∀ {v : V} {d : PyData}, Dq K H v d → d.canLay0 = true → Dp K H v d
  | _, _, .non, _ => .non
  | _, _, .bl b, _ => .bl b
  | _, _, .int i, _ => .int i
  | _, _, .str x, _ => .str x
  | _, _, .lst h t, e => .lst h (DqAll.dp t (by simp only [PyData.canLay0] at e; exact e))
  | _, _, .tup h t, e => .tup h (DqAll.dp t (by simp only [PyData.canLay0] at e; exact e))
  | _, _, .emp h, e => by simp only [PyData.canLay0] at e; cases e
theorem DqAll.dp {K : PySem.W.Frag} {H : Hp} : ∀ {vs : List V} {ds : List PyData}, DqAll K H vs ds → PyData.canLayAll0 ds = true → DpAll K H vs ds
  | _, _, .nil, _ => .nil
  | _, _, .cons h t, e => by
    simp only [PyData.canLayAll0, Bool.and_eq_true] at e
    exact .cons (Dq.dp h e.1) (DqAll.dp t e.2)
end
/-- x == y of data -/
theorem eqDq {K : PySem.W.Frag} {H : Hp} {x y : V} {d e : PyData} {n m : Nat} {Q : VK} (hx : Dq K H x d) (hy : Dq K H y e) (ed : Eqb n d) (ee : Eqb m e) (hn : n ≤ 64) (hm : m ≤ 64) (q : Q (.bl (PyData.eqv d e)) H) : rEqD K x y H Q :=
  ⟨d, e, hx.dp ed.lay, hy.dp ee.lay, ed.shaped hn, ee.shaped hm, q⟩
theorem neDq {K : PySem.W.Frag} {H : Hp} {x y : V} {d e : PyData} {n m : Nat} {Q : VK} (hx : Dq K H x d) (hy : Dq K H y e) (ed : Eqb n d) (ee : Eqb m e) (hn : n ≤ 64) (hm : m ≤ 64) (q : Q (.bl (!PyData.eqv d e)) H) : rNeD K x y H Q :=
  ⟨d, e, hx.dp ed.lay, hy.dp ee.lay, ed.shaped hn, ee.shaped hm, q⟩
/-! ### what expanders are made of -/
theorem isNone_of {d : PyData} (h : isNone d = true) : d = .none := by
  cases d with
  | none => rfl
  | _ => cases h
theorem shortB_parts {z : Str} {d : PyData} (h : shortB z d = true) : ∃ w, d = .str w ∧ allIn z w = true ∧ w.length ≤ 2000 := by
  cases d with
  | str w =>
    have h : (allIn z w && decide (w.length ≤ 2000)) = true := h
    rw [Bool.and_eq_true, decide_eq_true_eq] at h
    exact ⟨w, rfl, h.1, h.2⟩
  | _ => cases h
theorem moveB_parts {z : Str} {n : Int} {d : PyData} (h : (isNone d || moveB z n d) = true) : d = .none ∨ ∃ (a b : Str) (g : Nat), d = .tuple [.str a, .str b, .int (g : Int)] ∧ (allIn z a = true ∧ a.length ≤ 2000) ∧ (allIn z b = true ∧ b.length ≤ 2000) ∧ (g : Int) < n := by
  rcases Bool.or_eq_true_iff.mp h with h | h
  · exact .inl (isNone_of h)
  · right
    match d, h with
    | .tuple [a, b, c], h =>
      have h : (shortB z a && (shortB z b && countB n c)) = true := h
      rw [Bool.and_eq_true, Bool.and_eq_true] at h
      obtain ⟨h1, h2, h3⟩ := h
      obtain ⟨x, rfl, p⟩ := shortB_parts h1
      obtain ⟨y, rfl, q⟩ := shortB_parts h2
      cases c with
      | int i =>
        have h3 : (decide (0 ≤ i) && decide (i < n)) = true := h3
        rw [Bool.and_eq_true, decide_eq_true_eq, decide_eq_true_eq] at h3
        obtain ⟨g, rfl⟩ := Int.eq_ofNat_of_zero_le h3.1
        exact ⟨x, y, g, rfl, p, q, h3.2⟩
      | _ => cases h3
theorem stateB_parts {z : Str} {n : Int} {d : PyData} (h : stateB z n d = true) : ∃ (ms : List PyData) (l : PyData), d = .tuple [.tuple ms, l] ∧ ms.length = z.length ∧ (l = .none ∨ ∃ w, l = .str w ∧ allIn z w = true ∧ w.length ≤ 2000) ∧ ∀ m ∈ ms, (isNone m || moveB z n m) = true := by
  unfold stateB at h
  split at h
  · rename_i ms l
    rw [Bool.and_eq_true, Bool.and_eq_true, decide_eq_true_eq, List.all_eq_true] at h
    refine ⟨ms, l, rfl, h.1, ?_, h.2.2⟩
    rcases Bool.or_eq_true_iff.mp h.2.1 with h | h
    · exact .inl (isNone_of h)
    · exact .inr (shortB_parts h)
  · cases h
theorem expB_parts {d : PyData} (h : expB d = true) : ∃ (z f : Str) (ss : List PyData), d = .tuple [.str z, .str f, .tuple ss] ∧ SignsP z ∧ (allIn z f = true ∧ f.length ≤ 2000) ∧ 1 ≤ ss.length ∧ ss.length ≤ 60 ∧ ∀ s ∈ ss, stateB z (ss.length : Nat) s = true := by
  unfold expB at h
  split at h
  · rename_i z f t
    rw [Bool.and_eq_true, Bool.and_eq_true] at h
    obtain ⟨h1, h2, h3⟩ := h
    obtain ⟨w, rfl, p⟩ := shortB_parts h2
    unfold statesB at h3
    split at h3
    · rename_i ss
      rw [Bool.and_eq_true, Bool.and_eq_true, decide_eq_true_eq, decide_eq_true_eq, List.all_eq_true] at h3
      exact ⟨z, w, ss, rfl, h1, p, h3.1.1, h3.1.2, h3.2⟩
    · cases h3
  · cases h
end Lk
namespace Lk
open PySem PySem.Spec PyProof.Rows L2 G
/-- what is drawn is an expander -/
theorem WordOf.short {z w : Str} {n : Nat} (h : WordOf z w n) (hn : n ≤ 2000) : shortB z (.str w) = true := by
  show (allIn z w && decide (w.length ≤ 2000)) = true
  rw [Bool.and_eq_true, decide_eq_true_eq]
  refine ⟨?_, Nat.le_trans h.1 hn⟩
  unfold allIn
  rw [List.all_eq_true]
  intro c hc
  rw [List.contains_iff_mem]
  exact h.2 c hc
theorem MoveD.ok {z : Str} {n : Nat} {d : PyData} (h : MoveD z n d) : (isNone d || moveB z (n : Nat) d) = true := by
  rcases h with rfl | ⟨a, b, g, rfl, ha, hb, hg⟩
  · rfl
  · show (shortB z (.str a) && (shortB z (.str b) && (decide (0 ≤ (g : Int)) && decide ((g : Int) < (n : Nat))))) = true
    rw [ha.short (by decide), hb.short (by decide), decide_eq_true (show (0 : Int) ≤ (g : Int) by omega), decide_eq_true (show (g : Int) < (n : Nat) by omega)]
    rfl
theorem StateD.ok {z : Str} {n : Nat} {d : PyData} (h : StateD z n d) : stateB z (n : Nat) d = true := by
  obtain ⟨ms, l, rfl, e, hm, hl⟩ := h
  show (decide (ms.length = z.length) && ((isNone l || shortB z l) && ms.all fun m => isNone m || moveB z (n : Nat) m)) = true
  have a1 : (ms.all fun m => isNone m || moveB z (n : Nat) m) = true := List.all_eq_true.mpr fun m h => (hm m h).ok
  have a2 : (isNone l || shortB z l) = true := by
    rcases hl with rfl | ⟨w, rfl, hw⟩
    · rfl
    · rw [hw.short (by decide), Bool.or_true]
  rw [a1, a2, decide_eq_true e]
  rfl
theorem ExpD.ok {d : PyData} (h : ExpD d) : expB d = true := by
  obtain ⟨z, f, ss, rfl, hz, hf, l1, l4, hss⟩ := h
  show (signsB (.str z) && (shortB z (.str f) && ((decide (1 ≤ ss.length) && decide (ss.length ≤ 60)) && ss.all (stateB z (ss.length : Nat))))) = true
  have a1 : ss.all (stateB z (ss.length : Nat)) = true := List.all_eq_true.mpr fun s h => (hss s h).ok
  have a0 : signsB (.str z) = true := hz.1
  rw [a0, a1, hf.short (by decide), decide_eq_true l1, decide_eq_true (show ss.length ≤ 60 by omega)]
  rfl
theorem DqAll.ix {K : PySem.W.Frag} {H : Hp} {xs : List V} {ds : List PyData} {i : Nat} {d : PyData} (h : DqAll K H xs ds) (e : ds[i]? = some d) : ∃ x, xs[i]? = some x ∧ Dq K H x d := by
  have hi : i < ds.length := (List.getElem?_eq_some_iff.mp e).1
  have hx : i < xs.length := by rw [h.length]; exact hi
  have ex := List.getElem?_eq_getElem hx
  obtain ⟨d', e', q⟩ := h.get ex
  rw [e] at e'
  cases e'
  exact ⟨_, ex, q⟩
end Lk

/-! Drawn data are data that == takes. -/
namespace Lk
open PySem PySem.Spec PyProof.Rows L2 G
theorem eqv_nil (ds : List PyData) : PyData.eqv (.list ds) (.list []) = decide (ds = []) := by
  cases ds with
  | nil => simp [PyData.eqv, PyData.eqvAll]
  | cons n r => simp [PyData.eqv, PyData.eqvAll]
theorem MoveD.eqb {z : Str} {n : Nat} {d : PyData} (h : MoveD z n d) (hz : ∀ c ∈ z.cps.toList, c < 1000) : Eqb 1 d := by
  rcases h with rfl | ⟨a, b, g, rfl, ha, hb, hg⟩
  · exact .none
  · refine .tup (n := 0) fun d hd => ?_
    simp only [List.mem_cons, List.not_mem_nil, or_false] at hd
    rcases hd with rfl | rfl | rfl
    · exact .str fun c hc => hz c (ha.2 c hc)
    · exact .str fun c hc => hz c (hb.2 c hc)
    · exact .int _
theorem StateD.eqb {z : Str} {n : Nat} {d : PyData} (h : StateD z n d) (hz : ∀ c ∈ z.cps.toList, c < 1000) : Eqb 3 d := by
  obtain ⟨ms, l, rfl, _, hm, hl⟩ := h
  refine .tup (n := 2) fun d hd => ?_
  simp only [List.mem_cons, List.not_mem_nil, or_false] at hd
  rcases hd with rfl | rfl
  · exact .tup fun m h => (hm m h).eqb hz
  · rcases hl with rfl | ⟨w, rfl, hw⟩
    · exact .none
    · exact .str fun c hc => hz c (hw.2 c hc)
theorem ExpD.eqb {d : PyData} (h : ExpD d) : Eqb 5 d := by
  obtain ⟨z, f, ss, rfl, hz, hf, _, _, hss⟩ := h
  have zc := hz.small.2.2
  refine .tup (n := 4) fun d hd => ?_
  simp only [List.mem_cons, List.not_mem_nil, or_false] at hd
  rcases hd with rfl | rfl | rfl
  · exact .str zc
  · exact .str fun c hc => zc c (hf.2 c hc)
  · exact .tup fun s h => (hss s h).eqb zc
theorem eqv_same {d : PyData} {n : Nat} (h : Eqb n d) : (!PyData.eqv d d) = false := by
  rw [SeqAt.eqv_refl d h.lay]
  rfl
theorem letter_lt {z : Str} (h : SignsP z) : ∀ c ∈ z.cps.toList, 97 ≤ c := by
  have h : (allIn "abcdefghijklmnopqrstuvwxyz" z && ((decide (1 ≤ z.length) && decide (z.length ≤ 4)) && Ls.ascB z)) = true := h
  rw [Bool.and_eq_true] at h
  intro c hc
  have := List.all_eq_true.mp h.1 c hc
  rw [List.contains_iff_mem] at this
  have all : ∀ c ∈ ("abcdefghijklmnopqrstuvwxyz" : Str).cps.toList, 97 ≤ c := by decide +kernel
  exact all c this
end Lk

/-! Runs, told of data: the stand behind a step. -/
namespace Lk
open PySem PySem.Spec PyProof.Rows L2 G
theorem str_cases (b : Str) : b = "" ∨ ∃ c r, b = tx (c :: r) := by
  have e : b = tx b.cps.toList := str_ext (by rw [tx_codes])
  cases h : b.cps.toList with
  | nil =>
    left
    rw [e, h]
    rfl
  | cons c r =>
    right
    exact ⟨c, r, by rw [e, h]⟩
theorem cutS_from (z : Str) (n : Nat) : cutS z (some (n : Int)) none = tx (z.cps.toList.drop n) := by
  unfold cutS
  rw [HT.sIx_nat, HT.sIx_none]
  have l : z.cps.toList.length = z.length := by simp [Str.length]
  refine str_ext ?_
  rw [tx_codes]
  show ((z.cps.toList.drop _).take _) = _
  by_cases h : n ≤ z.length
  · rw [Nat.min_eq_left h, List.take_of_length_le (by rw [List.length_drop, l]; exact Nat.le_refl _)]
  · rw [Nat.min_eq_right (by omega), List.drop_eq_nil_of_le (by rw [l]; exact Nat.le_refl _), List.drop_eq_nil_of_le (by rw [l]; omega), List.take_nil]
def movesOf : PyData → List PyData
  | .tuple [.tuple ms, _] => ms
  | _ => []
/-- the move for a state and a sign -/
def moveD (z : Str) (ss : List PyData) (s c : Nat) : PyData :=
  match Builtin.Str.occurrences z (Ls.one c) 0 z.length 1 with
  | k :: _ => (movesOf (ss.getD s .none)).getD k .none
  | [] => .none
def stepM (a : Str) (r : List Nat) : PyData → Option (Str × Str × Nat)
  | .tuple [.str x, .str y, .int g] => some (a ++ x, y ++ tx r, g.toNat)
  | _ => none
/-- the stand behind a step -/
def nextD (z : Str) (ss : List PyData) (a b : Str) (s : Nat) : Option (Str × Str × Nat) :=
  match b.cps.toList with
  | [] => none
  | c :: r => stepM a r (moveD z ss s c)
def standD (p : Str × Str × Nat) : PyData := .tuple [.str p.1, .str p.2.1, .int (p.2.2 : Int)]
def whyK (b : Str) : Str := match b.cps.toList with
  | [] => "ends"
  | _ :: _ => "breaks"
def whyT (b : Str) (s : Nat) : List PyData := match b.cps.toList with
  | [] => []
  | c :: _ => [.tuple [.int (s : Int), .str (Ls.one c)]]
def afterD (z : Str) (ss : List PyData) (a b : Str) (s : Nat) : PyData := match nextD z ss a b s with
  | some p => standD p
  | none => .list [.str (whyK b), .list (whyT b s)]
/-- what is known of states of an expander -/
def StatesOk (z : Str) (ss : List PyData) : Prop := SignsP z ∧ 1 ≤ ss.length ∧ ss.length ≤ 60 ∧ ∀ s ∈ ss, stateB z (ss.length : Nat) s = true
theorem place_in {z : Str} {ss : List PyData} {s c : Nat} (h : StatesOk z ss) (hs : s < ss.length) (hc : c ∈ z.cps.toList) :
    ∃ (ms : List PyData) (l : PyData) (k : Nat) (rest : List Nat), ss[s]? = some (.tuple [.tuple ms, l]) ∧ Builtin.Str.occurrences z (Ls.one c) 0 z.length 1 = k :: rest ∧ ms[k]? = some (moveD z ss s c) ∧ (isNone (moveD z ss s c) || moveB z (ss.length : Nat) (moveD z ss s c)) = true := by
  have es := List.getElem?_eq_getElem hs
  obtain ⟨ms, l, e, lms, _, hms⟩ := stateB_parts (h.2.2.2 ss[s] (List.getElem_mem hs))
  obtain ⟨k, rest, ho, hk⟩ := place_of hc
  have hk' : k < ms.length := by omega
  have em : moveD z ss s c = ms[k] := by
    unfold moveD
    rw [ho]
    show (movesOf (ss.getD s .none)).getD k .none = _
    have eg : ss.getD s .none = .tuple [.tuple ms, l] := by
      rw [List.getD_eq_getElem?_getD, es]
      exact e
    rw [eg]
    show ms.getD k .none = _
    rw [List.getD_eq_getElem?_getD, List.getElem?_eq_getElem hk']
    rfl
  refine ⟨ms, l, k, rest, by rw [es, e], ho, by rw [em]; exact List.getElem?_eq_getElem hk', ?_⟩
  rw [em]
  exact hms _ (List.getElem_mem hk')
theorem one_tx (c : Nat) : Ls.one c = tx [c] := rfl
theorem next_empty (z : Str) (ss : List PyData) (a : Str) (s : Nat) : nextD z ss a "" s = none := rfl
theorem next_cons (z : Str) (ss : List PyData) (a : Str) (c : Nat) (r : List Nat) (s : Nat) : nextD z ss a (tx (c :: r)) s = stepM a r (moveD z ss s c) := by
  unfold nextD
  rw [tx_codes]
/-- a stand of these signs and states, of no more than n signs -/
structure Stood (z : Str) (m n : Nat) (p : Str × Str × Nat) : Prop where
  done : p.1.length ≤ n
  doneIn : allIn z p.1 = true
  front : p.2.1.length ≤ n
  frontIn : allIn z p.2.1 = true
  state : p.2.2 < m
theorem allIn_mem {z w : Str} (h : allIn z w = true) : ∀ c ∈ w.cps.toList, c ∈ z.cps.toList := fun c hc => by
  have := List.all_eq_true.mp h c hc
  rwa [List.contains_iff_mem] at this
theorem allIn_of {z w : Str} (h : ∀ c ∈ w.cps.toList, c ∈ z.cps.toList) : allIn z w = true := by
  unfold allIn
  rw [List.all_eq_true]
  intro c hc
  rw [List.contains_iff_mem]
  exact h c hc
theorem allIn_cat {z a b : Str} (ha : allIn z a = true) (hb : allIn z b = true) : allIn z (a ++ b) = true := allIn_of fun c hc => by
  rw [cat_codes] at hc
  rcases List.mem_append.mp hc with h | h
  · exact allIn_mem ha c h
  · exact allIn_mem hb c h
theorem Stood.next {z : Str} {ss : List PyData} {n : Nat} {p q : Str × Str × Nat} (ok : StatesOk z ss) (h : Stood z ss.length n p) (e : nextD z ss p.1 p.2.1 p.2.2 = some q) : Stood z ss.length (n + 2000) q := by
  obtain ⟨a, b, s⟩ := p
  obtain ⟨h1, h2, h3, h4, h5⟩ := h
  rcases str_cases b with rfl | ⟨c, r, rfl⟩
  · cases e
  · have e : nextD z ss a (tx (c :: r)) s = some q := e
    rw [next_cons] at e
    have hc : c ∈ z.cps.toList := allIn_mem h4 c (by rw [tx_codes]; exact List.mem_cons_self ..)
    obtain ⟨ms, l, k, rest, _, _, _, e4⟩ := place_in ok h5 hc
    generalize moveD z ss s c = md at e e4
    rcases moveB_parts e4 with rfl | ⟨x, y, g, rfl, ⟨hx, lx⟩, ⟨hy, ly⟩, hg⟩
    · cases e
    · have e := Option.some.inj e
      subst e
      have h3 : (tx (c :: r)).length ≤ n := h3
      rw [tx_len] at h3
      refine ⟨?_, allIn_cat h2 hx, ?_, allIn_cat hy (allIn_of fun d hd => ?_), ?_⟩
      · show (a ++ x).length ≤ n + 2000
        rw [cat_len]
        exact Nat.add_le_add h1 lx
      · show (y ++ tx r).length ≤ n + 2000
        have e1 : (y ++ tx r).length = y.length + (tx r).length := by rw [cat_len]
        have e2 : (tx r).length = r.length := tx_len r
        have e3 : r.length ≤ n := Nat.le_trans (Nat.le_succ _) h3
        rw [e1, e2, Nat.add_comm]
        exact Nat.add_le_add e3 ly
      · rw [tx_codes] at hd
        exact allIn_mem h4 d (by rw [tx_codes]; exact List.mem_cons_of_mem _ hd)
      · show (g : Int).toNat < ss.length
        omega
end Lk
namespace Lk
open PySem PySem.Spec PyProof.Rows L2 G
/-- __init__ of NoOutcome with a list: a copy of it is kept; the dict and the copy are new -/
def spInitR (K : PySem.W.Frag) (C : Addr) (f g : Str) : Sp := fun vs H Q _ => ∃ (a l : Addr) (v : V) (xs : List V), vs = [.ref a, v, .ref l] ∧ H a = some (exo a C none) ∧ SqL K H l xs ∧
  ∀ (H' : Hp) (d n : Addr), But a H H' → H' a = some (exo a C (some d)) → H' d = some (exd d [(g, .ref n), (f, v)]) → H' n = some (.lst xs) → H n = none → H d = none → Q .non H'
end Lk
namespace Lk
open PySem PySem.Spec PyProof.Rows L2 G
theorem exd_ne_lst {e : Addr} {fs : List (Str × V)} {xs : List V} : exd e fs ≠ .lst xs := fun z => by
  have z' : HO.ext _ = HO.lst xs := z
  cases z'
/-- NoOutcome is wished for: its kind, and at n a new list, the thread -/
def noOutE (K : PySem.W.Frag) (C : Addr) (E : XK) (H : Hp) (kind : Str) (th : List PyData) : Prop :=
  ∀ (H' : Hp) (d n : Addr), Same H H' → H' d = some (.xd [("thread", .ref n), ("kind", .str kind)]) → Dq K H' (.ref n) (.list th) → H n = none → E (.ref C) (some d) H'
theorem noOutE.mono {K : PySem.W.Frag} {C : Addr} {E : XK} {H H1 : Hp} {kind : Str} {th : List PyData} (h : noOutE K C E H kind th) (s : Same H H1) : noOutE K C E H1 kind th := fun H' d n s' e1 e2 e3 => h H' d n (Same.trans s s') e1 e2 (by
  cases e : H n with
  | none => rfl
  | some o =>
    rw [s _ _ e] at e3
    cases e3)
theorem raise_out {K : PySem.W.Frag} {C l : Addr} {E : XK} {H : Hp} {kind : Str} {xs : List V} {th : List PyData} (hl : H l = some (.lst xs)) (hA : DqAll K H xs th) (k : noOutE K C E H kind th) :
    [V.str kind, .ref l].length ≤ 1000 ∧ ∀ a, H a = none → spInitR K C "kind" "thread" (.ref a :: ([V.str kind, .ref l] ++ [])) (upd H a (exo a C none))
      (fun v H2 => v = .non ∧ ∃ (d : Addr) (fs : List (Str × V)), H2 a = some (exo a C (some d)) ∧ H2 d = some (exd d fs) ∧ H d = none ∧ E (.ref C) (some d) (upd (del H2 a) d (.xd fs))) (fun _ _ _ => False) := by
  refine ⟨(by show 2 ≤ 1000; decide), fun a na => ?_⟩
  refine ⟨a, l, .str kind, xs, rfl, upd_same, SqL.of ((upd_ne (ne_of_none hl na)).trans hl), fun H2 d n bt ha hd hn fn fd => ?_⟩
  have nna : n ≠ a := fun e => by
    rw [e, upd_same] at fn
    cases fn
  have nda : d ≠ a := fun e => by
    rw [e, upd_same] at fd
    cases fd
  have nnd : n ≠ d := fun e => by
    rw [e, hd] at hn
    exact exd_ne_lst (Option.some.inj hn)
  have fd' : H d = none := (upd_ne nda).symm.trans fd
  have s : Same H (upd (del H2 a) d (.xd [("thread", .ref n), ("kind", .str kind)])) := fun b o e => by
    have ba : b ≠ a := ne_of_none e na
    rw [upd_ne (ne_of_none e fd'), del_ne ba]
    exact bt b o ba ((upd_ne ba).trans e)
  refine ⟨rfl, d, _, ha, hd, fd', k _ d n s upd_same ?_ ((upd_ne nna).symm.trans fn)⟩
  refine .lst (SqL.of ?_) (hA.mono s)
  rw [upd_ne nnd, del_ne nna]
  exact hn
end Lk
namespace Lk
open PySem PySem.Spec PyProof.Rows L2 G
theorem standV {K : PySem.W.Frag} {H : Hp} {st : V} {a b : Str} {s : Nat} (h : Dq K H st (standD (a, b, s))) : ∃ p, st = .ref p ∧ SqT K H p [.str a, .str b, .int (s : Int)] := by
  obtain ⟨p, xs, rfl, hp, hq⟩ := h.items
  obtain ⟨x1, ys, rfl, h1, hq⟩ := hq.one
  obtain ⟨x2, ys, rfl, h2, hq⟩ := hq.one
  obtain ⟨x3, ys, rfl, h3, hq⟩ := hq.one
  obtain rfl := hq.none
  obtain rfl := h1.strV
  obtain rfl := h2.strV
  obtain rfl := h3.intV
  exact ⟨p, rfl, hp⟩
theorem tx_cons_ne {c : Nat} {r : List Nat} (e : tx (c :: r) = "") : False := by
  have h : (tx (c :: r)).length = ("" : Str).length := congrArg (fun x : Str => x.length) e
  rw [tx_len] at h
  exact Nat.succ_ne_zero _ h
end Lk

/-! Stands: sizes, and that == takes them. -/
namespace Lk
open PySem PySem.Spec PyProof.Rows L2 G
theorem Stood.mono {z : Str} {m n n' : Nat} {p : Str × Str × Nat} (h : Stood z m n p) (e : n ≤ n') : Stood z m n' p := ⟨Nat.le_trans h.done e, h.doneIn, Nat.le_trans h.front e, h.frontIn, h.state⟩
theorem Stood.q {z : Str} {m n : Nat} {p : Str × Str × Nat} {k : Bool} (h : Stood z m n p) (hz : ∀ c ∈ z.cps.toList, c < 1000) (hm : m ≤ 4) (hn : 3 ≤ n) : Qk k 1 (3 * (n + 1)) (standD p) := by
  have hs := h.state
  refine tup3 (k := k) (n := 0) (B := n) (.str h.done fun c hc => hz c (allIn_mem h.doneIn c hc)) (.str h.front fun c hc => hz c (allIn_mem h.frontIn c hc)) (.int (by omega) (by omega) hn) (Nat.le_refl _)
theorem Stood.eqb {z : Str} {m n : Nat} {p : Str × Str × Nat} (h : Stood z m n p) (hz : ∀ c ∈ z.cps.toList, c < 1000) : Eqb 1 (standD p) := by
  refine .tup (n := 0) fun d hd => ?_
  simp only [List.mem_cons, List.not_mem_nil, or_false] at hd
  rcases hd with rfl | rfl | rfl
  · exact .str fun c hc => hz c (allIn_mem h.doneIn c hc)
  · exact .str fun c hc => hz c (allIn_mem h.frontIn c hc)
  · exact .int _
theorem after_eqb {z : Str} {ss : List PyData} {n : Nat} {a b : Str} {s : Nat} (ok : StatesOk z ss) (h : Stood z ss.length n (a, b, s)) : Eqb 3 (afterD z ss a b s) := by
  have hz := ok.1.small.2.2
  unfold afterD
  cases e : nextD z ss a b s with
  | some q => exact ((h.next ok e).eqb hz).mono (by decide)
  | none =>
    refine .lst (n := 2) fun d hd => ?_
    simp only [List.mem_cons, List.not_mem_nil, or_false] at hd
    rcases str_cases b with rfl | ⟨c, r, rfl⟩
    · rcases hd with rfl | rfl
      · exact .str (by show ∀ c ∈ (("ends" : Str)).cps.toList, c < 1000; decide +kernel)
      · exact .lst (n := 1) fun d hd => (List.not_mem_nil (show d ∈ ([] : List PyData) from hd)).elim
    · have hc : c ∈ z.cps.toList := allIn_mem h.frontIn c (by show c ∈ (tx (c :: r)).cps.toList; rw [tx_codes]; exact List.mem_cons_self ..)
      have e5 : whyK (tx (c :: r)) = "breaks" := by
        unfold whyK
        rw [tx_codes]
      have e6 : whyT (tx (c :: r)) s = [.tuple [.int (s : Int), .str (Ls.one c)]] := by
        unfold whyT
        rw [tx_codes]
      rw [e5, e6] at hd
      rcases hd with rfl | rfl
      · exact .str (by decide +kernel)
      · refine .lst (n := 1) fun d hd => ?_
        rw [List.mem_singleton.mp hd]
        refine .tup (n := 0) fun d hd => ?_
        simp only [List.mem_cons, List.not_mem_nil, or_false] at hd
        rcases hd with rfl | rfl
        · exact .int _
        · refine .str fun c' hc' => ?_
          rw [one_tx, tx_codes] at hc'
          rw [List.mem_singleton.mp hc']
          exact hz c hc
theorem ExpD.states {z f : Str} {ss : List PyData} (h : ExpD (.tuple [.str z, .str f, .tuple ss])) : StatesOk z ss := by
  obtain ⟨z', f', ss', e, h1, h2, l1, l4, hs⟩ := h
  cases e
  exact ⟨h1.1, l1, by omega, fun s hs' => (hs s hs').ok⟩
theorem list_out {K : PySem.W.Frag} {H : Hp} {p L : Addr} {ys : List V} {ds : List PyData} (eP : H p = some (.lst ys)) (ne : L ≠ p) (h : Dq K H (.ref L) (.list ds)) (hf : ∀ d ∈ ds, hasList d = false) : Dq K (sans H p) (.ref L) (.list ds) := by
  cases h with
  | lst h1 h2 =>
    refine .lst ?_ (h2.out eP (hasListAll_of hf))
    rcases h1 with (h | ⟨o, h⟩) | h
    · exact .inl (.inl (sans_of ne h))
    · exact .inl (.inr ⟨o, sans_of ne h⟩)
    · exact .inr h
theorem standD_flat (q : Str × Str × Nat) : hasList (standD q) = false := by
  unfold standD
  simp [hasList, hasListAll]
theorem Dq.listV {K : PySem.W.Frag} {H : Hp} {v : V} {ds : List PyData} (h : Dq K H v (.list ds)) : ∃ L xs, v = .ref L ∧ SqL K H L xs ∧ DqAll K H xs ds := by
  cases h with
  | lst h1 h2 => exact ⟨_, _, rfl, h1, h2⟩
theorem allIn_not {z w : Str} {c : Nat} (hc : c ∈ w.cps.toList) (h : c ∉ z.cps.toList) : allIn z w = false := by
  rw [Bool.eq_false_iff]
  exact fun e => h (allIn_mem e c hc)
end Lk

/-! Values of calls, by plain mathematics. -/
namespace Lk
open PySem PySem.Spec PyProof.Rows L2 G
/-- a call: its state, its sign's code -/
abbrev Cl := Nat × Nat
/-- a word's codes, a state -/
abbrev Wt := List Nat × Nat
/-- what a move has: done, back, next -/
def mvM : PyData → Option (List Nat × List Nat × Nat)
  | .tuple [.str x, .str y, .int g] => some (x.cps.toList, y.cps.toList, g.toNat)
  | _ => none
def mv (z : Str) (ss : List PyData) (c : Cl) : Option (List Nat × List Nat × Nat) := mvM (moveD z ss c.1 c.2)
/-- signs read one by one, each by what f tells of its call -/
def rd (f : Cl → Option Wt) : List Nat → Wt → Option Wt
  | [], a => some a
  | d :: r, a => match f (a.2, d) with
    | some v => rd f r (a.1 ++ v.1, v.2)
    | none => none
theorem rd_nil (f : Cl → Option Wt) (a : Wt) : rd f [] a = some a := rfl
theorem rd_some {f : Cl → Option Wt} {d : Nat} {r : List Nat} {a v : Wt} (h : f (a.2, d) = some v) : rd f (d :: r) a = rd f r (a.1 ++ v.1, v.2) := by
  show (match f (a.2, d) with | some v => rd f r (a.1 ++ v.1, v.2) | none => none) = _
  rw [h]
theorem rd_none {f : Cl → Option Wt} {d : Nat} {r : List Nat} {a : Wt} (h : f (a.2, d) = none) : rd f (d :: r) a = none := by
  show (match f (a.2, d) with | some v => rd f r (a.1 ++ v.1, v.2) | none => none) = _
  rw [h]
theorem rd_cons {f : Cl → Option Wt} {d : Nat} {r : List Nat} {a b : Wt} (h : rd f (d :: r) a = some b) : ∃ v, f (a.2, d) = some v ∧ rd f r (a.1 ++ v.1, v.2) = some b := by
  cases e : f (a.2, d) with
  | none =>
    rw [rd_none e] at h
    cases h
  | some v =>
    rw [rd_some e] at h
    exact ⟨v, rfl, h⟩
theorem rd_append (f : Cl → Option Wt) : ∀ (l r : List Nat) (a : Wt), rd f (l ++ r) a = (rd f l a).bind (rd f r)
  | [], r, a => rfl
  | d :: l, r, a => by
    rw [List.cons_append]
    cases e : f (a.2, d) with
    | none =>
      rw [rd_none e, rd_none e]
      rfl
    | some v =>
      rw [rd_some e, rd_some e]
      exact rd_append f l r _
theorem rdl_mono {f g : Cl → Option Wt} (h : ∀ c v, f c = some v → g c = some v) : ∀ {l : List Nat} {a b : Wt}, rd f l a = some b → rd g l a = some b
  | [], a, b, e => e
  | d :: l, a, b, e => by
    obtain ⟨v, e1, e2⟩ := rd_cons e
    rw [rd_some (h _ _ e1)]
    exact rdl_mono h e2
section
variable {z : Str} {ss : List PyData}
/-- the value of a call, by so many calls within one another -/
def ev (z : Str) (ss : List PyData) : Nat → Cl → Option Wt
  | 0, _ => none
  | n + 1, c => match mv z ss c with
    | none => none
    | some m => rd (ev z ss n) m.2.1 (m.1, m.2.2)
theorem ev_step {n : Nat} {c : Cl} {m : List Nat × List Nat × Nat} (h : mv z ss c = some m) : ev z ss (n + 1) c = rd (ev z ss n) m.2.1 (m.1, m.2.2) := by
  show (match mv z ss c with | none => none | some m => rd (ev z ss n) m.2.1 (m.1, m.2.2)) = _
  rw [h]
theorem ev_stop {n : Nat} {c : Cl} (h : mv z ss c = none) : ev z ss n c = none := by
  cases n with
  | zero => rfl
  | succ n =>
    show (match mv z ss c with | none => none | some m => rd (ev z ss n) m.2.1 (m.1, m.2.2)) = _
    rw [h]
theorem ev_succ : ∀ (n : Nat) (c : Cl) (v : Wt), ev z ss n c = some v → ev z ss (n + 1) c = some v
  | 0, c, v, h => by cases h
  | n + 1, c, v, h => by
    cases e : mv z ss c with
    | none =>
      rw [ev_stop e] at h
      cases h
    | some m =>
      rw [ev_step e] at h ⊢
      exact rdl_mono (fun c v => ev_succ n c v) h
theorem ev_le {n k : Nat} {c : Cl} {v : Wt} (h : ev z ss n c = some v) (e : n ≤ k) : ev z ss k c = some v := by
  obtain ⟨d, rfl⟩ := Nat.exists_eq_add_of_le e
  clear e
  induction d with
  | zero => exact h
  | succ d ih => exact ev_succ _ _ _ ih
/-- a call's value -/
def Val (z : Str) (ss : List PyData) (c : Cl) (v : Wt) : Prop := ∃ n, ev z ss n c = some v
theorem Val.det {c : Cl} {v w : Wt} (h : Val z ss c v) (k : Val z ss c w) : v = w := by
  obtain ⟨n, h⟩ := h
  obtain ⟨m, k⟩ := k
  have h' := ev_le h (Nat.le_max_left n m)
  rw [ev_le k (Nat.le_max_right n m)] at h'
  exact (Option.some.inj h').symm
/-- a reading by values is one by fuel -/
theorem rd_fuel {f : Cl → Option Wt} (hf : ∀ c v, f c = some v → Val z ss c v) : ∀ {l : List Nat} {a b : Wt}, rd f l a = some b → ∃ n, rd (ev z ss n) l a = some b
  | [], a, b, e => ⟨0, e⟩
  | d :: l, a, b, e => by
    obtain ⟨v, e1, e2⟩ := rd_cons e
    obtain ⟨n, hn⟩ := hf _ _ e1
    obtain ⟨k, hk⟩ := rd_fuel hf e2
    refine ⟨max n k, ?_⟩
    rw [rd_some (ev_le hn (Nat.le_max_left n k))]
    exact rdl_mono (fun c v h => ev_le h (Nat.le_max_right n k)) hk
theorem Val.of {f : Cl → Option Wt} (hf : ∀ c v, f c = some v → Val z ss c v) {c : Cl} {m : List Nat × List Nat × Nat} {v : Wt} (hm : mv z ss c = some m) (h : rd f m.2.1 (m.1, m.2.2) = some v) : Val z ss c v := by
  obtain ⟨n, hn⟩ := rd_fuel hf h
  exact ⟨n + 1, by rw [ev_step hm]; exact hn⟩
/-- c waits for d: what stands ahead of d in its back is known, d is not -/
def Waits (z : Str) (ss : List PyData) (f : Cl → Option Wt) (c d : Cl) : Prop := ∃ (m : List Nat × List Nat × Nat) (l r : List Nat) (w : List Nat), mv z ss c = some m ∧ m.2.1 = l ++ d.2 :: r ∧ rd f l (m.1, m.2.2) = some (w, d.1)
theorem Waits.mono {f g : Cl → Option Wt} {c d : Cl} (h : Waits z ss f c d) (k : ∀ c v, f c = some v → g c = some v) : Waits z ss g c d := by
  obtain ⟨m, l, r, w, e1, e2, e3⟩ := h
  exact ⟨m, l, r, w, e1, e2, rdl_mono k e3⟩
/-- calls that wait for one another, or break off, have no value -/
theorem no_value {f : Cl → Option Wt} (hf : ∀ c v, f c = some v → Val z ss c v) {S : Cl → Prop} (hS : ∀ c, S c → mv z ss c = none ∨ ∃ d, Waits z ss f c d ∧ S d) : ∀ (n : Nat) (c : Cl), S c → ev z ss n c = none
  | 0, c, _ => rfl
  | n + 1, c, h => by
    rcases hS c h with e | ⟨d, ⟨m, l, r, w, e1, e2, e3⟩, hd⟩
    · exact ev_stop e
    · rw [ev_step e1, e2, rd_append]
      cases e4 : rd (ev z ss n) l (m.1, m.2.2) with
      | none => rfl
      | some v =>
        obtain ⟨k, e5⟩ := rd_fuel hf e3
        have a1 := rdl_mono (fun c v h => ev_le h (Nat.le_max_left n k)) e4
        have a2 := rdl_mono (fun c v h => ev_le h (Nat.le_max_right n k)) e5
        rw [a1] at a2
        obtain rfl := Option.some.inj a2
        exact rd_none (no_value hf hS n _ hd)
/-! ### entries, each behind those that it needs -/
abbrev Ent := List (Cl × Wt)
def look (E : Ent) (c : Cl) : Option Wt := (E.find? fun e => decide (e.1 = c)).map (·.2)
theorem look_snoc (E : Ent) (c d : Cl) (v : Wt) : look (E ++ [(c, v)]) d = if (look E d).isSome then look E d else if c = d then some v else none := by
  unfold look
  rw [List.find?_append]
  cases e : E.find? fun e => decide (e.1 = d) with
  | some x => rfl
  | none =>
    by_cases h : c = d
    · subst h
      simp [List.find?]
    · simp [List.find?, h]
inductive Closed (z : Str) (ss : List PyData) : Ent → Prop
  | nil : Closed z ss []
  | snoc {E : Ent} {c : Cl} {v : Wt} {m : List Nat × List Nat × Nat} : Closed z ss E → look E c = none → mv z ss c = some m → rd (look E) m.2.1 (m.1, m.2.2) = some v → Closed z ss (E ++ [(c, v)])
theorem look_more {E : Ent} {c d : Cl} {v w : Wt} (h : look E d = some w) : look (E ++ [(c, v)]) d = some w := by
  rw [look_snoc, h]
  rfl
theorem look_new {E : Ent} {c : Cl} {v : Wt} (h : look E c = none) : look (E ++ [(c, v)]) c = some v := by
  rw [look_snoc, h, if_pos rfl]
  rfl
theorem look_other {E : Ent} {c d : Cl} {v : Wt} (n : c ≠ d) : look (E ++ [(c, v)]) d = look E d := by
  rw [look_snoc, if_neg n]
  cases look E d <;> rfl
theorem Closed.val {E : Ent} (h : Closed z ss E) : ∀ c v, look E c = some v → Val z ss c v := by
  induction h with
  | nil =>
    intro c v h
    cases h
  | @snoc E c v m hE hn hm hr ih =>
    intro d w hd
    by_cases e : c = d
    · subst e
      rw [look_new hn] at hd
      obtain rfl := Option.some.inj hd
      exact Val.of ih hm hr
    · rw [look_other e] at hd
      exact ih d w hd
end
end Lk

/-! Calls that are measured one behind another, and by laps: plain mathematics. -/
namespace Lk
open PySem PySem.Spec PyProof.Rows L2 G
section
variable {z : Str} {ss : List PyData}
theorem look_grow {E : Ent} {c : Cl} {v : Wt} : ∀ d w, look E d = some w → look (E ++ [(c, v)]) d = some w := fun d w h => look_more h
/-- a reading that comes to no end stops at a call that is not known -/
theorem rd_stuck {f : Cl → Option Wt} : ∀ {l : List Nat} {a : Wt}, rd f l a = none → ∃ (k : List Nat) (d : Nat) (r : List Nat) (b : Wt), l = k ++ d :: r ∧ rd f k a = some b ∧ f (b.2, d) = none
  | [], a, h => by cases h
  | d :: l, a, h => by
    cases e : f (a.2, d) with
    | none => exact ⟨[], d, l, a, rfl, rfl, e⟩
    | some v =>
      rw [rd_some e] at h
      obtain ⟨k, x, r, b, e1, e2, e3⟩ := rd_stuck h
      exact ⟨d :: k, x, r, b, by rw [e1]; rfl, by rw [rd_some e]; exact e2, e3⟩
theorem rd_len {f : Cl → Option Wt} : ∀ {l : List Nat} {a b : Wt}, rd f l a = some b → ∀ u : List Nat, rd f l (u ++ a.1, a.2) = some (u ++ b.1, b.2)
  | [], a, b, h, u => by
    cases h
    rfl
  | d :: l, a, b, h, u => by
    obtain ⟨v, e1, e2⟩ := rd_cons h
    rw [rd_some (a := (u ++ a.1, a.2)) e1, show ((u ++ a.1, a.2) : Wt).1 ++ v.1 = u ++ (a.1 ++ v.1) from List.append_assoc u a.1 v.1]
    exact rd_len e2 u
/-- calls without a value, each with its reason -/
def Stuck (z : Str) (ss : List PyData) (E : Ent) (S : Cl → Prop) : Prop := ∀ c, S c → mv z ss c = none ∨ ∃ d, Waits z ss (look E) c d ∧ S d
theorem Stuck.grow {E F : Ent} {S : Cl → Prop} (h : Stuck z ss E S) (k : ∀ c v, look E c = some v → look F c = some v) : Stuck z ss F S := fun c hc => by
  rcases h c hc with e | ⟨d, w, hd⟩
  · exact .inl e
  · exact .inr ⟨d, w.mono k, hd⟩
theorem Stuck.none {E : Ent} {S : Cl → Prop} (cl : Closed z ss E) (h : Stuck z ss E S) {c : Cl} (hc : S c) : ∀ v, ¬ Val z ss c v := fun v ⟨n, e⟩ => by
  rw [no_value cl.val h n c hc] at e
  cases e
/-- the calls that are being read, the last one ahead: its call, place, size, state -/
abbrev Re := Cl × Nat × Nat × Nat
/-- a call that is read up to its place -/
def ReadTo (z : Str) (ss : List PyData) (E : Ent) (r : Re) (m : List Nat × List Nat × Nat) (rest : List Nat) : Prop :=
  ∃ (l w : List Nat), mv z ss r.1 = some m ∧ m.2.1 = l ++ rest ∧ l.length = r.2.1 ∧ rd (look E) l (m.1, m.2.2) = some (w, r.2.2.2) ∧ w.length = r.2.2.1
theorem ReadTo.first {E : Ent} {c : Cl} {m : List Nat × List Nat × Nat} (h : mv z ss c = some m) : ReadTo z ss E (c, 0, m.1.length, m.2.2) m m.2.1 :=
  ⟨[], m.1, h, rfl, rfl, rfl, rfl⟩
theorem ReadTo.grow {E F : Ent} {r : Re} {m : List Nat × List Nat × Nat} {rest : List Nat} (h : ReadTo z ss E r m rest) (k : ∀ c v, look E c = some v → look F c = some v) : ReadTo z ss F r m rest := by
  obtain ⟨l, w, e1, e2, e3, e4, e5⟩ := h
  exact ⟨l, w, e1, e2, e3, rdl_mono k e4, e5⟩
theorem ReadTo.go {E : Ent} {c : Cl} {p n g : Nat} {m : List Nat × List Nat × Nat} {d : Nat} {rest : List Nat} {v : Wt} (h : ReadTo z ss E (c, p, n, g) m (d :: rest)) (e : look E (g, d) = some v) :
    ReadTo z ss E (c, p + 1, n + v.1.length, v.2) m rest := by
  obtain ⟨l, w, e1, e2, e3, e4, e5⟩ := h
  refine ⟨l ++ [d], w ++ v.1, e1, by rw [e2]; simp, by simp only [List.length_append, List.length_singleton]; exact congrArg (· + 1) e3, ?_, by rw [List.length_append]; exact congrArg (· + _) e5⟩
  rw [rd_append, e4]
  show rd (look E) [d] (w, g) = _
  rw [rd_some e]
  rfl
theorem ReadTo.waits {E : Ent} {c : Cl} {p n g : Nat} {m : List Nat × List Nat × Nat} {d : Nat} {rest : List Nat} (h : ReadTo z ss E (c, p, n, g) m (d :: rest)) : Waits z ss (look E) c (g, d) := by
  obtain ⟨l, w, e1, e2, e3, e4, e5⟩ := h
  exact ⟨m, l, rest, w, e1, e2, e4⟩
theorem ReadTo.done {E : Ent} {c : Cl} {p n g : Nat} {m : List Nat × List Nat × Nat} (cl : Closed z ss E) (hn : look E c = none) (h : ReadTo z ss E (c, p, n, g) m []) :
    ∃ w : List Nat, w.length = n ∧ Closed z ss (E ++ [(c, (w, g))]) := by
  obtain ⟨l, w, e1, e2, e3, e4, e5⟩ := h
  rw [List.append_nil] at e2
  exact ⟨w, e5, .snoc cl hn e1 (by rw [e2]; exact e4)⟩
/-- a row of calls, each waiting for the one behind it, the last for c -/
inductive Row (z : Str) (ss : List PyData) (E : Ent) : List Re → Cl → Prop
  | nil (c : Cl) : Row z ss E [] c
  | cons {r : Re} {row : List Re} {m : List Nat × List Nat × Nat} {d : Nat} {rest : List Nat} : ReadTo z ss E r m (d :: rest) → Row z ss E row r.1 → Row z ss E (r :: row) (r.2.2.2, d)
theorem Row.grow {E F : Ent} {row : List Re} {c : Cl} (h : Row z ss E row c) (k : ∀ c v, look E c = some v → look F c = some v) : Row z ss F row c := by
  induction h with
  | nil c => exact .nil c
  | cons a _ ih => exact .cons (a.grow k) ih
/-- what stands between two calls -/
structure Meas (z : Str) (ss : List PyData) (E : Ent) (O : Cl → Prop) (row : List Re) (S : Cl → Prop) : Prop where
  closed : Closed z ss E
  stuck : Stuck z ss E S
  opened : ∀ c, O c → look E c = none → (∃ r ∈ row, r.1 = c) ∨ S c
  found : ∀ c v, look E c = some v → O c
  inRow : ∀ r ∈ row, O r.1 ∧ look E r.1 = none
  nodup : (row.map (·.1)).Nodup
theorem Meas.start : Meas z ss [] (fun _ => False) [] (fun _ => False) :=
  ⟨.nil, fun _ h => h.elim, fun _ h => h.elim, fun _ _ h => (by cases h), fun _ h => (by cases h), .nil⟩
/-- one more call in the row -/
theorem Meas.push {E : Ent} {O S : Cl → Prop} {row : List Re} {c : Cl} {p n g : Nat} (M : Meas z ss E O row S) (hc : ¬ O c) : Meas z ss E (fun x => O x ∨ x = c) ((c, p, n, g) :: row) S := by
  have hn : look E c = none := by
    cases e : look E c with
    | none => rfl
    | some v => exact absurd (M.found _ _ e) hc
  refine ⟨M.closed, M.stuck, fun x hx h => ?_, fun x v h => .inl (M.found x v h), fun r hr => ?_, ?_⟩
  · rcases hx with hx | rfl
    · rcases M.opened x hx h with ⟨r, hr, e⟩ | h
      · exact .inl ⟨r, List.mem_cons_of_mem _ hr, e⟩
      · exact .inr h
    · exact .inl ⟨_, List.mem_cons_self, rfl⟩
  · rcases List.mem_cons.1 hr with rfl | hr
    · exact ⟨.inr rfl, hn⟩
    · exact ⟨.inl (M.inRow r hr).1, (M.inRow r hr).2⟩
  · refine List.nodup_cons.2 ⟨fun h => ?_, M.nodup⟩
    obtain ⟨r, hr, e⟩ := List.mem_map.1 h
    exact hc ((show r.1 = c from e) ▸ (M.inRow r hr).1)
/-- the same call, read further -/
theorem Meas.further {E : Ent} {O S : Cl → Prop} {row : List Re} {c : Cl} {p n g p' n' g' : Nat} (M : Meas z ss E O ((c, p, n, g) :: row) S) : Meas z ss E O ((c, p', n', g') :: row) S := by
  refine ⟨M.closed, M.stuck, fun x hx h => ?_, M.found, fun r hr => ?_, ?_⟩
  · rcases M.opened x hx h with ⟨r, hr, e⟩ | h
    · rcases List.mem_cons.1 hr with rfl | hr
      · exact .inl ⟨_, List.mem_cons_self, e⟩
      · exact .inl ⟨r, List.mem_cons_of_mem _ hr, e⟩
    · exact .inr h
  · rcases List.mem_cons.1 hr with rfl | hr
    · exact M.inRow (c, p, n, g) (List.mem_cons_self (a := (c, p, n, g)) (l := row))
    · exact M.inRow r (List.mem_cons_of_mem _ hr)
  · exact M.nodup
/-- a call that is read to its end -/
theorem Meas.done {E : Ent} {O S : Cl → Prop} {row : List Re} {c : Cl} {p n g : Nat} {m : List Nat × List Nat × Nat} (M : Meas z ss E O ((c, p, n, g) :: row) S) (h : ReadTo z ss E (c, p, n, g) m []) :
    ∃ w : List Nat, w.length = n ∧ Meas z ss (E ++ [(c, (w, g))]) O row S := by
  obtain ⟨hO, hn⟩ := M.inRow _ (List.mem_cons_self (a := (c, p, n, g)))
  obtain ⟨w, e, cl⟩ := h.done M.closed hn
  obtain ⟨nc, nd⟩ := List.nodup_cons.1 M.nodup
  refine ⟨w, e, cl, M.stuck.grow look_grow, fun x hx h => ?_, fun x v h => ?_, fun r hr => ?_, nd⟩
  · by_cases e : c = x
    · subst e
      rw [look_new hn] at h
      cases h
    · rw [look_other e] at h
      rcases M.opened x hx h with ⟨r, hr, er⟩ | h
      · rcases List.mem_cons.1 hr with rfl | hr
        · exact absurd er e
        · exact .inl ⟨r, hr, er⟩
      · exact .inr h
  · by_cases e : c = x
    · subst e
      exact hO
    · rw [look_other e] at h
      exact M.found x v h
  · have ne : c ≠ r.1 := fun e => nc (List.mem_map.2 ⟨r, hr, e.symm⟩)
    rw [look_other ne]
    exact M.inRow r (List.mem_cons_of_mem _ hr)
theorem Row.stuck {E : Ent} {row : List Re} {c : Cl} (h : Row z ss E row c) {T : Cl → Prop} (hc : T c) (hr : ∀ r ∈ row, T r.1) : ∀ r ∈ row, ∃ d, Waits z ss (look E) r.1 d ∧ T d := by
  induction h with
  | nil c => exact fun r hr => by cases hr
  | @cons r row m d rest a b ih =>
    intro x hx
    rcases List.mem_cons.1 hx with rfl | hx
    · exact ⟨_, a.waits, hc⟩
    · exact ih (hr r List.mem_cons_self) (fun y hy => hr y (List.mem_cons_of_mem _ hy)) x hx
/-- the row waits for one that is opened and not found -/
theorem Meas.waits {E : Ent} {O S : Cl → Prop} {row : List Re} {c : Cl} (M : Meas z ss E O row S) (R : Row z ss E row c) (hc : O c) (hn : look E c = none) :
    Meas z ss E O [] (fun x => S x ∨ ∃ r ∈ row, r.1 = x) := by
  have hT : S c ∨ ∃ r ∈ row, r.1 = c := (M.opened c hc hn).symm
  refine ⟨M.closed, fun x hx => ?_, fun x hx h => .inr (M.opened x hx h).symm, M.found, fun _ h => (by cases h), .nil⟩
  rcases hx with hx | ⟨r, hr, rfl⟩
  · rcases M.stuck x hx with e | ⟨d, w, hd⟩
    · exact .inl e
    · exact .inr ⟨d, w, .inl hd⟩
  · exact .inr (R.stuck (T := fun x => S x ∨ ∃ r ∈ row, r.1 = x) hT (fun r hr => .inr ⟨r, hr, rfl⟩) r hr)
/-- the row waits for one that has no move -/
theorem Meas.breaks {E : Ent} {O S : Cl → Prop} {row : List Re} {c : Cl} (M : Meas z ss E O row S) (R : Row z ss E row c) (hc : ¬ O c) (hm : mv z ss c = none) :
    Meas z ss E (fun x => O x ∨ x = c) [] (fun x => (S x ∨ x = c) ∨ ∃ r ∈ row, r.1 = x) := by
  refine ⟨M.closed, fun x hx => ?_, fun x hx h => ?_, fun x v h => .inl (M.found x v h), fun _ h => (by cases h), .nil⟩
  · rcases hx with (hx | rfl) | ⟨r, hr, rfl⟩
    · rcases M.stuck x hx with e | ⟨d, w, hd⟩
      · exact .inl e
      · exact .inr ⟨d, w, .inl (.inl hd)⟩
    · exact .inl hm
    · exact .inr (R.stuck (T := fun x => (S x ∨ x = c) ∨ ∃ r ∈ row, r.1 = x) (.inl (.inr rfl)) (fun r hr => .inr ⟨r, hr, rfl⟩) r hr)
  · rcases hx with hx | rfl
    · rcases M.opened x hx h with h | h
      · exact .inr (.inr h)
      · exact .inr (.inl (.inl h))
    · exact .inr (.inl (.inr rfl))
/-- behind the last call all that have a value are found -/
theorem Meas.all {E : Ent} {O S : Cl → Prop} (M : Meas z ss E O [] S) {c : Cl} (hc : O c) {v : Wt} : Val z ss c v ↔ look E c = some v := by
  refine ⟨fun h => ?_, fun h => M.closed.val c v h⟩
  cases e : look E c with
  | none =>
    rcases M.opened c hc e with ⟨r, hr, _⟩ | hs
    · cases hr
    · exact absurd h (M.stuck.none M.closed hs v)
  | some w => rw [h.det (M.closed.val c w e)]
end
end Lk

/-! Values by laps over all calls: plain mathematics. -/
namespace Lk
open PySem PySem.Spec PyProof.Rows L2 G
section
variable {z : Str} {ss : List PyData}
/-- one call of a lap -/
def lapOne (z : Str) (ss : List PyData) (E : Ent) (c : Cl) : Ent := match look E c with
  | some _ => E
  | none => match mv z ss c with
    | none => E
    | some m => match rd (look E) m.2.1 (m.1, m.2.2) with
      | none => E
      | some v => E ++ [(c, v)]
theorem lapOne_known {E : Ent} {c : Cl} {v : Wt} (h : look E c = some v) : lapOne z ss E c = E := by
  unfold lapOne
  rw [h]
theorem lapOne_stop {E : Ent} {c : Cl} (h : mv z ss c = none) : lapOne z ss E c = E := by
  unfold lapOne
  rw [h]
  cases look E c <;> rfl
theorem lapOne_waits {E : Ent} {c : Cl} {m : List Nat × List Nat × Nat} (hm : mv z ss c = some m) (h : rd (look E) m.2.1 (m.1, m.2.2) = none) : lapOne z ss E c = E := by
  unfold lapOne
  rw [hm]
  dsimp only
  rw [h]
  cases look E c <;> rfl
theorem lapOne_new {E : Ent} {c : Cl} {m : List Nat × List Nat × Nat} {v : Wt} (hn : look E c = none) (hm : mv z ss c = some m) (h : rd (look E) m.2.1 (m.1, m.2.2) = some v) : lapOne z ss E c = E ++ [(c, v)] := by
  unfold lapOne
  rw [hn, hm]
  dsimp only
  rw [h]
theorem lapOne_ways (E : Ent) (c : Cl) : (lapOne z ss E c = E ∧ ((∃ v, look E c = some v) ∨ mv z ss c = none ∨ ∃ m, mv z ss c = some m ∧ rd (look E) m.2.1 (m.1, m.2.2) = none)) ∨
    ∃ m v, look E c = none ∧ mv z ss c = some m ∧ rd (look E) m.2.1 (m.1, m.2.2) = some v ∧ lapOne z ss E c = E ++ [(c, v)] := by
  cases e : look E c with
  | some v => exact .inl ⟨lapOne_known e, .inl ⟨v, rfl⟩⟩
  | none =>
    cases e1 : mv z ss c with
    | none => exact .inl ⟨lapOne_stop e1, .inr (.inl rfl)⟩
    | some m =>
      cases e2 : rd (look E) m.2.1 (m.1, m.2.2) with
      | none => exact .inl ⟨lapOne_waits e1 e2, .inr (.inr ⟨m, rfl, e2⟩)⟩
      | some v => exact .inr ⟨m, v, rfl, rfl, e2, lapOne_new e e1 e2⟩
theorem Closed.lapOne {E : Ent} (h : Closed z ss E) (c : Cl) : Closed z ss (Lk.lapOne z ss E c) := by
  rcases lapOne_ways (z := z) (ss := ss) E c with ⟨e, _⟩ | ⟨m, v, e1, e2, e3, e⟩
  · rw [e]
    exact h
  · rw [e]
    exact .snoc h e1 e2 e3
def lap (z : Str) (ss : List PyData) (cs : List Cl) (E : Ent) : Ent := cs.foldl (lapOne z ss) E
def laps (z : Str) (ss : List PyData) (cs : List Cl) : Nat → Ent → Ent
  | 0, E => E
  | n + 1, E => laps z ss cs n (lap z ss cs E)
theorem Closed.lap {cs : List Cl} : ∀ {E : Ent}, Closed z ss E → Closed z ss (Lk.lap z ss cs E) := by
  induction cs with
  | nil => exact fun h => h
  | cons c r ih => exact fun h => ih (h.lapOne c)
theorem Closed.laps {cs : List Cl} : ∀ (n : Nat) {E : Ent}, Closed z ss E → Closed z ss (Lk.laps z ss cs n E)
  | 0, E, h => h
  | n + 1, E, h => Closed.laps n h.lap
/-- only these calls stand in it, each once -/
def Among (cs : List Cl) (E : Ent) : Prop := (∀ e ∈ E, e.1 ∈ cs) ∧ (E.map (·.1)).Nodup
theorem look_none {E : Ent} {c : Cl} (h : look E c = none) : c ∉ E.map (·.1) := fun hc => by
  obtain ⟨e, he, rfl⟩ := List.mem_map.1 hc
  unfold look at h
  rw [Option.map_eq_none_iff, List.find?_eq_none] at h
  exact h e he (decide_eq_true rfl)
theorem look_mem {E : Ent} {c : Cl} {v : Wt} (h : look E c = some v) : (c, v) ∈ E := by
  unfold look at h
  obtain ⟨e, e1, e2⟩ := Option.map_eq_some_iff.1 h
  have h1 := List.mem_of_find?_eq_some e1
  have h2 : e.1 = c := of_decide_eq_true (List.find?_some (p := fun e : Cl × Wt => decide (e.1 = c)) e1)
  rw [← h2, ← e2]
  exact h1
theorem Among.lapOne {cs : List Cl} {E : Ent} (h : Among cs E) {c : Cl} (hc : c ∈ cs) : Among cs (Lk.lapOne z ss E c) := by
  rcases lapOne_ways (z := z) (ss := ss) E c with ⟨e, _⟩ | ⟨m, v, e1, e2, e3, e⟩
  · rw [e]
    exact h
  · rw [e]
    refine ⟨fun x hx => ?_, ?_⟩
    · rcases List.mem_append.1 hx with hx | hx
      · exact h.1 x hx
      · obtain rfl := List.mem_singleton.1 hx
        exact hc
    · rw [List.map_append]
      refine List.nodup_append.2 ⟨h.2, List.nodup_cons.2 ⟨fun x => (by cases x), .nil⟩, fun a ha b hb eab => ?_⟩
      have hbc : b = c := List.mem_singleton.1 hb
      rw [eab, hbc] at ha
      exact look_none e1 ha
theorem Among.fold {cs : List Cl} : ∀ {l : List Cl} {E : Ent}, Among cs E → (∀ c ∈ l, c ∈ cs) → Among cs (l.foldl (Lk.lapOne z ss) E)
  | [], E, h, _ => h
  | c :: l, E, h, k => Among.fold (l := l) (E := Lk.lapOne z ss E c) (h.lapOne (k c List.mem_cons_self)) fun x hx => k x (List.mem_cons_of_mem _ hx)
theorem Among.lap {cs : List Cl} {E : Ent} (h : Among cs E) : Among cs (Lk.lap z ss cs E) := h.fold fun _ h => h
theorem sub_len : ∀ {a b : List Cl}, a.Nodup → (∀ x ∈ a, x ∈ b) → a.length ≤ b.length
  | [], b, _, _ => Nat.zero_le _
  | x :: a, b, n, h => by
    obtain ⟨n1, n2⟩ := List.nodup_cons.1 n
    have hb := h x List.mem_cons_self
    have hl := sub_len (b := b.erase x) n2 fun y hy => (List.mem_erase_of_ne (show y ≠ x from fun e => n1 (by rw [← e]; exact hy))).2 (h y (List.mem_cons_of_mem _ hy))
    rw [List.length_erase_of_mem hb] at hl
    have : 0 < b.length := List.length_pos_of_mem hb
    simp only [List.length_cons]
    omega
theorem Among.len {cs : List Cl} {E : Ent} (h : Among cs E) : E.length ≤ cs.length := by
  rw [← List.length_map (f := fun e : Cl × Wt => e.1)]
  exact sub_len h.2 fun x hx => by
    obtain ⟨e, he, rfl⟩ := List.mem_map.1 hx
    exact h.1 e he
theorem lapOne_len (E : Ent) (c : Cl) : E.length ≤ (lapOne z ss E c).length := by
  rcases lapOne_ways (z := z) (ss := ss) E c with ⟨e, _⟩ | ⟨m, v, e1, e2, e3, e⟩
  · rw [e]
    exact Nat.le_refl _
  · rw [e, List.length_append]
    exact Nat.le_add_right _ _
theorem fold_len : ∀ (l : List Cl) (E : Ent), E.length ≤ (l.foldl (lapOne z ss) E).length
  | [], E => Nat.le_refl _
  | c :: l, E => Nat.le_trans (lapOne_len E c) (fold_len l _)
/-- a lap that finds nothing new leaves all as it is, and each call without a value waits or breaks off -/
theorem fold_same : ∀ {l : List Cl} {E : Ent}, (l.foldl (lapOne z ss) E).length ≤ E.length → (l.foldl (lapOne z ss) E) = E ∧ ∀ c ∈ l, look E c = none → mv z ss c = none ∨ ∃ m, mv z ss c = some m ∧ rd (look E) m.2.1 (m.1, m.2.2) = none
  | [], E, _ => ⟨rfl, fun c h => by cases h⟩
  | c :: l, E, h => by
    rw [List.foldl_cons] at h ⊢
    rcases lapOne_ways (z := z) (ss := ss) E c with ⟨e, k⟩ | ⟨m, v, e1, e2, e3, e⟩
    · rw [e] at h ⊢
      obtain ⟨h1, h2⟩ := fold_same h
      refine ⟨h1, fun x hx hn => ?_⟩
      rcases List.mem_cons.1 hx with rfl | hx
      · rcases k with ⟨v, k⟩ | k
        · rw [k] at hn
          cases hn
        · exact k
      · exact h2 x hx hn
    · rw [e] at h
      have := fold_len (z := z) (ss := ss) l (E ++ [(c, v)])
      rw [List.length_append] at this
      have h1 : [(c, v)].length = 1 := rfl
      omega
/-- so many laps find all, or the last one finds nothing new -/
theorem laps_fix {cs : List Cl} : ∀ (n : Nat) {E : Ent}, Among cs E → cs.length ≤ n + E.length → ∃ F, laps z ss cs n E = F ∧ Among cs F ∧ (lap z ss cs F).length ≤ F.length
  | 0, E, h, k => ⟨E, rfl, h, by
    have := (Among.lap (z := z) (ss := ss) h).len
    omega⟩
  | n + 1, E, h, k => by
    by_cases e : (lap z ss cs E).length ≤ E.length
    · have h1 : lap z ss cs E = E := (fold_same e).1
      have : ∀ n, laps z ss cs n E = E := fun n => by
        induction n with
        | zero => rfl
        | succ n ih =>
          show laps z ss cs n (lap z ss cs E) = E
          rw [h1]
          exact ih
      exact ⟨E, this _, h, e⟩
    · exact laps_fix n h.lap (by omega)
/-- the laps find all values -/
theorem laps_all {cs : List Cl} {n : Nat} (k : cs.length ≤ n) (hd : ∀ c ∈ cs, ∀ m, mv z ss c = some m → ∀ (f : Cl → Option Wt) (l : List Nat) (d : Nat) (r : List Nat) (b : Wt), (∀ c v, f c = some v → Val z ss c v) → m.2.1 = l ++ d :: r → rd f l (m.1, m.2.2) = some b → (b.2, d) ∈ cs)
    {c : Cl} (hc : c ∈ cs) {v : Wt} : Val z ss c v ↔ look (laps z ss cs n []) c = some v := by
  obtain ⟨F, e, hA, hF⟩ := laps_fix (z := z) (ss := ss) n (E := []) ⟨fun _ h => (by cases h), .nil⟩ (Nat.le_trans k (Nat.le_add_right _ _))
  have cl : Closed z ss F := by
    rw [← e]
    exact Closed.laps n .nil
  rw [e]
  obtain ⟨_, h2⟩ := fold_same hF
  have st : Stuck z ss F (fun x => x ∈ cs ∧ look F x = none) := fun x ⟨hx, hn⟩ => by
    rcases h2 x hx hn with h | ⟨m, h3, h4⟩
    · exact .inl h
    · obtain ⟨l, d, r, b, e1, e2, e3⟩ := rd_stuck h4
      exact .inr ⟨(b.2, d), ⟨m, l, r, b.1, h3, e1, e2⟩, hd x hx m h3 _ l d r b cl.val e1 e2, e3⟩
  refine ⟨fun h => ?_, fun h => cl.val c v h⟩
  cases e1 : look F c with
  | none => exact absurd h (st.none cl ⟨hc, e1⟩ v)
  | some w => rw [h.det (cl.val c w e1)]
end
end Lk

/-! Calls as they lie: dicts of calls, rows of calls that are being read. -/
namespace Lk
open PySem PySem.Spec PyProof.Rows L2 G
/-- a heap without some places -/
def off (S : List Addr) (H : Hp) : Hp := fun b => if b ∈ S then none else H b
theorem off_some {S : List Addr} {H : Hp} {b : Addr} {o : HO} (h : off S H b = some o) : b ∉ S ∧ H b = some o := by
  unfold off at h
  split at h
  · cases h
  · exact ⟨‹_›, h⟩
theorem off_of {S : List Addr} {H : Hp} {b : Addr} {o : HO} (n : b ∉ S) (h : H b = some o) : off S H b = some o := (if_neg n).trans h
theorem off_same {S : List Addr} {H : Hp} : Same (off S H) H := fun _ _ h => (off_some h).2
/-- all but some places stays -/
def Keep (S : List Addr) (H H' : Hp) : Prop := Same (off S H) (off S H')
theorem Keep.refl {S H} : Keep S H H := Same.refl _
theorem Keep.trans {S H H1 H2} (x : Keep S H H1) (y : Keep S H1 H2) : Keep S H H2 := Same.trans x y
theorem Keep.of {S H H'} (x : Same H H') : Keep S H H' := fun b o h => off_of (off_some h).1 (x b o (off_some h).2)
theorem Keep.pot {S : List Addr} {H : Hp} {a : Addr} {o : HO} (h : a ∈ S) : Keep S H (upd H a o) := fun b u e => by
  obtain ⟨n, e⟩ := off_some e
  exact off_of n ((upd_ne (show b ≠ a from fun z => n (by rw [z]; exact h))).trans e)
theorem Keep.more {S T : List Addr} {H H' : Hp} (k : Keep S H H') (h : ∀ a ∈ S, a ∈ T) : Keep T H H' := fun b u e => by
  obtain ⟨n, e⟩ := off_some e
  exact off_of n (off_some (k b u (off_of (fun z => n (h b z)) e))).2
theorem Keep.at_ {S : List Addr} {H H' : Hp} {b : Addr} {o : HO} (k : Keep S H H') (n : b ∉ S) (e : H b = some o) : H' b = some o := (off_some (k b o (off_of n e))).2
theorem Keep.same {S : List Addr} {H H' : Hp} (k : Keep S H H') : Same (off S H) H' := Same.trans k off_same
/-- places that were free: all that stood stays -/
theorem Keep.free {S : List Addr} {H0 H H' : Hp} (s : Same H0 H) (k : Keep S H H') (f : ∀ a ∈ S, H0 a = none) : Same H0 H' := fun b o e => k.at_ (fun z => by
  rw [f b z] at e
  cases e) (s b o e)
/-- a call as a key -/
def ckey (c : Cl) : List Key := [.inl (c.1 : Int), .inr (Ls.one c.2)]
theorem one_inj {a b : Nat} (h : Ls.one a = Ls.one b) : a = b := by
  have e : (tx [a]).cps.toList = (tx [b]).cps.toList := congrArg (fun x : Str => x.cps.toList) h
  rw [tx_codes, tx_codes] at e
  injection e
theorem ckey_inj {c d : Cl} (h : ckey c = ckey d) : c = d := by
  unfold ckey at h
  injection h with h1 h2
  injection h2 with h2 _
  injection h1 with h1
  injection h2 with h2
  exact Prod.ext (Int.ofNat.inj h1) (one_inj h2)
/-- the pair of a call -/
def CallAt (H : Hp) (p : Addr) (c : Cl) : Prop := H p = some (.tup [.int (c.1 : Int), .str (Ls.one c.2)])
theorem CallAt.key {H : Hp} {p : Addr} {c : Cl} (h : CallAt H p c) : H p = some (.tup ((ckey c).map kV)) := h
/-- the pair of a size and a state -/
def SzAt (H : Hp) (v : V) (w : Wt) : Prop := ∃ p, v = .ref p ∧ H p = some (.tup [.int (w.1.length : Int), .int (w.2 : Int)])
theorem SzAt.mono {H H' : Hp} {v : V} {w : Wt} (h : SzAt H v w) (s : Same H H') : SzAt H' v w := by
  obtain ⟨p, e, h⟩ := h
  exact ⟨p, e, s _ _ h⟩
/-- entries of a dict of sizes -/
inductive SzE (H : Hp) : List (List Key × V) → Ent → Prop
  | nil : SzE H [] []
  | cons {c : Cl} {w : Wt} {v : V} {kvs : List (List Key × V)} {E : Ent} : SzAt H v w → SzE H kvs E → SzE H ((ckey c, v) :: kvs) ((c, w) :: E)
theorem SzE.mono {H H' : Hp} {kvs : List (List Key × V)} {E : Ent} (h : SzE H kvs E) (s : Same H H') : SzE H' kvs E := by
  induction h with
  | nil => exact .nil
  | cons a _ ih => exact .cons (a.mono s) ih
theorem look_cons (c d : Cl) (w : Wt) (E : Ent) : look ((c, w) :: E) d = if c = d then some w else look E d := by
  unfold look
  rw [List.find?_cons]
  by_cases h : c = d
  · rw [if_pos h, decide_eq_true h]
    rfl
  · rw [if_neg h, decide_eq_false h]
theorem SzE.get {H : Hp} {kvs : List (List Key × V)} {E : Ent} (h : SzE H kvs E) (d : Cl) : (∃ v w, valV kvs (ckey d) = some v ∧ look E d = some w ∧ SzAt H v w) ∨ (valV kvs (ckey d) = none ∧ look E d = none) := by
  induction h with
  | nil => exact .inr ⟨rfl, rfl⟩
  | @cons c w v kvs E a _ ih =>
    rw [look_cons]
    by_cases e : c = d
    · subst e
      exact .inl ⟨v, w, valV_pos rfl, if_pos rfl, a⟩
    · rw [if_neg e, valV_neg (fun z => e (ckey_inj z))]
      exact ih
theorem SzE.snoc {H : Hp} {kvs : List (List Key × V)} {E : Ent} {c : Cl} {v : V} {w : Wt} (h : SzE H kvs E) (a : SzAt H v w) : SzE H (kvs ++ [(ckey c, v)]) (E ++ [(c, w)]) := by
  induction h with
  | nil => exact .cons a .nil
  | cons b _ ih => exact .cons b ih
theorem putK_new {kvs : List (List Key × V)} {k : List Key} {v : V} (h : valV kvs k = none) : putK kvs k v = kvs ++ [(k, v)] := by
  unfold putK
  rw [valV_any, h]
  rfl
theorem SzE.put {H : Hp} {kvs : List (List Key × V)} {E : Ent} {c : Cl} {v : V} {w : Wt} (h : SzE H kvs E) (n : look E c = none) (a : SzAt H v w) : SzE H (putK kvs (ckey c) v) (E ++ [(c, w)]) := by
  rcases h.get c with ⟨_, _, _, e, _⟩ | ⟨e, _⟩
  · rw [n] at e
    cases e
  · rw [putK_new e]
    exact h.snoc a
theorem SzE.len {H : Hp} {kvs : List (List Key × V)} {E : Ent} (h : SzE H kvs E) : kvs.length = E.length := by
  induction h with
  | nil => rfl
  | cons _ _ ih => exact congrArg (· + 1) ih
/-- a dict of calls' sizes -/
def Found (S : List Addr) (H : Hp) (d : Addr) (E : Ent) : Prop := ∃ kvs, H d = some (.dT kvs) ∧ SzE (off S H) kvs E
theorem Found.keep {S : List Addr} {H H' : Hp} {d : Addr} {E : Ent} (h : Found S H d E) (k : Keep S H H') (e : H' d = H d) : Found S H' d E := by
  obtain ⟨kvs, h1, h2⟩ := h
  exact ⟨kvs, e.trans h1, h2.mono k⟩
theorem Found.same {S : List Addr} {H H' : Hp} {d : Addr} {E : Ent} (h : Found S H d E) (s : Same H H') : Found S H' d E := by
  obtain ⟨kvs, h1, h2⟩ := h
  exact ⟨kvs, s _ _ h1, h2.mono (Keep.of s)⟩
/-- a call that is being read, as it lies -/
def ReAt (H : Hp) (v : V) (r : Re) : Prop := ∃ p q, v = .ref p ∧ H p = some (.tup [.ref q, .int (r.2.1 : Int), .int (r.2.2.1 : Int), .int (r.2.2.2 : Int)]) ∧ CallAt H q r.1
theorem ReAt.mono {H H' : Hp} {v : V} {r : Re} (h : ReAt H v r) (s : Same H H') : ReAt H' v r := by
  obtain ⟨p, q, e, h1, h2⟩ := h
  exact ⟨p, q, e, s _ _ h1, s _ _ h2⟩
/-- a row, its last item ahead -/
inductive RowAt (H : Hp) : List V → List Re → Prop
  | nil : RowAt H [] []
  | snoc {xs : List V} {x : V} {r : Re} {row : List Re} : RowAt H xs row → ReAt H x r → RowAt H (xs ++ [x]) (r :: row)
theorem RowAt.mono {H H' : Hp} {xs : List V} {row : List Re} (h : RowAt H xs row) (s : Same H H') : RowAt H' xs row := by
  induction h with
  | nil => exact .nil
  | snoc _ a ih => exact .snoc ih (a.mono s)
theorem RowAt.len {H : Hp} {xs : List V} {row : List Re} (h : RowAt H xs row) : xs.length = row.length := by
  induction h with
  | nil => rfl
  | snoc _ _ ih => rw [List.length_append, ih]; rfl
theorem RowAt.top {H : Hp} {xs : List V} {r : Re} {row : List Re} (h : RowAt H xs (r :: row)) : ∃ ys y, xs = ys ++ [y] ∧ RowAt H ys row ∧ ReAt H y r := by
  cases h with
  | snoc a b => exact ⟨_, _, rfl, a, b⟩
theorem RowAt.none {H : Hp} {xs : List V} (h : RowAt H xs []) : xs = [] := by
  cases h
  rfl
def RowL (S : List Addr) (H : Hp) (l : Addr) (row : List Re) : Prop := ∃ xs, H l = some (.lst xs) ∧ RowAt (off S H) xs row
theorem RowL.keep {S : List Addr} {H H' : Hp} {l : Addr} {row : List Re} (h : RowL S H l row) (k : Keep S H H') (e : H' l = H l) : RowL S H' l row := by
  obtain ⟨xs, h1, h2⟩ := h
  exact ⟨xs, e.trans h1, h2.mono k⟩
theorem RowL.same {S : List Addr} {H H' : Hp} {l : Addr} {row : List Re} (h : RowL S H l row) (s : Same H H') : RowL S H' l row := by
  obtain ⟨xs, h1, h2⟩ := h
  exact ⟨xs, s _ _ h1, h2.mono (Keep.of s)⟩
section
variable {z : Str} {ss : List PyData}
/-- what is known of a move -/
theorem mv_ok (ok : StatesOk z ss) {c : Cl} {m : List Nat × List Nat × Nat} (h : mv z ss c = some m) : (c.1 < ss.length ∧ c.2 ∈ z.cps.toList) ∧ ∃ x y : Str, moveD z ss c.1 c.2 = .tuple [.str x, .str y, .int (m.2.2 : Int)] ∧
    m.1 = x.cps.toList ∧ m.2.1 = y.cps.toList ∧ x.length ≤ 2000 ∧ y.length ≤ 2000 ∧ allIn z x = true ∧ allIn z y = true ∧ m.2.2 < ss.length := by
  have v : c.1 < ss.length ∧ c.2 ∈ z.cps.toList := by
    unfold mv moveD at h
    have hc : c.2 ∈ z.cps.toList := by
      have e := PySem.StrLaws.found_one z c.2
      cases q : Builtin.Str.occurrences z (Ls.one c.2) 0 z.length 1 with
      | nil =>
        rw [q] at h
        cases h
      | cons k r =>
        have e' : (!(Builtin.Str.occurrences z (Ls.one c.2) 0 z.length 1).isEmpty) = decide (c.2 ∈ z.cps.toList) := e
        rw [q] at e'
        exact of_decide_eq_true e'.symm
    refine ⟨?_, hc⟩
    by_cases hs : c.1 < ss.length
    · exact hs
    · have eg : ss.getD c.1 .none = .none := by
        rw [List.getD_eq_getElem?_getD, List.getElem?_eq_none (Nat.le_of_not_lt hs)]
        rfl
      cases q : Builtin.Str.occurrences z (Ls.one c.2) 0 z.length 1 with
      | nil =>
        rw [q] at h
        cases h
      | cons k r =>
        rw [q, eg] at h
        dsimp only [movesOf] at h
        rw [List.getD_nil] at h
        cases h
  refine ⟨v, ?_⟩
  obtain ⟨ms, l, k, rest, _, _, _, e4⟩ := place_in ok v.1 v.2
  unfold mv at h
  generalize moveD z ss c.1 c.2 = md at h e4
  rcases moveB_parts e4 with rfl | ⟨x, y, g, rfl, ⟨hx, lx⟩, ⟨hy, ly⟩, hg⟩
  · cases h
  · have h := Option.some.inj h
    subst h
    refine ⟨x, y, ?_, rfl, rfl, lx, ly, hx, hy, ?_⟩
    · show PyData.tuple [.str x, .str y, .int (g : Int)] = .tuple [.str x, .str y, .int (((g : Int).toNat : Nat) : Int)]
      rw [Int.toNat_natCast]
    · show (g : Int).toNat < ss.length
      omega
/-- a call that has no move -/
theorem mv_none (ok : StatesOk z ss) {c : Cl} (h1 : c.1 < ss.length) (h2 : c.2 ∈ z.cps.toList) (h : mv z ss c = none) : moveD z ss c.1 c.2 = .none := by
  obtain ⟨ms, l, k, rest, _, _, _, e4⟩ := place_in ok h1 h2
  unfold mv at h
  generalize moveD z ss c.1 c.2 = md at h e4
  rcases moveB_parts e4 with rfl | ⟨x, y, g, rfl, _⟩
  · rfl
  · cases h
/-- a call of the expander -/
def Good (z : Str) (ss : List PyData) (c : Cl) : Prop := c.1 < ss.length ∧ c.2 ∈ z.cps.toList
theorem rd_good {f : Cl → Option Wt} {n : Nat} (hf : ∀ c v, f c = some v → v.2 < n) : ∀ {l : List Nat} {a b : Wt}, a.2 < n → rd f l a = some b → b.2 < n
  | [], a, b, h, e => by
    cases e
    exact h
  | d :: l, a, b, h, e => by
    obtain ⟨v, e1, e2⟩ := rd_cons e
    exact rd_good (a := (a.1 ++ v.1, v.2)) hf (show v.2 < n from hf _ _ e1) e2
theorem Closed.state (ok : StatesOk z ss) {E : Ent} (h : Closed z ss E) : ∀ c v, look E c = some v → v.2 < ss.length := by
  induction h with
  | nil =>
    intro c v h
    cases h
  | @snoc E c v m hE hn hm hr ih =>
    intro d w hd
    by_cases e : c = d
    · subst e
      rw [look_new hn] at hd
      obtain rfl := Option.some.inj hd
      obtain ⟨_, x, y, _, _, _, _, _, _, _, hg⟩ := mv_ok ok hm
      exact rd_good (a := (m.1, m.2.2)) ih hg hr
    · rw [look_other e] at hd
      exact ih d w hd
theorem Closed.good (ok : StatesOk z ss) {E : Ent} (h : Closed z ss E) : ∀ c v, look E c = some v → Good z ss c := by
  induction h with
  | nil =>
    intro c v h
    cases h
  | @snoc E c v m hE hn hm hr ih =>
    intro d w hd
    by_cases e : c = d
    · subst e
      exact (mv_ok ok hm).1
    · rw [look_other e] at hd
      exact ih d w hd
theorem ReadTo.good (ok : StatesOk z ss) {E : Ent} (cl : Closed z ss E) {r : Re} {m : List Nat × List Nat × Nat} {rest : List Nat} (h : ReadTo z ss E r m rest) : r.2.2.2 < ss.length ∧ ∀ d ∈ rest, d ∈ z.cps.toList := by
  obtain ⟨l, w, e1, e2, e3, e4, e5⟩ := h
  obtain ⟨_, x, y, _, _, ey, _, _, _, hy, hg⟩ := mv_ok ok e1
  refine ⟨rd_good (a := (m.1, m.2.2)) (cl.state ok) hg e4, fun d hd => ?_⟩
  refine allIn_mem hy d ?_
  rw [← ey, e2]
  exact List.mem_append_right _ hd
theorem Meas.congr {E : Ent} {O O' S : Cl → Prop} {row : List Re} (M : Meas z ss E O row S) (h : ∀ c, O c ↔ O' c) : Meas z ss E O' row S :=
  ⟨M.closed, M.stuck, fun c hc hn => M.opened c ((h c).2 hc) hn, fun c v e => (h c).1 (M.found c v e), fun r hr => ⟨(h _).1 (M.inRow r hr).1, (M.inRow r hr).2⟩, M.nodup⟩
end
end Lk
namespace Lk
open PySem PySem.Spec PyProof.Rows L2 G
section
variable {z : Str} {ss : List PyData}
/-- all calls, in their order -/
def callsOf (z : Str) (n : Nat) : List Cl := (List.range n).flatMap fun s => z.cps.toList.map fun c => (s, c)
theorem callsOf_mem {n : Nat} {c : Cl} : c ∈ callsOf z n ↔ c.1 < n ∧ c.2 ∈ z.cps.toList := by
  unfold callsOf
  rw [List.mem_flatMap]
  constructor
  · rintro ⟨s, hs, h⟩
    obtain ⟨d, hd, rfl⟩ := List.mem_map.1 h
    exact ⟨List.mem_range.1 hs, hd⟩
  · rintro ⟨h1, h2⟩
    exact ⟨c.1, List.mem_range.2 h1, List.mem_map.2 ⟨c.2, h2, rfl⟩⟩
theorem callsOf_len (z : Str) (n : Nat) : (callsOf z n).length = n * z.length := by
  unfold callsOf
  rw [List.length_flatMap]
  have e : (List.range n).map (fun s => (z.cps.toList.map fun c => ((s, c) : Cl)).length) = List.replicate n z.length := by
    rw [List.eq_replicate_iff]
    refine ⟨by rw [List.length_map, List.length_range], fun x hx => ?_⟩
    obtain ⟨s, _, rfl⟩ := List.mem_map.1 hx
    rw [List.length_map]
    simp [Str.length]
  rw [e, List.sum_replicate_nat]
theorem Closed.among (ok : StatesOk z ss) {E : Ent} (h : Closed z ss E) : Among (callsOf z ss.length) E := by
  induction h with
  | nil => exact ⟨fun _ h => (by cases h), .nil⟩
  | @snoc E c v m hE hn hm hr ih =>
    refine ⟨fun x hx => ?_, ?_⟩
    · rcases List.mem_append.1 hx with hx | hx
      · exact ih.1 x hx
      · obtain rfl := List.mem_singleton.1 hx
        exact callsOf_mem.2 (mv_ok ok hm).1
    · rw [List.map_append]
      refine List.nodup_append.2 ⟨ih.2, List.nodup_cons.2 ⟨fun x => (by cases x), .nil⟩, fun a ha b hb eab => ?_⟩
      have hbc : b = c := List.mem_singleton.1 hb
      rw [eab, hbc] at ha
      exact look_none hn ha
theorem calls_few (ok : StatesOk z ss) : (callsOf z ss.length).length ≤ 240 := by
  rw [callsOf_len]
  exact Nat.mul_le_mul ok.2.2.1 ok.1.small.2.1
theorem Closed.few (ok : StatesOk z ss) {E : Ent} (h : Closed z ss E) : E.length ≤ 240 := Nat.le_trans (h.among ok).len (calls_few ok)
theorem Meas.few (ok : StatesOk z ss) {E : Ent} {O S : Cl → Prop} {row : List Re} (M : Meas z ss E O row S) (g : ∀ r ∈ row, Good z ss r.1) : row.length ≤ 240 := by
  rw [← List.length_map (f := fun r : Re => r.1)]
  exact Nat.le_trans (sub_len M.nodup fun c hc => by
    obtain ⟨r, hr, rfl⟩ := List.mem_map.1 hc
    exact callsOf_mem.2 (g r hr)) (calls_few ok)
theorem Row.good (ok : StatesOk z ss) {E : Ent} {row : List Re} {c : Cl} (h : Row z ss E row c) : ∀ r ∈ row, Good z ss r.1 := by
  induction h with
  | nil => exact fun r hr => by cases hr
  | cons a _ ih =>
    intro x hx
    rcases List.mem_cons.1 hx with rfl | hx
    · obtain ⟨l, w, e1, _⟩ := a
      exact (mv_ok ok e1).1
    · exact ih x hx
/-- the data of a call's move -/
theorem move_is (ok : StatesOk z ss) {f : Str} {c : Cl} (h : Good z ss c) : ∃ (ms : List PyData) (l : PyData) (k : Nat) (rest : List Nat), ss[c.1]? = some (.tuple [.tuple ms, l]) ∧ Builtin.Str.occurrences z (Ls.one c.2) 0 z.length 1 = k :: rest ∧ ms[k]? = some (moveD z ss c.1 c.2) := by
  obtain ⟨ms, l, k, rest, e1, e2, e3, _⟩ := place_in ok h.1 h.2
  exact ⟨ms, l, k, rest, e1, e2, e3⟩
end
end Lk

/-! Calls as they lie, further: other places left out; the dict of opened calls. -/
namespace Lk
open PySem PySem.Spec PyProof.Rows L2 G
/-- no tuple lies there -/
def NoTup (H : Hp) (a : Addr) : Prop := ∀ xs, H a ≠ some (.tup xs)
theorem NoTup.dT {H : Hp} {a : Addr} {kvs : List (List Key × V)} (h : H a = some (.dT kvs)) : NoTup H a := fun xs e => by
  rw [h] at e
  cases e
theorem NoTup.lst {H : Hp} {a : Addr} {us : List V} (h : H a = some (.lst us)) : NoTup H a := fun xs e => by
  rw [h] at e
  cases e
theorem tup_off {H : Hp} {T : List Addr} {p : Addr} {xs : List V} (h : H p = some (.tup xs)) (n : ∀ a ∈ T, NoTup H a) : off T H p = some (.tup xs) := off_of (fun z => n p z xs h) h
theorem CallAt.any {S T : List Addr} {H : Hp} {p : Addr} {c : Cl} (h : CallAt (off S H) p c) (n : ∀ a ∈ T, NoTup H a) : CallAt (off T H) p c := tup_off (off_some h).2 n
theorem CallAt.out {T : List Addr} {H : Hp} {p : Addr} {c : Cl} (h : CallAt H p c) (n : ∀ a ∈ T, NoTup H a) : CallAt (off T H) p c := tup_off h n
theorem SzAt.any {S T : List Addr} {H : Hp} {v : V} {w : Wt} (h : SzAt (off S H) v w) (n : ∀ a ∈ T, NoTup H a) : SzAt (off T H) v w := by
  obtain ⟨p, e, h⟩ := h
  exact ⟨p, e, tup_off (off_some h).2 n⟩
theorem SzE.any {S T : List Addr} {H : Hp} {kvs : List (List Key × V)} {E : Ent} (h : SzE (off S H) kvs E) (n : ∀ a ∈ T, NoTup H a) : SzE (off T H) kvs E := by
  induction h with
  | nil => exact .nil
  | cons a _ ih => exact .cons (a.any n) ih
theorem Found.any {S T : List Addr} {H : Hp} {d : Addr} {E : Ent} (h : Found S H d E) (n : ∀ a ∈ T, NoTup H a) : Found T H d E := by
  obtain ⟨kvs, h1, h2⟩ := h
  exact ⟨kvs, h1, h2.any n⟩
theorem ReAt.any {S T : List Addr} {H : Hp} {v : V} {r : Re} (h : ReAt (off S H) v r) (n : ∀ a ∈ T, NoTup H a) : ReAt (off T H) v r := by
  obtain ⟨p, q, e, h1, h2⟩ := h
  exact ⟨p, q, e, tup_off (off_some h1).2 n, h2.any n⟩
theorem RowAt.any {S T : List Addr} {H : Hp} {xs : List V} {row : List Re} (h : RowAt (off S H) xs row) (n : ∀ a ∈ T, NoTup H a) : RowAt (off T H) xs row := by
  induction h with
  | nil => exact .nil
  | snoc _ a ih => exact .snoc ih (a.any n)
theorem RowL.any {S T : List Addr} {H : Hp} {l : Addr} {row : List Re} (h : RowL S H l row) (n : ∀ a ∈ T, NoTup H a) : RowL T H l row := by
  obtain ⟨xs, h1, h2⟩ := h
  exact ⟨xs, h1, h2.any n⟩
theorem Keep.drop {S T : List Addr} {H H1 H' : Hp} (s : Same H H1) (k : Keep T H1 H') (f : ∀ a ∈ T, a ∈ S ∨ H a = none) : Keep S H H' := fun b o e => by
  obtain ⟨n, e⟩ := off_some e
  refine off_of n (k.at_ (fun z => ?_) (s b o e))
  rcases f b z with h | h
  · exact n h
  · rw [h] at e
    cases e
theorem off_less {S T : List Addr} {H : Hp} (h : ∀ a ∈ S, a ∈ T) : Same (off T H) (off S H) := fun b o e => off_of (fun z => (off_some e).1 (h b z)) (off_some e).2
/-- the dict of opened calls -/
def Opened (H : Hp) (o : Addr) (OL : List Cl) : Prop := ∃ kvs : List (List Key × V), H o = some (.dT kvs) ∧ kvs.map (·.1) = OL.map ckey
theorem Opened.same {H H' : Hp} {o : Addr} {OL : List Cl} (h : Opened H o OL) (s : H' o = H o) : Opened H' o OL := by
  obtain ⟨kvs, h1, h2⟩ := h
  exact ⟨kvs, s.trans h1, h2⟩
theorem Opened.noTup {H : Hp} {o : Addr} {OL : List Cl} (h : Opened H o OL) : NoTup H o := by
  obtain ⟨kvs, h1, _⟩ := h
  exact .dT h1
theorem Found.noTup {S : List Addr} {H : Hp} {d : Addr} {E : Ent} (h : Found S H d E) : NoTup H d := by
  obtain ⟨kvs, h1, _⟩ := h
  exact .dT h1
theorem RowL.noTup {S : List Addr} {H : Hp} {l : Addr} {row : List Re} (h : RowL S H l row) : NoTup H l := by
  obtain ⟨us, h1, _⟩ := h
  exact .lst h1
theorem valV_key {kvs : List (List Key × V)} {k : List Key} : (valV kvs k).isSome = true ↔ k ∈ kvs.map (·.1) := by
  rw [← valV_any, List.any_eq_true, List.mem_map]
  constructor
  · rintro ⟨x, hx, e⟩
    exact ⟨x, hx, of_decide_eq_true e⟩
  · rintro ⟨x, hx, e⟩
    exact ⟨x, hx, decide_eq_true e⟩
theorem opened_get {kvs : List (List Key × V)} {OL : List Cl} (h : kvs.map (·.1) = OL.map ckey) (c : Cl) : (valV kvs (ckey c)).isSome = true ↔ c ∈ OL := by
  rw [valV_key, h, List.mem_map]
  constructor
  · rintro ⟨x, hx, e⟩
    exact ckey_inj e ▸ hx
  · exact fun h => ⟨c, h, rfl⟩
theorem opened_put {kvs : List (List Key × V)} {OL : List Cl} (h : kvs.map (·.1) = OL.map ckey) {c : Cl} (n : c ∉ OL) (v : V) : (putK kvs (ckey c) v).map (·.1) = (OL ++ [c]).map ckey := by
  have e : valV kvs (ckey c) = none := by
    cases e : valV kvs (ckey c) with
    | none => rfl
    | some x => exact absurd ((opened_get h c).1 (by rw [e]; rfl)) n
  rw [putK_new e, List.map_append, List.map_append, h]
  rfl
theorem opened_len {kvs : List (List Key × V)} {OL : List Cl} (h : kvs.map (·.1) = OL.map ckey) : kvs.length = OL.length := by
  rw [← List.length_map (f := fun kv : List Key × V => kv.1), h, List.length_map]
/-- calls, each once -/
def Calls (z : Str) (ss : List PyData) (OL : List Cl) : Prop := OL.Nodup ∧ ∀ c ∈ OL, Good z ss c
theorem Calls.few {z : Str} {ss : List PyData} {OL : List Cl} (ok : StatesOk z ss) (h : Calls z ss OL) : OL.length ≤ 240 :=
  Nat.le_trans (sub_len h.1 fun c hc => callsOf_mem.2 (h.2 c hc)) (calls_few ok)
theorem Calls.snoc {z : Str} {ss : List PyData} {OL : List Cl} {c : Cl} (h : Calls z ss OL) (n : c ∉ OL) (g : Good z ss c) : Calls z ss (OL ++ [c]) := by
  refine ⟨List.nodup_append.2 ⟨h.1, List.nodup_cons.2 ⟨fun x => (by cases x), .nil⟩, fun a ha b hb e => ?_⟩, fun x hx => ?_⟩
  · obtain rfl := List.mem_singleton.1 hb
    rw [e] at ha
    exact n ha
  · rcases List.mem_append.1 hx with hx | hx
    · exact h.2 x hx
    · obtain rfl := List.mem_singleton.1 hx
      exact g
end Lk

/-! Comprehensions with two walks of any kind; the list of all calls. -/
namespace Lk
open PySem PySem.Spec PyProof.Rows L2 G
section
variable {K : PySem.W.Frag} {D : Addr} {J : It} {n n1 : Nat} {Gd Gd1 : Hp → Prop} {Y Y1 : Nat → Hp → V → Hp → Prop} {g g1 : TG} {tt tt1 : TT} {wi1 : TI} {te : TE} {vs vs1 : List Nat} {σ σ2 : L2.St} {H1 H4 : Hp} {Qd Nx : Hp → Prop}
/-- the outer walk of two -/
theorem lc2_o (w : Walk J n Gd Y) (Pv : Nat → Hp → Prop) (h0 : Pv 0 (upd H1 D (.lst []))) (hG : ∀ i H, i ≤ n → Pv i H → Gd H)
    (hs : ∀ i x H H', i < n → Pv i H → Y i H x H' → g x (wipe σ vs) H' fun σ2 H2 => wipe σ2 vs = wipe σ vs ∧ tt σ2 H2 fun b H3 =>
      if b = true then wi1 σ2 H3 fun J1 H4 => ∃ W1 : Nat → Nat → Hp → Prop, (∃ m, W1 0 m H4) ∧ ∀ j k H, W1 j k H →
        (J1.stop j H ∧ Pv (i + 1) H) ∨ (J1.go j H ∧ ∃ Nx1 : Hp → Prop, (∀ H', Nx1 H' → ∃ k', k' < k ∧ W1 (j + 1) k' H') ∧ ∀ x H', J1.yld j H x H' → g1 x (wipe σ2 vs1) H' fun σ3 H5 => wipe σ3 vs1 = wipe σ2 vs1 ∧ tt1 σ3 H5 fun b H6 =>
          if b = true then te σ3 H6 fun y H7 => ∃ acc, H7 D = some (.lst acc) ∧ acc.length < sizeLine ∧ Nx1 (upd H7 D (.lst (acc ++ [y]))) else Nx1 H6)
      else Pv (i + 1) H3)
    (hd : ∀ H, Pv n H → Qd H) :
    ∃ W : Nat → Nat → Hp → Prop, (∃ m, W 0 m (upd H1 D (.lst []))) ∧ ∀ i m H, W i m H →
      (J.stop i H ∧ Qd H) ∨ (J.go i H ∧ ∃ Nx : Hp → Prop, (∀ H', Nx H' → ∃ m', m' < m ∧ W (i + 1) m' H') ∧ ∀ x H', J.yld i H x H' → g x (wipe σ vs) H' fun σ2 H2 => wipe σ2 vs = wipe σ vs ∧ tt σ2 H2 fun b H3 =>
        if b = true then wi1 σ2 H3 fun J1 H4 => ∃ W1 : Nat → Nat → Hp → Prop, (∃ m, W1 0 m H4) ∧ ∀ j k H, W1 j k H →
          (J1.stop j H ∧ Nx H) ∨ (J1.go j H ∧ ∃ Nx1 : Hp → Prop, (∀ H', Nx1 H' → ∃ k', k' < k ∧ W1 (j + 1) k' H') ∧ ∀ x H', J1.yld j H x H' → g1 x (wipe σ2 vs1) H' fun σ3 H5 => wipe σ3 vs1 = wipe σ2 vs1 ∧ tt1 σ3 H5 fun b H6 =>
            if b = true then te σ3 H6 fun y H7 => ∃ acc, H7 D = some (.lst acc) ∧ acc.length < sizeLine ∧ Nx1 (upd H7 D (.lst (acc ++ [y]))) else Nx1 H6)
        else Nx H3) := by
  refine ⟨fun i m H => m = n - i ∧ i ≤ n ∧ Pv i H, ⟨n, rfl, Nat.zero_le _, h0⟩, ?_⟩
  rintro i m H ⟨rfl, le, p⟩
  have q := hG i H le p
  by_cases lt : i < n
  · exact .inr ⟨w.goes i H lt q, Pv (i + 1), fun H' p' => ⟨_, by omega, rfl, lt, p'⟩, fun x H' y => hs i x H H' lt p (w.yields i H x H' lt q y)⟩
  · obtain rfl : i = n := by omega
    exact .inl ⟨w.stops H q, hd H p⟩
/-- the inner walk of two -/
theorem lc2_i (w : Walk J n1 Gd1 Y1) (Pw : Nat → Hp → Prop) (h0 : Pw 0 H4) (hG : ∀ j H, j ≤ n1 → Pw j H → Gd1 H)
    (hs : ∀ j y H H', j < n1 → Pw j H → Y1 j H y H' → g1 y (wipe σ2 vs1) H' fun σ3 H5 => wipe σ3 vs1 = wipe σ2 vs1 ∧ tt1 σ3 H5 fun b H6 =>
      if b = true then te σ3 H6 fun y H7 => ∃ acc, H7 D = some (.lst acc) ∧ acc.length < sizeLine ∧ Pw (j + 1) (upd H7 D (.lst (acc ++ [y]))) else Pw (j + 1) H6)
    (hd : ∀ H, Pw n1 H → Nx H) :
    ∃ W1 : Nat → Nat → Hp → Prop, (∃ m, W1 0 m H4) ∧ ∀ j k H, W1 j k H →
      (J.stop j H ∧ Nx H) ∨ (J.go j H ∧ ∃ Nx1 : Hp → Prop, (∀ H', Nx1 H' → ∃ k', k' < k ∧ W1 (j + 1) k' H') ∧ ∀ x H', J.yld j H x H' → g1 x (wipe σ2 vs1) H' fun σ3 H5 => wipe σ3 vs1 = wipe σ2 vs1 ∧ tt1 σ3 H5 fun b H6 =>
        if b = true then te σ3 H6 fun y H7 => ∃ acc, H7 D = some (.lst acc) ∧ acc.length < sizeLine ∧ Nx1 (upd H7 D (.lst (acc ++ [y]))) else Nx1 H6) := by
  refine ⟨fun j m H => m = n1 - j ∧ j ≤ n1 ∧ Pw j H, ⟨n1, rfl, Nat.zero_le _, h0⟩, ?_⟩
  rintro j m H ⟨rfl, le, p⟩
  have q := hG j H le p
  by_cases lt : j < n1
  · exact .inr ⟨w.goes j H lt q, Pw (j + 1), fun H' p' => ⟨_, by omega, rfl, lt, p'⟩, fun x H' y => hs j x H H' lt p (w.yields j H x H' lt q y)⟩
  · obtain rfl : j = n1 := by omega
    exact .inl ⟨w.stops H q, hd H p⟩
end
/-- calls as they lie -/
inductive CallsAt (H : Hp) : List V → List Cl → Prop
  | nil : CallsAt H [] []
  | cons {p : Addr} {c : Cl} {xs : List V} {cs : List Cl} : CallAt H p c → CallsAt H xs cs → CallsAt H (.ref p :: xs) (c :: cs)
theorem CallsAt.mono {H H' : Hp} {xs : List V} {cs : List Cl} (h : CallsAt H xs cs) (s : Same H H') : CallsAt H' xs cs := by
  induction h with
  | nil => exact .nil
  | cons a _ ih => exact .cons (s _ _ a) ih
theorem CallsAt.append {H : Hp} {xs ys : List V} {cs ds : List Cl} (h : CallsAt H xs cs) (k : CallsAt H ys ds) : CallsAt H (xs ++ ys) (cs ++ ds) := by
  induction h with
  | nil => exact k
  | cons a _ ih => exact .cons a ih
theorem CallsAt.len {H : Hp} {xs : List V} {cs : List Cl} (h : CallsAt H xs cs) : xs.length = cs.length := by
  induction h with
  | nil => rfl
  | cons _ _ ih => exact congrArg (· + 1) ih
theorem CallsAt.get {H : Hp} {xs : List V} {cs : List Cl} (h : CallsAt H xs cs) {i : Nat} {x : V} (e : xs[i]? = some x) : ∃ p c, x = .ref p ∧ cs[i]? = some c ∧ CallAt H p c := by
  induction h generalizing i with
  | nil => cases e
  | @cons p c xs cs a _ ih =>
    cases i with
    | zero =>
      cases e
      exact ⟨p, c, rfl, rfl, a⟩
    | succ i => exact ih e
theorem callsOf_succ (z : Str) (n : Nat) : callsOf z (n + 1) = callsOf z n ++ z.cps.toList.map fun c => (n, c) := by
  unfold callsOf
  rw [List.range_succ, List.flatMap_append]
  simp
theorem take_snoc {l : List Nat} {j c : Nat} (h : l[j]? = some c) : l.take (j + 1) = l.take j ++ [c] := by
  rw [List.take_add_one, h]
  rfl
end Lk

/-! The values of a dict whose keys are tuples, walked. -/
namespace Lk
open PySem PySem.Spec PyProof.Rows L2 G
section
variable {X : Cx} {pins : List (Addr × Obj)} {σ : L2.St} {H : Hp} {s : Shared} {d : Addr} {o : Obj}
/-- a locked dict with pairs as keys: its entries' values -/
theorem frz_vals {kvs : List (List Key × V)} (I : Inv X pins σ H s) (fz : H d = some (.frz o (.dT kvs))) :
    (d == sysModules) = false ∧ ∃ (es : Array DictEntry) (ep : Nat), s.heap.DictRaw d es ep ∧ o.data = .dict es ep ∧ es.size = kvs.length ∧ ∀ (i : Nat) (lt : i < es.size) (kv : List Key × V), kvs[i]? = some kv → RelV kv.2 es[i].val := by
  obtain ⟨at_, _, sm, xs, pr, o', es, ep, at2, ex, dt, en, _⟩ := I.hok d _ fz
  rw [at_] at at2
  cases at2
  have z1 : es.size = xs.length := size_of_entries en
  refine ⟨sm, es, ep, ⟨o, at_, ex, dt⟩, dt, z1.trans (Paired.length pr).symm, fun i lt kv e => ?_⟩
  obtain ⟨b, eb, _, _, rv⟩ := paired_get pr e
  have q := entry_at en i
  rw [eb, Array.getElem?_eq_getElem lt] at q
  have q := Option.some.inj q
  rw [q]
  exact rv
end
/-- the values of a locked dict with pairs as keys -/
def Itdt (d : Addr) (o : Obj) (kvs : List (List Key × V)) : It where
  go := fun i H => H d = some (.frz o (.dT kvs)) ∧ i < kvs.length
  yld := fun i H x H' => H' = H ∧ ∃ k, kvs[i]? = some (k, x)
  stop := fun i H => H d = some (.frz o (.dT kvs)) ∧ kvs.length ≤ i
section
variable {P : Program} {w : World} {K : PySem.W.Frag} {tg : Expr} {d : Addr} {o : Obj} {es : Array DictEntry} {ep : Nat}
theorem turn_valsT {kvs : List (List Key × V)} (it : Addr) (od : o.data = .dict es ep) : Turn P w K tg (Itdt d o kvs) [it] it fun i h => h.IsValIter it d i kvs.length ep where
  mem := List.mem_singleton.2 rfl
  obj := fun i h ⟨oi, e, c, dd⟩ b hb => by
    rw [List.mem_singleton.1 hb]
    exact ⟨oi, e, fun v z => by rw [dd] at z; cases z⟩
  keep := fun i h h' st k => st.at fun oi e => k it (List.mem_singleton.2 rfl) oi e
  item := by
    intro X e1 e2 e3 cm i pins s σ H E I hf st ⟨fz, lt⟩
    subst e1 e2 e3
    obtain ⟨f0, f1, _, f3, f4, f5⟩ := hf it (List.mem_singleton.2 rfl)
    obtain ⟨sm, es', ep', raw, dt, sz, vals⟩ := frz_vals I fz
    obtain ⟨rfl, rfl⟩ := dict_ep od dt
    have lt' : i < es'.size := by omega
    have ek : kvs[i]? = some kvs[i] := List.getElem?_eq_getElem lt
    have rv := vals i lt' _ ek
    rw [← sz] at st
    refine wpAny_pyNext_values_item_raw st raw lt' fun h' st' sb => ?_
    have I1 : Inv X pins σ H { s with heap := h' } := I.turned (t' := s.toks) (fun b ob nb e => (sb.2 b nb).trans e) f0 f1 f3 f4 f5
    obtain ⟨oi, e, c, dd⟩ := id st'
    refine ⟨_, rfl, go_of (s := { s with heap := h' }) e c dd (by decide) ⟨kvs[i].2, H, I1, rv, ⟨rfl, kvs[i].1, ek⟩, ?_, fun b hb => (hf b hb).1⟩⟩
    show h'.IsValIter it d (i + 1) kvs.length _
    rw [← sz]
    exact st'
  done := by
    intro X e1 e2 e3 cm i pins s σ H E I hf st ⟨fz, ge⟩
    subst e1 e2 e3
    obtain ⟨f0, f1, _, f3, f4, f5⟩ := hf it (List.mem_singleton.2 rfl)
    obtain ⟨sm, es', ep', raw, dt, sz, vals⟩ := frz_vals I fz
    obtain ⟨rfl, rfl⟩ := dict_ep od dt
    rw [← sz] at st ge
    exact wpAny_pyNext_values_end_raw (I.ok.hd cm) st raw ge fun h' eb => ⟨rfl, I.turned (t' := s.toks) (fun b ob nb e => eb b ob nb e) f0 f1 f3 f4 f5⟩
  self := fun A i s Q E st h => wpAny_pyIter_valiter st h
end
def iValsT (td : TE) : TI := fun σ H R => td σ H fun x H1 => ∃ d o kvs, x = .ref d ∧ H1 d = some (.frz o (.dT kvs)) ∧ R (Itdt d o kvs) H1
theorem walk_valuesT {d : Addr} {o : Obj} {kvs : List (List Key × V)} : Walk (Itdt d o kvs) kvs.length (fun H => H d = some (.frz o (.dT kvs))) (fun i H x H' => H' = H ∧ ∃ k, kvs[i]? = some (k, x)) :=
  ⟨fun _ _ lt fz => ⟨fz, lt⟩, fun _ fz => ⟨fz, Nat.le_refl _⟩, fun _ _ _ _ _ _ y => y⟩
section
variable {X : Cx} {tg e : Expr} {td : TE} {apos cpos : Pos}
theorem pi_valuesT (he : PE X e td) (b1 : attributeBase e "values" X.env (eval e X.env) = eval e X.env := by rfl) (b2 : (apos.endLine == cpos.line) = true := by rfl) : PI X tg (.Call (.Attribute e "values" apos) [] [] cpos) (iValsT td) := by
  constructor
  intro pins s σ H R I h
  refine wpAny_Call_method (T := "dict") (id := "dict.values") b1 rfl b2 F.plainAttrs_dict F.slot_dict_values F.type_dict_values (thn (he.run pins s σ H _ I h) fun u s1 got => ?_)
  obtain ⟨x, H1, I1, rx, d, o, kvs, ex, fz, q⟩ := got
  subst ex
  obtain rfl : u = Value.ref d := rx
  obtain ⟨sm, es, ep, raw, dt, sz, _⟩ := frz_vals I1 fz
  have nod : ∀ b, Value.ref d = .ref b → ∃ ob, s1.heap.get? b = some ob ∧ ob.dict = none := fun b e => by
    cases e
    obtain ⟨ob, h1, h2, _⟩ := id raw
    exact ⟨ob, h1, h2.2.1⟩
  refine ⟨raw.typeIs, nod, ?_⟩
  have I2 : Inv X pins σ H1 { s1 with heap := s1.heap.push { cls := .type "dict_values", data := .fields #[.ref d] } } := I1.kept (t' := s1.toks) fun _ _ e => Heap.get?_push_of_some _ e
  have raw2 : (s1.heap.push { cls := .type "dict_values", data := .fields #[.ref d] }).DictRaw d es ep := raw.at fun _ e => Heap.get?_push_of_some _ e
  refine method_meetsIn F.slot_dict_values F.entry_dict_values rfl (PySem.evalArgs_none ⟨rfl, raw.typeIs, F.args_dict_values_1 _, _, meets_dict_values_raw d sm, ⟨es, ep, raw⟩, ?_⟩)
  refine wpAny_pyIter_values_raw (d := d) (es := es) (ep := ep) ⟨_, Heap.get?_push_size _ rfl, rfl, rfl⟩ raw2 (pi_one (tk := s1.toks) I2 _ (turn_valsT _ dt) ⟨_, Heap.get?_push_size _ rfl, rfl, ?_⟩ q)
  rw [sz] <;> rfl
end
end Lk

/-! Values of calls as they lie; TooMany raised. -/
namespace Lk
open PySem PySem.Spec PyProof.Rows L2 G
section
variable {z : Str} {ss : List PyData}
/-- each entry stands behind those that it needs -/
theorem Closed.at_ {E : Ent} (h : Closed z ss E) : ∀ {i : Nat} {c : Cl} {v : Wt}, E[i]? = some (c, v) → ∃ m, look (E.take i) c = none ∧ mv z ss c = some m ∧ rd (look (E.take i)) m.2.1 (m.1, m.2.2) = some v := by
  induction h with
  | nil =>
    intro i c v e
    cases e
  | @snoc E c v m hE hn hm hr ih =>
    intro i d w e
    by_cases lt : i < E.length
    · rw [List.getElem?_append_left lt] at e
      rw [List.take_append_of_le_length (Nat.le_of_lt lt)]
      exact ih e
    · rw [List.getElem?_append_right (Nat.le_of_not_lt lt)] at e
      have e0 : i - E.length = 0 := by
        cases q : i - E.length with
        | zero => rfl
        | succ k =>
          rw [q] at e
          cases e
      rw [e0] at e
      cases e
      have ei : i = E.length := by omega
      subst ei
      rw [List.take_left' rfl]
      exact ⟨m, hn, hm, hr⟩
theorem take_entry {E : Ent} {i : Nat} {e : Cl × Wt} (h : E[i]? = some e) : E.take (i + 1) = E.take i ++ [e] := by
  rw [List.take_add_one, h]
  rfl
theorem Closed.lookup {E : Ent} (ok : StatesOk z ss) (h : Closed z ss E) {e : Cl × Wt} (he : e ∈ E) : look E e.1 = some e.2 := by
  induction h with
  | nil => cases he
  | @snoc E c v m hE hn hm hr ih =>
    rcases List.mem_append.1 he with h | h
    · exact look_more (ih h)
    · obtain rfl := List.mem_singleton.1 h
      exact look_new hn
end
/-- the pair of a word and a state -/
def VlAt (H : Hp) (v : V) (w : Wt) : Prop := ∃ p, v = .ref p ∧ H p = some (.tup [.str (tx w.1), .int (w.2 : Int)])
theorem VlAt.mono {H H' : Hp} {v : V} {w : Wt} (h : VlAt H v w) (s : Same H H') : VlAt H' v w := by
  obtain ⟨p, e, h⟩ := h
  exact ⟨p, e, s _ _ h⟩
theorem VlAt.any {S T : List Addr} {H : Hp} {v : V} {w : Wt} (h : VlAt (off S H) v w) (n : ∀ a ∈ T, NoTup H a) : VlAt (off T H) v w := by
  obtain ⟨p, e, h⟩ := h
  exact ⟨p, e, tup_off (off_some h).2 n⟩
/-- entries of a dict of values -/
inductive VlE (H : Hp) : List (List Key × V) → Ent → Prop
  | nil : VlE H [] []
  | cons {c : Cl} {w : Wt} {v : V} {kvs : List (List Key × V)} {E : Ent} : VlAt H v w → VlE H kvs E → VlE H ((ckey c, v) :: kvs) ((c, w) :: E)
theorem VlE.mono {H H' : Hp} {kvs : List (List Key × V)} {E : Ent} (h : VlE H kvs E) (s : Same H H') : VlE H' kvs E := by
  induction h with
  | nil => exact .nil
  | cons a _ ih => exact .cons (a.mono s) ih
theorem VlE.any {S T : List Addr} {H : Hp} {kvs : List (List Key × V)} {E : Ent} (h : VlE (off S H) kvs E) (n : ∀ a ∈ T, NoTup H a) : VlE (off T H) kvs E := by
  induction h with
  | nil => exact .nil
  | cons a _ ih => exact .cons (a.any n) ih
theorem VlE.get {H : Hp} {kvs : List (List Key × V)} {E : Ent} (h : VlE H kvs E) (d : Cl) : (∃ v w, valV kvs (ckey d) = some v ∧ look E d = some w ∧ VlAt H v w) ∨ (valV kvs (ckey d) = none ∧ look E d = none) := by
  induction h with
  | nil => exact .inr ⟨rfl, rfl⟩
  | @cons c w v kvs E a _ ih =>
    rw [look_cons]
    by_cases e : c = d
    · subst e
      exact .inl ⟨v, w, valV_pos rfl, if_pos rfl, a⟩
    · rw [if_neg e, valV_neg (fun z => e (ckey_inj z))]
      exact ih
theorem VlE.snoc {H : Hp} {kvs : List (List Key × V)} {E : Ent} {c : Cl} {v : V} {w : Wt} (h : VlE H kvs E) (a : VlAt H v w) : VlE H (kvs ++ [(ckey c, v)]) (E ++ [(c, w)]) := by
  induction h with
  | nil => exact .cons a .nil
  | cons b _ ih => exact .cons b ih
theorem VlE.put {H : Hp} {kvs : List (List Key × V)} {E : Ent} {c : Cl} {v : V} {w : Wt} (h : VlE H kvs E) (n : look E c = none) (a : VlAt H v w) : VlE H (putK kvs (ckey c) v) (E ++ [(c, w)]) := by
  rcases h.get c with ⟨_, _, _, e, _⟩ | ⟨e, _⟩
  · rw [n] at e
    cases e
  · rw [putK_new e]
    exact h.snoc a
theorem VlE.len {H : Hp} {kvs : List (List Key × V)} {E : Ent} (h : VlE H kvs E) : kvs.length = E.length := by
  induction h with
  | nil => rfl
  | cons _ _ ih => exact congrArg (· + 1) ih
/-- a dict of calls' values -/
def ValD (S : List Addr) (H : Hp) (d : Addr) (E : Ent) : Prop := ∃ kvs, H d = some (.dT kvs) ∧ VlE (off S H) kvs E
theorem ValD.keep {S : List Addr} {H H' : Hp} {d : Addr} {E : Ent} (h : ValD S H d E) (k : Keep S H H') (e : H' d = H d) : ValD S H' d E := by
  obtain ⟨kvs, h1, h2⟩ := h
  exact ⟨kvs, e.trans h1, h2.mono k⟩
theorem ValD.same {S : List Addr} {H H' : Hp} {d : Addr} {E : Ent} (h : ValD S H d E) (s : Same H H') : ValD S H' d E := by
  obtain ⟨kvs, h1, h2⟩ := h
  exact ⟨kvs, s _ _ h1, h2.mono (Keep.of s)⟩
theorem ValD.any {S T : List Addr} {H : Hp} {d : Addr} {E : Ent} (h : ValD S H d E) (n : ∀ a ∈ T, NoTup H a) : ValD T H d E := by
  obtain ⟨kvs, h1, h2⟩ := h
  exact ⟨kvs, h1, h2.any n⟩
theorem ValD.noTup {S : List Addr} {H : Hp} {d : Addr} {E : Ent} (h : ValD S H d E) : NoTup H d := by
  obtain ⟨kvs, h1, _⟩ := h
  exact .dT h1
theorem SzE.at_ {H : Hp} {kvs : List (List Key × V)} {E : Ent} (h : SzE H kvs E) : ∀ {i : Nat} {kv : List Key × V}, kvs[i]? = some kv → ∃ c w, E[i]? = some (c, w) ∧ kv.1 = ckey c ∧ SzAt H kv.2 w := by
  induction h with
  | nil =>
    intro i kv e
    cases e
  | @cons c w v kvs E a _ ih =>
    intro i kv e
    cases i with
    | zero =>
      cases e
      exact ⟨c, w, rfl, rfl, a⟩
    | succ i => exact ih e
/-- __init__ of an error with one field; its dict is new -/
def spInit1R (K : PySem.W.Frag) (C : Addr) (f : Str) : Sp := fun vs H Q _ => ∃ (a : Addr) (v : V), vs = [.ref a, v] ∧ H a = some (exo a C none) ∧
  ∀ (H' : Hp) (d : Addr), But a H H' → H' a = some (exo a C (some d)) → H' d = some (exd d [(f, v)]) → H d = none → Q .non H'
/-- TooMany is wished for -/
def tooManyE (C : Addr) (E : XK) (H : Hp) (n : Int) : Prop := ∀ (H' : Hp) (d : Addr), Same H H' → H' d = some (.xd [("limit", .int n)]) → E (.ref C) (some d) H'
theorem tooManyE.mono {C : Addr} {E : XK} {H H1 : Hp} {n : Int} (h : tooManyE C E H n) (s : Same H H1) : tooManyE C E H1 n := fun H' d s' => h H' d (Same.trans s s')
theorem raise1_out {K : PySem.W.Frag} {C : Addr} {E : XK} {H : Hp} {n : Int} (k : tooManyE C E H n) :
    [V.int n].length ≤ 1000 ∧ ∀ a, H a = none → spInit1R K C "limit" (.ref a :: ([V.int n] ++ [])) (upd H a (exo a C none))
      (fun v H2 => v = .non ∧ ∃ (d : Addr) (fs : List (Str × V)), H2 a = some (exo a C (some d)) ∧ H2 d = some (exd d fs) ∧ H d = none ∧ E (.ref C) (some d) (upd (del H2 a) d (.xd fs))) (fun _ _ _ => False) := by
  refine ⟨(by show 1 ≤ 1000; decide), fun a na => ?_⟩
  refine ⟨a, .int n, rfl, upd_same, fun H2 d bt ha hd fd => ?_⟩
  have nda : d ≠ a := fun e => by
    rw [e, upd_same] at fd
    cases fd
  have fd' : H d = none := (upd_ne nda).symm.trans fd
  refine ⟨rfl, d, _, ha, hd, fd', k _ d (fun b o e => ?_) upd_same⟩
  have ba : b ≠ a := ne_of_none e na
  rw [upd_ne (ne_of_none e fd'), del_ne ba]
  exact bt b o ba ((upd_ne ba).trans e)
end Lk
namespace Lk
open PySem PySem.Spec PyProof.Rows L2 G
theorem rd_more {f : Cl → Option Wt} : ∀ {l : List Nat} {a b : Wt}, rd f l a = some b → ∃ u, b.1 = a.1 ++ u
  | [], a, b, h => by
    cases h
    exact ⟨[], (List.append_nil _).symm⟩
  | d :: l, a, b, h => by
    obtain ⟨v, e1, e2⟩ := rd_cons h
    obtain ⟨u, e⟩ := rd_more e2
    exact ⟨v.1 ++ u, by rw [e, List.append_assoc]⟩
/-- a reading that comes to its end, told up to a place -/
theorem rd_at {f : Cl → Option Wt} {l : List Nat} {a b c : Wt} {j d : Nat} (h : rd f l a = some b) (hj : l[j]? = some d) (hc : rd f (l.take j) a = some c) :
    ∃ v, f (c.2, d) = some v ∧ rd f (l.take (j + 1)) a = some (c.1 ++ v.1, v.2) ∧ (c.1 ++ v.1).length ≤ b.1.length := by
  have lt : j < l.length := (List.getElem?_eq_some_iff.mp hj).1
  have e : l = l.take j ++ d :: l.drop (j + 1) := by
    have e1 : l[j] = d := (List.getElem?_eq_some_iff.mp hj).2
    rw [← e1, List.getElem_cons_drop, List.take_append_drop]
  rw [e, rd_append, hc] at h
  obtain ⟨v, e1, e2⟩ := rd_cons (show rd f (d :: l.drop (j + 1)) c = some b from h)
  refine ⟨v, e1, ?_, ?_⟩
  · rw [take_snoc hj, rd_append, hc]
    show rd f [d] c = _
    rw [rd_some e1]
    rfl
  · obtain ⟨u, eu⟩ := rd_more e2
    rw [eu]
    show (c.1 ++ v.1).length ≤ (c.1 ++ v.1 ++ u).length
    rw [List.length_append (bs := u)]
    exact Nat.le_add_right _ _
/-- a place is locked and opened again -/
theorem Keep.unlock {d : Addr} {H H' : Hp} {u : HO} (h : H d = some u) (k : Keep [d] H H') : Same H (upd H' d u) := fun b o e => by
  by_cases z : b = d
  · rw [z, upd_same, ← h, ← z]
    exact e
  · rw [upd_ne z]
    exact k.at_ (fun w => z (List.mem_singleton.1 w)) e
theorem sum_cat (ps : List Str) : (ps.map (·.length)).sum = (catS ps).length := by
  unfold catS
  induction ps with
  | nil => rfl
  | cons p r ih =>
    rw [List.map_cons, List.sum_cons, ih, List.map_cons, List.flatten_cons, List.length_append]
    simp [Str.length]
theorem cat_snoc (ps : List Str) (l : List Nat) : catS (ps ++ [tx l]) = catS ps ++ l := by
  unfold catS
  rw [List.map_append, List.flatten_append]
  simp
end Lk

/-! Values told of calls; threads. -/
namespace Lk
open PySem PySem.Spec PyProof.Rows L2 G
section
variable {z : Str} {ss : List PyData}
open Classical in
/-- a call's value, or none -/
noncomputable def valOf (z : Str) (ss : List PyData) (c : Cl) : Option Wt := if h : ∃ w, Val z ss c w then some h.choose else none
theorem valOf_some {c : Cl} {w : Wt} : valOf z ss c = some w ↔ Val z ss c w := by
  unfold valOf
  split
  · rename_i h
    constructor
    · intro e
      rw [← Option.some.inj e]
      exact h.choose_spec
    · intro hw
      rw [h.choose_spec.det hw]
  · rename_i h
    exact ⟨fun e => (by cases e), fun hw => absurd ⟨w, hw⟩ h⟩
theorem valOf_none {c : Cl} : valOf z ss c = none ↔ ∀ w, ¬ Val z ss c w := by
  constructor
  · intro e w hw
    rw [valOf_some.2 hw] at e
    cases e
  · intro h
    cases e : valOf z ss c with
    | none => rfl
    | some w => exact absurd (valOf_some.1 e) (h w)
theorem Val.good (ok : StatesOk z ss) {c : Cl} {w : Wt} (h : Val z ss c w) : Good z ss c := by
  obtain ⟨n, hn⟩ := h
  cases n with
  | zero => cases hn
  | succ n =>
    cases em : mv z ss c with
    | none =>
      rw [ev_stop em] at hn
      cases hn
    | some m => exact (mv_ok ok em).1
/-- what is found of all calls -/
theorem look_all (ok : StatesOk z ss) {E : Ent} (cl : Closed z ss E) (all : ∀ c, Good z ss c → ∀ w, Val z ss c w ↔ look E c = some w) : look E = valOf z ss := funext fun c => by
  cases e : valOf z ss c with
  | some w =>
    have hw := valOf_some.1 e
    exact (all c (hw.good ok) w).1 hw
  | none =>
    cases e1 : look E c with
    | none => rfl
    | some w => exact absurd (cl.val c w e1) (valOf_none.1 e w)
/-- the first call without a value that a back is read by -/
def stuckAt (f : Cl → Option Wt) : List Nat → Nat → Option Cl
  | [], _ => none
  | d :: r, g => match f (g, d) with
    | some v => stuckAt f r v.2
    | none => some (g, d)
def nxt (z : Str) (ss : List PyData) (f : Cl → Option Wt) (c : Cl) : Option Cl := match mv z ss c with
  | none => none
  | some m => stuckAt f m.2.1 m.2.2
theorem stuckAt_some {f : Cl → Option Wt} {d g : Nat} {r : List Nat} {v : Wt} (h : f (g, d) = some v) : stuckAt f (d :: r) g = stuckAt f r v.2 := by
  show (match f (g, d) with | some v => stuckAt f r v.2 | none => some (g, d)) = _
  rw [h]
theorem stuckAt_none {f : Cl → Option Wt} {d g : Nat} {r : List Nat} (h : f (g, d) = none) : stuckAt f (d :: r) g = some (g, d) := by
  show (match f (g, d) with | some v => stuckAt f r v.2 | none => some (g, d)) = _
  rw [h]
/-- a call without a value is read to no end -/
theorem rd_not {c : Cl} {m : List Nat × List Nat × Nat} (hm : mv z ss c = some m) (hn : valOf z ss c = none) : rd (valOf z ss) m.2.1 (m.1, m.2.2) = none := by
  cases e : rd (valOf z ss) m.2.1 (m.1, m.2.2) with
  | none => rfl
  | some w => exact absurd (Val.of (fun c v h => valOf_some.1 h) hm e) (valOf_none.1 hn w)
theorem rd_none_at {f : Cl → Option Wt} : ∀ {l : List Nat} {a b : Wt}, a.2 = b.2 → rd f l a = none → rd f l b = none
  | [], a, b, _, h => by cases h
  | d :: l, a, b, e, h => by
    cases e1 : f (a.2, d) with
    | none => exact rd_none (by rw [← e]; exact e1)
    | some v =>
      rw [rd_some e1] at h
      rw [rd_some (by rw [← e]; exact e1)]
      exact rd_none_at (a := (a.1 ++ v.1, v.2)) rfl h
/-- the row of calls that wait for one another, from a call on -/
def thr (z : Str) (ss : List PyData) (f : Cl → Option Wt) : Nat → List Cl → Option Cl → List Cl
  | _, row, none => row
  | 0, row, some _ => row
  | n + 1, row, some c => if c ∈ row then row ++ [c] else thr z ss f n (row ++ [c]) (nxt z ss f c)
/-- a call's thread -/
noncomputable def threadOf (z : Str) (ss : List PyData) (c : Cl) : List Cl := match valOf z ss c with
  | some _ => []
  | none => thr z ss (valOf z ss) 241 [] (some c)
def kindT (z : Str) (ss : List PyData) (T : List Cl) : Str := match T.getLast? with
  | some c => match mv z ss c with | none => "breaks" | some _ => "endless"
  | none => "endless"
def callD (c : Cl) : PyData := .tuple [.int (c.1 : Int), .str (Ls.one c.2)]
theorem callD_eqb (ok : StatesOk z ss) {c : Cl} (h : Good z ss c) : Eqb 1 (callD c) := by
  refine .tup (n := 0) fun d hd => ?_
  simp only [List.mem_cons, List.not_mem_nil, or_false] at hd
  rcases hd with rfl | rfl
  · exact .int _
  · refine .str fun x hx => ?_
    have e : x = c.2 := by
      have hx : x ∈ (tx [c.2]).cps.toList := hx
      rw [tx_codes] at hx
      exact List.mem_singleton.1 hx
    rw [e]
    exact ok.1.small.2.2 _ h.2
theorem callD_inj {c d : Cl} (h : callD c = callD d) : c = d := by
  unfold callD at h
  injection h with h
  injection h with h1 h2
  injection h2 with h2 _
  injection h1 with h1
  injection h2 with h2
  exact Prod.ext (Int.ofNat.inj h1) (one_inj h2)
theorem callD_eqv (c d : Cl) : PyData.eqv (callD c) (callD d) = decide (c = d) := by
  unfold callD
  simp only [PyData.eqv, PyData.eqvAll, Bool.and_true]
  by_cases h : c = d
  · subst h
    simp
  · rw [decide_eq_false h]
    by_cases h1 : c.1 = d.1
    · by_cases h2 : c.2 = d.2
      · exact absurd (Prod.ext h1 h2) h
      · have : Ls.one c.2 ≠ Ls.one d.2 := fun e => h2 (one_inj e)
        simp [this]
    · have : ¬ ((c.1 : Int) = (d.1 : Int)) := fun e => h1 (Int.ofNat.inj e)
      simp [this]
theorem calls_any (c : Cl) (row : List Cl) : ((row.map callD).any fun d => PyData.eqv d (callD c)) = decide (c ∈ row) := by
  induction row with
  | nil => simp
  | cons d r ih =>
    rw [List.map_cons, List.any_cons, ih, callD_eqv]
    by_cases h : c = d
    · subst h
      simp
    · have : d ≠ c := fun e => h e.symm
      simp [h, this]
theorem CallAt.dq {K : PySem.W.Frag} {H : Hp} {p : Addr} {c : Cl} (h : CallAt H p c) : Dq K H (.ref p) (callD c) := .tup (SqT.of h) (.cons (.int _) (.cons (.str _) .nil))
theorem CallsAt.dq {K : PySem.W.Frag} {H : Hp} {xs : List V} {cs : List Cl} (h : CallsAt H xs cs) : DqAll K H xs (cs.map callD) := by
  induction h with
  | nil => exact .nil
  | cons a _ ih => exact .cons a.dq ih
end
end Lk
namespace Lk
open PySem PySem.Spec PyProof.Rows L2 G
theorem units65 {k : Nat} {A : Around} (r : Room k A) : A.units + 65 < cLine := by
  have := r.un
  omega
end Lk
namespace Lk
open PySem PySem.Spec PyProof.Rows L2 G
section
variable {z : Str} {ss : List PyData}
theorem valOf_state (ok : StatesOk z ss) {c : Cl} {v : Wt} (h : valOf z ss c = some v) : v.2 < ss.length := by
  obtain ⟨n, hn⟩ := valOf_some.1 h
  clear h
  induction n generalizing c v with
  | zero => cases hn
  | succ n ih =>
    cases em : mv z ss c with
    | none =>
      rw [ev_stop em] at hn
      cases hn
    | some m =>
      rw [ev_step em] at hn
      obtain ⟨_, _, _, _, _, _, _, _, _, _, hg⟩ := mv_ok ok em
      exact rd_good (a := (m.1, m.2.2)) (fun c v h => ih h) hg hn
theorem stuckAt_good (ok : StatesOk z ss) : ∀ {l : List Nat} {g : Nat} {e : Cl}, g < ss.length → (∀ d ∈ l, d ∈ z.cps.toList) → stuckAt (valOf z ss) l g = some e → Good z ss e
  | [], g, e, _, _, h => by cases h
  | d :: l, g, e, hg, hl, h => by
    cases e1 : valOf z ss (g, d) with
    | none =>
      rw [stuckAt_none e1] at h
      cases h
      exact ⟨hg, hl d List.mem_cons_self⟩
    | some v =>
      rw [stuckAt_some e1] at h
      exact stuckAt_good ok (valOf_state ok e1) (fun x hx => hl x (List.mem_cons_of_mem _ hx)) h
theorem nxt_good (ok : StatesOk z ss) {c e : Cl} (h : nxt z ss (valOf z ss) c = some e) : Good z ss e := by
  unfold nxt at h
  cases em : mv z ss c with
  | none =>
    rw [em] at h
    cases h
  | some m =>
    rw [em] at h
    obtain ⟨_, x, y, _, _, ey, _, _, _, ay, hg⟩ := mv_ok ok em
    exact stuckAt_good ok hg (fun d hd => allIn_mem ay d (by rw [← ey]; exact hd)) h
theorem thr_parts (ok : StatesOk z ss) : ∀ (n : Nat) (row : List Cl) (cur : Option Cl), (∀ x ∈ row, Good z ss x) → (∀ x, cur = some x → Good z ss x) → (∀ x ∈ thr z ss (valOf z ss) n row cur, Good z ss x) ∧ ∃ u, thr z ss (valOf z ss) n row cur = row ++ u
  | n, row, none, h, _ => by
    have e : thr z ss (valOf z ss) n row none = row := by cases n <;> rfl
    rw [e]
    exact ⟨h, [], (List.append_nil _).symm⟩
  | 0, row, some c, h, _ => ⟨h, [], (List.append_nil _).symm⟩
  | n + 1, row, some c, h, k => by
    have h2 : ∀ x ∈ row ++ [c], Good z ss x := fun x hx => by
      rcases List.mem_append.1 hx with hx | hx
      · exact h x hx
      · obtain rfl := List.mem_singleton.1 hx
        exact k _ rfl
    show (∀ x ∈ (if c ∈ row then row ++ [c] else thr z ss (valOf z ss) n (row ++ [c]) (nxt z ss (valOf z ss) c)), Good z ss x) ∧ ∃ u, (if c ∈ row then row ++ [c] else thr z ss (valOf z ss) n (row ++ [c]) (nxt z ss (valOf z ss) c)) = row ++ u
    by_cases hin : c ∈ row
    · rw [if_pos hin]
      exact ⟨h2, [c], rfl⟩
    · rw [if_neg hin]
      obtain ⟨h3, u, h4⟩ := thr_parts ok n (row ++ [c]) (nxt z ss (valOf z ss) c) h2 fun x e => nxt_good ok e
      exact ⟨h3, [c] ++ u, by rw [h4, List.append_assoc]⟩
theorem threadOf_last (ok : StatesOk z ss) {c : Cl} (gc : Good z ss c) (h : valOf z ss c = none) : ∃ xs e, threadOf z ss c = xs ++ [e] ∧ Good z ss e := by
  unfold threadOf
  rw [h]
  show ∃ xs e, (if c ∈ [] then [] ++ [c] else thr z ss (valOf z ss) 240 ([] ++ [c]) (nxt z ss (valOf z ss) c)) = xs ++ [e] ∧ Good z ss e
  rw [if_neg (fun h => by cases h)]
  obtain ⟨h3, u, h4⟩ := thr_parts ok 240 ([] ++ [c]) (nxt z ss (valOf z ss) c) (fun x hx => by
    obtain rfl := List.mem_singleton.1 hx
    exact gc) fun x e => nxt_good ok e
  have ne : thr z ss (valOf z ss) 240 ([] ++ [c]) (nxt z ss (valOf z ss) c) ≠ [] := fun e => by
    rw [e] at h4
    cases h4
  exact ⟨_, _, (List.dropLast_concat_getLast ne).symm, h3 _ (List.getLast_mem ne)⟩
theorem CallsAt.last {H : Hp} {xs : List V} {cs : List Cl} {c : Cl} (h : CallsAt H xs (cs ++ [c])) : ∃ ys p, xs = ys ++ [.ref p] ∧ CallAt H p c := by
  induction cs generalizing xs with
  | nil =>
    cases h with
    | cons a b =>
      cases b
      exact ⟨[], _, rfl, a⟩
  | cons d cs ih =>
    cases h with
    | cons a b =>
      obtain ⟨ys, p, e, h⟩ := ih b
      exact ⟨_ :: ys, p, by rw [e]; rfl, h⟩
end
end Lk
namespace Lk
open PySem PySem.Spec PyProof.Rows L2 G
section
variable {z : Str} {ss : List PyData}
/-- a reading that is stopped at a place -/
theorem stuckAt_at {f : Cl → Option Wt} : ∀ {l : List Nat} {j d : Nat} {a b : Wt}, rd f (l.take j) a = some b → l[j]? = some d → f (b.2, d) = none → stuckAt f l a.2 = some (b.2, d)
  | [], j, d, a, b, h, hj, hn => by cases hj
  | x :: l, 0, d, a, b, h, hj, hn => by
    cases hj
    cases h
    exact stuckAt_none hn
  | x :: l, j + 1, d, a, b, h, hj, hn => by
    obtain ⟨v, e1, e2⟩ := rd_cons (show rd f (x :: l.take j) a = some b from h)
    rw [stuckAt_some e1]
    exact stuckAt_at (a := (a.1 ++ v.1, v.2)) e2 hj hn
/-- a state's last -/
def lastD (ss : List PyData) (g : Nat) : PyData := match ss.getD g .none with
  | .tuple [_, l] => l
  | _ => .none
theorem last_in (ok : StatesOk z ss) {g : Nat} (h : g < ss.length) : ∃ ms l, ss[g]? = some (.tuple [.tuple ms, l]) ∧ lastD ss g = l ∧ (l = .none ∨ ∃ w, l = .str w ∧ allIn z w = true ∧ w.length ≤ 2000) := by
  have es := List.getElem?_eq_getElem h
  obtain ⟨ms, l, e, _, hl, _⟩ := stateB_parts (ok.2.2.2 ss[g] (List.getElem_mem h))
  refine ⟨ms, l, by rw [es, e], ?_, hl⟩
  unfold lastD
  rw [List.getD_eq_getElem?_getD, es, e]
  rfl
end
end Lk
namespace Lk
open PySem PySem.Spec PyProof.Rows L2 G
section
variable {z : Str} {ss : List PyData}
/-- the laps over all calls find all values -/
theorem laps_vals (ok : StatesOk z ss) {c : Cl} {w : Wt} : Val z ss c w ↔ look (laps z ss (callsOf z ss.length) (callsOf z ss.length).length []) c = some w := by
  have cl : Closed z ss (laps z ss (callsOf z ss.length) (callsOf z ss.length).length []) := Closed.laps _ .nil
  by_cases hc : c ∈ callsOf z ss.length
  · refine laps_all (Nat.le_refl _) (fun c hc m hm f l d r b hf el hr => ?_) hc
    obtain ⟨_, x, y, _, _, ey, _, _, _, ay, hg⟩ := mv_ok ok hm
    refine callsOf_mem.2 ⟨rd_good (a := (m.1, m.2.2)) (fun c v h => valOf_state ok (valOf_some.2 (hf c v h))) hg hr, allIn_mem ay d ?_⟩
    rw [← ey, el]
    exact List.mem_append_right _ List.mem_cons_self
  · refine ⟨fun h => absurd (callsOf_mem.2 (h.good ok)) hc, fun h => absurd (callsOf_mem.2 (cl.good ok c w h)) hc⟩
/-- all values are short -/
def Sized (d : PyData) : Prop := ∀ z f ss, d = .tuple [.str z, .str f, .tuple ss] → ∀ c w, Val z ss c w → w.1.length ≤ 30
/-- a move that puts nothing back -/
def PlainM (d : PyData) : Prop := d = .none ∨ ∃ (a : Str) (g : Nat), d = .tuple [.str a, .str "", .int (g : Int)]
def PlainS (d : PyData) : Prop := ∀ ms l, d = .tuple [.tuple ms, l] → ∀ m ∈ ms, PlainM m
theorem plain_sized {n : Nat} (hs : ∀ s ∈ ss, StateD z n s) (hp : ∀ s ∈ ss, PlainS s) {c : Cl} {w : Wt} (h : Val z ss c w) : w.1.length ≤ 30 := by
  obtain ⟨k, hk⟩ := h
  cases k with
  | zero => cases hk
  | succ k =>
    cases em : mv z ss c with
    | none =>
      rw [ev_stop em] at hk
      cases hk
    | some m =>
      rw [ev_step em] at hk
      unfold mv moveD at em
      cases q : Builtin.Str.occurrences z (Ls.one c.2) 0 z.length 1 with
      | nil =>
        rw [q] at em
        cases em
      | cons i r =>
        rw [q] at em
        dsimp only at em
        cases e1 : ss[c.1]? with
        | none =>
          have eg : ss.getD c.1 .none = .none := by
            rw [List.getD_eq_getElem?_getD, e1]
            rfl
          rw [eg] at em
          dsimp only [movesOf] at em
          rw [List.getD_nil] at em
          cases em
        | some s =>
          have eg : ss.getD c.1 .none = s := by
            rw [List.getD_eq_getElem?_getD, e1]
            rfl
          rw [eg] at em
          have hmem := List.mem_of_getElem? e1
          obtain ⟨ms, l, es, _, hms, _⟩ := hs s hmem
          have hps := hp s hmem ms l es
          rw [es] at em
          dsimp only [movesOf] at em
          rw [List.getD_eq_getElem?_getD] at em
          cases e2 : ms[i]? with
          | none =>
            rw [e2] at em
            cases em
          | some md =>
            rw [e2] at em
            have hm2 := List.mem_of_getElem? e2
            rcases hps md hm2 with rfl | ⟨a, g, rfl⟩
            · cases em
            · have em := Option.some.inj em
              subst em
              cases hk
              rcases hms _ hm2 with h | ⟨a', b', g', h, ha, _, _⟩
              · cases h
              · cases h
                have := ha.1
                show a.cps.toList.length ≤ 30
                have e : a.cps.toList.length = a.length := by simp [Str.length]
                omega
end
end Lk

/-! Calls of defs in a list, of which one has an argument left out. -/
namespace Lk
open PySem PySem.Spec PyProof.Rows L2 G
/-- a def that is held in a list: its promise, with what it puts in itself -/
structure HeldD (P : Program) (w : World) (K : PySem.W.Frag) (mg : Str → Option Value) (base : Heap) (k : Nat) (f : Addr) (sp : Sp) : Prop where
  ex : ∃ (fd : FuncData) (ps : List Str) (j : Nat) (sp' : Sp) (zs : List V) (ds : List Value), FnOk P w K mg base (L2.CX P w) j f fd ps sp' ∧ j ≤ k ∧ PySem.W.keepIn K (.ref f) = true ∧ Binds K fd ps ds ∧ Vals zs ds ∧ ∀ vs H Q E, sp vs H Q E → sp' (vs ++ zs) H Q E
section
variable {X : Cx} {k : Nat} {E : XK} {o i e : Expr} {es : List Expr} {p pos : Pos} {t0 : TE} {t : TA} {S : Addr → Sp → Prop}
theorem pe_callD (A : ∀ f sp, S f sp → HeldD X.prog X.w X.K X.mg X.base k f sp) (room : Room k X.A) (h0 : PE X (.Subscript o i p) t0) (hx : Passes (L2.CX X.prog X.w) X E) (ha : PA X (e :: es) t)
    (he : starEach (e :: es) X.env = (false, eval e X.env) :: starEach es X.env := by rfl) (hpl : (backTo pos (starEach es X.env)).any (·.1) = false := by rfl) :
    PE X (.Call (.Subscript o i p) (e :: es) [] pos) (tCallE S E t0 t) := ⟨fun pins s σ H Q I h => by
  rw [eval_call_sub]
  refine wpAny_bind (thn (h0.run pins s σ H _ I h) fun u s1 ⟨v, H1, I1, r1, f, sp, ev, hS, ht⟩ => ?_)
  subst ev
  cases r1
  obtain ⟨fd, ps, j, sp', zs, ds, F, hj, kp, b, dv, up⟩ := (A f sp hS).ex
  refine PySem.W.callWith_K (h₀ := X.base) I1.ok.mod.kin kp (thn (ha.run pos pins s1 σ _ _ I1 ht) fun us s2 ⟨vs, H2, I2, r, q⟩ => ?_) he hpl
  exact ⟨I2.kIn, run_fn F (room.mono hj) b dv hx I2 r (up _ _ _ _ q)⟩⟩
end
end Lk

/-! The items of a dict whose keys are tuples, walked: a new pair at each turn. -/
namespace Lk
open PySem PySem.Spec PyProof.Rows L2 G
section
variable {X : Cx} {pins : List (Addr × Obj)} {σ : L2.St} {H : Hp} {s : Shared} {d : Addr} {o : Obj}
/-- a locked dict with pairs as keys: its entries -/
theorem frz_ents {kvs : List (List Key × V)} (I : Inv X pins σ H s) (fz : H d = some (.frz o (.dT kvs))) :
    (d == sysModules) = false ∧ ∃ (es : Array DictEntry) (ep : Nat), s.heap.DictRaw d es ep ∧ o.data = .dict es ep ∧ es.size = kvs.length ∧ ∀ (i : Nat) (lt : i < es.size) (kv : List Key × V), kvs[i]? = some kv → RelV kv.2 es[i].val ∧ ∃ q, es[i].key = .ref q ∧ H q = some (.tup (kv.1.map kV)) := by
  obtain ⟨at_, _, sm, xs, pr, o', es, ep, at2, ex, dt, en, _⟩ := I.hok d _ fz
  rw [at_] at at2
  cases at2
  have z1 : es.size = xs.length := size_of_entries en
  refine ⟨sm, es, ep, ⟨o, at_, ex, dt⟩, dt, z1.trans (Paired.length pr).symm, fun i lt kv e => ?_⟩
  obtain ⟨b, eb, _, e2, rv⟩ := paired_get pr e
  have q := entry_at en i
  rw [eb, Array.getElem?_eq_getElem lt] at q
  have q := Option.some.inj q
  rw [q]
  exact ⟨rv, b.2.1, rfl, e2⟩
end
/-- the items of a locked dict with pairs as keys -/
def Itit (d : Addr) (o : Obj) (kvs : List (List Key × V)) : It where
  go := fun i H => H d = some (.frz o (.dT kvs)) ∧ i < kvs.length
  yld := fun i H x H' => ∃ (T q : Addr) (k : List Key) (v : V), kvs[i]? = some (k, v) ∧ x = .ref T ∧ H T = none ∧ H q = some (.tup (k.map kV)) ∧ H' = upd H T (.tup [.ref q, v])
  stop := fun i H => H d = some (.frz o (.dT kvs)) ∧ kvs.length ≤ i
section
variable {P : Program} {w : World} {K : PySem.W.Frag} {d : Addr} {o : Obj} {es : Array DictEntry} {ep : Nat}
theorem turn_itemsT {kvs : List (List Key × V)} {elts : List Expr} {kk : Nat} {tpos : Pos} (it : Addr) (od : o.data = .dict es ep) :
    Turn P w K (.Tuple elts kk tpos) (Itit d o kvs) [it] it fun i h => ∃ ok ov, IsItemIter h it d i kvs.length ep ok ov where
  mem := List.mem_singleton.2 rfl
  obj := fun i h ⟨_, _, e⟩ b hb => by
    rw [List.mem_singleton.1 hb]
    exact ⟨_, e, fun v z => nomatch z⟩
  keep := fun i h h' ⟨ok, ov, e⟩ k => ⟨ok, ov, k it (List.mem_singleton.2 rfl) _ e⟩
  item := by
    intro X e1 e2 e3 cm i pins s σ H E I hf st ⟨fz, lt⟩
    subst e1 e2 e3
    obtain ⟨sm, es', ep', raw, dt, sz, ents⟩ := frz_ents I fz
    obtain ⟨rfl, rfl⟩ := dict_ep od dt
    have lt' : i < es'.size := by omega
    have ek : kvs[i]? = some kvs[i] := List.getElem?_eq_getElem lt
    obtain ⟨rv, q, hk, hq⟩ := ents i lt' _ ek
    obtain ⟨ok, ov, he⟩ := st
    rw [← sz] at he
    have hlt : it < s.heap.objs.size := Heap.lt_size he
    refine wpAny_pyNext_items_item_raw he raw lt' fun h' ho hT hz kp => ?_
    refine ⟨_, rfl, wpAny_letOwnedTupleGo_items (s := { s with heap := h' }) ho fun h'' he' sb => ?_⟩
    have hT2 : h''.get? s.heap.objs.size = some { cls := .type "tuple", data := .seq #[es'[i].key, es'[i].val] } := (sb.2 _ (Nat.ne_of_gt hlt)).trans hT
    have new : ObjOk X.prog X.w (upd H s.heap.objs.size (.tup [.ref q, kvs[i].2])) h'' s.heap.objs.size (.tup [.ref q, kvs[i].2]) :=
      ⟨by show 2 ≤ sizeLine; decide, [es'[i].key, es'[i].val], .cons hk (.cons rv .nil), ⟨_, hT2, rfl, _, rfl⟩⟩
    have I1 : Inv X pins σ (upd H s.heap.objs.size (.tup [.ref q, kvs[i].2])) { s with heap := h'' } :=
      I.turnedNew (t' := s.toks) (ch := [it]) (fun b ob hb e => (sb.2 b (fun z => hb (List.mem_singleton.2 z))).trans (kp b ob (fun z => hb (List.mem_singleton.2 z)) e)) hf (Nat.le_refl _) new
    refine ⟨.ref s.heap.objs.size, _, I1, rfl, ⟨_, q, _, _, ek, rfl, I.hok.fresh (Nat.le_refl _), hq, rfl⟩, ⟨_, _, by rw [← sz]; exact he'⟩, fun b hb => ?_⟩
    rw [List.mem_singleton.1 hb, upd_ne (Nat.ne_of_lt hlt)]
    exact (hf it (List.mem_singleton.2 rfl)).1
  done := by
    intro X e1 e2 e3 cm i pins s σ H E I hf st ⟨fz, ge⟩
    subst e1 e2 e3
    obtain ⟨f0, f1, _, f3, f4, f5⟩ := hf it (List.mem_singleton.2 rfl)
    obtain ⟨sm, es', ep', raw, dt, sz, _⟩ := frz_ents I fz
    obtain ⟨rfl, rfl⟩ := dict_ep od dt
    obtain ⟨ok, ov, he⟩ := st
    rw [← sz] at he ge
    exact wpAny_pyNext_items_end_raw (I.ok.hd cm) he raw ge fun h' eb => ⟨rfl, I.turned (t' := s.toks) (fun b ob nb e => eb b ob nb e) f0 f1 f3 f4 f5⟩
  self := fun A i s Q E ⟨_, _, e⟩ h => wpAny_pyIter_itemiter e h
end
def iItemsT (td : TE) : TI := fun σ H R => td σ H fun x H1 => ∃ d o kvs, x = .ref d ∧ H1 d = some (.frz o (.dT kvs)) ∧ R (Itit d o kvs) H1
theorem walk_itemsT {d : Addr} {o : Obj} {kvs : List (List Key × V)} : Walk (Itit d o kvs) kvs.length (fun H => H d = some (.frz o (.dT kvs)))
    (fun i H x H' => ∃ (T q : Addr) (k : List Key) (v : V), kvs[i]? = some (k, v) ∧ x = .ref T ∧ H T = none ∧ H q = some (.tup (k.map kV)) ∧ H' = upd H T (.tup [.ref q, v])) :=
  ⟨fun _ _ lt fz => ⟨fz, lt⟩, fun _ fz => ⟨fz, Nat.le_refl _⟩, fun _ _ _ _ _ _ y => y⟩
section
variable {X : Cx} {e : Expr} {td : TE} {apos cpos : Pos}
theorem pi_itemsT {elts : List Expr} {kk : Nat} {tpos : Pos} (he : PE X e td) (b1 : attributeBase e "items" X.env (eval e X.env) = eval e X.env := by rfl) (b2 : (apos.endLine == cpos.line) = true := by rfl) :
    PI X (.Tuple elts kk tpos) (.Call (.Attribute e "items" apos) [] [] cpos) (iItemsT td) := by
  constructor
  intro pins s σ H R I h
  refine wpAny_Call_method (T := "dict") (id := "dict.items") b1 rfl b2 F.plainAttrs_dict F.slot_dict_items F.type_dict_items (thn (he.run pins s σ H _ I h) fun u s1 got => ?_)
  obtain ⟨x, H1, I1, rx, d, o, kvs, ex, fz, q⟩ := got
  subst ex
  obtain rfl : u = Value.ref d := rx
  obtain ⟨sm, es, ep, raw, dt, sz, _⟩ := frz_ents I1 fz
  have nod : ∀ b, Value.ref d = .ref b → ∃ ob, s1.heap.get? b = some ob ∧ ob.dict = none := fun b e => by
    cases e
    obtain ⟨ob, h1, h2, _⟩ := id raw
    exact ⟨ob, h1, h2.2.1⟩
  refine ⟨raw.typeIs, nod, ?_⟩
  have I2 : Inv X pins σ H1 { s1 with heap := s1.heap.push { cls := .type "dict_items", data := .fields #[.ref d] } } := I1.kept (t' := s1.toks) fun _ _ e => Heap.get?_push_of_some _ e
  have raw2 : (s1.heap.push { cls := .type "dict_items", data := .fields #[.ref d] }).DictRaw d es ep := raw.at fun _ e => Heap.get?_push_of_some _ e
  refine method_meetsIn F.slot_dict_items F.entry_dict_items rfl (PySem.evalArgs_none ⟨rfl, raw.typeIs, F.args_dict_items_1 _, _, meets_dict_items_raw d sm, ⟨es, ep, raw⟩, ?_⟩)
  refine wpAny_pyIter_items_raw (d := d) (es := es) (ep := ep) ⟨_, Heap.get?_push_size _ rfl, rfl, rfl⟩ raw2 (pi_one (tk := s1.toks) I2 _ (turn_itemsT _ dt) ⟨.none, .none, ?_⟩ q)
  rw [← sz]
  exact Heap.get?_push_size _ rfl
end
end Lk
/-! A dict from calls to pairs whose second part is the state: of values, or of sizes. -/
namespace Lk
open PySem PySem.Spec PyProof.Rows L2 G
def PrAt (H : Hp) (v : V) (w : Wt) : Prop := ∃ p, v = .ref p ∧ ∃ x, H p = some (.tup [x, .int (w.2 : Int)])
theorem PrAt.mono {H H' : Hp} {v : V} {w : Wt} (h : PrAt H v w) (s : Same H H') : PrAt H' v w := by
  obtain ⟨p, e, x, h⟩ := h
  exact ⟨p, e, x, s _ _ h⟩
theorem PrAt.any {S T : List Addr} {H : Hp} {v : V} {w : Wt} (h : PrAt (off S H) v w) (n : ∀ a ∈ T, NoTup H a) : PrAt (off T H) v w := by
  obtain ⟨p, e, x, h⟩ := h
  exact ⟨p, e, x, tup_off (off_some h).2 n⟩
inductive PrE (H : Hp) : List (List Key × V) → Ent → Prop
  | nil : PrE H [] []
  | cons {c : Cl} {w : Wt} {v : V} {kvs : List (List Key × V)} {E : Ent} : PrAt H v w → PrE H kvs E → PrE H ((ckey c, v) :: kvs) ((c, w) :: E)
theorem PrE.mono {H H' : Hp} {kvs : List (List Key × V)} {E : Ent} (h : PrE H kvs E) (s : Same H H') : PrE H' kvs E := by
  induction h with
  | nil => exact .nil
  | cons a _ ih => exact .cons (a.mono s) ih
theorem PrE.any {S T : List Addr} {H : Hp} {kvs : List (List Key × V)} {E : Ent} (h : PrE (off S H) kvs E) (n : ∀ a ∈ T, NoTup H a) : PrE (off T H) kvs E := by
  induction h with
  | nil => exact .nil
  | cons a _ ih => exact .cons (a.any n) ih
theorem PrE.get {H : Hp} {kvs : List (List Key × V)} {E : Ent} (h : PrE H kvs E) (d : Cl) : (∃ v w, valV kvs (ckey d) = some v ∧ look E d = some w ∧ PrAt H v w) ∨ (valV kvs (ckey d) = none ∧ look E d = none) := by
  induction h with
  | nil => exact .inr ⟨rfl, rfl⟩
  | @cons c w v kvs E a _ ih =>
    rw [look_cons]
    by_cases e : c = d
    · subst e
      exact .inl ⟨v, w, valV_pos rfl, if_pos rfl, a⟩
    · rw [if_neg e, valV_neg (fun z => e (ckey_inj z))]
      exact ih
theorem VlE.pr {H : Hp} {kvs : List (List Key × V)} {E : Ent} (h : VlE H kvs E) : PrE H kvs E := by
  induction h with
  | nil => exact .nil
  | cons a _ ih =>
    obtain ⟨p, e, h⟩ := a
    exact .cons ⟨p, e, _, h⟩ ih
theorem SzE.pr {H : Hp} {kvs : List (List Key × V)} {E : Ent} (h : SzE H kvs E) : PrE H kvs E := by
  induction h with
  | nil => exact .nil
  | cons a _ ih =>
    obtain ⟨p, e, h⟩ := a
    exact .cons ⟨p, e, _, h⟩ ih
def PrD (S : List Addr) (H : Hp) (d : Addr) (E : Ent) : Prop := ∃ kvs, H d = some (.dT kvs) ∧ PrE (off S H) kvs E
theorem PrD.keep {S : List Addr} {H H' : Hp} {d : Addr} {E : Ent} (h : PrD S H d E) (k : Keep S H H') (e : H' d = H d) : PrD S H' d E := by
  obtain ⟨kvs, h1, h2⟩ := h
  exact ⟨kvs, e.trans h1, h2.mono k⟩
theorem PrD.same {S : List Addr} {H H' : Hp} {d : Addr} {E : Ent} (h : PrD S H d E) (s : Same H H') : PrD S H' d E := by
  obtain ⟨kvs, h1, h2⟩ := h
  exact ⟨kvs, s _ _ h1, h2.mono (Keep.of s)⟩
theorem PrD.any {S T : List Addr} {H : Hp} {d : Addr} {E : Ent} (h : PrD S H d E) (n : ∀ a ∈ T, NoTup H a) : PrD T H d E := by
  obtain ⟨kvs, h1, h2⟩ := h
  exact ⟨kvs, h1, h2.any n⟩
theorem PrD.noTup {S : List Addr} {H : Hp} {d : Addr} {E : Ent} (h : PrD S H d E) : NoTup H d := by
  obtain ⟨kvs, h1, _⟩ := h
  exact .dT h1
theorem ValD.pr {S : List Addr} {H : Hp} {d : Addr} {E : Ent} (h : ValD S H d E) : PrD S H d E := by
  obtain ⟨kvs, h1, h2⟩ := h
  exact ⟨kvs, h1, h2.pr⟩
theorem Found.pr {S : List Addr} {H : Hp} {d : Addr} {E : Ent} (h : Found S H d E) : PrD S H d E := by
  obtain ⟨kvs, h1, h2⟩ := h
  exact ⟨kvs, h1, h2.pr⟩
section
variable {z : Str} {ss : List PyData}
/-- the entries whose words are not too long -/
def shortE (E : Ent) : Ent := E.filter fun e => decide (e.2.1.length ≤ 2000)
theorem shortE_snoc {E : Ent} {c : Cl} {w : Wt} (h : w.1.length ≤ 2000) : shortE (E ++ [(c, w)]) = shortE E ++ [(c, w)] := by
  unfold shortE
  rw [List.filter_append, List.filter_cons, if_pos (decide_eq_true h)]
  rfl
theorem shortE_long {E : Ent} {c : Cl} {w : Wt} (h : 2000 < w.1.length) : shortE (E ++ [(c, w)]) = shortE E := by
  unfold shortE
  rw [List.filter_append, List.filter_cons, if_neg (by
    show ¬ (decide (w.1.length ≤ 2000) = true)
    rw [decide_eq_true_eq]
    omega)]
  exact List.append_nil _
theorem shortE_all {E : Ent} (h : ∀ e ∈ E, e.2.1.length ≤ 2000) : shortE E = E := List.filter_eq_self.2 fun e he => decide_eq_true (h e he)
theorem shortE_len (E : Ent) : (shortE E).length ≤ E.length := List.length_filter_le _ _
theorem look_shortE {E : Ent} (h : Closed z ss E) : ∀ c v, look (shortE E) c = some v ↔ (look E c = some v ∧ v.1.length ≤ 2000) := by
  induction h with
  | nil =>
    intro c v
    exact ⟨fun h => (by cases h), fun h => (by cases h.1)⟩
  | @snoc E c v m hE hn hm hr ih =>
    intro d w
    have hn' : look (shortE E) c = none := by
      cases e : look (shortE E) c with
      | none => rfl
      | some u =>
        have := ((ih c u).1 e).1
        rw [hn] at this
        cases this
    by_cases lv : v.1.length ≤ 2000
    · rw [shortE_snoc lv]
      by_cases e : c = d
      · subst e
        rw [look_new hn', look_new hn]
        constructor
        · intro e
          cases e
          exact ⟨rfl, lv⟩
        · exact fun e => e.1
      · rw [look_other e, look_other e]
        exact ih d w
    · rw [shortE_long (Nat.lt_of_not_le lv)]
      by_cases e : c = d
      · subst e
        rw [hn', look_new hn]
        constructor
        · intro e
          cases e
        · rintro ⟨e, l⟩
          cases e
          exact absurd l lv
      · rw [look_other e]
        exact ih d w
theorem Closed.take {E : Ent} (h : Closed z ss E) : ∀ i, Closed z ss (E.take i) := by
  induction h with
  | nil => exact fun i => by rw [List.take_nil]; exact .nil
  | @snoc E c v m hE hn hm hr ih =>
    intro i
    by_cases l : i ≤ E.length
    · rw [List.take_append_of_le_length l]
      exact ih i
    · rw [List.take_of_length_le (by rw [List.length_append, List.length_singleton]; omega)]
      exact .snoc hE hn hm hr
/-- the calls that a text is read by -/
def runC (f : Cl → Option Wt) : List Nat → Nat → List Cl
  | [], _ => []
  | d :: r, g => (g, d) :: match f (g, d) with
    | some v => runC f r v.2
    | none => []
theorem runC_some {f : Cl → Option Wt} {d g : Nat} {r : List Nat} {v : Wt} (h : f (g, d) = some v) : runC f (d :: r) g = (g, d) :: runC f r v.2 := by
  show (g, d) :: (match f (g, d) with | some v => runC f r v.2 | none => []) = _
  rw [h]
theorem runC_snoc {f : Cl → Option Wt} {c : Nat} : ∀ {l : List Nat} {a b : Wt}, rd f l a = some b → runC f (l ++ [c]) a.2 = runC f l a.2 ++ [(b.2, c)]
  | [], a, b, h => by
    cases h
    show (a.2, c) :: (match f (a.2, c) with | some v => runC f [] v.2 | none => []) = [(a.2, c)]
    cases f (a.2, c) <;> rfl
  | d :: l, a, b, h => by
    obtain ⟨v, e1, e2⟩ := rd_cons h
    rw [List.cons_append, runC_some e1, runC_some e1, runC_snoc (a := (a.1 ++ v.1, v.2)) e2]
    rfl
/-- what a call does -/
def wordOf (f : Cl → Option Wt) (c : Cl) : List Nat := match f c with
  | some v => v.1
  | none => []
theorem rd_words {f : Cl → Option Wt} : ∀ {l : List Nat} {a b : Wt}, rd f l a = some b → b.1 = a.1 ++ ((runC f l a.2).map (wordOf f)).flatten
  | [], a, b, h => by
    cases h
    exact (List.append_nil _).symm
  | d :: l, a, b, h => by
    obtain ⟨v, e1, e2⟩ := rd_cons h
    have e3 : wordOf f (a.2, d) = v.1 := by
      unfold wordOf
      rw [e1]
    rw [rd_words e2, runC_some e1, List.map_cons, List.flatten_cons, e3]
    exact List.append_assoc _ _ _
theorem runC_len {f : Cl → Option Wt} : ∀ {l : List Nat} {g : Nat}, (runC f l g).length ≤ l.length
  | [], g => Nat.le_refl _
  | d :: l, g => by
    cases e : f (g, d) with
    | some v =>
      rw [runC_some e]
      exact Nat.succ_le_succ runC_len
    | none =>
      show ((g, d) :: (match f (g, d) with | some v => runC f l v.2 | none => [])).length ≤ _
      rw [e]
      exact Nat.succ_le_succ (Nat.zero_le _)
/-- each call of a text that is read to its end has a value -/
theorem runC_all {f : Cl → Option Wt} : ∀ {l : List Nat} {a b : Wt}, rd f l a = some b → ∀ c ∈ runC f l a.2, ∃ v, f c = some v
  | [], a, b, h, c, hc => by cases hc
  | d :: l, a, b, h, c, hc => by
    obtain ⟨v, e1, e2⟩ := rd_cons h
    rw [runC_some e1] at hc
    rcases List.mem_cons.1 hc with rfl | hc
    · exact ⟨v, e1⟩
    · exact runC_all (a := (a.1 ++ v.1, v.2)) e2 c hc
theorem CallsAt.mono' {H H' : Hp} {xs : List V} {cs : List Cl} (h : CallsAt H xs cs) (s : Same H H') : CallsAt H' xs cs := h.mono s
end
end Lk

/-! dict(a list of pairs whose first part is a tuple). -/
namespace Lk
open PySem PySem.Spec PyProof.Rows L2 G
/-- the pairs, as they lie: the key's own tuple, the value -/
inductive PrsAt (H : Hp) : List Addr → List (List Key × V) → Prop
  | nil : PrsAt H [] []
  | cons {p q : Addr} {k : List Key} {v : V} {ps : List Addr} {kvs : List (List Key × V)} : H p = some (.tup [.ref q, v]) → H q = some (.tup (k.map kV)) → PrsAt H ps kvs → PrsAt H (p :: ps) ((k, v) :: kvs)
theorem PrsAt.mono {H H' : Hp} {ps : List Addr} {kvs : List (List Key × V)} (h : PrsAt H ps kvs) (s : Same H H') : PrsAt H' ps kvs := by
  induction h with
  | nil => exact .nil
  | cons a b _ ih => exact .cons (s _ _ a) (s _ _ b) ih
theorem PrsAt.snoc {H : Hp} {ps : List Addr} {kvs : List (List Key × V)} {p q : Addr} {k : List Key} {v : V} (h : PrsAt H ps kvs) (a : H p = some (.tup [.ref q, v])) (b : H q = some (.tup (k.map kV))) : PrsAt H (ps ++ [p]) (kvs ++ [(k, v)]) := by
  induction h with
  | nil => exact .cons a b .nil
  | cons c d _ ih => exact .cons c d ih
theorem PrsAt.len {H : Hp} {ps : List Addr} {kvs : List (List Key × V)} (h : PrsAt H ps kvs) : ps.length = kvs.length := by
  induction h with
  | nil => rfl
  | cons _ _ _ ih => exact congrArg (· + 1) ih
section
variable {X : Cx} {pins : List (Addr × Obj)} {σ : L2.St} {H : Hp} {s : Shared}
theorem PrsAt.vals (I : Inv X pins σ H s) {ps : List Addr} {kvs : List (List Key × V)} (h : PrsAt H ps kvs) :
    ∃ xs : List (List Key × Addr × Value), KT H kvs xs ∧ xs.length = ps.length ∧ xs.map (·.1) = kvs.map (·.1) ∧ ∀ (j : Nat) (x : List Key × Addr × Value), xs[j]? = some x → ∃ p, ps[j]? = some p ∧ IsTup s.heap p #[.ref x.2.1, x.2.2] ∧ H x.2.1 = some (.tup (x.1.map kV)) := by
  induction h with
  | nil => exact ⟨[], .nil, rfl, rfl, fun j x e => by cases e⟩
  | @cons p q k v ps kvs a b _ ih =>
    obtain ⟨xs, r, hl, hm, hx⟩ := ih
    obtain ⟨its, rv, ht, _⟩ := I.tuple (SqT.of a)
    obtain ⟨u, y, ei, ru, ry⟩ := vals2 rv
    subst ei
    cases ru
    refine ⟨(k, q, y) :: xs, .cons ⟨rfl, b, ry⟩ r, congrArg (· + 1) hl, by rw [List.map_cons, List.map_cons, hm], fun j x e => ?_⟩
    cases j with
    | zero =>
      cases e
      exact ⟨p, rfl, ht, b⟩
    | succ j => exact hx j x e
end
theorem stored_new {K : Type} [DecidableEq K] : ∀ (xs acc : List (K × Addr × Value)), ((acc ++ xs).map (·.1)).Nodup → storedAllH acc xs = acc ++ xs
  | [], acc, _ => (List.append_nil acc).symm
  | x :: xs, acc, nd => by
    have e : storedH acc x.1 x.2.1 x.2.2 = acc ++ [x] := by
      unfold storedH
      have nx : atKey acc x.1 = none := by
        unfold atKey
        rw [Option.map_eq_none_iff, List.find?_eq_none]
        rintro y hy e
        rw [List.map_append, List.map_cons, List.nodup_append] at nd
        exact nd.2.2 y.1 (List.mem_map.2 ⟨y, hy, rfl⟩) x.1 List.mem_cons_self (of_decide_eq_true e)
      rw [nx]
      rfl
    show storedAllH (storedH acc x.1 x.2.1 x.2.2) xs = _
    rw [e, stored_new xs (acc ++ [x]) (by rw [List.append_assoc]; exact nd), List.append_assoc]
    rfl
def rDictT (X : Cx) : List V → Hp → VK → Prop := fun vs H Q => ∃ (a : Addr) (ps : List Addr) (kvs : List (List Key × V)), vs = [.ref a] ∧ H a = some (.lst (ps.map V.ref)) ∧ PrsAt H ps kvs ∧ (kvs.map (·.1)).Nodup ∧ ∀ d, H d = none → Q (.ref d) (upd H d (.dT kvs))
theorem call_dictT {X : Cx} (hc : X.calm = true) (hu : X.A.units + 64 < cLine) : CallR X (.type "dict") (rDictT X) := by
  intro pins s σ H xs us Q I r q
  obtain ⟨a, ps, kvs, ex, hq, hp, nd, q⟩ := q
  subst ex
  obtain ⟨u, eu, rx⟩ := vals1 r
  subst eu
  cases rx
  obtain ⟨its, rv, pl, hz⟩ := I.list (SqL.of hq)
  have ei := refs_at rv
  subst ei
  rw [List.length_map] at hz
  obtain ⟨ys, rel, hl, hm, hx⟩ := hp.vals I
  have ndy : (ys.map (·.1)).Nodup := by
    rw [hm]
    exact nd
  have est : storedAllH ([] : List (List Key × Addr × Value)) ys = ys := by
    have e := stored_new ys [] (by rw [List.nil_append]; exact ndy)
    rw [e, List.nil_append]
  obtain ⟨o, n, ho, hcl, hd, hdat⟩ := pl
  let pv : List (Value × Value) := ys.map fun y => (.ref y.2.1, y.2.2)
  have lpv : pv.length = ys.length := List.length_map ..
  have hat : ∀ (j : Nat) (k v : Value), pv[j]? = some (k, v) → ∃ x, ys[j]? = some x ∧ k = .ref x.2.1 ∧ v = x.2.2 := fun j k v e => by
    rw [List.getElem?_map] at e
    cases ey : ys[j]? with
    | none =>
      rw [ey] at e
      cases e
    | some x =>
      rw [ey] at e
      cases e
      exact ⟨x, rfl, rfl, rfl⟩
  have P := PairArg.list (prog := X.prog) (w := X.w) a (ps.map Value.ref).toArray (fun j => ps.getD j 0) pv
  have hin : ∀ (h' : Heap), (∀ b o, s.heap.get? b = some o → h'.get? b = some o) → ∀ x ∈ ys, (tupleKind (mixKind X.prog X.w)).is h' x.1 x.2.1 := fun h' hk x hxm => by
    obtain ⟨j, hj⟩ := List.getElem?_of_mem hxm
    obtain ⟨p, _, _, hb⟩ := hx j x hj
    obtain ⟨oo, it, m, g1, g2, g3, g4⟩ := key_of I.hok hb
    exact ⟨oo, it, m, hk _ _ g1, g2, g3, g4⟩
  refine call_dict_pairsH (knd := tupleKind (mixKind X.prog X.w)) (ps := ys) P (I.ok.hd hc) ?_ ⟨⟨o, n, ho, hcl, hd, hdat⟩, ?_, fun j k v e => ?_⟩ ⟨lpv.symm, fun j k v e => ?_⟩ ?_ (by rw [lpv, hl]; exact hz) fun h' tk hd' hk => ?_
  · show X.A.in1.in1.units < cLine
    simp only [Around.in1_units]
    omega
  · rw [List.size_toArray, List.length_map, lpv, hl]
  · obtain ⟨x, ex, rfl, rfl⟩ := hat j k v e
    obtain ⟨p, ep, ht, _⟩ := hx j x ex
    have eg : ps.getD j 0 = p := by rw [List.getD_eq_getElem?_getD, ep]; rfl
    dsimp only
    rw [eg]
    refine ⟨by simp [ep], .inl ?_⟩
    obtain ⟨oo, g1, g2, m, g3⟩ := ht
    exact ⟨oo, g1, g2, m, g3⟩
  · obtain ⟨x, ex, rfl, rfl⟩ := hat j k v e
    exact ⟨x.1, x.2.1, ex, rfl⟩
  · intro h' hk x hxm
    refine hin h' (fun b oo e => hk b oo ?_ (fun z => nomatch z) e) x hxm
    exact Nat.ne_of_lt (Heap.lt_size e)
  · rw [est] at hd'
    obtain ⟨oo, es, ep, hq', h2, h3, h4, _, h5⟩ := hd'
    have kk : ∀ b u, s.heap.get? b = some u → h'.get? b = some u := fun b u e => hk b u (fun z => nomatch z) e
    have fr : H s.heap.objs.size = none := I.hok.fresh (Nat.le_refl _)
    have big : (s.heap.objs.size == sysModules) = false := beq_eq_false_iff_ne.mpr (Nat.ne_of_gt I.big)
    refine ⟨.ref s.heap.objs.size, upd H s.heap.objs.size (.dT kvs), I.laid (t' := tk) kk (Nat.le_refl _) ⟨?_, big, ys, ?_, oo, es, ep, hq', h2, h3, h4, h5⟩, rfl, q _ fr⟩
    · rw [← hp.len]
      exact hz
    · refine rel.keeps fun c zs ec => ?_
      rw [upd_ne (ne_of_none ec fr)]
      exact ec
end Lk

/-! Calls of a def that a name of the def's own holds. -/
namespace Lk
open PySem PySem.Spec PyProof.Rows L2 G
def tCallVS (S : Addr → Sp → Prop) (E : L2.St → XK) (t0 : TE) (t : TA) : TE := fun σ H Q => t0 σ H fun v H1 => ∃ f sp, v = .ref f ∧ S f sp ∧ t σ H1 fun vs H2 => sp vs H2 Q (E σ)
section
variable {X : Cx} {k : Nat} {E : L2.St → XK} {x : Str} {e : Expr} {es : List Expr} {p pos : Pos} {t0 : TE} {t : TA} {S : Addr → Sp → Prop}
theorem pe_callVS (A : ∀ f sp, S f sp → HeldX X.prog X.w X.K X.mg X.base k f sp) (room : Room k X.A) (h0 : PE X (.Name x p) t0) (hx : ∀ σ, PassesAt (L2.CX X.prog X.w) X σ (E σ)) (ha : PA X (e :: es) t)
    (he : starEach (e :: es) X.env = (false, eval e X.env) :: starEach es X.env := by rfl) (hpl : (backTo pos (starEach es X.env)).any (·.1) = false := by rfl) :
    PE X (.Call (.Name x p) (e :: es) [] pos) (tCallVS S E t0 t) := ⟨fun pins s σ H Q I h => by
  refine wpAny_Call_Name_kw (thn (h0.run pins s σ H _ I h) fun u s1 ⟨v, H1, I1, r1, f, sp, ev, hS, ht⟩ => ?_)
  subst ev
  cases r1
  obtain ⟨fd, ps, j, F, hj, kp, b⟩ := (A f sp hS).ex
  refine PySem.W.callWith_K (h₀ := X.base) I1.ok.mod.kin kp (thn (ha.run pos pins s1 σ _ _ I1 ht) fun us s2 ⟨vs, H2, I2, r, q⟩ => ?_) he hpl
  exact ⟨I2.kIn, run_fnS F (room.mono hj) b (hx σ) I2 r q⟩⟩
end
end Lk
/-! enumerate(a text) -/
namespace Lk
open PySem PySem.Spec PyProof.Rows L2 G
/-- a text's signs, each with its place in a new pair -/
def Ites (x : Str) : It where
  go := fun i _ => i < x.cps.size
  yld := fun i H v H' => ∃ (T : Addr) (c : Nat), v = .ref T ∧ H T = none ∧ H' = upd H T (.tup [.int (i : Nat), .str ⟨#[c]⟩]) ∧ x.cps[i]? = some c
  stop := fun i _ => x.cps.size ≤ i
section
variable {P : Program} {w : World} {K : PySem.W.Frag} {elts : List Expr} {kk : Nat} {tpos : Pos}
theorem turn_enumS (e it : Addr) (x : Str) (t : Tok) (ty : String) (hty : ty = "str_ascii_iterator" ∨ ty = "str_iterator") :
    Turn P w K (.Tuple elts kk tpos) (Ites x) [e, it] e fun i h => (∃ old, IsEnum h e it ((i : Nat) : Int) old) ∧ h.IsStrIter it ty x t i ∧ e ≠ it where
  mem := List.mem_cons_self
  obj := fun i h ⟨⟨old, he⟩, ⟨o, ho, hc, hd⟩, _⟩ b hb => by
    rcases List.mem_cons.1 hb with rfl | hb
    · exact ⟨_, he, fun v q => nomatch q⟩
    · rw [List.mem_singleton.1 hb]
      exact ⟨o, ho, fun v q => by rw [hd] at q; cases q⟩
  keep := fun i h h' ⟨⟨old, he⟩, ⟨o, ho, r⟩, ne⟩ k => ⟨⟨old, k e List.mem_cons_self _ he⟩, ⟨o, k it (List.mem_cons_of_mem _ List.mem_cons_self) o ho, r⟩, ne⟩
  item := by
    intro X e1 e2 e3 cm i pins s σ H E I hf ⟨⟨old, he⟩, hit, hne⟩ lt
    subst e1 e2 e3
    have D : Draws X.prog X.w X.A.in1 it [it] x.cps.size (SignAt x) (fun i h => h.IsStrIter it ty x t i) := by
      rcases hty with e | e
      · rw [e]
        exact Draws.strAscii (A := X.A.in1) (I.ok.hd cm) it x t
      · rw [e]
        exact Draws.strWide (A := X.A.in1) (I.ok.hd cm) it x t
    have hel : e < s.heap.objs.size := Heap.lt_size he
    have hil : it < s.heap.objs.size := by
      obtain ⟨_, q, _⟩ := id hit
      exact Heap.lt_size q
    refine wpAny_pyNext_enum_itemD D he hit lt hne (fun z => hne (List.mem_singleton.1 z)) fun y h' tk hy ho hit' hT hsz hk => ?_
    obtain ⟨c, u, hc, rfl⟩ := hy
    refine ⟨_, rfl, wpAny_letOwnedTupleGo_enum (s := { s with heap := h', toks := tk + 1 }) ho fun h'' he' sb => ?_⟩
    have hT2 : h''.get? s.heap.objs.size = some { cls := .type "tuple", data := .seq #[.int i tk, .str ⟨#[c]⟩ u] } := (sb.2 _ (Nat.ne_of_gt hel)).trans hT
    have new : ObjOk X.prog X.w (upd H s.heap.objs.size (.tup [.int (i : Nat), .str ⟨#[c]⟩])) h'' s.heap.objs.size (.tup [.int (i : Nat), .str ⟨#[c]⟩]) :=
      ⟨by show 2 ≤ sizeLine; decide, [.int i tk, .str ⟨#[c]⟩ u], .cons ⟨_, rfl⟩ (.cons ⟨_, rfl⟩ .nil), ⟨_, hT2, rfl, _, rfl⟩⟩
    have I1 : Inv X pins σ (upd H s.heap.objs.size (.tup [.int (i : Nat), .str ⟨#[c]⟩])) { s with heap := h'', toks := tk + 1 } :=
      I.turnedNew (ch := [e, it]) (fun b ob hb q => (sb.2 b (fun z => hb (List.mem_cons.2 (.inl z)))).trans (hk b ob (fun z => hb (List.mem_cons.2 (.inl z))) (fun z => hb (List.mem_cons.2 (.inr (List.mem_singleton.2 z)))) q)) hf (Nat.le_refl _) new
    refine ⟨.ref s.heap.objs.size, _, I1, rfl, ⟨_, c, rfl, I.hok.fresh (Nat.le_refl _), rfl, hc⟩, ⟨⟨.str ⟨#[c]⟩ u, ?_⟩, ?_, hne⟩, fun b hb => ?_⟩
    · have q : ((i + 1 : Nat) : Int) = (i : Int) + 1 := by omega
      rw [q]
      exact he'
    · obtain ⟨o, g1, g2⟩ := hit'
      exact ⟨o, (sb.2 it (Ne.symm hne)).trans g1, g2⟩
    · have hb' : b < s.heap.objs.size := by
        rcases List.mem_cons.1 hb with rfl | hb
        · exact hel
        · rw [List.mem_singleton.1 hb]
          exact hil
      rw [upd_ne (Nat.ne_of_lt hb')]
      exact (hf b hb).1
  done := by
    intro X e1 e2 e3 cm i pins s σ H E I hf ⟨⟨old, he⟩, hit, hne⟩ ge
    subst e1 e2 e3
    obtain ⟨f0, f1, _, f3, f4, f5⟩ := hf it (List.mem_cons_of_mem _ List.mem_cons_self)
    have none_at : x.cps[i]? = none := Array.getElem?_eq_none ge
    have D : Draws X.prog X.w X.A.in1 it [it] i (fun _ _ => False) (fun j h => h.IsStrIter it ty x t j ∧ i ≤ j) := {
      live := fun _ _ st => let ⟨⟨o, ho, _⟩, _⟩ := st; ⟨o, ho⟩
      frame := fun _ _ _ st hk => let ⟨⟨o, ho, r⟩, z⟩ := st; ⟨⟨o, hk it List.mem_cons_self o ho, r⟩, z⟩
      item := fun j s Q E lt st _ => absurd lt (Nat.not_lt_of_le st.2)
      done := fun s' Q E st hE => by
        rcases hty with e | e
        · rw [e] at st
          exact wpAny_nextOf_ascii_end (A := X.A.in1) (I.ok.hd cm) st.1 none_at hE
        · rw [e] at st
          exact wpAny_nextOf_wide_end (A := X.A.in1) (I.ok.hd cm) st.1 none_at hE }
    exact wpAny_pyNext_enum_endD D he ⟨hit, Nat.le_refl _⟩ fun h' eb => ⟨rfl, I.turned (t' := s.toks) (fun b o hb q => eb b o hb q) f0 f1 f3 f4 f5⟩
  self := fun A i s Q E ⟨⟨_, he⟩, _⟩ h => wpAny_pyIter_enum he h
end
def iEnumS (ta : TA) : TI := fun σ H R => ta σ H fun vs H1 => ∃ x : Str, vs = [.str x] ∧ R (Ites x) H1
theorem walk_enumS {x : Str} : Walk (Ites x) x.cps.size (fun _ => True) (fun i H v H' => ∃ (T : Addr) (c : Nat), v = .ref T ∧ H T = none ∧ H' = upd H T (.tup [.int (i : Nat), .str ⟨#[c]⟩]) ∧ x.cps[i]? = some c) :=
  ⟨fun _ _ lt _ => lt, fun _ _ => Nat.le_refl _, fun _ _ _ _ _ _ y => y⟩
section
theorem pi_enumS {X : Cx} {e : Expr} {ta : TA} {p pos tpos : Pos} {elts : List Expr} {kk : Nat} (hg : Gl X "enumerate") (hm : X.mg "enumerate" = none) (ha : PA X [e] ta) (hs : starEach [e] X.env = [(false, eval e X.env)] := by rfl) :
    PI X (.Tuple elts kk tpos) (.Call (.Name "enumerate" p) [e] [] pos) (iEnumS ta) := ⟨fun pins s σ H R I h => by
  refine Call_ (ld_blt I hg hm boot_enumerate (PyProof.Rows.callWith_type1 (thn (ha.run pos pins s σ H _ I h) fun us s1 ⟨vs, H1, I1, r1, q1⟩ => ?_) hs rfl))
  obtain ⟨x, ex, q⟩ := q1
  subst ex
  obtain ⟨u, eu, rx⟩ := vals1 r1
  subst eu
  obtain ⟨t, rfl⟩ := rx
  refine call_enumerate_str fun h' he hit hsz hk => wpAny_pyIter_enum he ?_
  have I2 : Inv X pins σ H1 { s1 with heap := h' } := I1.kept (t' := s1.toks) hk
  refine ⟨s1.heap.objs.size + 1, [s1.heap.objs.size + 1, s1.heap.objs.size], _, _, H1, rfl, I2, turn_enumS (s1.heap.objs.size + 1) s1.heap.objs.size x t (strIterType x) ?_, ⟨⟨.none, he⟩, hit, Nat.succ_ne_self _⟩, fun b hb => ?_, q⟩
  · unfold strIterType
    split
    · exact .inl rfl
    · exact .inr rfl
  · have hle : s1.heap.objs.size ≤ b := by
      rcases List.mem_cons.1 hb with rfl | hb
      · exact Nat.le_add_right _ _
      · rw [List.mem_singleton.1 hb]
        exact Nat.le_refl _
    exact I1.fpOk hle (I1.hok.fresh hle)⟩
end
end Lk

/-! A dict from all calls to their values, None for a call without one. -/
namespace Lk
open PySem PySem.Spec PyProof.Rows L2 G
def OvAt (H : Hp) (v : V) : Option Wt → Prop
  | none => v = .non
  | some w => VlAt H v w
theorem OvAt.mono {H H' : Hp} {v : V} {o : Option Wt} (h : OvAt H v o) (s : Same H H') : OvAt H' v o := by
  cases o with
  | none => exact h
  | some w => exact VlAt.mono h s
theorem OvAt.any {S T : List Addr} {H : Hp} {v : V} {o : Option Wt} (h : OvAt (off S H) v o) (n : ∀ a ∈ T, NoTup H a) : OvAt (off T H) v o := by
  cases o with
  | none => exact h
  | some w => exact VlAt.any h n
inductive OvE (H : Hp) (f : Cl → Option Wt) : List (List Key × V) → List Cl → Prop
  | nil : OvE H f [] []
  | cons {c : Cl} {v : V} {kvs : List (List Key × V)} {cs : List Cl} : OvAt H v (f c) → OvE H f kvs cs → OvE H f ((ckey c, v) :: kvs) (c :: cs)
section
variable {H H' : Hp} {f g : Cl → Option Wt} {kvs : List (List Key × V)} {cs : List Cl}
theorem OvE.mono (h : OvE H f kvs cs) (s : Same H H') : OvE H' f kvs cs := by
  induction h with
  | nil => exact .nil
  | cons a _ ih => exact .cons (a.mono s) ih
theorem OvE.any {S T : List Addr} (h : OvE (off S H) f kvs cs) (n : ∀ a ∈ T, NoTup H a) : OvE (off T H) f kvs cs := by
  induction h with
  | nil => exact .nil
  | cons a _ ih => exact .cons (a.any n) ih
theorem OvE.congr (h : OvE H f kvs cs) (e : ∀ c ∈ cs, f c = g c) : OvE H g kvs cs := by
  induction h with
  | nil => exact .nil
  | cons a _ ih => exact .cons (by rw [← e _ List.mem_cons_self]; exact a) (ih fun c hc => e c (List.mem_cons_of_mem _ hc))
theorem OvE.get (h : OvE H f kvs cs) {c : Cl} (hc : c ∈ cs) : ∃ v, valV kvs (ckey c) = some v ∧ OvAt H v (f c) := by
  induction h with
  | nil => cases hc
  | @cons d v kvs cs a _ ih =>
    by_cases e : d = c
    · subst e
      exact ⟨v, valV_pos rfl, a⟩
    · rw [valV_neg (fun z => e (ckey_inj z))]
      rcases List.mem_cons.1 hc with z | z
      · exact absurd z.symm e
      · exact ih z
theorem OvE.len (h : OvE H f kvs cs) : kvs.length = cs.length := by
  induction h with
  | nil => rfl
  | cons _ _ ih => exact congrArg (· + 1) ih
theorem OvE.put (h : OvE H f kvs cs) {c : Cl} {v : V} (hc : c ∈ cs) (a : OvAt H v (g c)) (e : ∀ d, d ≠ c → g d = f d) : OvE H g (putK kvs (ckey c) v) cs := by
  have any1 : (kvs.any fun kv => decide (kv.1 = ckey c)) = true := by
    rw [valV_any]
    obtain ⟨w, hw, _⟩ := h.get hc
    rw [hw]
    rfl
  unfold putK
  rw [if_pos any1]
  clear any1 hc
  induction h with
  | nil => exact .nil
  | @cons d w kvs cs b _ ih =>
    rw [List.map_cons]
    by_cases z : d = c
    · subst z
      rw [if_pos rfl]
      exact .cons a ih
    · rw [if_neg (fun q => z (ckey_inj q))]
      exact .cons (by rw [e d z]; exact b) ih
theorem OvE.at_ (h : OvE H f kvs cs) : ∀ {i : Nat} {kv : List Key × V}, kvs[i]? = some kv → ∃ c, cs[i]? = some c ∧ kv.1 = ckey c ∧ OvAt H kv.2 (f c) := by
  induction h with
  | nil =>
    intro i kv e
    cases e
  | @cons c v kvs cs a _ ih =>
    intro i kv e
    cases i with
    | zero =>
      cases e
      exact ⟨c, rfl, rfl, a⟩
    | succ i => exact ih e
end
/-- the dict of all calls -/
def OvD (S : List Addr) (H : Hp) (d : Addr) (cs : List Cl) (f : Cl → Option Wt) : Prop := ∃ kvs, H d = some (.dT kvs) ∧ OvE (off S H) f kvs cs
section
variable {S T : List Addr} {H H' : Hp} {d : Addr} {cs : List Cl} {f : Cl → Option Wt}
theorem OvD.keep (h : OvD S H d cs f) (k : Keep S H H') (e : H' d = H d) : OvD S H' d cs f := by
  obtain ⟨kvs, h1, h2⟩ := h
  exact ⟨kvs, e.trans h1, h2.mono k⟩
theorem OvD.same (h : OvD S H d cs f) (s : Same H H') : OvD S H' d cs f := by
  obtain ⟨kvs, h1, h2⟩ := h
  exact ⟨kvs, s _ _ h1, h2.mono (Keep.of s)⟩
theorem OvD.any (h : OvD S H d cs f) (n : ∀ a ∈ T, NoTup H a) : OvD T H d cs f := by
  obtain ⟨kvs, h1, h2⟩ := h
  exact ⟨kvs, h1, h2.any n⟩
theorem OvD.noTup (h : OvD S H d cs f) : NoTup H d := by
  obtain ⟨kvs, h1, _⟩ := h
  exact .dT h1
end
section
variable {z : Str} {ss : List PyData}
theorem signs_nodup (h : SignsP z) : z.cps.toList.Nodup := by
  have h : (allIn "abcdefghijklmnopqrstuvwxyz" z && ((decide (1 ≤ z.length) && decide (z.length ≤ 4)) && Ls.ascB z)) = true := h
  rw [Bool.and_eq_true, Bool.and_eq_true] at h
  have p : z.cps.toList.Pairwise (· < ·) := of_decide_eq_true h.2.2
  exact p.imp fun h e => by omega
theorem nodup_map {α β : Type} {f : α → β} (inj : ∀ a b, f a = f b → a = b) {l : List α} (h : l.Nodup) : (l.map f).Nodup := List.Pairwise.map f (fun a b ne e => ne (inj a b e)) h
theorem calls_nodup (h : z.cps.toList.Nodup) : ∀ n, (callsOf z n).Nodup
  | 0 => .nil
  | n + 1 => by
    rw [callsOf_succ, List.nodup_append]
    refine ⟨calls_nodup h n, nodup_map (fun a b e => by injection e) h, fun a ha b hb e => ?_⟩
    obtain ⟨x, _, rfl⟩ := List.mem_map.1 hb
    have := (callsOf_mem.1 ha).1
    rw [e] at this
    exact absurd this (Nat.lt_irrefl _)
theorem ckey_nodup {cs : List Cl} (h : cs.Nodup) : (cs.map ckey).Nodup := nodup_map (fun a b e => ckey_inj e) h
/-- what the laps tell of the calls -/
theorem laps_valOf (ok : StatesOk z ss) : look (laps z ss (callsOf z ss.length) (callsOf z ss.length).length []) = valOf z ss := funext fun c => by
  cases e : valOf z ss c with
  | some w => exact (laps_vals ok).1 (valOf_some.1 e)
  | none =>
    cases e1 : look (laps z ss (callsOf z ss.length) (callsOf z ss.length).length []) c with
    | none => rfl
    | some w => exact absurd ((laps_vals ok).2 e1) (valOf_none.1 e w)
end
end Lk

/-! Outcomes; runs sign by sign, how many steps they take, and where each sign comes from. -/
namespace Lk
open PySem PySem.Spec PyProof.Rows L2 G
section
variable {z : Str} {ss : List PyData}
/-- the outcome of a text -/
noncomputable def outOf (z f : Str) (ss : List PyData) (t : Str) : Option (List Nat) := match rd (valOf z ss) t.cps.toList (f.cps.toList, 0) with
  | none => none
  | some ug => match lastD ss ug.2 with
    | .str w => some (ug.1 ++ w.cps.toList)
    | _ => none
def outV : Option (List Nat) → V
  | none => .non
  | some u => .str (tx u)
theorem outOf_stuck {f t : Str} (h : rd (valOf z ss) t.cps.toList (f.cps.toList, 0) = none) : outOf z f ss t = none := by
  unfold outOf
  rw [h]
theorem outOf_last {f t : Str} {u : List Nat} {g : Nat} (h : rd (valOf z ss) t.cps.toList (f.cps.toList, 0) = some (u, g)) (e : lastD ss g = .none) : outOf z f ss t = none := by
  unfold outOf
  rw [h]
  dsimp only
  rw [e]
theorem outOf_some {f t w : Str} {u : List Nat} {g : Nat} (h : rd (valOf z ss) t.cps.toList (f.cps.toList, 0) = some (u, g)) (e : lastD ss g = .str w) : outOf z f ss t = some (u ++ w.cps.toList) := by
  unfold outOf
  rw [h]
  dsimp only
  rw [e]
/-- signs read from a state on: what is done, the state then, the steps -/
inductive Runs (z : Str) (ss : List PyData) : Nat → List Nat → List Nat → Nat → Nat → Prop
  | nil (g : Nat) : Runs z ss g [] [] g 0
  | cons {g d g1 g2 k1 k2 : Nat} {m : List Nat × List Nat × Nat} {r w1 w2 : List Nat} : mv z ss (g, d) = some m → Runs z ss m.2.2 m.2.1 w1 g1 k1 → Runs z ss g1 r w2 g2 k2 → Runs z ss g (d :: r) (m.1 ++ w1 ++ w2) g2 (1 + k1 + k2)
theorem Runs.append {g g1 g2 k1 k2 : Nat} {l r w1 w2 : List Nat} (h : Runs z ss g l w1 g1 k1) (k : Runs z ss g1 r w2 g2 k2) : Runs z ss g (l ++ r) (w1 ++ w2) g2 (k1 + k2) := by
  induction h with
  | nil g => simpa using k
  | @cons g d ga gb ka kb m r' wa wb hm h1 h2 _ ih =>
    have := Runs.cons hm h1 (ih k)
    rw [List.cons_append, List.append_assoc (m.1 ++ wa)]
    have e : 1 + ka + kb + k2 = 1 + ka + (kb + k2) := by omega
    rw [e]
    exact this
theorem Runs.one {c : Cl} {w : List Nat} {g k : Nat} {m : List Nat × List Nat × Nat} (hm : mv z ss c = some m) (h : Runs z ss m.2.2 m.2.1 w g k) : Runs z ss c.1 [c.2] (m.1 ++ w) g (1 + k) := by
  have := Runs.cons (d := c.2) (g := c.1) hm h (.nil g)
  simpa using this
/-- a run tells a value -/
theorem Runs.rd {g g' k : Nat} {l w : List Nat} (h : Runs z ss g l w g' k) : ∀ a : List Nat, Lk.rd (valOf z ss) l (a, g) = some (a ++ w, g') := by
  induction h with
  | nil g =>
    intro a
    rw [List.append_nil]
    rfl
  | @cons g d g1 g2 k1 k2 m r w1 w2 hm h1 h2 ih1 ih2 =>
    intro a
    have e1 : valOf z ss (g, d) = some (m.1 ++ w1, g1) := valOf_some.2 (Val.of (fun c v h => valOf_some.1 h) hm (ih1 m.1))
    rw [rd_some (a := (a, g)) e1]
    show Lk.rd (valOf z ss) r (a ++ (m.1 ++ w1), g1) = _
    rw [ih2, List.append_assoc a (m.1 ++ w1) w2]
/-- what is read with so many calls within one another is a run -/
theorem runs_ev : ∀ (n : Nat) (l : List Nat) (a b : Wt), Lk.rd (ev z ss n) l a = some b → ∃ w k, b.1 = a.1 ++ w ∧ Runs z ss a.2 l w b.2 k
  | n, [], a, b, h => by
    cases h
    exact ⟨[], 0, (List.append_nil _).symm, .nil _⟩
  | 0, d :: l, a, b, h => by
    obtain ⟨v, e1, _⟩ := rd_cons h
    cases e1
  | n + 1, d :: l, a, b, h => by
    obtain ⟨v, e1, e2⟩ := rd_cons h
    cases em : mv z ss (a.2, d) with
    | none =>
      rw [ev_stop em] at e1
      cases e1
    | some m =>
      rw [ev_step em] at e1
      obtain ⟨w1, k1, q1, h1⟩ := runs_ev n m.2.1 (m.1, m.2.2) v e1
      obtain ⟨w2, k2, q2, h2⟩ := runs_ev (n + 1) l (a.1 ++ v.1, v.2) b e2
      have q1 : v.1 = m.1 ++ w1 := q1
      have q2 : b.1 = a.1 ++ v.1 ++ w2 := q2
      refine ⟨m.1 ++ w1 ++ w2, 1 + k1 + k2, ?_, .cons em h1 h2⟩
      rw [q2, q1]
      simp only [List.append_assoc]
theorem runs_rd {l : List Nat} {a b : Wt} (h : Lk.rd (valOf z ss) l a = some b) : ∃ w k, b.1 = a.1 ++ w ∧ Runs z ss a.2 l w b.2 k := by
  obtain ⟨n, hn⟩ := rd_fuel (fun c v h => valOf_some.1 h) h
  exact runs_ev n l a b hn
theorem Runs.det {g g1 k1 : Nat} {l w1 : List Nat} (h : Runs z ss g l w1 g1 k1) : ∀ {g2 k2 : Nat} {w2 : List Nat}, Runs z ss g l w2 g2 k2 → w1 = w2 ∧ g1 = g2 ∧ k1 = k2 := by
  induction h with
  | nil g =>
    intro g2 k2 w2 h
    cases h
    exact ⟨rfl, rfl, rfl⟩
  | cons hm h1 h2 ih1 ih2 =>
    intro g2 k2 w2 h
    cases h with
    | cons hm' h1' h2' =>
      rw [hm] at hm'
      cases hm'
      obtain ⟨rfl, rfl, rfl⟩ := ih1 h1'
      obtain ⟨rfl, rfl, rfl⟩ := ih2 h2'
      exact ⟨rfl, rfl, rfl⟩
/-- the steps of a call -/
def StepsOf (z : Str) (ss : List PyData) (c : Cl) (k : Nat) : Prop := ∃ w g, Runs z ss c.1 [c.2] w g k
theorem StepsOf.det {c : Cl} {k l : Nat} (h : StepsOf z ss c k) (h' : StepsOf z ss c l) : k = l := by
  obtain ⟨w, g, h⟩ := h
  obtain ⟨w', g', h'⟩ := h'
  exact (h.det h').2.2
/-- marked signs in front, each with its place: what is done, sign by sign by its place, the state at the end, the steps -/
inductive MRuns (z : Str) (ss : List PyData) : Nat → List (Nat × Nat) → List Nat → Nat → Nat → Prop
  | nil (g : Nat) : MRuns z ss g [] [] g 0
  | cons {g d p g' k : Nat} {m : List Nat × List Nat × Nat} {r : List (Nat × Nat)} {o : List Nat} : mv z ss (g, d) = some m → MRuns z ss m.2.2 (m.2.1.map (fun x => (x, p)) ++ r) o g' k → MRuns z ss g ((d, p) :: r) (List.replicate m.1.length p ++ o) g' (k + 1)
theorem Runs.marked {g g1 k1 : Nat} {l w : List Nat} (h : Runs z ss g l w g1 k1) : ∀ {p g2 k2 : Nat} {r : List (Nat × Nat)} {o : List Nat}, MRuns z ss g1 r o g2 k2 → MRuns z ss g (l.map (fun x => (x, p)) ++ r) (List.replicate w.length p ++ o) g2 (k1 + k2) := by
  induction h with
  | nil g =>
    intro p g2 k2 r o h
    simpa using h
  | @cons g d ga gb ka kb m r' wa wb hm h1 h2 ih1 ih2 =>
    intro p g2 k2 r o h
    have a := ih1 (p := p) (ih2 (p := p) h)
    have b := MRuns.cons (p := p) hm a
    have e1 : List.replicate (m.1 ++ wa ++ wb).length p ++ o = List.replicate m.1.length p ++ (List.replicate wa.length p ++ (List.replicate wb.length p ++ o)) := by
      rw [List.length_append, List.length_append, ← List.append_assoc, ← List.append_assoc, List.replicate_append_replicate, List.replicate_append_replicate]
    rw [e1]
    have e2 : 1 + ka + kb + k2 = ka + (kb + k2) + 1 := by omega
    rw [e2]
    exact b
/-- where the signs of a text's words come from -/
def origW : Nat → List (List Nat) → List Nat
  | _, [] => []
  | i, w :: ws => List.replicate w.length i ++ origW (i + 1) ws
theorem origW_append : ∀ (i : Nat) (a b : List (List Nat)), origW i (a ++ b) = origW i a ++ origW (i + a.length) b
  | i, [], b => rfl
  | i, w :: a, b => by
    show List.replicate w.length i ++ origW (i + 1) (a ++ b) = List.replicate w.length i ++ origW (i + 1) a ++ origW (i + (a.length + 1)) b
    rw [origW_append (i + 1) a b, List.append_assoc, show i + 1 + a.length = i + (a.length + 1) by omega]
theorem mem_origW : ∀ (i : Nat) (ws : List (List Nat)) (x : Nat), x ∈ origW i ws ↔ ∃ j w, ws[j]? = some w ∧ x = i + j ∧ w ≠ []
  | i, [], x => ⟨fun h => (by cases h), fun ⟨j, w, h, _⟩ => (by cases h)⟩
  | i, u :: ws, x => by
    show x ∈ List.replicate u.length i ++ origW (i + 1) ws ↔ _
    rw [List.mem_append, List.mem_replicate, mem_origW (i + 1) ws x]
    constructor
    · rintro (⟨h1, rfl⟩ | ⟨j, w, h1, rfl, h2⟩)
      · exact ⟨0, u, rfl, rfl, fun e => h1 (by rw [e]; rfl)⟩
      · exact ⟨j + 1, w, h1, by omega, h2⟩
    · rintro ⟨j, w, h1, rfl, h2⟩
      cases j with
      | zero =>
        cases h1
        exact .inl ⟨fun e => h2 (List.eq_nil_of_length_eq_zero e), rfl⟩
      | succ j => exact .inr ⟨j, w, h1, by omega, h2⟩
/-- a text, each sign marked by its place -/
def markT : Nat → List Nat → List (Nat × Nat)
  | _, [] => []
  | i, d :: r => (d, i) :: markT (i + 1) r
/-- the run of a marked text -/
theorem text_runs : ∀ {l : List Nat} {a b : Wt} (i : Nat), Lk.rd (valOf z ss) l a = some b → ∃ k, MRuns z ss a.2 (markT i l) (origW i ((runC (valOf z ss) l a.2).map (wordOf (valOf z ss)))) b.2 k ∧ Runs z ss a.2 l ((runC (valOf z ss) l a.2).map (wordOf (valOf z ss))).flatten b.2 k
  | [], a, b, i, h => by
    cases h
    exact ⟨0, .nil _, .nil _⟩
  | d :: l, a, b, i, h => by
    obtain ⟨v, e1, e2⟩ := rd_cons h
    obtain ⟨k, h1, h2⟩ := text_runs (a := (a.1 ++ v.1, v.2)) (i + 1) e2
    have ew : wordOf (valOf z ss) (a.2, d) = v.1 := by
      unfold wordOf
      rw [e1]
    have er : Lk.rd (valOf z ss) [d] ([], a.2) = some v := by
      rw [rd_some (a := ([], a.2)) e1]
      rfl
    obtain ⟨w, k1, q, hr⟩ := runs_rd er
    have q : v.1 = [] ++ w := q
    rw [List.nil_append] at q
    subst q
    have m := hr.marked (p := i) h1
    rw [runC_some e1, List.map_cons, ew]
    exact ⟨k1 + k, m, hr.append h2⟩
/-- the steps of a text, call by call -/
theorem text_steps : ∀ {l : List Nat} {a b : Wt} {w : List Nat} {k : Nat}, Lk.rd (valOf z ss) l a = some b → Runs z ss a.2 l w b.2 k → ∀ ks : List Nat, ks.length = (runC (valOf z ss) l a.2).length → (∀ (j : Nat) (c : Cl) (k : Nat), (runC (valOf z ss) l a.2)[j]? = some c → ks[j]? = some k → StepsOf z ss c k) → ks.sum = k
  | [], a, b, w, k, h, hr, ks, hl, hs => by
    cases h
    obtain ⟨_, _, rfl⟩ := hr.det (Runs.nil a.2)
    cases ks with
    | nil => rfl
    | cons x r => cases hl
  | d :: l, a, b, w, k, h, hr, ks, hl, hs => by
    obtain ⟨v, e1, e2⟩ := rd_cons h
    rw [runC_some e1] at hl hs
    cases ks with
    | nil => cases hl
    | cons x r =>
      cases hr with
      | @cons g d g1 g2 k1 k2 m r' w1 w2 hm h1 h2 =>
        have ev1 : valOf z ss (a.2, d) = some (m.1 ++ w1, g1) := valOf_some.2 (Val.of (fun c v h => valOf_some.1 h) hm (h1.rd m.1))
        rw [e1] at ev1
        have ev1 := Option.some.inj ev1
        subst ev1
        have hx : x = 1 + k1 := (hs 0 _ x rfl rfl).det ⟨_, _, .one hm h1⟩
        have ht := text_steps (a := (a.1 ++ (m.1 ++ w1), g1)) e2 h2 r (Nat.succ.inj hl) fun j c k hc hk => hs (j + 1) c k hc hk
        rw [List.sum_cons, ht, hx]
end
end Lk
namespace Lk
open PySem PySem.Spec PyProof.Rows L2 G
section
variable {z : Str} {ss : List PyData}
open Classical in
/-- how many steps a call takes -/
noncomputable def stp (z : Str) (ss : List PyData) (c : Cl) : Nat := if h : ∃ k, StepsOf z ss c k then h.choose else 0
theorem stp_of {c : Cl} {k : Nat} (h : StepsOf z ss c k) : stp z ss c = k := by
  unfold stp
  rw [dif_pos ⟨k, h⟩]
  exact (Exists.choose_spec (⟨k, h⟩ : ∃ k, StepsOf z ss c k)).det h
theorem sum_ints (l : List Nat) : (l.map fun k : Nat => (k : Int)).sum = ((l.sum : Nat) : Int) := by
  induction l with
  | nil => rfl
  | cons x r ih =>
    rw [List.map_cons, List.sum_cons, ih, List.sum_cons]
    omega
/-- a reading that comes to its end is not stopped -/
theorem stuck_none {f : Cl → Option Wt} : ∀ {l : List Nat} {a b : Wt}, rd f l a = some b → stuckAt f l a.2 = none
  | [], a, b, h => rfl
  | d :: l, a, b, h => by
    obtain ⟨v, e1, e2⟩ := rd_cons h
    rw [stuckAt_some e1]
    exact stuck_none (a := (a.1 ++ v.1, v.2)) e2
/-- a reading comes to its end, or is stopped -/
theorem rd_ways {f : Cl → Option Wt} : ∀ {l : List Nat} {a : Wt}, (∃ b, rd f l a = some b) ∨ (rd f l a = none ∧ ∃ c, stuckAt f l a.2 = some c)
  | [], a => .inl ⟨a, rfl⟩
  | d :: l, a => by
    cases e : f (a.2, d) with
    | none => exact .inr ⟨rd_none e, _, stuckAt_none e⟩
    | some v =>
      rw [rd_some e, stuckAt_some e]
      exact rd_ways (l := l) (a := (a.1 ++ v.1, v.2))
end
end Lk

/-! Two expanders known beforehand: one that takes many steps, one that waits for itself. -/
namespace Lk
open PySem PySem.Spec PyProof.Rows L2 G
/-- a does nothing, b puts A back, c puts B back -/
def manyS (A B l : Str) : List PyData := [.tuple [.tuple [.tuple [.str "", .str "", .int 0], .tuple [.str "", .str A, .int 0], .tuple [.str "", .str B, .int 0]], .str l]]
theorem shortB_of {z w : Str} (h : allIn z w = true) (h2 : w.length ≤ 2000) : shortB z (.str w) = true := by
  show (allIn z w && decide (w.length ≤ 2000)) = true
  rw [h, decide_eq_true h2]
  rfl
theorem moveB_of {z x y : Str} {n g : Int} (hx : shortB z (.str x) = true) (hy : shortB z (.str y) = true) (h0 : 0 ≤ g) (h1 : g < n) : moveB z n (.tuple [.str x, .str y, .int g]) = true := by
  show (shortB z (.str x) && (shortB z (.str y) && (decide (0 ≤ g) && decide (g < n)))) = true
  rw [hx, hy, decide_eq_true h0, decide_eq_true h1]
  rfl
section
variable {A B l : Str}
theorem many_exp (a1 : A.length ≤ 2000) (a2 : allIn "abc" A = true) (b1 : B.length ≤ 2000) (b2 : allIn "abc" B = true) (l1 : l.length ≤ 2000) (l2 : allIn "abc" l = true) : expB (.tuple [.str "abc", .str "", .tuple (manyS A B l)]) = true := by
  have he : shortB "abc" (.str "") = true := by decide +kernel
  have hg : signsB (.str "abc") = true := by decide +kernel
  have hA := shortB_of a2 a1
  have hB := shortB_of b2 b1
  have hl := shortB_of l2 l1
  have m1 : moveB "abc" ((1 : Nat) : Int) (.tuple [.str "", .str "", .int 0]) = true := moveB_of he he (by decide) (by decide)
  have m2 : moveB "abc" ((1 : Nat) : Int) (.tuple [.str "", .str A, .int 0]) = true := moveB_of he hA (by decide) (by decide)
  have m3 : moveB "abc" ((1 : Nat) : Int) (.tuple [.str "", .str B, .int 0]) = true := moveB_of he hB (by decide) (by decide)
  have hst : stateB "abc" ((1 : Nat) : Int) (.tuple [.tuple [.tuple [.str "", .str "", .int 0], .tuple [.str "", .str A, .int 0], .tuple [.str "", .str B, .int 0]], .str l]) = true := by
    show (decide (3 = ("abc" : Str).length) && ((isNone (.str l) || shortB "abc" (.str l)) && ((isNone _ || moveB "abc" ((1 : Nat) : Int) (.tuple [.str "", .str "", .int 0])) && ((isNone _ || moveB "abc" ((1 : Nat) : Int) (.tuple [.str "", .str A, .int 0])) && ((isNone _ || moveB "abc" ((1 : Nat) : Int) (.tuple [.str "", .str B, .int 0])) && true))))) = true
    rw [m1, m2, m3, hl]
    rfl
  show (signsB (.str "abc") && (shortB "abc" (.str "") && ((decide (1 ≤ 1) && decide (1 ≤ 60)) && ((stateB "abc" ((1 : Nat) : Int) (.tuple [.tuple [.tuple [.str "", .str "", .int 0], .tuple [.str "", .str A, .int 0], .tuple [.str "", .str B, .int 0]], .str l])) && true)))) = true
  rw [hg, he, hst]
  rfl
theorem exp_ok {z f : Str} {ss : List PyData} (h : expB (.tuple [.str z, .str f, .tuple ss]) = true) : StatesOk z ss := by
  obtain ⟨z', f', ss', e, hzs, _, l1, l60, hss⟩ := expB_parts h
  cases e
  exact ⟨hzs, l1, l60, hss⟩
theorem many_light (a1 : A.length ≤ 2000) (b1 : B.length ≤ 2000) (l1 : l.length ≤ 2000) : Light (.tuple [.str "abc", .str "", .tuple (manyS A B l)]) := by
  have e1 : (Str.ofString "abc").cps.size = 3 := by decide +kernel
  have e2 : (Str.ofString "").cps.size = 0 := by decide +kernel
  have a1 : A.cps.size ≤ 2000 := a1
  have b1 : B.cps.size ≤ 2000 := b1
  have l1 : l.cps.size ≤ 2000 := l1
  have e0 : (if ((0 : Int) == 0) = true then 0 else (Int.natAbs 0).log2 + 1) = 0 := rfl
  unfold Light manyS
  simp only [PyData.weight, PyData.weightAll, e1, e2, e0]
  omega
theorem many_a : mv "abc" (manyS A B l) (0, 97) = some ([], [], 0) := by
  have e : Builtin.Str.occurrences ("abc" : Str) (Ls.one 97) 0 ("abc" : Str).length 1 = [0] := by decide +kernel
  unfold mv moveD
  rw [e]
  rfl
theorem many_b : mv "abc" (manyS A B l) (0, 98) = some ([], A.cps.toList, 0) := by
  have e : Builtin.Str.occurrences ("abc" : Str) (Ls.one 98) 0 ("abc" : Str).length 1 = [1] := by decide +kernel
  unfold mv moveD
  rw [e]
  rfl
theorem many_c : mv "abc" (manyS A B l) (0, 99) = some ([], B.cps.toList, 0) := by
  have e : Builtin.Str.occurrences ("abc" : Str) (Ls.one 99) 0 ("abc" : Str).length 1 = [2] := by decide +kernel
  unfold mv moveD
  rw [e]
  rfl
theorem runs_rep {z : Str} {ss : List PyData} {d k : Nat} (h : Runs z ss 0 [d] [] 0 k) : ∀ n, Runs z ss 0 (List.replicate n d) [] 0 (n * k)
  | 0 => by
    rw [Nat.zero_mul]
    exact .nil 0
  | n + 1 => by
    have := h.append (runs_rep h n)
    rw [show (n + 1) * k = k + n * k by rw [Nat.succ_mul, Nat.add_comm]]
    exact this
variable {n m : Nat}
theorem run_a : Runs "abc" (manyS A B l) 0 [97] [] 0 1 := Runs.one (c := (0, 97)) many_a (.nil 0)
theorem run_b (ha : A.cps.toList = List.replicate n 97) : Runs "abc" (manyS A B l) 0 [98] [] 0 (1 + n) := by
  have h : Runs "abc" (manyS A B l) 0 (List.replicate n 97) [] 0 (n * 1) := runs_rep run_a n
  rw [← ha, Nat.mul_one] at h
  exact Runs.one (c := (0, 98)) many_b h
theorem run_c (ha : A.cps.toList = List.replicate n 97) (hb : B.cps.toList = List.replicate m 98) : Runs "abc" (manyS A B l) 0 [99] [] 0 (1 + m * (1 + n)) := by
  have h : Runs "abc" (manyS A B l) 0 (List.replicate m 98) [] 0 (m * (1 + n)) := runs_rep (run_b ha) m
  rw [← hb] at h
  exact Runs.one (c := (0, 99)) many_c h
theorem runs_valOf {z : Str} {ss : List PyData} {d k : Nat} (h : Runs z ss 0 [d] [] 0 k) : valOf z ss (0, d) = some ([], 0) := by
  have e := h.rd []
  cases e2 : valOf z ss (0, d) with
  | none =>
    rw [rd_none e2] at e
    cases e
  | some v =>
    rw [rd_some (a := ([], 0)) e2] at e
    have e : some ([] ++ v.1, v.2) = some (([] : List Nat) ++ [], 0) := e
    rw [List.nil_append, List.nil_append] at e
    exact e
theorem many_val (ok : StatesOk "abc" (manyS A B l)) (ha : A.cps.toList = List.replicate n 97) (hb : B.cps.toList = List.replicate m 98) {c : Cl} {w : Wt} (h : Val "abc" (manyS A B l) c w) : w = ([], 0) := by
  obtain ⟨k, hk⟩ := id h
  cases k with
  | zero => cases hk
  | succ k =>
    cases em : mv "abc" (manyS A B l) c with
    | none =>
      rw [ev_stop em] at hk
      cases hk
    | some mm =>
      obtain ⟨⟨c1, c2⟩, _⟩ := mv_ok ok em
      have c1 : c.1 < 1 := c1
      have e0 : c.1 = 0 := by omega
      have e3 : ("abc" : Str).cps.toList = [97, 98, 99] := by decide +kernel
      rw [e3] at c2
      obtain ⟨g, d⟩ := c
      have e0 : g = 0 := e0
      subst e0
      have hv := valOf_some.2 h
      simp only [List.mem_cons, List.not_mem_nil, or_false] at c2
      rcases c2 with rfl | rfl | rfl
      · rw [runs_valOf run_a] at hv
        exact (Option.some.inj hv).symm
      · rw [runs_valOf (run_b ha)] at hv
        exact (Option.some.inj hv).symm
      · rw [runs_valOf (run_c ha hb)] at hv
        exact (Option.some.inj hv).symm
end
/-- a puts a back, b puts b, a back -/
def ringS : List PyData := [.tuple [.tuple [.tuple [.str "a", .str "a", .int 0], .tuple [.str "", .str "ba", .int 0]], .str ""]]
theorem ring_exp : expB (.tuple [.str "ab", .str "", .tuple ringS]) = true := by decide +kernel
theorem ring_light : Light (.tuple [.str "ab", .str "", .tuple ringS]) := by
  unfold Light ringS
  decide +kernel
theorem ring_a : mv "ab" ringS (0, 97) = some ([97], [97], 0) := by
  have e : Builtin.Str.occurrences ("ab" : Str) (Ls.one 97) 0 ("ab" : Str).length 1 = [0] := by decide +kernel
  unfold mv moveD
  rw [e]
  rfl
theorem ring_b : mv "ab" ringS (0, 98) = some ([], [98, 97], 0) := by
  have e : Builtin.Str.occurrences ("ab" : Str) (Ls.one 98) 0 ("ab" : Str).length 1 = [1] := by decide +kernel
  unfold mv moveD
  rw [e]
  rfl
theorem ring_ev {d : Nat} {m : List Nat × List Nat × Nat} {r : List Nat} (h : mv "ab" ringS (0, d) = some m) (h2 : m.2 = (d :: r, 0)) : ∀ n, ev "ab" ringS n (0, d) = none
  | 0 => rfl
  | n + 1 => by
    rw [ev_step h, h2]
    exact rd_none (a := (m.1, 0)) (ring_ev h h2 n)
theorem ring_none_a : valOf "ab" ringS (0, 97) = none := valOf_none.2 fun w ⟨n, hn⟩ => by
  rw [ring_ev ring_a rfl n] at hn
  cases hn
theorem ring_none_b : valOf "ab" ringS (0, 98) = none := valOf_none.2 fun w ⟨n, hn⟩ => by
  rw [ring_ev ring_b rfl n] at hn
  cases hn
theorem ring_val {c : Cl} {w : Wt} (h : Val "ab" ringS c w) : False := by
  obtain ⟨k, hk⟩ := id h
  cases k with
  | zero => cases hk
  | succ k =>
    cases em : mv "ab" ringS c with
    | none =>
      rw [ev_stop em] at hk
      cases hk
    | some mm =>
      obtain ⟨⟨c1, c2⟩, _⟩ := mv_ok (exp_ok ring_exp) em
      have c1 : c.1 < 1 := c1
      have e0 : c.1 = 0 := by omega
      have e3 : ("ab" : Str).cps.toList = [97, 98] := by decide +kernel
      rw [e3] at c2
      obtain ⟨g, d⟩ := c
      have e0 : g = 0 := e0
      subst e0
      have hv := valOf_some.2 h
      simp only [List.mem_cons, List.not_mem_nil, or_false] at c2
      rcases c2 with rfl | rfl
      · rw [ring_none_a] at hv
        cases hv
      · rw [ring_none_b] at hv
        cases hv
theorem ring_thread {d : Nat} {m : List Nat × List Nat × Nat} {r : List Nat} (h : mv "ab" ringS (0, d) = some m) (h2 : m.2 = (d :: r, 0)) : threadOf "ab" ringS (0, d) = [(0, d), (0, d)] := by
  have e : valOf "ab" ringS (0, d) = none := valOf_none.2 fun w ⟨n, hn⟩ => by
    rw [ring_ev h h2 n] at hn
    cases hn
  have en : nxt "ab" ringS (valOf "ab" ringS) (0, d) = some (0, d) := by
    unfold nxt
    rw [h]
    dsimp only
    rw [h2]
    exact stuckAt_none e
  unfold threadOf
  rw [e]
  show thr "ab" ringS (valOf "ab" ringS) 241 [] (some (0, d)) = _
  show (if (0, d) ∈ ([] : List Cl) then _ else thr "ab" ringS (valOf "ab" ringS) 240 ([] ++ [(0, d)]) (nxt "ab" ringS (valOf "ab" ringS) (0, d))) = _
  rw [if_neg List.not_mem_nil, en]
  show (if (0, d) ∈ ([] ++ [(0, d)] : List Cl) then ([] ++ [(0, d)] ++ [(0, d)] : List Cl) else _) = _
  rw [if_pos (by simp)]
  rfl
theorem ring_kind {d : Nat} {m : List Nat × List Nat × Nat} {r : List Nat} (h : mv "ab" ringS (0, d) = some m) (h2 : m.2 = (d :: r, 0)) : kindT "ab" ringS (threadOf "ab" ringS (0, d)) = "endless" := by
  rw [ring_thread h h2]
  unfold kindT
  show (match mv "ab" ringS (0, d) with | none => ("breaks" : Str) | some _ => "endless") = _
  rw [h]
end Lk

/-! Displays of data within displays, in one step. -/
namespace Lk
open PySem PySem.Spec PyProof.Rows L2 G
variable {K : PySem.W.Frag} {σ : L2.St}
/-- te lays the data d -/
def Bld (K : PySem.W.Frag) (σ : L2.St) (H0 : Hp) (te : TE) (d : PyData) : Prop := ∀ H Q, Same H0 H → (∀ H' v, Same H H' → Dq K H' v d → Q v H') → te σ H Q
def BldA (K : PySem.W.Frag) (σ : L2.St) (H0 : Hp) (te : TA) (ds : List PyData) : Prop := ∀ H Q, Same H0 H → (∀ H' vs, Same H H' → DqAll K H' vs ds → Q vs H') → te σ H Q
section
variable {H0 : Hp} {te : TE} {ta : TA} {d : PyData} {ds : List PyData}
theorem Bld.str (x : Str) : Bld K σ H0 (tC (.str x)) (.str x) := fun H Q _ q => q H _ (Same.refl H) (.str x)
theorem Bld.int (i : Int) : Bld K σ H0 (tC (.int i)) (.int i) := fun H Q _ q => q H _ (Same.refl H) (.int i)
theorem Bld.var {i : Nat} {v : V} (h : σ[i]? = some (some v)) (hv : Dq K H0 v d) : Bld K σ H0 (tVar i) d := fun H Q s q => ⟨v, h, q H v (Same.refl H) (hv.mono s)⟩
theorem Bld.mul {z : Str} {n : Nat} (h1 : z.length * n ≤ 16777216) (h2 : n ≤ 16777216) : Bld K σ H0 (tOp rMulS (tC (.str z)) (tC (.int (n : Int)))) (.str (repS z n)) := fun H Q _ q => ⟨z, n, rfl, rfl, h1, h2, q H _ (Same.refl H) (.str _)⟩
theorem Bld.mulV {z : Str} {n i : Nat} (h : σ[i]? = some (some (.int (n : Int)))) (h1 : z.length * n ≤ 16777216) (h2 : n ≤ 16777216) : Bld K σ H0 (tOp rMulS (tC (.str z)) (tVar i)) (.str (repS z n)) := fun H Q _ q => ⟨_, h, z, n, rfl, rfl, h1, h2, q H _ (Same.refl H) (.str _)⟩
theorem BldA.nil : BldA K σ H0 tNil [] := fun H Q _ q => q H [] (Same.refl H) .nil
theorem BldA.cons (h : Bld K σ H0 te d) (t : BldA K σ H0 ta ds) : BldA K σ H0 (tCons te ta) (d :: ds) := fun H Q s q =>
  h H _ s fun H1 v s1 hv => t H1 _ (Same.trans s s1) fun H2 vs s2 hvs => q H2 _ (Same.trans s1 s2) (.cons (hv.mono s2) hvs)
theorem Bld.tup (h : BldA K σ H0 ta ds) (hl : ds.length ≤ sizeLine) : Bld K σ H0 (tTup ta) (.tuple ds) := fun H Q s q => h H _ s fun H1 vs s1 hvs =>
  ⟨by rw [hvs.length]; exact hl, fun p np => q _ _ (Same.trans s1 (same_new np)) (.tup (SqT.of upd_same) (hvs.mono (same_new np)))⟩
theorem Bld.lst (h : BldA K σ H0 ta ds) (hl : ds.length ≤ sizeLine) : Bld K σ H0 (tLst ta) (.list ds) := fun H Q s q => h H _ s fun H1 vs s1 hvs =>
  ⟨by rw [hvs.length]; exact hl, fun p np => q _ _ (Same.trans s1 (same_new np)) (.lst (SqL.of upd_same) (hvs.mono (same_new np)))⟩
theorem flat_rep (n : Nat) (v : V) : (List.replicate n [v]).flatten = List.replicate n v := by
  induction n with
  | zero => rfl
  | succ n ih =>
    rw [List.replicate_succ, List.flatten_cons, ih]
    rfl
theorem dqs_rep {H : Hp} {v : V} (h : Dq K H v d) : ∀ n, DqAll K H (List.replicate n v) (List.replicate n d)
  | 0 => .nil
  | n + 1 => .cons h (dqs_rep h n)
/-- [d] * n -/
theorem Bld.rep {n : Nat} (h : Bld K σ H0 te d) (hn : n ≤ 1000000) : Bld K σ H0 (tOp rRep (tLst (tCons te tNil)) (tC (.int (n : Int)))) (.list (List.replicate n d)) := fun H Q s q => h H _ s fun H1 v s1 hv =>
  ⟨Nat.le_trans (show 1 ≤ 5 by decide) (by decide), fun p np => ⟨p, _, [v], rfl, rfl, upd_same, by omega, by omega, by
    show 1 * ((n : Nat) : Int).toNat ≤ sizeLine
    rw [Int.toNat_natCast]
    exact Nat.le_trans (show 1 * n ≤ 1000000 by omega) (by decide), fun L nL => by
    rw [Int.toNat_natCast, flat_rep]
    have s2 := Same.trans (same_new (o := .lst [v]) np) (same_new (o := .lst (List.replicate n v)) nL)
    exact q _ _ (Same.trans s1 s2) (.lst (SqL.of upd_same) (dqs_rep (hv.mono s2) n))⟩⟩
/-- x = the data -/
theorem bld_set {i : Nat} {u : TS} {D : Ends} (H : Hp) (b : Bld K σ H te d) (k : ∀ H' v, Same H H' → Dq K H' v d → u D (σ.set i (some v)) H') : tSeq (tAsg te (gName i)) u D σ H := b H _ (Same.refl H) k
/-- for .. in the data -/
theorem bld_for {g : TG} {tb u : TS} {D : Ends} (H : Hp) (b : Bld K σ H te (.tuple ds)) (k : ∀ H' a xs, Same H H' → SqT K H' a xs → DqAll K H' xs ds →
    ∃ Pv : Nat → L2.St → Hp → Prop, Pv 0 σ H' ∧ (∀ i σ H2, Pv i σ H2 → Same H' H2) ∧ (∀ i x σ H2, xs[i]? = some x → Pv i σ H2 → g x σ H2 fun σ2 H3 => tb { D with nx := Pv (i + 1), ct := Pv (i + 1), bk := u D } σ2 H3) ∧ ∀ σ H2, Pv xs.length σ H2 → u D σ H2) :
    tSeq (tFor (iTup K te) g tb) u D σ H := b H _ (Same.refl H) fun H' v s hv => by
  obtain ⟨a, xs, rfl, hq, ha⟩ := hv.items
  obtain ⟨Pv, h0, hk, hs, hd⟩ := k H' a xs s hq ha
  exact ⟨a, rfl, ⟨xs, hq⟩, for_tup (D := { D with nx := u D }) Pv h0 (fun i σ H2 _ h => seqT (hk i σ H2 h) hq) hs hd⟩
end
end Lk

/-! Dicts from numbers, made by a comprehension over a list; what can be reached. -/
namespace Lk
open PySem PySem.Spec PyProof.Rows L2 G
/-- over a list that stays -/
theorem dc_list {K : PySem.W.Frag} {a : Addr} {xs : List V} {g : TG} {tt : TT} {tk tv : TE} {vs : List Nat} {σ : L2.St} {H1 : Hp} {D : Addr} {Qd : Hp → Prop} (Pv : Nat → Hp → Prop) (h0 : Pv 0 (upd H1 D (.dK []))) (hl : ∀ i H, i ≤ xs.length → Pv i H → SqL K H a xs)
    (hs : ∀ i x H, xs[i]? = some x → Pv i H → g x (wipe σ vs) H fun σ2 H2 => wipe σ2 vs = wipe σ vs ∧ tt σ2 H2 fun b H3 =>
      if b = true then tk σ2 H3 fun y H4 => tv σ2 H4 fun z H5 => ∃ kvs k, y = kV k ∧ H5 D = some (.dK kvs) ∧ kvs.length < sizeLine ∧ Pv (i + 1) (upd H5 D (.dK (putK kvs k z))) else Pv (i + 1) H3) (hd : ∀ H, Pv xs.length H → Qd H) :
    ∃ W : Nat → Nat → Hp → Prop, (∃ m, W 0 m (upd H1 D (.dK []))) ∧ ∀ i m H, W i m H →
      ((Itl K a).stop i H ∧ Qd H) ∨ ((Itl K a).go i H ∧ ∃ Nx : Hp → Prop, (∀ H', Nx H' → ∃ m', m' < m ∧ W (i + 1) m' H') ∧ ∀ x H', (Itl K a).yld i H x H' → g x (wipe σ vs) H' fun σ2 H2 => wipe σ2 vs = wipe σ vs ∧ tt σ2 H2 fun b H3 =>
        if b = true then tk σ2 H3 fun y H4 => tv σ2 H4 fun z H5 => ∃ kvs k, y = kV k ∧ H5 D = some (.dK kvs) ∧ kvs.length < sizeLine ∧ Nx (upd H5 D (.dK (putK kvs k z))) else Nx H3) := by
  refine ⟨fun i m H => m = xs.length - i ∧ i ≤ xs.length ∧ Pv i H, ⟨xs.length, by simp, Nat.zero_le _, h0⟩, ?_⟩
  rintro i m H ⟨rfl, hi, p⟩
  have q := hl i H hi p
  by_cases hlt : i < xs.length
  · refine .inr ⟨⟨xs, xs[i], q, by simp [hlt]⟩, Pv (i + 1), fun H' p' => ⟨xs.length - (i + 1), by omega, rfl, hlt, p'⟩, fun x H' y => ?_⟩
    obtain ⟨e, y⟩ := y
    subst e
    exact hs i x _ (y xs q) p
  · have e : i = xs.length := by omega
    subst e
    exact .inl ⟨⟨xs, q, Nat.le_refl _⟩, hd H p⟩
section
variable {X : Cx}
/-- name = {k: v for ..} on one line, the name a local -/
theorem ps_setDc {i : Nat} {y : Str} {py : Pos} {kx vx tg iter : Expr} {ifs : List Expr} {scope : Scope} {own : List (Str × Nat)} {pos spos : Pos} {wi : TI} {g : TG} {tt : TT} {tk tv : TE} (hc : X.calm = true) (hN : X.N.Nodup) (hy : X.N[i]? = some y) (hyl : X.env.scope.names.lookup y = some .local)
    (hsw : swapsWith (.DictComp kx vx [⟨tg, iter, ifs, 0⟩] scope pos) (some (.Name y py)) spos.line X.env = pure true) (hi : PI X tg iter wi) (ok : BlkOk X.N X.env.scope scope own)
    (hg : ∀ (s : Shared) (H : Hp) (C : Addr) (cl : List (Str × Addr)) (fp : List Addr), PG (X.blk s H scope (compEnvC scope cl C X.env) fp) tg g) (ht : ∀ (s : Shared) (H : Hp) (C : Addr) (cl : List (Str × Addr)) (fp : List Addr), PTs (X.blk s H scope (compEnvC scope cl C X.env) fp) ifs tt)
    (hk : ∀ (s : Shared) (H : Hp) (C : Addr) (cl : List (Str × Addr)) (fp : List Addr), PE (X.blk s H scope (compEnvC scope cl C X.env) fp) kx tk)
    (he : ∀ (s : Shared) (H : Hp) (C : Addr) (cl : List (Str × Addr)) (fp : List Addr), PE (X.blk s H scope (compEnvC scope cl C X.env) fp) vx tv) (hs : ∀ x, foldedSetIterable iter X.env x = pure x := by intro _; rfl) :
    PS X (.Assign [.Name y py] (.DictComp kx vx [⟨tg, iter, ifs, 0⟩] scope pos) spos) (tAsg (tDc wi g tt tk tv (own.map (·.2))) (gName i)) := by
  refine ⟨fun pins s σ H D I h => ?_⟩
  rw [exec_Assign_Name_used _ _ _ _ hsw]
  refine wpAny_bind (wpAny_standAt (wpAny_bind ?_))
  show wpAny _ X.A (do let _ ← comprehension (.DictComp kx vx [⟨tg, iter, ifs, 0⟩] scope pos) scope X.env (firstIterPos [⟨tg, iter, ifs, 0⟩] pos) newDict false (eval iter X.env) (some (assign (.Name y py) X.env))) _ _ s
  have h : tDc wi g tt tk tv (own.map (·.2)) σ H (fun x H1 => gName i x σ H1 D.nx) := h
  refine wpAny_bind (thn (dc_core (Qf := fun _ s' => SP X pins D .next s') hc hN I hi ok hg ht hk he hs h fun L C s' m H' I' q hn f => ?_) fun _ s' hq => wpAny_pure (wpAny_pure hq))
  show wpAny _ _ (assign (.Name y py) X.env (.ref L)) _ _ _
  refine wpAny_assign_Name (store_ok2 (v := V.ref L) I' hN hy (.inl hyl) rfl (fun s2 I2 ⟨a, sb, ha⟩ => ?_) (.inr hyl))
  obtain ⟨f0, f1, f2, f3, f4, f5⟩ := f
  have haC : C ≠ a := by
    rcases ha with z | z
    · rw [z]; exact f1
    · exact fun e => f4 y a z e.symm
  refine ⟨m, hn.sameBut sb haC, fun h3 sb3 => ?_⟩
  exact ⟨_, H', I2.turned (t' := s2.toks) (fun b o hb e => (sb3.2 b hb).trans e) f0 f1 f3 f4 f5, q⟩
theorem sw_trueD {kx vx : Expr} {gs : List Comprehension} {scope : Scope} {pos py : Pos} {y : Str} {l : Nat} {env : Env} (hk : env.scope.kind = .function) (hy : env.scope.names.lookup y = some .local) (hl : (py.line == pos.line) = true)
    (ha : (scope.names.any fun (n, k) => n == y && (k == .local || k == .cell)) = false) : swapsWith (.DictComp kx vx gs scope pos) (some (.Name y py)) l env = pure true := by
  have ky : env.kindOf y = some .local := hy
  have hb : env.blockKind = .function := by unfold Env.blockKind; rw [hk]; rfl
  unfold swapsWith
  simp only [hb, ky, ha, Expr.pos, hl]
  rfl
end
/-- what the rows lead to, from some begins -/
inductive Reach (fs : List (List Int)) (bs : List Int) : Int → Prop
  | start {x : Int} : x ∈ bs → Reach fs bs x
  | step {x y : Int} {l : List Int} : Reach fs bs x → fs[x.toNat]? = some l → y ∈ l → Reach fs bs y
/-- keys of a dict of numbers -/
def keysN (kvs : List (Key × V)) (ks : List Int) : Prop := kvs.map (·.1) = ks.map Sum.inl
theorem keysN_val {kvs : List (Key × V)} {ks : List Int} (h : keysN kvs ks) (x : Int) : (valV kvs (.inl x)).isSome = decide (x ∈ ks) := by
  unfold keysN at h
  induction kvs generalizing ks with
  | nil =>
    cases ks with
    | nil => rfl
    | cons _ _ => cases h
  | cons kv kvs ih =>
    cases ks with
    | nil => cases h
    | cons k ks =>
      rw [List.map_cons, List.map_cons] at h
      injection h with h1 h2
      obtain ⟨a, b⟩ := kv
      have h1 : a = Sum.inl k := h1
      subst h1
      by_cases e : k = x
      · subst e
        rw [valV_pos rfl, decide_eq_true List.mem_cons_self]
        rfl
      · rw [valV_neg (fun z => e (Sum.inl.inj z)), ih h2]
        by_cases q : x ∈ ks
        · rw [decide_eq_true q, decide_eq_true (List.mem_cons_of_mem _ q)]
        · rw [decide_eq_false q, decide_eq_false (fun z => (List.mem_cons.1 z).elim (fun z => e z.symm) q)]
theorem keysN_put {kvs : List (Key × V)} {ks : List Int} (h : keysN kvs ks) {x : Int} (n : x ∉ ks) (v : V) : keysN (putK kvs (.inl x) v) (ks ++ [x]) := by
  have e : (kvs.any fun kv => decide (kv.1 = Sum.inl x)) = false := by
    rw [valV_any, keysN_val h, decide_eq_false n]
  unfold putK
  rw [if_neg (by rw [e]; decide)]
  unfold keysN at h ⊢
  rw [List.map_append, List.map_append, h]
  rfl
theorem keysN_same {kvs : List (Key × V)} {ks : List Int} (h : keysN kvs ks) {x : Int} (n : x ∈ ks) (v : V) : keysN (putK kvs (.inl x) v) ks := by
  have e : (kvs.any fun kv => decide (kv.1 = Sum.inl x)) = true := by
    rw [valV_any, keysN_val h, decide_eq_true n]
  unfold putK
  rw [if_pos e]
  unfold keysN at h ⊢
  rw [← h, List.map_map]
  refine List.map_congr_left fun kv _ => ?_
  show (if kv.1 = Sum.inl x then (kv.1, v) else kv).1 = kv.1
  split <;> rfl
theorem keysN_len {kvs : List (Key × V)} {ks : List Int} (h : keysN kvs ks) : kvs.length = ks.length := by
  have e := congrArg List.length h
  rw [List.length_map, List.length_map] at e
  exact e
theorem sub_lenI : ∀ {a b : List Int}, a.Nodup → (∀ x ∈ a, x ∈ b) → a.length ≤ b.length
  | [], b, _, _ => Nat.zero_le _
  | x :: a, b, n, h => by
    obtain ⟨n1, n2⟩ := List.nodup_cons.1 n
    have hb := h x List.mem_cons_self
    have hl := sub_lenI (b := b.erase x) n2 fun y hy => (List.mem_erase_of_ne (show y ≠ x from fun e => n1 (by rw [← e]; exact hy))).2 (h y (List.mem_cons_of_mem _ hy))
    rw [List.length_erase_of_mem hb] at hl
    have : 0 < b.length := List.length_pos_of_mem hb
    simp only [List.length_cons]
    omega
/-- few numbers below a bound -/
theorem few_below {n : Nat} {ks : List Int} (nd : ks.Nodup) (h : ∀ x ∈ ks, 0 ≤ x ∧ x < n) : ks.length ≤ n := by
  have e := sub_lenI (b := (List.range n).map fun i : Nat => (i : Int)) nd fun x hx => by
    obtain ⟨h1, h2⟩ := h x hx
    exact List.mem_map.2 ⟨x.toNat, List.mem_range.2 (by omega), by omega⟩
  rw [List.length_map, List.length_range] at e
  exact e
end Lk

/-! enumerate(a tuple) -/
namespace PySem
open Sem (wp)
open AutoSeq1 (wpAny_loadPart')
theorem meets_enumerate_newTu (l : Addr) (items : Array Value) (n : Nat) (dct : Option Addr) (sl : Array (Option Value)) :
    Meets (Builtin.«enumerate.__new__» ⟨[.type "enumerate", .ref l], []⟩) (fun _ R s => s.heap.get? l = some { cls := .type "tuple", dict := dct, data := .seq items n, slots := sl } ∧
      R (.ok (.ret (.ref (s.heap.push { cls := .type "tuple_iterator", data := .fields #[.ref l, .int 0 0] }).objs.size)))
        { s with heap := (s.heap.push { cls := .type "tuple_iterator", data := .fields #[.ref l, .int 0 0] }).push { cls := .type "enumerate", data := .fields #[.none, .bool false, .ref s.heap.objs.size, rawInt 0, .none, .none] } }) :=
  .of_wp fun prog w A R s h => by
    obtain ⟨hp, g, d, tk, os⟩ := s; obtain ⟨hl, h⟩ := h
    have hsub := sub_enumerate
    have hL : Heap.IsTuple (Shared.heap ⟨hp, g, d, tk, os⟩) l items := ⟨_, hl, rfl, n, rfl⟩
    wp_walk using wpAny_loadPart' hl
    refine wpAny_stack_any fun st => wpAny_pure ?_
    split
    · rename_i c _ _ _ _ _
      cases (c == Value.type "enumerate")
      · wp_walk using wpAny_loadPart' hl, wpAny_pyIter_tuple hL
        exact ⟨_, rfl, h⟩
      · wp_walk using wpAny_loadPart' hl, wpAny_pyIter_tuple hL
        exact ⟨_, rfl, h⟩
    · wp_walk using wpAny_loadPart' hl, wpAny_pyIter_tuple hL
      exact ⟨_, rfl, h⟩
section
variable {prog : Program} {w : World} {A : Around} {E : Value → Shared → Prop} {s : Shared}
theorem call_enumerate_tu {l : Addr} {items : Array Value} {Q : Value → Shared → Prop} (hL : s.heap.IsTuple l items)
    (h : ∀ h', IsEnum h' (s.heap.objs.size + 1) s.heap.objs.size 0 .none → h'.IsTupleIter s.heap.objs.size l 0 → h'.objs.size = s.heap.objs.size + 2 →
      (∀ b o, s.heap.get? b = some o → h'.get? b = some o) → Q (.ref (s.heap.objs.size + 1)) { s with heap := h' }) :
    wpAny (model prog w) A (call (.type "enumerate") [.ref l]) Q E s := by
  obtain ⟨⟨c, dct, dt, sl⟩, hl, hc, n, hd⟩ := hL
  replace hc : c = .type "tuple" := hc
  replace hd : dt = .seq items n := hd
  subst hc hd
  refine callType_new F.called_enumerate (by decide) (F.typeCall_enumerate_1 _) (F.newCall_enumerate_1 _) (fun obj => F.args_object_init_2 obj _) F.entry_enumerate_new
    (meets_enumerate_newTu l items n dct sl) ⟨hl, ?_⟩
  have hz : (s.heap.push { cls := .type "tuple_iterator", data := .fields #[.ref l, .int 0 0] }).objs.size = s.heap.objs.size + 1 := Heap.size_push ..
  show _ ∧ _
  rw [hz]
  have he : IsEnum ((s.heap.push { cls := .type "tuple_iterator", data := .fields #[.ref l, .int 0 0] }).push
      { cls := .type "enumerate", data := .fields #[.none, .bool false, .ref s.heap.objs.size, rawInt 0, .none, .none] }) (s.heap.objs.size + 1) s.heap.objs.size 0 .none := by
    have := Heap.get?_push_size (s.heap.push { cls := .type "tuple_iterator", data := .fields #[.ref l, .int 0 0] })
      (o := { cls := .type "enumerate", data := .fields #[.none, .bool false, .ref s.heap.objs.size, rawInt 0, .none, .none] }) rfl
    rw [hz] at this; exact this
  refine ⟨⟨_, he, rfl⟩, h _ he ⟨_, Heap.get?_push_of_some _ (Heap.get?_push_size _ rfl), rfl, rfl⟩ (by rw [Heap.size_push, hz]) fun b o x => Heap.get?_push_of_some _ (Heap.get?_push_of_some _ x)⟩
theorem Draws.tup {prog : Program} {w : World} {A : Around} (hh : A.handled = none) (it l : Addr) (hne : l ≠ it) (items : Array Value) :
    Draws prog w A it [it, l] items.size (fun i v => items[i]? = some v) (fun i h => h.IsTupleIter it l i ∧ h.IsTuple l items) where
  live := fun _ _ st => let ⟨o, ho, _⟩ := st.1; ⟨o, ho⟩
  frame := fun _ _ _ st hk => ⟨st.1.at fun o e => hk it (by simp) o e, let ⟨o, ho, r⟩ := st.2; ⟨o, hk l (by simp) o ho, r⟩⟩
  item := fun i s Q E hi st hQ => by
    refine RZ.nextOf_tuple_item st.1 st.2 (x := items[i]) (by simp [hi]) fun h' hit' hs' => ?_
    exact hQ _ h' s.toks (by simp [hi]) ⟨hit', let ⟨o, ho, r⟩ := st.2; ⟨o, (hs'.2 l hne).trans ho, r⟩⟩ hs'
  done := fun s Q E st hE => RZ.nextOf_tuple_end hh st.1 st.2 (by simp) hE
end
end PySem
namespace Lk
open PySem PySem.Spec PyProof.Rows L2 G
/-- a tuple's items, each with its place in a new pair -/
def Itet (K : PySem.W.Frag) (a : Addr) : It :=
  ⟨fun i H => ∃ (xs : List V) (x : V), SqT K H a xs ∧ xs[i]? = some x, fun i H v H' => ∃ T x, v = .ref T ∧ H T = none ∧ H' = upd H T (.tup [.int (i : Nat), x]) ∧ ∀ xs, SqT K H a xs → xs[i]? = some x, fun i H => ∃ xs : List V, SqT K H a xs ∧ xs.length ≤ i⟩
theorem turn_enumTu {P : Program} {w : World} {K : PySem.W.Frag} {elts : List Expr} {kk : Nat} {tpos : Pos} (a e it : Addr) :
    Turn P w K (.Tuple elts kk tpos) (Itet K a) [e, it] e (fun i h => (∃ old, IsEnum h e it ((i : Nat) : Int) old) ∧ h.IsTupleIter it a i ∧ e ≠ it) where
  mem := by simp
  obj := fun i h st b hb => by
    obtain ⟨⟨old, he⟩, ⟨o, ho, hc, hd⟩, _⟩ := st
    have e' : b = e ∨ b = it := by simpa using hb
    rcases e' with z | z
    · rw [z]; exact ⟨_, he, fun v q => nomatch q⟩
    · rw [z]; exact ⟨o, ho, fun v q => by rw [hd] at q; cases q⟩
  keep := fun i h h' st k => let ⟨⟨old, he⟩, hi, hne⟩ := st; ⟨⟨old, k e (by simp) _ he⟩, hi.at fun o q => k it (by simp) o q, hne⟩
  item := by
    intro X hP hw hK hc i pins s σ H E I hf st hg
    subst hP hw hK
    obtain ⟨⟨old, he⟩, hit, hne⟩ := st
    obtain ⟨xs, x, hq, hx⟩ := hg
    obtain ⟨its, rv, p, hz⟩ := I.tuple hq
    have p : s.heap.IsTuple a its.toArray := p
    obtain ⟨u, hu, ru⟩ := rv.get hx
    have hel : e < s.heap.objs.size := Heap.lt_size he
    have hil : it < s.heap.objs.size := by obtain ⟨_, q, _⟩ := id hit; exact Heap.lt_size q
    have na : a ≠ it := fun z => by
      obtain ⟨o, h1, h2, _⟩ := id p
      obtain ⟨o', h3, h4, _⟩ := id hit
      rw [z, h3] at h1
      cases h1
      rw [h4] at h2
      exact absurd h2 (by decide)
    have ea : e ≠ a := fun z => by
      obtain ⟨o, h1, h2, _⟩ := id p
      have he : s.heap.get? e = some _ := he
      rw [z, h1] at he
      cases he
      exact absurd (show Value.type "enumerate" = Value.type "tuple" from h2) (by decide)
    refine wpAny_pyNext_enum_itemD (Draws.tup (A := X.A.in1) (I.ok.hd hc) it a na its.toArray) he ⟨hit, p⟩ ?_ hne ?_ fun y h' tk hy ho hit' hT hsz hk => ?_
    · have := (List.getElem?_eq_some_iff.mp hu).1
      simpa using this
    · simp only [List.mem_cons, List.not_mem_nil, or_false]
      exact fun z => z.elim hne ea
    have hyu : y = u := by
      have hy : its.toArray[i]? = some y := hy
      rw [List.getElem?_toArray, hu] at hy
      exact (Option.some.inj hy).symm
    subst hyu
    refine ⟨_, rfl, wpAny_letOwnedTupleGo_enum (s := { s with heap := h', toks := tk + 1 }) ho fun h'' he' sb => ?_⟩
    have hT2 : h''.get? s.heap.objs.size = some { cls := .type "tuple", data := .seq #[.int i tk, y] } := (sb.2 _ (Nat.ne_of_gt hel)).trans hT
    have new : ObjOk X.prog X.w (upd H s.heap.objs.size (.tup [.int (i : Nat), x])) h'' s.heap.objs.size (.tup [.int (i : Nat), x]) :=
      ⟨by show 2 ≤ sizeLine; decide, [.int i tk, y], .cons ⟨_, rfl⟩ (.cons ru .nil), ⟨_, hT2, rfl, _, rfl⟩⟩
    have I1 : Inv X pins σ (upd H s.heap.objs.size (.tup [.int (i : Nat), x])) { s with heap := h'', toks := tk + 1 } :=
      I.turnedNew (ch := [e, it]) (fun b ob hb q => (sb.2 b (fun z => hb (by simp [z]))).trans (hk b ob (fun z => hb (by simp [z])) (fun z => hb (by simp [z])) q)) hf (Nat.le_refl _) new
    refine ⟨.ref s.heap.objs.size, _, I1, rfl, ⟨_, x, rfl, I.hok.fresh (Nat.le_refl _), rfl, fun ys hy => by rw [I.tuple_inj hy hq]; exact hx⟩, ⟨⟨y, ?_⟩, hit'.1.at fun o q => (sb.2 it (Ne.symm hne)).trans q, hne⟩, fun b hb => ?_⟩
    · have e1 : ((i + 1 : Nat) : Int) = (i : Int) + 1 := by omega
      rw [e1]; exact he'
    · have hb' : b < s.heap.objs.size := by
        have e' : b = e ∨ b = it := by simpa using hb
        rcases e' with z | z
        · rw [z]; exact hel
        · rw [z]; exact hil
      rw [upd_ne (Nat.ne_of_lt hb')]
      exact (hf b hb).1
  done := by
    intro X hP hw hK hc i pins s σ H E I hf st hg
    subst hP hw hK
    obtain ⟨⟨old, he⟩, hit, hne⟩ := st
    obtain ⟨xs, hq, hx⟩ := hg
    obtain ⟨its, rv, p, hz⟩ := I.tuple hq
    have p : s.heap.IsTuple a its.toArray := p
    obtain ⟨f0, f1, f2, f3, f4, f5⟩ := hf it (by simp)
    have hl := rv.length
    have none_at : its.toArray[i]? = none := by
      rw [List.getElem?_toArray]
      exact List.getElem?_eq_none (by omega)
    have D : Draws X.prog X.w X.A.in1 it [it, a] i (fun _ _ => False) (fun j h => (h.IsTupleIter it a j ∧ h.IsTuple a its.toArray) ∧ i ≤ j) := {
      live := fun _ _ st => let ⟨o, ho, _⟩ := st.1.1; ⟨o, ho⟩
      frame := fun _ _ _ st hk => ⟨⟨st.1.1.at fun o e => hk it (by simp) o e, let ⟨o, ho, r⟩ := st.1.2; ⟨o, hk a (by simp) o ho, r⟩⟩, st.2⟩
      item := fun j s Q E lt st _ => absurd lt (Nat.not_lt_of_le st.2)
      done := fun s' Q E st hE => RZ.nextOf_tuple_end (A := X.A.in1) (I.ok.hd hc) st.1.1 st.1.2 none_at hE }
    exact wpAny_pyNext_enum_endD D he ⟨⟨hit, p⟩, Nat.le_refl _⟩ fun h' eb => ⟨rfl, I.turned (t' := s.toks) (fun b o hb q => eb b o hb q) f0 f1 f3 f4 f5⟩
  self := fun A i s Q E st h => let ⟨⟨_, he⟩, _⟩ := st; wpAny_pyIter_enum he h
def iEnumTu (K : PySem.W.Frag) (ta : TA) : TI := fun σ H R => ta σ H fun vs H1 => ∃ a xs, vs = [.ref a] ∧ SqT K H1 a xs ∧ R (Itet K a) H1
theorem walk_enumTu {K : PySem.W.Frag} {a : Addr} {xs : List V} : Walk (Itet K a) xs.length (fun H => SqT K H a xs) (YPair (fun i => some (.int (i : Nat))) (fun i => xs[i]?)) := by
  refine ⟨fun i _ hi q => ⟨xs, xs[i], q, by simp [hi]⟩, fun _ q => ⟨xs, q, Nat.le_refl _⟩, fun i H v H' _ q y => ?_⟩
  obtain ⟨T, x, h1, h2, h3, h4⟩ := y
  exact ⟨T, .int (i : Nat), x, h1, h2, h3, rfl, h4 xs q⟩
theorem pi_enumTu {X : Cx} {e : Expr} {ta : TA} {p pos tpos : Pos} {elts : List Expr} {kk : Nat} (hg : Gl X "enumerate") (hm : X.mg "enumerate" = none) (ha : PA X [e] ta) (hs : starEach [e] X.env = [(false, eval e X.env)] := by rfl) :
    PI X (.Tuple elts kk tpos) (.Call (.Name "enumerate" p) [e] [] pos) (iEnumTu X.K ta) := by
  refine ⟨fun pins s σ H R I h => ?_⟩
  refine Call_ (ld_blt I hg hm boot_enumerate (PyProof.Rows.callWith_type1 (thn (ha.run pos pins s σ H _ I h) fun us s1 ⟨vs, H1, I1, r1, q1⟩ => ?_) hs rfl))
  obtain ⟨a, xs, ex, hq, q⟩ := q1
  subst ex
  cases r1 with
  | cons r rr =>
    cases rr
    cases r
    obtain ⟨its, rv, p', hz⟩ := I1.tuple hq
    refine call_enumerate_tu (show s1.heap.IsTuple a its.toArray from p') fun h' he hit hsz hk => wpAny_pyIter_enum he ?_
    have I2 : Inv X pins σ H1 { s1 with heap := h' } := I1.kept (t' := s1.toks) hk
    refine ⟨s1.heap.objs.size + 1, [s1.heap.objs.size + 1, s1.heap.objs.size], _, _, H1, rfl, I2, turn_enumTu a (s1.heap.objs.size + 1) s1.heap.objs.size, ⟨⟨.none, he⟩, hit, Nat.succ_ne_self _⟩, fun b hb => ?_, q⟩
    have e' : b = s1.heap.objs.size + 1 ∨ b = s1.heap.objs.size := by simpa using hb
    have hle : s1.heap.objs.size ≤ b := by
      rcases e' with z | z
      · rw [z]; exact Nat.le_add_right _ _
      · rw [z]; exact Nat.le_refl _
    exact I1.fpOk hle (I1.hok.fresh hle)
end Lk

/-! Data within a tuple of data. -/
namespace Lk
open PySem PySem.Spec PyProof.Rows L2 G
section
variable {X : Cx}
def rInTu (K : PySem.W.Frag) : R2 := fun x y H Q => ∃ d ds, Dp K H x d ∧ Dp K H y (.tuple ds) ∧ SeqAt.shaped d = true ∧ SeqAt.shaped (.tuple ds) = true ∧ Q (.bl (ds.any fun z => PyData.eqv z d)) H
def rNotInTu (K : PySem.W.Frag) : R2 := fun x y H Q => ∃ d ds, Dp K H x d ∧ Dp K H y (.tuple ds) ∧ SeqAt.shaped d = true ∧ SeqAt.shaped (.tuple ds) = true ∧ Q (.bl (!ds.any fun z => PyData.eqv z d)) H
theorem op_inTu (hu : X.A.units + 65 < cLine) : OpR X (compareOp .In) (rInTu X.K) := by
  intro pins s σ H x y v u Q I rx ry h
  obtain ⟨d, ds, hd, he, sd, se, q⟩ := h
  obtain ⟨as, r1⟩ := Dp.reads I d x v hd rx
  obtain ⟨bs, r2⟩ := Dp.reads I (.tuple ds) y u he ry
  exact SeqAt.in_tuple_reads r2 r1 (SeqAt.canLay_of_shaped se) (SeqAt.canLay_of_shaped sd) (room_in_shaped sd hu) ⟨.bl _, H, I, rfl, q⟩
theorem op_notInTu (hu : X.A.units + 65 < cLine) : OpR X (compareOp .NotIn) (rNotInTu X.K) := by
  intro pins s σ H x y v u Q I rx ry h
  obtain ⟨d, ds, hd, he, sd, se, q⟩ := h
  obtain ⟨as, r1⟩ := Dp.reads I d x v hd rx
  obtain ⟨bs, r2⟩ := Dp.reads I (.tuple ds) y u he ry
  exact SeqAt.notIn_tuple_reads r2 r1 (SeqAt.canLay_of_shaped se) (SeqAt.canLay_of_shaped sd) (room_in_shaped sd hu) ⟨.bl _, H, I, rfl, q⟩
end
end Lk

/-! {k: v for ..}, the keys numbers, texts or pairs: told by what a dict holds after each item (DPut). -/
namespace Lk
open PySem PySem.Spec PyProof.Rows L2 G
/-- an item put by a comprehension -/
theorem d_dictPut {X : Cx} {pins : List (Addr × Obj)} {σ : L2.St} {H H' : Hp} {s : Shared} {E : Value → Shared → Prop} {D : Addr} {y v : V} {u r : Value} {Q : Unit → Shared → Prop} (hu : X.A.units + 1 < cLine) (I : Inv X pins σ H s) (g : DPut H D y v H')
    (ry : RelV y u) (rv : RelV v r) (h : ∀ s', Inv X pins σ H' s' → Q () s') : wpAny (model X.prog X.w) X.A (dictSet D u r) Q E s := by
  rcases g with ⟨kvs, k, e, rfl, l, rfl⟩ | ⟨kvs, k, b, e, rfl, eb, l, rfl⟩
  · exact d_dictSet I e l ry rv h
  · cases (show u = Value.ref b from ry)
    obtain ⟨z, hd, xs, rel, dd⟩ := dt_of I.hok e
    have hz : xs.length ≤ sizeLine := by rw [← Paired.length rel]; exact z
    have hl : (putK kvs k v).length ≤ sizeLine := by have := length_putK kvs k v; omega
    refine wpAny_dictSet_heap (hsz := hz) (Nat.lt_of_succ_lt hu) (key_of I.hok eb) dd fun h' dd' hs => h _ ?_
    obtain ⟨q, es, ep, hq, h2, h3, h4, _, h5⟩ := dd'
    refine d_write I (by rw [e]; exact True.intro) hs ⟨q, hq⟩ ⟨hl, hd, _, (rel.put k eb rv).keeps fun c ys ec => ?_, q, es, ep, hq, h2, h3, h4, h5⟩
    rw [upd_ne (ne_of ec e (fun z => nomatch z))]
    exact ec
section
variable {X : Cx} {Q : VK} {kx vx tg iter : Expr} {ifs : List Expr} {scope : Scope} {own : List (Str × Nat)} {pos pos' : Pos} {wi : TI} {g : TG} {tt : TT} {tk tv : TE}
/-- {k: v for target in iter if ..}, the keys pairs: D the new dict -/
def tDp (wi : TI) (g : TG) (tt : TT) (tk tv : TE) (vs : List Nat) : TE := fun σ H Q => wi σ H fun J H1 => ∀ D, H1 D = none → ∃ W : Nat → Nat → Hp → Prop, (∃ m, W 0 m (upd H1 D (.dT []))) ∧ ∀ i m H, W i m H →
  (J.stop i H ∧ Q (.ref D) H) ∨ (J.go i H ∧ ∃ Nx : Hp → Prop, (∀ H', Nx H' → ∃ m', m' < m ∧ W (i + 1) m' H') ∧ ∀ x H', J.yld i H x H' → g x (wipe σ vs) H' fun σ2 H2 => wipe σ2 vs = wipe σ vs ∧ tt σ2 H2 fun b H3 =>
    if b = true then tk σ2 H3 fun y H4 => tv σ2 H4 fun z H5 => ∃ H6, DPut H5 D y z H6 ∧ Nx H6 else Nx H3)
theorem dp_core {pins : List (Addr × Obj)} {s : Shared} {σ : L2.St} {H : Hp} {use : Option (Value → Sem Unit)} {Qf : Value → Shared → Prop} (hu : X.A.units + 1 < cLine)
    (hc : X.calm = true) (hN : X.N.Nodup) (I : Inv X pins σ H s) (hi : PI X tg iter wi) (ok : BlkOk X.N X.env.scope scope own)
    (hg : ∀ (s : Shared) (H : Hp) (C : Addr) (cl : List (Str × Addr)) (fp : List Addr), PG (X.blk s H scope (compEnvC scope cl C X.env) fp) tg g) (ht : ∀ (s : Shared) (H : Hp) (C : Addr) (cl : List (Str × Addr)) (fp : List Addr), PTs (X.blk s H scope (compEnvC scope cl C X.env) fp) ifs tt)
    (hk : ∀ (s : Shared) (H : Hp) (C : Addr) (cl : List (Str × Addr)) (fp : List Addr), PE (X.blk s H scope (compEnvC scope cl C X.env) fp) kx tk)
    (he : ∀ (s : Shared) (H : Hp) (C : Addr) (cl : List (Str × Addr)) (fp : List Addr), PE (X.blk s H scope (compEnvC scope cl C X.env) fp) vx tv) (hs : ∀ x, foldedSetIterable iter X.env x = pure x)
    (h : tDp wi g tt tk tv (own.map (·.2)) σ H Q)
    (hRR : ∀ D C s' m H', Inv X pins σ H' s' → Q (.ref D) H' → s'.heap.Ns C m → FpOk X pins H' C → compPost (model X.prog X.w) X.A X.xe use Qf (.ref D) C (.ok .next) s') :
    wpAny (model X.prog X.w) X.A (comprehension (.DictComp kx vx [⟨tg, iter, ifs, 0⟩] scope pos) scope X.env pos' newDict false (eval iter X.env) use) Qf X.xe s := by
  have free : ∀ y ∈ scope.names, y.2 = .free → ∃ c, X.env.cells.lookup y.1 = some c := fun y hy e => (ok.free y hy e).elim (fun k => I.ok.has _ (.inl k)) fun k => I.ok.has _ (.inr k)
  refine wpAny_comprehension_free (use := use) rfl hs (closure_ok free) ok.kind (fun y hy e => by rw [ok.uniq y hy, e]) (thn (hi.run pins s σ H _ I h) fun xv s1 hx => thn hx fun itv s2 h2 => ?_)
  obtain ⟨it, fp, tn, J, H2, rfl, I2, T, st2, f2, q⟩ := h2
  refine wpAny_newObj_type (newEnv_comp ?_)
  generalize hD : s2.heap.objs.size = D
  obtain ⟨W, ⟨m0, w0⟩, turn⟩ := q D (I2.hok.fresh (Nat.le_of_eq hD))
  generalize hs3 : ({ s2 with heap := s2.heap.push { cls := .type "dict", data := .dict #[] } } : Shared) = s3
  have h3 : s3.heap = s2.heap.push { cls := .type "dict", data := .dict #[] } := by rw [← hs3]
  have I3 : Inv X pins σ (upd H2 D (.dT [])) s3 := by
    rw [← hs3]
    refine I2.laid (t' := s2.toks) (fun b o e => Heap.get?_push_of_some _ e) (Nat.le_of_eq hD) ?_
    rw [← hD]
    exact dt_empty s2.heap I2.big
  have f3 : ∀ b ∈ fp, FpOk X pins (upd H2 D (.dT [])) b ∧ b < s3.heap.objs.size := fun b hb => by
    obtain ⟨o, e, _⟩ := T.obj _ _ st2 b hb
    have lt : b < s2.heap.objs.size := Heap.lt_size e
    refine ⟨⟨?_, (f2 b hb).2⟩, by rw [h3, Heap.size_push]; exact Nat.lt_succ_of_lt lt⟩
    rw [upd_ne (by rw [← hD]; exact Nat.ne_of_lt lt)]
    exact (f2 b hb).1
  have st3 : tn 0 s3.heap := T.keep _ _ _ st2 fun b _ o e => by rw [h3]; exact Heap.get?_push_of_some _ e
  have I4 := block_start I3 ok hN f3
  have pg := hg s3 (upd H2 D (.dT [])) s3.heap.objs.size (cellsFrom (s3.heap.objs.size + 1) scope.names (cloFrom X.env.cells scope.names [])) fp
  have pt := ht s3 (upd H2 D (.dT [])) s3.heap.objs.size (cellsFrom (s3.heap.objs.size + 1) scope.names (cloFrom X.env.cells scope.names [])) fp
  have pk := hk s3 (upd H2 D (.dT [])) s3.heap.objs.size (cellsFrom (s3.heap.objs.size + 1) scope.names (cloFrom X.env.cells scope.names [])) fp
  have pe := he s3 (upd H2 D (.dT [])) s3.heap.objs.size (cellsFrom (s3.heap.objs.size + 1) scope.names (cloFrom X.env.cells scope.names [])) fp
  show codeAny _ _ (.compStart (.DictComp kx vx [⟨tg, iter, ifs, 0⟩] scope pos) 0 (.ref it) (.ref D) (compEnvC scope (cellsFrom (s3.heap.objs.size + 1) scope.names (cloFrom X.env.cells scope.names [])) s3.heap.objs.size X.env)) (compPost (model X.prog X.w) X.A X.xe use Qf (.ref D) s3.heap.objs.size) { s3 with heap := pushCells (s3.heap.push { cls := .type "dict", data := .dict #[] }) scope.names }
  have nfp : ∀ b ∈ fp, (upd H2 D (.dT [])) b = none := fun b hb => (f3 b hb).1.1
  generalize hce : compEnvC scope (cellsFrom (s3.heap.objs.size + 1) scope.names (cloFrom X.env.cells scope.names [])) s3.heap.objs.size X.env = ce at I4 pg pt pk pe ⊢
  have cL : ce.locals = s3.heap.objs.size := by subst hce; rfl
  generalize upd H2 D (.dT []) = H3 at I3 I4 pg pt pk pe w0 nfp f3
  generalize hs4 : ({ s3 with heap := pushCells (s3.heap.push { cls := .type "dict", data := .dict #[] }) scope.names } : Shared) = s4 at I4 ⊢
  have st4 : tn 0 s4.heap := T.keep _ _ _ st3 fun b _ o e => by rw [← hs4]; exact pushCells_keeps _ _ _ _ (Heap.get?_push_of_some _ e)
  have stat : ∀ {σ' : L2.St} {H' : Hp} {s' : Shared}, Inv (X.blk s3 H3 scope ce fp) [] σ' H' s' → (∀ b ∈ fp, H' b = none) → ∀ b ∈ fp, FpOk (X.blk s3 H3 scope ce fp) [] H' b := fun {σ' H' s'} I' hn b hb =>
    ⟨hn b hb, (I'.ok.exf b hb).1, I'.ok.exfs b hb, .inl hb, fun x c e => (I'.ok.exf b hb).2 x c e, fun p hp => absurd (show p ∈ ([] : List (Addr × Obj)) ++ [] from hp) (by simp)⟩
  have loop : codeAny (model X.prog X.w) X.A (.compLoop (.DictComp kx vx [⟨tg, iter, ifs, 0⟩] scope pos) 0 (.ref it) (.ref D) ce) (compPost (model X.prog X.w) X.A X.xe use Qf (.ref D) s3.heap.objs.size) s4 := by
    refine compLoop_anyD (fun n s' => ∃ i H', Inv (X.blk s3 H3 scope ce fp) [] (wipe σ (own.map (·.2))) H' s' ∧ tn i s'.heap ∧ (∀ b ∈ fp, H' b = none) ∧ W i n H') ?_ m0 ⟨0, H3, I4, st4, nfp, w0⟩
    rintro n s5 ⟨i, H5, I5, st5, n5, w5⟩
    rcases turn i n H5 w5 with ⟨stop, qq⟩ | ⟨go, Nx, hNx, step⟩
    · refine thnF (T.done (X.blk s3 H3 scope ce fp) rfl rfl rfl hc i [] s5 _ H5 (fun _ _ => False) I5 (stat I5 n5) st5 stop) fun r s6 ⟨hr, I6⟩ => ?_
      subst hr
      have I7 : Inv X pins σ H5 s6 := I3.call' (ch := fp) I6.os I6.base I6.hok I6.bare fun b hb => ⟨(f3 b hb).1.2.2.2.1, (f3 b hb).1.2.1, (f3 b hb).1.2.2.2.2.1, (f3 b hb).1.2.2.2.2.2⟩
      have nC : H5 ce.locals = none := I6.free
      rw [cL] at nC
      obtain ⟨m, hn, _⟩ := I6.loc
      have hn : s6.heap.Ns ce.locals m := hn
      rw [cL] at hn
      exact hRR D s3.heap.objs.size s6 m H5 I7 qq hn (I3.fpOk (Nat.le_refl _) nC)
    · refine thnF (T.item (X.blk s3 H3 scope ce fp) rfl rfl rfl hc i [] s5 _ H5 (fun _ _ => False) I5 (stat I5 n5) st5 go) fun r s6 ⟨u, hr, h6⟩ => ?_
      subst hr
      refine thnF h6 fun _ s7 ⟨x, H7, I7, r7, y7, st7, n7⟩ => ?_
      refine thnF (pg.run _ s7 _ H7 x u _ (I7.pinned (stat I7 n7) (T.obj _ _ st7)) r7 (step x H7 y7)) fun _ s8 ⟨σ8, H8, I8, hw8, q8⟩ => ?_
      refine thnF (pt.run _ s8 σ8 H8 _ I8 q8) fun b s9 ⟨H9, I9, q9⟩ => ?_
      have fin : ∀ {s' : Shared} {H' : Hp}, Inv (X.blk s3 H3 scope ce fp) ([] ++ pinsAt fp s7.heap) σ8 H' s' → Nx H' → ∃ m, m < n ∧ ∃ i H', Inv (X.blk s3 H3 scope ce fp) [] (wipe σ (own.map (·.2))) H' s' ∧ tn i s'.heap ∧ (∀ b ∈ fp, H' b = none) ∧ W i m H' := fun {s' H'} I' nx => by
        obtain ⟨m', hm, w'⟩ := hNx H' nx
        have pin' : ∀ b ∈ fp, ∀ o, s7.heap.get? b = some o → s'.heap.get? b = some o ∧ H' b = none := fun b hb o e =>
          let z := I'.pin (b, o) (List.mem_append_right _ (List.mem_append_right _ (mem_pinsAt hb e)))
          ⟨z.1, z.2.1⟩
        refine ⟨m', hm, i + 1, H', (I'.unpinned (pins := [])).weak (by rw [← hw8, wipe_length]) (fun j v e => ?_), T.keep _ _ _ st7 fun b hb o e => (pin' b hb o e).1, fun b hb => ?_, w'⟩
        · rw [← hw8] at e
          exact (wipe_some e).1
        · obtain ⟨o, e, _⟩ := T.obj _ _ st7 b hb
          exact (pin' b hb o e).2
      cases b with
      | false => exact fin I9 q9
      | true =>
        refine thnF (pk.run _ s9 σ8 H9 _ I9 q9) fun z s10 ⟨yk, H10, I10, r10, q10⟩ => ?_
        refine thnF (pe.run _ s10 σ8 H10 _ I10 q10) fun z2 s11 ⟨yv, H11, I11, r11, H12, put, nx⟩ => ?_
        exact d_dictPut (X := X.blk s3 H3 scope ce fp) hu I11 put r10 r11 fun s12 I12 => fin I12 nx
  exact codeAny_compStart_dict loop (T.self X.A 0 _ _ _ st4 loop)
/-- as a value -/
theorem pe_dcT (hu : X.A.units + 1 < cLine) (hc : X.calm = true) (hN : X.N.Nodup) (hi : PI X tg iter wi) (ok : BlkOk X.N X.env.scope scope own)
    (hg : ∀ (s : Shared) (H : Hp) (C : Addr) (cl : List (Str × Addr)) (fp : List Addr), PG (X.blk s H scope (compEnvC scope cl C X.env) fp) tg g) (ht : ∀ (s : Shared) (H : Hp) (C : Addr) (cl : List (Str × Addr)) (fp : List Addr), PTs (X.blk s H scope (compEnvC scope cl C X.env) fp) ifs tt)
    (hk : ∀ (s : Shared) (H : Hp) (C : Addr) (cl : List (Str × Addr)) (fp : List Addr), PE (X.blk s H scope (compEnvC scope cl C X.env) fp) kx tk)
    (he : ∀ (s : Shared) (H : Hp) (C : Addr) (cl : List (Str × Addr)) (fp : List Addr), PE (X.blk s H scope (compEnvC scope cl C X.env) fp) vx tv) (hs : ∀ x, foldedSetIterable iter X.env x = pure x := by intro _; rfl) :
    PE X (.DictComp kx vx [⟨tg, iter, ifs, 0⟩] scope pos) (tDp wi g tt tk tv (own.map (·.2))) := by
  refine ⟨fun pins s σ H Q I h => ?_⟩
  rw [arm_eval_DictComp]
  refine dp_core hu hc hN I hi ok hg ht hk he hs h fun D C s' m H' I' q hn f => ⟨m, hn, fun h'' sb => ?_⟩
  obtain ⟨f0, f1, f2, f3, f4, f5⟩ := f
  exact ⟨.ref D, H', I'.turned (t' := s'.toks) (fun b o hb e => (sb.2 b hb).trans e) f0 f1 f3 f4 f5, rfl, q⟩
end
/-- over a list that stays -/
theorem dp_list {K : PySem.W.Frag} {a : Addr} {xs : List V} {g : TG} {tt : TT} {tk tv : TE} {vs : List Nat} {σ : L2.St} {H1 : Hp} {D : Addr} {Qd : Hp → Prop} (Pv : Nat → Hp → Prop) (h0 : Pv 0 (upd H1 D (.dT []))) (hl : ∀ i H, i ≤ xs.length → Pv i H → SqL K H a xs)
    (hs : ∀ i x H, xs[i]? = some x → Pv i H → g x (wipe σ vs) H fun σ2 H2 => wipe σ2 vs = wipe σ vs ∧ tt σ2 H2 fun b H3 =>
      if b = true then tk σ2 H3 fun y H4 => tv σ2 H4 fun z H5 => ∃ H6, DPut H5 D y z H6 ∧ Pv (i + 1) H6 else Pv (i + 1) H3) (hd : ∀ H, Pv xs.length H → Qd H) :
    ∃ W : Nat → Nat → Hp → Prop, (∃ m, W 0 m (upd H1 D (.dT []))) ∧ ∀ i m H, W i m H →
      ((Itl K a).stop i H ∧ Qd H) ∨ ((Itl K a).go i H ∧ ∃ Nx : Hp → Prop, (∀ H', Nx H' → ∃ m', m' < m ∧ W (i + 1) m' H') ∧ ∀ x H', (Itl K a).yld i H x H' → g x (wipe σ vs) H' fun σ2 H2 => wipe σ2 vs = wipe σ vs ∧ tt σ2 H2 fun b H3 =>
        if b = true then tk σ2 H3 fun y H4 => tv σ2 H4 fun z H5 => ∃ H6, DPut H5 D y z H6 ∧ Nx H6 else Nx H3) := by
  refine ⟨fun i m H => m = xs.length - i ∧ i ≤ xs.length ∧ Pv i H, ⟨xs.length, by simp, Nat.zero_le _, h0⟩, ?_⟩
  rintro i m H ⟨rfl, hi, p⟩
  have q := hl i H hi p
  by_cases hlt : i < xs.length
  · refine .inr ⟨⟨xs, xs[i], q, by simp [hlt]⟩, Pv (i + 1), fun H' p' => ⟨xs.length - (i + 1), by omega, rfl, hlt, p'⟩, fun x H' y => ?_⟩
    obtain ⟨e, y⟩ := y
    subst e
    exact hs i x _ (y xs q) p
  · have e : i = xs.length := by omega
    subst e
    exact .inl ⟨⟨xs, q, Nat.le_refl _⟩, hd H p⟩
end Lk

/-! repr of a dict whose keys are tuples. -/
namespace Lk
open PySem PySem.Spec PyProof.Rows L2 G
def kD : Key → PyData
  | .inl i => .int i
  | .inr x => .str x
def keyD (k : List Key) : PyData := .tuple (k.map kD)
section
variable {X : Cx} {pins : List (Addr × Obj)} {σ : L2.St} {H : Hp} {s : Shared}
theorem dqs_key {K : PySem.W.Frag} {H : Hp} : ∀ k : List Key, DqAll K H (k.map kV) (k.map kD)
  | [] => .nil
  | .inl i :: k => .cons (.int i) (dqs_key k)
  | .inr x :: k => .cons (.str x) (dqs_key k)
theorem keyD_flat (k : List Key) : hasList (keyD k) = false := by
  unfold keyD
  have e : hasListAll (k.map kD) = false := hasListAll_of fun d hd => by
    obtain ⟨x, _, rfl⟩ := List.mem_map.1 hd
    cases x <;> rfl
  simp [hasList, e]
theorem kt_keys {K : PySem.W.Frag} {kvs : List (List Key × V)} {xs : List (List Key × Addr × Value)} (r : KT H kvs xs) : DqAll K H (xs.map fun q => V.ref q.2.1) (kvs.map fun p => keyD p.1) ∧ Vals (xs.map fun q => V.ref q.2.1) (xs.map fun q => Value.ref q.2.1) ∧ Vals (kvs.map (·.2)) (xs.map fun q => q.2.2) := by
  induction r with
  | nil => exact ⟨.nil, .nil, .nil⟩
  | @cons p q ps qs h _ ih =>
    obtain ⟨h1, h2, h3⟩ := h
    exact ⟨.cons (.tup (SqT.of h2) (dqs_key p.1)) ih.1, .cons rfl ih.2.1, .cons h3 ih.2.2⟩
/-- what a dict with tuples as keys reads as -/
def dictD (kvs : List (List Key × V)) (ds : List PyData) : PyData := .dict ((kvs.map fun p => keyD p.1).zip ds)
theorem dT_reads (I : Inv X pins σ H s) {d : Addr} {kvs : List (List Key × V)} {ds : List PyData} (hd : H d = some (.dT kvs)) (hv : DqAll X.K H (kvs.map (·.2)) ds) (hf : hasListAll ds = false) :
    ∃ as, Reads s.heap (.ref d) (dictD kvs ds) as ∧ sysModules ∉ as := by
  obtain ⟨_, ns, xs, rel, dd⟩ := dt_of I.hok hd
  obtain ⟨o, es, ep, ho, hx, hdt, he, _, _⟩ := dd
  obtain ⟨k1, k2, k3⟩ := kt_keys (K := X.K) rel
  obtain ⟨as, r1, m1⟩ := DqAll.reads I _ _ _ k1 k2
  obtain ⟨bs, r2, m2⟩ := DqAll.reads I _ _ _ hv k3
  have ll : (kvs.map fun p => keyD p.1).length = ds.length := by
    rw [List.length_map, ← hv.length, List.length_map]
  have e1 : ((kvs.map fun p => keyD p.1).zip ds).map (·.1) = kvs.map fun p => keyD p.1 := by
    have := List.map_fst_zip (l₁ := kvs.map fun p => keyD p.1) (l₂ := ds) (by omega)
    exact this
  have e2 : ((kvs.map fun p => keyD p.1).zip ds).map (·.2) = ds := by
    have := List.map_snd_zip (l₁ := kvs.map fun p => keyD p.1) (l₂ := ds) (by omega)
    exact this
  refine ⟨_, Reads.dict (as := as) (bs := bs) ho hx.1 hdt ?_ ?_, ?_⟩
  · rw [e1, he, List.map_map]
    exact r1
  · rw [e2, he, List.map_map]
    exact r2
  · have n1 : sysModules ∉ as := m1 (hasListAll_of fun d hd => by
      obtain ⟨p, _, rfl⟩ := List.mem_map.1 hd
      exact keyD_flat p.1)
    have n2 : sysModules ∉ bs := m2 hf
    intro z
    rcases List.mem_append.1 z with z | z
    · rcases List.mem_cons.1 z with z | z
      · rw [← z] at ns
        simp at ns
      · exact n1 z
    · exact n2 z
end
def rReprT (K : PySem.W.Frag) : List V → Hp → VK → Prop := fun xs H Q => ∃ (d : Addr) (kvs : List (List Key × V)) (ds : List PyData), xs = [.ref d] ∧ H d = some (.dT kvs) ∧ DqAll K H (kvs.map (·.2)) ds ∧ hasListAll ds = false ∧ (dictD kvs ds).showable = true ∧ (dictD kvs ds).depth ≤ 60 ∧ (dictD kvs ds).shown.length ≤ sizeLine ∧ Q (.str (dictD kvs ds).shown) H
theorem call_repr_dT {X : Cx} (gd : X.A.guards = some []) (hu : X.A.units + 64 < cLine) : CallR X (.builtin "repr") (rReprT X.K) := by
  intro pins s σ H xs us Q I r h
  obtain ⟨d, kvs, ds, rfl, hd, hv, hf, hs, h60, hz, q⟩ := h
  obtain ⟨u, rfl, rv⟩ := vals1 r
  cases rv
  obtain ⟨as, hr, hm⟩ := dT_reads I hd hv hf
  exact repr_of_reads' hr hs (fun _ => hm) gd (by omega) (fun _ _ e => e) (fun h' t tk k => ⟨.str (dictD kvs ds).shown, H, I.kept k, ⟨t, rfl⟩, q⟩) hz
/-- a dict of small data shows -/
theorem dict_parts {k : Bool} {n B : Nat} : ∀ {kv : List (PyData × PyData)}, (∀ p ∈ kv, Qk k n B p.1 ∧ Qk k n B p.2) → PyData.leavesShortKv 13 kv = true ∧ PyData.showableKv kv = true ∧ PyData.depthKv kv ≤ n ∧ PyData.weightKv kv ≤ kv.length * (2 * (B + 1))
  | [], _ => ⟨by simp [PyData.leavesShortKv], by simp [PyData.showableKv], by simp [PyData.depthKv], by simp [PyData.weightKv]⟩
  | (a, b) :: r, h => by
    obtain ⟨h1, h2⟩ := h (a, b) List.mem_cons_self
    obtain ⟨i1, i2, i3, i4⟩ := dict_parts (kv := r) fun p hp => h p (List.mem_cons_of_mem _ hp)
    refine ⟨?_, ?_, ?_, ?_⟩
    · simp only [PyData.leavesShortKv, Bool.and_eq_true]
      exact ⟨⟨h1.leaves, h2.leaves⟩, i1⟩
    · simp only [PyData.showableKv, Bool.and_eq_true]
      exact ⟨⟨h1.shape, h2.shape⟩, i2⟩
    · simp only [PyData.depthKv]
      exact Nat.max_le.2 ⟨Nat.max_le.2 ⟨h1.depth, h2.depth⟩, i3⟩
    · simp only [PyData.weightKv, List.length_cons]
      have w1 := h1.weight
      have w2 := h2.weight
      have w1 : a.weight ≤ B := w1
      have w2 : b.weight ≤ B := w2
      rw [Nat.succ_mul]
      omega
theorem dict_shows {k : Bool} {n B : Nat} {kv : List (PyData × PyData)} (h : ∀ p ∈ kv, Qk k n B p.1 ∧ Qk k n B p.2) (hn : n ≤ 59) (hB : kv.length * (2 * (B + 1)) ≤ 1048576) :
    (PyData.dict kv).showable = true ∧ (PyData.dict kv).depth ≤ 60 ∧ (PyData.dict kv).shown.length ≤ sizeLine := by
  obtain ⟨i1, i2, i3, i4⟩ := dict_parts h
  refine ⟨?_, ?_, PyData.shown_fits (B := 13) (by decide) (by decide) ?_ ?_⟩
  · simp only [PyData.showable]
    exact i2
  · simp only [PyData.depth]
    omega
  · simp only [PyData.leavesShort]
    exact i1
  · simp only [PyData.weight]
    exact Nat.le_trans i4 (Nat.le_trans hB (by decide))
end Lk

/-! d.clear() of a dict whose keys are tuples. -/
namespace Lk
open PySem PySem.Spec PyProof.Rows L2 G
def rDClearT : V → List V → Hp → VK → Prop := fun x vs H Q => ∃ (a : Addr) (kvs : List (List Key × V)), x = .ref a ∧ vs = [] ∧ H a = some (.dT kvs) ∧ Q .non (upd H a (.dT []))
theorem mtd_clearT {X : Cx} : MtR X "dict.clear" rDClearT := by
  intro pins s σ H x vs v us Q I rx rv h
  obtain ⟨a, kvs, rfl, rfl, e, q⟩ := h
  obtain rfl : v = Value.ref a := rx
  obtain rfl := rv.zero
  obtain ⟨z, hd, xs, rel, dd⟩ := dt_of I.hok e
  obtain ⟨o, es, ep, ho, hx, hdt, he, _, _⟩ := dd
  have hes : es.size ≤ sizeLine := by
    rw [size_of_entries he, ← Paired.length rel]
    exact z
  have raw : s.heap.DictRaw a es ep := ⟨o, ho, hx, hdt⟩
  refine call_meetsIn PySem.F.slot_dict_clear raw.typeIs PySem.F.entry_dict_clear (PySem.F.args_dict_clear_1 _) (meets_dict_clear_raw a) ⟨es, ep, raw, hes, fun h' hr hs => ?_⟩
  obtain ⟨o', ho', hx', hdt'⟩ := hr
  have I' : Inv X pins σ (upd H a (.dT [])) { s with heap := h' } := d_write (t' := s.toks) I (by rw [e]; exact True.intro) hs ⟨o', ho'⟩ ⟨Nat.zero_le _, hd, [], .nil, o', #[], ep + 1, ho', hx', hdt', rfl, List.nodup_nil⟩
  exact ⟨.non, _, I', rfl, q⟩
section
variable {X : Cx} {o : Expr} {to : TE} {apos cpos : Pos}
theorem pe_dclearT (ho : PE X o to) (hbase : attributeBase o "clear" X.env (eval o X.env) = eval o X.env := by rfl) (hline : (apos.endLine == cpos.line) = true := by rfl) : PE X (.Call (.Attribute o "clear" apos) [] [] cpos) (tBM0 X.K "dict" rDClearT to) :=
  pe_bm0 PySem.F.plainAttrs_dict PySem.F.slot_dict_clear PySem.F.type_dict_clear mtd_clearT ho hbase hline
end
end Lk

/-! Data lie outside any dict with tuples as keys. -/
namespace Lk
open PySem PySem.Spec PyProof.Rows L2 G
section
variable {K : PySem.W.Frag} {H : Hp} {D a : Addr} {kvs : List (List Key × V)}
theorem rd_outT {u : HO} (hD : H D = some (.dT kvs)) (hu : ∀ k, u ≠ .dT k) (h : Rd H a u) : Rd (sans H D) a u := by
  rcases h with h | ⟨o, h⟩
  · exact .inl (sans_of (fun z => by
      rw [z, hD] at h
      exact hu _ (Option.some.inj h).symm) h)
  · exact .inr ⟨o, sans_of (fun z => by
      rw [z, hD] at h
      cases h) h⟩
theorem sqL_outT {xs : List V} (hD : H D = some (.dT kvs)) (h : SqL K H a xs) : SqL K (sans H D) a xs := h.imp (rd_outT hD (fun _ z => nomatch z)) id
theorem sqT_outT {xs : List V} (hD : H D = some (.dT kvs)) (h : SqT K H a xs) : SqT K (sans H D) a xs := h.imp (rd_outT hD (fun _ z => nomatch z)) id
end
mutual
theorem Dq.outT {K : PySem.W.Frag} {H : Hp} {D : Addr} {kvs : List (List Key × V)} (hD : H D = some (.dT kvs)) : ∀ {v : V} {d : PyData}, Dq K H v d → Dq K (sans H D) v d
  | _, _, .non => .non
  | _, _, .bl b => .bl b
  | _, _, .int i => .int i
  | _, _, .str x => .str x
  | _, _, .lst h t => .lst (sqL_outT hD h) (DqAll.outT hD t)
  | _, _, .tup h t => .tup (sqT_outT hD h) (DqAll.outT hD t)
  | _, _, .emp h => .emp (sans_of (fun z => by
      rw [z, hD] at h
      cases h) h)
theorem DqAll.outT {K : PySem.W.Frag} {H : Hp} {D : Addr} {kvs : List (List Key × V)} (hD : H D = some (.dT kvs)) : ∀ {vs : List V} {ds : List PyData}, DqAll K H vs ds → DqAll K (sans H D) vs ds
  | _, _, .nil => .nil
  | _, _, .cons h t => .cons (Dq.outT hD h) (DqAll.outT hD t)
end
/-- .. so they stay while it is locked -/
theorem Dq.locked {K : PySem.W.Frag} {H : Hp} {D : Addr} {kvs : List (List Key × V)} {o : Obj} {v : V} {d : PyData} (hD : H D = some (.dT kvs)) (h : Dq K H v d) : Dq K (upd H D (.frz o (.dT kvs))) v d :=
  (Dq.outT hD h).mono fun b u e => by
    obtain ⟨n, e'⟩ := sans_some e
    exact (upd_ne n).trans e'
end Lk

/-! x is True, x a truth value. -/
namespace Lk
open PySem PySem.Spec PyProof.Rows L2 G
section
variable {X : Cx}
theorem op_isB : OpR X (compareOp .Is) (fun x y H Q => ∃ a b, x = .bl a ∧ y = .bl b ∧ Q (.bl (decide (a = b))) H) := by
  intro pins s σ H x y v u Q I rx ry h
  obtain ⟨a, b, rfl, rfl, q⟩ := h
  cases rx
  cases ry
  have e : EP X pins σ Q (.bool (decide (a = b))) s := ⟨.bl (decide (a = b)), H, I, rfl, q⟩
  unfold compareOp
  cases a <;> cases b <;> exact wpAny_pure e
end
end Lk

namespace K12
open PySem PySem.Spec PyProof.Rows L2 G Lk
/-! ### the text by places -/
def top (i : Nat) : Stmt := PySem.Challenge.pw_rescans_k12_whole_values_and_outcomes.main.body.getD i (.Pass ⟨0, 0, 0, 0⟩)
abbrev s_is_word : Stmt := top 9
abbrev N_is_word : List Str := ["signs", "thing"]
theorem sc_is_word : FnScope N_is_word ["signs", "thing"] (defScope s_is_word) := ⟨rfl, rfl, rfl, by decide +kernel, rfl, by decide +kernel, by decide +kernel⟩
abbrev s_is_text : Stmt := top 10
abbrev N_is_text : List Str := ["signs", "thing"]
theorem sc_is_text : FnScope N_is_text ["signs", "thing"] (defScope s_is_text) := ⟨rfl, rfl, rfl, by decide +kernel, rfl, by decide +kernel, by decide +kernel⟩
abbrev s_need_text : Stmt := top 11
abbrev N_need_text : List Str := ["signs", "thing"]
theorem sc_need_text : FnScope N_need_text ["signs", "thing"] (defScope s_need_text) := ⟨rfl, rfl, rfl, by decide +kernel, rfl, by decide +kernel, by decide +kernel⟩
abbrev s_is_expander : Stmt := top 17
abbrev N_is_expander : List Str := ["thing", "signs", "first", "states"]
theorem sc_is_expander : FnScope N_is_expander ["thing"] (defScope s_is_expander) := ⟨rfl, rfl, rfl, by decide +kernel, rfl, by decide +kernel, by decide +kernel⟩
abbrev s_need_expander : Stmt := top 18
abbrev N_need_expander : List Str := ["expander"]
theorem sc_need_expander : FnScope N_need_expander ["expander"] (defScope s_need_expander) := ⟨rfl, rfl, rfl, by decide +kernel, rfl, by decide +kernel, by decide +kernel⟩
abbrev s_is_plain : Stmt := top 19
abbrev N_is_plain : List Str := ["expander", "states", "state", "move"]
theorem sc_is_plain : FnScope N_is_plain ["expander"] (defScope s_is_plain) := ⟨rfl, rfl, rfl, by decide +kernel, rfl, by decide +kernel, by decide +kernel⟩
abbrev s_need_call : Stmt := top 20
abbrev N_need_call : List Str := ["expander", "state", "sign"]
theorem sc_need_call : FnScope N_need_call ["expander", "state", "sign"] (defScope s_need_call) := ⟨rfl, rfl, rfl, by decide +kernel, rfl, by decide +kernel, by decide +kernel⟩
abbrev s_is_call : Stmt := top 21
abbrev N_is_call : List Str := ["expander", "state", "sign", "signs", "_", "states"]
theorem sc_is_call : FnScope N_is_call ["expander", "state", "sign"] (defScope s_is_call) := ⟨rfl, rfl, rfl, by decide +kernel, rfl, by decide +kernel, by decide +kernel⟩
abbrev s_is_sign : Stmt := top 22
abbrev N_is_sign : List Str := ["signs", "thing"]
theorem sc_is_sign : FnScope N_is_sign ["signs", "thing"] (defScope s_is_sign) := ⟨rfl, rfl, rfl, by decide +kernel, rfl, by decide +kernel, by decide +kernel⟩
abbrev s_is_number : Stmt := top 23
abbrev N_is_number : List Str := ["many", "thing"]
theorem sc_is_number : FnScope N_is_number ["many", "thing"] (defScope s_is_number) := ⟨rfl, rfl, rfl, by decide +kernel, rfl, by decide +kernel, by decide +kernel⟩
abbrev s_is_whole : Stmt := top 24
abbrev N_is_whole : List Str := ["thing"]
theorem sc_is_whole : FnScope N_is_whole ["thing"] (defScope s_is_whole) := ⟨rfl, rfl, rfl, by decide +kernel, rfl, by decide +kernel, by decide +kernel⟩
abbrev s_move_of : Stmt := top 25
abbrev N_move_of : List Str := ["expander", "state", "sign"]
theorem sc_move_of : FnScope N_move_of ["expander", "state", "sign"] (defScope s_move_of) := ⟨rfl, rfl, rfl, by decide +kernel, rfl, by decide +kernel, by decide +kernel⟩
abbrev s_are_signs : Stmt := top 26
abbrev N_are_signs : List Str := ["thing"]
theorem sc_are_signs : FnScope N_are_signs ["thing"] (defScope s_are_signs) := ⟨rfl, rfl, rfl, by decide +kernel, rfl, by decide +kernel, by decide +kernel⟩
abbrev s_is_short_word : Stmt := top 27
abbrev N_is_short_word : List Str := ["signs", "thing"]
theorem sc_is_short_word : FnScope N_is_short_word ["signs", "thing"] (defScope s_is_short_word) := ⟨rfl, rfl, rfl, by decide +kernel, rfl, by decide +kernel, by decide +kernel⟩
abbrev s_are_states : Stmt := top 28
abbrev N_are_states : List Str := ["signs", "thing", "state"]
theorem sc_are_states : FnScope N_are_states ["signs", "thing"] (defScope s_are_states) := ⟨rfl, rfl, rfl, by decide +kernel, rfl, by decide +kernel, by decide +kernel⟩
abbrev s_is_state : Stmt := top 29
abbrev N_is_state : List Str := ["signs", "many", "thing", "moves", "last", "move"]
theorem sc_is_state : FnScope N_is_state ["signs", "many", "thing"] (defScope s_is_state) := ⟨rfl, rfl, rfl, by decide +kernel, rfl, by decide +kernel, by decide +kernel⟩
abbrev s_is_move : Stmt := top 30
abbrev N_is_move : List Str := ["signs", "many", "thing", "done", "back", "goal"]
theorem sc_is_move : FnScope N_is_move ["signs", "many", "thing"] (defScope s_is_move) := ⟨rfl, rfl, rfl, by decide +kernel, rfl, by decide +kernel, by decide +kernel⟩
abbrev s_reached_of : Stmt := top 32
abbrev N_reached_of : List Str := ["states"]
theorem sc_reached_of : FnScope N_reached_of ["states"] (defScope s_reached_of) := ⟨rfl, rfl, rfl, by decide +kernel, rfl, by decide +kernel, by decide +kernel⟩
abbrev s_goals : Stmt := top 33
abbrev N_goals : List Str := ["states", "move", "moves", "_"]
theorem sc_goals : FnScope N_goals ["states"] (defScope s_goals) := ⟨rfl, rfl, rfl, by decide +kernel, rfl, by decide +kernel, by decide +kernel⟩
abbrev s_led_to : Stmt := top 34
abbrev N_led_to : List Str := ["following", "begin", "found", "waiting", "now", "state"]
theorem sc_led_to : FnScope N_led_to ["following", "begin"] (defScope s_led_to) := ⟨rfl, rfl, rfl, by decide +kernel, rfl, by decide +kernel, by decide +kernel⟩
abbrev s_value : Stmt := top 36
abbrev N_value : List Str := ["expander", "state", "sign", "found"]
theorem sc_value : FnScope N_value ["expander", "state", "sign"] (defScope s_value) := ⟨rfl, rfl, rfl, by decide +kernel, rfl, by decide +kernel, by decide +kernel⟩
abbrev s_values : Stmt := top 37
abbrev N_values : List Str := ["expander", "found", "call"]
theorem sc_values : FnScope N_values ["expander"] (defScope s_values) := ⟨rfl, rfl, rfl, by decide +kernel, rfl, by decide +kernel, by decide +kernel⟩
abbrev s_plain : Stmt := top 38
abbrev N_plain : List Str := ["expander"]
theorem sc_plain : FnScope N_plain ["expander"] (defScope s_plain) := ⟨rfl, rfl, rfl, by decide +kernel, rfl, by decide +kernel, by decide +kernel⟩
abbrev s_outcome : Stmt := top 39
abbrev N_outcome : List Str := ["expander", "text"]
theorem sc_outcome : FnScope N_outcome ["expander", "text"] (defScope s_outcome) := ⟨rfl, rfl, rfl, by decide +kernel, rfl, by decide +kernel, by decide +kernel⟩
abbrev s_ends_always : Stmt := top 40
abbrev N_ends_always : List Str := ["expander", "states", "reached", "state", "moves", "last"]
theorem sc_ends_always : FnScope N_ends_always ["expander"] (defScope s_ends_always) := ⟨rfl, rfl, rfl, by decide +kernel, rfl, by decide +kernel, by decide +kernel⟩
abbrev s_words_of_text : Stmt := top 41
abbrev N_words_of_text : List Str := ["expander", "found", "text", "words", "calls", "last", "call", "word"]
theorem sc_words_of_text : FnScope N_words_of_text ["expander", "found", "text"] (defScope s_words_of_text) := ⟨rfl, rfl, rfl, by decide +kernel, rfl, by decide +kernel, by decide +kernel⟩
abbrev s_calls_of_text : Stmt := top 42
abbrev N_calls_of_text : List Str := ["expander", "found", "text", "calls", "state", "sign", "last"]
theorem sc_calls_of_text : FnScope N_calls_of_text ["expander", "found", "text"] (defScope s_calls_of_text) := ⟨rfl, rfl, rfl, by decide +kernel, rfl, by decide +kernel, by decide +kernel⟩
abbrev s_sizes_of : Stmt := top 43
abbrev N_sizes_of : List Str := ["expander", "found", "opened", "call"]
theorem sc_sizes_of : FnScope N_sizes_of ["expander"] (defScope s_sizes_of) := ⟨rfl, rfl, rfl, by decide +kernel, rfl, by decide +kernel, by decide +kernel⟩
abbrev s_values_of : Stmt := top 44
abbrev N_values_of : List Str := ["expander", "sizes", "size", "_"]
theorem sc_values_of : FnScope N_values_of ["expander"] (defScope s_values_of) := ⟨rfl, rfl, rfl, by decide +kernel, rfl, by decide +kernel, by decide +kernel⟩
abbrev s_short_values : Stmt := top 45
abbrev N_short_values : List Str := ["expander", "sizes", "found", "call", "parts", "inner", "size", "_", "done", "back", "goal", "word"]
theorem sc_short_values : FnScope N_short_values ["expander", "sizes"] (defScope s_short_values) := ⟨rfl, rfl, rfl, by decide +kernel, rfl, by decide +kernel, by decide +kernel⟩
abbrev s_plain_of : Stmt := top 46
abbrev N_plain_of : List Str := ["expander", "found", "told", "signs", "first", "states", "state", "moves", "_", "last", "sign"]
theorem sc_plain_of : FnScope N_plain_of ["expander"] (defScope s_plain_of) := ⟨rfl, rfl, rfl, by decide +kernel, rfl, by decide +kernel, by decide +kernel⟩
abbrev s_plain_move : Stmt := top 47
abbrev N_plain_move : List Str := ["told", "word", "goal"]
theorem sc_plain_move : FnScope N_plain_move ["told"] (defScope s_plain_move) := ⟨rfl, rfl, rfl, by decide +kernel, rfl, by decide +kernel, by decide +kernel⟩
abbrev s_all_calls : Stmt := top 48
abbrev N_all_calls : List Str := ["expander", "signs", "_", "states", "state", "sign"]
theorem sc_all_calls : FnScope N_all_calls ["expander"] (defScope s_all_calls) := ⟨rfl, rfl, rfl, by decide +kernel, rfl, by decide +kernel, by decide +kernel⟩
abbrev s_measure : Stmt := top 49
abbrev N_measure : List Str := ["expander", "found", "opened", "call", "row", "move"]
theorem sc_measure : FnScope N_measure ["expander", "found", "opened", "call"] (defScope s_measure) := ⟨rfl, rfl, rfl, by decide +kernel, rfl, by decide +kernel, by decide +kernel⟩
abbrev s_read_on : Stmt := top 50
abbrev N_read_on : List Str := ["expander", "found", "row", "back", "call", "place", "size", "state", "more"]
theorem sc_read_on : FnScope N_read_on ["expander", "found", "row"] (defScope s_read_on) := ⟨rfl, rfl, rfl, by decide +kernel, rfl, by decide +kernel, by decide +kernel⟩
abbrev s_need_value : Stmt := top 51
abbrev N_need_value : List Str := ["expander", "found", "call", "told", "kind", "state", "sign"]
theorem sc_need_value : FnScope N_need_value ["expander", "found", "call"] (defScope s_need_value) := ⟨rfl, rfl, rfl, by decide +kernel, rfl, by decide +kernel, by decide +kernel⟩
abbrev s_thread_of : Stmt := top 52
abbrev N_thread_of : List Str := ["expander", "found", "call", "row"]
theorem sc_thread_of : FnScope N_thread_of ["expander", "found", "call"] (defScope s_thread_of) := ⟨rfl, rfl, rfl, by decide +kernel, rfl, by decide +kernel, by decide +kernel⟩
abbrev s_first_without : Stmt := top 53
abbrev N_first_without : List Str := ["expander", "found", "call", "move", "place", "_", "back", "state"]
theorem sc_first_without : FnScope N_first_without ["expander", "found", "call"] (defScope s_first_without) := ⟨rfl, rfl, rfl, by decide +kernel, rfl, by decide +kernel, by decide +kernel⟩
abbrev s_stands : Stmt := top 55
abbrev N_stands : List Str := ["expander", "text", "most", "found", "stand"]
theorem sc_stands : FnScope N_stands ["expander", "text", "most"] (defScope s_stands) := ⟨rfl, rfl, rfl, by decide +kernel, rfl, by decide +kernel, by decide +kernel⟩
abbrev s_first_stand : Stmt := top 56
abbrev N_first_stand : List Str := ["expander", "text"]
theorem sc_first_stand : FnScope N_first_stand ["expander", "text"] (defScope s_first_stand) := ⟨rfl, rfl, rfl, by decide +kernel, rfl, by decide +kernel, by decide +kernel⟩
abbrev s_next_stand : Stmt := top 57
abbrev N_next_stand : List Str := ["expander", "stand", "move", "done", "front", "state"]
theorem sc_next_stand : FnScope N_next_stand ["expander", "stand"] (defScope s_next_stand) := ⟨rfl, rfl, rfl, by decide +kernel, rfl, by decide +kernel, by decide +kernel⟩
abbrev s_Lkneaded : Stmt := top 59
abbrev N_Lkneaded : List Str := ["seed", "lap", "prime", "amount", "again"]
theorem sc_Lkneaded : FnScope N_Lkneaded ["seed", "lap"] (defScope s_Lkneaded) := ⟨rfl, rfl, rfl, by decide +kernel, rfl, by decide +kernel, by decide +kernel⟩
abbrev s_Lpot_of : Stmt := top 60
abbrev N_Lpot_of : List Str := ["script", "cells", "place", "cell"]
theorem sc_Lpot_of : FnScope N_Lpot_of ["script"] (defScope s_Lpot_of) := ⟨rfl, rfl, rfl, by decide +kernel, rfl, by decide +kernel, by decide +kernel⟩
abbrev s_Lbelow : Stmt := top 61
abbrev N_Lbelow : List Str := ["pot", "bound", "found", "amount", "cells", "place"]
theorem sc_Lbelow : FnScope N_Lbelow ["pot", "bound"] (defScope s_Lbelow) := ⟨rfl, rfl, rfl, by decide +kernel, rfl, by decide +kernel, by decide +kernel⟩
abbrev s_Lpick : Stmt := top 62
abbrev N_Lpick : List Str := ["pot", "items"]
theorem sc_Lpick : FnScope N_Lpick ["pot", "items"] (defScope s_Lpick) := ⟨rfl, rfl, rfl, by decide +kernel, rfl, by decide +kernel, by decide +kernel⟩
abbrev s_Lsome_word : Stmt := top 63
abbrev N_Lsome_word : List Str := ["pot", "signs", "limit", "lap"]
theorem sc_Lsome_word : FnScope N_Lsome_word ["pot", "signs", "limit"] (defScope s_Lsome_word) := ⟨rfl, rfl, rfl, by decide +kernel, rfl, by decide +kernel, by decide +kernel⟩
abbrev s_Lsome_expander : Stmt := top 64
abbrev N_Lsome_expander : List Str := ["pot", "many", "signs", "state", "found", "spans", "count", "kind", "states", "moves", "sign", "last", "back", "done", "move", "call"]
theorem sc_Lsome_expander : FnScope N_Lsome_expander ["pot", "many"] (defScope s_Lsome_expander) := ⟨rfl, rfl, rfl, by decide +kernel, rfl, by decide +kernel, by decide +kernel⟩
abbrev s_Lplainer : Stmt := top 65
abbrev N_Lplainer : List Str := ["state", "move"]
theorem sc_Lplainer : FnScope N_Lplainer ["state"] (defScope s_Lplainer) := ⟨rfl, rfl, rfl, by decide +kernel, rfl, by decide +kernel, by decide +kernel⟩
abbrev s_Lcalls : Stmt := top 66
abbrev N_Lcalls : List Str := ["expander", "found", "state", "sign"]
theorem sc_Lcalls : FnScope N_Lcalls ["expander"] (defScope s_Lcalls) := ⟨rfl, rfl, rfl, by decide +kernel, rfl, by decide +kernel, by decide +kernel⟩
abbrev s_Lsizes : Stmt := top 67
abbrev N_Lsizes : List Str := ["expander", "found", "lap", "state", "sign", "move", "one", "size", "here", "more"]
theorem sc_Lsizes : FnScope N_Lsizes ["expander"] (defScope s_Lsizes) := ⟨rfl, rfl, rfl, by decide +kernel, rfl, by decide +kernel, by decide +kernel⟩
abbrev s_Lvalues : Stmt := top 68
abbrev N_Lvalues : List Str := ["expander", "found", "lap", "state", "sign", "move", "call", "one", "word", "here", "more"]
theorem sc_Lvalues : FnScope N_Lvalues ["expander"] (defScope s_Lvalues) := ⟨rfl, rfl, rfl, by decide +kernel, rfl, by decide +kernel, by decide +kernel⟩
abbrev s_Loutcome : Stmt := top 69
abbrev N_Loutcome : List Str := ["expander", "known", "text", "sign", "word", "state", "more"]
theorem sc_Loutcome : FnScope N_Loutcome ["expander", "known", "text"] (defScope s_Loutcome) := ⟨rfl, rfl, rfl, by decide +kernel, rfl, by decide +kernel, by decide +kernel⟩
abbrev s_Ltexts : Stmt := top 70
abbrev N_Ltexts : List Str := ["signs", "limit", "lap", "found", "row", "longer", "text", "sign"]
theorem sc_Ltexts : FnScope N_Ltexts ["signs", "limit"] (defScope s_Ltexts) := ⟨rfl, rfl, rfl, by decide +kernel, rfl, by decide +kernel, by decide +kernel⟩
abbrev s_Ltold : Stmt := top 71
abbrev N_Ltold : List Str := ["expander", "text", "found", "error"]
theorem sc_Ltold : FnScope N_Ltold ["expander", "text"] (defScope s_Ltold) := ⟨rfl, rfl, rfl, by decide +kernel, rfl, by decide +kernel, by decide +kernel⟩
abbrev s_Lrun_right : Stmt := top 72
abbrev N_Lrun_right : List Str := ["expander", "text", "due", "row", "done", "front", "state", "last"]
theorem sc_Lrun_right : FnScope N_Lrun_right ["expander", "text", "due"] (defScope s_Lrun_right) := ⟨rfl, rfl, rfl, by decide +kernel, rfl, by decide +kernel, by decide +kernel⟩
abbrev s_Lvalues_right : Stmt := top 73
abbrev N_Lvalues_right : List Str := ["expander", "known", "states", "form", "state", "sign", "row", "moves", "last", "one"]
theorem sc_Lvalues_right : FnScope N_Lvalues_right ["expander", "known"] (defScope s_Lvalues_right) := ⟨rfl, rfl, rfl, by decide +kernel, rfl, by decide +kernel, by decide +kernel⟩
abbrev s_law : Stmt := top 74
abbrev N_law : List Str := ["script", "pot", "turn", "expander", "text", "known", "before", "form", "is_whole_v", "due"]
theorem sc_law : FnScope N_law ["script"] (defScope s_law) := ⟨rfl, rfl, rfl, by decide +kernel, rfl, by decide +kernel, by decide +kernel⟩
/-! ### what the top leaves -/
set_option maxHeartbeats 0 in
structure Tx (K : PySem.W.Frag) (mg : Str → Option Value) where
  a_is_word : Addr
  fd_is_word : FuncData
  g_is_word : mg "is_word" = some (.ref a_is_word)
  F_is_word : Fun K "is_word" "is_word" s_is_word a_is_word fd_is_word
  b_is_word : Binds K fd_is_word ["signs", "thing"] []
  a_is_text : Addr
  fd_is_text : FuncData
  g_is_text : mg "is_text" = some (.ref a_is_text)
  F_is_text : Fun K "is_text" "is_text" s_is_text a_is_text fd_is_text
  b_is_text : Binds K fd_is_text ["signs", "thing"] []
  a_need_text : Addr
  fd_need_text : FuncData
  g_need_text : mg "need_text" = some (.ref a_need_text)
  F_need_text : Fun K "need_text" "need_text" s_need_text a_need_text fd_need_text
  b_need_text : Binds K fd_need_text ["signs", "thing"] []
  a_is_expander : Addr
  fd_is_expander : FuncData
  g_is_expander : mg "is_expander" = some (.ref a_is_expander)
  F_is_expander : Fun K "is_expander" "is_expander" s_is_expander a_is_expander fd_is_expander
  b_is_expander : Binds K fd_is_expander ["thing"] []
  a_need_expander : Addr
  fd_need_expander : FuncData
  g_need_expander : mg "need_expander" = some (.ref a_need_expander)
  F_need_expander : Fun K "need_expander" "need_expander" s_need_expander a_need_expander fd_need_expander
  b_need_expander : Binds K fd_need_expander ["expander"] []
  a_is_plain : Addr
  fd_is_plain : FuncData
  g_is_plain : mg "is_plain" = some (.ref a_is_plain)
  F_is_plain : Fun K "is_plain" "is_plain" s_is_plain a_is_plain fd_is_plain
  b_is_plain : Binds K fd_is_plain ["expander"] []
  a_need_call : Addr
  fd_need_call : FuncData
  g_need_call : mg "need_call" = some (.ref a_need_call)
  F_need_call : Fun K "need_call" "need_call" s_need_call a_need_call fd_need_call
  b_need_call : Binds K fd_need_call ["expander", "state", "sign"] []
  a_is_call : Addr
  fd_is_call : FuncData
  g_is_call : mg "is_call" = some (.ref a_is_call)
  F_is_call : Fun K "is_call" "is_call" s_is_call a_is_call fd_is_call
  b_is_call : Binds K fd_is_call ["expander", "state", "sign"] []
  a_is_sign : Addr
  fd_is_sign : FuncData
  g_is_sign : mg "is_sign" = some (.ref a_is_sign)
  F_is_sign : Fun K "is_sign" "is_sign" s_is_sign a_is_sign fd_is_sign
  b_is_sign : Binds K fd_is_sign ["signs", "thing"] []
  a_is_number : Addr
  fd_is_number : FuncData
  g_is_number : mg "is_number" = some (.ref a_is_number)
  F_is_number : Fun K "is_number" "is_number" s_is_number a_is_number fd_is_number
  b_is_number : Binds K fd_is_number ["many", "thing"] []
  a_is_whole : Addr
  fd_is_whole : FuncData
  g_is_whole : mg "is_whole" = some (.ref a_is_whole)
  F_is_whole : Fun K "is_whole" "is_whole" s_is_whole a_is_whole fd_is_whole
  b_is_whole : Binds K fd_is_whole ["thing"] []
  a_move_of : Addr
  fd_move_of : FuncData
  g_move_of : mg "move_of" = some (.ref a_move_of)
  F_move_of : Fun K "move_of" "move_of" s_move_of a_move_of fd_move_of
  b_move_of : Binds K fd_move_of ["expander", "state", "sign"] []
  a__are_signs : Addr
  fd__are_signs : FuncData
  g__are_signs : mg "_are_signs" = some (.ref a__are_signs)
  F__are_signs : Fun K "_are_signs" "_are_signs" s_are_signs a__are_signs fd__are_signs
  b__are_signs : Binds K fd__are_signs ["thing"] []
  a__is_short_word : Addr
  fd__is_short_word : FuncData
  g__is_short_word : mg "_is_short_word" = some (.ref a__is_short_word)
  F__is_short_word : Fun K "_is_short_word" "_is_short_word" s_is_short_word a__is_short_word fd__is_short_word
  b__is_short_word : Binds K fd__is_short_word ["signs", "thing"] []
  a__are_states : Addr
  fd__are_states : FuncData
  g__are_states : mg "_are_states" = some (.ref a__are_states)
  F__are_states : Fun K "_are_states" "_are_states" s_are_states a__are_states fd__are_states
  b__are_states : Binds K fd__are_states ["signs", "thing"] []
  a__is_state : Addr
  fd__is_state : FuncData
  g__is_state : mg "_is_state" = some (.ref a__is_state)
  F__is_state : Fun K "_is_state" "_is_state" s_is_state a__is_state fd__is_state
  b__is_state : Binds K fd__is_state ["signs", "many", "thing"] []
  a__is_move : Addr
  fd__is_move : FuncData
  g__is_move : mg "_is_move" = some (.ref a__is_move)
  F__is_move : Fun K "_is_move" "_is_move" s_is_move a__is_move fd__is_move
  b__is_move : Binds K fd__is_move ["signs", "many", "thing"] []
  a_reached_of : Addr
  fd_reached_of : FuncData
  g_reached_of : mg "reached_of" = some (.ref a_reached_of)
  F_reached_of : Fun K "reached_of" "reached_of" s_reached_of a_reached_of fd_reached_of
  b_reached_of : Binds K fd_reached_of ["states"] []
  a__goals : Addr
  fd__goals : FuncData
  g__goals : mg "_goals" = some (.ref a__goals)
  F__goals : Fun K "_goals" "_goals" s_goals a__goals fd__goals
  b__goals : Binds K fd__goals ["states"] []
  a__led_to : Addr
  fd__led_to : FuncData
  g__led_to : mg "_led_to" = some (.ref a__led_to)
  F__led_to : Fun K "_led_to" "_led_to" s_led_to a__led_to fd__led_to
  b__led_to : Binds K fd__led_to ["following", "begin"] []
  a_value : Addr
  fd_value : FuncData
  g_value : mg "value" = some (.ref a_value)
  F_value : Fun K "value" "value" s_value a_value fd_value
  b_value : Binds K fd_value ["expander", "state", "sign"] []
  a_values : Addr
  fd_values : FuncData
  g_values : mg "values" = some (.ref a_values)
  F_values : Fun K "values" "values" s_values a_values fd_values
  b_values : Binds K fd_values ["expander"] []
  a_plain : Addr
  fd_plain : FuncData
  g_plain : mg "plain" = some (.ref a_plain)
  F_plain : Fun K "plain" "plain" s_plain a_plain fd_plain
  b_plain : Binds K fd_plain ["expander"] []
  a_outcome : Addr
  fd_outcome : FuncData
  g_outcome : mg "outcome" = some (.ref a_outcome)
  F_outcome : Fun K "outcome" "outcome" s_outcome a_outcome fd_outcome
  b_outcome : Binds K fd_outcome ["expander", "text"] []
  a_ends_always : Addr
  fd_ends_always : FuncData
  g_ends_always : mg "ends_always" = some (.ref a_ends_always)
  F_ends_always : Fun K "ends_always" "ends_always" s_ends_always a_ends_always fd_ends_always
  b_ends_always : Binds K fd_ends_always ["expander"] []
  a_words_of_text : Addr
  fd_words_of_text : FuncData
  g_words_of_text : mg "words_of_text" = some (.ref a_words_of_text)
  F_words_of_text : Fun K "words_of_text" "words_of_text" s_words_of_text a_words_of_text fd_words_of_text
  b_words_of_text : Binds K fd_words_of_text ["expander", "found", "text"] []
  a_calls_of_text : Addr
  fd_calls_of_text : FuncData
  g_calls_of_text : mg "calls_of_text" = some (.ref a_calls_of_text)
  F_calls_of_text : Fun K "calls_of_text" "calls_of_text" s_calls_of_text a_calls_of_text fd_calls_of_text
  b_calls_of_text : Binds K fd_calls_of_text ["expander", "found", "text"] []
  a_sizes_of : Addr
  fd_sizes_of : FuncData
  g_sizes_of : mg "sizes_of" = some (.ref a_sizes_of)
  F_sizes_of : Fun K "sizes_of" "sizes_of" s_sizes_of a_sizes_of fd_sizes_of
  b_sizes_of : Binds K fd_sizes_of ["expander"] []
  a_values_of : Addr
  fd_values_of : FuncData
  g_values_of : mg "values_of" = some (.ref a_values_of)
  F_values_of : Fun K "values_of" "values_of" s_values_of a_values_of fd_values_of
  b_values_of : Binds K fd_values_of ["expander"] []
  a_short_values : Addr
  fd_short_values : FuncData
  g_short_values : mg "short_values" = some (.ref a_short_values)
  F_short_values : Fun K "short_values" "short_values" s_short_values a_short_values fd_short_values
  b_short_values : Binds K fd_short_values ["expander", "sizes"] []
  a_plain_of : Addr
  fd_plain_of : FuncData
  g_plain_of : mg "plain_of" = some (.ref a_plain_of)
  F_plain_of : Fun K "plain_of" "plain_of" s_plain_of a_plain_of fd_plain_of
  b_plain_of : Binds K fd_plain_of ["expander"] []
  a__plain_move : Addr
  fd__plain_move : FuncData
  g__plain_move : mg "_plain_move" = some (.ref a__plain_move)
  F__plain_move : Fun K "_plain_move" "_plain_move" s_plain_move a__plain_move fd__plain_move
  b__plain_move : Binds K fd__plain_move ["told"] []
  a_all_calls : Addr
  fd_all_calls : FuncData
  g_all_calls : mg "all_calls" = some (.ref a_all_calls)
  F_all_calls : Fun K "all_calls" "all_calls" s_all_calls a_all_calls fd_all_calls
  b_all_calls : Binds K fd_all_calls ["expander"] []
  a__measure : Addr
  fd__measure : FuncData
  g__measure : mg "_measure" = some (.ref a__measure)
  F__measure : Fun K "_measure" "_measure" s_measure a__measure fd__measure
  b__measure : Binds K fd__measure ["expander", "found", "opened", "call"] []
  a__read_on : Addr
  fd__read_on : FuncData
  g__read_on : mg "_read_on" = some (.ref a__read_on)
  F__read_on : Fun K "_read_on" "_read_on" s_read_on a__read_on fd__read_on
  b__read_on : Binds K fd__read_on ["expander", "found", "row"] []
  a__need_value : Addr
  fd__need_value : FuncData
  g__need_value : mg "_need_value" = some (.ref a__need_value)
  F__need_value : Fun K "_need_value" "_need_value" s_need_value a__need_value fd__need_value
  b__need_value : Binds K fd__need_value ["expander", "found", "call"] []
  a__thread_of : Addr
  fd__thread_of : FuncData
  g__thread_of : mg "_thread_of" = some (.ref a__thread_of)
  F__thread_of : Fun K "_thread_of" "_thread_of" s_thread_of a__thread_of fd__thread_of
  b__thread_of : Binds K fd__thread_of ["expander", "found", "call"] []
  a__first_without : Addr
  fd__first_without : FuncData
  g__first_without : mg "_first_without" = some (.ref a__first_without)
  F__first_without : Fun K "_first_without" "_first_without" s_first_without a__first_without fd__first_without
  b__first_without : Binds K fd__first_without ["expander", "found", "call"] []
  a_stands : Addr
  fd_stands : FuncData
  g_stands : mg "stands" = some (.ref a_stands)
  F_stands : Fun K "stands" "stands" s_stands a_stands fd_stands
  ds_stands : List Value
  dv_stands : Vals [V.int 100] ds_stands
  b_stands : Binds K fd_stands ["expander", "text", "most"] ds_stands
  kb_stands : KBn K fd_stands ["expander", "text", "most"] 2 ["most"] (fun us ws => us ++ ws) (fun vs zs => vs ++ zs)
  a__first_stand : Addr
  fd__first_stand : FuncData
  g__first_stand : mg "_first_stand" = some (.ref a__first_stand)
  F__first_stand : Fun K "_first_stand" "_first_stand" s_first_stand a__first_stand fd__first_stand
  b__first_stand : Binds K fd__first_stand ["expander", "text"] []
  a__next_stand : Addr
  fd__next_stand : FuncData
  g__next_stand : mg "_next_stand" = some (.ref a__next_stand)
  F__next_stand : Fun K "_next_stand" "_next_stand" s_next_stand a__next_stand fd__next_stand
  b__next_stand : Binds K fd__next_stand ["expander", "stand"] []
  a__law_kneaded : Addr
  fd__law_kneaded : FuncData
  g__law_kneaded : mg "_law_kneaded" = some (.ref a__law_kneaded)
  F__law_kneaded : Fun K "_law_kneaded" "_law_kneaded" s_Lkneaded a__law_kneaded fd__law_kneaded
  b__law_kneaded : Binds K fd__law_kneaded ["seed", "lap"] []
  a__law_pot_of : Addr
  fd__law_pot_of : FuncData
  g__law_pot_of : mg "_law_pot_of" = some (.ref a__law_pot_of)
  F__law_pot_of : Fun K "_law_pot_of" "_law_pot_of" s_Lpot_of a__law_pot_of fd__law_pot_of
  b__law_pot_of : Binds K fd__law_pot_of ["script"] []
  a__law_below : Addr
  fd__law_below : FuncData
  g__law_below : mg "_law_below" = some (.ref a__law_below)
  F__law_below : Fun K "_law_below" "_law_below" s_Lbelow a__law_below fd__law_below
  b__law_below : Binds K fd__law_below ["pot", "bound"] []
  a__law_pick : Addr
  fd__law_pick : FuncData
  g__law_pick : mg "_law_pick" = some (.ref a__law_pick)
  F__law_pick : Fun K "_law_pick" "_law_pick" s_Lpick a__law_pick fd__law_pick
  b__law_pick : Binds K fd__law_pick ["pot", "items"] []
  a__law_some_word : Addr
  fd__law_some_word : FuncData
  g__law_some_word : mg "_law_some_word" = some (.ref a__law_some_word)
  F__law_some_word : Fun K "_law_some_word" "_law_some_word" s_Lsome_word a__law_some_word fd__law_some_word
  b__law_some_word : Binds K fd__law_some_word ["pot", "signs", "limit"] []
  a__law_some_expander : Addr
  fd__law_some_expander : FuncData
  g__law_some_expander : mg "_law_some_expander" = some (.ref a__law_some_expander)
  F__law_some_expander : Fun K "_law_some_expander" "_law_some_expander" s_Lsome_expander a__law_some_expander fd__law_some_expander
  b__law_some_expander : Binds K fd__law_some_expander ["pot", "many"] []
  a__law_plainer : Addr
  fd__law_plainer : FuncData
  g__law_plainer : mg "_law_plainer" = some (.ref a__law_plainer)
  F__law_plainer : Fun K "_law_plainer" "_law_plainer" s_Lplainer a__law_plainer fd__law_plainer
  b__law_plainer : Binds K fd__law_plainer ["state"] []
  a__law_calls : Addr
  fd__law_calls : FuncData
  g__law_calls : mg "_law_calls" = some (.ref a__law_calls)
  F__law_calls : Fun K "_law_calls" "_law_calls" s_Lcalls a__law_calls fd__law_calls
  b__law_calls : Binds K fd__law_calls ["expander"] []
  a__law_sizes : Addr
  fd__law_sizes : FuncData
  g__law_sizes : mg "_law_sizes" = some (.ref a__law_sizes)
  F__law_sizes : Fun K "_law_sizes" "_law_sizes" s_Lsizes a__law_sizes fd__law_sizes
  b__law_sizes : Binds K fd__law_sizes ["expander"] []
  a__law_values : Addr
  fd__law_values : FuncData
  g__law_values : mg "_law_values" = some (.ref a__law_values)
  F__law_values : Fun K "_law_values" "_law_values" s_Lvalues a__law_values fd__law_values
  b__law_values : Binds K fd__law_values ["expander"] []
  a__law_outcome : Addr
  fd__law_outcome : FuncData
  g__law_outcome : mg "_law_outcome" = some (.ref a__law_outcome)
  F__law_outcome : Fun K "_law_outcome" "_law_outcome" s_Loutcome a__law_outcome fd__law_outcome
  b__law_outcome : Binds K fd__law_outcome ["expander", "known", "text"] []
  a__law_texts : Addr
  fd__law_texts : FuncData
  g__law_texts : mg "_law_texts" = some (.ref a__law_texts)
  F__law_texts : Fun K "_law_texts" "_law_texts" s_Ltexts a__law_texts fd__law_texts
  b__law_texts : Binds K fd__law_texts ["signs", "limit"] []
  a__law_told : Addr
  fd__law_told : FuncData
  g__law_told : mg "_law_told" = some (.ref a__law_told)
  F__law_told : Fun K "_law_told" "_law_told" s_Ltold a__law_told fd__law_told
  b__law_told : Binds K fd__law_told ["expander", "text"] []
  a__law_run_right : Addr
  fd__law_run_right : FuncData
  g__law_run_right : mg "_law_run_right" = some (.ref a__law_run_right)
  F__law_run_right : Fun K "_law_run_right" "_law_run_right" s_Lrun_right a__law_run_right fd__law_run_right
  b__law_run_right : Binds K fd__law_run_right ["expander", "text", "due"] []
  a__law_values_right : Addr
  fd__law_values_right : FuncData
  g__law_values_right : mg "_law_values_right" = some (.ref a__law_values_right)
  F__law_values_right : Fun K "_law_values_right" "_law_values_right" s_Lvalues_right a__law_values_right fd__law_values_right
  b__law_values_right : Binds K fd__law_values_right ["expander", "known"] []
  a_law : Addr
  fd_law : FuncData
  g_law : mg "law" = some (.ref a_law)
  F_law : Fun K "law" "law" s_law a_law fd_law
  b_law : Binds K fd_law ["script"] []
  z_abs : mg "abs" = none
  z_all : mg "all" = none
  z_any : mg "any" = none
  z_bool : mg "bool" = none
  z_dict : mg "dict" = none
  z_enumerate : mg "enumerate" = none
  z_int : mg "int" = none
  z_isinstance : mg "isinstance" = none
  z_len : mg "len" = none
  z_list : mg "list" = none
  z_max : mg "max" = none
  z_range : mg "range" = none
  z_repr : mg "repr" = none
  z_set : mg "set" = none
  z_sorted : mg "sorted" = none
  z_str : mg "str" = none
  z_sum : mg "sum" = none
  z_tuple : mg "tuple" = none
  t_LETTERS : Tok
  m_LETTERS : mg "LETTERS" = some (.str "abcdefghijklmnopqrstuvwxyz" t_LETTERS)
  t_MOST_SIGNS : Tok
  m_MOST_SIGNS : mg "MOST_SIGNS" = some (.int 4 t_MOST_SIGNS)
  t_MOST_STATES : Tok
  m_MOST_STATES : mg "MOST_STATES" = some (.int 60 t_MOST_STATES)
  t_MOST_TEXT : Tok
  m_MOST_TEXT : mg "MOST_TEXT" = some (.int 200 t_MOST_TEXT)
  t_MOST_WORD : Tok
  m_MOST_WORD : mg "MOST_WORD" = some (.int 2000 t_MOST_WORD)
  a_NoExpander : Addr
  g_NoExpander : mg "NoExpander" = some (.ref a_NoExpander)
  a_NoText : Addr
  g_NoText : mg "NoText" = some (.ref a_NoText)
  a_NoCall : Addr
  g_NoCall : mg "NoCall" = some (.ref a_NoCall)
  a_NoOutcome : Addr
  g_NoOutcome : mg "NoOutcome" = some (.ref a_NoOutcome)
  a_TooMany : Addr
  g_TooMany : mg "TooMany" = some (.ref a_TooMany)
  xi_NoExpander : PySem.W.excIn K a_NoExpander veRest "ValueError.__new__" = true
  k_NoExpander : PySem.W.keepIn K (.ref a_NoExpander) = true
  b_NoExpander : PySem.W.subIn K (.ref a_NoExpander) (.type "BaseException") = some true
  t_NoExpander : PySem.W.typeIn K (.ref a_NoExpander) = some (.type "type")
  xi_NoText : PySem.W.excIn K a_NoText veRest "ValueError.__new__" = true
  k_NoText : PySem.W.keepIn K (.ref a_NoText) = true
  b_NoText : PySem.W.subIn K (.ref a_NoText) (.type "BaseException") = some true
  t_NoText : PySem.W.typeIn K (.ref a_NoText) = some (.type "type")
  xi_NoCall : PySem.W.excIn K a_NoCall veRest "ValueError.__new__" = true
  k_NoCall : PySem.W.keepIn K (.ref a_NoCall) = true
  b_NoCall : PySem.W.subIn K (.ref a_NoCall) (.type "BaseException") = some true
  t_NoCall : PySem.W.typeIn K (.ref a_NoCall) = some (.type "type")
  b_NoOutcome : PySem.W.subIn K (.ref a_NoOutcome) (.type "BaseException") = some true
  t_NoOutcome : PySem.W.typeIn K (.ref a_NoOutcome) = some (.type "type")
  o_NoOutcome : OexC K a_NoOutcome
  x_NoOutcome : XfC K a_NoOutcome
  i_NoOutcome : Addr
  if_NoOutcome : FuncData
  ii_NoOutcome : PySem.W.findIn K (.ref a_NoOutcome) "__init__" = some (some (.ref i_NoOutcome))
  it_NoOutcome : PySem.W.typeIn K (.ref i_NoOutcome) = some (.type "function")
  iF_NoOutcome : Fun K "__init__" "NoOutcome.__init__" (inClass (top 3) 0) i_NoOutcome if_NoOutcome
  ib_NoOutcome : Binds K if_NoOutcome ["self", "kind", "thread"] []
  nf_NoOutcome_kind : PySem.W.findIn K (.ref a_NoOutcome) "kind" = some none
  nf_NoOutcome_thread : PySem.W.findIn K (.ref a_NoOutcome) "thread" = some none
  b_TooMany : PySem.W.subIn K (.ref a_TooMany) (.type "BaseException") = some true
  t_TooMany : PySem.W.typeIn K (.ref a_TooMany) = some (.type "type")
  o_TooMany : OexC K a_TooMany
  x_TooMany : XfC K a_TooMany
  i_TooMany : Addr
  if_TooMany : FuncData
  ii_TooMany : PySem.W.findIn K (.ref a_TooMany) "__init__" = some (some (.ref i_TooMany))
  it_TooMany : PySem.W.typeIn K (.ref i_TooMany) = some (.type "function")
  iF_TooMany : Fun K "__init__" "TooMany.__init__" (inClass (top 2) 0) i_TooMany if_TooMany
  ib_TooMany : Binds K if_TooMany ["self", "limit"] []
  nf_TooMany_limit : PySem.W.findIn K (.ref a_TooMany) "limit" = some none
  e_NoOutcome_NoOutcome : PySem.W.exmOne K (.ref a_NoOutcome) (.ref a_NoOutcome) = some true
  e_TooMany_TooMany : PySem.W.exmOne K (.ref a_TooMany) (.ref a_TooMany) = some true
end K12

namespace K12
open PySem PySem.Spec PyProof.Rows L2 G Lk
section
variable {P : Program} {w : World} {K : PySem.W.Frag} {mg : Str → Option Value} {base : Heap}
abbrev s_TooMany : Stmt := inClass (top 2) 0
theorem sc_TooMany : FnScope ["self", "limit"] ["self", "limit"] (defScope s_TooMany) := ⟨rfl, rfl, rfl, by decide +kernel, rfl, by decide +kernel, by decide +kernel⟩
theorem ok_TooMany_init (T : Tx K mg) : FnOk P w K mg base CX0 1 T.i_TooMany T.if_TooMany ["self", "limit"] (spInit1R K T.a_TooMany "limit") := by
  refine T.iF_TooMany.ok sc_TooMany (fun vs H Q E h => ?_) (fun cdv A outer s H vs Q E hr h => ?_)
  · obtain ⟨_, _, rfl, _⟩ := h
    rfl
  · obtain ⟨a, v, rfl, ha, q⟩ := h
    refine ⟨_, pss_one (ps_ost (pv 0) (pv 1)), ?_⟩
    refine ⟨_, rfl, _, rfl, a, T.a_TooMany, rfl, T.o_TooMany, T.nf_TooMany_limit, .inl ⟨ha, fun d nd da => ?_⟩⟩
    refine q _ d (fun b o nb e => ?_) upd_same ?_ nd
    · rw [upd_ne nb, upd_ne (ne_of_none e nd)]
      exact e
    · rw [upd_ne da, upd_same]
end
end K12

namespace K12
open PySem PySem.Spec PyProof.Rows L2 G Lk
section
variable {P : Program} {w : World} {K : PySem.W.Frag} {mg : Str → Option Value} {base : Heap}
abbrev s_NoOutcome : Stmt := inClass (top 3) 0
theorem sc_NoOutcome : FnScope ["self", "kind", "thread"] ["self", "kind", "thread"] (defScope s_NoOutcome) := ⟨rfl, rfl, rfl, by decide +kernel, rfl, by decide +kernel, by decide +kernel⟩
theorem ok_NoOutcome_init (T : Tx K mg) : FnOk P w K mg base CX0 1 T.i_NoOutcome T.if_NoOutcome ["self", "kind", "thread"] (spInitR K T.a_NoOutcome "kind" "thread") := by
  refine T.iF_NoOutcome.ok sc_NoOutcome (fun vs H Q E h => ?_) (fun cdv A outer s H vs Q E hr h => ?_)
  · obtain ⟨_, _, _, _, rfl, _⟩ := h
    rfl
  · obtain ⟨a, l, v, xs, rfl, ha, hl, q⟩ := h
    refine ⟨_, pss_cons (ps_ost (pv 0) (pv 1)) (pss_one (ps_ost (pv 0) (pe_ifExp (pt_val (pe_callB call_isi (by rfl) T.z_isinstance (by decide +kernel) (pa_cons (pv 2) (pa_cons (pe_bltn (v := .ty "list") (by rfl) T.z_list (by decide +kernel) rfl) pa_nil))))
      (pe_callTy call_list_of (by rfl) T.z_list (by decide +kernel) (pa_cons (pv 2) pa_nil)) (pv 2)))), ?_⟩
    have nla : l ≠ a ∨ K.lookup l ≠ none := by
      rcases hl with (h | ⟨o, h⟩) | ⟨o, its, n, h, _⟩
      · refine .inl fun e => ?_
        rw [e, ha] at h
        exact exo_ne_lst (Option.some.inj h)
      · refine .inl fun e => ?_
        rw [e, ha] at h
        exact exo_frz (Option.some.inj h)
      · exact .inr (by rw [h]; exact Option.some_ne_none _)
    refine ⟨_, rfl, _, rfl, a, T.a_NoOutcome, rfl, T.o_NoOutcome, T.nf_NoOutcome_kind, .inl ⟨ha, fun d nd da => ?_⟩⟩
    have hl1 : SqL K (upd (upd H d (exd d [("kind", v)])) a (exo a T.a_NoOutcome (some d))) l xs := by
      rcases hl with (h | ⟨o, h⟩) | h
      · have n : l ≠ a := fun e => by
          rw [e, ha] at h
          exact exo_ne_lst (Option.some.inj h)
        refine .inl (.inl ?_)
        rw [upd_ne n, upd_ne (ne_of_none h nd)]
        exact h
      · have n : l ≠ a := fun e => by
          rw [e, ha] at h
          exact exo_frz (Option.some.inj h)
        refine .inl (.inr ⟨o, ?_⟩)
        rw [upd_ne n, upd_ne (ne_of_none h nd)]
        exact h
      · exact .inr h
    refine ⟨_, rfl, .ref l, .ty "list", _, _, true, rfl, .ty "list", tyx_seqL hl1, kit_ty kit_list_list, _, rfl, ?_⟩
    refine iteT ⟨_, rfl, l, xs, rfl, .inl hl1, fun n nn => ?_⟩
    have nna : n ≠ a := fun e => by
      rw [e, upd_same] at nn
      cases nn
    have nnd : n ≠ d := fun e => by
      rw [e, upd_ne da, upd_same] at nn
      cases nn
    have nH : H n = none := by
      rw [upd_ne nna, upd_ne nnd] at nn
      exact nn
    refine ⟨_, rfl, a, T.a_NoOutcome, rfl, T.o_NoOutcome, T.nf_NoOutcome_thread, .inr ⟨d, [("kind", v)], by rw [upd_ne nna.symm, upd_same], by rw [upd_ne nnd.symm, upd_ne da, upd_same], (by show 1 ≤ 900; decide), ?_⟩⟩
    refine q _ d n (fun b o nb e => ?_) ?_ upd_same ?_ nH nd
    · rw [upd_ne (ne_of_none e nd), upd_ne (ne_of_none e nH), upd_ne nb, upd_ne (ne_of_none e nd)]
      exact e
    · rw [upd_ne da.symm, upd_ne nna.symm, upd_same]
    · rw [upd_ne nnd, upd_same]
end
end K12

namespace K12
open PySem PySem.Spec PyProof.Rows L2 G Lk
section
variable {P : Program} {w : World} {K : PySem.W.Frag} {mg : Str → Option Value} {base : Heap}
def sp_Lkneaded (K : PySem.W.Frag) : Sp := fun vs H Q _ => ∃ (a b : Int), vs = [.int a, .int b] ∧ ∀ k : Int, Q (.int k) H
/-- def _law_kneaded(seed, lap): -/
theorem ok_Lkneaded (T : Tx K mg) : FnOk P w K mg base CX0 1 T.a__law_kneaded T.fd__law_kneaded ["seed", "lap"] (sp_Lkneaded K) := by
  refine T.F__law_kneaded.ok sc_Lkneaded (fun vs H Q E h => ?_) (fun cdv A outer s H vs Q E hr h => ?_)
  · obtain ⟨_, _, rfl, _⟩ := h
    rfl
  · refine ⟨_, (pss_cons (ps_set (i := 2) sc_Lkneaded.nd rfl (by first | exact Or.inl rfl | exact Or.inr rfl) pe_int)
    (pss_cons (ps_set (i := 3) sc_Lkneaded.nd rfl (by first | exact Or.inl rfl | exact Or.inr rfl) (pe_op op_mod (pe_callTy call_int1 (by rfl) T.z_int (by decide +kernel) (pa_cons (pe_op op_add (pe_op op_add (pe_op op_mul (pv 0) pe_int) (pe_op op_mul (pv 1) pe_int)) pe_int) pa_nil)) (pv 2)))
    (pss_cons (ps_for PassesOwn.never rfl (pi_range1 (by rfl) T.z_range (pa_cons pe_int pa_nil)) (pg_name (i := 4) sc_Lkneaded.nd rfl (by first | exact Or.inl rfl | exact Or.inr rfl))
      (pss_one (ps_set (i := 3) sc_Lkneaded.nd rfl (by first | exact Or.inl rfl | exact Or.inr rfl) (pe_op op_mod (pe_callTy call_int1 (by rfl) T.z_int (by decide +kernel) (pa_cons (pe_op op_add (pe_op op_add (pe_op op_add (pe_op op_mul (pv 3) (pv 3)) (pe_op op_mul pe_int (pv 3))) (pe_op op_mul pe_int (pv 4))) (pv 1)) pa_nil)) (pv 2)))))
    (pss_one (ps_ret (pe_op op_add (pe_op op_mul (pv 3) (pv 2)) (pe_op op_mod (pe_callTy call_int1 (by rfl) T.z_int (by decide +kernel) (pa_cons (pe_op op_add (pe_op op_mul (pv 3) pe_int) (pv 1)) pa_nil)) (pv 2)))))))), ?_⟩
    obtain ⟨a, b, rfl, q⟩ := h
    have hp : (0 : Int) < 2305843009213693907 := by decide
    have lim : ∀ z : Int, -(2 ^ 64) < z % 2305843009213693907 ∧ z % 2305843009213693907 < 2 ^ 64 := fun z =>
      ⟨Int.lt_of_lt_of_le (by decide) (Int.emod_nonneg z (by decide)), Int.lt_trans (Int.emod_lt_of_pos z hp) (by decide)⟩
    refine ⟨_, rfl, _, _, rfl, rfl, .inr ⟨by decide, by decide⟩, _, rfl, _, _, rfl, rfl, .inr ⟨by decide, by decide⟩, _, _, rfl, rfl, _, _, rfl, rfl, .inl ⟨_, rfl, ?_⟩⟩
    refine ⟨_, rfl, _, _, rfl, rfl, hp, ?_⟩
    refine ⟨4, rfl, by decide, by decide, for_range (n := 4) (fun _ σ H' => ∃ (m : Int) (t : Option V), σ = [some (.int a), some (.int b), some (.int 2305843009213693907), some (.int m), t] ∧ H' = H ∧ -(2 ^ 64) < m ∧ m < 2 ^ 64)
      ⟨_, none, rfl, rfl, (lim _).1, (lim _).2⟩ ?_ ?_⟩
    · rintro i σ H' hi ⟨m, t, rfl, rfl, h1, h2⟩
      refine ⟨_, rfl, _, rfl, _, _, rfl, rfl, .inl ⟨h1, h2⟩, _, rfl, _, _, rfl, rfl, .inl ⟨by decide, by decide⟩, _, _, rfl, rfl, _, rfl, _, _, rfl, rfl, .inl ⟨by decide, by decide⟩, _, _, rfl, rfl, _, rfl, _, _, rfl, rfl, .inl ⟨_, rfl, ?_⟩⟩
      exact ⟨_, rfl, _, _, rfl, rfl, hp, _, _, rfl, rfl, (lim _).1, (lim _).2⟩
    · rintro σ H' ⟨m, t, rfl, rfl, h1, h2⟩
      refine ⟨_, rfl, _, rfl, _, _, rfl, rfl, .inl ⟨h1, h2⟩, _, rfl, _, _, rfl, rfl, .inr ⟨by decide, by decide⟩, _, rfl, _, _, rfl, rfl, .inl ⟨_, rfl, ?_⟩⟩
      exact ⟨_, rfl, _, _, rfl, rfl, hp, _, _, rfl, rfl, q _⟩
end
end K12

namespace K12
open PySem PySem.Spec PyProof.Rows L2 G Lk
section
variable {P : Program} {w : World} {K : PySem.W.Frag} {mg : Str → Option Value} {base : Heap}
def sp_Lbelow (K : PySem.W.Frag) : Sp := spBelow K
/-- def _law_below(pot, bound): -/
theorem ok_Lbelow (T : Tx K mg) : FnOk P w K mg base CX0 2 T.a__law_below T.fd__law_below ["pot", "bound"] (sp_Lbelow K) := by
  refine T.F__law_below.ok sc_Lbelow (fun vs H Q E h => ?_) (fun cdv A outer s H vs Q E hr h => ?_)
  · obtain ⟨_, _, _, rfl, _⟩ := h
    rfl
  · refine ⟨_, (C8.pss_cut (ps_if (pt_cmpR op_lt (pe_ix ix_list (pv 0) pe_int (fun _ _ => rfl)) (pv 1) (nomark _))
      (pss_cons (ps_par (i := 4) (j := 5) (by rfl) sc_Lbelow.nd rfl rfl (by decide) rfl rfl (pa_cons (pe_ix ix_list (pv 0) pe_int (fun _ _ => rfl)) (pa_cons (pe_ix ix_list (pv 0) pe_int (fun _ _ => rfl)) pa_nil)) (by rfl))
    (C8.pss_cut (ps_set (i := 3) sc_Lbelow.nd rfl (by first | exact Or.inl rfl | exact Or.inr rfl) (pe_ifExp (pt_cmpR (op_neD hr.units) (pv 4) (pe_lst pa_nil) (nomark _)) (pe_ix ix_list (pv 4) (pe_op op_mod (pv 5) (pe_callB call_len_seq (by rfl) T.z_len PySem.boot_len (pa_cons (pv 4) pa_nil))) (fun _ _ => rfl)) pe_int))
    (C8.pss_cut (ps_if (PW.pt (pw_or (pt_cmpR op_ge (pv 5) (pe_callB call_len_seq (by rfl) T.z_len PySem.boot_len (pa_cons (pv 4) pa_nil)) (nomark _)) (pw_or1 (pt_cmpR op_lt (pv 3) (pe_op op_pow pe_int pe_int) (nomark _)))))
      (pss_one (ps_set (i := 3) sc_Lbelow.nd rfl (by first | exact Or.inl rfl | exact Or.inr rfl) (pe_call (ok_Lkneaded T) (hr.mono (by decide)) (by rfl) T.g__law_kneaded T.F__law_kneaded.kp T.b__law_kneaded .nil pass0 (pa_cons (pe_op op_mod (pe_callTy call_int1 (by rfl) T.z_int (by decide +kernel) (pa_cons (pv 3) pa_nil)) pe_int) (pa_cons (pv 5) pa_nil)))))
      pss_nil)
    (pss_cons (ps_asg (pe_op op_add (pv 5) pe_int) (pg_sub (pv 0) pe_int set_list))
    (pss_cons (ps_asg (pv 3) (pg_sub (pv 0) pe_int set_list))
    (pss_one (ps_asg (pv 3) (pg_sub (pv 0) pe_int set_list))))))))
      pss_nil)
    (pss_cons (ps_set (i := 2) sc_Lbelow.nd rfl (by first | exact Or.inl rfl | exact Or.inr rfl) (pe_op op_mod (pe_callTy call_int1 (by rfl) T.z_int (by decide +kernel) (pa_cons (pe_ix ix_list (pv 0) pe_int (fun _ _ => rfl)) pa_nil)) (pv 1)))
    (pss_cons (ps_asg (pe_op op_fdiv (pe_ix ix_list (pv 0) pe_int (fun _ _ => rfl)) (pv 1)) (pg_sub (pv 0) pe_int set_list))
    (pss_cons (ps_asg (pe_op op_fdiv (pe_ix ix_list (pv 0) pe_int (fun _ _ => rfl)) (pv 1)) (pg_sub (pv 0) pe_int set_list))
    (pss_one (ps_ret (pv 2))))))), ?_⟩
    obtain ⟨a, c, b, rfl, hp, b1, b2, q⟩ := h
    obtain ⟨⟨p, x, y, ha⟩, ns, hc, hl⟩ := id hp
    have hc0 : SqL K H c (ns.map V.int) := seqL sans_same hc
    refine ⟨fun σ H' => ∃ s2 s3 s4 s5 : Option V, σ = [some (.ref a), some (.int b), s2, s3, s4, s5] ∧ Sm a H H' ∧ ∃ p x y : Int, H' a = some (.lst [.ref c, .int p, .int x, .int y]), ?_, ?_⟩
    · refine ⟨_, rfl, a, _, _, _, rfl, rfl, SqL.of ha, atI_nat (j := 3) rfl, _, rfl, _, _, rfl, rfl, _, rfl, ite2 (fun _ => ?_) (fun _ => ?_)⟩
      · refine ⟨_, rfl, a, _, _, _, rfl, rfl, SqL.of ha, atI_nat (j := 0) rfl, _, rfl, a, _, _, _, rfl, rfl, SqL.of ha, atI_nat (j := 1) rfl, _, _, rfl, ?_⟩
        refine ⟨fun σ H' => ∃ m : Int, σ = [some (.ref a), some (.int b), none, some (.int m), some (.ref c), some (.int p)] ∧ Same H H', ?_, ?_⟩
        · refine ⟨_, rfl, Nat.zero_le _, fun l nl => ?_⟩
          have s1 : Same H (upd H l (.lst [])) := same_new nl
          have hc1 : SqL K (upd H l (.lst [])) c (ns.map V.int) := seqL s1 hc0
          refine ⟨.list (ns.map PyData.int), .list [], .lst hc1 (dq_ints ns), .lst (SqL.of upd_same) .nil, shaped_ints ns, shaped_ints [], _, rfl, ?_⟩
          refine ite2 (fun e => ?_) (fun _ => ⟨0, rfl, s1⟩)
          have hpos : 0 < ns.length := by
            cases ns with
            | nil => exact absurd e (by decide)
            | cons n r => exact Nat.succ_pos _
          have hpi : (0 : Int) < (((ns.map V.int).length : Nat) : Int) := by
            rw [List.length_map]
            omega
          have h1 : (p % (((ns.map V.int).length : Nat) : Int)).toNat < ns.length := by
            have z1 := Int.emod_nonneg p (Int.ne_of_gt hpi)
            have z2 := Int.emod_lt_of_pos p hpi
            rw [List.length_map] at z1 z2 ⊢
            omega
          have e3 := atI_nat (xs := ns.map V.int) (j := (p % (((ns.map V.int).length : Nat) : Int)).toNat) (v := .int ns[(p % (((ns.map V.int).length : Nat) : Int)).toNat]) (by rw [List.getElem?_map, List.getElem?_eq_getElem h1]; rfl)
          have z1 := Int.emod_nonneg p (Int.ne_of_gt hpi)
          rw [Int.toNat_of_nonneg z1] at e3
          exact ⟨_, rfl, _, rfl, _, rfl, c, _, rfl, .inl hc1, _, _, rfl, rfl, hpi, c, _, _, _, rfl, rfl, hc1, e3, _, rfl, s1⟩
        · rintro σ H1 ⟨m, rfl, s1⟩
          have hc1 : SqL K H1 c (ns.map V.int) := seqL s1 hc0
          have ha1 := s1 _ _ ha
          refine ⟨fun σ H' => ∃ m : Int, σ = [some (.ref a), some (.int b), none, some (.int m), some (.ref c), some (.int p)] ∧ H' = H1, ?_, ?_⟩
          · refine ⟨_, rfl, _, rfl, c, _, rfl, .inl hc1, _, _, rfl, rfl, _, rfl, ite2 (fun _ => ?_) (fun _ => ?_)⟩
            · refine iteT ⟨_, rfl, .inl ⟨_, rfl, _, _, rfl, rfl, (show (0 : Int) < 982451629 by decide), _, rfl, _, _, rfl, fun k => ⟨k, rfl, rfl⟩⟩⟩
            · refine ⟨_, rfl, _, _, rfl, rfl, ⟨by decide, by decide, by decide⟩, _, _, rfl, rfl, _, rfl, ite2 (fun _ => ?_) (fun _ => ?_)⟩
              · exact ⟨_, rfl, .inl ⟨_, rfl, _, _, rfl, rfl, (show (0 : Int) < 982451629 by decide), _, rfl, _, _, rfl, fun k => ⟨k, rfl, rfl⟩⟩⟩
              · exact ⟨m, rfl, rfl⟩
          · rintro σ H2 ⟨m, rfl, rfl⟩
            refine ⟨_, rfl, _, _, rfl, rfl, _, rfl, a, _, _, 1, rfl, rfl, ha1, rfl, ?_⟩
            refine ⟨_, rfl, _, rfl, a, _, _, 2, rfl, rfl, upd_same, rfl, ?_⟩
            refine ⟨_, rfl, _, rfl, a, _, _, 3, rfl, rfl, upd_same, rfl, ?_⟩
            exact ⟨_, _, _, _, rfl, (((Sm.of s1).trans Sm.pot).trans Sm.pot).trans Sm.pot, _, _, _, upd_same⟩
      · exact ⟨_, _, _, _, rfl, Sm.refl, p, x, y, ha⟩
    · rintro σ H1 ⟨s2, s3, s4, s5, rfl, sm, p, x, y, ha1⟩
      have hb : (0 : Int) < b := by omega
      refine ⟨_, rfl, a, _, _, _, rfl, rfl, SqL.of ha1, atI_nat (j := 2) rfl, .inl ⟨_, rfl, _, rfl, _, _, rfl, rfl, hb, ?_⟩⟩
      refine ⟨_, rfl, a, _, _, _, rfl, rfl, SqL.of ha1, atI_nat (j := 2) rfl, _, rfl, _, _, rfl, rfl, ⟨hb, b2⟩, _, rfl, a, _, _, 2, rfl, rfl, ha1, rfl, ?_⟩
      refine ⟨_, rfl, a, _, _, _, rfl, rfl, SqL.of upd_same, atI_nat (j := 3) rfl, _, rfl, _, _, rfl, rfl, ⟨hb, b2⟩, _, rfl, a, _, _, 3, rfl, rfl, upd_same, rfl, ?_⟩
      have sm2 := (sm.trans Sm.pot).trans (Sm.pot (H := upd H1 a (.lst [.ref c, .int p, .int (x / b), .int y])) (o := .lst [.ref c, .int p, .int (x / b), .int (y / b)]))
      refine ⟨_, rfl, q _ _ sm2 (hp.to sm2 ⟨p, x / b, y / b, upd_same⟩) (Int.emod_nonneg x (by omega)) (Int.emod_lt_of_pos x hb)⟩
end
end K12

namespace K12
open PySem PySem.Spec PyProof.Rows L2 G Lk
section
variable {P : Program} {w : World} {K : PySem.W.Frag} {mg : Str → Option Value} {base : Heap}
def sp_Lcalls (K : PySem.W.Frag) : Sp := fun vs H Q _ => ∃ (v : V) (z f : Str) (ss : List PyData), vs = [v] ∧ Dq K H v (.tuple [.str z, .str f, .tuple ss]) ∧ StatesOk z ss ∧
  ∀ (H' : Hp) (l : Addr) (xs : List V), Same H H' → H l = none → H' l = some (.lst xs) → CallsAt H' xs (callsOf z ss.length) → Q (.ref l) H'
/-- def _law_calls(expander): -/
theorem ok_Lcalls (T : Tx K mg) : FnOk P w K mg base CX0 1 T.a__law_calls T.fd__law_calls ["expander"] (sp_Lcalls K) := by
  refine T.F__law_calls.ok sc_Lcalls (fun vs H Q E h => ?_) (fun cdv A outer s H vs Q E hr h => ?_)
  · obtain ⟨_, _, _, _, rfl, _⟩ := h
    rfl
  · refine ⟨_, (pss_cons (ps_set (i := 1) sc_Lcalls.nd rfl (by first | exact Or.inl rfl | exact Or.inr rfl) (pe_lst pa_nil))
    (pss_cons (ps_for PassesOwn.never rfl (pi_range1 (by rfl) T.z_range (pa_cons (pe_callB call_len_seq (by rfl) T.z_len PySem.boot_len (pa_cons (pe_ix ix_tup (pv 0) pe_int (fun _ _ => rfl)) pa_nil)) pa_nil)) (pg_name (i := 2) sc_Lcalls.nd rfl (by first | exact Or.inl rfl | exact Or.inr rfl))
      (pss_one (ps_set (i := 1) sc_Lcalls.nd rfl (by first | exact Or.inl rfl | exact Or.inr rfl) (pe_op op_cat (pv 1) (pe_lc (own := [("sign", 3)]) (g := gName 3) (by rfl) sc_Lcalls.nd (pi_str (pe_ix ix_tup (pv 0) pe_int (fun _ _ => rfl))) (blkOk_by (own := [("sign", 3)]) (N := N_Lcalls) (sc := defScope s_Lcalls) (by decide +kernel)) (fun _ _ _ _ _ => pg_name (i := 3) sc_Lcalls.nd rfl (by first | exact Or.inl rfl | exact Or.inr rfl)) (fun _ _ _ _ _ => pts_nil) (fun _ _ _ _ _ => (pe_tup (pa_cons (pv 2) (pa_cons (pv 3) pa_nil)))))))))
    (pss_one (ps_ret (pv 1))))), ?_⟩
    obtain ⟨v, z, f, ss, rfl, hd, ok, q⟩ := h
    obtain ⟨a, t, xs, rfl, h1, h2, h3⟩ := expV_of hd
    have hl := h3.length
    have hz4 := ok.1.small.2.1
    have h60 := ok.2.2.1
    have hz' : z.cps.size = z.length := rfl
    have el : z.cps.toList.length = z.length := by simp [Str.length]
    refine ⟨Nat.zero_le _, fun l nl => ?_⟩
    have s1 := same_new (o := .lst []) nl
    refine ⟨_, rfl, a, _, 2, _, rfl, rfl, seqT s1 h1, rfl, t, xs, rfl, .inr (seqT s1 h2), (xs.length : Nat), rfl, by omega, by omega, ?_⟩
    refine for_range (n := xs.length) (fun i σ H' => ∃ (l : Addr) (s2 : Option V) (ys : List V), σ = [some (.ref a), some (.ref l), s2, none] ∧ Same H H' ∧ H l = none ∧ H' l = some (.lst ys) ∧ CallsAt H' ys (callsOf z i)) ⟨l, none, [], rfl, s1, nl, upd_same, .nil⟩ ?_ ?_
    · rintro i σ H1 hi ⟨l, s2, ys, rfl, s3, nl, hy, hc⟩
      refine ⟨_, rfl, _, rfl, a, _, 0, _, rfl, rfl, seqT s3 h1, rfl, z, rfl, fun D nD => ?_⟩
      refine lc_it walk_str (fun j H' => Same H1 H' ∧ ∃ us, H' D = some (.lst us) ∧ CallsAt (off [D] H') us ((z.cps.toList.take j).map fun c => (i, c))) ⟨same_new nD, [], upd_same, .nil⟩ (fun _ _ _ _ => trivial) ?_ ?_
      · rintro j v H2 H3 hj ⟨s4, us, hu, hcu⟩ ⟨rfl, c, hcc, rfl⟩
        have hcl : z.cps.toList[j]? = some c := by simpa using hcc
        refine ⟨rfl, _, rfl, _, rfl, (by show 2 ≤ sizeLine; decide), fun p np => ?_⟩
        have s5 := same_new (o := .tup [.int (0 + ((i : Nat) : Int)), .str ⟨#[c]⟩]) np
        have nDp : D ≠ p := ne_of_none hu np
        refine ⟨us, (upd_ne nDp).trans hu, ?_, ?_⟩
        · rw [hcu.len, List.length_map, List.length_take]
          refine Nat.lt_of_le_of_lt (Nat.min_le_right _ _) (Nat.lt_of_le_of_lt (show z.cps.toList.length ≤ 4 by omega) (by decide))
        · have hp' : CallAt (upd H3 p (.tup [.int (0 + ((i : Nat) : Int)), .str ⟨#[c]⟩])) p (i, c) := by
            show upd H3 p (.tup [.int (0 + ((i : Nat) : Int)), .str ⟨#[c]⟩]) p = some (.tup [.int (i : Int), .str (Ls.one c)])
            rw [upd_same, Int.zero_add]
            rfl
          have hu5 : upd H3 p (.tup [.int (0 + ((i : Nat) : Int)), .str ⟨#[c]⟩]) D = some (.lst us) := (upd_ne nDp).trans hu
          revert s5 hp' hu5
          generalize upd H3 p (.tup [.int (0 + ((i : Nat) : Int)), .str ⟨#[c]⟩]) = H5
          intro s5 hp' hu5
          have kp : Keep [D] H5 (upd H5 D (.lst (us ++ [.ref p]))) := Keep.pot List.mem_cons_self
          refine ⟨fun b o e => (upd_ne (ne_of_none e nD)).trans (s5 _ _ (s4 b o e)), us ++ [.ref p], upd_same, ?_⟩
          rw [take_snoc hcl, List.map_append]
          exact ((hcu.mono (Keep.of s5)).mono kp).append (.cons (kp _ _ (off_of (fun z => nDp (List.mem_singleton.1 z).symm) hp')) .nil)
      · rintro H2 ⟨s4, us, hu, hcu⟩
        have hyl := s4 _ _ hy
        have ett : z.cps.toList.take z.cps.size = z.cps.toList := List.take_of_length_le (by simp)
        rw [ett] at hcu
        refine ⟨l, D, ys, us, rfl, rfl, hyl, hu, ?_, fun p np => ?_⟩
        · rw [hc.len, hcu.len, callsOf_len, List.length_map]
          have e2 : i * z.length ≤ 60 * 4 := Nat.mul_le_mul (by omega) hz4
          refine Nat.le_trans (show i * z.length + z.cps.toList.length ≤ 1000 by omega) (by decide)
        · have s5 := same_new (o := .lst (ys ++ us)) np
          have sA := Same.trans s4 s5
          refine ⟨p, _, _, rfl, Same.trans s3 sA, ?_, upd_same, ?_⟩
          · cases e : H p with
            | none => rfl
            | some o =>
              have := s4 _ _ (s3 _ _ e)
              rw [np] at this
              cases this
          · rw [callsOf_succ]
            exact (hc.mono sA).append (hcu.mono (Same.trans off_same s5))
    · rintro σ H1 ⟨l, s2, ys, rfl, s3, nl, hy, hc⟩
      refine ⟨_, rfl, q H1 l ys s3 nl hy ?_⟩
      rw [← hl]
      exact hc
end
end K12

namespace K12
open PySem PySem.Spec PyProof.Rows L2 G Lk
section
variable {P : Program} {w : World} {K : PySem.W.Frag} {mg : Str → Option Value} {base : Heap}
def sp_Loutcome (K : PySem.W.Frag) : Sp := fun vs H Q _ => ∃ (v : V) (d : Addr) (z f t : Str) (ss : List PyData), vs = [v, .ref d, .str t] ∧ Dq K H v (.tuple [.str z, .str f, .tuple ss]) ∧ StatesOk z ss ∧ (∀ c w, Val z ss c w → w.1.length ≤ 2000) ∧ f.length ≤ 2000 ∧
  OvD [] H d (callsOf z ss.length) (valOf z ss) ∧ allIn z t = true ∧ t.length ≤ 200 ∧ ∀ H', Same H H' → Q (outV (outOf z f ss t)) H'
/-- def _law_outcome(expander, known, text): -/
theorem ok_Loutcome (T : Tx K mg) : FnOk P w K mg base CX0 1 T.a__law_outcome T.fd__law_outcome ["expander", "known", "text"] (sp_Loutcome K) := by
  refine T.F__law_outcome.ok sc_Loutcome (fun vs H Q E h => ?_) (fun cdv A outer s H vs Q E hr h => ?_)
  · obtain ⟨_, _, _, _, _, _, rfl, _⟩ := h
    rfl
  · refine ⟨_, (pss_cons (ps_par (i := 4) (j := 5) (by rfl) sc_Loutcome.nd rfl rfl (by decide) rfl rfl (pa_cons (pe_ix ix_tup (pv 0) pe_int (fun _ _ => rfl)) (pa_cons pe_int pa_nil)) (by rfl))
    (pss_cons (ps_for PassesOwn.never rfl (pi_str (pv 2)) (pg_name (i := 3) sc_Loutcome.nd rfl (by first | exact Or.inl rfl | exact Or.inr rfl))
      (C8.pss_cut (ps_set (i := 6) sc_Loutcome.nd rfl (by first | exact Or.inl rfl | exact Or.inr rfl) (pe_ifExp (pt_cmpR op_notN (pv 5) pe_non (nomark _)) (pe_dget (unit1 hr.units) (pv 1) (pe_tup (pa_cons (pv 5) (pa_cons (pv 3) pa_nil))) (fun _ _ => rfl)) pe_non))
    (pss_one (ps_asg (pe_ifExp (pt_cmpR op_isN (pv 6) pe_non (nomark _)) (pe_tup (pa_cons (pv 4) (pa_cons pe_non pa_nil))) (pe_tup (pa_cons (pe_op op_add_str (pv 4) (pe_ix ix_tup (pv 6) pe_int (fun _ _ => rfl))) (pa_cons (pe_ix ix_tup (pv 6) pe_int (fun _ _ => rfl)) pa_nil)))) (pg_tup rfl (pgs_cons (pg_name (i := 4) sc_Loutcome.nd rfl (by first | exact Or.inl rfl | exact Or.inr rfl)) (pgs_cons (pg_name (i := 5) sc_Loutcome.nd rfl (by first | exact Or.inl rfl | exact Or.inr rfl)) pgs_nil)))))))
    (pss_one (ps_ret (pe_ifExp (PW.pt (pw_or (pt_cmpR op_isN (pv 5) pe_non (nomark _)) (pw_or1 (pt_cmpR op_isN (pe_ix ix_tup (pe_ix ix_tup (pe_ix ix_tup (pv 0) pe_int (fun _ _ => rfl)) (pv 5) (fun _ _ => rfl)) pe_int (fun _ _ => rfl)) pe_non (nomark _))))) pe_non (pe_op op_add_str (pv 4) (pe_ix ix_tup (pe_ix ix_tup (pe_ix ix_tup (pv 0) pe_int (fun _ _ => rfl)) (pv 5) (fun _ _ => rfl)) pe_int (fun _ _ => rfl)))))))), ?_⟩
    obtain ⟨v, d, z, f, t, ss, rfl, hd, ok, small, lf, ⟨kvs, hdd, hE⟩, hat, lt, q⟩ := h
    have hE : OvE H (valOf z ss) kvs (callsOf z ss.length) := hE.mono off_same
    have svz : ∀ c w, valOf z ss c = some w → w.1.length ≤ 2000 := fun c w h => small c w (valOf_some.1 h)
    obtain ⟨a, t', xs, rfl, ht, hts, hA⟩ := expV_of hd
    have hl := hA.length
    have efl : f.cps.toList.length = f.length := by simp [Str.length]
    have eft : tx f.cps.toList = f := str_ext (by simp)
    have ett : t.cps.toList.take t.cps.size = t.cps.toList := List.take_of_length_le (by simp)
    let st : Option Wt → List Nat → V → Prop := fun r wd hr => match r with
      | some (w, g) => wd = w ∧ hr = .int (g : Int) ∧ g < ss.length
      | none => hr = .non
    refine ⟨_, rfl, a, _, 1, _, rfl, rfl, ht, rfl, _, _, rfl, ?_⟩
    rw [← eft]
    refine ⟨_, rfl, t, rfl, ?_⟩
    refine for_it walk_str (fun jj σ H' => ∃ (s3 s6 : Option V) (wd : List Nat) (hr : V), σ = [some (.ref a), some (.ref d), some (.str t), s3, some (.str (tx wd)), some hr, s6] ∧ st (rd (valOf z ss) (t.cps.toList.take jj) (f.cps.toList, 0)) wd hr ∧ wd.length ≤ 2000 + 2000 * jj ∧ Same H H')
      ⟨_, _, f.cps.toList, .int ((0 : Nat) : Int), rfl, by rw [List.take_zero]; exact ⟨rfl, rfl, ok.2.1⟩, by rw [efl]; omega, Same.refl _⟩ (fun _ _ _ _ _ => trivial) ?_ ?_
    · rintro jj x σ H5 H6 hk1 ⟨s3, s6, wd, hr, rfl, hst, lwd, sm5⟩ ⟨rfl, c1, hc1, rfl⟩
      have hc1' : t.cps.toList[jj]? = some c1 := by simpa using hc1
      have hj2 : jj < t.length := hk1
      have c1in : c1 ∈ z.cps.toList := allIn_mem hat c1 (List.mem_of_getElem? hc1')
      rw [take_snoc hc1', rd_append]
      refine ⟨fun σ H' => ∃ (mr : V), σ = [some (.ref a), some (.ref d), some (.str t), some (.str (Ls.one c1)), some (.str (tx wd)), some hr, some mr] ∧ Same H6 H' ∧
        (match rd (valOf z ss) (t.cps.toList.take jj) (f.cps.toList, 0) with | none => mr = .non | some wg => OvAt H' mr (valOf z ss (wg.2, c1))), ?_, ?_⟩
      · refine ⟨_, rfl, rfl, _, rfl, ?_⟩
        cases hrd : rd (valOf z ss) (t.cps.toList.take jj) (f.cps.toList, 0) with
        | none =>
          rw [hrd] at hst
          have hst : hr = .non := hst
          subst hst
          exact iteF ⟨.non, rfl, Same.refl _, rfl⟩
        | some wg =>
          obtain ⟨w, g1⟩ := wg
          rw [hrd] at hst
          obtain ⟨ewd, ehr, gg⟩ : wd = w ∧ hr = .int (g1 : Int) ∧ g1 < ss.length := hst
          subst ewd ehr
          have hd5 := sm5 _ _ hdd
          refine iteT ⟨_, rfl, _, rfl, _, rfl, (by show 2 ≤ sizeLine; decide), fun p3 np3 => ?_⟩
          have s7' := same_new (o := .tup [.int (g1 : Int), .str (Ls.one c1)]) np3
          have hp3' : CallAt (upd H6 p3 (.tup [.int (g1 : Int), .str (Ls.one c1)])) p3 (g1, c1) := upd_same
          obtain ⟨v1, ev1, hv1⟩ := hE.get (callsOf_mem (c := (g1, c1)).2 ⟨gg, c1in⟩)
          refine ⟨d, v1, rfl, by rw [← ev1]; exact DGet.t (k := ckey (g1, c1)) (s7' _ _ hd5) hp3'.key, v1, rfl, s7', ?_⟩
          exact hv1.mono (Same.trans sm5 s7')
      · rintro σ H7 ⟨mr, rfl, s7', hmr2⟩
        refine ⟨_, rfl, rfl, _, rfl, ?_⟩
        have stop : mr = .non → st ((rd (valOf z ss) (t.cps.toList.take jj) (f.cps.toList, 0)).bind (rd (valOf z ss) [c1])) wd .non := fun e => by
          cases hrd : rd (valOf z ss) (t.cps.toList.take jj) (f.cps.toList, 0) with
          | none => rfl
          | some wg =>
            rw [hrd] at hmr2
            cases el : valOf z ss (wg.2, c1) with
            | none =>
              show st (rd (valOf z ss) [c1] wg) wd .non
              rw [rd_none el]
            | some w1 =>
              have hmr2 : OvAt H7 mr (valOf z ss (wg.2, c1)) := hmr2
              rw [el] at hmr2
              obtain ⟨pw, e', _⟩ := hmr2
              rw [e] at e'
              cases e'
        by_cases en : mr = .non
        · subst en
          refine iteT ⟨_, rfl, (by show 2 ≤ sizeLine; decide), fun p8 np8 => ?_⟩
          refine ⟨p8, _, rfl, SqT.of upd_same, rfl, _, _, rfl, _, _, rfl, rfl, ?_⟩
          exact ⟨_, _, wd, .non, rfl, stop rfl, by omega, Same.trans sm5 (Same.trans s7' (same_new np8))⟩
        · cases hrd : rd (valOf z ss) (t.cps.toList.take jj) (f.cps.toList, 0) with
          | none =>
            rw [hrd] at hmr2
            exact absurd hmr2 en
          | some wg =>
            obtain ⟨w, g1⟩ := wg
            rw [hrd] at hst hmr2
            obtain ⟨ewd, ehr, gg⟩ : wd = w ∧ hr = .int (g1 : Int) ∧ g1 < ss.length := hst
            subst ewd ehr
            have hmr2 : OvAt H7 mr (valOf z ss (g1, c1)) := hmr2
            cases el : valOf z ss (g1, c1) with
            | none =>
              rw [el] at hmr2
              exact absurd hmr2 en
            | some w1 =>
              rw [el] at hmr2
              obtain ⟨pw, rfl, hpw⟩ := hmr2
              have lw1 : w1.1.length ≤ 2000 := svz _ _ el
              have gw1 : w1.2 < ss.length := valOf_state ok el
              have lcat : (tx wd ++ tx w1.1).length ≤ sizeLine := by
                rw [cat_len, tx_len, tx_len]
                exact Nat.le_trans (show wd.length + w1.1.length ≤ 5000000 by omega) (by decide)
              have ecat : tx wd ++ tx w1.1 = tx (wd ++ w1.1) := str_ext (by
                show ((tx wd).cps ++ (tx w1.1).cps).toList = (tx (wd ++ w1.1)).cps.toList
                simp)
              refine iteF ⟨_, rfl, _, rfl, pw, _, 0, _, rfl, rfl, SqT.of hpw, rfl, tx wd, tx w1.1, rfl, rfl, by rw [cat_len] at lcat; exact lcat, _, rfl, pw, _, 1, _, rfl, rfl, SqT.of hpw, rfl, (by show 2 ≤ sizeLine; decide), fun p8 np8 => ?_⟩
              rw [ecat]
              refine ⟨p8, _, rfl, SqT.of upd_same, rfl, _, _, rfl, _, _, rfl, rfl, ?_⟩
              refine ⟨_, _, wd ++ w1.1, .int (w1.2 : Int), rfl, ?_, by rw [List.length_append]; omega, Same.trans sm5 (Same.trans s7' (same_new np8))⟩
              show st (rd (valOf z ss) [c1] (wd, g1)) _ _
              rw [rd_some el]
              exact ⟨rfl, rfl, gw1⟩
    · rintro σ H5 ⟨s3, s6, wd, hr, rfl, hst, lwd, sm5⟩
      rw [ett] at hst
      refine ⟨_, rfl, rfl, _, rfl, ?_⟩
      cases hrd : rd (valOf z ss) t.cps.toList (f.cps.toList, 0) with
      | none =>
        rw [hrd] at hst
        have hst : hr = .non := hst
        subst hst
        have q := q H5 sm5
        rw [outOf_stuck hrd] at q
        exact iteT (iteT q)
      | some wg =>
        obtain ⟨w, g1⟩ := wg
        rw [hrd] at hst
        obtain ⟨ewd, ehr, gg⟩ : wd = w ∧ hr = .int (g1 : Int) ∧ g1 < ss.length := hst
        subst ewd ehr
        obtain ⟨ms, lst, e1, e2, e3⟩ := last_in ok gg
        obtain ⟨sv, es, hs⟩ := hA.ix e1
        obtain ⟨p4, us4, rfl, hp4, hq⟩ := hs.items
        obtain ⟨mv', us', rfl, hM, hq⟩ := hq.one
        obtain ⟨lv, us'', rfl, hlv, hq⟩ := hq.one
        obtain rfl := hq.none
        have ht5 := seqT sm5 ht
        have hts5 := seqT sm5 hts
        have hp5 := seqT sm5 hp4
        refine iteF ⟨_, rfl, a, _, 2, _, rfl, rfl, ht5, rfl, _, rfl, t', xs, (g1 : Int), _, rfl, rfl, hts5, atI_nat es, p4, _, 1, _, rfl, rfl, hp5, rfl, rfl, _, rfl, ?_⟩
        rcases e3 with rfl | ⟨w, rfl, aw, lw⟩
        · obtain rfl := hlv.noneV
          have q := q H5 sm5
          rw [outOf_last hrd e2] at q
          exact iteT q
        · obtain rfl := hlv.strV
          have q := q H5 sm5
          rw [outOf_some hrd e2] at q
          have ecat : tx wd ++ w = tx (wd ++ w.cps.toList) := str_ext (by
            show ((tx wd).cps ++ w.cps).toList = (tx (wd ++ w.cps.toList)).cps.toList
            simp)
          refine iteF ⟨_, rfl, _, rfl, a, _, 2, _, rfl, rfl, ht5, rfl, _, rfl, t', xs, (g1 : Int), _, rfl, rfl, hts5, atI_nat es, p4, _, 1, _, rfl, rfl, hp5, rfl, tx wd, w, rfl, rfl, ?_, ?_⟩
          · rw [tx_len]
            have etz : t.cps.size = t.length := rfl
            rw [etz] at lwd
            exact Nat.le_trans (show wd.length + w.length ≤ 5000000 by omega) (by decide)
          · rw [ecat]
            exact q
end
end K12

namespace K12
open PySem PySem.Spec PyProof.Rows L2 G Lk
section
variable {P : Program} {w : World} {K : PySem.W.Frag} {mg : Str → Option Value} {base : Heap}
def sp_Lpick (K : PySem.W.Frag) : Sp := spPick K
/-- def _law_pick(pot, items): -/
theorem ok_Lpick (T : Tx K mg) : FnOk P w K mg base CX0 3 T.a__law_pick T.fd__law_pick ["pot", "items"] (sp_Lpick K) := by
  refine T.F__law_pick.ok sc_Lpick (fun vs H Q E h => ?_) (fun cdv A outer s H vs Q E hr h => ?_)
  · obtain ⟨_, _, _, _, rfl, _⟩ := h
    rfl
  · refine ⟨_, (pss_one (ps_ret (pe_ix ix_seq (pv 1) (pe_call (ok_Lbelow T) (hr.mono (by decide)) (by rfl) T.g__law_below T.F__law_below.kp T.b__law_below .nil pass0 (pa_cons (pv 0) (pa_cons (pe_callB call_len (by rfl) T.z_len PySem.boot_len (pa_cons (pv 1) pa_nil)) pa_nil))) (fun _ _ => rfl)))), ?_⟩
    obtain ⟨a, c, v, xs, rfl, hp, hne, hx, hl, q⟩ := h
    have hpos : 0 < xs.length := List.length_pos_iff.mpr hne
    refine ⟨_, rfl, _, rfl, _, rfl, ?_⟩
    have fin : ∀ (H' : Hp) (k : Int), 0 ≤ k → k < (xs.length : Int) → ∃ x, xs[k.toNat]? = some x ∧ atI xs k = some x ∧ x ∈ xs := fun H' k k0 k1 => by
      have hk : k.toNat < xs.length := by omega
      refine ⟨xs[k.toNat], List.getElem?_eq_getElem hk, ?_, List.getElem_mem hk⟩
      have e := atI_nat (xs := xs) (j := k.toNat) (List.getElem?_eq_getElem hk)
      rw [show ((k.toNat : Nat) : Int) = k by omega] at e
      exact e
    rcases hx with ⟨l, rfl, h1⟩ | ⟨l, rfl, h1⟩ | ⟨z, rfl, rfl, hz⟩
    · refine ⟨_, xs.length, rfl, .inl ⟨_, seqL sans_same h1, rfl⟩, a, c, _, rfl, hp, by omega, by omega, fun H' k sm hp' k0 k1 => ?_⟩
      obtain ⟨x, e1, e2, e3⟩ := fin H' k k0 k1
      exact .inl ⟨l, xs, k, x, rfl, rfl, seqL sm.same h1, e2, q H' x sm hp' e3⟩
    · refine ⟨_, xs.length, rfl, .inr ⟨_, seqT sans_same h1, rfl⟩, a, c, _, rfl, hp, by omega, by omega, fun H' k sm hp' k0 k1 => ?_⟩
      obtain ⟨x, e1, e2, e3⟩ := fin H' k k0 k1
      exact .inr (.inl ⟨l, xs, k, x, rfl, rfl, seqT sm.same h1, e2, q H' x sm hp' e3⟩)
    · refine ⟨_, z.length, rfl, ⟨hz, rfl⟩, a, c, _, rfl, hp, by rw [sg_len] at hpos; omega, by rw [sg_len] at hl; omega, fun H' k sm hp' k0 k1 => ?_⟩
      have hk : k.toNat < (sg z).length := by rw [sg_len]; omega
      obtain ⟨c, e1, e2⟩ := sg_get hk
      have e3 := atI_nat (xs := z.cps.toList) (j := k.toNat) e2
      rw [show ((k.toNat : Nat) : Int) = k by omega] at e3
      exact .inr (.inr ⟨z, k, c, rfl, rfl, hz, e3, q H' _ sm hp' (e1 ▸ List.getElem_mem hk)⟩)
end
end K12

namespace K12
open PySem PySem.Spec PyProof.Rows L2 G Lk
section
variable {P : Program} {w : World} {K : PySem.W.Frag} {mg : Str → Option Value} {base : Heap}
def sp_Lplainer (K : PySem.W.Frag) : Sp := fun vs H Q _ => ∃ (v : V) (d : PyData) (z : Str) (n : Nat), vs = [v] ∧ Dq K H v d ∧ StateD z n d ∧ z.length ≤ 4 ∧
  ∀ (H' : Hp) (v' : V) (d' : PyData), Same H H' → Dq K H' v' d' → StateD z n d' → PlainS d' → Q v' H'
/-- def _law_plainer(state): -/
theorem ok_Lplainer (T : Tx K mg) : FnOk P w K mg base CX0 1 T.a__law_plainer T.fd__law_plainer ["state"] (sp_Lplainer K) := by
  refine T.F__law_plainer.ok sc_Lplainer (fun vs H Q E h => ?_) (fun cdv A outer s H vs Q E hr h => ?_)
  · obtain ⟨_, _, _, _, rfl, _⟩ := h
    rfl
  · refine ⟨_, (pss_one (ps_ret (pe_tup (pa_cons (pe_callTy call_tuple_of (by rfl) T.z_tuple (by decide +kernel) (pa_cons (pe_lc (own := [("move", 1)]) (g := gName 1) (by rfl) sc_Lplainer.nd (pi_tup (pe_ix ix_tup (pv 0) pe_int (fun _ _ => rfl))) (blkOk_by (own := [("move", 1)]) (N := N_Lplainer) (sc := defScope s_Lplainer) (by decide +kernel)) (fun _ _ _ _ _ => pg_name (i := 1) sc_Lplainer.nd rfl (by first | exact Or.inl rfl | exact Or.inr rfl)) (fun _ _ _ _ _ => pts_nil) (fun _ _ _ _ _ => (pe_ifExp (pt_cmpR op_isN (pv 1) pe_non (nomark _)) pe_non (pe_tup (pa_cons (pe_ix (ix_tup : IxR _ (rIxT K)) (pv 1) pe_int (fun _ _ => rfl)) (pa_cons pe_str (pa_cons (pe_ix (ix_tup : IxR _ (rIxT K)) (pv 1) pe_int (fun _ _ => rfl)) pa_nil))))))) pa_nil)) (pa_cons (pe_ix ix_tup (pv 0) pe_int (fun _ _ => rfl)) pa_nil))))), ?_⟩
    obtain ⟨v, d, z, n, rfl, hd, ⟨ms, l, rfl, hm, hms, hl⟩, hz, q⟩ := h
    obtain ⟨a, xs, rfl, h1, h2⟩ := hd.items
    obtain ⟨x, ys, rfl, hx, h2⟩ := h2.one
    obtain ⟨y, ys, rfl, hy, h2⟩ := h2.one
    obtain rfl := h2.none
    obtain ⟨t, zs, rfl, h3, h4⟩ := hx.items
    have hlen := h4.length
    refine ⟨_, rfl, a, _, 0, _, rfl, rfl, h1, rfl, t, rfl, ⟨_, h3⟩, fun D nD => ?_⟩
    refine lc_tup (xs := zs) (fun i H' => Same H H' ∧ ∃ us es, H' D = some (.lst us) ∧ us.length = i ∧ DqAll K (sans H' D) us es ∧ ∀ d ∈ es, MoveD z n d ∧ PlainM d) ⟨same_new nD, [], [], upd_same, rfl, .nil, fun _ h => (List.not_mem_nil h).elim⟩ (fun _ _ _ p => seqT p.1 h3) ?_ ?_
    · rintro i m H1 hmi ⟨s1, us, es, hu, lu, hA, hE⟩
      obtain ⟨e, he, hem, _, hq⟩ := dqAll_get' (h4.mono s1) hmi
      have hi : i < zs.length := (List.getElem?_eq_some_iff.mp hmi).1
      have fin : ∀ (H2 : Hp) (y' : V) (e' : PyData), Same H1 H2 → Dq K (sans H2 D) y' e' → MoveD z n e' ∧ PlainM e' → ∃ acc, H2 D = some (.lst acc) ∧ acc.length < sizeLine ∧
          (Same H (upd H2 D (.lst (acc ++ [y']))) ∧ ∃ us es, upd H2 D (.lst (acc ++ [y'])) D = some (.lst us) ∧ us.length = i + 1 ∧ DqAll K (sans (upd H2 D (.lst (acc ++ [y']))) D) us es ∧ ∀ d ∈ es, MoveD z n d ∧ PlainM d) := fun H2 y' e' s2 hy' hm' => by
        refine ⟨us, s2 _ _ hu, Nat.lt_of_le_of_lt (show us.length ≤ 4 by omega) (by decide), fun b o eb => (upd_ne (ne_of_none eb nD)).trans (s2 _ _ (s1 _ _ eb)), us ++ [y'], es ++ [e'], upd_same, by rw [List.length_append, lu]; rfl, ?_, ?_⟩
        · have sm : Sm D H2 (upd H2 D (.lst (us ++ [y']))) := Sm.pot
          exact ((hA.mono (Sm.of s2)).mono sm).append (.cons (hy'.mono sm) .nil)
        · intro d hd
          rcases List.mem_append.mp hd with z | z
          · exact hE d z
          · rw [List.mem_singleton.mp z]
            exact hm'
      rcases hms e hem with rfl | ⟨b, c, g, rfl, hb, hc, hg⟩
      · obtain rfl := hq.noneV
        refine ⟨rfl, _, rfl, rfl, _, rfl, ?_⟩
        exact iteT (fin H1 .non .none (Same.refl _) .non ⟨.inl rfl, .inl rfl⟩)
      · obtain ⟨p, ps, rfl, hp, hp2⟩ := hq.items
        obtain ⟨x1, ps, rfl, hx1, hp2⟩ := hp2.one
        obtain ⟨x2, ps, rfl, hx2, hp2⟩ := hp2.one
        obtain ⟨x3, ps, rfl, hx3, hp2⟩ := hp2.one
        obtain rfl := hp2.none
        obtain rfl := hx1.strV
        obtain rfl := hx2.strV
        obtain rfl := hx3.intV
        refine ⟨rfl, _, rfl, rfl, _, rfl, ?_⟩
        refine iteF ⟨_, rfl, p, _, 0, _, rfl, rfl, hp, rfl, _, rfl, p, _, 2, _, rfl, rfl, hp, rfl, (by show 3 ≤ sizeLine; decide), fun r nr => ?_⟩
        have nrD : r ≠ D := (ne_of_none hu nr).symm
        refine fin _ _ (.tuple [.str b, .str "", .int (g : Int)]) (same_new nr) ?_ ⟨.inr ⟨b, "", g, rfl, hb, ⟨Nat.zero_le _, fun c h => by cases h⟩, hg⟩, .inr ⟨b, g, rfl⟩⟩
        exact .tup (SqT.of (sans_of nrD upd_same)) (.cons (.str _) (.cons (.str _) (.cons (.int _) .nil)))
    · rintro H1 ⟨s1, us, es, hu, lu, hA, hE⟩
      refine ⟨D, us, rfl, .inl ⟨SqL.of hu, fun p np => ?_⟩⟩
      have s2 := same_new (o := .tup us) np
      refine ⟨_, rfl, a, _, 1, y, rfl, rfl, seqT (Same.trans s1 s2) h1, rfl, (by show 2 ≤ sizeLine; decide), fun r nr => ?_⟩
      have s3 := same_new (o := .tup [.ref p, y]) nr
      have sA := Same.trans s1 (Same.trans s2 s3)
      refine q _ _ (.tuple [.tuple es, l]) sA ?_ ⟨es, l, rfl, ?_, fun m hm => (hE m hm).1, hl⟩ fun ms' l' e m hm => by
        cases e
        exact (hE m hm).2
      · refine .tup (SqT.of upd_same) (.cons (.tup (SqT.of (s3 _ _ upd_same)) ?_) (.cons (hy.mono sA) .nil))
        exact (hA.mono sans_same).mono (Same.trans s2 s3)
      · rw [← hA.length, lu, hlen, hm]
end
end K12

namespace K12
open PySem PySem.Spec PyProof.Rows L2 G Lk
section
variable {P : Program} {w : World} {K : PySem.W.Frag} {mg : Str → Option Value} {base : Heap}
/-- a new pot -/
def sp_Lpot_of (K : PySem.W.Frag) : Sp := fun vs H Q _ => ∃ (a : Addr) (ns : List Int), vs = [.ref a] ∧ SqL K H a (ns.map V.int) ∧ ns.length ≤ 63 ∧
  ∀ (H' : Hp) (p c : Addr), Same H H' → H p = none → Pot K H' p c → Q (.ref p) H'
/-- def _law_pot_of(script): -/
theorem ok_Lpot_of (T : Tx K mg) : FnOk P w K mg base CX0 1 T.a__law_pot_of T.fd__law_pot_of ["script"] (sp_Lpot_of K) := by
  refine T.F__law_pot_of.ok sc_Lpot_of (fun vs H Q E h => ?_) (fun cdv A outer s H vs Q E hr h => ?_)
  · obtain ⟨_, _, rfl, _⟩ := h
    rfl
  · refine ⟨_, (pss_cons (ps_setLc (i := 1) (own := [("cell", 3)]) (g := gName 3) (by rfl) sc_Lpot_of.nd rfl rfl (sw_true rfl rfl rfl (by decide +kernel)) (pi_list (pe_slice sl_list (pv 0) po_none (po_some pe_int))) (blkOk_by (own := [("cell", 3)]) (N := N_Lpot_of) (sc := defScope s_Lpot_of) (by decide +kernel)) (fun _ _ _ _ _ => pg_name (i := 3) sc_Lpot_of.nd rfl (by first | exact Or.inl rfl | exact Or.inr rfl)) (fun _ _ _ _ _ => pts_nil) (fun _ _ _ _ _ => (pe_callB call_abs (by rfl) T.z_abs (by decide +kernel) (pa_cons (pv 3) pa_nil))))
    (pss_cons (ps_for PassesOwn.never rfl (pi_enum (by rfl) T.z_enumerate (pa_cons (pe_slice sl_list (pv 0) (po_some pe_int) (po_some pe_int)) pa_nil)) (pg_tup rfl (pgs_cons (pg_name (i := 2) sc_Lpot_of.nd rfl (by first | exact Or.inl rfl | exact Or.inr rfl)) (pgs_cons (pg_name (i := 3) sc_Lpot_of.nd rfl (by first | exact Or.inl rfl | exact Or.inr rfl)) pgs_nil)))
      (pss_one (ps_asg (pe_op op_add (pe_ix ix_list (pv 1) (pe_op op_mod (pv 2) pe_int) (fun _ _ => rfl)) (pe_callB call_abs (by rfl) T.z_abs (by decide +kernel) (pa_cons (pv 3) pa_nil))) (pg_sub (pv 1) (pe_op op_mod (pv 2) pe_int) set_list))))
    (pss_one (ps_ret (pe_lst (pa_cons (pv 1) (pa_cons pe_int (pa_cons pe_int (pa_cons pe_int pa_nil))))))))), ?_⟩
    obtain ⟨a, ns, rfl, hS, hlen, q⟩ := h
    refine ⟨_, rfl, _, rfl, a, _, rfl, hS, fun e ne => ?_⟩
    have s1 : Same H (upd H e (.lst (cutV (ns.map V.int) none (some 17)))) := same_new ne
    have e17 : cutV (ns.map V.int) none (some 17) = (ns.take 17).map V.int := by
      rw [show (17 : Int) = ((17 : Nat) : Int) from rfl, cutV_to, List.map_take]
    have hE : (upd H e (.lst (cutV (ns.map V.int) none (some 17)))) e = some (.lst ((ns.take 17).map V.int)) := by
      rw [upd_same, e17]
    generalize upd H e (.lst (cutV (ns.map V.int) none (some 17))) = H1 at s1 hE
    refine ⟨e, rfl, ⟨_, SqL.of hE⟩, fun D hD => ?_⟩
    have neD : e ≠ D := ne_of_none hE hD
    refine lc_list (K := K) (a := e) (xs := (ns.take 17).map V.int) (fun i H' => Same H1 H' ∧ ∃ ms : List Int, ms.length = i ∧ H' D = some (.lst (ms.map V.int)))
      ⟨same_new hD, [], rfl, upd_same⟩ (fun i H' _ ⟨s, _⟩ => seqL s (SqL.of hE)) ?_ ?_
    · rintro i x H' hi ⟨s, ms, hm, hD'⟩
      obtain ⟨n, rfl⟩ : ∃ n, x = V.int n := by
        rw [List.getElem?_map, Option.map_eq_some_iff] at hi
        obtain ⟨n, _, rfl⟩ := hi
        exact ⟨n, rfl⟩
      have h17 : i < 17 := by
        have z := (List.getElem?_eq_some_iff.mp hi).1
        rw [List.length_map, List.length_take] at z
        omega
      refine ⟨rfl, _, rfl, _, rfl, _, hD', ?_, ?_, ms ++ [if n < 0 then -n else n], ?_, ?_⟩
      · rw [List.length_map, hm]
        exact Nat.lt_trans h17 (by decide)
      · exact fun b o z => (upd_ne (ne_of_none z hD)).trans (s b o z)
      · rw [List.length_append, hm]
        rfl
      · rw [upd_same, List.map_append]
        rfl
    · rintro H2 ⟨s2, ms, hm, hD2⟩
      rw [List.length_map, List.length_take] at hm
      have sH : Same H H2 := s1.trans s2
      have hDH : H D = none := s1.free hD
      have hS2 : SqL K H2 a (ns.map V.int) := sH.seq hS
      refine ⟨_, rfl, _, rfl, _, rfl, a, _, rfl, hS2, fun f nf => ?_⟩
      have nDf : D ≠ f := ne_of_none hD2 nf
      have e43 : cutV (ns.map V.int) (some 17) (some 60) = ((ns.drop 17).take 43).map V.int := by
        unfold cutV
        rw [show (17 : Int) = ((17 : Nat) : Int) from rfl, show (60 : Int) = ((60 : Nat) : Int) from rfl, HT.sIx_nat, HT.sIx_nat, List.map_take, List.map_drop, List.length_map]
        by_cases c : 17 ≤ ns.length
        · rw [Nat.min_eq_left c]
          by_cases c2 : 60 ≤ ns.length
          · rw [Nat.min_eq_left c2]
          · rw [Nat.min_eq_right (by omega : ns.length ≤ 60), List.take_of_length_le (by rw [List.length_drop, List.length_map]; omega), List.take_of_length_le (by rw [List.length_drop, List.length_map]; omega)]
        · rw [Nat.min_eq_right (by omega : ns.length ≤ 17), List.drop_of_length_le (by rw [List.length_map]; omega), List.drop_of_length_le (by rw [List.length_map]; omega)]
          simp
      have s3 : Same H (upd H2 f (.lst (cutV (ns.map V.int) (some 17) (some 60)))) := sH.trans (same_new nf)
      have hF : (upd H2 f (.lst (cutV (ns.map V.int) (some 17) (some 60)))) f = some (.lst (((ns.drop 17).take 43).map V.int)) := by
        rw [upd_same, e43]
      have hD3 : (upd H2 f (.lst (cutV (ns.map V.int) (some 17) (some 60)))) D = some (.lst (ms.map V.int)) := by
        rw [upd_ne nDf]
        exact hD2
      generalize upd H2 f (.lst (cutV (ns.map V.int) (some 17) (some 60))) = H3 at s3 hF hD3
      refine ⟨f, _, rfl, SqL.of hF, ?_⟩
      generalize hg : (ns.drop 17).take 43 = gs at hF
      have h17 : 0 < gs.length → ms.length = 17 := fun z => by
        rw [← hg, List.length_take, List.length_drop] at z
        omega
      refine ⟨fun i m σ H' => ∃ (t2 t3 : Option V) (ks : List Int), σ = [some (.ref a), some (.ref D), t2, t3] ∧ m = gs.length - i ∧ Same H H' ∧ H' f = some (.lst (gs.map V.int)) ∧ H' D = some (.lst (ks.map V.int)) ∧ ks.length = ms.length,
        ⟨gs.length, none, none, ms, rfl, rfl, s3, hF, hD3, rfl⟩, ?_⟩
      rintro i m σ H' ⟨t2, t3, ks, rfl, em, sm, ef, ed, ek⟩
      by_cases hi : i < gs.length
      · have hg1 : (gs.map V.int)[i]? = some (.int gs[i]) := by
          rw [List.getElem?_map, List.getElem?_eq_getElem hi]
          rfl
        refine .inr ⟨⟨_, _, SqL.of ef, hg1⟩, fun σ' H'' => ∃ (t2 t3 : Option V) (ks : List Int), σ' = [some (.ref a), some (.ref D), t2, t3] ∧ Same H H'' ∧ H'' f = some (.lst (gs.map V.int)) ∧ H'' D = some (.lst (ks.map V.int)) ∧ ks.length = ms.length, ?_, ?_⟩
        · rintro σ' H'' ⟨u2, u3, ls, e1, e2, e3, e4, e5⟩
          exact ⟨gs.length - (i + 1), by omega, u2, u3, ls, e1, rfl, e2, e3, e4, e5⟩
        · rintro v H'' ⟨T0, x, rfl, nT, rfl, fx⟩
          obtain rfl : x = .int gs[i] := Option.some.inj ((fx _ (SqL.of ef)).symm.trans hg1)
          have nDT : D ≠ T0 := ne_of_none ed nT
          have nfT : f ≠ T0 := ne_of_none ef nT
          have hk := h17 (by omega)
          have sT : Same H' (upd H' T0 (.tup [.int ((i : Nat) : Int), .int gs[i]])) := same_new nT
          refine ⟨T0, _, rfl, SqT.of upd_same, rfl, _, _, rfl, _, _, rfl, rfl, ?_⟩
          have p17 : (0 : Int) < 17 := by decide
          have hz : (((i : Nat) : Int) % 17).toNat < ks.length := by
            have z1 := Int.emod_nonneg ((i : Nat) : Int) (by decide : (17 : Int) ≠ 0)
            have z2 := Int.emod_lt_of_pos ((i : Nat) : Int) p17
            omega
          have ez := Int.toNat_of_nonneg (Int.emod_nonneg ((i : Nat) : Int) (by decide : (17 : Int) ≠ 0))
          have e3 := atI_nat (xs := ks.map V.int) (j := (((i : Nat) : Int) % 17).toNat) (v := .int ks[(((i : Nat) : Int) % 17).toNat]) (by rw [List.getElem?_map, List.getElem?_eq_getElem hz]; rfl)
          have e4 : ixN (ks.map V.int).length (((i : Nat) : Int) % 17) = some (((i : Nat) : Int) % 17).toNat := by
            have z := ixN_nat (n := (ks.map V.int).length) (j := (((i : Nat) : Int) % 17).toNat) (by rw [List.length_map]; exact hz)
            rw [ez] at z
            exact z
          rw [ez] at e3
          have ed2 : (upd H' T0 (.tup [.int ((i : Nat) : Int), .int gs[i]])) D = some (.lst (ks.map V.int)) := sT _ _ ed
          refine ⟨_, rfl, _, rfl, _, _, rfl, rfl, p17, D, _, _, _, rfl, rfl, SqL.of ed2, e3, _, rfl, _, rfl, _, _, rfl, rfl, _, rfl, _, rfl, _, _, rfl, rfl, p17, D, _, _, _, rfl, rfl, ed2, e4, ?_⟩
          refine ⟨_, _, ks.set (((i : Nat) : Int) % 17).toNat (ks[(((i : Nat) : Int) % 17).toNat] + (if gs[i] < 0 then -gs[i] else gs[i])), rfl, ?_, ?_, ?_, ?_⟩
          · exact fun b o z => (upd_ne (ne_of_none z hDH)).trans (sT _ _ (sm b o z))
          · rw [upd_ne nDf.symm]
            exact sT _ _ ef
          · rw [upd_same, List.map_set]
          · rw [List.length_set]
            exact ek
      · refine .inl ⟨⟨_, SqL.of ef, by rw [List.length_map]; omega⟩, ?_⟩
        refine ⟨_, rfl, (by show 4 ≤ sizeLine; decide), fun p np => ?_⟩
        have nDp : D ≠ p := ne_of_none ed np
        refine q _ p D (sm.trans (same_new np)) (sm.free np) ⟨⟨0, 0, 0, upd_same⟩, ks, ?_, ?_⟩
        · refine SqL.of (sans_of nDp ?_)
          rw [upd_ne nDp]
          exact ed
        · omega
end
end K12

namespace K12
open PySem PySem.Spec PyProof.Rows L2 G Lk
section
variable {P : Program} {w : World} {K : PySem.W.Frag} {mg : Str → Option Value} {base : Heap}
def sp_first_stand (K : PySem.W.Frag) : Sp := fun vs H Q _ => ∃ (v : V) (z f t : Str) (ss : List PyData), vs = [v, .str t] ∧ Dq K H v (.tuple [.str z, .str f, .tuple ss]) ∧
  ∀ H' r, Same H H' → Dq K H' r (standD (f, t, 0)) → Q r H'
/-- def _first_stand(expander, text): -/
theorem ok_first_stand (T : Tx K mg) : FnOk P w K mg base CX0 1 T.a__first_stand T.fd__first_stand ["expander", "text"] (sp_first_stand K) := by
  refine T.F__first_stand.ok sc_first_stand (fun vs H Q E h => ?_) (fun cdv A outer s H vs Q E hr h => ?_)
  · obtain ⟨_, _, _, _, _, rfl, _⟩ := h
    rfl
  · refine ⟨_, (pss_one (ps_ret (pe_tup (pa_cons (pe_ix ix_tup (pv 0) pe_int (fun _ _ => rfl)) (pa_cons (pv 1) (pa_cons pe_int pa_nil)))))), ?_⟩
    obtain ⟨v, z, f, t, ss, rfl, hv, q⟩ := h
    obtain ⟨a, t', xs, rfl, ht, hts, hA⟩ := expV_of hv
    refine ⟨_, rfl, a, _, _, _, rfl, rfl, ht, rfl, _, rfl, (by show 3 ≤ sizeLine; decide), fun p np => ?_⟩
    exact q _ _ (same_new np) (.tup (SqT.of upd_same) (.cons (.str _) (.cons (.str _) (.cons (.int _) .nil))))
end
end K12

namespace K12
open PySem PySem.Spec PyProof.Rows L2 G Lk
section
variable {P : Program} {w : World} {K : PySem.W.Frag} {mg : Str → Option Value} {base : Heap}
/-- is_word of a text and data -/
def sp_is_word (K : PySem.W.Frag) : Sp := fun vs H Q _ => ∃ (s : Str) (v : V) (d : PyData), vs = [.str s, v] ∧ Dq K H v d ∧ (∀ z, d = .str z → z.length ≤ sizeLine) ∧ Q (.bl (isWord s d)) H
/-- def is_word(signs, thing): -/
theorem ok_is_word (T : Tx K mg) : FnOk P w K mg base CX0 1 T.a_is_word T.fd_is_word ["signs", "thing"] (sp_is_word K) := by
  refine T.F_is_word.ok sc_is_word (fun vs H Q E h => ?_) (fun cdv A outer s H vs Q E hr h => ?_)
  · obtain ⟨_, _, _, rfl, _⟩ := h
    rfl
  · refine ⟨_, (pss_one (ps_ret (pe_and (pe_callB call_isi (by rfl) T.z_isinstance (by decide +kernel) (pa_cons (pv 1) (pa_cons (pe_bltn (v := .ty "str") (by rfl) T.z_str (by decide +kernel) rfl) pa_nil))) (pe_one (pe_cmpR op_eq (pe_bm PySem.F.plainAttrs_str PySem.F.slot_str_strip PySem.F.type_str_strip mt_stripChars (pv 1) (pa_cons (pv 0) pa_nil)) pe_str (nomark _)))))), ?_⟩
    obtain ⟨s, v, d, rfl, hd, hz, q⟩ := h
    refine ⟨v, rfl, v, .ty "str", _, _, _, rfl, .ty "str", hd.ty, kStr d, _, rfl, ?_⟩
    cases hd with
    | str z =>
      refine iteT ⟨.str z, rfl, rfl, .str s, rfl, z, s, rfl, rfl, hz z rfl, ?_⟩
      refine ⟨rfl, ?_⟩
      show Q (.bl (decide (V.str (Txt.stripChars z s) = V.str (tx [])))) H
      rw [strip_none]
      exact q
    | non => exact iteF q
    | bl b => exact iteF q
    | int i => exact iteF q
    | lst _ _ => exact iteF q
    | tup _ _ => exact iteF q
    | emp _ => exact iteF q
end
end K12

namespace K12
open PySem PySem.Spec PyProof.Rows L2 G Lk
section
variable {P : Program} {w : World} {K : PySem.W.Frag} {mg : Str → Option Value} {base : Heap}
def sp_are_signs (K : PySem.W.Frag) : Sp := fun vs H Q _ => ∃ (v : V) (d : PyData), vs = [v] ∧ Dq K H v d ∧ Light d ∧ ∀ H', Same H H' → Q (.bl (signsB d)) H'
/-- def _are_signs(thing): -/
theorem ok_are_signs (T : Tx K mg) : FnOk P w K mg base CX0 2 T.a__are_signs T.fd__are_signs ["thing"] (sp_are_signs K) := by
  refine T.F__are_signs.ok sc_are_signs (fun vs H Q E h => ?_) (fun cdv A outer s H vs Q E hr h => ?_)
  · obtain ⟨_, _, rfl, _⟩ := h
    rfl
  · refine ⟨_, (pss_cons (ps_if (PW.pt (pw_or (pt_not (pt_val (pe_call (ok_is_word T) (hr.mono (by decide)) (by rfl) T.g_is_word T.F_is_word.kp T.b_is_word .nil pass0 (pa_cons (pe_glob (v := .str "abcdefghijklmnopqrstuvwxyz") (by rfl) T.m_LETTERS ⟨_, rfl⟩) (pa_cons (pv 0) pa_nil))))) (pw_or1 (pt_not (pt_chain op_le op_le pe_int (pe_callB call_len_str (by rfl) T.z_len PySem.boot_len (pa_cons (pv 0) pa_nil)) (pe_glob (v := .int 4) (by rfl) T.m_MOST_SIGNS ⟨_, rfl⟩))))))
      (pss_one (ps_ret pe_bl))
      pss_nil)
    (pss_one (ps_ret (pe_cmpR (op_eqD hr.units) (pe_callTy (call_list_ofS rfl) (by rfl) T.z_list (by decide +kernel) (pa_cons (pv 0) pa_nil)) (pe_callB (Ls.cr_sortedT rfl) (by rfl) T.z_sorted (by decide +kernel) (pa_cons (pe_callTy (Ls.cr_setT rfl) (by rfl) T.z_set (by decide +kernel) (pa_cons (pv 0) pa_nil)) pa_nil)) (nomark _))))), ?_⟩
    obtain ⟨v, d, rfl, hd, hz, q⟩ := h
    refine ⟨v, rfl, "abcdefghijklmnopqrstuvwxyz", v, d, rfl, hd, (fun z e => light_str (e ▸ hz)), _, rfl, ?_⟩
    have no : signsB d = false → Q (.bl false) H := fun e => by
      have q := q H (Same.refl H)
      rw [e] at q
      exact q
    cases hd with
    | str z =>
      have q : ∀ H', Same H H' → Q (.bl (allIn "abcdefghijklmnopqrstuvwxyz" z && ((decide (1 ≤ z.length) && decide (z.length ≤ 4)) && Ls.ascB z))) H' := q
      show if (!allIn "abcdefghijklmnopqrstuvwxyz" z) = true then _ else _
      cases e : allIn "abcdefghijklmnopqrstuvwxyz" z with
      | false =>
        rw [e] at q
        exact iteT (iteT (q H (Same.refl H)))
      | true =>
        rw [e, tt_and] at q
        refine iteF ⟨_, rfl, z, rfl, light_str hz, 1, _, rfl, rfl, _, rfl, ?_⟩
        by_cases e1 : 1 ≤ z.length
        · rw [decide_eq_true e1, tt_and] at q
          rw [decide_eq_true (show (1 : Int) ≤ ((z.length : Nat) : Int) by omega)]
          refine iteT ⟨_, _, rfl, rfl, _, rfl, ?_⟩
          by_cases e2 : z.length ≤ 4
          · rw [decide_eq_true e2, tt_and] at q
            rw [decide_eq_true (show ((z.length : Nat) : Int) ≤ 4 by omega)]
            refine iteF ⟨_, rfl, z, rfl, light_str hz, fun l nl => ?_⟩
            have s1 := same_new (o := .lst (sg z)) nl
            refine ⟨_, rfl, z, rfl, (by have : z.cps.size = z.length := rfl; omega), fun S nS => ?_⟩
            have s2 := same_new (o := Ls.SetS w S (Ls.signsT z)) nS
            refine ⟨S, z, rfl, upd_same, (by have : z.cps.size = z.length := rfl; omega), fun cs p iff mem lc np => ?_⟩
            have s3 := same_new (o := .lst ((cs.map Ls.one).map V.str)) np
            have small : ∀ c ∈ z.cps.toList, c < 1000 := small_letters e
            refine ⟨.list ((z.cps.toList.map Ls.one).map PyData.str), .list ((cs.map Ls.one).map PyData.str), .lst (SqL.of (s3 _ _ (s2 _ _ ?_))) (dq_strs _), .lst (SqL.of upd_same) (dq_strs _), shaped_ones _ small, shaped_ones _ fun c hc => small c (mem c hc), ?_⟩
            · rw [upd_same, sg_ones]
            · rw [eqv_strs, asc_eq iff]
              exact q _ (Same.trans s1 (Same.trans s2 s3))
          · rw [decide_eq_false e2, ff_and] at q
            rw [decide_eq_false (show ¬ ((z.length : Nat) : Int) ≤ 4 by omega)]
            exact iteT (q H (Same.refl H))
        · rw [decide_eq_false e1, ff_and, ff_and] at q
          rw [decide_eq_false (show ¬ (1 : Int) ≤ ((z.length : Nat) : Int) by omega)]
          exact iteF ⟨_, rfl, iteT (q H (Same.refl H))⟩
    | non => exact iteT (iteT (no rfl))
    | bl b => exact iteT (iteT (no rfl))
    | int i => exact iteT (iteT (no rfl))
    | lst _ _ => exact iteT (iteT (no rfl))
    | tup _ _ => exact iteT (iteT (no rfl))
    | emp _ => exact iteT (iteT (no rfl))
end
end K12

namespace K12
open PySem PySem.Spec PyProof.Rows L2 G Lk
section
variable {P : Program} {w : World} {K : PySem.W.Frag} {mg : Str → Option Value} {base : Heap}
/-- an integer -/
def wholeB : PyData → Bool
  | .int _ => true
  | _ => false
def sp_is_whole (K : PySem.W.Frag) : Sp := fun vs H Q _ => ∃ (v : V) (d : PyData), vs = [v] ∧ Dq K H v d ∧ Q (.bl (wholeB d)) H
/-- def is_whole(thing): -/
theorem ok_is_whole (T : Tx K mg) : FnOk P w K mg base CX0 1 T.a_is_whole T.fd_is_whole ["thing"] (sp_is_whole K) := by
  refine T.F_is_whole.ok sc_is_whole (fun vs H Q E h => ?_) (fun cdv A outer s H vs Q E hr h => ?_)
  · obtain ⟨_, _, rfl, _⟩ := h
    rfl
  · refine ⟨_, (pss_one (ps_ret (pe_and (pe_callB call_isi (by rfl) T.z_isinstance (by decide +kernel) (pa_cons (pv 0) (pa_cons (pe_bltn (v := .ty "int") (by rfl) T.z_int (by decide +kernel) rfl) pa_nil))) (pe_one (pe_not (pe_callB call_isi (by rfl) T.z_isinstance (by decide +kernel) (pa_cons (pv 0) (pa_cons (pe_bltn (v := .ty "bool") (by rfl) T.z_bool (by decide +kernel) rfl) pa_nil)))))))), ?_⟩
    obtain ⟨v, d, rfl, hd, q⟩ := h
    refine ⟨v, rfl, v, .ty "int", _, _, _, rfl, .ty "int", hd.ty, kInt d, _, rfl, ?_⟩
    cases hd with
    | int i => exact iteT ⟨.int i, rfl, .int i, .ty "bool", _, _, _, rfl, .ty "bool", .base (.int i), kBool (.int i), _, rfl, q⟩
    | bl b => exact iteT ⟨.bl b, rfl, .bl b, .ty "bool", _, _, _, rfl, .ty "bool", .base (.bl b), kBool (.bool b), _, rfl, q⟩
    | non => exact iteF q
    | str z => exact iteF q
    | lst _ _ => exact iteF q
    | tup _ _ => exact iteF q
    | emp _ => exact iteF q
end
end K12

namespace K12
open PySem PySem.Spec PyProof.Rows L2 G Lk
section
variable {P : Program} {w : World} {K : PySem.W.Frag} {mg : Str → Option Value} {base : Heap}
def sp_is_number (K : PySem.W.Frag) : Sp := fun vs H Q _ => ∃ (n : Int) (v : V) (d : PyData), vs = [.int n, v] ∧ Dq K H v d ∧ Q (.bl (countB n d)) H
/-- def is_number(many, thing): -/
theorem ok_is_number (T : Tx K mg) : FnOk P w K mg base CX0 2 T.a_is_number T.fd_is_number ["many", "thing"] (sp_is_number K) := by
  refine T.F_is_number.ok sc_is_number (fun vs H Q E h => ?_) (fun cdv A outer s H vs Q E hr h => ?_)
  · obtain ⟨_, _, _, rfl, _⟩ := h
    rfl
  · refine ⟨_, (pss_one (ps_ret (pe_and (pe_call (ok_is_whole T) (hr.mono (by decide)) (by rfl) T.g_is_whole T.F_is_whole.kp T.b_is_whole .nil pass0 (pa_cons (pv 1) pa_nil)) (pe_one (pe_chain op_le op_lt pe_int (pv 1) (pv 0)))))), ?_⟩
    obtain ⟨n, v, d, rfl, hd, q⟩ := h
    refine ⟨_, rfl, v, d, rfl, hd, _, rfl, ?_⟩
    cases hd with
    | int i =>
      have q : Q (.bl (decide (0 ≤ i) && decide (i < n))) H := q
      refine iteT ⟨_, rfl, 0, i, rfl, rfl, _, rfl, ?_⟩
      cases e : decide (0 ≤ i) with
      | false =>
        rw [e] at q
        exact iteF q
      | true =>
        rw [e] at q
        exact iteT ⟨_, rfl, i, n, rfl, rfl, q⟩
    | bl b => exact iteF q
    | non => exact iteF q
    | str z => exact iteF q
    | lst _ _ => exact iteF q
    | tup _ _ => exact iteF q
    | emp _ => exact iteF q
end
end K12

namespace K12
open PySem PySem.Spec PyProof.Rows L2 G Lk
section
variable {P : Program} {w : World} {K : PySem.W.Frag} {mg : Str → Option Value} {base : Heap}
def sp_is_short_word (K : PySem.W.Frag) : Sp := fun vs H Q _ => ∃ (s : Str) (v : V) (d : PyData), vs = [.str s, v] ∧ Dq K H v d ∧ Light d ∧ Q (.bl (shortB s d)) H
/-- def _is_short_word(signs, thing): -/
theorem ok_is_short_word (T : Tx K mg) : FnOk P w K mg base CX0 2 T.a__is_short_word T.fd__is_short_word ["signs", "thing"] (sp_is_short_word K) := by
  refine T.F__is_short_word.ok sc_is_short_word (fun vs H Q E h => ?_) (fun cdv A outer s H vs Q E hr h => ?_)
  · obtain ⟨_, _, _, rfl, _⟩ := h
    rfl
  · refine ⟨_, (pss_one (ps_ret (pe_and (pe_call (ok_is_word T) (hr.mono (by decide)) (by rfl) T.g_is_word T.F_is_word.kp T.b_is_word .nil pass0 (pa_cons (pv 0) (pa_cons (pv 1) pa_nil))) (pe_one (pe_cmpR op_le (pe_callB call_len_str (by rfl) T.z_len PySem.boot_len (pa_cons (pv 1) pa_nil)) (pe_glob (v := .int 2000) (by rfl) T.m_MOST_WORD ⟨_, rfl⟩) (nomark _)))))), ?_⟩
    obtain ⟨s, v, d, rfl, hd, hz, q⟩ := h
    refine ⟨.str s, rfl, v, rfl, s, v, d, rfl, hd, (fun z e => light_str (e ▸ hz)), _, rfl, ?_⟩
    cases hd with
    | str z =>
      have q : Q (.bl (allIn s z && decide (z.length ≤ 2000))) H := q
      show if allIn s z = true then _ else _
      cases e : allIn s z with
      | false =>
        rw [e] at q
        exact iteF q
      | true =>
        rw [e] at q
        refine iteT ⟨.str z, rfl, z, rfl, light_str hz, _, _, rfl, rfl, ?_⟩
        have e2 : decide (((z.length : Nat) : Int) ≤ 2000) = (true && decide (z.length ≤ 2000)) := by
          rw [Bool.true_and]
          exact decide_eq_decide.mpr ⟨fun x => by omega, fun x => by omega⟩
        show Q (.bl (decide (((z.length : Nat) : Int) ≤ 2000))) H
        rw [e2]
        exact q
    | non => exact iteF q
    | bl b => exact iteF q
    | int i => exact iteF q
    | lst _ _ => exact iteF q
    | tup _ _ => exact iteF q
    | emp _ => exact iteF q
end
end K12

namespace K12
open PySem PySem.Spec PyProof.Rows L2 G Lk
section
variable {P : Program} {w : World} {K : PySem.W.Frag} {mg : Str → Option Value} {base : Heap}
def sp_is_move (K : PySem.W.Frag) : Sp := fun vs H Q _ => ∃ (s : Str) (n : Int) (v : V) (d : PyData), vs = [.str s, .int n, v] ∧ Dq K H v d ∧ Light d ∧ Q (.bl (moveB s n d)) H
/-- def _is_move(signs, many, thing): -/
theorem ok_is_move (T : Tx K mg) : FnOk P w K mg base CX0 3 T.a__is_move T.fd__is_move ["signs", "many", "thing"] (sp_is_move K) := by
  refine T.F__is_move.ok sc_is_move (fun vs H Q E h => ?_) (fun cdv A outer s H vs Q E hr h => ?_)
  · obtain ⟨_, _, _, _, rfl, _⟩ := h
    rfl
  · refine ⟨_, (pss_cons (ps_if (PW.pt (pw_or (pt_not (pt_val (pe_callB call_isi (by rfl) T.z_isinstance (by decide +kernel) (pa_cons (pv 2) (pa_cons (pe_bltn (v := .ty "tuple") (by rfl) T.z_tuple (by decide +kernel) rfl) pa_nil))))) (pw_or1 (pt_cmpR op_ne (pe_callB call_len_seq (by rfl) T.z_len PySem.boot_len (pa_cons (pv 2) pa_nil)) pe_int (nomark _)))))
      (pss_one (ps_ret pe_bl))
      pss_nil)
    (pss_cons (ps_asg (pv 2) (pg_tup rfl (pgs_cons (pg_name (i := 3) sc_is_move.nd rfl (by first | exact Or.inl rfl | exact Or.inr rfl)) (pgs_cons (pg_name (i := 4) sc_is_move.nd rfl (by first | exact Or.inl rfl | exact Or.inr rfl)) (pgs_cons (pg_name (i := 5) sc_is_move.nd rfl (by first | exact Or.inl rfl | exact Or.inr rfl)) pgs_nil)))))
    (pss_cons (ps_if (PW.pt (pw_or (pt_not (pt_val (pe_call (ok_is_short_word T) (hr.mono (by decide)) (by rfl) T.g__is_short_word T.F__is_short_word.kp T.b__is_short_word .nil pass0 (pa_cons (pv 0) (pa_cons (pv 3) pa_nil))))) (pw_or1 (pt_not (pt_val (pe_call (ok_is_short_word T) (hr.mono (by decide)) (by rfl) T.g__is_short_word T.F__is_short_word.kp T.b__is_short_word .nil pass0 (pa_cons (pv 0) (pa_cons (pv 4) pa_nil))))))))
      (pss_one (ps_ret pe_bl))
      pss_nil)
    (pss_one (ps_ret (pe_call (ok_is_number T) (hr.mono (by decide)) (by rfl) T.g_is_number T.F_is_number.kp T.b_is_number .nil pass0 (pa_cons (pv 1) (pa_cons (pv 5) pa_nil)))))))), ?_⟩
    obtain ⟨s, n, v, d, rfl, hd, hz, q⟩ := h
    refine ⟨v, rfl, v, .ty "tuple", _, _, _, rfl, .ty "tuple", hd.ty, kTup d, _, rfl, ?_⟩
    cases e : isTup d with
    | false =>
      rw [moveB_tup e] at q
      exact iteT (iteT q)
    | true =>
      obtain ⟨a, xs, ds, rfl, rfl, ht, ha⟩ := dq_tup hd e
      refine iteF ⟨_, rfl, a, xs, rfl, .inr ht, rfl, _, rfl, ?_⟩
      rw [Lk.ne_int]
      by_cases hl : xs.length = 3
      · rw [decide_eq_true (show ((xs.length : Nat) : Int) = 3 by omega)]
        refine iteF ?_
        obtain ⟨x, y, z, d1, d2, d3, rfl, rfl, h1, h2, h3⟩ := ha.three hl
        have hw := light_tup hz
        refine ⟨_, rfl, a, _, rfl, ht, rfl, x, _, rfl, y, _, rfl, z, _, rfl, rfl, ?_⟩
        refine ⟨_, rfl, x, rfl, s, x, d1, rfl, h1, hw d1 (by simp), _, rfl, ?_⟩
        have q : Q (.bl (shortB s d1 && (shortB s d2 && countB n d3))) H := q
        cases e1 : shortB s d1 with
        | false =>
          rw [e1] at q
          exact iteT (iteT q)
        | true =>
          rw [e1] at q
          refine iteF ⟨_, rfl, y, rfl, s, y, d2, rfl, h2, hw d2 (by simp), _, rfl, ?_⟩
          cases e2 : shortB s d2 with
          | false =>
            rw [e2] at q
            exact iteT q
          | true =>
            rw [e2] at q
            exact iteF ⟨_, rfl, z, rfl, n, z, d3, rfl, h3, q⟩
      · rw [decide_eq_false (show ¬ ((xs.length : Nat) : Int) = 3 by omega)]
        rw [moveB_len (fun z => hl (ha.length.trans z))] at q
        exact iteT q
end
end K12

namespace K12
open PySem PySem.Spec PyProof.Rows L2 G Lk
section
variable {P : Program} {w : World} {K : PySem.W.Frag} {mg : Str → Option Value} {base : Heap}
def sp_is_state (K : PySem.W.Frag) : Sp := fun vs H Q _ => ∃ (s : Str) (n : Int) (v : V) (d : PyData), vs = [.str s, .int n, v] ∧ Dq K H v d ∧ Light d ∧ s.length ≤ 4 ∧ ∀ H', Same H H' → Q (.bl (stateB s n d)) H'
/-- def _is_state(signs, many, thing): -/
theorem ok_is_state (T : Tx K mg) : FnOk P w K mg base CX0 4 T.a__is_state T.fd__is_state ["signs", "many", "thing"] (sp_is_state K) := by
  refine T.F__is_state.ok sc_is_state (fun vs H Q E h => ?_) (fun cdv A outer s H vs Q E hr h => ?_)
  · obtain ⟨_, _, _, _, rfl, _⟩ := h
    rfl
  · refine ⟨_, (pss_cons (ps_if (PW.pt (pw_or (pt_not (pt_val (pe_callB call_isi (by rfl) T.z_isinstance (by decide +kernel) (pa_cons (pv 2) (pa_cons (pe_bltn (v := .ty "tuple") (by rfl) T.z_tuple (by decide +kernel) rfl) pa_nil))))) (pw_or1 (pt_cmpR op_ne (pe_callB call_len_seq (by rfl) T.z_len PySem.boot_len (pa_cons (pv 2) pa_nil)) pe_int (nomark _)))))
      (pss_one (ps_ret pe_bl))
      pss_nil)
    (pss_cons (ps_asg (pv 2) (pg_tup rfl (pgs_cons (pg_name (i := 3) sc_is_state.nd rfl (by first | exact Or.inl rfl | exact Or.inr rfl)) (pgs_cons (pg_name (i := 4) sc_is_state.nd rfl (by first | exact Or.inl rfl | exact Or.inr rfl)) pgs_nil))))
    (pss_cons (ps_if (PW.pt (pw_or (pt_not (pt_val (pe_callB call_isi (by rfl) T.z_isinstance (by decide +kernel) (pa_cons (pv 3) (pa_cons (pe_bltn (v := .ty "tuple") (by rfl) T.z_tuple (by decide +kernel) rfl) pa_nil))))) (pw_or1 (pt_cmpR op_ne (pe_callB call_len_seq (by rfl) T.z_len PySem.boot_len (pa_cons (pv 3) pa_nil)) (pe_callB call_len_str (by rfl) T.z_len PySem.boot_len (pa_cons (pv 0) pa_nil)) (nomark _)))))
      (pss_one (ps_ret pe_bl))
      pss_nil)
    (pss_cons (ps_if (PW.pt (pw_and (pt_cmpR op_notN (pv 4) pe_non (nomark _)) (pw_and1 (pt_not (pt_val (pe_call (ok_is_short_word T) (hr.mono (by decide)) (by rfl) T.g__is_short_word T.F__is_short_word.kp T.b__is_short_word .nil pass0 (pa_cons (pv 0) (pa_cons (pv 4) pa_nil))))))))
      (pss_one (ps_ret pe_bl))
      pss_nil)
    (pss_one (ps_ret (pe_callB (cr_all rfl) (by rfl) T.z_all (by decide +kernel) (pa_cons (pe_lc (own := [("move", 5)]) (g := gName 5) (by rfl) sc_is_state.nd (pi_tup (pv 3)) (blkOk_by (own := [("move", 5)]) (N := N_is_state) (sc := defScope s_is_state) (by decide +kernel)) (fun _ _ _ _ _ => pg_name (i := 5) sc_is_state.nd rfl (by first | exact Or.inl rfl | exact Or.inr rfl)) (fun _ _ _ _ _ => pts_nil) (fun _ _ _ _ _ => (pe_or (pe_cmpR op_isN (pv 5) pe_non (nomark _)) (pe_one (pe_call (ok_is_move T) (hr.mono (by decide)) (by rfl) T.g__is_move T.F__is_move.kp T.b__is_move .nil pass0 (pa_cons (pv 0) (pa_cons (pv 1) (pa_cons (pv 5) pa_nil)))))))) pa_nil)))))))), ?_⟩
    obtain ⟨s, n, v, d, rfl, hd, hz, hs4, q⟩ := h
    refine ⟨v, rfl, v, .ty "tuple", _, _, _, rfl, .ty "tuple", hd.ty, kTup d, _, rfl, ?_⟩
    cases e : isTup d with
    | false =>
      rw [stateB_tup e] at q
      exact iteT (iteT (q H (Same.refl H)))
    | true =>
      obtain ⟨a, xs, ds, rfl, rfl, ht, ha⟩ := dq_tup hd e
      refine iteF ⟨_, rfl, a, xs, rfl, .inr ht, rfl, _, rfl, ?_⟩
      rw [Lk.ne_int]
      by_cases hl : xs.length = 2
      · rw [decide_eq_true (show ((xs.length : Nat) : Int) = 2 by omega)]
        refine iteF ?_
        obtain ⟨x, y, d1, d2, rfl, rfl, h1, h2⟩ := ha.two hl
        have hw := light_tup hz
        refine ⟨_, rfl, a, _, rfl, ht, rfl, x, _, rfl, y, _, rfl, rfl, ?_⟩
        refine ⟨x, rfl, x, .ty "tuple", _, _, _, rfl, .ty "tuple", h1.ty, kTup d1, _, rfl, ?_⟩
        cases e1 : isTup d1 with
        | false =>
          rw [stateB_first e1] at q
          exact iteT (iteT (q H (Same.refl H)))
        | true =>
          obtain ⟨a1, ms, es, rfl, rfl, ht1, ha1⟩ := dq_tup h1 e1
          have hw1 := hw _ (List.mem_cons_self ..)
          refine iteF ⟨_, rfl, a1, ms, rfl, .inr ht1, _, rfl, s, rfl, Nat.le_trans hs4 (by decide), rfl, _, rfl, ?_⟩
          rw [Lk.ne_int]
          have q : ∀ H', Same H H' → Q (.bl (decide (es.length = s.length) && ((isNone d2 || shortB s d2) && es.all fun m => isNone m || moveB s n m))) H' := q
          by_cases hl1 : ms.length = s.length
          · rw [decide_eq_true (show ((ms.length : Nat) : Int) = ((s.length : Nat) : Int) by omega)]
            rw [decide_eq_true (show es.length = s.length from ha1.length.symm.trans hl1)] at q
            refine iteF ?_
            rw [tt_and] at q
            refine ⟨y, rfl, rfl, _, rfl, ?_⟩
            rw [isNone_non h2]
            cases e3 : isNone d2 || shortB s d2 with
            | false =>
              rw [e3, ff_and] at q
              obtain ⟨e4, e5⟩ := Bool.or_eq_false_iff.mp e3
              rw [e4]
              refine iteT ⟨_, rfl, y, rfl, s, y, d2, rfl, h2, hw d2 (by simp), _, rfl, ?_⟩
              rw [e5]
              exact iteT (q H (Same.refl H))
            | true =>
              rw [e3, tt_and] at q
              refine two_ways ?_ (fun ec rest => ⟨_, rfl, y, rfl, s, y, d2, rfl, h2, hw d2 (by simp), _, rfl, ?_⟩)
              · refine ⟨_, rfl, a1, rfl, ⟨_, ht1⟩, fun D nD => ?_⟩
                refine lc_bools (fun m => isNone m || moveB s n m) ht1 ha1 nD (by omega) (fun x d H1 Nxt Els s1 hx hm k => ?_) (fun H1 s1 hD => ?_)
                · refine ⟨rfl, x, rfl, rfl, _, rfl, ?_⟩
                  rw [isNone_non hx]
                  have k := k H1 (Same.refl H1)
                  cases e4 : isNone d with
                  | true =>
                    rw [e4] at k
                    exact iteT k
                  | false =>
                    rw [e4] at k
                    exact iteF ⟨_, rfl, _, rfl, x, rfl, s, n, x, d, rfl, hx, light_tup hw1 d hm, k⟩
                · refine ⟨D, _, rfl, SqL.of hD, ?_⟩
                  have ea : (es.map fun m => isNone m || moveB s n m).all id = es.all fun m => isNone m || moveB s n m := by
                    rw [List.all_map]
                    rfl
                  rw [ea]
                  exact q H1 s1
              · have e4 : isNone d2 = false := by
                  cases z : isNone d2 with
                  | false => rfl
                  | true =>
                    rw [z] at ec
                    cases ec
                rw [e4, ff_or] at e3
                rw [e3]
                exact iteF rest
          · rw [decide_eq_false (show ¬ ((ms.length : Nat) : Int) = ((s.length : Nat) : Int) by omega)]
            rw [decide_eq_false (show ¬ es.length = s.length from fun z => hl1 (ha1.length.trans z))] at q
            exact iteT (q H (Same.refl H))
      · rw [decide_eq_false (show ¬ ((xs.length : Nat) : Int) = 2 by omega)]
        rw [stateB_len (fun z => hl (ha.length.trans z))] at q
        exact iteT (q H (Same.refl H))
end
end K12

namespace K12
open PySem PySem.Spec PyProof.Rows L2 G Lk
section
variable {P : Program} {w : World} {K : PySem.W.Frag} {mg : Str → Option Value} {base : Heap}
def sp_are_states (K : PySem.W.Frag) : Sp := fun vs H Q _ => ∃ (s : Str) (v : V) (d : PyData), vs = [.str s, v] ∧ Dq K H v d ∧ Light d ∧ s.length ≤ 4 ∧ ∀ H', Same H H' → Q (.bl (statesB s d)) H'
/-- def _are_states(signs, thing): -/
theorem ok_are_states (T : Tx K mg) : FnOk P w K mg base CX0 5 T.a__are_states T.fd__are_states ["signs", "thing"] (sp_are_states K) := by
  refine T.F__are_states.ok sc_are_states (fun vs H Q E h => ?_) (fun cdv A outer s H vs Q E hr h => ?_)
  · obtain ⟨_, _, _, rfl, _⟩ := h
    rfl
  · refine ⟨_, (pss_cons (ps_if (PW.pt (pw_or (pt_not (pt_val (pe_callB call_isi (by rfl) T.z_isinstance (by decide +kernel) (pa_cons (pv 1) (pa_cons (pe_bltn (v := .ty "tuple") (by rfl) T.z_tuple (by decide +kernel) rfl) pa_nil))))) (pw_or1 (pt_not (pt_chain op_le op_le pe_int (pe_callB call_len_seq (by rfl) T.z_len PySem.boot_len (pa_cons (pv 1) pa_nil)) (pe_glob (v := .int 60) (by rfl) T.m_MOST_STATES ⟨_, rfl⟩))))))
      (pss_one (ps_ret pe_bl))
      pss_nil)
    (pss_one (ps_ret (pe_callB (cr_all rfl) (by rfl) T.z_all (by decide +kernel) (pa_cons (pe_lc (own := [("state", 2)]) (g := gName 2) (by rfl) sc_are_states.nd (pi_tup (pv 1)) (blkOk_by (own := [("state", 2)]) (N := N_are_states) (sc := defScope s_are_states) (by decide +kernel)) (fun _ _ _ _ _ => pg_name (i := 2) sc_are_states.nd rfl (by first | exact Or.inl rfl | exact Or.inr rfl)) (fun _ _ _ _ _ => pts_nil) (fun _ _ _ _ _ => (pe_call (ok_is_state T) (hr.mono (by decide)) (by rfl) T.g__is_state T.F__is_state.kp T.b__is_state .nil pass0 (pa_cons (pv 0) (pa_cons (pe_callB (call_len_seq : CallR _ _ (rLenSeq K)) (by rfl) T.z_len PySem.boot_len (pa_cons (pv 1) pa_nil)) (pa_cons (pv 2) pa_nil)))))) pa_nil))))), ?_⟩
    obtain ⟨s, v, d, rfl, hd, hz, hs4, q⟩ := h
    refine ⟨v, rfl, v, .ty "tuple", _, _, _, rfl, .ty "tuple", hd.ty, kTup d, _, rfl, ?_⟩
    cases e : isTup d with
    | false =>
      rw [statesB_tup e] at q
      exact iteT (iteT (q H (Same.refl H)))
    | true =>
      obtain ⟨a, xs, ds, rfl, rfl, ht, ha⟩ := dq_tup hd e
      have q : ∀ H', Same H H' → Q (.bl ((decide (1 ≤ ds.length) && decide (ds.length ≤ 60)) && ds.all (stateB s (ds.length : Nat)))) H' := q
      have hl := ha.length
      refine iteF ⟨_, rfl, a, xs, rfl, .inr ht, 1, _, rfl, rfl, _, rfl, ?_⟩
      by_cases e1 : 1 ≤ ds.length
      · rw [decide_eq_true e1, tt_and] at q
        rw [decide_eq_true (show (1 : Int) ≤ ((xs.length : Nat) : Int) by omega)]
        refine iteT ⟨_, _, rfl, rfl, _, rfl, ?_⟩
        by_cases e2 : ds.length ≤ 60
        · rw [decide_eq_true e2, tt_and] at q
          rw [decide_eq_true (show ((xs.length : Nat) : Int) ≤ 60 by omega)]
          refine iteF ⟨_, rfl, a, rfl, ⟨_, ht⟩, fun D nD => ?_⟩
          refine lc_bools (stateB s (ds.length : Nat)) ht ha nD (by omega) (fun x d H1 Nxt Els s1 hx hm k => ?_) (fun H1 s1 hD => ?_)
          · refine ⟨rfl, _, rfl, _, rfl, a, xs, rfl, .inr (seqT s1 ht), x, rfl, s, _, x, d, ?_, hx, light_tup hz d hm, hs4, k⟩
            rw [hl] <;> rfl
          · refine ⟨D, _, rfl, SqL.of hD, ?_⟩
            have ea : (ds.map (stateB s (ds.length : Nat))).all id = ds.all (stateB s (ds.length : Nat)) := by
              rw [List.all_map]
              rfl
            rw [ea]
            exact q H1 s1
        · rw [decide_eq_false e2, ff_and] at q
          rw [decide_eq_false (show ¬ ((xs.length : Nat) : Int) ≤ 60 by omega)]
          exact iteT (q H (Same.refl H))
      · rw [decide_eq_false e1, ff_and, ff_and] at q
        rw [decide_eq_false (show ¬ (1 : Int) ≤ ((xs.length : Nat) : Int) by omega)]
        exact iteF ⟨_, rfl, iteT (q H (Same.refl H))⟩
end
end K12

namespace K12
open PySem PySem.Spec PyProof.Rows L2 G Lk
section
variable {P : Program} {w : World} {K : PySem.W.Frag} {mg : Str → Option Value} {base : Heap}
def sp_is_expander (K : PySem.W.Frag) : Sp := fun vs H Q _ => ∃ (v : V) (d : PyData), vs = [v] ∧ Dq K H v d ∧ Light d ∧ ∀ H', Same H H' → Q (.bl (expB d)) H'
/-- def is_expander(thing): -/
theorem ok_is_expander (T : Tx K mg) : FnOk P w K mg base CX0 6 T.a_is_expander T.fd_is_expander ["thing"] (sp_is_expander K) := by
  refine T.F_is_expander.ok sc_is_expander (fun vs H Q E h => ?_) (fun cdv A outer s H vs Q E hr h => ?_)
  · obtain ⟨_, _, rfl, _⟩ := h
    rfl
  · refine ⟨_, (pss_cons (ps_if (PW.pt (pw_or (pt_not (pt_val (pe_callB call_isi (by rfl) T.z_isinstance (by decide +kernel) (pa_cons (pv 0) (pa_cons (pe_bltn (v := .ty "tuple") (by rfl) T.z_tuple (by decide +kernel) rfl) pa_nil))))) (pw_or1 (pt_cmpR op_ne (pe_callB call_len_seq (by rfl) T.z_len PySem.boot_len (pa_cons (pv 0) pa_nil)) pe_int (nomark _)))))
      (pss_one (ps_ret pe_bl))
      pss_nil)
    (pss_cons (ps_asg (pv 0) (pg_tup rfl (pgs_cons (pg_name (i := 1) sc_is_expander.nd rfl (by first | exact Or.inl rfl | exact Or.inr rfl)) (pgs_cons (pg_name (i := 2) sc_is_expander.nd rfl (by first | exact Or.inl rfl | exact Or.inr rfl)) (pgs_cons (pg_name (i := 3) sc_is_expander.nd rfl (by first | exact Or.inl rfl | exact Or.inr rfl)) pgs_nil)))))
    (pss_one (ps_ret (pe_and (pe_call (ok_are_signs T) (hr.mono (by decide)) (by rfl) T.g__are_signs T.F__are_signs.kp T.b__are_signs .nil pass0 (pa_cons (pv 1) pa_nil)) (pe_and (pe_call (ok_is_short_word T) (hr.mono (by decide)) (by rfl) T.g__is_short_word T.F__is_short_word.kp T.b__is_short_word .nil pass0 (pa_cons (pv 1) (pa_cons (pv 2) pa_nil))) (pe_one (pe_call (ok_are_states T) (hr.mono (by decide)) (by rfl) T.g__are_states T.F__are_states.kp T.b__are_states .nil pass0 (pa_cons (pv 1) (pa_cons (pv 3) pa_nil)))))))))), ?_⟩
    obtain ⟨v, d, rfl, hd, hz, q⟩ := h
    refine ⟨v, rfl, v, .ty "tuple", _, _, _, rfl, .ty "tuple", hd.ty, kTup d, _, rfl, ?_⟩
    cases e : isTup d with
    | false =>
      rw [expB_tup e] at q
      exact iteT (iteT (q H (Same.refl H)))
    | true =>
      obtain ⟨a, xs, ds, rfl, rfl, ht, ha⟩ := dq_tup hd e
      refine iteF ⟨_, rfl, a, xs, rfl, .inr ht, rfl, _, rfl, ?_⟩
      rw [Lk.ne_int]
      by_cases hl : xs.length = 3
      · rw [decide_eq_true (show ((xs.length : Nat) : Int) = 3 by omega)]
        refine iteF ?_
        obtain ⟨x, y, z, d1, d2, d3, rfl, rfl, h1, h2, h3⟩ := ha.three hl
        have hw := light_tup hz
        refine ⟨_, rfl, a, _, rfl, ht, rfl, x, _, rfl, y, _, rfl, z, _, rfl, rfl, ?_⟩
        refine ⟨x, rfl, x, d1, rfl, h1, hw d1 (by simp), fun H1 s1 => ⟨_, rfl, ?_⟩⟩
        cases e1 : isStr d1 with
        | false =>
          rw [expB_first e1] at q
          have e2 : signsB d1 = false := by
            cases d1 with
            | str _ => cases e1
            | _ => rfl
          rw [e2]
          exact iteF (q H1 s1)
        | true =>
          obtain ⟨s, rfl, rfl⟩ := dq_str h1 e1
          have q : ∀ H', Same H H' → Q (.bl (signsB (.str s) && (shortB s d2 && statesB s d3))) H' := q
          cases e2 : signsB (.str s) with
          | false =>
            rw [e2] at q
            exact iteF (q H1 s1)
          | true =>
            have h4 : s.length ≤ 4 := signs_four e2
            rw [e2, tt_and] at q
            refine iteT ⟨_, rfl, y, rfl, s, y, d2, rfl, h2.mono s1, hw d2 (by simp), _, rfl, ?_⟩
            cases e3 : shortB s d2 with
            | false =>
              rw [e3] at q
              exact iteF (q H1 s1)
            | true =>
              rw [e3, tt_and] at q
              exact iteT ⟨_, rfl, z, rfl, s, z, d3, rfl, h3.mono s1, hw d3 (by simp), h4, fun H2 s2 => q H2 (Same.trans s1 s2)⟩
      · rw [decide_eq_false (show ¬ ((xs.length : Nat) : Int) = 3 by omega)]
        rw [expB_len (fun z => hl (ha.length.trans z))] at q
        exact iteT (q H (Same.refl H))
end
end K12

namespace K12
open PySem PySem.Spec PyProof.Rows L2 G Lk
section
variable {P : Program} {w : World} {K : PySem.W.Frag} {mg : Str → Option Value} {base : Heap}
def sp_need_expander (K : PySem.W.Frag) (mg : Str → Option Value) (T : Tx K mg) : Sp := fun vs H Q E => ∃ (v : V) (d : PyData), vs = [v] ∧ Dq K H v d ∧ Light d ∧
  (expB d = false → ∀ H', Same H H' → E (.ref T.a_NoExpander) none H') ∧ (expB d = true → ∀ H', Same H H' → Q .non H')
/-- def need_expander(expander): -/
theorem ok_need_expander (T : Tx K mg) : FnOk P w K mg base (L2.CX P w) 7 T.a_need_expander T.fd_need_expander ["expander"] (sp_need_expander K mg T) := by
  refine T.F_need_expander.okX sc_need_expander (fun vs H Q E h => ?_) (fun cdv A outer s H vs Q E hr h => ?_)
  · obtain ⟨_, _, rfl, _⟩ := h
    rfl
  · refine ⟨_, (pss_one (ps_if (pt_not (pt_val (pe_call (ok_is_expander T) (hr.mono (by decide)) (by rfl) T.g_is_expander T.F_is_expander.kp T.b_is_expander .nil pass0 (pa_cons (pv 0) pa_nil))))
      (pss_one (ps_raise rfl (takes_of rfl rfl rfl rfl) (pmk_own PySem.F.excBase_ValueError T.xi_NoExpander T.g_NoExpander T.k_NoExpander (raises_own T.b_NoExpander T.t_NoExpander) (by rfl))))
      pss_nil)), ?_⟩
    obtain ⟨v, d, rfl, hd, hz, kE, k⟩ := h
    refine ⟨_, rfl, v, d, rfl, hd, hz, fun H1 s1 => ⟨_, rfl, ?_⟩⟩
    cases e : expB d with
    | false => exact iteT (kE e H1 s1)
    | true => exact iteF (k e H1 s1)
end
end K12

namespace K12
open PySem PySem.Spec PyProof.Rows L2 G Lk
section
variable {P : Program} {w : World} {K : PySem.W.Frag} {mg : Str → Option Value} {base : Heap}
/-- is_text of a text and data -/
def isText (s : Str) : PyData → Bool
  | .str z => allIn s z && decide (z.length ≤ 200)
  | _ => false
def sp_is_text (K : PySem.W.Frag) : Sp := fun vs H Q _ => ∃ (s : Str) (v : V) (d : PyData), vs = [.str s, v] ∧ Dq K H v d ∧ (∀ z, d = .str z → z.length ≤ sizeLine) ∧ Q (.bl (isText s d)) H
/-- def is_text(signs, thing): -/
theorem ok_is_text (T : Tx K mg) : FnOk P w K mg base CX0 2 T.a_is_text T.fd_is_text ["signs", "thing"] (sp_is_text K) := by
  refine T.F_is_text.ok sc_is_text (fun vs H Q E h => ?_) (fun cdv A outer s H vs Q E hr h => ?_)
  · obtain ⟨_, _, _, rfl, _⟩ := h
    rfl
  · refine ⟨_, (pss_one (ps_ret (pe_and (pe_call (ok_is_word T) (hr.mono (by decide)) (by rfl) T.g_is_word T.F_is_word.kp T.b_is_word .nil pass0 (pa_cons (pv 0) (pa_cons (pv 1) pa_nil))) (pe_one (pe_cmpR op_le (pe_callB call_len_str (by rfl) T.z_len PySem.boot_len (pa_cons (pv 1) pa_nil)) (pe_glob (v := .int 200) (by rfl) T.m_MOST_TEXT ⟨_, rfl⟩) (nomark _)))))), ?_⟩
    obtain ⟨s, v, d, rfl, hd, hz, q⟩ := h
    refine ⟨.str s, rfl, v, rfl, s, v, d, rfl, hd, hz, _, rfl, ?_⟩
    cases hd with
    | str z =>
      have q : Q (.bl (allIn s z && decide (z.length ≤ 200))) H := q
      show if allIn s z = true then _ else _
      cases e : allIn s z with
      | false =>
        rw [e] at q
        exact iteF q
      | true =>
        rw [e] at q
        refine iteT ⟨.str z, rfl, z, rfl, hz z rfl, _, _, rfl, rfl, ?_⟩
        have e2 : decide (((z.length : Nat) : Int) ≤ 200) = (true && decide (z.length ≤ 200)) := by
          rw [Bool.true_and]
          exact decide_eq_decide.mpr ⟨fun x => by omega, fun x => by omega⟩
        show Q (.bl (decide (((z.length : Nat) : Int) ≤ 200))) H
        rw [e2]
        exact q
    | non => exact iteF q
    | bl b => exact iteF q
    | int i => exact iteF q
    | lst _ _ => exact iteF q
    | tup _ _ => exact iteF q
    | emp _ => exact iteF q
end
end K12

namespace K12
open PySem PySem.Spec PyProof.Rows L2 G Lk
section
variable {P : Program} {w : World} {K : PySem.W.Frag} {mg : Str → Option Value} {base : Heap}
def sp_need_text (K : PySem.W.Frag) (mg : Str → Option Value) (T : Tx K mg) : Sp := fun vs H Q E => ∃ (z : Str) (v : V) (d : PyData), vs = [.str z, v] ∧ Dq K H v d ∧ (∀ w, d = .str w → w.length ≤ sizeLine) ∧
  (isText z d = false → E (.ref T.a_NoText) none H) ∧ (isText z d = true → Q .non H)
theorem text_str {z : Str} {d : PyData} (h : isText z d = true) : ∃ t, d = .str t := by
  cases d with
  | str t => exact ⟨t, rfl⟩
  | _ => cases h
/-- def need_text(signs, thing): -/
theorem ok_need_text (T : Tx K mg) : FnOk P w K mg base (L2.CX P w) 3 T.a_need_text T.fd_need_text ["signs", "thing"] (sp_need_text K mg T) := by
  refine T.F_need_text.okX sc_need_text (fun vs H Q E h => ?_) (fun cdv A outer s H vs Q E hr h => ?_)
  · obtain ⟨_, _, _, rfl, _⟩ := h
    rfl
  · refine ⟨_, (pss_one (ps_if (pt_not (pt_val (pe_call (ok_is_text T) (hr.mono (by decide)) (by rfl) T.g_is_text T.F_is_text.kp T.b_is_text .nil pass0 (pa_cons (pv 0) (pa_cons (pv 1) pa_nil)))))
      (pss_one (ps_raise rfl (takes_of rfl rfl rfl rfl) (pmk_own PySem.F.excBase_ValueError T.xi_NoText T.g_NoText T.k_NoText (raises_own T.b_NoText T.t_NoText) (by rfl))))
      pss_nil)), ?_⟩
    obtain ⟨z, v, d, rfl, hd, hz, kE, k⟩ := h
    refine ⟨_, rfl, _, rfl, z, v, d, rfl, hd, hz, _, rfl, ?_⟩
    cases e : isText z d with
    | false => exact iteT (kE e)
    | true => exact iteF (k e)
end
end K12

namespace K12
open PySem PySem.Spec PyProof.Rows L2 G Lk
section
variable {P : Program} {w : World} {K : PySem.W.Frag} {mg : Str → Option Value} {base : Heap}
/-- the move for a call -/
def IsMove (d x y m : PyData) : Prop := ∃ (z f : Str) (ss : List PyData) (i : Nat) (c : Str) (ms : List PyData) (l : PyData) (k : Nat) (rest : List Nat), d = .tuple [.str z, .str f, .tuple ss] ∧ x = .int (i : Int) ∧ y = .str c ∧
  ss[i]? = some (.tuple [.tuple ms, l]) ∧ Builtin.Str.occurrences z c 0 z.length 1 = k :: rest ∧ ms[k]? = some m
def sp_move_of (K : PySem.W.Frag) : Sp := fun vs H Q _ => ∃ (v x y : V) (d dx dy m : PyData), vs = [v, x, y] ∧ Dq K H v d ∧ Dq K H x dx ∧ Dq K H y dy ∧ IsMove d dx dy m ∧ ∀ r, Dq K H r m → Q r H
/-- def move_of(expander, state, sign): -/
theorem ok_move_of (T : Tx K mg) : FnOk P w K mg base CX0 1 T.a_move_of T.fd_move_of ["expander", "state", "sign"] (sp_move_of K) := by
  refine T.F_move_of.ok sc_move_of (fun vs H Q E h => ?_) (fun cdv A outer s H vs Q E hr h => ?_)
  · obtain ⟨_, _, _, _, _, _, _, rfl, _⟩ := h
    rfl
  · refine ⟨_, (pss_one (ps_ret (pe_ix ix_tup (pe_ix ix_tup (pe_ix ix_tup (pe_ix ix_tup (pv 0) pe_int (fun _ _ => rfl)) (pv 1) (fun _ _ => rfl)) pe_int (fun _ _ => rfl)) (pe_bm PySem.F.plainAttrs_str PySem.F.slot_str_index PySem.F.type_str_index mt_sindex (pe_ix ix_tup (pv 0) pe_int (fun _ _ => rfl)) (pa_cons (pv 2) pa_nil)) (fun _ _ => rfl)))), ?_⟩
    obtain ⟨v, x, y, d, dx, dy, m, rfl, hv, hx, hy, ⟨z, f, ss, i, c, ms, l, k, rest, rfl, rfl, rfl, e1, e2, e3⟩, q⟩ := h
    obtain ⟨a, t, xs, rfl, ht, hts, hA⟩ := expV_of hv
    obtain rfl := hx.intV
    obtain rfl := hy.strV
    obtain ⟨s, ex, hs⟩ := hA.ix e1
    obtain ⟨p, us, rfl, hp, hq⟩ := hs.items
    obtain ⟨mv, us', rfl, hM, hq⟩ := hq.one
    obtain ⟨lv, us'', rfl, _, hq⟩ := hq.one
    obtain rfl := hq.none
    obtain ⟨m0, mss, rfl, hm0, hms⟩ := hM.items
    obtain ⟨r, er, hr'⟩ := hms.ix e3
    refine ⟨_, rfl, a, _, 2, _, rfl, rfl, ht, rfl, _, rfl, t, xs, (i : Int), _, rfl, rfl, hts, atI_nat ex, p, _, 0, _, rfl, rfl, hp, rfl, _, rfl, a, _, 0, _, rfl, rfl, ht, rfl, rfl, _, rfl, z, c, k, rest, rfl, rfl, e2, m0, mss, (k : Int), _, rfl, rfl, hm0, atI_nat er, q r hr'⟩
end
end K12

namespace K12
open PySem PySem.Spec PyProof.Rows L2 G Lk
section
variable {P : Program} {w : World} {K : PySem.W.Frag} {mg : Str → Option Value} {base : Heap}
/-- the value of a next stand, or None -/
def optD : Option (Str × Str × Nat) → PyData
  | some p => standD p
  | none => .none
def sp_next_stand (K : PySem.W.Frag) : Sp := fun vs H Q _ => ∃ (v st : V) (z f a b : Str) (s : Nat) (ss : List PyData), vs = [v, st] ∧ Dq K H v (.tuple [.str z, .str f, .tuple ss]) ∧ Dq K H st (standD (a, b, s)) ∧ StatesOk z ss ∧
  s < ss.length ∧ allIn z b = true ∧ a.length ≤ 4000000 ∧ b.length ≤ 4000000 ∧ ∀ H' r, Same H H' → Dq K H' r (optD (nextD z ss a b s)) → Q r H'
/-- def _next_stand(expander, stand): -/
theorem ok_next_stand (T : Tx K mg) : FnOk P w K mg base CX0 2 T.a__next_stand T.fd__next_stand ["expander", "stand"] (sp_next_stand K) := by
  refine T.F__next_stand.ok sc_next_stand (fun vs H Q E h => ?_) (fun cdv A outer s H vs Q E hr h => ?_)
  · obtain ⟨_, _, _, _, _, _, _, _, rfl, _⟩ := h
    rfl
  · refine ⟨_, (pss_cons (ps_asg (pv 1) (pg_tup rfl (pgs_cons (pg_name (i := 3) sc_next_stand.nd rfl (by first | exact Or.inl rfl | exact Or.inr rfl)) (pgs_cons (pg_name (i := 4) sc_next_stand.nd rfl (by first | exact Or.inl rfl | exact Or.inr rfl)) (pgs_cons (pg_name (i := 5) sc_next_stand.nd rfl (by first | exact Or.inl rfl | exact Or.inr rfl)) pgs_nil)))))
    (pss_cons (ps_if (pt_cmpR op_eq (pv 4) pe_str (nomark _))
      (pss_one (ps_ret pe_non))
      pss_nil)
    (pss_cons (ps_set (i := 2) sc_next_stand.nd rfl (by first | exact Or.inl rfl | exact Or.inr rfl) (pe_call (ok_move_of T) (hr.mono (by decide)) (by rfl) T.g_move_of T.F_move_of.kp T.b_move_of .nil pass0 (pa_cons (pv 0) (pa_cons (pv 5) (pa_cons (pe_ix ix_str (pv 4) pe_int (fun _ _ => rfl)) pa_nil)))))
    (pss_cons (ps_if (pt_cmpR op_isN (pv 2) pe_non (nomark _))
      (pss_one (ps_ret pe_non))
      pss_nil)
    (pss_one (ps_ret (pe_tup (pa_cons (pe_op op_add_str (pv 3) (pe_ix ix_tup (pv 2) pe_int (fun _ _ => rfl))) (pa_cons (pe_op op_add_str (pe_ix ix_tup (pv 2) pe_int (fun _ _ => rfl)) (pe_slice sl_str (pv 4) (po_some pe_int) po_none)) (pa_cons (pe_ix ix_tup (pv 2) pe_int (fun _ _ => rfl)) pa_nil)))))))))), ?_⟩
    obtain ⟨v, st, z, f, a, b, s, ss, rfl, hv, hst, ok, hs, hb, la, lb, q⟩ := h
    obtain ⟨p, rfl, hp⟩ := standV hst
    refine ⟨_, rfl, p, _, rfl, hp, rfl, _, _, rfl, _, _, rfl, _, _, rfl, rfl, ?_⟩
    refine ⟨_, rfl, rfl, _, rfl, ?_⟩
    rcases str_cases b with rfl | ⟨c, r, rfl⟩
    · refine if_true rfl ?_
      exact q H .non (Same.refl H) .non
    · refine if_false (decide_eq_false fun e => ?_) ?_
      · injection e with e
        exact tx_cons_ne e
      have hc : c ∈ z.cps.toList := allIn_mem hb c (by rw [tx_codes]; exact List.mem_cons_self ..)
      obtain ⟨ms, l, k, rest, e1, e2, e3, e4⟩ := place_in ok hs hc
      have lbz : (tx (c :: r)).length ≤ sizeLine := Nat.le_trans lb (by decide)
      refine ⟨_, rfl, _, rfl, _, rfl, tx (c :: r), _, c, rfl, rfl, lbz, atI_nat (j := 0) (by rw [tx_codes]; rfl), ?_⟩
      refine ⟨v, _, _, _, _, _, moveD z ss s c, rfl, hv, .int _, .str _, ⟨z, f, ss, s, Ls.one c, ms, l, k, rest, rfl, rfl, rfl, e1, e2, e3⟩, fun m hm => ?_⟩
      rw [next_cons] at q
      refine ⟨_, rfl, rfl, _, rfl, ?_⟩
      generalize moveD z ss s c = md at q hm e4
      rcases moveB_parts e4 with rfl | ⟨x, y, g, rfl, ⟨hx, lx⟩, ⟨hy, ly⟩, hg⟩
      · obtain rfl := hm.noneV
        exact if_true rfl (q H .non (Same.refl H) .non)
      · obtain ⟨pm, rfl, hpm⟩ := standV (a := x) (b := y) (s := g) hm
        refine if_false rfl ?_
        refine ⟨_, rfl, _, rfl, pm, _, 0, _, rfl, rfl, hpm, rfl, a, x, rfl, rfl, Nat.le_trans (Nat.add_le_add la lx) (by decide), ?_⟩
        refine ⟨_, rfl, pm, _, 1, _, rfl, rfl, hpm, rfl, _, rfl, _, rfl, tx (c :: r), rfl, lbz, ?_⟩
        have ec : cutS (tx (c :: r)) (some 1) none = tx r := by
          rw [show (some (1 : Int)) = some ((1 : Nat) : Int) from rfl, cutS_from, tx_codes]
          rfl
        have lr : (tx r).length ≤ 4000000 := by
          rw [tx_len] at lb ⊢
          exact Nat.le_trans (Nat.le_succ _) lb
        rw [ec]
        refine ⟨y, tx r, rfl, rfl, Nat.le_trans (Nat.add_le_add ly lr) (by decide), _, rfl, pm, _, 2, _, rfl, rfl, hpm, rfl, (by show 3 ≤ sizeLine; decide), fun p2 np2 => ?_⟩
        refine q _ _ (same_new np2) ?_
        show Dq K _ (.ref p2) (.tuple [.str (a ++ x), .str (y ++ tx r), .int (((g : Int).toNat : Nat) : Int)])
        rw [Int.toNat_natCast]
        exact .tup (SqT.of upd_same) (.cons (.str _) (.cons (.str _) (.cons (.int _) .nil)))
end
end K12

namespace K12
open PySem PySem.Spec PyProof.Rows L2 G Lk
section
variable {P : Program} {w : World} {K : PySem.W.Frag} {mg : Str → Option Value} {base : Heap}
/-- the first stands of a run -/
def runD (z : Str) (ss : List PyData) : Nat → Str × Str × Nat → List (Str × Str × Nat)
  | 0, _ => []
  | n + 1, p => p :: match nextD z ss p.1 p.2.1 p.2.2 with
    | some q => runD z ss n q
    | none => []
def sp_stands (K : PySem.W.Frag) (mg : Str → Option Value) (T : Tx K mg) : Sp := fun vs H Q E => ∃ (v x : V) (n : Nat) (d dx : PyData), vs = [v, x, .int (n : Int)] ∧ Dq K H v d ∧ Dq K H x dx ∧ Light d ∧ Light dx ∧ n ≤ 1000 ∧
  (expB d = false → ∀ H', Same H H' → E (.ref T.a_NoExpander) none H') ∧
  (∀ z f ss, d = .tuple [.str z, .str f, .tuple ss] → expB d = true → (isText z dx = false → ∀ H', Same H H' → E (.ref T.a_NoText) none H') ∧
    ∀ t, dx = .str t → isText z dx = true → ∀ H' (r : Addr), Same H H' → H r = none → (∃ us, H' r = some (.lst us) ∧ DqAll K H' us ((runD z ss n (f, t, 0)).map standD)) → Q (.ref r) H')
section
variable {T : Tx K mg} {H : Hp} {Q : VK} {v : V} {z f t : Str} {ss : List PyData}
theorem stands_k {n : Nat} (hn : n ≤ 1000) (hd : Dq K H v (.tuple [.str z, .str f, .tuple ss])) (lE : Light (.tuple [.str z, .str f, .tuple ss])) (he : expB (.tuple [.str z, .str f, .tuple ss]) = true) (ht : allIn z t = true) (lt : t.length ≤ 200)
    (k : ∀ H' (r : Addr), Same H H' → H r = none → (∃ us, H' r = some (.lst us) ∧ DqAll K H' us ((runD z ss n (f, t, 0)).map standD)) → Q (.ref r) H') : sp_stands K mg T [v, .str t, .int (n : Int)] H Q E0 := by
  have e1 : isText z (.str t) = true := by
    show (allIn z t && decide (t.length ≤ 200)) = true
    rw [ht, decide_eq_true lt]
    rfl
  refine ⟨v, .str t, n, _, .str t, rfl, hd, .str t, lE, by unfold Light; simp only [PyData.weight]; exact Nat.le_trans lt (by decide), hn, fun e => (Bool.false_ne_true (e.symm.trans he)).elim, fun z' f' ss' e _ => ?_⟩
  cases e
  refine ⟨fun e => (Bool.false_ne_true (e.symm.trans e1)).elim, fun t' et _ H' r s hn hr => ?_⟩
  cases et
  exact k H' r s hn hr
end
/-- def stands(expander, text, *, most=100): -/
theorem ok_stands (T : Tx K mg) : FnOk P w K mg base (L2.CX P w) 8 T.a_stands T.fd_stands ["expander", "text", "most"] (sp_stands K mg T) := by
  refine T.F_stands.okX sc_stands (fun vs H Q E h => ?_) (fun cdv A outer s H vs Q E hr h => ?_)
  · obtain ⟨_, _, _, _, _, rfl, _⟩ := h
    rfl
  · refine ⟨_, (pss_cons (ps_expr (pe_call (ok_need_expander T) (hr.mono (by decide)) (by rfl) T.g_need_expander T.F_need_expander.kp T.b_need_expander .nil (passes_call (takes_of rfl rfl rfl rfl) (fun _ _ _ _ h => h)) (pa_cons (pv 0) pa_nil)))
    (pss_cons (ps_expr (pe_call (ok_need_text T) (hr.mono (by decide)) (by rfl) T.g_need_text T.F_need_text.kp T.b_need_text .nil (passes_call (takes_of rfl rfl rfl rfl) (fun _ _ _ _ h => h)) (pa_cons (pe_ix ix_tup (pv 0) pe_int (fun _ _ => rfl)) (pa_cons (pv 1) pa_nil))))
    (pss_cons (ps_set (i := 3) sc_stands.nd rfl (by first | exact Or.inl rfl | exact Or.inr rfl) (pe_lst pa_nil))
    (pss_cons (ps_set (i := 4) sc_stands.nd rfl (by first | exact Or.inl rfl | exact Or.inr rfl) (pe_call (ok_first_stand T) (hr.mono (by decide)) (by rfl) T.g__first_stand T.F__first_stand.kp T.b__first_stand .nil pass0 (pa_cons (pv 0) (pa_cons (pv 1) pa_nil))))
    (pss_cons (ps_while (passes_of rfl) (PW.pt (pw_and (pt_cmpR op_notN (pv 4) pe_non (nomark _)) (pw_and1 (pt_cmpR op_lt (pe_callB call_len_seq (by rfl) T.z_len PySem.boot_len (pa_cons (pv 3) pa_nil)) (pv 2) (nomark _)))))
      (pss_cons (ps_expr (pe_bm PySem.F.plainAttrs_list PySem.F.slot_list_append PySem.F.type_list_append mt_append (pv 3) (pa_cons (pv 4) pa_nil)))
    (pss_one (ps_set (i := 4) sc_stands.nd rfl (by first | exact Or.inl rfl | exact Or.inr rfl) (pe_call (ok_next_stand T) (hr.mono (by decide)) (by rfl) T.g__next_stand T.F__next_stand.kp T.b__next_stand .nil pass0 (pa_cons (pv 0) (pa_cons (pv 4) pa_nil)))))))
    (pss_one (ps_ret (pv 3)))))))), ?_⟩
    obtain ⟨v, x, n, d, dx, rfl, hv, hx, hz, hzx, hn, kE, k⟩ := h
    refine ⟨_, rfl, v, d, rfl, hv, hz, kE, fun eb H1 s1 => ?_⟩
    obtain ⟨z, f, ss, rfl, hzs, ⟨hf, lf⟩, l1, l60, hss⟩ := expB_parts eb
    obtain ⟨k1, k2⟩ := k z f ss rfl eb
    have hv1 := hv.mono s1
    obtain ⟨a, t', xs, rfl, ht, hts, hA⟩ := expV_of hv1
    have ok : StatesOk z ss := ⟨hzs, l1, l60, hss⟩
    refine ⟨_, rfl, a, _, _, _, rfl, rfl, ht, rfl, _, rfl, z, x, dx, rfl, hx.mono s1, fun w e => by subst e; exact light_str hzx, fun e => k1 e H1 s1, fun e => ?_⟩
    obtain ⟨t, rfl⟩ := text_str e
    obtain rfl := hx.strV
    have et : allIn z t = true ∧ t.length ≤ 200 := by
      have e : (allIn z t && decide (t.length ≤ 200)) = true := e
      rw [Bool.and_eq_true, decide_eq_true_eq] at e
      exact e
    refine ⟨Nat.zero_le _, fun L nL => ?_⟩
    have s2 := same_new (o := .lst []) nL
    have nLH : H L = none := by
      cases e0 : H L with
      | none => rfl
      | some o =>
        rw [s1 _ _ e0] at nL
        cases nL
    refine ⟨_, rfl, _, rfl, _, z, f, t, ss, rfl, hv1.mono s2, fun H3 r s3 hr => ?_⟩
    have e3 : H3 L = some (.lst []) := s3 _ _ upd_same
    have s13 := Same.trans s2 s3
    have s13 := Same.trans s2 s3
    have st0 : Stood z ss.length 2000 (f, t, 0) := ⟨lf, hf, Nat.le_trans et.2 (by decide), et.1, by show 0 < ss.length; omega⟩
    have fl : ∀ q : Str × Str × Nat, hasList (standD q) = false := fun q => by
      unfold standD
      simp [hasList, hasListAll]
    have ofl : ∀ q : Option (Str × Str × Nat), hasList (optD q) = false := fun q => by
      cases q with
      | none => simp [optD, hasList]
      | some q => exact fl q
    refine while_by (fun σ H' => ∃ (us : List V) (pre : List (Str × Str × Nat)) (cur : Option (Str × Str × Nat)) (cv : V), σ = [some (.ref a), some (.str t), some (.int (n : Int)), some (.ref L), some cv] ∧ Same H1 H' ∧ H' L = some (.lst us) ∧ DqAll K (sans H' L) us (pre.map standD) ∧
      Dq K (sans H' L) cv (optD cur) ∧ pre.length ≤ n ∧ runD z ss n (f, t, 0) = pre ++ (match cur with | some q => runD z ss (n - pre.length) q | none => []) ∧ ∀ q, cur = some q → Stood z ss.length (2000 + 2000 * pre.length) q)
      (fun _ H' => match H' L with | some (.lst us) => n - us.length | _ => 0) ?_ ?_ ?_
    · exact ⟨[], [], some (f, t, 0), r, rfl, s13, e3, .nil, hr.out e3 (fl _), Nat.zero_le _, rfl, fun q e => by cases e; exact st0⟩
    · rintro σ H4 ⟨us, pre, cur, cv, rfl, s4, e4, hA4, hc4, lp, er, hcur⟩
      have lus : us.length = pre.length := by
        rw [hA4.length, List.length_map]
      cases cur with
      | none =>
        obtain rfl := hc4.noneV
        refine ⟨_, rfl, rfl, _, rfl, ?_⟩
        refine if_false rfl ?_
        refine if_false rfl ⟨_, rfl, ?_⟩
        rw [List.append_nil] at er
        refine k2 t rfl e H4 L (Same.trans s1 s4) nLH ⟨us, e4, ?_⟩
        rw [er]
        exact hA4.mono sans_same
      | some p =>
        have hst := hcur p rfl
        obtain ⟨pa, pb, ps⟩ := p
        obtain ⟨pp, rfl, hpp⟩ := standV (hc4.mono sans_same)
        refine ⟨_, rfl, rfl, _, rfl, ?_⟩
        refine if_true rfl ?_
        refine ⟨_, rfl, L, us, rfl, .inl (SqL.of e4), _, rfl, _, _, rfl, rfl, _, rfl, ?_⟩
        by_cases hlt : us.length < n
        · rw [decide_eq_true (show ((us.length : Nat) : Int) < (n : Int) by omega)]
          refine if_true rfl ?_
          refine ⟨_, rfl, .inl ⟨rfl, _, SqL.of e4⟩, _, rfl, L, us, _, rfl, rfl, e4, Nat.lt_of_lt_of_le (show us.length < 1000 by omega) (by decide), ?_⟩
          have sm5 : Sm L H4 (upd H4 L (.lst (us ++ [.ref pp]))) := Sm.pot
          have e5 : upd H4 L (.lst (us ++ [.ref pp])) L = some (.lst (us ++ [.ref pp])) := upd_same
          have s5 : Same H1 (upd H4 L (.lst (us ++ [.ref pp]))) := fun b o eb => (upd_ne (ne_of_none eb nL)).trans (s4 _ _ eb)
          revert sm5 e5 s5
          generalize upd H4 L (.lst (us ++ [.ref pp])) = H5
          intro sm5 e5 s5
          have hc5 := hc4.mono sm5
          have ll : 2000 + 2000 * pre.length ≤ 4000000 := by omega
          refine ⟨_, rfl, _, rfl, _, .ref pp, z, f, pa, pb, ps, ss, rfl, hv1.mono s5, hc5.mono sans_same, ok, hst.state, hst.frontIn, Nat.le_trans hst.done ll, Nat.le_trans hst.front ll, fun H6 r6 s6 hr6 => ?_⟩
          have e6 := s6 _ _ e5
          refine ⟨⟨us ++ [.ref pp], pre ++ [(pa, pb, ps)], nextD z ss pa pb ps, r6, rfl, Same.trans s5 s6, e6, ?_, hr6.out e6 (ofl _), by rw [List.length_append]; show pre.length + 1 ≤ n; omega, ?_, fun q eq => ?_⟩, ?_⟩
          · rw [List.map_append]
            exact ((hA4.append (.cons hc4 .nil)).mono sm5).mono (Sm.of s6)
          · rw [er]
            have e7 : n - pre.length = (n - (pre.length + 1)) + 1 := by omega
            show pre ++ runD z ss (n - pre.length) (pa, pb, ps) = _
            rw [e7, List.append_assoc, List.length_append]
            rfl
          · have := hst.next ok eq
            rw [List.length_append]
            show Stood z ss.length (2000 + 2000 * (pre.length + 1)) q
            rw [Nat.mul_add]
            exact this
          · rw [e6, e4]
            show n - (us ++ [V.ref pp]).length < n - us.length
            rw [List.length_append]
            show n - (us.length + 1) < n - us.length
            omega
        · rw [decide_eq_false (show ¬ ((us.length : Nat) : Int) < (n : Int) by omega)]
          refine if_false rfl ⟨_, rfl, ?_⟩
          have e0 : n - pre.length = 0 := by omega
          rw [e0] at er
          have er : runD z ss n (f, t, 0) = pre ++ [] := er
          rw [List.append_nil] at er
          refine k2 t rfl e H4 L (Same.trans s1 s4) nLH ⟨us, e4, ?_⟩
          rw [er]
          exact hA4.mono sans_same
    · rintro σ H' Q1 Q2 hQ h
      obtain ⟨v, hv, e1, k, e2, h⟩ := h
      refine ⟨v, hv, e1, k, e2, ?_⟩
      cases k with
      | false => exact hQ _ _ h
      | true =>
        obtain ⟨u, hu, p, ys, e3, e4, v2, hv2, i, j, e5, e6, k2, e7, h⟩ := h
        exact ⟨u, hu, p, ys, e3, e4, v2, hv2, i, j, e5, e6, k2, e7, hQ _ _ h⟩
end
end K12

namespace K12
open PySem PySem.Spec PyProof.Rows L2 G Lk
section
variable {P : Program} {w : World} {K : PySem.W.Frag} {mg : Str → Option Value} {base : Heap}
section
variable {z : Str} {ss : List PyData}
/-- what is read from a stand on -/
noncomputable def outP (z : Str) (ss : List PyData) (p : Str × Str × Nat) : Option Wt := rd (valOf z ss) p.2.1.cps.toList (p.1.cps.toList, p.2.2)
theorem rd_pre {l : List Nat} {a b : Wt} {c : List Nat} (h : rd (valOf z ss) l a = some b) : rd (valOf z ss) l (c ++ a.1, a.2) = some (c ++ b.1, b.2) := by
  obtain ⟨w, k, e, hr⟩ := runs_rd h
  rw [hr.rd, e, List.append_assoc]
theorem step_out {p q : Str × Str × Nat} (h : nextD z ss p.1 p.2.1 p.2.2 = some q) : outP z ss q = outP z ss p := by
  obtain ⟨a, b, g⟩ := p
  unfold nextD at h
  unfold outP
  dsimp only at h ⊢
  generalize b.cps.toList = bl at h ⊢
  cases bl with
  | nil => cases h
  | cons c r =>
    dsimp only at h
    generalize em : moveD z ss g c = m at h
    unfold stepM at h
    split at h
    · rename_i x y s
      cases h
      have hm : mv z ss (g, c) = some (x.cps.toList, y.cps.toList, s.toNat) := by
        unfold mv
        rw [em]
        rfl
      have e1 : (y ++ tx r).cps.toList = y.cps.toList ++ r := by
        rw [cat_codes, tx_codes]
      have e2 : (a ++ x).cps.toList = a.cps.toList ++ x.cps.toList := cat_codes a x
      rw [e1, e2, rd_append]
      cases ev1 : valOf z ss (g, c) with
      | none =>
        rw [rd_none ev1]
        cases hy : rd (valOf z ss) y.cps.toList (a.cps.toList ++ x.cps.toList, s.toNat) with
        | none => rfl
        | some b1 =>
          obtain ⟨w, k, e, hr⟩ := runs_rd hy
          have := valOf_some.2 (Val.of (fun c v h => valOf_some.1 h) hm (hr.rd x.cps.toList))
          rw [ev1] at this
          cases this
      | some v =>
        obtain ⟨n, hn⟩ := valOf_some.1 ev1
        cases n with
        | zero => cases hn
        | succ n =>
          rw [ev_step hm] at hn
          have hn2 : rd (valOf z ss) y.cps.toList (x.cps.toList, s.toNat) = some v := rdl_mono (fun c v h => valOf_some.2 ⟨n, h⟩) hn
          have h3 := rd_pre (c := a.cps.toList) hn2
          rw [h3, rd_some ev1]
          rfl
    · cases h
theorem run_last : ∀ (n : Nat) (p : Str × Str × Nat), ∃ q, (runD z ss (n + 1) p)[(runD z ss (n + 1) p).length - 1]? = some q ∧ outP z ss q = outP z ss p ∧ 1 ≤ (runD z ss (n + 1) p).length ∧ ((runD z ss (n + 1) p).length < n + 1 → nextD z ss q.1 q.2.1 q.2.2 = none)
  | 0, p => by
    have e : runD z ss (0 + 1) p = [p] := by
      show p :: (match nextD z ss p.1 p.2.1 p.2.2 with | some q => runD z ss 0 q | none => []) = [p]
      cases nextD z ss p.1 p.2.1 p.2.2 <;> rfl
    rw [e]
    exact ⟨p, rfl, rfl, Nat.le_refl _, fun h => absurd h (by show ¬ 1 < 0 + 1; decide)⟩
  | n + 1, p => by
    cases en : nextD z ss p.1 p.2.1 p.2.2 with
    | none =>
      have e : runD z ss (n + 1 + 1) p = [p] := by
        show p :: (match nextD z ss p.1 p.2.1 p.2.2 with | some q => runD z ss (n + 1) q | none => []) = [p]
        rw [en]
      rw [e]
      exact ⟨p, rfl, rfl, Nat.le_refl _, fun _ => en⟩
    | some q =>
      have e : runD z ss (n + 1 + 1) p = p :: runD z ss (n + 1) q := by
        show p :: (match nextD z ss p.1 p.2.1 p.2.2 with | some q => runD z ss (n + 1) q | none => []) = _
        rw [en]
      obtain ⟨q', h1, h2, h3, h4⟩ := run_last n q
      rw [e]
      refine ⟨q', ?_, h2.trans (step_out en), ?_, fun h => h4 ?_⟩
      · rw [List.length_cons, Nat.add_sub_cancel]
        obtain ⟨k, hk⟩ : ∃ k, (runD z ss (n + 1) q).length = k + 1 := ⟨(runD z ss (n + 1) q).length - 1, by omega⟩
        rw [hk, Nat.add_sub_cancel] at h1
        rw [hk]
        exact h1
      · rw [List.length_cons]
        omega
      · rw [List.length_cons] at h
        omega
/-- where no step is left, nothing more is read, or nothing is told -/
theorem stop_out {q : Str × Str × Nat} (h : nextD z ss q.1 q.2.1 q.2.2 = none) (ne : q.2.1.cps.toList ≠ []) : outP z ss q = none := by
  obtain ⟨a, b, g⟩ := q
  unfold nextD at h
  unfold outP
  dsimp only at h ne ⊢
  generalize b.cps.toList = bl at h ne ⊢
  cases bl with
  | nil => exact absurd rfl ne
  | cons c r =>
    dsimp only at h
    generalize em : moveD z ss g c = m at h
    have hm : mv z ss (g, c) = none := by
      unfold mv
      rw [em]
      unfold stepM at h
      split at h
      · cases h
      · rename_i hx
        unfold mvM
        split
        · exact absurd rfl (hx _ _ _)
        · rfl
    refine rd_none (valOf_none.2 fun w ⟨n, hn⟩ => ?_)
    cases n with
    | zero => cases hn
    | succ n =>
      rw [ev_stop hm] at hn
      cases hn
theorem runD_stood' (ok : StatesOk z ss) : ∀ (n k : Nat) (p : Str × Str × Nat), Stood z ss.length k p → ∀ q ∈ runD z ss n p, Stood z ss.length (k + 2000 * n) q
  | 0, k, p, h, q, hq => (List.not_mem_nil hq).elim
  | n + 1, k, p, h, q, hq => by
    rcases List.mem_cons.mp (show q ∈ p :: _ from hq) with e | hq
    · rw [e]
      exact h.mono (by omega)
    · cases e : nextD z ss p.1 p.2.1 p.2.2 with
      | none =>
        rw [e] at hq
        exact (List.not_mem_nil hq).elim
      | some r =>
        rw [e] at hq
        have := runD_stood' ok n (k + 2000) r (h.next ok e) q hq
        exact this.mono (by omega)
end
def sp_Lrun_right (K : PySem.W.Frag) : Sp := fun vs H Q _ => ∃ (v : V) (z f t : Str) (ss : List PyData), vs = [v, .str t, outV (outOf z f ss t)] ∧ Dq K H v (.tuple [.str z, .str f, .tuple ss]) ∧ Light (.tuple [.str z, .str f, .tuple ss]) ∧ expB (.tuple [.str z, .str f, .tuple ss]) = true ∧ StatesOk z ss ∧ allIn z t = true ∧ t.length ≤ 200 ∧ allIn z f = true ∧ f.length ≤ 2000 ∧
  ∀ H', Same H H' → Q (.bl true) H'
/-- def _law_run_right(expander, text, due): -/
theorem ok_Lrun_right (T : Tx K mg) : FnOk P w K mg base CX0 9 T.a__law_run_right T.fd__law_run_right ["expander", "text", "due"] (sp_Lrun_right K) := by
  refine T.F__law_run_right.ok sc_Lrun_right (fun vs H Q E h => ?_) (fun cdv A outer s H vs Q E hr h => ?_)
  · obtain ⟨_, _, _, _, _, rfl, _⟩ := h
    rfl
  · refine ⟨_, (pss_cons (ps_set (i := 3) sc_Lrun_right.nd rfl (by first | exact Or.inl rfl | exact Or.inr rfl) (pe_callN (ok_stands T) (hr.mono (by decide)) (by rfl) T.g_stands T.F_stands.kp T.kb_stands passL (pa_cons (pv 0) (pa_cons (pv 1) pa_nil)) (pk_cons pe_int pk_nil)))
    (pss_cons (ps_asg (pe_ix ix_list (pv 3) (pe_op op_sub (pe_callB call_len_seq (by rfl) T.z_len PySem.boot_len (pa_cons (pv 3) pa_nil)) pe_int) (fun _ _ => rfl)) (pg_tup rfl (pgs_cons (pg_name (i := 4) sc_Lrun_right.nd rfl (by first | exact Or.inl rfl | exact Or.inr rfl)) (pgs_cons (pg_name (i := 5) sc_Lrun_right.nd rfl (by first | exact Or.inl rfl | exact Or.inr rfl)) (pgs_cons (pg_name (i := 6) sc_Lrun_right.nd rfl (by first | exact Or.inl rfl | exact Or.inr rfl)) pgs_nil)))))
    (pss_cons (ps_if (pt_cmpR op_eq (pv 5) pe_str (nomark _))
      (pss_cons (ps_set (i := 7) sc_Lrun_right.nd rfl (by first | exact Or.inl rfl | exact Or.inr rfl) (pe_ix ix_tup (pe_ix ix_tup (pe_ix ix_tup (pv 0) pe_int (fun _ _ => rfl)) (pv 6) (fun _ _ => rfl)) pe_int (fun _ _ => rfl)))
    (pss_one (ps_ret (pe_cmpR (op_eqD hr.units) (pv 2) (pe_ifExp (pt_cmpR op_isN (pv 7) pe_non (nomark _)) pe_non (pe_op op_add_str (pv 4) (pv 7))) (nomark _)))))
      pss_nil)
    (pss_one (ps_ret (pe_or (pe_cmpR op_eq (pe_callB call_len_seq (by rfl) T.z_len PySem.boot_len (pa_cons (pv 3) pa_nil)) pe_int (nomark _)) (pe_one (pe_cmpR op_isN (pv 2) pe_non (nomark _))))))))), ?_⟩
    obtain ⟨v, z, f, t, ss, rfl, hv, lE, he, ok, ti, tl, fi, fl, q⟩ := h
    have zc := ok.1.small.2.2
    refine ⟨_, rfl, _, rfl, ?_⟩
    dsimp only [tCons, tC, tNil, List.cons_append, List.nil_append]
    refine ⟨rfl, rfl, stands_k (n := 60) (by decide) hv lE he ti tl fun H1 r s1 nr hr1 => ?_⟩
    obtain ⟨us, hr1, hus⟩ := hr1
    obtain ⟨qs, e1, e2, e3, e4⟩ := run_last (z := z) (ss := ss) 59 (f, t, 0)
    have st0 : Stood z ss.length 2000 (f, t, 0) := ⟨fl, fi, Nat.le_trans tl (by decide), ti, ok.2.1⟩
    have stq := runD_stood' ok 60 2000 _ st0 qs (List.mem_of_getElem? e1)
    have hlu : us.length = (runD z ss (59 + 1) (f, t, 0)).length := by
      rw [hus.length, List.length_map]
    obtain ⟨sv, hsv, hq⟩ := hus.ix (i := (runD z ss (59 + 1) (f, t, 0)).length - 1) (d := standD qs) (by rw [List.getElem?_map, e1]; rfl)
    rw [← hlu] at hsv e3 e4
    obtain ⟨p, vs, rfl, hp, hq⟩ := (show Dq K H1 sv (.tuple [.str qs.1, .str qs.2.1, .int (qs.2.2 : Int)]) from hq).items
    obtain ⟨v1, vs1, rfl, h1, hq⟩ := hq.one
    obtain ⟨v2, vs2, rfl, h2, hq⟩ := hq.one
    obtain ⟨v3, vs3, rfl, h3, hq⟩ := hq.one
    obtain rfl := hq.none
    obtain rfl := h1.strV
    obtain rfl := h2.strV
    obtain rfl := h3.intV
    have ei : ((us.length : Nat) : Int) - 1 = ((us.length - 1 : Nat) : Int) := by omega
    refine ⟨_, rfl, _, rfl, r, us, rfl, .inl (SqL.of hr1), _, _, rfl, rfl, r, us, _, .ref p, rfl, rfl, SqL.of hr1, (by show atI us (((us.length : Nat) : Int) - 1) = _; rw [ei]; exact atI_nat hsv), p, _, rfl, hp, rfl, _, _, rfl, _, _, rfl, _, _, rfl, rfl, ?_⟩
    refine ⟨_, rfl, rfl, _, rfl, ?_⟩
    have eout : rd (valOf z ss) t.cps.toList (f.cps.toList, 0) = outP z ss qs := e2.symm
    by_cases hfr : qs.2.1 = ""
    · refine if_true (decide_eq_true (by rw [hfr])) ?_
      have hrd : rd (valOf z ss) t.cps.toList (f.cps.toList, 0) = some (qs.1.cps.toList, qs.2.2) := by
        rw [eout]
        unfold outP
        rw [hfr]
        rfl
      obtain ⟨a, t', xs, rfl, ht, hts, hA⟩ := expV_of (hv.mono s1)
      obtain ⟨ms, lst, f1, f2, f3⟩ := last_in ok stq.state
      obtain ⟨sv, es, hs⟩ := hA.ix f1
      obtain ⟨p4, us4, rfl, hp4, hq4⟩ := hs.items
      obtain ⟨mv', us', rfl, hM, hq4⟩ := hq4.one
      obtain ⟨lv, us'', rfl, hlv, hq4⟩ := hq4.one
      obtain rfl := hq4.none
      refine ⟨_, rfl, a, _, 2, _, rfl, rfl, ht, rfl, _, rfl, t', xs, (qs.2.2 : Int), _, rfl, rfl, hts, atI_nat es, p4, _, 1, _, rfl, rfl, hp4, rfl, ?_⟩
      refine ⟨_, rfl, _, rfl, rfl, _, rfl, ?_⟩
      rcases f3 with rfl | ⟨w, rfl, aw, lw⟩
      · obtain rfl := hlv.noneV
        refine iteT ?_
        rw [outOf_last hrd f2]
        refine eqDq (n := 0) (m := 0) .non .non .none .none (by decide) (by decide) ?_
        exact q _ s1
      · obtain rfl := hlv.strV
        refine iteF ?_
        rw [outOf_some hrd f2]
        have ecat : qs.1 ++ w = tx (qs.1.cps.toList ++ w.cps.toList) := str_ext (by
          show (qs.1.cps ++ w.cps).toList = (tx (qs.1.cps.toList ++ w.cps.toList)).cps.toList
          simp)
        have ld := stq.done
        refine ⟨_, rfl, _, rfl, qs.1, w, rfl, rfl, Nat.le_trans (show qs.1.length + w.length ≤ 5000000 by omega) (by decide), ?_⟩
        rw [ecat]
        have eqs : Eqb 0 (.str (tx (qs.1.cps.toList ++ w.cps.toList))) := .str fun c hc => by
          rw [tx_codes] at hc
          rcases List.mem_append.1 hc with hc | hc
          · exact zc c (allIn_mem stq.doneIn c hc)
          · exact zc c (allIn_mem aw c hc)
        refine eqDq (.str _) (.str _) eqs eqs (by decide) (by decide) ?_
        rw [SeqAt.eqv_refl _ eqs.lay]
        exact q _ s1
    · refine if_false (decide_eq_false fun h => hfr (by injection h)) ?_
      refine ⟨_, rfl, r, us, rfl, .inl (SqL.of hr1), rfl, _, rfl, ?_⟩
      by_cases h60 : us.length = 60
      · exact if_true (decide_eq_true (by rw [h60]; rfl)) (q _ s1)
      · refine if_false (decide_eq_false fun h => h60 (by
          have h : ((us.length : Nat) : Int) = 60 := by injection h
          omega)) ?_
        have hle : us.length ≤ 60 := by
          rw [hlu]
          have key : ∀ (n : Nat) (p : Str × Str × Nat), (runD z ss n p).length ≤ n := by
            intro n
            induction n with
            | zero => exact fun p => Nat.le_refl 0
            | succ n ih =>
              intro p
              show (p :: _).length ≤ n + 1
              rw [List.length_cons]
              cases nextD z ss p.1 p.2.1 p.2.2 with
              | none => exact Nat.succ_le_succ (Nat.zero_le _)
              | some q => exact Nat.succ_le_succ (ih q)
          exact key 60 _
        have hn := e4 (by omega)
        have hne : qs.2.1.cps.toList ≠ [] := fun h => hfr (str_ext (by rw [h]; rfl))
        have hno : outOf z f ss t = none := outOf_stuck (by rw [eout]; exact stop_out hn hne)
        rw [hno]
        exact ⟨_, rfl, rfl, q _ s1⟩
end
end K12

namespace K12
open PySem PySem.Spec PyProof.Rows L2 G Lk
section
variable {P : Program} {w : World} {K : PySem.W.Frag} {mg : Str → Option Value} {base : Heap}
def sp_Lsizes (K : PySem.W.Frag) : Sp := fun vs H Q _ => ∃ (v : V) (z f : Str) (ss : List PyData), vs = [v] ∧ Dq K H v (.tuple [.str z, .str f, .tuple ss]) ∧ StatesOk z ss ∧
  ∀ (H' : Hp) (d : Addr), Same H H' → H d = none → Found [d] H' d (laps z ss (callsOf z ss.length) (callsOf z ss.length).length []) → Q (.ref d) H'
theorem laps_snoc {z : Str} {ss : List PyData} (cs : List Lk.Cl) : ∀ (n : Nat) (E : Ent), laps z ss cs (n + 1) E = lap z ss cs (laps z ss cs n E)
  | 0, E => rfl
  | n + 1, E => laps_snoc cs n (lap z ss cs E)
theorem fold_snoc {z : Str} {ss : List PyData} {cs : List Lk.Cl} {j : Nat} {c : Lk.Cl} (h : cs[j]? = some c) (E : Ent) : (cs.take (j + 1)).foldl (lapOne z ss) E = lapOne z ss ((cs.take j).foldl (lapOne z ss) E) c := by
  rw [List.take_add_one, h, List.foldl_append]
  rfl
/-- def _law_sizes(expander): -/
theorem ok_Lsizes (T : Tx K mg) : FnOk P w K mg base CX0 2 T.a__law_sizes T.fd__law_sizes ["expander"] (sp_Lsizes K) := by
  refine T.F__law_sizes.ok sc_Lsizes (fun vs H Q E h => ?_) (fun cdv A outer s H vs Q E hr h => ?_)
  · obtain ⟨_, _, _, _, rfl, _⟩ := h
    rfl
  · refine ⟨_, (pss_cons (ps_set (i := 1) sc_Lsizes.nd rfl (by first | exact Or.inl rfl | exact Or.inr rfl) pe_dnewT)
    (pss_cons (ps_for PassesOwn.never rfl (pi_range1 (by rfl) T.z_range (pa_cons (pe_op op_mul (pe_callB call_len_seq (by rfl) T.z_len PySem.boot_len (pa_cons (pe_ix ix_tup (pv 0) pe_int (fun _ _ => rfl)) pa_nil)) (pe_callB call_len_str (by rfl) T.z_len PySem.boot_len (pa_cons (pe_ix ix_tup (pv 0) pe_int (fun _ _ => rfl)) pa_nil))) pa_nil)) (pg_name (i := 2) sc_Lsizes.nd rfl (by first | exact Or.inl rfl | exact Or.inr rfl))
      (pss_one (ps_for PassesOwn.never rfl (pi_list (pe_call (ok_Lcalls T) (hr.mono (by decide)) (by rfl) T.g__law_calls T.F__law_calls.kp T.b__law_calls .nil pass0 (pa_cons (pv 0) pa_nil))) (pg_tup rfl (pgs_cons (pg_name (i := 3) sc_Lsizes.nd rfl (by first | exact Or.inl rfl | exact Or.inr rfl)) (pgs_cons (pg_name (i := 4) sc_Lsizes.nd rfl (by first | exact Or.inl rfl | exact Or.inr rfl)) pgs_nil)))
      (pss_cons (ps_set (i := 5) sc_Lsizes.nd rfl (by first | exact Or.inl rfl | exact Or.inr rfl) (pe_ix ix_tup (pe_ix ix_tup (pe_ix ix_tup (pe_ix ix_tup (pv 0) pe_int (fun _ _ => rfl)) (pv 3) (fun _ _ => rfl)) pe_int (fun _ _ => rfl)) (pe_bm PySem.F.plainAttrs_str PySem.F.slot_str_index PySem.F.type_str_index mt_sindex (pe_ix ix_tup (pv 0) pe_int (fun _ _ => rfl)) (pa_cons (pv 4) pa_nil)) (fun _ _ => rfl)))
    (pss_one (ps_if (PW.pt (pw_and (pt_cmpR op_notN (pv 5) pe_non (nomark _)) (pw_and1 (pt_cmp (pc_dnotin (unit1 hr.units) (pe_tup (pa_cons (pv 3) (pa_cons (pv 4) pa_nil))) (pv 1))))))
      (pss_cons (ps_par (i := 7) (j := 8) (by rfl) sc_Lsizes.nd rfl rfl (by decide) rfl rfl (pa_cons (pe_callB call_len_str (by rfl) T.z_len PySem.boot_len (pa_cons (pe_ix ix_tup (pv 5) pe_int (fun _ _ => rfl)) pa_nil)) (pa_cons (pe_ix ix_tup (pv 5) pe_int (fun _ _ => rfl)) pa_nil)) (by rfl))
    (pss_cons (ps_for PassesOwn.never rfl (pi_str (pe_ix ix_tup (pv 5) pe_int (fun _ _ => rfl))) (pg_name (i := 6) sc_Lsizes.nd rfl (by first | exact Or.inl rfl | exact Or.inr rfl))
      (C8.pss_cut (ps_set (i := 9) sc_Lsizes.nd rfl (by first | exact Or.inl rfl | exact Or.inr rfl) (pe_ifExp (pt_cmpR op_notN (pv 8) pe_non (nomark _)) (pe_dget2 (unit1 hr.units) (pv 1) (pe_tup (pa_cons (pv 8) (pa_cons (pv 6) pa_nil))) (pe_tup (pa_cons pe_int (pa_cons pe_non pa_nil))) ⟨rfl, rfl, rfl, rfl⟩) (pe_tup (pa_cons pe_int (pa_cons pe_non pa_nil)))))
    (pss_one (ps_par (i := 7) (j := 8) (by rfl) sc_Lsizes.nd rfl rfl (by decide) rfl rfl (pa_cons (pe_op op_add (pv 7) (pe_ix ix_tup (pv 9) pe_int (fun _ _ => rfl))) (pa_cons (pe_ix ix_tup (pv 9) pe_int (fun _ _ => rfl)) pa_nil)) (by rfl)))))
    (pss_one (ps_if (pt_cmpR op_notN (pv 8) pe_non (nomark _))
      (pss_one (ps_dput (unit1 hr.units) (pv 1) (pe_tup (pa_cons (pv 3) (pa_cons (pv 4) pa_nil))) (pe_tup (pa_cons (pv 7) (pa_cons (pv 8) pa_nil))) (by rfl)))
      pss_nil))))
      pss_nil))))))
    (pss_one (ps_ret (pv 1))))), ?_⟩
    obtain ⟨v, z, f, ss, rfl, hd, ok, q⟩ := h
    have hz4 := ok.1.small.2.1
    have h60 := ok.2.2.1
    have hzl : z.length ≤ sizeLine := Nat.le_trans hz4 (by decide)
    obtain ⟨a, t, xs, rfl, ht, hts, hA⟩ := expV_of hd
    have hl := hA.length
    intro d nd
    have s0 := same_new (o := .dT []) nd
    have hN : ((xs.length : Nat) : Int) * ((z.length : Nat) : Int) = ((xs.length * z.length : Nat) : Int) := by rw [Int.natCast_mul]
    have hN2 : xs.length * z.length ≤ 60 * 4 := Nat.mul_le_mul (by omega) hz4
    have hcs : (callsOf z ss.length).length = xs.length * z.length := by rw [callsOf_len, hl]
    rw [hcs] at q
    generalize ecs : callsOf z ss.length = cs at q hcs
    have off_dq : ∀ {H' : Hp}, Same H H' → Same H (off [d] H') := fun s b o e => off_of (fun zz => by
      rw [List.mem_singleton.1 zz, nd] at e
      cases e) (s b o e)
    have from_ : ∀ {H1 H' : Hp}, Same H H1 → Keep [d] H1 H' → Same H H' := fun s k b o e => k.at_ (fun zz => by
      rw [List.mem_singleton.1 zz, nd] at e
      cases e) (s b o e)
    refine ⟨_, rfl, a, _, 2, _, rfl, rfl, seqT s0 ht, rfl, t, xs, rfl, .inr (seqT s0 hts), _, rfl, a, _, 0, _, rfl, rfl, seqT s0 ht, rfl, z, rfl, hzl, _, _, rfl, rfl, .inl ⟨by omega, by omega⟩, _, rfl, by omega, by omega, ?_⟩
    rw [hN, Int.toNat_natCast]
    refine for_range (n := xs.length * z.length) (fun i σ H' => ∃ s2 s3 s4 s5 s6 s7 s8 s9 : Option V, σ = [some (.ref a), some (.ref d), s2, s3, s4, s5, s6, s7, s8, s9] ∧ Same H H' ∧ Found [d] H' d (laps z ss cs i []))
      ⟨_, _, _, _, _, _, _, _, rfl, s0, [], upd_same, .nil⟩ ?_ ?_
    · rintro i σ H1 hi ⟨s2, s3, s4, s5, s6, s7, s8, s9, rfl, sH1, hF⟩
      have cl0 : Closed z ss (laps z ss cs i []) := Closed.laps i .nil
      generalize eE : laps z ss cs i [] = E at hF cl0
      refine ⟨_, rfl, _, z, f, ss, rfl, hd.mono sH1, ok, fun H2 l ys sH2 nl hy hcv => ?_⟩
      rw [ecs] at hcv
      have hF2 := hF.same sH2
      have dl : l ∉ [d] := fun zz => by
        obtain ⟨_, e', _⟩ := hF2
        rw [List.mem_singleton.1 zz, e'] at hy
        cases hy
      have sH02 := Same.trans sH1 sH2
      refine ⟨l, rfl, ⟨ys, SqL.of hy⟩, for_list (xs := ys) (fun j σ H' => ∃ s2 s3 s4 s5 s6 s7 s8 s9 : Option V, σ = [some (.ref a), some (.ref d), s2, s3, s4, s5, s6, s7, s8, s9] ∧ Keep [d] H2 H' ∧ Found [d] H' d ((cs.take j).foldl (lapOne z ss) E) ∧ Closed z ss ((cs.take j).foldl (lapOne z ss) E))
        ⟨_, _, _, _, _, _, _, _, rfl, Keep.refl, hF2, cl0⟩ (fun j σ H' _ ⟨_, _, _, _, _, _, _, _, _, k, _⟩ => SqL.of (k.at_ dl hy)) ?_ ?_⟩
      · rintro j x σ H3 hx ⟨s2, s3, s4, s5, s6, s7, s8, s9, rfl, k3, hF3, cl3⟩
        obtain ⟨p, c, rfl, hcj, hp⟩ := hcv.get hx
        rw [fold_snoc hcj]
        generalize (cs.take j).foldl (lapOne z ss) E = E3 at hF3 cl3
        have gc : Good z ss c := by
          rw [← ecs] at hcj
          exact callsOf_mem.1 (List.mem_of_getElem? hcj)
        have sH3 : Same H H3 := from_ sH02 k3
        obtain ⟨kvs, hd3, hE3⟩ := id hF3
        have hp3 : CallAt H3 p c := by
          have hp' : CallAt (off [d] H2) p c := CallAt.out hp fun a ha => by
            rw [List.mem_singleton.1 ha]
            exact hF2.noTup
          exact (off_some (k3 _ _ hp')).2
        obtain ⟨ms, lst, k, rest, e1, e2, e3⟩ := move_is (f := f) ok gc
        obtain ⟨xi, hxi, hqi⟩ := hA.ix e1
        obtain ⟨pi, us, rfl, hpi, hq⟩ := hqi.items
        obtain ⟨mv', us', rfl, hM, hq⟩ := hq.one
        obtain ⟨lv, us'', rfl, _, hq⟩ := hq.one
        obtain rfl := hq.none
        obtain ⟨mi, mss, rfl, hmi, hms⟩ := hM.items
        obtain ⟨mr, emr, hmr⟩ := hms.ix e3
        refine ⟨p, _, rfl, SqT.of hp3, rfl, _, _, rfl, _, _, rfl, rfl, ?_⟩
        refine ⟨_, rfl, a, _, 2, _, rfl, rfl, seqT sH3 ht, rfl, _, rfl, t, xs, (c.1 : Int), _, rfl, rfl, seqT sH3 hts, atI_nat hxi, pi, _, 0, _, rfl, rfl, seqT sH3 hpi, rfl, _, rfl, a, _, 0, _, rfl, rfl, seqT sH3 ht, rfl, rfl, _, rfl, z, Ls.one c.2, k, rest, rfl, rfl, e2, mi, mss, (k : Int), mr, rfl, rfl, seqT sH3 hmi, atI_nat emr, ?_⟩
        refine ⟨_, rfl, rfl, _, rfl, ?_⟩
        cases em : mv z ss c with
        | none =>
          rw [mv_none ok gc.1 gc.2 em] at hmr
          obtain rfl := hmr.noneV
          rw [lapOne_stop em]
          exact iteF (iteF ⟨_, _, _, _, _, _, _, _, rfl, k3, hF3, cl3⟩)
        | some m =>
          obtain ⟨_, xw, yw, emv, ex, ey, lx, ly, ax, ay, hg⟩ := mv_ok ok em
          rw [emv] at hmr
          obtain ⟨pm, rfl, hpm⟩ := standV (a := xw) (b := yw) (s := m.2.2) (hmr.mono sH3)
          refine iteT ⟨_, rfl, _, rfl, (by show 2 ≤ sizeLine; decide), fun p2 np2 => ?_⟩
          have s4 := same_new (o := .tup [.int (c.1 : Int), .str (Ls.one c.2)]) np2
          have hp2 : CallAt (upd H3 p2 (.tup [.int (c.1 : Int), .str (Ls.one c.2)])) p2 c := upd_same
          revert s4 hp2
          generalize upd H3 p2 (.tup [.int (c.1 : Int), .str (Ls.one c.2)]) = H4
          intro s4 hp2
          have hd4 := s4 _ _ hd3
          have hE4 : SzE (off [d] H4) kvs E3 := hE3.mono (Keep.of s4)
          have k4 := k3.trans (Keep.of s4)
          refine ⟨_, rfl, d, _, rfl, DGet.t (k := ckey c) hd4 hp2.key, _, rfl, ?_⟩
          rcases hE4.get c with ⟨vv, ww, e5, e6, e7⟩ | ⟨e5, e6⟩
          · rw [e5, lapOne_known e6]
            exact iteF ⟨_, _, _, _, _, _, _, _, rfl, k4, hF3.same s4, cl3⟩
          · rw [e5]
            have hpm4 := seqT s4 hpm
            have lxz : xw.length ≤ sizeLine := Nat.le_trans lx (by decide)
            refine iteT ⟨_, rfl, pm, _, 0, _, rfl, rfl, hpm4, rfl, xw, rfl, lxz, _, rfl, pm, _, 2, _, rfl, rfl, hpm4, rfl, _, _, rfl, ?_⟩
            refine ⟨_, rfl, pm, _, 1, _, rfl, rfl, hpm4, rfl, yw, rfl, ?_⟩
            have exl : m.1.length = xw.length := by
              rw [ex]
              simp [Str.length]
            let st : Option Wt → Int → V → Prop := fun r sz hr => match r with
              | some (w, g) => sz = (w.length : Int) ∧ hr = .int (g : Int)
              | none => hr = .non
            refine for_it walk_str (fun jj σ H' => ∃ (s2 s6 s9 : Option V) (sz : Int) (hr : V), σ = [some (.ref a), some (.ref d), s2, some (.int (c.1 : Int)), some (.str (Ls.one c.2)), some (.ref pm), s6, some (.int sz), some hr, s9] ∧ st (rd (look E3) (m.2.1.take jj) (m.1, m.2.2)) sz hr ∧ Same H4 H')
              ⟨_, _, _, _, _, rfl, by rw [List.take_zero]; exact ⟨by rw [exl], rfl⟩, Same.refl _⟩ (fun _ _ _ _ _ => trivial) ?_ ?_
            · rintro jj x σ H5 H6 hk1 ⟨s2, s6, s9, sz, hr, rfl, hst, sm5⟩ ⟨rfl, c1, hc1, rfl⟩
              have hc1' : m.2.1[jj]? = some c1 := by
                rw [ey]
                simpa using hc1
              rw [take_snoc hc1', rd_append]
              refine ⟨fun σ H' => ∃ (r : Addr) (b : Int) (h2 : V), σ = [some (.ref a), some (.ref d), s2, some (.int (c.1 : Int)), some (.str (Ls.one c.2)), some (.ref pm), some (.str (Ls.one c1)), some (.int sz), some hr, some (.ref r)] ∧ H' r = some (.tup [.int b, h2]) ∧ Same H6 H' ∧
                st ((rd (look E3) (m.2.1.take jj) (m.1, m.2.2)).bind (rd (look E3) [c1])) (sz + b) h2, ?_, ?_⟩
              · refine ⟨_, rfl, rfl, _, rfl, ?_⟩
                cases hrd : rd (look E3) (m.2.1.take jj) (m.1, m.2.2) with
                | none =>
                  rw [hrd] at hst
                  have hst : hr = .non := hst
                  subst hst
                  refine iteF ⟨(by show 2 ≤ sizeLine; decide), fun r nr => ?_⟩
                  exact ⟨r, 0, .non, rfl, upd_same, same_new nr, rfl⟩
                | some wg =>
                  obtain ⟨w, g1⟩ := wg
                  rw [hrd] at hst
                  obtain ⟨esz, ehr⟩ : sz = (w.length : Int) ∧ hr = .int (g1 : Int) := hst
                  subst esz ehr
                  have hd5 := sm5 _ _ hd4
                  refine iteT ⟨_, rfl, d, rfl, .inr ⟨kvs, .inl hd5⟩, _, rfl, _, rfl, (by show 2 ≤ sizeLine; decide), fun p3 np3 => ?_⟩
                  have s7 := same_new (o := .tup [.int (g1 : Int), .str (Ls.one c1)]) np3
                  refine ⟨(by show 2 ≤ sizeLine; decide), fun p4 np4 => ?_⟩
                  have s8 := same_new (o := .tup [.int 0, .non]) np4
                  have sA := Same.trans s7 s8
                  refine ⟨_, DGet.t (k := ckey (g1, c1)) (sA _ _ hd5) (s8 _ _ upd_same), ?_⟩
                  rcases hE4.get (g1, c1) with ⟨v1, w1, e7, e8, e9⟩ | ⟨e7, e8⟩
                  · rw [e7]
                    obtain ⟨pw, rfl, e9⟩ := e9
                    refine ⟨pw, _, _, rfl, sA _ _ (sm5 _ _ (off_some e9).2), sA, ?_⟩
                    show st (rd (look E3) [c1] (w, g1)) _ _
                    rw [rd_some e8]
                    exact ⟨by rw [List.length_append, Int.natCast_add], rfl⟩
                  · rw [e7]
                    refine ⟨p4, 0, .non, rfl, upd_same, sA, ?_⟩
                    show st (rd (look E3) [c1] (w, g1)) _ _
                    rw [rd_none e8]
                    try rfl
              · rintro σ H7 ⟨r, b, h2, rfl, hr2, s7, hst2⟩
                refine ⟨_, rfl, _, rfl, r, _, 0, _, rfl, rfl, SqT.of hr2, rfl, _, _, rfl, rfl, _, rfl, r, _, 1, _, rfl, rfl, SqT.of hr2, rfl, _, _, rfl, ?_⟩
                exact ⟨_, _, _, _, _, rfl, hst2, Same.trans sm5 s7⟩
            · rintro σ H5 ⟨s2, s6, s9, sz, hr, rfl, hst, sm5⟩
              have ett : m.2.1.take yw.cps.size = m.2.1 := List.take_of_length_le (by rw [ey]; simp)
              rw [ett] at hst
              refine ⟨_, rfl, rfl, _, rfl, ?_⟩
              have k5 := k4.trans (Keep.of sm5)
              have hd5 := sm5 _ _ hd4
              have hE5 := hE4.mono (Keep.of (S := [d]) sm5)
              cases hrd : rd (look E3) m.2.1 (m.1, m.2.2) with
              | none =>
                rw [hrd] at hst
                have hst : hr = .non := hst
                subst hst
                rw [lapOne_waits em hrd]
                exact iteF ⟨_, _, _, _, _, _, _, _, rfl, k5, ⟨kvs, hd5, hE5⟩, cl3⟩
              | some wg =>
                obtain ⟨w, g1⟩ := wg
                rw [hrd] at hst
                obtain ⟨esz, ehr⟩ : sz = (w.length : Int) ∧ hr = .int (g1 : Int) := hst
                subst esz ehr
                rw [lapOne_new e6 em hrd]
                refine iteT ⟨_, rfl, _, rfl, (by show 2 ≤ sizeLine; decide), fun p5 np5 => ?_⟩
                have s6 := same_new (o := .tup [.int (w.length : Int), .int (g1 : Int)]) np5
                have hp5 : upd H5 p5 (.tup [.int (w.length : Int), .int (g1 : Int)]) p5 = some (.tup [.int (w.length : Int), .int (g1 : Int)]) := upd_same
                revert s6 hp5
                generalize upd H5 p5 (.tup [.int (w.length : Int), .int (g1 : Int)]) = H6
                intro s6 hp5
                refine ⟨_, rfl, _, rfl, _, rfl, (by show 2 ≤ sizeLine; decide), fun p6 np6 => ?_⟩
                have s7 := same_new (o := .tup [.int (c.1 : Int), .str (Ls.one c.2)]) np6
                have hp6 : CallAt (upd H6 p6 (.tup [.int (c.1 : Int), .str (Ls.one c.2)])) p6 c := upd_same
                revert s7 hp6
                generalize upd H6 p6 (.tup [.int (c.1 : Int), .str (Ls.one c.2)]) = H7
                intro s7 hp6
                have s67 := Same.trans s6 s7
                have hd7 := s67 _ _ hd5
                have hp57 := s7 _ _ hp5
                have few := cl3.few ok
                refine ⟨d, _, rfl, DPut.t (k := ckey c) hd7 hp6.key (by rw [hE3.len]; exact Nat.lt_of_le_of_lt few (by decide)), ?_⟩
                have npn : p5 ∉ [d] := fun zz => by
                  rw [List.mem_singleton.1 zz, hd7] at hp57
                  cases hp57
                have kP : Keep [d] H7 (upd H7 d (.dT (putK kvs (ckey c) (.ref p5)))) := Keep.pot List.mem_cons_self
                refine ⟨_, _, _, _, _, _, _, _, rfl, k5.trans ((Keep.of s67).trans kP), ⟨_, upd_same, ((hE5.mono (Keep.of s67)).put e6 ⟨p5, rfl, off_of npn hp57⟩).mono kP⟩, .snoc cl3 e6 em hrd⟩
      · rintro σ H3 ⟨s2, s3, s4, s5, s6, s7, s8, s9, rfl, k3, hF3, cl3⟩
        refine ⟨_, _, _, _, _, _, _, _, rfl, from_ sH02 k3, ?_⟩
        rw [laps_snoc, eE]
        have el : cs.take ys.length = cs := by
          rw [hcv.len, List.take_length]
        rw [el] at hF3
        exact hF3
    · rintro σ H1 ⟨s2, s3, s4, s5, s6, s7, s8, s9, rfl, sH1, hF⟩
      exact ⟨_, rfl, q H1 d sH1 nd hF⟩
end
end K12

namespace K12
open PySem PySem.Spec PyProof.Rows L2 G Lk
section
variable {P : Program} {w : World} {K : PySem.W.Frag} {mg : Str → Option Value} {base : Heap}
def sp_Lsome_word (K : PySem.W.Frag) : Sp := fun vs H Q _ => ∃ (a c : Addr) (z : Str) (m : Int), vs = [.ref a, .str z, .int m] ∧ Pot K H a c ∧ 0 < z.length ∧ z.length ≤ 1000 ∧ 0 ≤ m ∧ m ≤ 1000 ∧
  ∀ (H' : Hp) (l : List Nat), Sm a H H' → Pot K H' a c → (l.length : Int) ≤ m → (∀ c ∈ l, c ∈ z.cps.toList) → Q (.str (tx l)) H'
/-- def _law_some_word(pot, signs, limit): -/
theorem ok_Lsome_word (T : Tx K mg) : FnOk P w K mg base CX0 4 T.a__law_some_word T.fd__law_some_word ["pot", "signs", "limit"] (sp_Lsome_word K) := by
  refine T.F__law_some_word.ok sc_Lsome_word (fun vs H Q E h => ?_) (fun cdv A outer s H vs Q E hr h => ?_)
  · obtain ⟨_, _, _, _, rfl, _⟩ := h
    rfl
  · refine ⟨_, (pss_one (ps_ret (pe_join pe_str (pe_lc (own := [("lap", 3)]) (g := gName 3) (by rfl) sc_Lsome_word.nd (pi_range1 (by rfl) T.z_range (pa_cons (pe_call (ok_Lbelow T) (hr.mono (by decide)) (by rfl) T.g__law_below T.F__law_below.kp T.b__law_below .nil pass0 (pa_cons (pv 0) (pa_cons (pe_op op_add (pv 2) pe_int) pa_nil))) pa_nil)) (blkOk_by (own := [("lap", 3)]) (N := N_Lsome_word) (sc := defScope s_Lsome_word) (by decide +kernel)) (fun _ _ _ _ _ => pg_name (i := 3) sc_Lsome_word.nd rfl (by first | exact Or.inl rfl | exact Or.inr rfl)) (fun _ _ _ _ _ => pts_nil) (fun _ _ _ _ _ => (pe_call (ok_Lpick T) (hr.mono (by decide)) (by rfl) T.g__law_pick T.F__law_pick.kp T.b__law_pick .nil pass0 (pa_cons (pv 0) (pa_cons (pv 1) pa_nil)))))))), ?_⟩
    obtain ⟨a, c, z, m, rfl, hp, z0, z1, m0, m1, q⟩ := h
    have hzl : z.length ≤ sizeLine := Nat.le_trans z1 (by decide)
    refine ⟨⟨_, rfl⟩, _, rfl, _, rfl, _, _, rfl, rfl, a, c, _, rfl, hp, by omega, by omega, fun H1 k sm1 hp1 k0 k1 => ?_⟩
    refine ⟨k, rfl, by omega, by omega, fun D nD => ?_⟩
    have nDa := hp1.ne nD
    refine lc_range (lo := 0) (n := k.toNat) (fun i H' => Sm a H1 H' ∧ PotAt H' a c ∧ ∃ l : List Nat, l.length = i ∧ (∀ c ∈ l, c ∈ z.cps.toList) ∧ H' D = some (.lst ((l.map fun c => tx [c]).map V.str))) ?_ ?_ ?_
    · exact ⟨Sm.new nD, hp1.at_.upd nDa, [], rfl, fun _ h => (List.not_mem_nil h).elim, upd_same⟩
    · rintro i H2 hi ⟨sm2, hp2, l, hl, hc, hD⟩
      refine ⟨rfl, _, rfl, _, rfl, ?_⟩
      refine ⟨a, c, .str z, sg z, rfl, hp1.to sm2 hp2, ?_, .inr (.inr ⟨z, rfl, rfl, hzl⟩), by rw [sg_len]; omega, fun H4 x sm4 hp4 hx => ?_⟩
      · intro e
        have := sg_len z
        rw [e] at this
        exact absurd this.symm (Nat.ne_of_gt z0)
      · obtain ⟨c, hcz, rfl⟩ : ∃ c, c ∈ z.cps.toList ∧ x = .str (tx [c]) := by
          unfold sg at hx
          obtain ⟨c, h1, h2⟩ := List.mem_map.mp hx
          exact ⟨c, h1, h2.symm⟩
        have hD4 : H4 D = some (.lst ((l.map fun c => tx [c]).map V.str)) := (sans_some (sm4 D _ (sans_of nDa hD))).2
        refine ⟨_, hD4, ?_, ?_, hp4.at_.upd nDa, l ++ [c], ?_, ?_, ?_⟩
        · rw [List.length_map, List.length_map, hl]
          refine Nat.lt_of_lt_of_le (show i < 1001 by omega) (by decide)
        · exact (sm2.trans sm4).upd (by rw [sans_ne nDa]; exact nD)
        · rw [List.length_append, hl]
          rfl
        · intro d hd
          rcases List.mem_append.mp hd with h | h
          · exact hc d h
          · rw [List.mem_singleton.mp h]
            exact hcz
        · rw [upd_same, List.map_append, List.map_append]
          rfl
    · rintro H2 ⟨sm2, hp2, l, hl, hc, hD⟩
      refine ⟨tx [], D, l.map fun c => tx [c], rfl, rfl, .inl (SqL.of hD), ?_, ?_⟩
      · rw [sum_ones]
        show _ + _ * 0 ≤ _
        omega
      · rw [join_empty, catS_ones]
        exact q _ l (sm1.trans sm2) (hp1.to sm2 hp2) (by omega) hc
end
end K12

namespace K12
open PySem PySem.Spec PyProof.Rows L2 G Lk
section
variable {P : Program} {w : World} {K : PySem.W.Frag} {mg : Str → Option Value} {base : Heap}
def sp_Lsome_expander (K : PySem.W.Frag) : Sp := fun vs H Q _ => ∃ (a c : Addr) (m : Int), vs = [.ref a, .int m] ∧ Pot K H a c ∧ 1 ≤ m ∧ m ≤ 4 ∧
  ∀ (H' : Hp) (v : V) (d : PyData), Sm a H H' → Pot K H' a c → Dq K (sans H' a) v d → ExpD d → Sized d → Q v H'
/-- def _law_some_expander(pot, many): -/
theorem ok_Lsome_expander (T : Tx K mg) : FnOk P w K mg base CX0 5 T.a__law_some_expander T.fd__law_some_expander ["pot", "many"] (sp_Lsome_expander K) := by
  refine T.F__law_some_expander.ok sc_Lsome_expander (fun vs H Q E h => ?_) (fun cdv A outer s H vs Q E hr h => ?_)
  · obtain ⟨_, _, _, rfl, _⟩ := h
    rfl
  · refine ⟨_, (pss_cons (ps_set (i := 2) sc_Lsome_expander.nd rfl (by first | exact Or.inl rfl | exact Or.inr rfl) (pe_call (ok_Lpick T) (hr.mono (by decide)) (by rfl) T.g__law_pick T.F__law_pick.kp T.b__law_pick .nil pass0 (pa_cons (pv 0) (pa_cons (pe_lst (pa_cons pe_str (pa_cons pe_str (pa_cons pe_str (pa_cons pe_str (pa_cons pe_str (pa_cons pe_str (pa_cons pe_str pa_nil)))))))) pa_nil))))
    (pss_cons (ps_par3 (i := 6) (j := 7) (l := 8) (by rfl) sc_Lsome_expander.nd rfl rfl rfl (by decide) (by decide) (by decide) rfl rfl rfl (pa_cons (pe_op op_add pe_int (pe_call (ok_Lbelow T) (hr.mono (by decide)) (by rfl) T.g__law_below T.F__law_below.kp T.b__law_below .nil pass0 (pa_cons (pv 0) (pa_cons (pv 1) pa_nil)))) (pa_cons (pe_call (ok_Lbelow T) (hr.mono (by decide)) (by rfl) T.g__law_below T.F__law_below.kp T.b__law_below .nil pass0 (pa_cons (pv 0) (pa_cons pe_int pa_nil))) (pa_cons (pe_lst pa_nil) pa_nil))) (by rfl))
    (pss_cons (ps_for PassesOwn.never rfl (pi_range1 (by rfl) T.z_range (pa_cons (pv 6) pa_nil)) (pg_name (i := 3) sc_Lsome_expander.nd rfl (by first | exact Or.inl rfl | exact Or.inr rfl))
      (pss_cons (ps_set (i := 9) sc_Lsome_expander.nd rfl (by first | exact Or.inl rfl | exact Or.inr rfl) (pe_lst pa_nil))
    (pss_cons (ps_for PassesOwn.never rfl (pi_str (pv 2)) (pg_name (i := 10) sc_Lsome_expander.nd rfl (by first | exact Or.inl rfl | exact Or.inr rfl))
      (C8.pss_cut (ps_set (i := 12) sc_Lsome_expander.nd rfl (by first | exact Or.inl rfl | exact Or.inr rfl) (pe_ifExp (PW.pt (pw_and (pt_cmpR op_gt (pv 7) pe_int (nomark _)) (pw_and1 (pt_cmpR op_eq (pe_call (ok_Lbelow T) (hr.mono (by decide)) (by rfl) T.g__law_below T.F__law_below.kp T.b__law_below .nil pass0 (pa_cons (pv 0) (pa_cons pe_int pa_nil))) pe_int (nomark _))))) (pe_call (ok_Lsome_word T) (hr.mono (by decide)) (by rfl) T.g__law_some_word T.F__law_some_word.kp T.b__law_some_word .nil pass0 (pa_cons (pv 0) (pa_cons (pv 2) (pa_cons pe_int pa_nil)))) pe_str))
    (pss_cons (ps_set (i := 13) sc_Lsome_expander.nd rfl (by first | exact Or.inl rfl | exact Or.inr rfl) (pe_call (ok_Lpick T) (hr.mono (by decide)) (by rfl) T.g__law_pick T.F__law_pick.kp T.b__law_pick .nil pass0 (pa_cons (pv 0) (pa_cons (pe_lst (pa_cons pe_str (pa_cons (pv 10) (pa_cons (pe_call (ok_Lsome_word T) (hr.mono (by decide)) (by rfl) T.g__law_some_word T.F__law_some_word.kp T.b__law_some_word .nil pass0 (pa_cons (pv 0) (pa_cons (pv 2) (pa_cons pe_int pa_nil)))) (pa_cons (pe_call (ok_Lsome_word T) (hr.mono (by decide)) (by rfl) T.g__law_some_word T.F__law_some_word.kp T.b__law_some_word .nil pass0 (pa_cons (pv 0) (pa_cons (pv 2) (pa_cons pe_int pa_nil)))) pa_nil))))) pa_nil))))
    (pss_cons (ps_set (i := 14) sc_Lsome_expander.nd rfl (by first | exact Or.inl rfl | exact Or.inr rfl) (pe_tup (pa_cons (pv 13) (pa_cons (pv 12) (pa_cons (pe_call (ok_Lbelow T) (hr.mono (by decide)) (by rfl) T.g__law_below T.F__law_below.kp T.b__law_below .nil pass0 (pa_cons (pv 0) (pa_cons (pv 6) pa_nil))) pa_nil)))))
    (pss_one (ps_expr (pe_bm PySem.F.plainAttrs_list PySem.F.slot_list_append PySem.F.type_list_append mt_append (pv 9) (pa_cons (pe_ifExp (pt_cmpR op_eq (pe_call (ok_Lbelow T) (hr.mono (by decide)) (by rfl) T.g__law_below T.F__law_below.kp T.b__law_below .nil pass0 (pa_cons (pv 0) (pa_cons pe_int pa_nil))) pe_int (nomark _)) pe_non (pv 14)) pa_nil))))))))
    (C8.pss_cut (ps_set (i := 11) sc_Lsome_expander.nd rfl (by first | exact Or.inl rfl | exact Or.inr rfl) (pe_ifExp (pt_cmpR op_eq (pe_call (ok_Lbelow T) (hr.mono (by decide)) (by rfl) T.g__law_below T.F__law_below.kp T.b__law_below .nil pass0 (pa_cons (pv 0) (pa_cons pe_int pa_nil))) pe_int (nomark _)) pe_non (pe_call (ok_Lsome_word T) (hr.mono (by decide)) (by rfl) T.g__law_some_word T.F__law_some_word.kp T.b__law_some_word .nil pass0 (pa_cons (pv 0) (pa_cons (pv 2) (pa_cons pe_int pa_nil))))))
    (pss_one (ps_expr (pe_bm PySem.F.plainAttrs_list PySem.F.slot_list_append PySem.F.type_list_append mt_append (pv 8) (pa_cons (pe_tup (pa_cons (pe_callTy call_tuple_of (by rfl) T.z_tuple (by decide +kernel) (pa_cons (pv 9) pa_nil)) (pa_cons (pv 11) pa_nil))) pa_nil))))))))
    (pss_cons (ps_set (i := 4) sc_Lsome_expander.nd rfl (by first | exact Or.inl rfl | exact Or.inr rfl) (pe_tup (pa_cons (pv 2) (pa_cons (pe_call (ok_Lsome_word T) (hr.mono (by decide)) (by rfl) T.g__law_some_word T.F__law_some_word.kp T.b__law_some_word .nil pass0 (pa_cons (pv 0) (pa_cons (pv 2) (pa_cons pe_int pa_nil)))) (pa_cons (pe_callTy call_tuple_of (by rfl) T.z_tuple (by decide +kernel) (pa_cons (pv 8) pa_nil)) pa_nil)))))
    (pss_cons (ps_set (i := 5) sc_Lsome_expander.nd rfl (by first | exact Or.inl rfl | exact Or.inr rfl) (pe_call (ok_Lsizes T) (hr.mono (by decide)) (by rfl) T.g__law_sizes T.F__law_sizes.kp T.b__law_sizes .nil pass0 (pa_cons (pv 4) pa_nil)))
    (C8.pss_cut (ps_if (PW.pt (pw_and (pt_cmpR (op_neT0 (unit0 hr.units)) (pv 5) pe_dnewT (nomark _)) (pw_and1 (pt_cmpR op_gt (pe_callB (cr_max rfl) (by rfl) T.z_max (by decide +kernel) (pa_cons (pe_lock (pe_lc (own := [("call", 15)]) (g := gName 15) (by rfl) sc_Lsome_expander.nd (pi_keys (pv 5)) (blkOk_by (own := [("call", 15)]) (N := N_Lsome_expander) (sc := defScope s_Lsome_expander) (by decide +kernel)) (fun _ _ _ _ _ => pg_name (i := 15) sc_Lsome_expander.nd rfl (by first | exact Or.inl rfl | exact Or.inr rfl)) (fun _ _ _ _ _ => pts_nil) (fun _ _ _ _ _ => (pe_ix (ix_tup : IxR _ (rIxT K)) (pe_dget (unit1 hr.units) (pv 5) (pv 15) (fun _ _ => rfl)) pe_int (fun _ _ => rfl))))) pa_nil)) pe_int (nomark _)))))
      (pss_one (ps_set (i := 4) sc_Lsome_expander.nd rfl (by first | exact Or.inl rfl | exact Or.inr rfl) (pe_tup (pa_cons (pv 2) (pa_cons (pe_ix ix_tup (pv 4) pe_int (fun _ _ => rfl)) (pa_cons (pe_callTy call_tuple_of (by rfl) T.z_tuple (by decide +kernel) (pa_cons (pe_lc (own := [("state", 3)]) (g := gName 3) (by rfl) sc_Lsome_expander.nd (pi_list (pv 8)) (blkOk_by (own := [("state", 3)]) (N := N_Lsome_expander) (sc := defScope s_Lsome_expander) (by decide +kernel)) (fun _ _ _ _ _ => pg_name (i := 3) sc_Lsome_expander.nd rfl (by first | exact Or.inl rfl | exact Or.inr rfl)) (fun _ _ _ _ _ => pts_nil) (fun _ _ _ _ _ => (pe_call (ok_Lplainer T) (hr.mono (by decide)) (by rfl) T.g__law_plainer T.F__law_plainer.kp T.b__law_plainer .nil pass0 (pa_cons (pv 3) pa_nil)))) pa_nil)) pa_nil))))))
      pss_nil)
    (pss_one (ps_ret (pv 4))))))))), ?_⟩
    obtain ⟨a, c, m, rfl, hp, m1, m4, q⟩ := h
    refine ⟨_, rfl, (by show 7 ≤ sizeLine; decide), fun l nl => ?_⟩
    refine ⟨a, c, .ref l, _, rfl, hp.new (o := .lst [.str "a", .str "ab", .str "ab", .str "bz", .str "abc", .str "ab", .str "abcz"]) nl, by simp, .inl ⟨l, rfl, SqL.of (sans_of (hp.ne nl) upd_same)⟩, by decide, fun H1 x sm1 hp1 hx => ?_⟩
    have sm1 := (Sm.new nl).trans sm1
    obtain ⟨z, rfl, hz⟩ : ∃ z, x = .str z ∧ SignsD z := by
      simp only [List.mem_cons, List.not_mem_nil, or_false] at hx
      rcases hx with rfl | rfl | rfl | rfl | rfl | rfl | rfl
      · exact ⟨_, rfl, signs_a⟩
      · exact ⟨_, rfl, signs_ab⟩
      · exact ⟨_, rfl, signs_ab⟩
      · exact ⟨_, rfl, signs_bz⟩
      · exact ⟨_, rfl, signs_abc⟩
      · exact ⟨_, rfl, signs_ab⟩
      · exact ⟨_, rfl, signs_abcz⟩
    obtain ⟨z1, z4, zc⟩ := hz.small
    have z1000 : z.length ≤ 1000 := by omega
    refine ⟨_, rfl, _, rfl, a, c, m, rfl, hp1, m1, by omega, fun H2 k sm2 hp2 k0 k1 => ?_⟩
    obtain ⟨k, rfl⟩ := Int.eq_ofNat_of_zero_le k0
    refine ⟨_, _, rfl, rfl, _, rfl, a, c, 4, rfl, hp2, by decide, by decide, fun H3 kind sm3 hp3 _ _ => ?_⟩
    have sm3 := (sm1.trans sm2).trans sm3
    refine ⟨Nat.zero_le _, fun S nS => ⟨_, _, _, rfl, ?_⟩⟩
    have Sa := hp3.ne nS
    have smS := sm3.trans (Sm.new (o := .lst []) nS)
    have hpS := hp3.new (o := .lst []) nS
    have gS : Grows K (upd H3 S (.lst [])) a S S 0 (StateD z (1 + k)) := Grows.new upd_same
    revert smS hpS gS
    generalize upd H3 S (.lst []) = H4
    intro smS hpS gS
    have hSa : S ≠ a := Sa
    have nS0 : sans H a S = none := by
      rw [sans_ne Sa]
      cases e : H S with
      | none => rfl
      | some o =>
        have := sm3.at_ Sa e
        rw [nS] at this
        cases this
    have en : (1 : Int) + ((k : Nat) : Int) = ((1 + k : Nat) : Int) := by omega
    refine ⟨_, rfl, _, rfl, by omega, by omega, ?_⟩
    rw [show ((1 : Int) + ((k : Nat) : Int)).toNat = 1 + k by omega]
    refine for_range (n := 1 + k) (fun i σ H' => ∃ s3 s9 s10 s11 s12 s13 s14 : Option V, σ = [some (.ref a), some (.int m), some (.str z), s3, none, none, some (.int (1 + (k : Int))), some (.int kind), some (.ref S), s9, s10, s11, s12, s13, s14, none] ∧ Sm a H H' ∧ Pot K H' a c ∧ Grows K H' a S S i (StateD z (1 + k)))
      ⟨_, _, _, _, _, _, _, rfl, smS, hpS, gS⟩ ?_ ?_
    · rintro i σ H5 hi ⟨s3, s9, s10, s11, s12, s13, s14, rfl, smA, hpA, gA⟩
      refine ⟨Nat.zero_le _, fun M nM => ?_⟩
      have Ma := hpA.ne nM
      have MS : S ≠ M := by
        obtain ⟨us, es, e, _⟩ := gA.it
        exact ne_of_none e nM
      have smM := Sm.new (a := a) (o := .lst []) nM
      have hpM := hpA.new (o := .lst []) nM
      have gM : Grows K (upd H5 M (.lst [])) a M S 0 (MoveD z (1 + k)) := Grows.new upd_same
      have nM' : sans H5 a M = none := by
        rw [sans_ne Ma]
        exact nM
      revert smM hpM gM
      generalize upd H5 M (.lst []) = H6
      intro smM hpM gM
      refine ⟨_, rfl, z, rfl, for_it walk_str (fun j σ H' => ∃ s10 s12 s13 s14 : Option V, σ = [some (.ref a), some (.int m), some (.str z), some (.int (0 + (i : Int))), none, none, some (.int (1 + (k : Int))), some (.int kind), some (.ref S), some (.ref M), s10, s11, s12, s13, s14, none] ∧ Sm a H5 H' ∧ Pot K H' a c ∧ Grows K H' a M S j (MoveD z (1 + k)))
        ⟨_, _, _, _, rfl, smM, hpM, gM⟩ (fun _ _ _ _ _ => trivial) ?_ ?_⟩
      · rintro j x σ H7 H8 hj ⟨s10, s12, s13, s14, rfl, smB, hpB, gB⟩ ⟨rfl, c1, hc1, rfl⟩
        have hc1z : c1 ∈ z.cps.toList := List.mem_of_getElem? (by simpa using hc1)
        refine ⟨fun σ H' => ∃ b : Str, WordOf z b 3 ∧ σ = [some (.ref a), some (.int m), some (.str z), some (.int (0 + (i : Int))), none, none, some (.int (1 + (k : Int))), some (.int kind), some (.ref S), some (.ref M), some (.str ⟨#[c1]⟩), s11, some (.str b), s13, s14, none] ∧ Sm a H8 H' ∧ Pot K H' a c, ?_, ?_⟩
        · refine ⟨_, rfl, _, _, rfl, rfl, _, rfl, ite2 (fun _ => ?_) (fun _ => ?_)⟩
          · refine ⟨_, rfl, a, c, 2, rfl, hpB, by decide, by decide, fun H9 k2 smk hpk _ _ => ⟨rfl, _, rfl, ite2 (fun _ => ?_) (fun _ => ?_)⟩⟩
            · exact ⟨_, rfl, _, rfl, a, c, z, 3, rfl, hpk, z1, z1000, by decide, by decide, fun H10 l smw hpw hl hc => ⟨tx l, word_tx (by omega) hc, rfl, smk.trans smw, hpw⟩⟩
            · exact ⟨"", word_empty z 3, rfl, smk, hpk⟩
          · exact iteF ⟨"", word_empty z 3, rfl, Sm.refl, hpB⟩
        · rintro σ H9 ⟨b, hb, rfl, smb, hpb⟩
          refine ⟨_, rfl, _, rfl, _, rfl, _, rfl, a, c, z, 2, rfl, hpb, z1, z1000, by decide, by decide, fun H10 l1 sm10 hp10 hl1 hk1 => ⟨_, rfl, _, rfl, a, c, z, 2, rfl, hp10, z1, z1000, by decide, by decide, fun H11 l2 sm11 hp11 hl2 hk2 => ⟨(by show 4 ≤ sizeLine; decide), fun L nL => ?_⟩⟩⟩
          refine ⟨a, c, .ref L, _, rfl, hp11.new (o := .lst [.str "", .str ⟨#[c1]⟩, .str (tx l1), .str (tx l2)]) nL, by simp, .inl ⟨L, rfl, SqL.of (sans_of (hp11.ne nL) upd_same)⟩, by show 4 < 1073741824; decide, fun H12 x sm12 hp12 hx => ?_⟩
          have smC := ((smb.trans (sm10.trans sm11)).trans (Sm.new nL)).trans sm12
          obtain ⟨y, rfl, hy⟩ : ∃ y, x = .str y ∧ WordOf z y 3 := by
            simp only [List.mem_cons, List.not_mem_nil, or_false] at hx
            rcases hx with rfl | rfl | rfl | rfl
            · exact ⟨_, rfl, word_empty z 3⟩
            · refine ⟨_, rfl, (by show 1 ≤ 3; decide), fun d hd => ?_⟩
              have hd' : d ∈ [c1] := hd
              rw [List.mem_singleton.mp hd']
              exact hc1z
            · exact ⟨_, rfl, word_tx (by omega) hk1⟩
            · exact ⟨_, rfl, word_tx (by omega) hk2⟩
          refine ⟨_, rfl, _, rfl, _, rfl, _, rfl, a, c, _, rfl, hp12, by omega, by omega, fun H13 g sm13 hp13 g0 g1 => ⟨(by show 3 ≤ sizeLine; decide), fun p np => ?_⟩⟩
          have smD := (smC.trans sm13)
          have smE := smB.trans smD
          obtain ⟨us0, es0, eM, _⟩ := (gB.sm Ma smD).it
          have pM : p ≠ M := (ne_of_none eM np).symm
          have pa := hp13.ne np
          obtain ⟨us1, es1, eS, _⟩ := (gA.sm hSa (smE)).it
          have pS : p ≠ S := (ne_of_none eS np).symm
          have gC := (gB.sm Ma smD).sm Ma (Sm.new (o := .tup [.str y, .str b, .int g]) np)
          have hpC := hp13.new (o := .tup [.str y, .str b, .int g]) np
          have smF := smE.trans (Sm.new (o := .tup [.str y, .str b, .int g]) np)
          have hT : SqT K (out3 (upd H13 p (.tup [.str y, .str b, .int g])) a M S) p [.str y, .str b, .int g] := out3_tup pa pM pS
          revert gC hpC smF hT
          generalize upd H13 p (.tup [.str y, .str b, .int g]) = H14
          intro gC hpC smF hT
          obtain ⟨g, rfl⟩ := Int.eq_ofNat_of_zero_le g0
          have fin : ∀ (H' : Hp) (x : V) (d : PyData), Sm a H14 H' → Pot K H' a c → Dq K (out3 H14 a M S) x d → MoveD z (1 + k) d → ∃ l xs w', V.ref M = .ref l ∧ [x] = [w'] ∧ H' l = some (.lst xs) ∧ xs.length < sizeLine ∧
              ∃ s10 s12 s13 s14 : Option V, [some (V.ref a), some (V.int m), some (V.str z), some (V.int (0 + (i : Int))), none, none, some (V.int (1 + (k : Int))), some (V.int kind), some (V.ref S), some (V.ref M), some (V.str ⟨#[c1]⟩), s11, some (V.str b), some (V.str y), some (V.ref p), none] = [some (.ref a), some (.int m), some (.str z), some (.int (0 + (i : Int))), none, none, some (.int (1 + (k : Int))), some (.int kind), some (.ref S), some (.ref M), s10, s11, s12, s13, s14, none] ∧
                Sm a H5 (upd H' l (.lst (xs ++ [w']))) ∧ Pot K (upd H' l (.lst (xs ++ [w']))) a c ∧ Grows K (upd H' l (.lst (xs ++ [w']))) a M S (j + 1) (MoveD z (1 + k)) := fun H' x d s hp' hx hG => by
            obtain ⟨us, e, lu, gD⟩ := (gC.sm Ma s).add Ma (hx.mono (out3_sm s)) hG
            have smG : Sm a H5 (upd H' M (.lst (us ++ [x]))) := (smF.trans s).upd nM'
            exact ⟨M, us, x, rfl, rfl, e, Nat.lt_of_le_of_lt (show us.length ≤ 4 by have : z.cps.size = z.length := rfl; omega) (by decide), _, _, _, _, rfl, smG, hpA.to smG (hp'.at_.upd Ma), gD⟩
          have hty : ∃ us, SqL K H14 M us := by
            obtain ⟨us, _, e, _⟩ := gC.it
            exact ⟨us, SqL.of e⟩
          refine ⟨_, rfl, .inl ⟨rfl, hty⟩, _, rfl, a, c, 8, rfl, hpC, by decide, by decide, fun H15 k8 sm15 hp15 _ _ => ⟨rfl, _, rfl, ite2 (fun _ => ?_) (fun _ => ⟨_, rfl, ?_⟩)⟩⟩
          · exact fin H15 .non .none sm15 hp15 .non (.inl rfl)
          · exact fin H15 (.ref p) (.tuple [.str y, .str b, .int (g : Int)]) sm15 hp15 (.tup hT (.cons (.str _) (.cons (.str _) (.cons (.int _) .nil)))) (.inr ⟨y, b, g, rfl, hy, hb, by omega⟩)
      · rintro σ H7 ⟨s10, s12, s13, s14, rfl, smB, hpB, gB⟩
        have gB : Grows K H7 a M S z.length (MoveD z (1 + k)) := gB
        refine ⟨fun σ H' => ∃ (lv : V) (ld : PyData), σ = [some (.ref a), some (.int m), some (.str z), some (.int (0 + (i : Int))), none, none, some (.int (1 + (k : Int))), some (.int kind), some (.ref S), some (.ref M), s10, some lv, s12, s13, s14, none] ∧ (∀ G : Hp, Dq K G lv ld) ∧ (ld = .none ∨ ∃ w, ld = .str w ∧ WordOf z w 3) ∧ Sm a H7 H' ∧ Pot K H' a c, ?_, ?_⟩
        · refine ⟨_, rfl, a, c, 5, rfl, hpB, by decide, by decide, fun H8 k5 sm8 hp8 _ _ => ⟨rfl, _, rfl, ite2 (fun _ => ?_) (fun _ => ?_)⟩⟩
          · exact ⟨.non, .none, rfl, fun _ => .non, .inl rfl, sm8, hp8⟩
          · exact ⟨_, rfl, _, rfl, a, c, z, 2, rfl, hp8, z1, z1000, by decide, by decide, fun H9 l sm9 hp9 hl hc => ⟨.str (tx l), .str (tx l), rfl, fun _ => .str _, .inr ⟨tx l, rfl, word_tx (by omega) hc⟩, sm8.trans sm9, hp9⟩⟩
        · rintro σ H8 ⟨lv, ld, rfl, hlv, hld, sm8, hp8⟩
          have smC := smB.trans sm8
          have gC := gB.sm Ma sm8
          obtain ⟨us, es, eM, lM, dM, qM⟩ := gC.it
          have hty : ∃ us, SqL K H8 S us := by
            obtain ⟨us, _, e, _⟩ := (gA.sm hSa smC).it
            exact ⟨us, SqL.of e⟩
          refine ⟨_, rfl, .inl ⟨rfl, hty⟩, _, rfl, M, us, rfl, .inl ⟨SqL.of eM, fun p np => ?_⟩⟩
          have pa := hp8.ne np
          have pM : p ≠ M := (ne_of_none eM np).symm
          obtain ⟨us1, es1, eS, _⟩ := (gA.sm hSa smC).it
          have pS : p ≠ S := (ne_of_none eS np).symm
          have hT1 : Dq K (out3 (upd H8 p (.tup us)) a M S) (.ref p) (.tuple es) := .tup (out3_tup pa pM pS) (dM.mono (out3_sm (Sm.new np)))
          have smD := smC.trans (Sm.new (o := .tup us) np)
          have hpD := hp8.new (o := .tup us) np
          have eS1 : upd H8 p (.tup us) S = some (.lst us1) := (upd_ne pS.symm).trans eS
          have eM1 : upd H8 p (.tup us) M = some (.lst us) := (upd_ne pM.symm).trans eM
          revert hT1 smD hpD eS1 eM1
          generalize upd H8 p (.tup us) = H9
          intro hT1 smD hpD eS1 eM1
          refine ⟨_, rfl, (by show 2 ≤ sizeLine; decide), fun r nr => ?_⟩
          have ra := hpD.ne nr
          have rS : r ≠ S := (ne_of_none eS1 nr).symm
          have rM : r ≠ M := (ne_of_none eM1 nr).symm
          have hT2 : Dq K (out3 (upd H9 r (.tup [.ref p, lv])) a M S) (.ref r) (.tuple [.tuple es, ld]) := .tup (out3_tup ra rM rS) (.cons (hT1.mono (out3_sm (Sm.new nr))) (.cons (hlv _) .nil))
          have smE := smD.trans (Sm.new (o := .tup [.ref p, lv]) nr)
          have hpE := hpD.new (o := .tup [.ref p, lv]) nr
          revert hT2 smE hpE
          generalize upd H9 r (.tup [.ref p, lv]) = H10
          intro hT2 smE hpE
          have hst : StateD z (1 + k) (.tuple [.tuple es, ld]) := ⟨es, ld, rfl, by rw [← dM.length]; exact lM, qM, hld⟩
          obtain ⟨us2, e2, l2, gE⟩ := (gA.sm hSa smE).add hSa (hT2.mono out3_swap) hst
          refine ⟨S, us2, _, rfl, rfl, e2, Nat.lt_of_le_of_lt (show us2.length ≤ 4 by omega) (by decide), ?_⟩
          have smZ : Sm a H (upd H10 S (.lst (us2 ++ [.ref r]))) := (smA.trans smE).upd nS0
          exact ⟨_, _, _, _, _, _, _, rfl, smZ, hp.to smZ (hpE.at_.upd hSa), gE⟩
    · rintro σ H5 ⟨s3, s9, s10, s11, s12, s13, s14, rfl, smA, hpA, gA⟩
      refine ⟨_, rfl, _, rfl, _, rfl, a, c, z, 2, rfl, hpA, z1, z1000, by decide, by decide, fun H6 l sm6 hp6 hl6 hc6 => ?_⟩
      obtain ⟨us, es, eS, lS, dS, qS⟩ := (gA.sm hSa sm6).it
      refine ⟨_, rfl, S, us, rfl, .inl ⟨SqL.of eS, fun p np => ?_⟩⟩
      have s7 := same_new (o := .tup us) np
      refine ⟨(by show 3 ≤ sizeLine; decide), fun r nr => ?_⟩
      have s8 := same_new (o := .tup [.str z, .str (tx l), .ref p]) nr
      have les : es.length = 1 + k := by rw [← dS.length]; exact lS
      have hS6 : DqAll K H6 us es := ((dS.mono sans_same).mono sans_same).mono sans_same
      have dq8 : Dq K (upd (upd H6 p (.tup us)) r (.tup [.str z, .str (tx l), .ref p])) (.ref r) (.tuple [.str z, .str (tx l), .tuple es]) :=
        .tup (SqT.of upd_same) (.cons (.str _) (.cons (.str _) (.cons (.tup (SqT.of (s8 _ _ upd_same)) (hS6.mono (Same.trans s7 s8))) .nil)))
      have hr8 : upd (upd H6 p (.tup us)) r (.tup [.str z, .str (tx l), .ref p]) r = some (.tup [.str z, .str (tx l), .ref p]) := upd_same
      have sA := Same.trans s7 s8
      have eS8 := sA _ _ eS
      have hS8 := hS6.mono sA
      have sm8 := (smA.trans sm6).trans (Sm.of sA)
      have hp8 := hp6.same sA
      revert dq8 hr8 eS8 hS8 sm8 hp8
      generalize upd (upd H6 p (.tup us)) r (.tup [.str z, .str (tx l), .ref p]) = H8
      intro dq8 hr8 eS8 hS8 sm8 hp8
      have hx8 : ExpD (.tuple [.str z, .str (tx l), .tuple es]) := ⟨z, tx l, es, rfl, hz, word_tx (by omega) hc6, by omega, by omega, fun s hs => by rw [les]; exact qS s hs⟩
      refine ⟨_, rfl, _, z, tx l, es, rfl, dq8, hx8.states, fun H9 d s9 nd hsz => ?_⟩
      have ok8 := hx8.states
      have hvals := fun c w => laps_vals ok8 (c := c) (w := w)
      have clE : Closed z es (laps z es (callsOf z es.length) (callsOf z es.length).length []) := Closed.laps _ .nil
      generalize laps z es (callsOf z es.length) (callsOf z es.length).length [] = E at hsz hvals clE
      obtain ⟨kvs, hd9, hkv⟩ := hsz
      have lE := clE.few ok8
      have lk := hkv.len
      have sm9 := sm8.trans (Sm.of s9)
      have hp9 := hp8.same s9
      have fin : ∀ (H' : Hp) (v : V) (e : PyData), Same H9 H' → Dq K H' v e → ExpD e → Sized e → Dq K (sans H' a) v e ∧ ExpD e ∧ Sized e ∧ Sm a H H' ∧ Pot K H' a c := fun H' v e s hv he hsd => by
        have hp' := hp9.same s
        obtain ⟨x, y, w', e0⟩ := hp'.at_
        exact ⟨hv.out e0 he.flat, he, hsd, sm9.trans (Sm.of s), hp'⟩
      refine ⟨fun σ H' => ∃ (v : V) (e : PyData) (s3 s5 s9 s10 s11 s12 s13 s14 : Option V), σ = [some (.ref a), some (.int m), some (.str z), s3, some v, s5, some (.int (1 + (k : Int))), some (.int kind), some (.ref S), s9, s10, s11, s12, s13, s14, none] ∧ Dq K (sans H' a) v e ∧ ExpD e ∧ Sized e ∧ Sm a H H' ∧ Pot K H' a c, ?_, ?_⟩
      · refine ⟨_, rfl, fun p1 np1 => ?_⟩
        have s10 := same_new (o := .dT []) np1
        have hd10 := s10 _ _ hd9
        refine ⟨d, p1, kvs, rfl, rfl, hd10, upd_same, _, rfl, ?_⟩
        revert s10 hd10
        generalize upd H9 p1 (.dT []) = H10
        intro s10 hd10
        have dq10 := dq8.mono (Same.trans s9 s10)
        cases hem : kvs.isEmpty with
        | true =>
          refine iteF (iteF ⟨_, _, _, _, _, _, _, _, _, _, rfl, fin H10 _ _ s10 dq10 hx8 fun z' f' ss' e c w hw => ?_⟩)
          cases e
          have e1 := (hvals c w).1 hw
          have e2 : E = [] := by
            cases kvs with
            | nil =>
              cases E with
              | nil => rfl
              | cons _ _ => cases lk
            | cons _ _ => cases hem
          rw [e2] at e1
          cases e1
        | false =>
          refine iteT ⟨d, .dT kvs, hd10, trivial, fun od => ?_⟩
          have hF : upd H10 d (.frz od (.dT kvs)) d = some (.frz od (.dT kvs)) := upd_same
          have oF : ∀ b o, b ≠ d → H10 b = some o → upd H10 d (.frz od (.dT kvs)) b = some o := fun b o n e => (upd_ne n).trans e
          revert hF oF
          generalize upd H10 d (.frz od (.dT kvs)) = HF
          intro hF oF
          refine ⟨_, rfl, d, od, rfl, .inr ⟨kvs, hF, fun D nD => ?_⟩⟩
          have nDd : D ≠ d := fun e => by
            rw [e, hF] at nD
            cases nD
          refine lc_it walk_keysT (fun j H' => Same HF H' ∧ H' D = some (.lst (((E.take j).map fun e => (e.2.1.length : Int)).map V.int))) ⟨same_new nD, upd_same⟩ (fun _ _ _ p => p.1 _ _ hF) ?_ ?_
          · rintro j x H11 H12 hj ⟨s12, hD⟩ ⟨rfl, kk, w0, q0, hk, rfl, hq⟩
            obtain ⟨c, w, he, ek, _⟩ := hkv.at_ hk
            have ek : kk = ckey c := ek
            subst ek
            rcases hkv.get c with ⟨vv, ww, e5, e6, e7⟩ | ⟨e5, e6⟩
            · rw [clE.lookup ok8 (List.mem_of_getElem? he)] at e6
              cases e6
              obtain ⟨p2, e1, e2⟩ := e7
              obtain ⟨n2, e2⟩ := off_some e2
              have e3 := s12 _ _ (oF _ _ (fun zz => n2 (List.mem_singleton.2 zz)) (s10 _ _ e2))
              refine ⟨rfl, _, rfl, _, rfl, d, vv, rfl, .inr ⟨kvs, _, q0, .inr ⟨od, s12 _ _ hF⟩, rfl, hq, e5.symm⟩, p2, _, 0, _, e1, rfl, SqT.of e3, rfl, _, hD, ?_, ?_, ?_⟩
              · rw [List.length_map, List.length_map, List.length_take]
                exact Nat.lt_of_le_of_lt (Nat.min_le_right _ _) (Nat.lt_of_le_of_lt lE (by decide))
              · exact fun b o e => (upd_ne (ne_of_none e nD)).trans (s12 b o e)
              · rw [upd_same, take_entry he, List.map_append, List.map_append]
                rfl
            · rw [clE.lookup ok8 (List.mem_of_getElem? he)] at e6
              cases e6
          · rintro H11 ⟨s11, hD⟩
            rw [lk, List.take_length] at hD
            refine ⟨s11 _ _ hF, D, _, rfl, SqL.of ((upd_ne nDd).trans hD), ?_, fun mx _ hle => ?_⟩
            · rw [List.length_map, ← lk]
              cases kvs with
              | nil => cases hem
              | cons _ _ => exact Nat.succ_pos _
            · have s12 : Same H9 (upd H11 d (.dT kvs)) := fun b o e => by
                by_cases n : b = d
                · rw [n] at e ⊢
                  rw [hd9] at e
                  rw [upd_same]
                  exact e
                · exact (upd_ne n).trans (s11 _ _ (oF _ _ n (s10 _ _ e)))
              revert s12
              generalize upd H11 d (.dT kvs) = H12
              intro s12
              have dq12 := dq8.mono (Same.trans s9 s12)
              refine ⟨_, _, rfl, rfl, _, rfl, ite2 (fun _ => ?_) (fun small => ?_)⟩
              · have hr12 := s12 _ _ (s9 _ _ hr8)
                have eS12 := s12 _ _ (s9 _ _ eS8)
                have hS12 := hS8.mono (Same.trans s9 s12)
                refine ⟨_, rfl, _, rfl, r, _, 1, _, rfl, rfl, SqT.of hr12, rfl, _, rfl, S, rfl, ⟨_, SqL.of eS12⟩, fun D2 nD2 => ?_⟩
                refine lc_list (xs := us) (fun j H' => Same H12 H' ∧ ∃ vs ds, H' D2 = some (.lst vs) ∧ vs.length = j ∧ DqAll K (sans H' D2) vs ds ∧ ∀ d ∈ ds, StateD z (1 + k) d ∧ PlainS d) ⟨same_new nD2, [], [], upd_same, rfl, .nil, fun _ h => (List.not_mem_nil h).elim⟩ (fun _ _ _ p => SqL.of (p.1 _ _ eS12)) ?_ ?_
                · rintro j x H13 hx ⟨s13, vs, ds, hD2, lv, hA, hG⟩
                  obtain ⟨dx, _, hdx, _, hqx⟩ := dqAll_get' (hS12.mono s13) hx
                  have hj : j < us.length := (List.getElem?_eq_some_iff.mp hx).1
                  refine ⟨rfl, _, rfl, x, dx, z, 1 + k, rfl, hqx, qS dx hdx, z4, fun H14 v' d' s14 hv' hs' hp' => ?_⟩
                  have e14 := s14 _ _ hD2
                  have smP : Sm D2 H14 (upd H14 D2 (.lst (vs ++ [v']))) := Sm.pot
                  refine ⟨vs, e14, ?_, fun b o e => (upd_ne (ne_of_none e nD2)).trans (s14 _ _ (s13 b o e)), vs ++ [v'], ds ++ [d'], upd_same, ?_, ?_, ?_⟩
                  · rw [lv]
                    exact Nat.lt_of_lt_of_le (show j < 300 by omega) (by decide)
                  · rw [List.length_append, lv]
                    rfl
                  · exact ((hA.mono (Sm.of s14)).mono smP).append (.cons ((hv'.out e14 hs'.flat).mono smP) .nil)
                  · intro e he
                    rcases List.mem_append.mp he with h | h
                    · exact hG e h
                    · rw [List.mem_singleton.mp h]
                      exact ⟨hs', hp'⟩
                · rintro H13 ⟨s13, vs, ds, hD2, lv, hA, hG⟩
                  refine ⟨D2, vs, rfl, .inl ⟨SqL.of hD2, fun p2 np2 => ?_⟩⟩
                  have s14 := same_new (o := .tup vs) np2
                  refine ⟨(by show 3 ≤ sizeLine; decide), fun r2 nr2 => ?_⟩
                  have s15 := same_new (o := .tup [.str z, .str (tx l), .ref p2]) nr2
                  have lds : ds.length = 1 + k := by rw [← hA.length, lv, lS]
                  have hA' : DqAll K H13 vs ds := hA.mono sans_same
                  have dq15 : Dq K (upd (upd H13 p2 (.tup vs)) r2 (.tup [.str z, .str (tx l), .ref p2])) (.ref r2) (.tuple [.str z, .str (tx l), .tuple ds]) :=
                    .tup (SqT.of upd_same) (.cons (.str _) (.cons (.str _) (.cons (.tup (SqT.of (s15 _ _ upd_same)) (hA'.mono (Same.trans s14 s15))) .nil)))
                  exact ⟨_, _, _, _, _, _, _, _, _, _, rfl, fin _ _ _ (Same.trans s12 (Same.trans s13 (Same.trans s14 s15))) dq15 ⟨z, tx l, ds, rfl, hz, word_tx (by omega) hc6, by omega, by omega, fun s hs => by rw [lds]; exact (hG s hs).1⟩ fun z' f' ss' e c w hw => by
                    cases e
                    exact plain_sized (fun s hs => (hG s hs).1) (fun s hs => (hG s hs).2) hw⟩
              · exact ⟨_, _, _, _, _, _, _, _, _, _, rfl, fin H12 _ _ s12 dq12 hx8 fun z' f' ss' e c w hw => by
                  cases e
                  have e1 := look_mem ((hvals c w).1 hw)
                  have e2 := hle (w.1.length : Int) (List.mem_map.2 ⟨_, e1, rfl⟩)
                  have e3 : ¬ (30 : Int) < mx := fun h => small (decide_eq_true h)
                  omega⟩
      · rintro σ H10 ⟨v, e, s3, s5, s9, s10, s11, s12, s13, s14, rfl, dq, he, hsd, sm, hpq⟩
        exact ⟨_, rfl, q H10 v e sm hpq dq he hsd⟩
end
end K12

namespace K12
open PySem PySem.Spec PyProof.Rows L2 G Lk
section
variable {P : Program} {w : World} {K : PySem.W.Frag} {mg : Str → Option Value} {base : Heap}
/-- texts of just so many signs; of up to so many -/
def rowT (z : List Nat) : Nat → List (List Nat)
  | 0 => [[]]
  | n + 1 => (rowT z n).flatMap fun t => z.map fun c => t ++ [c]
def textsT (z : List Nat) : Nat → List (List Nat)
  | 0 => [[]]
  | n + 1 => textsT z n ++ rowT z (n + 1)
def strsV (l : List (List Nat)) : List V := l.map fun t => V.str (tx t)
theorem rowT_len {z : List Nat} : ∀ {n : Nat}, ∀ t ∈ rowT z n, t.length = n
  | 0, t, h => by
    rw [List.mem_singleton.1 (show t ∈ [[]] from h)]
    rfl
  | n + 1, t, h => by
    obtain ⟨u, hu, hc⟩ := List.mem_flatMap.1 (show t ∈ (rowT z n).flatMap _ from h)
    obtain ⟨c, _, rfl⟩ := List.mem_map.1 hc
    rw [List.length_append, rowT_len u hu]
    rfl
theorem textsT_len {z : List Nat} : ∀ {n B : Nat}, (∀ i ≤ n, (rowT z i).length ≤ B) → 1 ≤ B → (textsT z n).length ≤ B * (n + 1)
  | 0, B, h, hB => by
    show 1 ≤ B * (0 + 1)
    omega
  | n + 1, B, h, hB => by
    have h1 := textsT_len (n := n) (fun i hi => h i (by omega)) hB
    have h2 := h (n + 1) (Nat.le_refl _)
    show (textsT z n ++ rowT z (n + 1)).length ≤ B * (n + 1 + 1)
    rw [List.length_append, Nat.mul_succ]
    omega
theorem flat_len (z : List Nat) : ∀ l : List (List Nat), (l.flatMap fun t => z.map fun c => t ++ [c]).length = l.length * z.length
  | [] => by
    rw [List.length_nil, Nat.zero_mul]
    rfl
  | t :: l => by
    rw [List.flatMap_cons, List.length_append, flat_len z l, List.length_map, List.length_cons, Nat.succ_mul]
    omega
theorem strsV_len (l : List (List Nat)) : (strsV l).length = l.length := List.length_map _
def sp_Ltexts (K : PySem.W.Frag) : Sp := fun vs H Q _ => ∃ (z : Str) (m : Nat), vs = [.str z, .int (m : Int)] ∧ m ≤ 8 ∧ z.length ≤ 4 ∧ (∀ i ≤ m, (rowT z.cps.toList i).length ≤ 1024) ∧
  ∀ (H' : Hp) (r : Addr), Same H H' → H r = none → H' r = some (.lst (strsV (textsT z.cps.toList m))) → Q (.ref r) H'
/-- def _law_texts(signs, limit): -/
theorem ok_Ltexts (T : Tx K mg) : FnOk P w K mg base CX0 1 T.a__law_texts T.fd__law_texts ["signs", "limit"] (sp_Ltexts K) := by
  refine T.F__law_texts.ok sc_Ltexts (fun vs H Q E h => ?_) (fun cdv A outer s H vs Q E hr h => ?_)
  · obtain ⟨_, _, rfl, _⟩ := h
    rfl
  · refine ⟨_, (pss_cons (ps_par (i := 3) (j := 4) (by rfl) sc_Ltexts.nd rfl rfl (by decide) rfl rfl (pa_cons (pe_lst (pa_cons pe_str pa_nil)) (pa_cons (pe_lst (pa_cons pe_str pa_nil)) pa_nil)) (by rfl))
    (pss_cons (ps_for PassesOwn.never rfl (pi_range1 (by rfl) T.z_range (pa_cons (pv 1) pa_nil)) (pg_name (i := 2) sc_Ltexts.nd rfl (by first | exact Or.inl rfl | exact Or.inr rfl))
      (pss_cons (ps_set (i := 5) sc_Ltexts.nd rfl (by first | exact Or.inl rfl | exact Or.inr rfl) (pe_lst pa_nil))
    (pss_cons (ps_for PassesOwn.never rfl (pi_list (pv 4)) (pg_name (i := 6) sc_Ltexts.nd rfl (by first | exact Or.inl rfl | exact Or.inr rfl))
      (pss_one (ps_set (i := 5) sc_Ltexts.nd rfl (by first | exact Or.inl rfl | exact Or.inr rfl) (pe_op op_cat (pv 5) (pe_lc (own := [("sign", 7)]) (g := gName 7) (by rfl) sc_Ltexts.nd (pi_str (pv 0)) (blkOk_by (own := [("sign", 7)]) (N := N_Ltexts) (sc := defScope s_Ltexts) (by decide +kernel)) (fun _ _ _ _ _ => pg_name (i := 7) sc_Ltexts.nd rfl (by first | exact Or.inl rfl | exact Or.inr rfl)) (fun _ _ _ _ _ => pts_nil) (fun _ _ _ _ _ => (pe_op op_add_str (pv 6) (pv 7))))))))
    (pss_one (ps_par (i := 3) (j := 4) (by rfl) sc_Ltexts.nd rfl rfl (by decide) rfl rfl (pa_cons (pe_op op_cat (pv 3) (pv 5)) (pa_cons (pv 5) pa_nil)) (by rfl))))))
    (pss_one (ps_ret (pv 3))))), ?_⟩
    obtain ⟨z, m, rfl, m8, z4, hr', q⟩ := h
    have m1 : (1 : Nat) ≤ sizeLine := by decide
    have big : ∀ n : Nat, n ≤ 5000000 → n ≤ sizeLine := fun n h => Nat.le_trans h (by decide)
    refine ⟨m1, fun F nF => ?_⟩
    have s1 := same_new (o := .lst [.str ""]) nF
    refine ⟨m1, fun R nR => ⟨_, _, rfl, ?_⟩⟩
    have s2 := same_new (o := .lst [.str ""]) nR
    have hF2 := s2 _ _ (show upd H F (.lst [.str ""]) F = some (.lst [.str ""]) from upd_same)
    have hR2 : upd (upd H F (.lst [.str ""])) R (.lst [.str ""]) R = some (.lst [.str ""]) := upd_same
    have s12 := Same.trans s1 s2
    revert hF2 hR2 s12
    generalize upd (upd H F (.lst [.str ""])) R (.lst [.str ""]) = H2
    intro hF2 hR2 s12
    have zl : z.cps.toList.length = z.length := by simp [Str.length]
    have e0 : ([.str ""] : List V) = strsV [[]] := rfl
    rw [e0] at hF2 hR2
    refine ⟨_, rfl, (m : Int), rfl, by omega, by omega, ?_⟩
    rw [Int.toNat_natCast]
    refine for_range (n := m) (fun i σ H' => ∃ (F R : Addr) (s2 s5 s6 : Option V), σ = [some (.str z), some (.int (m : Int)), s2, some (.ref F), some (.ref R), s5, s6, none] ∧ Same H H' ∧ H F = none ∧ H' F = some (.lst (strsV (textsT z.cps.toList i))) ∧ H' R = some (.lst (strsV (rowT z.cps.toList i))))
      ⟨F, R, _, _, _, rfl, s12, nF, hF2, hR2⟩ ?_ ?_
    · clear nF nR hF2 hR2 s12 s1 s2
      rintro i σ H3 hi ⟨F, R, s2, s5, s6, rfl, s3, nF, hF, hR⟩
      have lrow : (rowT z.cps.toList i).length ≤ 1024 := hr' i (by omega)
      have ltx : (textsT z.cps.toList i).length ≤ 1024 * (i + 1) := textsT_len (fun k hk => hr' k (by omega)) (by decide)
      refine ⟨Nat.zero_le _, fun L0 n0 => ?_⟩
      have s4 := same_new (o := .lst []) n0
      have hL0 : upd H3 L0 (.lst []) L0 = some (.lst []) := upd_same
      revert s4 hL0
      generalize upd H3 L0 (.lst []) = H4
      intro s4 hL0
      have hR4 := s4 _ _ hR
      refine ⟨_, rfl, R, rfl, ⟨_, SqL.of hR4⟩, for_list (xs := strsV (rowT z.cps.toList i)) (fun j σ H' => ∃ (L : Addr) (s6 : Option V), σ = [some (.str z), some (.int (m : Int)), some (.int (0 + (i : Int))), some (.ref F), some (.ref R), some (.ref L), s6, none] ∧ Same H4 H' ∧ H' L = some (.lst (strsV (((rowT z.cps.toList i).take j).flatMap fun t => z.cps.toList.map fun c => t ++ [c]))))
        ⟨L0, _, rfl, Same.refl _, hL0⟩ (fun j σ H' _ ⟨_, _, _, s, _⟩ => SqL.of (s _ _ hR4)) ?_ ?_⟩
      · rintro j x σ H5 hx ⟨L, s6', rfl, s5', hL⟩
        have hx : (strsV (rowT z.cps.toList i))[j]? = some x := hx
        unfold strsV at hx
        rw [List.getElem?_map] at hx
        obtain ⟨t, htj, rfl⟩ := Option.map_eq_some_iff.1 hx
        have tl : t.length = i := rowT_len t (List.mem_of_getElem? htj)
        have eT : (rowT z.cps.toList i).take (j + 1) = (rowT z.cps.toList i).take j ++ [t] := by
          rw [List.take_add_one, htj]
          rfl
        refine ⟨_, rfl, _, rfl, z, rfl, fun D nD => ?_⟩
        refine lc_it walk_str (fun k H' => Same H5 H' ∧ H' D = some (.lst (strsV ((z.cps.toList.take k).map fun c => t ++ [c])))) ⟨same_new nD, upd_same⟩ (fun _ _ _ _ => trivial) ?_ ?_
        · rintro k x H6 H7 hk ⟨s6, hD⟩ ⟨rfl, c, hc, rfl⟩
          have hcl : z.cps.toList[k]? = some c := by simpa using hc
          have hk : k < z.length := hk
          have ecat : tx t ++ (⟨#[c]⟩ : Str) = tx (t ++ [c]) := str_ext (by
            show ((tx t).cps ++ #[c]).toList = (tx (t ++ [c])).cps.toList
            simp)
          refine ⟨rfl, _, rfl, _, rfl, tx t, ⟨#[c]⟩, rfl, rfl, ?_, _, hD, ?_, fun b o e => (upd_ne (ne_of_none e nD)).trans (s6 b o e), ?_⟩
          · rw [tx_len]
            show t.length + 1 ≤ sizeLine
            exact big _ (by omega)
          · rw [strsV_len, List.length_map, List.length_take]
            exact Nat.lt_of_lt_of_le (show min k z.cps.toList.length < 300 by omega) (by decide)
          · rw [upd_same, take_snoc hcl, List.map_append, ecat]
            unfold strsV
            rw [List.map_append]
            rfl
        rintro H6 ⟨s6, hD⟩
        have ezt : z.cps.toList.take z.cps.size = z.cps.toList := List.take_of_length_le (by simp)
        rw [ezt] at hD
        have hj : j < (rowT z.cps.toList i).length := (List.getElem?_eq_some_iff.mp htj).1
        refine ⟨L, D, _, _, rfl, rfl, s6 _ _ hL, hD, ?_, fun L' nL' => ?_⟩
        · rw [strsV_len, strsV_len, flat_len, List.length_take, List.length_map]
          have := Nat.mul_le_mul (show min j (rowT z.cps.toList i).length ≤ 1024 by omega) (show z.cps.toList.length ≤ 4 by omega)
          exact big _ (by omega)
        · refine ⟨L', _, rfl, Same.trans s5' (Same.trans s6 (same_new nL')), ?_⟩
          rw [upd_same, eT, List.flatMap_append]
          unfold strsV
          rw [List.map_append]
          congr 3
          show _ = (([t] : List (List Nat)).flatMap _).map _
          rw [List.flatMap_cons, List.flatMap_nil, List.append_nil]
      · rintro σ H5 ⟨L, s6', rfl, s5', hL⟩
        rw [strsV_len, List.take_length] at hL
        have hL : H5 L = some (.lst (strsV (rowT z.cps.toList (i + 1)))) := hL
        have hF5 := s5' _ _ (s4 _ _ hF)
        have l2 := hr' (i + 1) (by omega)
        refine ⟨_, rfl, _, rfl, F, L, _, _, rfl, rfl, hF5, hL, ?_, fun F' nF' => ⟨_, rfl, _, _, rfl, ?_⟩⟩
        · rw [strsV_len, strsV_len]
          exact big _ (by omega)
        · have s7 := same_new (o := .lst (strsV (textsT z.cps.toList i) ++ strsV (rowT z.cps.toList (i + 1)))) nF'
          have s05 := Same.trans s3 (Same.trans s4 s5')
          refine ⟨F', L, _, _, _, rfl, Same.trans s05 s7, ?_, ?_, s7 _ _ hL⟩
          · cases e : H F' with
            | none => rfl
            | some o =>
              rw [s05 _ _ e] at nF'
              cases nF'
          · rw [upd_same]
            show _ = some (HO.lst (strsV (textsT z.cps.toList i ++ rowT z.cps.toList (i + 1))))
            unfold strsV
            rw [List.map_append]
    · rintro σ H3 ⟨F, R, s2, s5, s6, rfl, s3, nF, hF, hR⟩
      exact ⟨_, rfl, q H3 F s3 nF hF⟩
end
end K12

namespace K12
open PySem PySem.Spec PyProof.Rows L2 G Lk
section
variable {P : Program} {w : World} {K : PySem.W.Frag} {mg : Str → Option Value} {base : Heap}
def sp_short_values (K : PySem.W.Frag) : Sp := fun vs H Q _ => ∃ (v : V) (d1 : Addr) (z f : Str) (ss : List PyData) (E : Ent), vs = [v, .ref d1] ∧ Dq K (off [d1] H) v (.tuple [.str z, .str f, .tuple ss]) ∧ StatesOk z ss ∧ Found [d1] H d1 E ∧ Closed z ss E ∧
  ∀ (H' : Hp) (d : Addr), Same H H' → H d = none → ValD [d] H' d (shortE E) → Q (.ref d) H'
/-- def short_values(expander, sizes): -/
theorem ok_short_values (T : Tx K mg) : FnOk P w K mg base CX0 2 T.a_short_values T.fd_short_values ["expander", "sizes"] (sp_short_values K) := by
  refine T.F_short_values.ok sc_short_values (fun vs H Q E h => ?_) (fun cdv A outer s H vs Q E hr h => ?_)
  · obtain ⟨_, _, _, _, _, _, rfl, _⟩ := h
    rfl
  · refine ⟨_, (pss_cons (ps_set (i := 2) sc_short_values.nd rfl (by first | exact Or.inl rfl | exact Or.inr rfl) pe_dnewT)
    (pss_cons (ps_lock (ps_for PassesOwn.never rfl (pi_itemsT (pv 1)) (pg_tup rfl (pgs_cons (pg_name (i := 3) sc_short_values.nd rfl (by first | exact Or.inl rfl | exact Or.inr rfl)) (pgs_cons (pg_tup rfl (pgs_cons (pg_name (i := 6) sc_short_values.nd rfl (by first | exact Or.inl rfl | exact Or.inr rfl)) (pgs_cons (pg_name (i := 7) sc_short_values.nd rfl (by first | exact Or.inl rfl | exact Or.inr rfl)) pgs_nil))) pgs_nil)))
      (pss_cons (ps_if (pt_cmpR op_gt (pv 6) (pe_glob (v := .int 2000) (by rfl) T.m_MOST_WORD ⟨_, rfl⟩) (nomark _))
      (pss_one ps_continue)
      pss_nil)
    (pss_cons (ps_asg (pe_call (ok_move_of T) (hr.mono (by decide)) (by rfl) T.g_move_of T.F_move_of.kp T.b_move_of .nil pass0 (pa_cons (pv 0) (pa_cons (pe_ix ix_tup (pv 3) pe_int (fun _ _ => rfl)) (pa_cons (pe_ix ix_tup (pv 3) pe_int (fun _ _ => rfl)) pa_nil)))) (pg_tup rfl (pgs_cons (pg_name (i := 8) sc_short_values.nd rfl (by first | exact Or.inl rfl | exact Or.inr rfl)) (pgs_cons (pg_name (i := 9) sc_short_values.nd rfl (by first | exact Or.inl rfl | exact Or.inr rfl)) (pgs_cons (pg_name (i := 10) sc_short_values.nd rfl (by first | exact Or.inl rfl | exact Or.inr rfl)) pgs_nil)))))
    (pss_cons (ps_set (i := 4) sc_short_values.nd rfl (by first | exact Or.inl rfl | exact Or.inr rfl) (pe_lst (pa_cons (pv 8) pa_nil)))
    (pss_cons (ps_for PassesOwn.never rfl (pi_str (pv 9)) (pg_name (i := 5) sc_short_values.nd rfl (by first | exact Or.inl rfl | exact Or.inr rfl))
      (pss_cons (ps_asg (pe_dget (unit1 hr.units) (pv 2) (pe_tup (pa_cons (pv 10) (pa_cons (pv 5) pa_nil))) (fun _ _ => rfl)) (pg_tup rfl (pgs_cons (pg_name (i := 11) sc_short_values.nd rfl (by first | exact Or.inl rfl | exact Or.inr rfl)) (pgs_cons (pg_name (i := 10) sc_short_values.nd rfl (by first | exact Or.inl rfl | exact Or.inr rfl)) pgs_nil))))
    (pss_one (ps_expr (pe_bm PySem.F.plainAttrs_list PySem.F.slot_list_append PySem.F.type_list_append mt_append (pv 4) (pa_cons (pv 11) pa_nil))))))
    (pss_one (ps_dput (unit1 hr.units) (pv 2) (pv 3) (pe_tup (pa_cons (pe_join pe_str (pv 4)) (pa_cons (pv 10) pa_nil))) (by rfl)))))))))
    (pss_one (ps_ret (pv 2))))), ?_⟩
    obtain ⟨v, d1, z, f, ss, E, rfl, hv, ok, ⟨kvs, hd1, hE1⟩, cl, q⟩ := h
    have lE := cl.few ok
    have lk := hE1.len
    intro d2 nd2
    have s4 := same_new (o := .dT []) nd2
    have hd4 : upd H d2 (.dT []) d2 = some (.dT []) := upd_same
    revert s4 hd4
    generalize upd H d2 (.dT []) = H4
    intro s4 hd4
    have d12 : d1 ≠ d2 := fun e => by
      rw [← e, hd1] at nd2
      cases nd2
    have hd14 := s4 _ _ hd1
    refine ⟨d1, _, hd14, trivial, fun od2 => ?_⟩
    have kG : Keep [d1] H4 (upd H4 d1 (.frz od2 (.dT kvs))) := Keep.pot List.mem_cons_self
    have hG : upd H4 d1 (.frz od2 (.dT kvs)) d1 = some (.frz od2 (.dT kvs)) := upd_same
    have hd5 : upd H4 d1 (.frz od2 (.dT kvs)) d2 = some (.dT []) := (upd_ne d12.symm).trans hd4
    revert kG hG hd5
    generalize upd H4 d1 (.frz od2 (.dT kvs)) = HG
    intro kG hG hd5
    have k1G : Keep [d1] H HG := (Keep.of s4).trans kG
    have hEG := hE1.mono k1G
    refine ⟨_, rfl, d1, od2, kvs, rfl, hG, ?_⟩
    refine for_it walk_itemsT (fun i σ H' => ∃ s3 s4 s5 s6 s7 s8 s9 s10 s11 : Option V, σ = [some v, some (.ref d1), some (.ref d2), s3, s4, s5, s6, s7, s8, s9, s10, s11] ∧ Keep [d2] HG H' ∧ ValD [d2] H' d2 (shortE (E.take i)))
      ⟨_, _, _, _, _, _, _, _, _, rfl, Keep.refl, [], hd5, .nil⟩ (fun _ _ _ _ ⟨_, _, _, _, _, _, _, _, _, _, k, _⟩ => k.at_ (fun zz => d12 (List.mem_singleton.1 zz)) hG) ?_ ?_
    · rintro i x σ H5' H5 hi ⟨s3', s4', s5', s6', s7', s8', s9', s10', s11', rfl, k5', hV5'⟩ ⟨pT, qa, k, vv, hk, rfl, nT, hq, rfl⟩
      obtain ⟨c, w, he, ek, p, ep, hp⟩ := hEG.at_ hk
      have ek : k = ckey c := ek
      subst ek
      have ep : vv = .ref p := ep
      subst ep
      have hq : H5' qa = some (.tup [.int (c.1 : Int), .str (Ls.one c.2)]) := hq
      have sT := same_new (o := .tup [.ref qa, .ref p]) nT
      have hT : upd H5' pT (.tup [.ref qa, .ref p]) pT = some (.tup [.ref qa, .ref p]) := upd_same
      have k5 : Keep [d2] HG (upd H5' pT (.tup [.ref qa, .ref p])) := k5'.trans (Keep.of sT)
      have hV5 := hV5'.same sT
      have hq := sT _ _ hq
      revert hT k5 hV5 hq
      generalize upd H5' pT (.tup [.ref qa, .ref p]) = H5
      intro hT k5 hV5 hq
      have hp5 := k5.at_ (fun zz => by
        have hp := (off_some hp).2
        rw [List.mem_singleton.1 zz, hd5] at hp
        cases hp) (off_some hp).2
      obtain ⟨m, hn, hm, hr⟩ := cl.at_ he
      have clT := cl.take i
      obtain ⟨gc, xw, yw, emv, ex, ey, lx, ly, ax, ay, hg⟩ := mv_ok ok hm
      obtain ⟨ms, lst, kk, rst, e1, e2, e3⟩ := move_is (f := f) ok gc
      have hv5 : Dq K H5 v (.tuple [.str z, .str f, .tuple ss]) := hv.mono fun b o e => by
        obtain ⟨n1, e⟩ := off_some e
        exact k5.at_ (fun zz => by
          rw [List.mem_singleton.1 zz, nd2] at e
          cases e) (kG.at_ n1 (s4 _ _ e))
      refine ⟨pT, _, rfl, SqT.of hT, rfl, _, _, rfl, _, _, rfl, p, _, rfl, SqT.of hp5, rfl, _, _, rfl, _, _, rfl, rfl, rfl, ?_⟩
      refine ⟨_, rfl, _, _, rfl, rfl, _, rfl, ?_⟩
      by_cases lw : 2000 < w.1.length
      · refine if_true (decide_eq_true (show (2000 : Int) < (w.1.length : Int) by omega)) ?_
        refine ⟨_, _, _, _, _, _, _, _, _, rfl, k5, ?_⟩
        rw [take_entry he, shortE_long lw]
        exact hV5
      refine if_false (decide_eq_false (show ¬ (2000 : Int) < (w.1.length : Int) by omega)) ?_
      have lv : w.1.length ≤ 2000 := Nat.le_of_not_lt lw
      refine ⟨_, rfl, _, rfl, qa, _, 0, _, rfl, rfl, SqT.of hq, rfl, _, rfl, qa, _, 1, _, rfl, rfl, SqT.of hq, rfl, ?_⟩
      refine ⟨v, _, _, _, _, _, moveD z ss c.1 c.2, rfl, hv5, .int _, .str _, ⟨z, f, ss, c.1, Ls.one c.2, ms, lst, kk, rst, rfl, rfl, rfl, e1, e2, e3⟩, fun mr hmr => ?_⟩
      rw [emv] at hmr
      obtain ⟨pm, rfl, hpm⟩ := standV (a := xw) (b := yw) (s := m.2.2) hmr
      refine ⟨pm, _, rfl, hpm, rfl, _, _, rfl, _, _, rfl, _, _, rfl, rfl, ?_⟩
      refine ⟨_, rfl, (by show 1 ≤ sizeLine; decide), fun D2 nD2 => ?_⟩
      have s7 := same_new (o := .lst [.str xw]) nD2
      have hD7 : upd H5 D2 (.lst [.str xw]) D2 = some (.lst [.str xw]) := upd_same
      revert s7 hD7
      generalize upd H5 D2 (.lst [.str xw]) = H7
      intro s7 hD7
      obtain ⟨kvs7, hd7, hV7⟩ := hV5.same s7
      have hq7 := s7 _ _ hq
      have D2d : D2 ≠ d2 := fun e => by
        rw [e, hd7] at hD7
        cases hD7
      have D2q : D2 ≠ qa := fun e => by
        rw [e, hq7] at hD7
        cases hD7
      have hV7' : VlE (off [d2, D2] H7) kvs7 (shortE (E.take i)) := hV7.any fun a ha => by
        rcases List.mem_cons.1 ha with rfl | ha
        · exact .dT hd7
        · rw [List.mem_singleton.1 ha]
          exact .lst hD7
      have exl : xw.cps.toList = m.1 := ex.symm
      have k07 := k5.trans (Keep.of s7)
      refine ⟨_, rfl, yw, rfl, ?_⟩
      refine for_it walk_str (fun j σ H' => ∃ (s5 s11 : Option V) (g : Nat) (ps : List Str) (u : List Nat), σ = [some v, some (.ref d1), some (.ref d2), some (.ref qa), some (.ref D2), s5, some (.int (w.1.length : Int)), some (.int (w.2 : Int)), some (.str xw), some (.str yw), some (.int (g : Int)), s11] ∧
        Keep [D2] H7 H' ∧ H' D2 = some (.lst (ps.map V.str)) ∧ ps.length = j + 1 ∧ catS ps = u ∧ rd (look (E.take i)) (m.2.1.take j) (m.1, m.2.2) = some (u, g) ∧ u.length ≤ 2000)
        ⟨_, _, m.2.2, [xw], m.1, rfl, Keep.refl, hD7, rfl, by unfold catS; rw [List.map_cons, List.map_nil, exl]; simp, by rw [List.take_zero]; rfl, ?_⟩ (fun _ _ _ _ _ => trivial) ?_ ?_
      · rw [ex]
        simpa [Str.length] using lx
      · rintro j y σ H8 H9 hj ⟨s5, s11, g, ps, u, rfl, k8, hD8, lps, eps, hrd, lu⟩ ⟨rfl, c1, hc1, rfl⟩
        have hc1 : m.2.1[j]? = some c1 := by
          rw [ey]
          simpa using hc1
        obtain ⟨v1, ev1, hrd1, lu1⟩ := rd_at hr hc1 hrd
        have ev1 : look (shortE (E.take i)) (g, c1) = some v1 := (look_shortE clT _ _).2 ⟨ev1, by
          rw [List.length_append] at lu1
          omega⟩
        have hd8 := k8.at_ (fun zz => D2d.symm (List.mem_singleton.1 zz)) hd7
        refine ⟨_, rfl, _, rfl, _, rfl, (by show 2 ≤ sizeLine; decide), fun pk npk => ?_⟩
        have s9 := same_new (o := .tup [.int (g : Int), .str ⟨#[c1]⟩]) npk
        have hpk : CallAt (upd H9 pk (.tup [.int (g : Int), .str ⟨#[c1]⟩])) pk (g, c1) := upd_same
        revert s9 hpk
        generalize upd H9 pk (.tup [.int (g : Int), .str ⟨#[c1]⟩]) = H10
        intro s9 hpk
        have k10 : Keep [D2] H7 H10 := k8.trans (Keep.of s9)
        rcases hV7'.get (g, c1) with ⟨vv1, ww1, e5, e6, e7⟩ | ⟨e5, e6⟩
        · rw [ev1] at e6
          obtain rfl := Option.some.inj e6
          refine ⟨d2, vv1, rfl, ?_, ?_⟩
          · rw [← e5]
            exact DGet.t (k := ckey (g, c1)) (s9 _ _ hd8) hpk.key
          · obtain ⟨pw, rfl, e8⟩ := e7
            obtain ⟨npw, e8⟩ := off_some e8
            have e9 := k10.at_ (fun zz => npw (List.mem_cons_of_mem _ zz)) e8
            have hD10 := s9 _ _ hD8
            refine ⟨pw, _, rfl, SqT.of e9, rfl, _, _, rfl, _, _, rfl, rfl, ?_⟩
            refine ⟨_, rfl, .inl ⟨rfl, _, SqL.of hD10⟩, _, rfl, D2, _, _, rfl, rfl, hD10, ?_, ?_⟩
            · rw [List.length_map, lps]
              have hj' : j < yw.length := hj
              exact Nat.lt_of_lt_of_le (show j + 1 < 3000 by omega) (by decide)
            · refine ⟨_, _, v1.2, ps ++ [tx v1.1], u ++ v1.1, rfl, k10.trans (Keep.pot List.mem_cons_self), ?_, by rw [List.length_append, lps]; rfl, by rw [cat_snoc, eps], hrd1, ?_⟩
              · rw [upd_same, List.map_append]
                rfl
              · exact Nat.le_trans lu1 lv
        · rw [ev1] at e6
          cases e6
      · rintro σ H8 ⟨s5, s11, g, ps, u, rfl, k8, hD8, lps, eps, hrd, lu⟩
        have et : m.2.1.take yw.cps.size = m.2.1 := List.take_of_length_le (by rw [ey]; simp)
        rw [et, hr] at hrd
        cases hrd
        refine ⟨⟨_, rfl⟩, _, rfl, tx [], D2, ps, rfl, rfl, .inl (SqL.of hD8), ?_, ?_⟩
        · rw [sum_cat, eps]
          show _ + _ * 0 ≤ _
          omega
        rw [join_empty, eps]
        refine ⟨_, rfl, (by show 2 ≤ sizeLine; decide), fun pn np => ?_⟩
        have s9 := same_new (o := .tup [.str (tx u), .int (g : Int)]) np
        have hpn : upd H8 pn (.tup [.str (tx u), .int (g : Int)]) pn = some (.tup [.str (tx u), .int (g : Int)]) := upd_same
        revert s9 hpn
        generalize upd H8 pn (.tup [.str (tx u), .int (g : Int)]) = H9
        intro s9 hpn
        have k10 : Keep [D2] H7 H9 := k8.trans (Keep.of s9)
        have hd10 := k10.at_ (fun zz => D2d.symm (List.mem_singleton.1 zz)) hd7
        have hq10 : CallAt H9 qa c := k10.at_ (fun zz => D2q.symm (List.mem_singleton.1 zz)) hq7
        have lk7 := hV7.len
        have l7 : kvs7.length < 300 := by
          rw [lk7]
          refine Nat.lt_of_le_of_lt (shortE_len _) ?_
          rw [List.length_take]
          omega
        refine ⟨_, rfl, _, rfl, d2, _, rfl, DPut.t (k := ckey c) hd10 hq10.key (Nat.lt_trans l7 (by decide)), ?_⟩
        have npn : pn ∉ [d2] := fun zz => by
          rw [List.mem_singleton.1 zz, hd10] at hpn
          cases hpn
        have kP : Keep [d2] H9 (upd H9 d2 (.dT (putK kvs7 (ckey c) (.ref pn)))) := Keep.pot List.mem_cons_self
        have hV10 : VlE (off [d2] H9) kvs7 (shortE (E.take i)) := by
          have h1 : VlE (off [d2, D2] H9) kvs7 (shortE (E.take i)) := hV7'.mono (k10.more fun a ha => List.mem_cons_of_mem _ ha)
          exact h1.any fun a ha => by
            rw [List.mem_singleton.1 ha]
            exact .dT hd10
        have hn' : look (shortE (E.take i)) c = none := by
          cases e : look (shortE (E.take i)) c with
          | none => rfl
          | some u =>
            have := ((look_shortE clT c u).1 e).1
            rw [hn] at this
            cases this
        refine ⟨_, _, _, _, _, _, _, _, _, rfl, ?_, _, upd_same, ?_⟩
        · have kA : Keep [d2] H5 H9 := Keep.drop s7 k10 fun a ha => .inr (by rw [List.mem_singleton.1 ha]; exact nD2)
          exact k5.trans (kA.trans kP)
        · rw [take_entry he, shortE_snoc lv]
          exact ((hV10.put hn' ⟨pn, rfl, off_of npn hpn⟩).mono kP)
    · rintro σ H5 ⟨s3', s4', s5', s6', s7', s8', s9', s10', s11', rfl, k5, hV5⟩
      have hG5 := k5.at_ (fun zz => d12 (List.mem_singleton.1 zz)) hG
      refine ⟨hG5, _, rfl, ?_⟩
      rw [lk, List.take_length] at hV5
      have kU : Keep [d1] H5 (upd H5 d1 (.dT kvs)) := Keep.pot List.mem_cons_self
      have hV6 : ValD [d2] (upd H5 d1 (.dT kvs)) d2 (shortE E) := by
        obtain ⟨kv5, h1, h2⟩ := hV5
        refine ⟨kv5, (upd_ne d12.symm).trans h1, ?_⟩
        have h3 : VlE (off [d1] H5) kv5 (shortE E) := h2.any fun a ha => by
          rw [List.mem_singleton.1 ha]
          exact fun xs e => by
            rw [hG5] at e
            cases e
        exact (h3.mono kU).any fun a ha => by
          rw [List.mem_singleton.1 ha]
          exact .dT ((upd_ne d12.symm).trans h1)
      refine q (upd H5 d1 (.dT kvs)) d2 (fun b o e => ?_) nd2 hV6
      by_cases nb1 : b = d1
      · rw [nb1, upd_same, ← hd1, ← nb1]
        exact e
      have nb2 : b ≠ d2 := fun e' => by
        rw [e', nd2] at e
        cases e
      rw [upd_ne nb1]
      exact k5.at_ (fun zz => nb2 (List.mem_singleton.1 zz)) (kG.at_ (fun zz => nb1 (List.mem_singleton.1 zz)) (s4 _ _ e))
end
end K12

namespace K12
open PySem PySem.Spec PyProof.Rows L2 G Lk
section
variable {P : Program} {w : World} {K : PySem.W.Frag} {mg : Str → Option Value} {base : Heap}
def sp_all_calls (K : PySem.W.Frag) : Sp := fun vs H Q _ => ∃ (v : V) (z f : Str) (ss : List PyData), vs = [v] ∧ Dq K H v (.tuple [.str z, .str f, .tuple ss]) ∧ StatesOk z ss ∧
  ∀ (H' : Hp) (r : Addr) (xs : List V), Same H H' → H r = none → H' r = some (.lst xs) → CallsAt H' xs (callsOf z ss.length) → Q (.ref r) H'
/-- def all_calls(expander): -/
theorem ok_all_calls (T : Tx K mg) : FnOk P w K mg base CX0 1 T.a_all_calls T.fd_all_calls ["expander"] (sp_all_calls K) := by
  refine T.F_all_calls.ok sc_all_calls (fun vs H Q E h => ?_) (fun cdv A outer s H vs Q E hr h => ?_)
  · obtain ⟨_, _, _, _, rfl, _⟩ := h
    rfl
  · refine ⟨_, (pss_cons (ps_asg (pv 0) (pg_tup rfl (pgs_cons (pg_name (i := 1) sc_all_calls.nd rfl (by first | exact Or.inl rfl | exact Or.inr rfl)) (pgs_cons (pg_name (i := 2) sc_all_calls.nd rfl (by first | exact Or.inl rfl | exact Or.inr rfl)) (pgs_cons (pg_name (i := 3) sc_all_calls.nd rfl (by first | exact Or.inl rfl | exact Or.inr rfl)) pgs_nil)))))
    (pss_one (ps_ret (pe_lc2 (own := [("state", 4), ("sign", 5)]) (vs1 := [5]) (g := gName 4) (g1 := gName 5) (by rfl) sc_all_calls.nd (pi_range1 (by rfl) T.z_range (pa_cons (pe_callB call_len_seq (by rfl) T.z_len PySem.boot_len (pa_cons (pv 3) pa_nil)) pa_nil)) (blkOk_by (own := [("state", 4), ("sign", 5)]) (N := N_all_calls) (sc := defScope s_all_calls) (by decide +kernel)) (by decide) (fun _ _ _ _ _ => pg_name (i := 4) sc_all_calls.nd rfl (by first | exact Or.inl rfl | exact Or.inr rfl)) (fun _ _ _ _ _ => pts_nil) (fun _ _ _ _ _ => (pi_str (pv 1))) (fun _ _ _ _ _ => pg_name (i := 5) sc_all_calls.nd rfl (by first | exact Or.inl rfl | exact Or.inr rfl)) (fun _ _ _ _ _ => pts_nil) (fun _ _ _ _ _ => (pe_tup (pa_cons (pv 4) (pa_cons (pv 5) pa_nil)))) )))), ?_⟩
    obtain ⟨v, z, f, ss, rfl, hv, ok, q⟩ := h
    obtain ⟨a, t, xs, rfl, ht, hts, hA⟩ := expV_of hv
    have hl := hA.length
    have h60 := ok.2.2.1
    have hz4 := ok.1.small.2.1
    have hz' : z.cps.size = z.length := rfl
    refine ⟨_, rfl, a, _, rfl, ht, rfl, _, _, rfl, _, _, rfl, _, _, rfl, rfl, ?_⟩
    refine ⟨_, rfl, t, xs, rfl, .inr hts, (xs.length : Nat), rfl, by omega, by omega, fun D nD => ?_⟩
    refine lc2_o (walk_range (n := xs.length)) (fun i H' => Same H H' ∧ ∃ us, H' D = some (.lst us) ∧ CallsAt (off [D] H') us (callsOf z i)) ⟨same_new nD, [], upd_same, .nil⟩ (fun _ _ _ _ => trivial) ?_ ?_
    · rintro i x H1 H2 hi ⟨s1, us, hD, hus⟩ ⟨rfl, rfl⟩
      refine ⟨rfl, _, rfl, z, rfl, ?_⟩
      refine lc2_i (walk_str (z := z)) (fun j H' => Same H H' ∧ ∃ us, H' D = some (.lst us) ∧ CallsAt (off [D] H') us (callsOf z i ++ (z.cps.toList.take j).map fun c => (i, c))) ⟨s1, us, hD, by rw [List.take_zero, List.map_nil, List.append_nil]; exact hus⟩ (fun _ _ _ _ => trivial) ?_ ?_
      · rintro j y H3 H4 hj ⟨s3, us, hD3, hus3⟩ ⟨rfl, c, hc, rfl⟩
        refine ⟨rfl, _, rfl, _, rfl, (by show 2 ≤ sizeLine; decide), fun p np => ?_⟩
        have nDp : D ≠ p := ne_of_none hD3 np
        have hcl : z.cps.toList[j]? = some c := by simpa using hc
        have few : us.length ≤ 240 := by
          rw [hus3.len, List.length_append, callsOf_len, List.length_map, List.length_take]
          have e1 : min j z.cps.toList.length ≤ z.length := by
            have : z.cps.toList.length = z.length := by simp [Str.length]
            omega
          have e2 : i * z.length + z.length ≤ 60 * 4 := by
            rw [← Nat.succ_mul]
            exact Nat.mul_le_mul (by omega) hz4
          omega
        have s4 := same_new (o := .tup [.int (0 + ((i : Nat) : Int)), .str ⟨#[c]⟩]) np
        refine ⟨us, (upd_ne nDp).trans hD3, Nat.lt_of_le_of_lt few (by decide), ?_⟩
        have hp : upd H4 p (.tup [.int (0 + ((i : Nat) : Int)), .str ⟨#[c]⟩]) p = some (.tup [.int (i : Int), .str (Ls.one c)]) := by
          rw [upd_same, Int.zero_add]
          rfl
        revert s4 hp
        generalize upd H4 p (.tup [.int (0 + ((i : Nat) : Int)), .str ⟨#[c]⟩]) = H5
        intro s4 hp
        have kp : Keep [D] H5 (upd H5 D (.lst (us ++ [.ref p]))) := Keep.pot List.mem_cons_self
        refine ⟨fun b o e => (upd_ne (ne_of_none e nD)).trans (s4 _ _ (s3 _ _ e)), _, upd_same, ?_⟩
        rw [take_snoc hcl, List.map_append, ← List.append_assoc]
        exact ((hus3.mono (Keep.of s4)).mono kp).append (.cons (kp _ _ (off_of (fun z => nDp (List.mem_singleton.1 z).symm) hp)) .nil)
      · rintro H3 ⟨s3, us, hD3, hus3⟩
        refine ⟨s3, us, hD3, ?_⟩
        rw [callsOf_succ]
        have e : z.cps.toList.take z.cps.size = z.cps.toList := List.take_of_length_le (by simp)
        rw [e] at hus3
        exact hus3
    · rintro H2 ⟨s2, us, hD, hus⟩
      refine q H2 D us s2 nD hD ?_
      rw [← hl]
      exact hus.mono off_same
end
end K12

namespace K12
open PySem PySem.Spec PyProof.Rows L2 G Lk
section
variable {P : Program} {w : World} {K : PySem.W.Frag} {mg : Str → Option Value} {base : Heap}
def sp_read_on (K : PySem.W.Frag) : Sp := fun vs H Q _ => ∃ (v : V) (d l : Addr) (z f : Str) (ss : List PyData) (E : Ent) (O S : Cl → Prop) (row : List Re) (r : Re) (m : List Nat × List Nat × Nat) (rest : List Nat),
  vs = [v, .ref d, .ref l] ∧ Dq K (off [d, l] H) v (.tuple [.str z, .str f, .tuple ss]) ∧ StatesOk z ss ∧ Found [d, l] H d E ∧ RowL [d, l] H l (r :: row) ∧ ReadTo z ss E r m rest ∧ Row z ss E row r.1 ∧ Meas z ss E O (r :: row) S ∧
  ∀ H' v' E' row', Keep [d, l] H H' → Found [d, l] H' d E' → RowL [d, l] H' l row' → Meas z ss E' O row' S →
    ((v' = .non ∧ row' = []) ∨ ∃ c p, v' = .ref p ∧ CallAt (off [d, l] H') p c ∧ Good z ss c ∧ look E' c = none ∧ Row z ss E' row' c) → Q v' H'
/-- def _read_on(expander, found, row): -/
theorem ok_read_on (T : Tx K mg) : FnOk P w K mg base CX0 2 T.a__read_on T.fd__read_on ["expander", "found", "row"] (sp_read_on K) := by
  refine T.F__read_on.ok sc_read_on (fun vs H Q E h => ?_) (fun cdv A outer s H vs Q E hr h => ?_)
  · obtain ⟨_, _, _, _, _, _, _, _, _, _, _, _, _, rfl, _⟩ := h
    rfl
  · refine ⟨_, (pss_cons (ps_while PassesOwn.never (pt_truth (pv 2) (by intro _; rfl))
      (pss_cons (ps_asg (pe_bm0 PySem.F.plainAttrs_list PySem.F.slot_list_pop PySem.F.type_list_pop mt_pop (pv 2)) (pg_tup rfl (pgs_cons (pg_name (i := 4) sc_read_on.nd rfl (by first | exact Or.inl rfl | exact Or.inr rfl)) (pgs_cons (pg_name (i := 5) sc_read_on.nd rfl (by first | exact Or.inl rfl | exact Or.inr rfl)) (pgs_cons (pg_name (i := 6) sc_read_on.nd rfl (by first | exact Or.inl rfl | exact Or.inr rfl)) (pgs_cons (pg_name (i := 7) sc_read_on.nd rfl (by first | exact Or.inl rfl | exact Or.inr rfl)) pgs_nil))))))
    (pss_cons (ps_set (i := 3) sc_read_on.nd rfl (by first | exact Or.inl rfl | exact Or.inr rfl) (pe_ix ix_tup (pe_call (ok_move_of T) (hr.mono (by decide)) (by rfl) T.g_move_of T.F_move_of.kp T.b_move_of .nil pass0 (pa_cons (pv 0) (pa_cons (pe_ix ix_tup (pv 4) pe_int (fun _ _ => rfl)) (pa_cons (pe_ix ix_tup (pv 4) pe_int (fun _ _ => rfl)) pa_nil)))) pe_int (fun _ _ => rfl)))
    (pss_cons (ps_while PassesOwn.never (PW.pt (pw_and (pt_cmpR op_lt (pv 5) (pe_callB call_len_str (by rfl) T.z_len PySem.boot_len (pa_cons (pv 3) pa_nil)) (nomark _)) (pw_and1 (pt_cmp (pc_din (unit1 hr.units) (pe_tup (pa_cons (pv 7) (pa_cons (pe_ix ix_str (pv 3) (pv 5) (fun _ _ => rfl)) pa_nil))) (pv 1))))))
      (pss_cons (ps_asg (pe_dget (unit1 hr.units) (pv 1) (pe_tup (pa_cons (pv 7) (pa_cons (pe_ix ix_str (pv 3) (pv 5) (fun _ _ => rfl)) pa_nil))) (fun _ _ => rfl)) (pg_tup rfl (pgs_cons (pg_name (i := 8) sc_read_on.nd rfl (by first | exact Or.inl rfl | exact Or.inr rfl)) (pgs_cons (pg_name (i := 7) sc_read_on.nd rfl (by first | exact Or.inl rfl | exact Or.inr rfl)) pgs_nil))))
    (pss_cons (ps_aug (i := 6) sc_read_on.nd rfl (by first | exact Or.inl rfl | exact Or.inr rfl) (pv 8) ip_add)
    (pss_one (ps_aug (i := 5) sc_read_on.nd rfl (by first | exact Or.inl rfl | exact Or.inr rfl) pe_int ip_add)))))
    (pss_cons (ps_if (pt_cmpR op_lt (pv 5) (pe_callB call_len_str (by rfl) T.z_len PySem.boot_len (pa_cons (pv 3) pa_nil)) (nomark _))
      (pss_cons (ps_expr (pe_bm PySem.F.plainAttrs_list PySem.F.slot_list_append PySem.F.type_list_append mt_append (pv 2) (pa_cons (pe_tup (pa_cons (pv 4) (pa_cons (pv 5) (pa_cons (pv 6) (pa_cons (pv 7) pa_nil))))) pa_nil)))
    (pss_one (ps_ret (pe_tup (pa_cons (pv 7) (pa_cons (pe_ix ix_str (pv 3) (pv 5) (fun _ _ => rfl)) pa_nil))))))
      pss_nil)
    (pss_one (ps_dput (unit1 hr.units) (pv 1) (pv 4) (pe_tup (pa_cons (pv 6) (pa_cons (pv 7) pa_nil))) (by rfl))))))))
    (pss_one (ps_ret pe_non))), ?_⟩
    obtain ⟨v, d, l, z, f, ss, E0, O, S, row0, r0, m0, rest0, rfl, hv, ok, hF0, hL0, hR0, hW0, hM0, q⟩ := h
    have dl : d ≠ l := fun e => by
      obtain ⟨_, e1, _⟩ := hF0
      obtain ⟨_, e2, _⟩ := hL0
      rw [e, e2] at e1
      cases e1
    refine while_by (fun σ H' => ∃ (E : Ent) (row : List Re) (s3 s4 s5 s6 s7 s8 : Option V), σ = [some v, some (.ref d), some (.ref l), s3, s4, s5, s6, s7, s8] ∧ Keep [d, l] H H' ∧ Found [d, l] H' d E ∧ RowL [d, l] H' l row ∧ Meas z ss E O row S ∧
      ∀ r row1, row = r :: row1 → ∃ m rest, ReadTo z ss E r m rest ∧ Row z ss E row1 r.1)
      (fun _ H' => match H' l with | some (.lst us) => us.length | _ => 0) ?_ ?_ ?_
    · refine ⟨E0, r0 :: row0, _, _, _, _, _, _, rfl, Keep.refl, hF0, hL0, hM0, fun r row1 e => ?_⟩
      cases e
      exact ⟨m0, rest0, hR0, hW0⟩
    · rintro σ H1 ⟨E, row, s3, s4, s5, s6, s7, s8, rfl, k1, hF, ⟨xs, hl, hxs⟩, hM, hrow⟩
      refine ⟨_, rfl, _, .inl ⟨xs, SqL.of hl, rfl⟩, ?_⟩
      cases row with
      | nil =>
        obtain rfl := hxs.none
        refine if_false rfl ?_
        exact q H1 .non E [] k1 hF ⟨[], hl, .nil⟩ hM (.inl ⟨rfl, rfl⟩)
      | cons r row =>
        obtain ⟨m, rest, hR, hW⟩ := hrow r row rfl
        obtain ⟨ys, y, rfl, hys, pa, qa, rfl, hpa, hqa⟩ := hxs.top
        obtain ⟨c, p0, n0, g0⟩ := r
        refine if_true (by cases ys <;> rfl) ?_
        have hpa1 := (off_some hpa).2
        have npa := (off_some hpa).1
        have nqa := (off_some hqa).1
        have hqa1 := (off_some hqa).2
        refine ⟨_, rfl, .inl ⟨rfl, _, SqL.of hl⟩, l, _, .ref pa, rfl, rfl, hl, by rw [List.length_append, List.getElem?_append_right (by simp)]; simp, ?_⟩
        rw [List.dropLast_concat]
        have k2 : Keep [d, l] H1 (upd H1 l (.lst ys)) := Keep.pot (List.mem_cons_of_mem _ List.mem_cons_self)
        have hl2 : upd H1 l (.lst ys) l = some (.lst ys) := upd_same
        have hF2 : Found [d, l] (upd H1 l (.lst ys)) d E := hF.keep k2 (upd_ne dl)
        revert k2 hl2 hF2
        generalize upd H1 l (.lst ys) = H2
        intro k2 hl2 hF2
        have k02 := k1.trans k2
        have hpa2 := k2.at_ npa hpa1
        refine ⟨pa, _, rfl, SqT.of hpa2, rfl, _, _, rfl, _, _, rfl, _, _, rfl, _, _, rfl, rfl, ?_⟩
        have hqa2 : CallAt H2 qa c := k2.at_ nqa hqa1
        have gc : Good z ss c := by
          obtain ⟨_, _, e1, _⟩ := hR
          exact (mv_ok ok e1).1
        obtain ⟨ms, lst, kk, rst, e1, e2, e3⟩ := move_is (f := f) ok gc
        obtain ⟨xw, yw, emv, ex, ey, lx, ly, ax, ay, hg⟩ : ∃ x y : Str, moveD z ss c.1 c.2 = .tuple [.str x, .str y, .int (m.2.2 : Int)] ∧ m.1 = x.cps.toList ∧ m.2.1 = y.cps.toList ∧ x.length ≤ 2000 ∧ y.length ≤ 2000 ∧ allIn z x = true ∧ allIn z y = true ∧ m.2.2 < ss.length := by
          obtain ⟨_, _, e1, _⟩ := hR
          exact (mv_ok ok e1).2
        have hv2 : Dq K H2 v (.tuple [.str z, .str f, .tuple ss]) := hv.mono k02.same
        refine ⟨_, rfl, _, rfl, qa, _, 0, _, rfl, rfl, SqT.of hqa2, rfl, _, rfl, qa, _, 1, _, rfl, rfl, SqT.of hqa2, rfl, ?_⟩
        refine ⟨v, _, _, _, _, _, moveD z ss c.1 c.2, rfl, hv2, .int _, .str _, ⟨z, f, ss, c.1, Ls.one c.2, ms, lst, kk, rst, rfl, rfl, rfl, e1, e2, e3⟩, fun mr hmr => ?_⟩
        rw [emv] at hmr
        obtain ⟨pm, rfl, hpm⟩ := standV (a := xw) (b := yw) (s := m.2.2) hmr
        refine ⟨pm, _, 1, _, rfl, rfl, hpm, rfl, ?_⟩
        have lyl : yw.cps.toList.length = yw.length := by simp [Str.length]
        have lyz : yw.length ≤ sizeLine := Nat.le_trans ly (by decide)
        have at_ : ∀ (p n g dd : Nat) (rr : List Nat), ReadTo z ss E (c, p, n, g) m (dd :: rr) → yw.cps.toList[p]? = some dd := fun p n g dd rr h => by
          obtain ⟨la, w, _, e2, e3, _, _⟩ := h
          have e3 : la.length = p := e3
          rw [← ey, e2, ← e3, List.getElem?_append_right (Nat.le_refl _), Nat.sub_self]
          rfl
        have len_ : ∀ (p n g : Nat) (rr : List Nat), ReadTo z ss E (c, p, n, g) m rr → p + rr.length = yw.length := fun p n g rr h => by
          obtain ⟨la, w, _, e2, e3, _, _⟩ := h
          have e3 : la.length = p := e3
          rw [← lyl, ← ey, e2, List.length_append, e3]
        refine while_by (fun σ H' => ∃ (p n g : Nat) (rest : List Nat) (s8 : Option V), σ = [some v, some (.ref d), some (.ref l), some (.str yw), some (.ref qa), some (.int (p : Int)), some (.int (n : Int)), some (.int (g : Int)), s8] ∧ Same H2 H' ∧ ReadTo z ss E (c, p, n, g) m rest)
          (fun σ _ => match σ with | [_, _, _, _, _, some (.int p), _, _, _] => yw.length - p.toNat | _ => 0) ?_ ?_ ?_
        · exact ⟨p0, n0, g0, rest, _, rfl, Same.refl _, hR⟩
        · rintro σ H3 ⟨p, n, g, rest, s8, rfl, s3, hR3⟩
          have lp := len_ _ _ _ _ hR3
          refine ⟨_, rfl, _, rfl, yw, rfl, lyz, _, _, rfl, rfl, _, rfl, ?_⟩
          have hF3 := hF2.same s3
          have hl3 := s3 _ _ hl2
          have k03 := k02.trans (Keep.of s3)
          -- behind the inner loop
          cases rest with
          | nil =>
            have lp : p + 0 = yw.length := lp
            have en : decide ((p : Int) < (yw.length : Int)) = false := decide_eq_false (by omega)
            refine if_false en (if_false rfl ?_)
            refine ⟨_, rfl, _, rfl, yw, rfl, lyz, _, _, rfl, rfl, _, rfl, if_false en ?_⟩
            refine ⟨_, rfl, _, rfl, (by show 2 ≤ sizeLine; decide), fun pn np => ?_⟩
            have s4 := same_new (o := .tup [.int (n : Int), .int (g : Int)]) np
            have hpn : upd H3 pn (.tup [.int (n : Int), .int (g : Int)]) pn = some (.tup [.int (n : Int), .int (g : Int)]) := upd_same
            revert s4 hpn
            generalize upd H3 pn (.tup [.int (n : Int), .int (g : Int)]) = H4
            intro s4 hpn
            obtain ⟨kvs, hd4, hE4⟩ := hF3.same s4
            have hl4 := s4 _ _ hl3
            have hqa4 : CallAt H4 qa c := s4 _ _ (s3 _ _ hqa2)
            obtain ⟨w, ew, hM5⟩ := hM.further.done hR3
            have nlook := (hM.inRow _ List.mem_cons_self).2
            have nl : kvs.length < sizeLine := by
              rw [hE4.len]
              exact Nat.lt_of_le_of_lt (hM.closed.few ok) (by decide)
            refine ⟨_, rfl, _, rfl, d, _, rfl, DPut.t (k := ckey c) hd4 hqa4.key nl, ?_⟩
            have npn : pn ∉ [d, l] := fun z => by
              rcases List.mem_cons.1 z with e | z
              · rw [e, hd4] at hpn
                cases hpn
              · rw [List.mem_singleton.1 z, hl4] at hpn
                cases hpn
            have kP : Keep [d, l] H4 (upd H4 d (.dT (putK kvs (ckey c) (.ref pn)))) := Keep.pot List.mem_cons_self
            have kB := (k2.trans (Keep.of s3)).trans ((Keep.of s4).trans kP)
            have hlB : upd H4 d (.dT (putK kvs (ckey c) (.ref pn))) l = some (.lst ys) := (upd_ne (Ne.symm dl)).trans hl4
            refine ⟨⟨E ++ [(c, (w, g))], row, _, _, _, _, _, _, rfl, k1.trans kB, ⟨_, upd_same, (hE4.put nlook ⟨pn, rfl, off_of npn (ew ▸ hpn)⟩).mono kP⟩, ⟨ys, hlB, hys.mono kB⟩, hM5, fun r row1 er => ?_⟩, ?_⟩
            · subst er
              have hW' := hW.grow (F := E ++ [(c, (w, g))]) look_grow
              cases hW' with
              | cons a b => exact ⟨_, _, a, b⟩
            · rw [hlB, hl]
              show ys.length < (ys ++ [V.ref pa]).length
              rw [List.length_append]
              exact Nat.lt_succ_self _
          | cons dd rest =>
            have lp : p + (rest.length + 1) = yw.length := lp
            have en : decide ((p : Int) < (yw.length : Int)) = true := decide_eq_true (by omega)
            have aty := at_ _ _ _ _ _ hR3
            refine if_true en ⟨_, rfl, _, rfl, _, rfl, yw, _, dd, rfl, rfl, lyz, atI_nat aty, (by show 2 ≤ sizeLine; decide), fun pn np => ?_⟩
            have s4 := same_new (o := .tup [.int (g : Int), .str ⟨#[dd]⟩]) np
            have hpn : CallAt (upd H3 pn (.tup [.int (g : Int), .str ⟨#[dd]⟩])) pn (g, dd) := upd_same
            revert s4 hpn
            generalize upd H3 pn (.tup [.int (g : Int), .str ⟨#[dd]⟩]) = H4
            intro s4 hpn
            obtain ⟨kvs, hd4, hE4⟩ := hF3.same s4
            refine ⟨_, rfl, d, _, rfl, DGet.t (k := ckey (g, dd)) hd4 hpn.key, _, rfl, ?_⟩
            rcases hE4.get (g, dd) with ⟨vv, ww, e5, e6, e7⟩ | ⟨e5, e6⟩
            · rw [e5]
              refine if_true rfl ?_
              refine ⟨_, rfl, _, rfl, _, rfl, _, rfl, yw, _, dd, rfl, rfl, lyz, atI_nat aty, (by show 2 ≤ sizeLine; decide), fun pn2 np2 => ?_⟩
              have s5 := same_new (o := .tup [.int (g : Int), .str ⟨#[dd]⟩]) np2
              have hpn2 : CallAt (upd H4 pn2 (.tup [.int (g : Int), .str ⟨#[dd]⟩])) pn2 (g, dd) := upd_same
              revert s5 hpn2
              generalize upd H4 pn2 (.tup [.int (g : Int), .str ⟨#[dd]⟩]) = H5
              intro s5 hpn2
              refine ⟨d, vv, rfl, ?_, ?_⟩
              · rw [← e5]
                exact DGet.t (k := ckey (g, dd)) (s5 _ _ hd4) hpn2.key
              · obtain ⟨pw, rfl, e8⟩ := e7
                have e9 := s5 _ _ (off_some e8).2
                refine ⟨pw, _, rfl, SqT.of e9, rfl, _, _, rfl, _, _, rfl, rfl, ?_⟩
                refine ⟨_, rfl, _, rfl, _, _, rfl, rfl, ?_⟩
                refine ⟨_, rfl, _, _, rfl, rfl, ?_⟩
                refine ⟨⟨p + 1, n + ww.1.length, ww.2, rest, _, rfl, Same.trans s3 (Same.trans s4 s5), hR3.go e6⟩, ?_⟩
                show yw.length - ((p : Int) + 1).toNat < yw.length - (p : Int).toNat
                omega
            · rw [e5]
              refine if_false rfl ?_
              have hl4 := s4 _ _ hl3
              refine ⟨_, rfl, _, rfl, yw, rfl, lyz, _, _, rfl, rfl, _, rfl, if_true en ?_⟩
              refine ⟨_, rfl, .inl ⟨rfl, _, SqL.of hl4⟩, _, rfl, _, rfl, _, rfl, _, rfl, (by show 4 ≤ sizeLine; decide), fun pe npe => ?_⟩
              have s5 := same_new (o := .tup [.ref qa, .int (p : Int), .int (n : Int), .int (g : Int)]) npe
              have hpe : upd H4 pe (.tup [.ref qa, .int (p : Int), .int (n : Int), .int (g : Int)]) pe = some (.tup [.ref qa, .int (p : Int), .int (n : Int), .int (g : Int)]) := upd_same
              revert s5 hpe
              generalize upd H4 pe (.tup [.ref qa, .int (p : Int), .int (n : Int), .int (g : Int)]) = H5
              intro s5 hpe
              have hl5 := s5 _ _ hl4
              have hd5 := s5 _ _ hd4
              have hqa5 : CallAt H5 qa c := s5 _ _ (s4 _ _ (s3 _ _ hqa2))
              have kA := (Keep.of (S := [d, l]) s3).trans ((Keep.of s4).trans (Keep.of s5))
              have hys5 := hys.mono (k2.trans kA)
              have npe' : pe ∉ [d, l] := fun z => by
                rcases List.mem_cons.1 z with e | z
                · rw [e, hd5] at hpe
                  cases hpe
                · rw [List.mem_singleton.1 z, hl5] at hpe
                  cases hpe
              have lys : ys.length < sizeLine := by
                rw [hys.len]
                exact Nat.lt_of_le_of_lt (hM.few ok (fun r hr => by
                  rcases List.mem_cons.1 hr with rfl | hr
                  · exact gc
                  · exact hW.good ok r hr) |> Nat.le_trans (Nat.le_succ _)) (by decide)
              refine ⟨l, ys, _, rfl, rfl, hl5, lys, ?_⟩
              have k6 : Keep [d, l] H5 (upd H5 l (.lst (ys ++ [.ref pe]))) := Keep.pot (List.mem_cons_of_mem _ List.mem_cons_self)
              have hl6 : upd H5 l (.lst (ys ++ [.ref pe])) l = some (.lst (ys ++ [.ref pe])) := upd_same
              have hd6 : upd H5 l (.lst (ys ++ [.ref pe])) d = some (.dT kvs) := (upd_ne dl).trans hd5
              revert k6 hl6 hd6
              generalize upd H5 l (.lst (ys ++ [.ref pe])) = H6
              intro k6 hl6 hd6
              refine ⟨_, rfl, _, rfl, _, rfl, yw, _, dd, rfl, rfl, lyz, atI_nat aty, (by show 2 ≤ sizeLine; decide), fun pr npr => ?_⟩
              have s7 := same_new (o := .tup [.int (g : Int), .str ⟨#[dd]⟩]) npr
              have hpr : CallAt (upd H6 pr (.tup [.int (g : Int), .str ⟨#[dd]⟩])) pr (g, dd) := upd_same
              revert s7 hpr
              generalize upd H6 pr (.tup [.int (g : Int), .str ⟨#[dd]⟩]) = H7
              intro s7 hpr
              have hd7 := s7 _ _ hd6
              have hl7 := s7 _ _ hl6
              have npr' : pr ∉ [d, l] := fun z => by
                rcases List.mem_cons.1 z with e | z
                · have hpr' : H7 pr = some (.tup [.int (g : Int), .str (Ls.one dd)]) := hpr
                  rw [e, hd7] at hpr'
                  cases hpr'
                · have hpr' : H7 pr = some (.tup [.int (g : Int), .str (Ls.one dd)]) := hpr
                  rw [List.mem_singleton.1 z, hl7] at hpr'
                  cases hpr'
              have kC := kA.trans (k6.trans (Keep.of s7))
              obtain ⟨gg, gr⟩ := hR3.good ok hM.closed
              refine q H7 (.ref pr) E ((c, p, n, g) :: row) (k02.trans kC) ⟨kvs, hd7, hE4.mono ((Keep.of s5).trans (k6.trans (Keep.of s7)))⟩ ⟨ys ++ [.ref pe], hl7, .snoc (hys5.mono (k6.trans (Keep.of s7))) (ReAt.mono ⟨pe, qa, rfl, off_of npe' hpe, off_of nqa hqa5⟩ (k6.trans (Keep.of s7)))⟩ hM.further (.inr ⟨(g, dd), pr, rfl, off_of npr' hpr, ⟨gg, gr dd List.mem_cons_self⟩, e6, .cons hR3 hW⟩)
        · rintro σ H' Q1 Q2 hQ h
          obtain ⟨v1, e1, v2, e2, y1, e3, e4, i, j, e5, e6, k, e7, h⟩ := h
          refine ⟨v1, e1, v2, e2, y1, e3, e4, i, j, e5, e6, k, e7, ?_⟩
          cases k with
          | false => exact hQ _ _ h
          | true =>
            obtain ⟨u1, e1, u2, e2, u3, e3, zz, ii, cc, e4, e5, e6, e7, e8, h⟩ := h
            refine ⟨u1, e1, u2, e2, u3, e3, zz, ii, cc, e4, e5, e6, e7, e8, fun p np => ?_⟩
            obtain ⟨u4, e9, a, o, e10, e11, kk, e12, h⟩ := h p np
            exact ⟨u4, e9, a, o, e10, e11, kk, e12, hQ _ _ h⟩
    · rintro σ H' Q1 Q2 hQ h
      obtain ⟨v, hv, k, e2, h⟩ := h
      exact ⟨v, hv, k, e2, hQ _ _ h⟩
end
end K12

namespace K12
open PySem PySem.Spec PyProof.Rows L2 G Lk
section
variable {P : Program} {w : World} {K : PySem.W.Frag} {mg : Str → Option Value} {base : Heap}
def sp_measure (K : PySem.W.Frag) : Sp := fun vs H Q _ => ∃ (v : V) (d o pc : Addr) (z f : Str) (ss : List PyData) (E : Ent) (OL : List Cl) (S : Cl → Prop) (c : Cl),
  vs = [v, .ref d, .ref o, .ref pc] ∧ Dq K (off [d, o] H) v (.tuple [.str z, .str f, .tuple ss]) ∧ StatesOk z ss ∧ d ≠ o ∧ Found [d, o] H d E ∧ Opened H o OL ∧ Calls z ss OL ∧ CallAt (off [d, o] H) pc c ∧ Good z ss c ∧ Meas z ss E (fun x => x ∈ OL) [] S ∧
  ∀ H' E' OL' S', Keep [d, o] H H' → Found [d, o] H' d E' → Opened H' o OL' → Calls z ss OL' → (∀ x ∈ OL, x ∈ OL') → c ∈ OL' → Meas z ss E' (fun x => x ∈ OL') [] S' → Q .non H'
/-- def _measure(expander, found, opened, call): -/
theorem ok_measure (T : Tx K mg) : FnOk P w K mg base CX0 3 T.a__measure T.fd__measure ["expander", "found", "opened", "call"] (sp_measure K) := by
  refine T.F__measure.ok sc_measure (fun vs H Q E h => ?_) (fun cdv A outer s H vs Q E hr h => ?_)
  · obtain ⟨_, _, _, _, _, _, _, _, _, _, _, rfl, _⟩ := h
    rfl
  · refine ⟨_, (pss_cons (ps_set (i := 4) sc_measure.nd rfl (by first | exact Or.inl rfl | exact Or.inr rfl) (pe_lst pa_nil))
    (pss_one (ps_while PassesOwn.never (PW.pt (pw_and (pt_cmpR op_notN (pv 3) pe_non (nomark _)) (pw_and1 (pt_cmp (pc_dnotin (unit1 hr.units) (pv 3) (pv 2))))))
      (pss_cons (ps_dput (unit1 hr.units) (pv 2) (pv 3) pe_bl (by rfl))
    (pss_cons (ps_set (i := 5) sc_measure.nd rfl (by first | exact Or.inl rfl | exact Or.inr rfl) (pe_call (ok_move_of T) (hr.mono (by decide)) (by rfl) T.g_move_of T.F_move_of.kp T.b_move_of .nil pass0 (pa_cons (pv 0) (pa_cons (pe_ix ix_tup (pv 3) pe_int (fun _ _ => rfl)) (pa_cons (pe_ix ix_tup (pv 3) pe_int (fun _ _ => rfl)) pa_nil)))))
    (pss_cons (ps_if (pt_cmpR op_isN (pv 5) pe_non (nomark _))
      (pss_one ps_retN)
      pss_nil)
    (pss_cons (ps_expr (pe_bm PySem.F.plainAttrs_list PySem.F.slot_list_append PySem.F.type_list_append mt_append (pv 4) (pa_cons (pe_tup (pa_cons (pv 3) (pa_cons pe_int (pa_cons (pe_callB call_len_str (by rfl) T.z_len PySem.boot_len (pa_cons (pe_ix ix_tup (pv 5) pe_int (fun _ _ => rfl)) pa_nil)) (pa_cons (pe_ix ix_tup (pv 5) pe_int (fun _ _ => rfl)) pa_nil))))) pa_nil)))
    (pss_one (ps_set (i := 3) sc_measure.nd rfl (by first | exact Or.inl rfl | exact Or.inr rfl) (pe_call (ok_read_on T) (hr.mono (by decide)) (by rfl) T.g__read_on T.F__read_on.kp T.b__read_on .nil pass0 (pa_cons (pv 0) (pa_cons (pv 1) (pa_cons (pv 4) pa_nil))))))))))))), ?_⟩
    obtain ⟨v, d, o, pc, z, f, ss, E0, OL0, S0, c0, rfl, hv, ok, do_, hF0, hO0, hC0, hpc, gc0, hM0, q⟩ := h
    refine ⟨Nat.zero_le _, fun l nl => ?_⟩
    have s1 := same_new (o := .lst []) nl
    have hl1 : upd H l (.lst []) l = some (.lst []) := upd_same
    revert s1 hl1
    generalize upd H l (.lst []) = H1
    intro s1 hl1
    have ld : l ≠ d := fun e => by
      obtain ⟨_, h1, _⟩ := hF0
      rw [← e, nl] at h1
      cases h1
    have lo : l ≠ o := fun e => by
      obtain ⟨_, h1, _⟩ := hO0
      rw [← e, nl] at h1
      cases h1
    have fin : ∀ {H'}, Keep [d, o, l] H1 H' → Keep [d, o] H H' := fun k => Keep.drop s1 k fun a ha => by
      rcases List.mem_cons.1 ha with rfl | ha
      · exact .inl List.mem_cons_self
      · rcases List.mem_cons.1 ha with rfl | ha
        · exact .inl (List.mem_cons_of_mem _ List.mem_cons_self)
        · obtain rfl := List.mem_singleton.1 ha
          exact .inr nl
    have hd1 : Found [d, o] H1 d E0 := hF0.same s1
    have ho1 : Opened H1 o OL0 := hO0.same (by
      obtain ⟨_, h1, _⟩ := hO0
      rw [h1]
      exact s1 _ _ h1)
    have nt1 : ∀ a ∈ [d, o, l], NoTup H1 a := fun a ha => by
      rcases List.mem_cons.1 ha with rfl | ha
      · exact hd1.noTup
      · rcases List.mem_cons.1 ha with rfl | ha
        · exact ho1.noTup
        · obtain rfl := List.mem_singleton.1 ha
          exact .lst hl1
    have hv1 : Dq K (off [d, o, l] H1) v (.tuple [.str z, .str f, .tuple ss]) := hv.mono fun b u e => by
      obtain ⟨n, e⟩ := off_some e
      refine off_of (fun hb => ?_) (s1 b u e)
      rcases List.mem_cons.1 hb with rfl | hb
      · exact n List.mem_cons_self
      · rcases List.mem_cons.1 hb with rfl | hb
        · exact n (List.mem_cons_of_mem _ List.mem_cons_self)
        · rw [List.mem_singleton.1 hb, nl] at e
          cases e
    refine while_by (fun σ H' => ∃ (E : Ent) (OL : List Cl) (row : List Re) (S : Cl → Prop) (cv : V) (s5 : Option V), σ = [some v, some (.ref d), some (.ref o), some cv, some (.ref l), s5] ∧ Keep [d, o, l] H1 H' ∧ Found [d, o, l] H' d E ∧ Opened H' o OL ∧ Calls z ss OL ∧
      RowL [d, o, l] H' l row ∧ Meas z ss E (fun x => x ∈ OL) row S ∧ (∀ x ∈ OL0, x ∈ OL) ∧
      ((cv = .non ∧ row = [] ∧ c0 ∈ OL) ∨ ∃ c p, cv = .ref p ∧ CallAt (off [d, o, l] H') p c ∧ Good z ss c ∧ Row z ss E row c ∧ (c0 ∈ OL ∨ c0 = c) ∧ (row = [] ∨ look E c = none)))
      (fun _ H' => match H' o with | some (.dT kvs) => 241 - kvs.length | _ => 0) ?_ ?_ ?_
    · exact ⟨E0, OL0, [], S0, .ref pc, _, rfl, Keep.refl, hd1.any nt1, ho1, hC0, ⟨[], hl1, .nil⟩, hM0, fun x h => h, .inr ⟨c0, pc, rfl, CallAt.out (s1 _ _ (off_some hpc).2) nt1, gc0, .nil c0, .inr rfl, .inl rfl⟩⟩
    · rintro σ H2 ⟨E, OL, row, S, cv, s5, rfl, k2, hF2, hO2, hC2, hL2, hM2, hin, hcv⟩
      have nt2 : ∀ a ∈ [d, o, l], NoTup H2 a := fun a ha => by
        rcases List.mem_cons.1 ha with rfl | ha
        · exact hF2.noTup
        · rcases List.mem_cons.1 ha with rfl | ha
          · exact hO2.noTup
          · obtain rfl := List.mem_singleton.1 ha
            exact hL2.noTup
      have nt2' : ∀ a ∈ [d, o], NoTup H2 a := fun a ha => nt2 a (by
        rcases List.mem_cons.1 ha with rfl | ha
        · exact List.mem_cons_self
        · obtain rfl := List.mem_singleton.1 ha
          exact List.mem_cons_of_mem _ List.mem_cons_self)
      rcases hcv with ⟨rfl, rfl, h0⟩ | ⟨c, p, rfl, hp, gc, hW, h0, hn⟩
      · refine ⟨_, rfl, rfl, _, rfl, if_false rfl (if_false rfl ?_)⟩
        exact q H2 E OL S (fin k2) (hF2.any nt2') hO2 hC2 hin h0 hM2
      · refine ⟨_, rfl, rfl, _, rfl, if_true rfl ?_⟩
        obtain ⟨kvs, ho2, hkeys⟩ := hO2
        have hp2 : CallAt H2 p c := (off_some hp).2
        refine ⟨_, rfl, _, rfl, o, _, rfl, DGet.t (k := ckey c) ho2 hp2.key, _, rfl, ?_⟩
        by_cases hc : c ∈ OL
        · rw [(opened_get hkeys c).2 hc]
          refine if_false rfl ?_
          rcases hn with rfl | hn
          · refine q H2 E OL S (fin k2) (hF2.any nt2') ⟨kvs, ho2, hkeys⟩ hC2 hin ?_ hM2
            rcases h0 with h0 | rfl
            · exact h0
            · exact hc
          · refine q H2 E OL _ (fin k2) (hF2.any nt2') ⟨kvs, ho2, hkeys⟩ hC2 hin ?_ (hM2.waits hW hc hn)
            rcases h0 with h0 | rfl
            · exact h0
            · exact hc
        · have e1 : (valV kvs (ckey c)).isSome = false := by
            cases e : (valV kvs (ckey c)).isSome with
            | false => rfl
            | true => exact absurd ((opened_get hkeys c).1 e) hc
          rw [e1]
          refine if_true rfl ?_
          have lk := opened_len hkeys
          have l240 := (hC2.snoc hc gc).few ok
          rw [List.length_append] at l240
          have l240 : OL.length + 1 ≤ 240 := l240
          refine ⟨_, rfl, _, rfl, o, _, rfl, DPut.t (k := ckey c) ho2 hp2.key (Nat.lt_of_lt_of_le (show kvs.length < 240 by omega) (by decide)), ?_⟩
          have k3 : Keep [d, o, l] H2 (upd H2 o (.dT (putK kvs (ckey c) (.bl true)))) := Keep.pot (List.mem_cons_of_mem _ List.mem_cons_self)
          have ho3 : upd H2 o (.dT (putK kvs (ckey c) (.bl true))) o = some (.dT (putK kvs (ckey c) (.bl true))) := upd_same
          have hF3 : Found [d, o, l] (upd H2 o (.dT (putK kvs (ckey c) (.bl true)))) d E := hF2.keep k3 (upd_ne do_)
          have hL3 : RowL [d, o, l] (upd H2 o (.dT (putK kvs (ckey c) (.bl true)))) l row := hL2.keep k3 (upd_ne lo)
          have hO3 : Opened (upd H2 o (.dT (putK kvs (ckey c) (.bl true)))) o (OL ++ [c]) := ⟨_, ho3, opened_put hkeys hc _⟩
          have lk3 : (putK kvs (ckey c) (.bl true)).length = OL.length + 1 := by
            rw [opened_len (opened_put hkeys hc (.bl true)), List.length_append]
            rfl
          revert k3 ho3 hF3 hL3 hO3 lk3
          generalize putK kvs (ckey c) (.bl true) = kvs3
          generalize upd H2 o (.dT kvs3) = H3
          intro k3 ho3 hF3 hL3 hO3 lk3
          have k13 := k2.trans k3
          have hp3 : CallAt H3 p c := k3.at_ (off_some hp).1 hp2
          have hC3 := hC2.snoc hc gc
          have hin3 : ∀ x ∈ OL0, x ∈ OL ++ [c] := fun x h => List.mem_append_left _ (hin x h)
          have h03 : c0 ∈ OL ++ [c] := by
            rcases h0 with h0 | rfl
            · exact List.mem_append_left _ h0
            · exact List.mem_append_right _ List.mem_cons_self
          have omem : ∀ x : Cl, (x ∈ OL ∨ x = c) ↔ x ∈ OL ++ [c] := fun x => by
            rw [List.mem_append, List.mem_singleton]
          obtain ⟨ms, lst, kk, rst, e1, e2, e3⟩ := move_is (f := f) ok gc
          have hv3 : Dq K H3 v (.tuple [.str z, .str f, .tuple ss]) := (hv1.mono k13).mono off_same
          refine ⟨_, rfl, _, rfl, p, _, 0, _, rfl, rfl, SqT.of hp3, rfl, _, rfl, p, _, 1, _, rfl, rfl, SqT.of hp3, rfl, ?_⟩
          refine ⟨v, _, _, _, _, _, moveD z ss c.1 c.2, rfl, hv3, .int _, .str _, ⟨z, f, ss, c.1, Ls.one c.2, ms, lst, kk, rst, rfl, rfl, rfl, e1, e2, e3⟩, fun mr hmr => ?_⟩
          refine ⟨_, rfl, rfl, _, rfl, ?_⟩
          cases emv : mv z ss c with
          | none =>
            rw [mv_none ok gc.1 gc.2 emv] at hmr
            obtain rfl := hmr.noneV
            refine if_true rfl ?_
            have nt3' : ∀ a ∈ [d, o], NoTup H3 a := fun a ha => by
              rcases List.mem_cons.1 ha with rfl | ha
              · exact hF3.noTup
              · obtain rfl := List.mem_singleton.1 ha
                exact hO3.noTup
            exact q H3 E (OL ++ [c]) _ (fin k13) (hF3.any nt3') hO3 hC3 hin3 h03 ((hM2.breaks hW hc emv).congr omem)
          | some m =>
            obtain ⟨_, x, y, emd, ex, ey, lx, ly, ax, ay, hg⟩ := mv_ok ok emv
            rw [emd] at hmr
            obtain ⟨pm, rfl, hpm⟩ := standV (a := x) (b := y) (s := m.2.2) hmr
            refine if_false rfl ?_
            obtain ⟨us, hl3, hus⟩ := hL3
            refine ⟨_, rfl, .inl ⟨rfl, _, SqL.of hl3⟩, _, rfl, _, rfl, pm, _, 0, _, rfl, rfl, hpm, rfl, x, rfl, Nat.le_trans lx (by decide), _, rfl, pm, _, 2, _, rfl, rfl, hpm, rfl, (by show 4 ≤ sizeLine; decide), fun pe npe => ?_⟩
            have s4 := same_new (o := .tup [.ref p, .int 0, .int (x.length : Int), .int (m.2.2 : Int)]) npe
            have hpe : upd H3 pe (.tup [.ref p, .int 0, .int (x.length : Int), .int (m.2.2 : Int)]) pe = some (.tup [.ref p, .int 0, .int (x.length : Int), .int (m.2.2 : Int)]) := upd_same
            revert s4 hpe
            generalize upd H3 pe (.tup [.ref p, .int 0, .int (x.length : Int), .int (m.2.2 : Int)]) = H4
            intro s4 hpe
            have hl4 := s4 _ _ hl3
            have hF4 := hF3.same s4
            have ho4 := s4 _ _ ho3
            have hO4 : Opened H4 o (OL ++ [c]) := hO3.same (ho4.trans ho3.symm)
            have nt4 : ∀ a ∈ [d, o, l], NoTup H4 a := fun a ha => by
              rcases List.mem_cons.1 ha with rfl | ha
              · exact hF4.noTup
              · rcases List.mem_cons.1 ha with rfl | ha
                · exact hO4.noTup
                · obtain rfl := List.mem_singleton.1 ha
                  exact .lst hl4
            have hre : ReAt (off [d, o, l] H4) (.ref pe) (c, 0, m.1.length, m.2.2) := by
              refine ⟨pe, p, rfl, tup_off ?_ nt4, CallAt.out (s4 _ _ hp3) nt4⟩
              have elx : m.1.length = x.length := by
                rw [ex]
                simp [Str.length]
              show H4 pe = some (.tup [.ref p, .int ((0 : Nat) : Int), .int (m.1.length : Int), .int (m.2.2 : Int)])
              rw [elx]
              exact hpe
            have lus : us.length < sizeLine := by
              rw [hus.len]
              exact Nat.lt_of_le_of_lt (hM2.few ok (hW.good ok)) (by decide)
            refine ⟨l, us, _, rfl, rfl, hl4, lus, ?_⟩
            have k5 : Keep [d, o, l] H4 (upd H4 l (.lst (us ++ [.ref pe]))) := Keep.pot (List.mem_cons_of_mem _ (List.mem_cons_of_mem _ List.mem_cons_self))
            have hL5 : RowL [d, o, l] (upd H4 l (.lst (us ++ [.ref pe]))) l ((c, 0, m.1.length, m.2.2) :: row) := ⟨_, upd_same, .snoc ((hus.mono (Keep.of s4)).mono k5) (hre.mono k5)⟩
            have hF5 : Found [d, o, l] (upd H4 l (.lst (us ++ [.ref pe]))) d E := hF4.keep k5 (upd_ne ld.symm)
            have ho5 : upd H4 l (.lst (us ++ [.ref pe])) o = some (.dT kvs3) := (upd_ne lo.symm).trans ho4
            have hO5 : Opened (upd H4 l (.lst (us ++ [.ref pe]))) o (OL ++ [c]) := hO4.same (ho5.trans ho4.symm)
            revert k5 hL5 hF5 ho5 hO5
            generalize upd H4 l (.lst (us ++ [.ref pe])) = H5
            intro k5 hL5 hF5 ho5 hO5
            have k15 := k13.trans ((Keep.of s4).trans k5)
            have nt5 : ∀ a ∈ [d, l], NoTup H5 a := fun a ha => by
              rcases List.mem_cons.1 ha with rfl | ha
              · exact hF5.noTup
              · obtain rfl := List.mem_singleton.1 ha
                exact hL5.noTup
            have sub3 : ∀ a ∈ [d, l], a ∈ [d, o, l] := fun a ha => by
              rcases List.mem_cons.1 ha with rfl | ha
              · exact List.mem_cons_self
              · obtain rfl := List.mem_singleton.1 ha
                exact List.mem_cons_of_mem _ (List.mem_cons_of_mem _ List.mem_cons_self)
            have hv5 : Dq K (off [d, l] H5) v (.tuple [.str z, .str f, .tuple ss]) := (hv1.mono k15).mono (off_less sub3)
            refine ⟨_, rfl, _, rfl, _, rfl, ?_⟩
            refine ⟨v, d, l, z, f, ss, E, _, S, row, (c, 0, m.1.length, m.2.2), m, m.2.1, rfl, hv5, ok, hF5.any nt5, hL5.any nt5, ReadTo.first emv, hW, (hM2.push hc).congr omem, fun H6 v6 E6 row6 k6 hF6 hL6 hM6 hv6 => ?_⟩
            have ho6 : H6 o = some (.dT kvs3) := k6.at_ (fun ha => by
              rcases List.mem_cons.1 ha with e | ha
              · exact do_ e.symm
              · exact lo (List.mem_singleton.1 ha).symm) ho5
            have hO6 : Opened H6 o (OL ++ [c]) := hO5.same (ho6.trans ho5.symm)
            have nt6 : ∀ a ∈ [d, o, l], NoTup H6 a := fun a ha => by
              rcases List.mem_cons.1 ha with rfl | ha
              · exact hF6.noTup
              · rcases List.mem_cons.1 ha with rfl | ha
                · exact hO6.noTup
                · obtain rfl := List.mem_singleton.1 ha
                  exact hL6.noTup
            refine ⟨⟨E6, OL ++ [c], row6, S, v6, _, rfl, k15.trans (k6.more sub3), hF6.any nt6, hO6, hC3, hL6.any nt6, hM6, hin3, ?_⟩, ?_⟩
            · rcases hv6 with ⟨e, e'⟩ | ⟨c6, p6, e, h1, h2, h3, h4⟩
              · exact .inl ⟨e, e', h03⟩
              · exact .inr ⟨c6, p6, e, h1.any nt6, h2, h4, .inl h03, .inr h3⟩
            · rw [ho6, ho2]
              show 241 - kvs3.length < 241 - kvs.length
              omega
    · rintro σ H' Q1 Q2 hQ h
      obtain ⟨v1, e1, e2, k, e3, h⟩ := h
      refine ⟨v1, e1, e2, k, e3, ?_⟩
      cases k with
      | false => exact hQ _ _ h
      | true =>
        obtain ⟨v2, e4, v3, e5, a, oo, e6, e7, kk, e8, h⟩ := h
        exact ⟨v2, e4, v3, e5, a, oo, e6, e7, kk, e8, hQ _ _ h⟩
end
end K12

namespace K12
open PySem PySem.Spec PyProof.Rows L2 G Lk
section
variable {P : Program} {w : World} {K : PySem.W.Frag} {mg : Str → Option Value} {base : Heap}
def sp_sizes_of (K : PySem.W.Frag) : Sp := fun vs H Q _ => ∃ (v : V) (z f : Str) (ss : List PyData), vs = [v] ∧ Dq K H v (.tuple [.str z, .str f, .tuple ss]) ∧ StatesOk z ss ∧
  ∀ (H' : Hp) (d : Addr) (E : Ent), Same H H' → H d = none → Found [d] H' d E → Closed z ss E → (∀ c, Good z ss c → ∀ w, Val z ss c w ↔ look E c = some w) → Q (.ref d) H'
/-- def sizes_of(expander): -/
theorem ok_sizes_of (T : Tx K mg) : FnOk P w K mg base CX0 4 T.a_sizes_of T.fd_sizes_of ["expander"] (sp_sizes_of K) := by
  refine T.F_sizes_of.ok sc_sizes_of (fun vs H Q E h => ?_) (fun cdv A outer s H vs Q E hr h => ?_)
  · obtain ⟨_, _, _, _, rfl, _⟩ := h
    rfl
  · refine ⟨_, (pss_cons (ps_set (i := 1) sc_sizes_of.nd rfl (by first | exact Or.inl rfl | exact Or.inr rfl) pe_dnewT)
    (pss_cons (ps_set (i := 2) sc_sizes_of.nd rfl (by first | exact Or.inl rfl | exact Or.inr rfl) pe_dnewT)
    (pss_cons (ps_for PassesOwn.never rfl (pi_list (pe_call (ok_all_calls T) (hr.mono (by decide)) (by rfl) T.g_all_calls T.F_all_calls.kp T.b_all_calls .nil pass0 (pa_cons (pv 0) pa_nil))) (pg_name (i := 3) sc_sizes_of.nd rfl (by first | exact Or.inl rfl | exact Or.inr rfl))
      (pss_one (ps_expr (pe_call (ok_measure T) (hr.mono (by decide)) (by rfl) T.g__measure T.F__measure.kp T.b__measure .nil pass0 (pa_cons (pv 0) (pa_cons (pv 1) (pa_cons (pv 2) (pa_cons (pv 3) pa_nil))))))))
    (pss_one (ps_ret (pv 1)))))), ?_⟩
    obtain ⟨v, z, f, ss, rfl, hv, ok, q⟩ := h
    intro d nd
    have s1 := same_new (o := .dT []) nd
    have hd1 : upd H d (.dT []) d = some (.dT []) := upd_same
    revert s1 hd1
    generalize upd H d (.dT []) = H1
    intro s1 hd1 o no
    have s2 := same_new (o := .dT []) no
    have ho2 : upd H1 o (.dT []) o = some (.dT []) := upd_same
    revert s2 ho2
    generalize upd H1 o (.dT []) = H2
    intro s2 ho2
    have hd2 := s2 _ _ hd1
    have s12 := Same.trans s1 s2
    have do_ : d ≠ o := fun e => by
      rw [← e, hd1] at no
      cases no
    have no' : H o = none := by
      cases e : H o with
      | none => rfl
      | some u =>
        rw [s1 _ _ e] at no
        cases no
    refine ⟨_, rfl, v, z, f, ss, rfl, hv.mono s12, ok, fun H3 r xs s3 nr hr hxs => ?_⟩
    have fresh : ∀ {H' : Hp}, Keep [d, o] H3 H' → Same H (off [d, o] H') := fun {H'} k b u e => by
      have n : b ∉ [d, o] := fun z => by
        rcases List.mem_cons.1 z with rfl | z
        · rw [nd] at e
          cases e
        · rw [List.mem_singleton.1 z, no'] at e
          cases e
      exact k _ _ (off_of n (s3 _ _ (s12 _ _ e)))
    have rd_ : r ≠ d := fun e => by
      rw [e, hd2] at nr
      cases nr
    have ro : r ≠ o := fun e => by
      rw [e, ho2] at nr
      cases nr
    have nr' : r ∉ [d, o] := fun z => by
      rcases List.mem_cons.1 z with e | z
      · exact rd_ e
      · exact ro (List.mem_singleton.1 z)
    have hF3 : Found [d, o] H3 d [] := ⟨[], s3 _ _ hd2, .nil⟩
    have hO3 : Opened H3 o [] := ⟨[], s3 _ _ ho2, rfl⟩
    have nt : ∀ {H' : Hp} {E OL}, Found [d, o] H' d E → Opened H' o OL → ∀ a ∈ [d, o], NoTup H' a := fun h1 h2 a ha => by
      rcases List.mem_cons.1 ha with rfl | ha
      · exact h1.noTup
      · obtain rfl := List.mem_singleton.1 ha
        exact h2.noTup
    refine ⟨r, rfl, ⟨xs, SqL.of hr⟩, for_list (xs := xs) (fun i σ H' => ∃ (E : Ent) (OL : List Cl) (S : Cl → Prop) (s3 : Option V), σ = [some v, some (.ref d), some (.ref o), s3] ∧ Keep [d, o] H3 H' ∧ Found [d, o] H' d E ∧ Opened H' o OL ∧ Calls z ss OL ∧
      Meas z ss E (fun x => x ∈ OL) [] S ∧ ∀ x ∈ (callsOf z ss.length).take i, x ∈ OL)
      ⟨[], [], fun _ => False, _, rfl, Keep.refl, hF3, hO3, ⟨.nil, fun _ h => nomatch h⟩, Meas.start.congr fun c => ⟨fun h => h.elim, fun h => nomatch h⟩, fun x h => by rw [List.take_zero] at h; cases h⟩
      (fun i σ H' _ ⟨_, _, _, _, _, k, _⟩ => SqL.of (k.at_ nr' hr)) ?_ ?_⟩
    · rintro i x σ H4 hx ⟨E, OL, S, s3', rfl, k4, hF4, hO4, hC4, hM4, hin⟩
      obtain ⟨p, c, rfl, hc, hp⟩ := hxs.get hx
      have hp' : CallAt (off [d, o] H4) p c := k4 _ _ (tup_off hp (nt hF3 hO3))
      have gc : Good z ss c := callsOf_mem.1 (List.mem_of_getElem? hc)
      refine ⟨_, rfl, _, rfl, _, rfl, _, rfl, ?_⟩
      refine ⟨v, d, o, p, z, f, ss, E, OL, S, c, rfl, hv.mono (fresh k4), ok, do_, hF4, hO4, hC4, hp', gc, hM4, fun H5 E5 OL5 S5 k5 hF5 hO5 hC5 in5 c5 hM5 => ?_⟩
      refine ⟨E5, OL5, S5, _, rfl, k4.trans k5, hF5, hO5, hC5, hM5, fun y hy => ?_⟩
      rw [List.take_add_one, hc] at hy
      rcases List.mem_append.1 hy with hy | hy
      · exact in5 y (hin y hy)
      · obtain rfl := List.mem_singleton.1 hy
        exact c5
    · rintro σ H4 ⟨E, OL, S, s3', rfl, k4, hF4, hO4, hC4, hM4, hin⟩
      refine ⟨_, rfl, ?_⟩
      refine q H4 d E (Same.trans (fresh k4) off_same) nd (hF4.any fun a ha => by
        obtain rfl := List.mem_singleton.1 ha
        exact hF4.noTup) hM4.closed fun c gc w => hM4.all (hin c ?_)
      rw [hxs.len, List.take_length]
      exact callsOf_mem.2 gc
end
end K12

namespace K12
open PySem PySem.Spec PyProof.Rows L2 G Lk
section
variable {P : Program} {w : World} {K : PySem.W.Frag} {mg : Str → Option Value} {base : Heap}
def sp_values_of (K : PySem.W.Frag) (mg : Str → Option Value) (T : Tx K mg) : Sp := fun vs H Q X => ∃ (v : V) (z f : Str) (ss : List PyData), vs = [v] ∧ Dq K H v (.tuple [.str z, .str f, .tuple ss]) ∧ StatesOk z ss ∧
  ((∃ c w, Val z ss c w ∧ 2000 < w.1.length) → tooManyE T.a_TooMany X H 2000) ∧
  ((∀ c w, Val z ss c w → w.1.length ≤ 2000) → ∀ (H' : Hp) (d : Addr) (E : Ent), Same H H' → H d = none → ValD [d] H' d E → Closed z ss E → (∀ c, Good z ss c → ∀ w, Val z ss c w ↔ look E c = some w) → Q (.ref d) H')
/-- def values_of(expander): -/
theorem ok_values_of (T : Tx K mg) : FnOk P w K mg base (L2.CX P w) 5 T.a_values_of T.fd_values_of ["expander"] (sp_values_of K mg T) := by
  refine T.F_values_of.okX sc_values_of (fun vs H Q E h => ?_) (fun cdv A outer s H vs Q E hr h => ?_)
  · obtain ⟨_, _, _, _, rfl, _⟩ := h
    rfl
  · refine ⟨_, (pss_cons (ps_set (i := 1) sc_values_of.nd rfl (by first | exact Or.inl rfl | exact Or.inr rfl) (pe_call (ok_sizes_of T) (hr.mono (by decide)) (by rfl) T.g_sizes_of T.F_sizes_of.kp T.b_sizes_of .nil pass0 (pa_cons (pv 0) pa_nil)))
    (pss_cons (ps_if (pt_val (pe_callB (cr_any rfl) (by rfl) T.z_any (by decide +kernel) (pa_cons (pe_lock (pe_lc (own := [("size", 2), ("_", 3)]) (g := gTup K 2 (gCons (gName 2) (gCons (gName 3) gNil))) (by rfl) sc_values_of.nd (pi_valuesT (pv 1)) (blkOk_by (own := [("size", 2), ("_", 3)]) (N := N_values_of) (sc := defScope s_values_of) (by decide +kernel)) (fun _ _ _ _ _ => (pg_tup rfl (pgs_cons (pg_name (i := 2) sc_values_of.nd rfl (by first | exact Or.inl rfl | exact Or.inr rfl)) (pgs_cons (pg_name (i := 3) sc_values_of.nd rfl (by first | exact Or.inl rfl | exact Or.inr rfl)) pgs_nil)))) (fun _ _ _ _ _ => pts_nil) (fun _ _ _ _ _ => (pe_cmpR op_gt (pv 2) (pe_glob (v := .int 2000) (by rfl) T.m_MOST_WORD ⟨_, rfl⟩) (nomark _))))) pa_nil)))
      (pss_one (ps_raise rfl (takes_of rfl rfl rfl rfl) (pmk_oex T.o_TooMany T.ii_TooMany T.it_TooMany (ok_TooMany_init T) (hr.mono (by decide)) T.ib_TooMany .nil pass0 (by rfl) T.g_TooMany (pa_cons (pe_glob (v := .int 2000) (by rfl) T.m_MOST_WORD ⟨_, rfl⟩) pa_nil))))
      pss_nil)
    (pss_one (ps_ret (pe_call (ok_short_values T) (hr.mono (by decide)) (by rfl) T.g_short_values T.F_short_values.kp T.b_short_values .nil pass0 (pa_cons (pv 0) (pa_cons (pv 1) pa_nil))))))), ?_⟩
    obtain ⟨v, z, f, ss, rfl, hv, ok, qE, q⟩ := h
    refine ⟨_, rfl, v, z, f, ss, rfl, hv, ok, fun H1 d1 E s1 nd1 ⟨kvs, hd1, hE1⟩ cl all => ?_⟩
    have lE := cl.few ok
    have lk := hE1.len
    refine ⟨d1, _, hd1, trivial, fun od => ?_⟩
    have kF : Keep [d1] H1 (upd H1 d1 (.frz od (.dT kvs))) := Keep.pot List.mem_cons_self
    have hF : upd H1 d1 (.frz od (.dT kvs)) d1 = some (.frz od (.dT kvs)) := upd_same
    revert kF hF
    generalize upd H1 d1 (.frz od (.dT kvs)) = HF
    intro kF hF
    refine ⟨_, rfl, d1, od, kvs, rfl, hF, fun D nD => ?_⟩
    have nDd : D ≠ d1 := fun e => by
      rw [e, hF] at nD
      cases nD
    have hEF := hE1.mono kF
    let big : Cl × Wt → Bool := fun e => decide ((2000 : Int) < (e.2.1.length : Int))
    refine lc_it walk_valuesT (fun i H' => Same HF H' ∧ H' D = some (.lst (((E.take i).map big).map V.bl))) ⟨same_new nD, upd_same⟩ (fun _ _ _ p => p.1 _ _ hF) ?_ ?_
    · rintro i x H2 H3 hi ⟨s2, hD⟩ ⟨rfl, k, hk⟩
      obtain ⟨c, w, he, _, p, ep, hp⟩ := hEF.at_ hk
      have ep : x = .ref p := ep
      subst ep
      have hp3 := s2 _ _ (off_some hp).2
      refine ⟨p, _, rfl, SqT.of hp3, rfl, _, _, rfl, _, _, rfl, rfl, rfl, _, rfl, _, _, rfl, rfl, ?_⟩
      refine ⟨_, hD, ?_, fun b o e => (upd_ne (ne_of_none e nD)).trans (s2 b o e), ?_⟩
      · rw [List.length_map, List.length_map, List.length_take]
        exact Nat.lt_of_le_of_lt (Nat.min_le_right _ _) (Nat.lt_of_le_of_lt lE (by decide))
      · rw [upd_same, take_entry he, List.map_append, List.map_append]
        rfl
    · rintro H2 ⟨s2, hD⟩
      have k2 : Keep [d1] H1 H2 := kF.trans (Keep.of s2)
      refine ⟨s2 _ _ hF, D, (E.map big), rfl, ?_, _, rfl, ?_⟩
      · rw [lk, List.take_length] at hD
        exact SqL.of ((upd_ne nDd).trans hD)
      have s3 : Same H1 (upd H2 d1 (.dT kvs)) := k2.unlock hd1
      have hd3 : upd H2 d1 (.dT kvs) d1 = some (.dT kvs) := upd_same
      revert s3 hd3
      generalize upd H2 d1 (.dT kvs) = H3
      intro s3 hd3
      have s03 := Same.trans s1 s3
      cases hb : (E.map big).any id with
      | true =>
        refine if_true rfl (raise1_out ((qE ?_).mono s03))
        rw [List.any_map, List.any_eq_true] at hb
        obtain ⟨e, he, hb⟩ := hb
        have hb : (2000 : Int) < (e.2.1.length : Int) := of_decide_eq_true hb
        exact ⟨e.1, e.2, cl.val _ _ (cl.lookup ok he), by omega⟩
      | false =>
        refine if_false rfl ?_
        have small : ∀ e ∈ E, e.2.1.length ≤ 2000 := fun e he => by
          rw [List.any_map, List.any_eq_false] at hb
          have hb : ¬ (decide ((2000 : Int) < (e.2.1.length : Int)) = true) := hb e he
          rw [decide_eq_true_eq] at hb
          omega
        have q := q fun c w hw => by
          have gc : Good z ss c := by
            obtain ⟨n, hn⟩ := hw
            cases n with
            | zero => cases hn
            | succ n =>
              cases em : mv z ss c with
              | none =>
                rw [ev_stop em] at hn
                cases hn
              | some m => exact (mv_ok ok em).1
          exact small _ (look_mem ((all c gc w).1 hw))
        refine ⟨_, rfl, _, rfl, v, d1, z, f, ss, E, rfl, hv.mono (fun b o e => off_of (fun zz => by
          rw [List.mem_singleton.1 zz, nd1] at e
          cases e) (s03 _ _ e)), ok, ⟨kvs, hd3, hE1.mono (Keep.of s3)⟩, cl, fun H' d2 s4 nd2 hV => ?_⟩
        rw [shortE_all small] at hV
        refine q H' d2 E (Same.trans s03 s4) ?_ hV cl all
        cases e : H d2 with
        | none => rfl
        | some u =>
          rw [s03 _ _ e] at nd2
          cases nd2
end
end K12

namespace K12
open PySem PySem.Spec PyProof.Rows L2 G Lk
section
variable {P : Program} {w : World} {K : PySem.W.Frag} {mg : Str → Option Value} {base : Heap}
def sp_first_without (K : PySem.W.Frag) : Sp := fun vs H Q _ => ∃ (v : V) (d pc : Addr) (z f : Str) (ss : List PyData) (E : Ent) (c : Cl), vs = [v, .ref d, .ref pc] ∧ Dq K H v (.tuple [.str z, .str f, .tuple ss]) ∧ StatesOk z ss ∧ PrD [] H d E ∧ look E = valOf z ss ∧
  CallAt H pc c ∧ Good z ss c ∧ valOf z ss c = none ∧
  ∀ H' r, Same H H' → ((nxt z ss (valOf z ss) c = none ∧ r = .non) ∨ ∃ e p, nxt z ss (valOf z ss) c = some e ∧ r = .ref p ∧ CallAt H' p e ∧ Good z ss e ∧ valOf z ss e = none) → Q r H'
/-- def _first_without(expander, found, call): -/
theorem ok_first_without (T : Tx K mg) : FnOk P w K mg base CX0 2 T.a__first_without T.fd__first_without ["expander", "found", "call"] (sp_first_without K) := by
  refine T.F__first_without.ok sc_first_without (fun vs H Q E h => ?_) (fun cdv A outer s H vs Q E hr h => ?_)
  · obtain ⟨_, _, _, _, _, _, _, _, rfl, _⟩ := h
    rfl
  · refine ⟨_, (pss_cons (ps_set (i := 3) sc_first_without.nd rfl (by first | exact Or.inl rfl | exact Or.inr rfl) (pe_call (ok_move_of T) (hr.mono (by decide)) (by rfl) T.g_move_of T.F_move_of.kp T.b_move_of .nil pass0 (pa_cons (pv 0) (pa_cons (pe_ix ix_tup (pv 2) pe_int (fun _ _ => rfl)) (pa_cons (pe_ix ix_tup (pv 2) pe_int (fun _ _ => rfl)) pa_nil)))))
    (pss_cons (ps_if (pt_cmpR op_isN (pv 3) pe_non (nomark _))
      (pss_one (ps_ret pe_non))
      pss_nil)
    (pss_cons (ps_asg (pv 3) (pg_tup rfl (pgs_cons (pg_name (i := 5) sc_first_without.nd rfl (by first | exact Or.inl rfl | exact Or.inr rfl)) (pgs_cons (pg_name (i := 6) sc_first_without.nd rfl (by first | exact Or.inl rfl | exact Or.inr rfl)) (pgs_cons (pg_name (i := 7) sc_first_without.nd rfl (by first | exact Or.inl rfl | exact Or.inr rfl)) pgs_nil)))))
    (pss_cons (ps_set (i := 4) sc_first_without.nd rfl (by first | exact Or.inl rfl | exact Or.inr rfl) pe_int)
    (pss_cons (ps_while PassesOwn.never (pt_cmp (pc_din (unit1 hr.units) (pe_tup (pa_cons (pv 7) (pa_cons (pe_ix ix_str (pv 6) (pv 4) (fun _ _ => rfl)) pa_nil))) (pv 1)))
      (pss_cons (ps_set (i := 7) sc_first_without.nd rfl (by first | exact Or.inl rfl | exact Or.inr rfl) (pe_ix ix_seq (pe_dget (unit1 hr.units) (pv 1) (pe_tup (pa_cons (pv 7) (pa_cons (pe_ix ix_str (pv 6) (pv 4) (fun _ _ => rfl)) pa_nil))) (fun _ _ => rfl)) pe_int (fun _ _ => rfl)))
    (pss_one (ps_aug (i := 4) sc_first_without.nd rfl (by first | exact Or.inl rfl | exact Or.inr rfl) pe_int ip_add))))
    (pss_one (ps_ret (pe_tup (pa_cons (pv 7) (pa_cons (pe_ix ix_str (pv 6) (pv 4) (fun _ _ => rfl)) pa_nil)))))))))), ?_⟩
    obtain ⟨v, d, pc, z, f, ss, E, c, rfl, hv, ok, ⟨kvs, hd, hE⟩, hl, hpc, gc, hn, q⟩ := h
    obtain ⟨ms, lst, kk, rst, e1, e2, e3⟩ := move_is (f := f) ok gc
    refine ⟨_, rfl, _, rfl, pc, _, 0, _, rfl, rfl, SqT.of hpc, rfl, _, rfl, pc, _, 1, _, rfl, rfl, SqT.of hpc, rfl, ?_⟩
    refine ⟨v, _, _, _, _, _, moveD z ss c.1 c.2, rfl, hv, .int _, .str _, ⟨z, f, ss, c.1, Ls.one c.2, ms, lst, kk, rst, rfl, rfl, rfl, e1, e2, e3⟩, fun mr hmr => ?_⟩
    refine ⟨_, rfl, rfl, _, rfl, ?_⟩
    cases emv : mv z ss c with
    | none =>
      rw [mv_none ok gc.1 gc.2 emv] at hmr
      obtain rfl := hmr.noneV
      refine if_true rfl (q H .non (Same.refl H) (.inl ⟨?_, rfl⟩))
      unfold nxt
      rw [emv]
    | some m =>
      obtain ⟨_, x, y, emd, ex, ey, lx, ly, ax, ay, hg⟩ := mv_ok ok emv
      rw [emd] at hmr
      obtain ⟨pm, rfl, hpm⟩ := standV (a := x) (b := y) (s := m.2.2) hmr
      refine if_false rfl ?_
      refine ⟨_, rfl, pm, _, rfl, hpm, rfl, _, _, rfl, _, _, rfl, _, _, rfl, rfl, ?_⟩
      have lyl : y.cps.toList.length = y.length := by simp [Str.length]
      have lyz : y.length ≤ sizeLine := Nat.le_trans ly (by decide)
      have enx : nxt z ss (valOf z ss) c = stuckAt (valOf z ss) m.2.1 m.2.2 := by
        unfold nxt
        rw [emv]
      have hF : ∀ c v, valOf z ss c = some v → v.2 < ss.length := fun c v h => by
        obtain ⟨n, hn⟩ := valOf_some.1 h
        clear h
        induction n generalizing c v with
        | zero => cases hn
        | succ n ih =>
          cases em : mv z ss c with
          | none =>
            rw [ev_stop em] at hn
            cases hn
          | some m =>
            rw [ev_step em] at hn
            obtain ⟨_, _, _, _, _, _, _, _, _, _, hg⟩ := mv_ok ok em
            exact rd_good (a := (m.1, m.2.2)) (fun c v h => ih c v h) hg hn
      have hgd : ∀ dd ∈ m.2.1, dd ∈ z.cps.toList := fun dd h => allIn_mem ay dd (by rw [← ey]; exact h)
      refine while_by (fun σ H' => ∃ (p g : Nat) (l rest : List Nat), σ = [some v, some (.ref d), some (.ref pc), some (.ref pm), some (.int (p : Int)), some (.str x), some (.str y), some (.int (g : Int))] ∧ Same H H' ∧ m.2.1 = l ++ rest ∧ l.length = p ∧
        rd (valOf z ss) rest ([], g) = none ∧ stuckAt (valOf z ss) rest g = stuckAt (valOf z ss) m.2.1 m.2.2 ∧ g < ss.length)
        (fun σ _ => match σ with | [_, _, _, _, some (.int p), _, _, _] => y.length - p.toNat | _ => 0) ?_ ?_ ?_
      · exact ⟨0, m.2.2, [], m.2.1, rfl, Same.refl _, rfl, rfl, rd_none_at (a := (m.1, m.2.2)) rfl (rd_not emv hn), rfl, hg⟩
      · rintro σ H1 ⟨p, g, l, rest, rfl, s1, el, lp, hr, hst, gg⟩
        cases rest with
        | nil => cases hr
        | cons dd rest =>
          have aty : y.cps.toList[p]? = some dd := by
            rw [← ey, el, ← lp, List.getElem?_append_right (Nat.le_refl _), Nat.sub_self]
            rfl
          have ply : p < y.length := by
            rw [← lyl]
            exact (List.getElem?_eq_some_iff.mp aty).1
          refine ⟨_, rfl, _, rfl, _, rfl, y, _, dd, rfl, rfl, lyz, atI_nat aty, (by show 2 ≤ sizeLine; decide), fun pn np => ?_⟩
          have s2 := same_new (o := .tup [.int (g : Int), .str ⟨#[dd]⟩]) np
          have hpn : CallAt (upd H1 pn (.tup [.int (g : Int), .str ⟨#[dd]⟩])) pn (g, dd) := upd_same
          revert s2 hpn
          generalize upd H1 pn (.tup [.int (g : Int), .str ⟨#[dd]⟩]) = H2
          intro s2 hpn
          have s02 := Same.trans s1 s2
          have hE2 : PrE H2 kvs E := hE.mono (Same.trans off_same s02)
          refine ⟨_, rfl, d, _, rfl, DGet.t (k := ckey (g, dd)) (s02 _ _ hd) hpn.key, _, rfl, ?_⟩
          rcases hE2.get (g, dd) with ⟨vv, ww, e5, e6, e7⟩ | ⟨e5, e6⟩
          · rw [e5]
            rw [hl] at e6
            refine if_true rfl ?_
            refine ⟨_, rfl, _, rfl, _, rfl, _, rfl, y, _, dd, rfl, rfl, lyz, atI_nat aty, (by show 2 ≤ sizeLine; decide), fun pn2 np2 => ?_⟩
            have s3 := same_new (o := .tup [.int (g : Int), .str ⟨#[dd]⟩]) np2
            have hpn2 : CallAt (upd H2 pn2 (.tup [.int (g : Int), .str ⟨#[dd]⟩])) pn2 (g, dd) := upd_same
            revert s3 hpn2
            generalize upd H2 pn2 (.tup [.int (g : Int), .str ⟨#[dd]⟩]) = H3
            intro s3 hpn2
            have s03 := Same.trans s02 s3
            refine ⟨d, vv, rfl, ?_, ?_⟩
            · rw [← e5]
              exact DGet.t (k := ckey (g, dd)) (s03 _ _ hd) hpn2.key
            · obtain ⟨pw, rfl, x8, e8⟩ := e7
              refine .inr (.inl ⟨pw, _, 1, _, rfl, rfl, SqT.of (s3 _ _ e8), rfl, ?_⟩)
              refine ⟨_, rfl, _, _, rfl, rfl, ?_⟩
              refine ⟨⟨p + 1, ww.2, l ++ [dd], rest, rfl, s03, by rw [el]; simp, by rw [List.length_append, lp]; rfl, ?_, ?_, hF _ _ e6⟩, ?_⟩
              · rw [rd_some (a := ([], g)) e6] at hr
                exact rd_none_at (a := (([] : List Nat) ++ ww.1, ww.2)) (b := ([], ww.2)) rfl hr
              · rw [← hst, stuckAt_some e6]
              · show y.length - ((p : Int) + 1).toNat < y.length - (p : Int).toNat
                omega
          · rw [e5]
            rw [hl] at e6
            refine if_false rfl ?_
            refine ⟨_, rfl, _, rfl, _, rfl, y, _, dd, rfl, rfl, lyz, atI_nat aty, (by show 2 ≤ sizeLine; decide), fun pn2 np2 => ?_⟩
            have s3 := same_new (o := .tup [.int (g : Int), .str ⟨#[dd]⟩]) np2
            have gd : dd ∈ z.cps.toList := hgd dd (by rw [el]; exact List.mem_append_right _ List.mem_cons_self)
            refine q _ _ (Same.trans s02 s3) (.inr ⟨(g, dd), pn2, ?_, rfl, upd_same, ⟨gg, gd⟩, e6⟩)
            rw [enx, ← hst, stuckAt_none e6]
      · rintro σ H' Q1 Q2 hQ h
        obtain ⟨u1, e1, u2, e2, u3, e3, zz, ii, cc, e4, e5, e6, e7, e8, h⟩ := h
        refine ⟨u1, e1, u2, e2, u3, e3, zz, ii, cc, e4, e5, e6, e7, e8, fun p np => ?_⟩
        obtain ⟨u4, e9, a, o, e10, e11, kk, e12, h⟩ := h p np
        exact ⟨u4, e9, a, o, e10, e11, kk, e12, hQ _ _ h⟩
end
end K12

namespace K12
open PySem PySem.Spec PyProof.Rows L2 G Lk
section
variable {P : Program} {w : World} {K : PySem.W.Frag} {mg : Str → Option Value} {base : Heap}
def sp_thread_of (K : PySem.W.Frag) : Sp := fun vs H Q _ => ∃ (v : V) (d pc : Addr) (z f : Str) (ss : List PyData) (E : Ent) (c : Cl), vs = [v, .ref d, .ref pc] ∧ Dq K H v (.tuple [.str z, .str f, .tuple ss]) ∧ StatesOk z ss ∧ PrD [] H d E ∧ look E = valOf z ss ∧
  CallAt H pc c ∧ Good z ss c ∧
  ∀ H' (r : Addr) xs, Same H H' → H r = none → H' r = some (.lst xs) → CallsAt H' xs (threadOf z ss c) → Q (.ref r) H'
/-- def _thread_of(expander, found, call): -/
theorem ok_thread_of (T : Tx K mg) : FnOk P w K mg base CX0 3 T.a__thread_of T.fd__thread_of ["expander", "found", "call"] (sp_thread_of K) := by
  refine T.F__thread_of.ok sc_thread_of (fun vs H Q E h => ?_) (fun cdv A outer s H vs Q E hr h => ?_)
  · obtain ⟨_, _, _, _, _, _, _, _, rfl, _⟩ := h
    rfl
  · refine ⟨_, (pss_cons (ps_set (i := 3) sc_thread_of.nd rfl (by first | exact Or.inl rfl | exact Or.inr rfl) (pe_lst pa_nil))
    (pss_cons (ps_if (pt_cmp (pc_din (unit1 hr.units) (pv 2) (pv 1)))
      (pss_one (ps_ret (pv 3)))
      pss_nil)
    (pss_cons (ps_while PassesOwn.never (PW.pt (pw_and (pt_cmpR op_notN (pv 2) pe_non (nomark _)) (pw_and1 (pt_cmpR (op_notInD (units65 hr)) (pv 2) (pv 3) (by rfl)))))
      (pss_cons (ps_expr (pe_bm PySem.F.plainAttrs_list PySem.F.slot_list_append PySem.F.type_list_append mt_append (pv 3) (pa_cons (pv 2) pa_nil)))
    (pss_one (ps_set (i := 2) sc_thread_of.nd rfl (by first | exact Or.inl rfl | exact Or.inr rfl) (pe_call (ok_first_without T) (hr.mono (by decide)) (by rfl) T.g__first_without T.F__first_without.kp T.b__first_without .nil pass0 (pa_cons (pv 0) (pa_cons (pv 1) (pa_cons (pv 2) pa_nil))))))))
    (pss_one (ps_ret (pe_ifExp (pt_cmpR op_isN (pv 2) pe_non (nomark _)) (pv 3) (pe_op op_cat (pv 3) (pe_lst (pa_cons (pv 2) pa_nil))))))))), ?_⟩
    obtain ⟨v, d, pc, z, f, ss, E, c, rfl, hv, ok, hV, hl, hpc, gc, q⟩ := h
    refine ⟨Nat.zero_le _, fun l nl => ?_⟩
    have s1 := same_new (o := .lst []) nl
    have hl1 : upd H l (.lst []) l = some (.lst []) := upd_same
    revert s1 hl1
    generalize upd H l (.lst []) = H1
    intro s1 hl1
    obtain ⟨kvs, hd, hE⟩ := hV
    have hpc1 := s1 _ _ hpc
    have hE1 : PrE H1 kvs E := hE.mono (Same.trans off_same s1)
    refine ⟨_, rfl, _, rfl, d, _, rfl, DGet.t (k := ckey c) (s1 _ _ hd) (CallAt.key hpc1), _, rfl, ?_⟩
    rcases hE1.get c with ⟨vv, ww, e5, e6, e7⟩ | ⟨e5, e6⟩
    · rw [e5]
      rw [hl] at e6
      refine if_true rfl ⟨_, rfl, ?_⟩
      refine q H1 l [] s1 nl hl1 ?_
      unfold threadOf
      rw [e6]
      exact .nil
    · rw [e5]
      rw [hl] at e6
      refine if_false rfl ?_
      have eT : threadOf z ss c = thr z ss (valOf z ss) 241 [] (some c) := by
        unfold threadOf
        rw [e6]
      rw [eT] at q
      generalize thr z ss (valOf z ss) 241 [] (some c) = T at q eT
      have nl' : ∀ {H' : Hp} {p : Addr} {x : Cl} {xs : List V}, H' l = some (.lst xs) → CallAt H' p x → p ∉ [l] := fun h1 h2 zz => by
        have h2 : _ = some (HO.tup _) := h2
        rw [List.mem_singleton.1 zz, h1] at h2
        cases h2
      refine while_by (fun σ H' => ∃ (n : Nat) (row : List Cl) (cur : Option Cl) (xs : List V) (cv : V), σ = [some v, some (.ref d), some cv, some (.ref l)] ∧ Keep [l] H1 H' ∧ H' l = some (.lst xs) ∧ CallsAt (off [l] H') xs row ∧ row.Nodup ∧ (∀ x ∈ row, Good z ss x) ∧
        row.length + n = 241 ∧ thr z ss (valOf z ss) n row cur = T ∧ ((cur = none ∧ cv = .non) ∨ ∃ x p, cur = some x ∧ cv = .ref p ∧ CallAt (off [l] H') p x ∧ Good z ss x ∧ valOf z ss x = none))
        (fun _ H' => match H' l with | some (.lst us) => 241 - us.length | _ => 0) ?_ ?_ ?_
      · refine ⟨241, [], some c, [], .ref pc, rfl, Keep.refl, hl1, .nil, .nil, (fun _ h => by cases h), rfl, ?_, .inr ⟨c, pc, rfl, rfl, off_of (nl' hl1 hpc1) hpc1, gc, e6⟩⟩
        rw [← eT]
        unfold threadOf
        rw [e6]
      · rintro σ H2 ⟨n, row, cur, xs, cv, rfl, k2, hl2, hxs, nd, gr, ln, hT, hcur⟩
        have s2 : Same H H2 := fun b o e => k2.at_ (fun zz => by
          rw [List.mem_singleton.1 zz, nl] at e
          cases e) (s1 _ _ e)
        have few : row.length ≤ 240 := Calls.few ok ⟨nd, gr⟩
        have lx := hxs.len
        obtain ⟨n, rfl⟩ : ∃ k, n = k + 1 := ⟨n - 1, by omega⟩
        rcases hcur with ⟨rfl, rfl⟩ | ⟨x, p, rfl, rfl, hp, gx, hx⟩
        · refine ⟨_, rfl, rfl, _, rfl, if_false rfl (if_false rfl ?_)⟩
          refine ⟨_, rfl, rfl, _, rfl, if_true rfl ⟨_, rfl, ?_⟩⟩
          have hT : row = T := hT
          subst hT
          exact q H2 l xs s2 nl hl2 (hxs.mono off_same)
        · refine ⟨_, rfl, rfl, _, rfl, if_true rfl ?_⟩
          have hp2 := (off_some hp).2
          have shp : ∀ y : Cl, Good z ss y → Eqb 1 (callD y) := fun y h => callD_eqb ok h
          refine ⟨_, rfl, _, rfl, callD x, row.map callD, (CallAt.dq hp2).dp (shp x gx).lay, .lst (SqL.of hl2) ((CallsAt.dq (hxs.mono off_same)).dp (eqb_all (n := 1) fun d hd => ?_).1), (shp x gx).shaped (by decide), (Eqb.lst (n := 1) fun d hd => ?_).shaped (by decide), _, rfl, ?_⟩
          · obtain ⟨y, hy, rfl⟩ := List.mem_map.1 hd
            exact shp y (gr y hy)
          · obtain ⟨y, hy, rfl⟩ := List.mem_map.1 hd
            exact shp y (gr y hy)
          rw [calls_any]
          by_cases hin : x ∈ row
          · rw [decide_eq_true hin]
            refine if_false rfl ?_
            have hT : (if x ∈ row then row ++ [x] else _) = T := hT
            rw [if_pos hin] at hT
            subst hT
            refine ⟨_, rfl, rfl, _, rfl, if_false rfl ⟨_, rfl, _, rfl, (by show 1 ≤ sizeLine; decide), fun pn np => ?_⟩⟩
            have s3 := same_new (o := .lst [.ref p]) np
            have hpn : upd H2 pn (.lst [.ref p]) pn = some (.lst [.ref p]) := upd_same
            revert s3 hpn
            generalize upd H2 pn (.lst [.ref p]) = H3
            intro s3 hpn
            refine ⟨l, pn, xs, [.ref p], rfl, rfl, s3 _ _ hl2, hpn, ?_, fun pr npr => ?_⟩
            · rw [lx]
              exact Nat.le_trans (show row.length + 1 ≤ 300 by omega) (by decide)
            · have s4 := same_new (o := .lst (xs ++ [.ref p])) npr
              have s24 := Same.trans s3 s4
              refine q _ pr (xs ++ [.ref p]) (Same.trans s2 s24) ?_ upd_same ((hxs.mono (Same.trans off_same s24)).append (.cons (s24 _ _ hp2) .nil))
              cases e : H pr with
              | none => rfl
              | some u =>
                rw [s3 _ _ (s2 _ _ e)] at npr
                cases npr
          · rw [decide_eq_false hin]
            refine if_true rfl ?_
            have hT : (if x ∈ row then row ++ [x] else thr z ss (valOf z ss) n (row ++ [x]) (nxt z ss (valOf z ss) x)) = T := hT
            rw [if_neg hin] at hT
            refine ⟨_, rfl, .inl ⟨rfl, _, SqL.of hl2⟩, _, rfl, l, xs, _, rfl, rfl, hl2, Nat.lt_of_lt_of_le (show xs.length < 300 by omega) (by decide), ?_⟩
            have k3 : Keep [l] H2 (upd H2 l (.lst (xs ++ [.ref p]))) := Keep.pot List.mem_cons_self
            have hl3 : upd H2 l (.lst (xs ++ [.ref p])) l = some (.lst (xs ++ [.ref p])) := upd_same
            revert k3 hl3
            generalize upd H2 l (.lst (xs ++ [.ref p])) = H3
            intro k3 hl3
            have s3 : Same H H3 := fun b o e => k3.at_ (fun zz => by
              rw [List.mem_singleton.1 zz, nl] at e
              cases e) (s2 _ _ e)
            have hp3 : CallAt H3 p x := k3.at_ (off_some hp).1 hp2
            have hV3 : PrD [] H3 d E := ⟨kvs, s3 _ _ hd, hE.mono (Keep.of s3)⟩
            refine ⟨_, rfl, _, rfl, _, rfl, ?_⟩
            refine ⟨v, d, p, z, f, ss, E, x, rfl, hv.mono s3, ok, hV3, hl, hp3, gx, hx, fun H4 r s4 hr => ?_⟩
            have hl4 := s4 _ _ hl3
            refine ⟨⟨n, row ++ [x], nxt z ss (valOf z ss) x, xs ++ [.ref p], r, rfl, k2.trans (k3.trans (Keep.of s4)), hl4, ?_, ?_, ?_, ?_, hT, ?_⟩, ?_⟩
            · have hxs4 := hxs.mono (k3.trans (Keep.of s4))
              exact hxs4.append (.cons (off_of (off_some hp).1 (s4 _ _ hp3)) .nil)
            · refine List.nodup_append.2 ⟨nd, List.nodup_cons.2 ⟨fun h => (by cases h), .nil⟩, fun a ha b hb e => ?_⟩
              obtain rfl := List.mem_singleton.1 hb
              rw [e] at ha
              exact hin ha
            · intro y hy
              rcases List.mem_append.1 hy with hy | hy
              · exact gr y hy
              · obtain rfl := List.mem_singleton.1 hy
                exact gx
            · rw [List.length_append]
              show row.length + 1 + n = 241
              omega
            · rcases hr with ⟨e1, e2⟩ | ⟨y, p', e1, e2, h1, h2, h3⟩
              · exact .inl ⟨e1, e2⟩
              · exact .inr ⟨y, p', e1, e2, off_of (nl' hl4 h1) h1, h2, h3⟩
            · rw [hl4, hl2]
              show 241 - (xs ++ [V.ref p]).length < 241 - xs.length
              rw [List.length_append]
              show 241 - (xs.length + 1) < 241 - xs.length
              omega
      · rintro σ H' Q1 Q2 hQ h
        obtain ⟨v1, e1, e2, k, e3, h⟩ := h
        refine ⟨v1, e1, e2, k, e3, ?_⟩
        cases k with
        | false => exact hQ _ _ h
        | true =>
          obtain ⟨v2, e4, v3, e5, dd, ds, e6, e7, e8, e9, kk, e10, h⟩ := h
          exact ⟨v2, e4, v3, e5, dd, ds, e6, e7, e8, e9, kk, e10, hQ _ _ h⟩
end
end K12

namespace K12
open PySem PySem.Spec PyProof.Rows L2 G Lk
section
variable {P : Program} {w : World} {K : PySem.W.Frag} {mg : Str → Option Value} {base : Heap}
def sp_need_value (K : PySem.W.Frag) (mg : Str → Option Value) (T : Tx K mg) : Sp := fun vs H Q X => ∃ (v : V) (d pc : Addr) (z f : Str) (ss : List PyData) (E : Ent) (c : Cl), vs = [v, .ref d, .ref pc] ∧ Dq K H v (.tuple [.str z, .str f, .tuple ss]) ∧ StatesOk z ss ∧ PrD [] H d E ∧ look E = valOf z ss ∧
  CallAt H pc c ∧ Good z ss c ∧ (∀ w, valOf z ss c = some w → Q .non H) ∧ (valOf z ss c = none → noOutE K T.a_NoOutcome X H (kindT z ss (threadOf z ss c)) ((threadOf z ss c).map callD))
/-- def _need_value(expander, found, call): -/
theorem ok_need_value (T : Tx K mg) : FnOk P w K mg base (L2.CX P w) 4 T.a__need_value T.fd__need_value ["expander", "found", "call"] (sp_need_value K mg T) := by
  refine T.F__need_value.okX sc_need_value (fun vs H Q E h => ?_) (fun cdv A outer s H vs Q E hr h => ?_)
  · obtain ⟨_, _, _, _, _, _, _, _, rfl, _⟩ := h
    rfl
  · refine ⟨_, (pss_one (ps_if (pt_cmp (pc_dnotin (unit1 hr.units) (pv 2) (pv 1)))
      (pss_cons (ps_set (i := 3) sc_need_value.nd rfl (by first | exact Or.inl rfl | exact Or.inr rfl) (pe_call (ok_thread_of T) (hr.mono (by decide)) (by rfl) T.g__thread_of T.F__thread_of.kp T.b__thread_of .nil pass0 (pa_cons (pv 0) (pa_cons (pv 1) (pa_cons (pv 2) pa_nil)))))
    (pss_cons (ps_asg (pe_ix ix_list (pv 3) (pe_un un_neg pe_int) (fun _ _ => rfl)) (pg_tup rfl (pgs_cons (pg_name (i := 5) sc_need_value.nd rfl (by first | exact Or.inl rfl | exact Or.inr rfl)) (pgs_cons (pg_name (i := 6) sc_need_value.nd rfl (by first | exact Or.inl rfl | exact Or.inr rfl)) pgs_nil))))
    (C8.pss_cut (ps_set (i := 4) sc_need_value.nd rfl (by first | exact Or.inl rfl | exact Or.inr rfl) (pe_ifExp (pt_cmpR op_isN (pe_call (ok_move_of T) (hr.mono (by decide)) (by rfl) T.g_move_of T.F_move_of.kp T.b_move_of .nil pass0 (pa_cons (pv 0) (pa_cons (pv 5) (pa_cons (pv 6) pa_nil)))) pe_non (nomark _)) pe_str pe_str))
    (pss_one (ps_raise rfl (takes_of rfl rfl rfl rfl) (pmk_oex T.o_NoOutcome T.ii_NoOutcome T.it_NoOutcome (ok_NoOutcome_init T) (hr.mono (by decide)) T.ib_NoOutcome .nil pass0 (by rfl) T.g_NoOutcome (pa_cons (pv 4) (pa_cons (pv 3) pa_nil))))))))
      pss_nil)), ?_⟩
    obtain ⟨v, d, pc, z, f, ss, E, c, rfl, hv, ok, hV, hl, hpc, gc, q1, q2⟩ := h
    obtain ⟨kvs, hd, hE⟩ := id hV
    have hE0 : PrE H kvs E := hE.mono off_same
    refine ⟨_, rfl, _, rfl, d, _, rfl, DGet.t (k := ckey c) hd (CallAt.key hpc), _, rfl, ?_⟩
    rcases hE0.get c with ⟨vv, ww, e5, e6, e7⟩ | ⟨e5, e6⟩
    · rw [e5]
      rw [hl] at e6
      exact if_false rfl (q1 _ e6)
    · rw [e5]
      rw [hl] at e6
      refine if_true rfl ?_
      refine ⟨_, rfl, _, rfl, _, rfl, ?_⟩
      refine ⟨v, d, pc, z, f, ss, E, c, rfl, hv, ok, hV, hl, hpc, gc, fun H1 r xs s1 nr hr hxs => ?_⟩
      have q2 := (q2 e6).mono s1
      obtain ⟨cs, e, eT, ge⟩ := threadOf_last ok gc e6
      have hq : DqAll K H1 xs ((threadOf z ss c).map callD) := hxs.dq
      rw [eT] at hxs
      obtain ⟨ys, p, rfl, hp⟩ := hxs.last
      refine ⟨_, rfl, 1, rfl, r, _, _, _, rfl, rfl, SqL.of hr, atI_last ys _, p, _, rfl, SqT.of hp, rfl, _, _, rfl, _, _, rfl, rfl, ?_⟩
      refine ⟨fun σ H' => σ = [some v, some (.ref d), some (.ref pc), some (.ref r), some (.str (kindT z ss (threadOf z ss c))), some (.int (e.1 : Int)), some (.str (Ls.one e.2))] ∧ H' = H1, ?_, ?_⟩
      · obtain ⟨ms, lst, kk, rst, e1, e2, e3⟩ := move_is (f := f) ok ge
        refine ⟨_, rfl, _, rfl, _, rfl, ?_⟩
        refine ⟨v, _, _, _, _, _, moveD z ss e.1 e.2, rfl, hv.mono s1, .int _, .str _, ⟨z, f, ss, e.1, Ls.one e.2, ms, lst, kk, rst, rfl, rfl, rfl, e1, e2, e3⟩, fun mr hmr => ?_⟩
        have ek : kindT z ss (threadOf z ss c) = match mv z ss e with | none => "breaks" | some _ => "endless" := by
          unfold kindT
          rw [eT, List.getLast?_append]
          rfl
        rw [ek]
        refine ⟨rfl, _, rfl, ?_⟩
        cases emv : mv z ss e with
        | none =>
          rw [mv_none ok ge.1 ge.2 emv] at hmr
          obtain rfl := hmr.noneV
          exact if_true rfl ⟨rfl, rfl⟩
        | some m =>
          obtain ⟨_, x, y, emd, _⟩ := mv_ok ok emv
          rw [emd] at hmr
          obtain ⟨pm, rfl, _⟩ := standV (a := x) (b := y) (s := m.2.2) hmr
          exact if_false rfl ⟨rfl, rfl⟩
      · rintro σ H2 ⟨rfl, rfl⟩
        exact ⟨_, rfl, _, rfl, raise_out hr hq q2⟩
end
end K12

namespace K12
open PySem PySem.Spec PyProof.Rows L2 G Lk
section
variable {P : Program} {w : World} {K : PySem.W.Frag} {mg : Str → Option Value} {base : Heap}
def sp_calls_of_text (K : PySem.W.Frag) (mg : Str → Option Value) (T : Tx K mg) : Sp := fun vs H Q X => ∃ (v : V) (d : Addr) (z f t : Str) (ss : List PyData) (E : Ent), vs = [v, .ref d, .str t] ∧ Dq K H v (.tuple [.str z, .str f, .tuple ss]) ∧ StatesOk z ss ∧ PrD [] H d E ∧ look E = valOf z ss ∧ allIn z t = true ∧ t.length ≤ 200 ∧
  (∀ c, stuckAt (valOf z ss) t.cps.toList 0 = some c → noOutE K T.a_NoOutcome X H (kindT z ss (threadOf z ss c)) ((threadOf z ss c).map callD)) ∧
  (∀ u g, rd (valOf z ss) t.cps.toList (f.cps.toList, 0) = some (u, g) → (lastD ss g = .none → noOutE K T.a_NoOutcome X H "last" []) ∧
    ∀ w, lastD ss g = .str w → w.length ≤ 2000 → ∀ (H' : Hp) (p l : Addr) xs, Same H H' → H l = none → H' l = some (.lst xs) → CallsAt H' xs (runC (valOf z ss) t.cps.toList 0) → H' p = some (.tup [.ref l, .str w]) → Q (.ref p) H')
/-- def calls_of_text(expander, found, text): -/
theorem ok_calls_of_text (T : Tx K mg) : FnOk P w K mg base (L2.CX P w) 5 T.a_calls_of_text T.fd_calls_of_text ["expander", "found", "text"] (sp_calls_of_text K mg T) := by
  refine T.F_calls_of_text.okX sc_calls_of_text (fun vs H Q E h => ?_) (fun cdv A outer s H vs Q E hr h => ?_)
  · obtain ⟨_, _, _, _, _, _, _, rfl, _⟩ := h
    rfl
  · refine ⟨_, (pss_cons (ps_set (i := 3) sc_calls_of_text.nd rfl (by first | exact Or.inl rfl | exact Or.inr rfl) (pe_lst pa_nil))
    (pss_cons (ps_set (i := 4) sc_calls_of_text.nd rfl (by first | exact Or.inl rfl | exact Or.inr rfl) pe_int)
    (pss_cons (ps_for (passes_of rfl) rfl (pi_str (pv 2)) (pg_name (i := 5) sc_calls_of_text.nd rfl (by first | exact Or.inl rfl | exact Or.inr rfl))
      (pss_cons (ps_expr (pe_call (ok_need_value T) (hr.mono (by decide)) (by rfl) T.g__need_value T.F__need_value.kp T.b__need_value .nil (passes_call (takes_of rfl rfl rfl rfl) (fun _ _ _ _ h => h)) (pa_cons (pv 0) (pa_cons (pv 1) (pa_cons (pe_tup (pa_cons (pv 4) (pa_cons (pv 5) pa_nil))) pa_nil)))))
    (pss_cons (ps_expr (pe_bm PySem.F.plainAttrs_list PySem.F.slot_list_append PySem.F.type_list_append mt_append (pv 3) (pa_cons (pe_tup (pa_cons (pv 4) (pa_cons (pv 5) pa_nil))) pa_nil)))
    (pss_one (ps_set (i := 4) sc_calls_of_text.nd rfl (by first | exact Or.inl rfl | exact Or.inr rfl) (pe_ix ix_tup (pe_dget (unit1 hr.units) (pv 1) (pe_tup (pa_cons (pv 4) (pa_cons (pv 5) pa_nil))) (fun _ _ => rfl)) pe_int (fun _ _ => rfl)))))))
    (pss_cons (ps_set (i := 6) sc_calls_of_text.nd rfl (by first | exact Or.inl rfl | exact Or.inr rfl) (pe_ix ix_tup (pe_ix ix_tup (pe_ix ix_tup (pv 0) pe_int (fun _ _ => rfl)) (pv 4) (fun _ _ => rfl)) pe_int (fun _ _ => rfl)))
    (pss_cons (ps_if (pt_cmpR op_isN (pv 6) pe_non (nomark _))
      (pss_one (ps_raise rfl (takes_of rfl rfl rfl rfl) (pmk_oex T.o_NoOutcome T.ii_NoOutcome T.it_NoOutcome (ok_NoOutcome_init T) (hr.mono (by decide)) T.ib_NoOutcome .nil pass0 (by rfl) T.g_NoOutcome (pa_cons pe_str (pa_cons (pe_lst pa_nil) pa_nil)))))
      pss_nil)
    (pss_one (ps_ret (pe_tup (pa_cons (pv 3) (pa_cons (pv 6) pa_nil)))))))))), ?_⟩
    obtain ⟨v, d, z, f, t, ss, E, rfl, hv, ok, hV, hl, hat, lt, q1, q2⟩ := h
    refine ⟨Nat.zero_le _, fun D nD => ?_⟩
    have s3 := same_new (o := .lst []) nD
    have hD3 : upd H D (.lst []) D = some (.lst []) := upd_same
    revert s3 hD3
    generalize upd H D (.lst []) = H3
    intro s3 hD3
    obtain ⟨kvs, hd3, hE3⟩ := (hV.same s3).any (T := [D]) fun a ha => by
      rw [List.mem_singleton.1 ha]
      exact .lst hD3
    have Dd : D ≠ d := fun e => by
      rw [e, hd3] at hD3
      cases hD3
    have fresh : ∀ {H' : Hp}, Keep [D] H3 H' → Same H H' := fun k b o e => k.at_ (fun zz => by
      rw [List.mem_singleton.1 zz, nD] at e
      cases e) (s3 _ _ e)
    have etl : t.cps.toList.length = t.length := by simp [Str.length]
    refine ⟨_, rfl, t, rfl, ?_⟩
    refine for_it walk_str (fun j σ H' => ∃ (s5 s6 : Option V) (g : Nat) (xs : List V) (u : List Nat), σ = [some v, some (.ref d), some (.str t), some (.ref D), some (.int (g : Int)), s5, s6] ∧ Keep [D] H3 H' ∧ H' D = some (.lst xs) ∧
      CallsAt (off [D] H') xs (runC (valOf z ss) (t.cps.toList.take j) 0) ∧ rd (valOf z ss) (t.cps.toList.take j) (f.cps.toList, 0) = some (u, g) ∧ g < ss.length)
      ⟨_, _, 0, [], f.cps.toList, rfl, Keep.refl, hD3, .nil, by rw [List.take_zero]; rfl, ok.2.1⟩ (fun _ _ _ _ _ => trivial) ?_ ?_
    · rintro j y σ H4' H4 hj ⟨s5, s6, g, xs, u, rfl, k4', hD4, hxs, hrd, gg⟩ ⟨rfl, c, hc, rfl⟩
      have hcl : t.cps.toList[j]? = some c := by simpa using hc
      have gc : Good z ss (g, c) := ⟨gg, allIn_mem hat c (List.mem_of_getElem? hcl)⟩
      have hj' : j < t.length := hj
      refine ⟨_, rfl, _, rfl, _, rfl, _, rfl, (by show 2 ≤ sizeLine; decide), fun pn np => ?_⟩
      have s5' := same_new (o := .tup [.int (g : Int), .str ⟨#[c]⟩]) np
      have hpn : CallAt (upd H4 pn (.tup [.int (g : Int), .str ⟨#[c]⟩])) pn (g, c) := upd_same
      revert s5' hpn
      generalize upd H4 pn (.tup [.int (g : Int), .str ⟨#[c]⟩]) = H5
      intro s5' hpn
      have k5' : Keep [D] H3 H5 := k4'.trans (Keep.of s5')
      have sH5 := fresh k5'
      have hd5 := k5'.at_ (fun zz => Dd (List.mem_singleton.1 zz).symm) hd3
      have hE5 : PrE (off [] H5) kvs E := ((hE3.mono k5').any (T := []) fun a ha => nomatch ha)
      refine ⟨v, d, pn, z, f, ss, E, (g, c), rfl, hv.mono sH5, ok, ⟨kvs, hd5, hE5⟩, hl, hpn, gc, fun w hw => ?_, fun hn => (q1 (g, c) (stuckAt_at hrd hcl hn)).mono sH5⟩
      have hD5 := s5' _ _ hD4
      refine ⟨_, rfl, .inl ⟨rfl, _, SqL.of hD5⟩, _, rfl, _, rfl, (by show 2 ≤ sizeLine; decide), fun p2 np2 => ?_⟩
      have s6' := same_new (o := .tup [.int (g : Int), .str ⟨#[c]⟩]) np2
      have hp2 : CallAt (upd H5 p2 (.tup [.int (g : Int), .str ⟨#[c]⟩])) p2 (g, c) := upd_same
      revert s6' hp2
      generalize upd H5 p2 (.tup [.int (g : Int), .str ⟨#[c]⟩]) = H6
      intro s6' hp2
      have hD6 := s6' _ _ hD5
      have nD2 : p2 ∉ [D] := fun zz => by
        have hp2 : H6 p2 = some (.tup [.int (g : Int), .str ⟨#[c]⟩]) := hp2
        rw [List.mem_singleton.1 zz, hD6] at hp2
        cases hp2
      have lx : xs.length ≤ 200 := by
        rw [hxs.len]
        refine Nat.le_trans runC_len ?_
        rw [List.length_take]
        omega
      refine ⟨D, _, _, rfl, rfl, hD6, Nat.lt_of_le_of_lt lx (by decide), ?_⟩
      have kA : Keep [D] H6 (upd H6 D (.lst (xs ++ [.ref p2]))) := Keep.pot List.mem_cons_self
      have hD7 : upd H6 D (.lst (xs ++ [.ref p2])) D = some (.lst (xs ++ [.ref p2])) := upd_same
      revert kA hD7
      generalize upd H6 D (.lst (xs ++ [.ref p2])) = H7
      intro kA hD7
      have k7 : Keep [D] H3 H7 := (k5'.trans (Keep.of s6')).trans kA
      have h7 : CallsAt (off [D] H7) (xs ++ [.ref p2]) (runC (valOf z ss) (t.cps.toList.take (j + 1)) 0) := by
        rw [take_snoc hcl, runC_snoc (a := (f.cps.toList, 0)) hrd]
        exact ((hxs.mono ((Keep.of (Same.trans s5' s6')).trans kA)).append (.cons (kA _ _ (off_of nD2 hp2)) .nil))
      refine ⟨_, rfl, _, rfl, _, rfl, (by show 2 ≤ sizeLine; decide), fun pk npk => ?_⟩
      have s8 := same_new (o := .tup [.int (g : Int), .str ⟨#[c]⟩]) npk
      have hpk : CallAt (upd H7 pk (.tup [.int (g : Int), .str ⟨#[c]⟩])) pk (g, c) := upd_same
      revert s8 hpk
      generalize upd H7 pk (.tup [.int (g : Int), .str ⟨#[c]⟩]) = H8
      intro s8 hpk
      have k8 : Keep [D] H3 H8 := k7.trans (Keep.of s8)
      have hd8 := k8.at_ (fun zz => Dd (List.mem_singleton.1 zz).symm) hd3
      rcases (hE3.mono k8).get (g, c) with ⟨vv, ww, e5, e6, e7⟩ | ⟨e5, e6⟩
      · rw [hl, hw] at e6
        cases e6
        refine ⟨d, vv, rfl, ?_, ?_⟩
        · rw [← e5]
          exact DGet.t (k := ckey (g, c)) hd8 hpk.key
        · obtain ⟨pw, rfl, x8, e8⟩ := e7
          have e8 := (off_some e8).2
          refine ⟨pw, _, 1, _, rfl, rfl, SqT.of e8, rfl, ?_⟩
          refine ⟨_, _, w.2, xs ++ [.ref p2], u ++ w.1, rfl, k8, s8 _ _ hD7, h7.mono (Keep.of s8), ?_, valOf_state ok hw⟩
          rw [take_snoc hcl, rd_append, hrd]
          show rd (valOf z ss) [c] (u, g) = _
          rw [rd_some hw]
          rfl
      · rw [hl, hw] at e6
        cases e6
    · rintro σ H4 ⟨s5, s6, g, xs, u, rfl, k4', hD4, hxs, hrd, gg⟩
      have ett : t.cps.toList.take t.cps.size = t.cps.toList := List.take_of_length_le (by simp)
      rw [ett] at hrd hxs
      obtain ⟨q3, q4⟩ := q2 u g hrd
      obtain ⟨ms, lst, e1, e2, e3⟩ := last_in ok gg
      have sH4 := fresh k4'
      have hv4 := hv.mono sH4
      obtain ⟨a', t'', xs', rfl, ht4, hts4, hA4⟩ := expV_of hv4
      obtain ⟨sv, es, hs⟩ := hA4.ix e1
      obtain ⟨p4, us4, rfl, hp4, hq⟩ := hs.items
      obtain ⟨mv', us', rfl, hM, hq⟩ := hq.one
      obtain ⟨lv, us'', rfl, hlv, hq⟩ := hq.one
      obtain rfl := hq.none
      refine ⟨_, rfl, a', _, 2, _, rfl, rfl, ht4, rfl, _, rfl, t'', xs', (g : Int), _, rfl, rfl, hts4, atI_nat es, p4, _, 1, _, rfl, rfl, hp4, rfl, ?_⟩
      refine ⟨_, rfl, rfl, _, rfl, ?_⟩
      rcases e3 with rfl | ⟨w, rfl, aw, lw⟩
      · obtain rfl := hlv.noneV
        refine if_true rfl ⟨Nat.zero_le _, fun l nl => ?_⟩
        exact raise_out upd_same .nil ((q3 e2).mono (Same.trans sH4 (same_new nl)))
      · obtain rfl := hlv.strV
        refine if_false rfl ?_
        refine ⟨_, rfl, _, rfl, (by show 2 ≤ sizeLine; decide), fun p np => ?_⟩
        have s9 := same_new (o := .tup [.ref D, .str w]) np
        exact q4 w e2 lw _ p D xs (Same.trans sH4 s9) nD (s9 _ _ hD4) ((hxs.mono off_same).mono s9) upd_same
end
end K12

namespace K12
open PySem PySem.Spec PyProof.Rows L2 G Lk
section
variable {P : Program} {w : World} {K : PySem.W.Frag} {mg : Str → Option Value} {base : Heap}
/-- the words of an outcome -/
noncomputable def wordsT (z f t : Str) (ss : List PyData) (w : Str) : List Str := f :: ((runC (valOf z ss) t.cps.toList 0).map (fun c => tx (wordOf (valOf z ss) c)) ++ [w])
def sp_words_of_text (K : PySem.W.Frag) (mg : Str → Option Value) (T : Tx K mg) : Sp := fun vs H Q X => ∃ (v : V) (d : Addr) (z f t : Str) (ss : List PyData) (E : Ent), vs = [v, .ref d, .str t] ∧ Dq K H v (.tuple [.str z, .str f, .tuple ss]) ∧ StatesOk z ss ∧ ValD [] H d E ∧ look E = valOf z ss ∧ allIn z t = true ∧ t.length ≤ 200 ∧ f.length ≤ 2000 ∧ (∀ c w, valOf z ss c = some w → w.1.length ≤ 2000) ∧
  (∀ c, stuckAt (valOf z ss) t.cps.toList 0 = some c → noOutE K T.a_NoOutcome X H (kindT z ss (threadOf z ss c)) ((threadOf z ss c).map callD)) ∧
  (∀ u g, rd (valOf z ss) t.cps.toList (f.cps.toList, 0) = some (u, g) → (lastD ss g = .none → noOutE K T.a_NoOutcome X H "last" []) ∧
    ∀ w, lastD ss g = .str w → (2000 < (tx u ++ w).length → tooManyE T.a_TooMany X H 2000) ∧
      ((tx u ++ w).length ≤ 2000 → ∀ (H' : Hp) (r : Addr), Same H H' → H r = none → H' r = some (.lst ((wordsT z f t ss w).map V.str)) → Q (.ref r) H'))
theorem words_cat {z f t : Str} {ss : List PyData} {u : List Nat} {g : Nat} {w : Str} (h : rd (valOf z ss) t.cps.toList (f.cps.toList, 0) = some (u, g)) : catS (wordsT z f t ss w) = u ++ w.cps.toList := by
  have e := rd_words h
  have e : u = f.cps.toList ++ ((runC (valOf z ss) t.cps.toList 0).map (wordOf (valOf z ss))).flatten := e
  unfold wordsT catS
  rw [e, List.map_cons, List.flatten_cons, List.map_append, List.flatten_append, List.map_map]
  have e2 : ((fun x : Str => x.cps.toList) ∘ fun c => tx (wordOf (valOf z ss) c)) = wordOf (valOf z ss) := by
    funext c
    simp
  first
  | rw [e2]; simp
  | simp
theorem words_short {z f t : Str} {ss : List PyData} {w : Str} (lf : f.length ≤ 2000) (hs : ∀ c w, valOf z ss c = some w → w.1.length ≤ 2000) (lw : w.length ≤ 2000) : ∀ y ∈ wordsT z f t ss w, y.length ≤ 2000 := by
  intro y hy
  unfold wordsT at hy
  rcases List.mem_cons.1 hy with rfl | hy
  · exact lf
  rcases List.mem_append.1 hy with hy | hy
  · obtain ⟨c, _, rfl⟩ := List.mem_map.1 hy
    rw [tx_len]
    unfold wordOf
    cases e : valOf z ss c with
    | none => exact Nat.zero_le _
    | some v => exact hs _ _ e
  · rw [List.mem_singleton.1 hy]
    exact lw
theorem words_many (z f t : Str) (ss : List PyData) (w : Str) : (wordsT z f t ss w).length ≤ t.length + 2 := by
  unfold wordsT
  rw [List.length_cons, List.length_append, List.length_map]
  have := runC_len (f := valOf z ss) (l := t.cps.toList) (g := 0)
  have e : t.cps.toList.length = t.length := by simp [Str.length]
  show _ + 1 + 1 ≤ _
  omega
theorem sum_int (ps : List Str) : (ps.map fun y => (y.length : Int)).sum = (((ps.map (·.length)).sum : Nat) : Int) := by
  induction ps with
  | nil => rfl
  | cons p r ih =>
    rw [List.map_cons, List.sum_cons, ih, List.map_cons, List.sum_cons]
    omega
/-- def words_of_text(expander, found, text): -/
theorem ok_words_of_text (T : Tx K mg) : FnOk P w K mg base (L2.CX P w) 6 T.a_words_of_text T.fd_words_of_text ["expander", "found", "text"] (sp_words_of_text K mg T) := by
  refine T.F_words_of_text.okX sc_words_of_text (fun vs H Q E h => ?_) (fun cdv A outer s H vs Q E hr h => ?_)
  · obtain ⟨_, _, _, _, _, _, _, rfl, _⟩ := h
    rfl
  · refine ⟨_, (pss_cons (ps_asg (pe_call (ok_calls_of_text T) (hr.mono (by decide)) (by rfl) T.g_calls_of_text T.F_calls_of_text.kp T.b_calls_of_text .nil (passes_call (takes_of rfl rfl rfl rfl) (fun _ _ _ _ h => h)) (pa_cons (pv 0) (pa_cons (pv 1) (pa_cons (pv 2) pa_nil)))) (pg_tup rfl (pgs_cons (pg_name (i := 4) sc_words_of_text.nd rfl (by first | exact Or.inl rfl | exact Or.inr rfl)) (pgs_cons (pg_name (i := 5) sc_words_of_text.nd rfl (by first | exact Or.inl rfl | exact Or.inr rfl)) pgs_nil))))
    (pss_cons (ps_set (i := 3) sc_words_of_text.nd rfl (by first | exact Or.inl rfl | exact Or.inr rfl) (pe_op op_cat (pe_op op_cat (pe_lst (pa_cons (pe_ix ix_tup (pv 0) pe_int (fun _ _ => rfl)) pa_nil)) (pe_lc (own := [("call", 6)]) (g := gName 6) (by rfl) sc_words_of_text.nd (pi_list (pv 4)) (blkOk_by (own := [("call", 6)]) (N := N_words_of_text) (sc := defScope s_words_of_text) (by decide +kernel)) (fun _ _ _ _ _ => pg_name (i := 6) sc_words_of_text.nd rfl (by first | exact Or.inl rfl | exact Or.inr rfl)) (fun _ _ _ _ _ => pts_nil) (fun _ _ _ _ _ => (pe_ix (ix_tup : IxR _ (rIxT K)) (pe_dget (unit1 hr.units) (pv 1) (pv 6) (fun _ _ => rfl)) pe_int (fun _ _ => rfl))))) (pe_lst (pa_cons (pv 5) pa_nil))))
    (pss_cons (ps_if (pt_cmpR op_gt (pe_callB (cr_sum rfl) (by rfl) T.z_sum (by decide +kernel) (pa_cons (pe_lc (own := [("word", 7)]) (g := gName 7) (by rfl) sc_words_of_text.nd (pi_list (pv 3)) (blkOk_by (own := [("word", 7)]) (N := N_words_of_text) (sc := defScope s_words_of_text) (by decide +kernel)) (fun _ _ _ _ _ => pg_name (i := 7) sc_words_of_text.nd rfl (by first | exact Or.inl rfl | exact Or.inr rfl)) (fun _ _ _ _ _ => pts_nil) (fun _ _ _ _ _ => (pe_callB call_len_str (by rfl) T.z_len PySem.boot_len (pa_cons (pv 7) pa_nil)))) pa_nil)) (pe_glob (v := .int 2000) (by rfl) T.m_MOST_WORD ⟨_, rfl⟩) (nomark _))
      (pss_one (ps_raise rfl (takes_of rfl rfl rfl rfl) (pmk_oex T.o_TooMany T.ii_TooMany T.it_TooMany (ok_TooMany_init T) (hr.mono (by decide)) T.ib_TooMany .nil pass0 (by rfl) T.g_TooMany (pa_cons (pe_glob (v := .int 2000) (by rfl) T.m_MOST_WORD ⟨_, rfl⟩) pa_nil))))
      pss_nil)
    (pss_one (ps_ret (pv 3)))))), ?_⟩
    obtain ⟨v, d, z, f, t, ss, E, rfl, hv, ok, hV, hl, hat, lt, lf, hsm, q1, q2⟩ := h
    refine ⟨_, rfl, _, rfl, _, rfl, v, d, z, f, t, ss, E, rfl, hv, ok, hV.pr, hl, hat, lt, q1, fun u g hr => ⟨(q2 u g hr).1, fun w hw lw H1 p l xs s1 nl hl1 hxs hp => ?_⟩⟩
    obtain ⟨q3, q4⟩ := (q2 u g hr).2 w hw
    refine ⟨p, _, rfl, SqT.of hp, rfl, _, _, rfl, _, _, rfl, rfl, ?_⟩
    have hv1 := hv.mono s1
    obtain ⟨a, t', zs, rfl, ht, hts, hA⟩ := expV_of hv1
    refine ⟨_, rfl, a, _, 1, _, rfl, rfl, ht, rfl, (by show 1 ≤ sizeLine; decide), fun A nA => ?_⟩
    have s2 := same_new (o := .lst [.str f]) nA
    have hA2 : upd H1 A (.lst [.str f]) A = some (.lst [.str f]) := upd_same
    revert s2 hA2
    generalize upd H1 A (.lst [.str f]) = H2
    intro s2 hA2
    have s12 := Same.trans s1 s2
    obtain ⟨kvs, hd2, hE2⟩ := hV.same s12
    let cs := runC (valOf z ss) t.cps.toList 0
    have lcs : cs.length ≤ 200 := by
      refine Nat.le_trans runC_len ?_
      have : t.cps.toList.length = t.length := by simp [Str.length]
      omega
    have hxs2 : CallsAt H2 xs cs := hxs.mono s2
    have hl2 := s2 _ _ hl1
    refine ⟨_, rfl, l, rfl, ⟨xs, SqL.of hl2⟩, fun D nD => ?_⟩
    refine lc_list (xs := xs) (fun i H' => Same H2 H' ∧ H' D = some (.lst (((cs.take i).map fun c => tx (wordOf (valOf z ss) c)).map V.str))) ⟨same_new nD, by rw [List.take_zero]; exact upd_same⟩ (fun _ _ _ h => SqL.of (h.1 _ _ hl2)) ?_ ?_
    · rintro i x H3 hx ⟨s3, hD3⟩
      obtain ⟨pc, c, rfl, hc, hpc⟩ := hxs2.get hx
      obtain ⟨wv, ewv⟩ := runC_all (a := (f.cps.toList, 0)) hr c (List.mem_of_getElem? hc)
      have hpc3 : CallAt H3 pc c := s3 _ _ hpc
      refine ⟨rfl, _, rfl, _, rfl, ?_⟩
      rcases (hE2.mono (Same.trans off_same s3)).get c with ⟨vv, ww, e5, e6, e7⟩ | ⟨e5, e6⟩
      · rw [hl, ewv] at e6
        cases e6
        refine ⟨d, vv, rfl, ?_, ?_⟩
        · rw [← e5]
          exact DGet.t (k := ckey c) (s3 _ _ hd2) hpc3.key
        · obtain ⟨pw, rfl, e8⟩ := e7
          refine ⟨pw, _, 0, _, rfl, rfl, SqT.of e8, rfl, ?_⟩
          refine ⟨_, hD3, ?_, fun b o e => (upd_ne (ne_of_none e nD)).trans (s3 b o e), ?_⟩
          · rw [List.length_map, List.length_map, List.length_take]
            exact Nat.lt_of_le_of_lt (Nat.min_le_right _ _) (Nat.lt_of_le_of_lt lcs (by decide))
          · have ew : wordOf (valOf z ss) c = wv.1 := by
              unfold wordOf
              rw [ewv]
            rw [upd_same, List.take_add_one, hc, List.map_append, List.map_append]
            show _ = some (HO.lst (_ ++ [V.str (tx (wordOf (valOf z ss) c))]))
            rw [ew]
      · rw [hl, ewv] at e6
        cases e6
    · rintro H3 ⟨s3, hD3⟩
      rw [hxs2.len, List.take_length] at hD3
      have s13 := Same.trans s12 s3
      refine ⟨A, D, _, _, rfl, rfl, s3 _ _ hA2, hD3, ?_, fun B nB => ?_⟩
      · rw [List.length_map, List.length_map]
        exact Nat.le_trans (show [V.str f].length + cs.length ≤ 300 by show 1 + cs.length ≤ 300; omega) (by decide)
      have s4 := same_new (o := .lst ([V.str f] ++ (cs.map fun c => tx (wordOf (valOf z ss) c)).map V.str)) nB
      have hB4 : upd H3 B (.lst ([V.str f] ++ (cs.map fun c => tx (wordOf (valOf z ss) c)).map V.str)) B = some (.lst ([V.str f] ++ (cs.map fun c => tx (wordOf (valOf z ss) c)).map V.str)) := upd_same
      revert s4 hB4
      generalize upd H3 B (.lst ([V.str f] ++ (cs.map fun c => tx (wordOf (valOf z ss) c)).map V.str)) = H4
      intro s4 hB4
      refine ⟨_, rfl, (by show 1 ≤ sizeLine; decide), fun C nC => ?_⟩
      have s5 := same_new (o := .lst [.str w]) nC
      have hC5 : upd H4 C (.lst [.str w]) C = some (.lst [.str w]) := upd_same
      revert s5 hC5
      generalize upd H4 C (.lst [.str w]) = H5
      intro s5 hC5
      have lB : ([V.str f] ++ (cs.map fun c => tx (wordOf (valOf z ss) c)).map V.str).length + [V.str w].length ≤ 300 := by
        rw [List.length_append, List.length_map, List.length_map]
        show 1 + cs.length + 1 ≤ 300
        omega
      refine ⟨B, C, _, _, rfl, rfl, s5 _ _ hB4, hC5, Nat.le_trans lB (by decide), fun R nR => ?_⟩
      have ews : [V.str f] ++ (cs.map fun c => tx (wordOf (valOf z ss) c)).map V.str ++ [V.str w] = (wordsT z f t ss w).map V.str := by
        unfold wordsT
        simp [cs]
      rw [ews]
      have s6 := same_new (o := .lst ((wordsT z f t ss w).map V.str)) nR
      have hR6 : upd H5 R (.lst ((wordsT z f t ss w).map V.str)) R = some (.lst ((wordsT z f t ss w).map V.str)) := upd_same
      revert s6 hR6
      generalize upd H5 R (.lst ((wordsT z f t ss w).map V.str)) = H6
      intro s6 hR6
      have sA : Same H H5 := Same.trans s13 (Same.trans s4 s5)
      have nRH : H R = none := by
        cases e : H R with
        | none => rfl
        | some o =>
          rw [sA _ _ e] at nR
          cases nR
      have s16 := Same.trans sA s6
      refine ⟨_, rfl, R, rfl, ⟨_, SqL.of hR6⟩, fun D2 nD2 => ?_⟩
      refine lc_list (xs := (wordsT z f t ss w).map V.str) (fun i H' => Same H6 H' ∧ H' D2 = some (.lst ((((wordsT z f t ss w).take i).map fun y => (y.length : Int)).map V.int))) ⟨same_new nD2, by rw [List.take_zero]; exact upd_same⟩ (fun _ _ _ h => SqL.of (h.1 _ _ hR6)) ?_ ?_
      · rintro i x H7 hx ⟨s7, hD7⟩
        rw [List.getElem?_map] at hx
        cases ey : (wordsT z f t ss w)[i]? with
        | none =>
          rw [ey] at hx
          cases hx
        | some y =>
          rw [ey] at hx
          cases hx
          have ly : y.length ≤ sizeLine := Nat.le_trans (words_short lf hsm lw y (List.mem_of_getElem? ey)) (by decide)
          refine ⟨rfl, _, rfl, y, rfl, ly, ?_⟩
          refine ⟨_, hD7, ?_, fun b o e => (upd_ne (ne_of_none e nD2)).trans (s7 b o e), ?_⟩
          · rw [List.length_map, List.length_map, List.length_take]
            have := words_many z f t ss w
            exact Nat.lt_of_le_of_lt (Nat.min_le_right _ _) (Nat.lt_of_le_of_lt (show (wordsT z f t ss w).length ≤ 300 by omega) (by decide))
          · rw [upd_same, List.take_add_one, ey, List.map_append, List.map_append]
            rfl
      · rintro H7 ⟨s7, hD7⟩
        rw [List.length_map, List.take_length] at hD7
        refine ⟨D2, (wordsT z f t ss w).map fun y => (y.length : Int), rfl, SqL.of hD7, _, _, rfl, rfl, _, rfl, ?_⟩
        have ec := words_cat (f := f) (w := w) hr
        have es : ((wordsT z f t ss w).map fun y => (y.length : Int)).sum = (((tx u ++ w).length : Nat) : Int) := by
          rw [sum_int, sum_cat, ec, cat_len, tx_len, List.length_append]
          simp [Str.length]
        rw [es]
        by_cases hb : 2000 < (tx u ++ w).length
        · exact if_true (decide_eq_true (show (2000 : Int) < ((tx u ++ w).length : Int) by omega)) (raise1_out ((q3 hb).mono (Same.trans s16 s7)))
        · exact if_false (decide_eq_false (show ¬ (2000 : Int) < ((tx u ++ w).length : Int) by omega)) ⟨_, rfl, q4 (Nat.le_of_not_lt hb) H7 R (Same.trans s16 s7) nRH (s7 _ _ hR6)⟩
end
end K12

namespace K12
open PySem PySem.Spec PyProof.Rows L2 G Lk
section
variable {P : Program} {w : World} {K : PySem.W.Frag} {mg : Str → Option Value} {base : Heap}
def sp_outcome (K : PySem.W.Frag) (mg : Str → Option Value) (T : Tx K mg) : Sp := fun vs H Q X => ∃ (v x : V) (d dx : PyData), vs = [v, x] ∧ Dq K H v d ∧ Dq K H x dx ∧ Light d ∧ Light dx ∧
  (expB d = false → ∀ H', Same H H' → X (.ref T.a_NoExpander) none H') ∧
  (∀ z f ss, d = .tuple [.str z, .str f, .tuple ss] → expB d = true → (isText z dx = false → ∀ H', Same H H' → X (.ref T.a_NoText) none H') ∧
    ∀ t, dx = .str t → isText z dx = true → ((∃ c w, Val z ss c w ∧ 2000 < w.1.length) → tooManyE T.a_TooMany X H 2000) ∧
      ((∀ c w, Val z ss c w → w.1.length ≤ 2000) →
        (∀ c, stuckAt (valOf z ss) t.cps.toList 0 = some c → noOutE K T.a_NoOutcome X H (kindT z ss (threadOf z ss c)) ((threadOf z ss c).map callD)) ∧
        (∀ u g, rd (valOf z ss) t.cps.toList (f.cps.toList, 0) = some (u, g) → (lastD ss g = .none → noOutE K T.a_NoOutcome X H "last" []) ∧
          ∀ w, lastD ss g = .str w → (2000 < (tx u ++ w).length → tooManyE T.a_TooMany X H 2000) ∧ ((tx u ++ w).length ≤ 2000 → ∀ H', Same H H' → Q (.str (tx u ++ w)) H'))))
/-- def outcome(expander, text): -/
theorem ok_outcome (T : Tx K mg) : FnOk P w K mg base (L2.CX P w) 8 T.a_outcome T.fd_outcome ["expander", "text"] (sp_outcome K mg T) := by
  refine T.F_outcome.okX sc_outcome (fun vs H Q E h => ?_) (fun cdv A outer s H vs Q E hr h => ?_)
  · obtain ⟨_, _, _, _, rfl, _⟩ := h
    rfl
  · refine ⟨_, (pss_cons (ps_expr (pe_call (ok_need_expander T) (hr.mono (by decide)) (by rfl) T.g_need_expander T.F_need_expander.kp T.b_need_expander .nil (passes_call (takes_of rfl rfl rfl rfl) (fun _ _ _ _ h => h)) (pa_cons (pv 0) pa_nil)))
    (pss_cons (ps_expr (pe_call (ok_need_text T) (hr.mono (by decide)) (by rfl) T.g_need_text T.F_need_text.kp T.b_need_text .nil (passes_call (takes_of rfl rfl rfl rfl) (fun _ _ _ _ h => h)) (pa_cons (pe_ix ix_tup (pv 0) pe_int (fun _ _ => rfl)) (pa_cons (pv 1) pa_nil))))
    (pss_one (ps_ret (pe_join pe_str (pe_call (ok_words_of_text T) (hr.mono (by decide)) (by rfl) T.g_words_of_text T.F_words_of_text.kp T.b_words_of_text .nil (passes_call (takes_of rfl rfl rfl rfl) (fun _ _ _ _ h => h)) (pa_cons (pv 0) (pa_cons (pe_call (ok_values_of T) (hr.mono (by decide)) (by rfl) T.g_values_of T.F_values_of.kp T.b_values_of .nil (passes_call (takes_of rfl rfl rfl rfl) (fun _ _ _ _ h => h)) (pa_cons (pv 0) pa_nil)) (pa_cons (pv 1) pa_nil))))))))), ?_⟩
    obtain ⟨v, x, d, dx, rfl, hv, hx, hz, hzx, kE, k⟩ := h
    refine ⟨_, rfl, v, d, rfl, hv, hz, kE, fun eb H1 s1 => ?_⟩
    obtain ⟨z, f, ss, rfl, hzs, ⟨hf, lf⟩, l1, l60, hss⟩ := expB_parts eb
    have ok : StatesOk z ss := ⟨hzs, l1, l60, hss⟩
    obtain ⟨k1, k2⟩ := k z f ss rfl eb
    have hv1 := hv.mono s1
    obtain ⟨a, t', xs, rfl, ht, hts, hA⟩ := expV_of hv1
    refine ⟨_, rfl, a, _, _, _, rfl, rfl, ht, rfl, _, rfl, z, x, dx, rfl, hx.mono s1, fun w e => by subst e; exact light_str hzx, fun e => k1 e H1 s1, fun e => ?_⟩
    obtain ⟨t, rfl⟩ := text_str e
    obtain rfl := hx.strV
    obtain ⟨k3, k4⟩ := k2 t rfl e
    have et : allIn z t = true ∧ t.length ≤ 200 := by
      have e : (allIn z t && decide (t.length ≤ 200)) = true := e
      rw [Bool.and_eq_true, decide_eq_true_eq] at e
      exact e
    refine ⟨⟨_, rfl⟩, _, rfl, _, rfl, .ref a, z, f, ss, rfl, hv1, ok, fun hbig => (k3 hbig).mono s1, fun hsm H2 d E s2 nd hV cl all => ?_⟩
    obtain ⟨k5, k6⟩ := k4 hsm
    have hl := look_all ok cl all
    have s12 := Same.trans s1 s2
    refine ⟨_, rfl, .ref a, d, z, f, t, ss, E, rfl, hv1.mono s2, ok, hV.any (fun a ha => nomatch ha), hl, et.1, et.2, lf, (fun c w hw => hsm c w (valOf_some.1 hw)), fun c hc => (k5 c hc).mono s12, fun u g hr => ?_⟩
    obtain ⟨k7, k8⟩ := k6 u g hr
    refine ⟨fun e => (k7 e).mono s12, fun w hw => ?_⟩
    obtain ⟨k9, k10⟩ := k8 w hw
    refine ⟨fun e => (k9 e).mono s12, fun lw H3 r s3 nr hr3 => ?_⟩
    have ec := words_cat (f := f) (w := w) hr
    refine ⟨tx [], r, wordsT z f t ss w, rfl, rfl, .inl (SqL.of hr3), ?_, ?_⟩
    · rw [sum_cat, ec]
      show _ + _ * 0 ≤ _
      rw [cat_len, tx_len] at lw
      rw [List.length_append]
      have : w.cps.toList.length = w.length := by simp [Str.length]
      omega
    · rw [join_empty, ec]
      have e4 : tx (u ++ w.cps.toList) = tx u ++ w := str_ext (by
        show (tx (u ++ w.cps.toList)).cps.toList = ((tx u).cps ++ w.cps).toList
        simp)
      rw [e4]
      exact k10 lw H3 (Same.trans s12 s3)
end
end K12

namespace K12
open PySem PySem.Spec PyProof.Rows L2 G Lk
section
variable {P : Program} {w : World} {K : PySem.W.Frag} {mg : Str → Option Value} {base : Heap}
section
variable {T : Tx K mg} {H : Hp} {v : V} {z f t : Str} {ss : List PyData} {Q : VK} {E : XK}
/-- outcome of a text: told, or refused -/
theorem outcome_way (hv : Dq K H v (.tuple [.str z, .str f, .tuple ss])) (lE : Light (.tuple [.str z, .str f, .tuple ss])) (he : expB (.tuple [.str z, .str f, .tuple ss]) = true) (small : ∀ c w, Val z ss c w → w.1.length ≤ 2000) (it : isText z (.str t) = true) (lt : Light (.str t))
    (lw : ∀ u g w, rd (valOf z ss) t.cps.toList (f.cps.toList, 0) = some (u, g) → lastD ss g = .str w → (tx u ++ w).length ≤ 2000)
    (q : ∀ u g w, rd (valOf z ss) t.cps.toList (f.cps.toList, 0) = some (u, g) → lastD ss g = .str w → ∀ H', Same H H' → Q (.str (tx u ++ w)) H')
    (kE : outOf z f ss t = none → ∀ (H' : Hp) (d n : Addr) (a : Str) (l : List PyData), Same H H' → E (.ref T.a_NoOutcome) (some d) H') : sp_outcome K mg T [v, .str t] H Q E := by
  refine ⟨v, .str t, _, .str t, rfl, hv, .str t, lE, lt, fun e => (Bool.false_ne_true (e.symm.trans he)).elim, fun z' f' ss' e _ => ?_⟩
  cases e
  refine ⟨fun e => (Bool.false_ne_true (e.symm.trans it)).elim, fun t' e _ => ?_⟩
  cases e
  refine ⟨fun ⟨c, w, h, h2⟩ => absurd (small c w h) (Nat.not_le_of_lt h2), fun _ => ⟨fun c hc => ?_, fun u g hr => ⟨fun e => ?_, fun w hw => ⟨fun h => absurd (lw u g w hr hw) (Nat.not_le_of_lt h), fun _ => q u g w hr hw⟩⟩⟩⟩
  · rcases rd_ways (f := valOf z ss) (l := t.cps.toList) (a := (f.cps.toList, 0)) with ⟨b, hr⟩ | ⟨hr, _⟩
    · have e := stuck_none hr
      rw [show stuckAt _ _ 0 = none from e] at hc
      cases hc
    · exact fun H' d n s _ _ _ => kE (outOf_stuck hr) H' d n "" [] s
  · exact fun H' d n s _ _ _ => kE (outOf_last hr e) H' d n "" [] s
end
def sp_Ltold (K : PySem.W.Frag) : Sp := fun vs H Q _ => ∃ (v : V) (z f t : Str) (ss : List PyData), vs = [v, .str t] ∧ Dq K H v (.tuple [.str z, .str f, .tuple ss]) ∧ Light (.tuple [.str z, .str f, .tuple ss]) ∧ expB (.tuple [.str z, .str f, .tuple ss]) = true ∧ (∀ c w, Val z ss c w → w.1.length ≤ 2000) ∧ isText z (.str t) = true ∧ Light (.str t) ∧
  (∀ u g w, rd (valOf z ss) t.cps.toList (f.cps.toList, 0) = some (u, g) → lastD ss g = .str w → (tx u ++ w).length ≤ 2000) ∧ ∀ H', Same H H' → Q (outV (outOf z f ss t)) H'
/-- def _law_told(expander, text): -/
theorem ok_Ltold (T : Tx K mg) : FnOk P w K mg base CX0 9 T.a__law_told T.fd__law_told ["expander", "text"] (sp_Ltold K) := by
  refine T.F__law_told.ok sc_Ltold (fun vs H Q E h => ?_) (fun cdv A outer s H vs Q E hr h => ?_)
  · obtain ⟨_, _, _, _, _, rfl, _⟩ := h
    rfl
  · refine ⟨_, (pss_cons (ps_set (i := 2) sc_Ltold.nd rfl (by first | exact Or.inl rfl | exact Or.inr rfl) pe_non)
    (C8.pss_cut (ps_try_names (Wout := fun _ _ _ _ => False) rfl rfl takes0 (fun W pn xe tk po => (pss_one (ps_set (i := 2) sc_Ltold.nd rfl (by first | exact Or.inl rfl | exact Or.inr rfl) (by exact (pe_callS (ok_outcome T) (hr.mono (by decide)) (by rfl) T.g_outcome T.F_outcome.kp T.b_outcome (fun σ => passAt tk σ) (by exact (pa_cons (pv 0) (pa_cons (pv 1) pa_nil)))))))) (.more (i := 3) ⟨rfl, by decide, .inl T.g_NoOutcome⟩ sc_Ltold.nd rfl rfl (fun a oe cls d pn hz hf => (pss_one (ps_set (i := 2) sc_Ltold.nd rfl (by first | exact Or.inl rfl | exact Or.inr rfl) pe_non))) .none))
    (pss_one (ps_ret (pv 2))))), ?_⟩
    obtain ⟨v, z, f, t, ss, rfl, hv, lE, he, small, it, lt, lw, q⟩ := h
    refine ⟨fun σ H' => ∃ (t3 : Option V), σ = [some v, some (.str t), some (outV (outOf z f ss t)), t3] ∧ Same H H', ?_, ?_⟩
    · refine ⟨_, rfl, _, rfl, ?_⟩
      dsimp only [tCons, tNil, List.cons_append, List.nil_append]
      refine outcome_way hv lE he small it lt lw (fun u g w hr hw H1 s1 => ?_) (fun hn H1 d n a l s1 => ?_)
      · refine ⟨none, ?_, s1⟩
        rw [outOf_some hr hw]
        have ecat : tx u ++ w = tx (u ++ w.cps.toList) := str_ext (by
          show ((tx u).cps ++ w.cps).toList = (tx (u ++ w.cps.toList)).cps.toList
          simp)
        rw [ecat]
        rfl
      · refine ⟨true, T.e_NoOutcome_NoOutcome, fun _ a' na => ?_, fun z => nomatch z⟩
        rw [hn]
        exact ⟨_, rfl, s1⟩
    · rintro σ H1 ⟨t3, rfl, s1⟩
      exact ⟨_, rfl, q H1 s1⟩
end
end K12

namespace K12
open PySem PySem.Spec PyProof.Rows L2 G Lk
section
variable {P : Program} {w : World} {K : PySem.W.Frag} {mg : Str → Option Value} {base : Heap}
def sp_Lvalues (K : PySem.W.Frag) : Sp := fun vs H Q _ => ∃ (v : V) (z f : Str) (ss : List PyData), vs = [v] ∧ Dq K H v (.tuple [.str z, .str f, .tuple ss]) ∧ StatesOk z ss ∧ (∀ c w, Val z ss c w → w.1.length ≤ 2000) ∧
  ∀ (H' : Hp) (d : Addr), Same H H' → H d = none → OvD [d] H' d (callsOf z ss.length) (valOf z ss) → Q (.ref d) H'
theorem laps_snocV {z : Str} {ss : List PyData} (cs : List Lk.Cl) : ∀ (n : Nat) (E : Ent), laps z ss cs (n + 1) E = lap z ss cs (laps z ss cs n E)
  | 0, E => rfl
  | n + 1, E => laps_snocV cs n (lap z ss cs E)
theorem fold_snocV {z : Str} {ss : List PyData} {cs : List Lk.Cl} {j : Nat} {c : Lk.Cl} (h : cs[j]? = some c) (E : Ent) : (cs.take (j + 1)).foldl (lapOne z ss) E = lapOne z ss ((cs.take j).foldl (lapOne z ss) E) c := by
  rw [List.take_add_one, h, List.foldl_append]
  rfl
/-- def _law_values(expander): -/
theorem ok_Lvalues (T : Tx K mg) : FnOk P w K mg base CX0 2 T.a__law_values T.fd__law_values ["expander"] (sp_Lvalues K) := by
  refine T.F__law_values.ok sc_Lvalues (fun vs H Q E h => ?_) (fun cdv A outer s H vs Q E hr h => ?_)
  · obtain ⟨_, _, _, _, rfl, _⟩ := h
    rfl
  · refine ⟨_, (pss_cons (ps_set (i := 1) sc_Lvalues.nd rfl (by first | exact Or.inl rfl | exact Or.inr rfl) (pe_callTy (call_dictT rfl hr.units) (by rfl) T.z_dict (by decide +kernel) (pa_cons (pe_lc (own := [("call", 6)]) (g := gName 6) (by rfl) sc_Lvalues.nd (pi_list (pe_call (ok_Lcalls T) (hr.mono (by decide)) (by rfl) T.g__law_calls T.F__law_calls.kp T.b__law_calls .nil pass0 (pa_cons (pv 0) pa_nil))) (blkOk_by (own := [("call", 6)]) (N := N_Lvalues) (sc := defScope s_Lvalues) (by decide +kernel)) (fun _ _ _ _ _ => pg_name (i := 6) sc_Lvalues.nd rfl (by first | exact Or.inl rfl | exact Or.inr rfl)) (fun _ _ _ _ _ => pts_nil) (fun _ _ _ _ _ => (pe_tup (pa_cons (pv 6) (pa_cons pe_non pa_nil))))) pa_nil)))
    (pss_cons (ps_for PassesOwn.never rfl (pi_range1 (by rfl) T.z_range (pa_cons (pe_callB call_len_dT (by rfl) T.z_len PySem.boot_len (pa_cons (pv 1) pa_nil)) pa_nil)) (pg_name (i := 2) sc_Lvalues.nd rfl (by first | exact Or.inl rfl | exact Or.inr rfl))
      (pss_one (ps_for PassesOwn.never rfl (pi_list (pe_call (ok_Lcalls T) (hr.mono (by decide)) (by rfl) T.g__law_calls T.F__law_calls.kp T.b__law_calls .nil pass0 (pa_cons (pv 0) pa_nil))) (pg_tup rfl (pgs_cons (pg_name (i := 3) sc_Lvalues.nd rfl (by first | exact Or.inl rfl | exact Or.inr rfl)) (pgs_cons (pg_name (i := 4) sc_Lvalues.nd rfl (by first | exact Or.inl rfl | exact Or.inr rfl)) pgs_nil)))
      (pss_cons (ps_set (i := 5) sc_Lvalues.nd rfl (by first | exact Or.inl rfl | exact Or.inr rfl) (pe_ix ix_tup (pe_ix ix_tup (pe_ix ix_tup (pe_ix ix_tup (pv 0) pe_int (fun _ _ => rfl)) (pv 3) (fun _ _ => rfl)) pe_int (fun _ _ => rfl)) (pe_bm PySem.F.plainAttrs_str PySem.F.slot_str_index PySem.F.type_str_index mt_sindex (pe_ix ix_tup (pv 0) pe_int (fun _ _ => rfl)) (pa_cons (pv 4) pa_nil)) (fun _ _ => rfl)))
    (pss_one (ps_if (PW.pt (pw_and (pt_cmpR op_notN (pv 5) pe_non (nomark _)) (pw_and1 (pt_cmpR op_isN (pe_dget (unit1 hr.units) (pv 1) (pe_tup (pa_cons (pv 3) (pa_cons (pv 4) pa_nil))) (fun _ _ => rfl)) pe_non (nomark _)))))
      (pss_cons (ps_par (i := 8) (j := 9) (by rfl) sc_Lvalues.nd rfl rfl (by decide) rfl rfl (pa_cons (pe_ix ix_tup (pv 5) pe_int (fun _ _ => rfl)) (pa_cons (pe_ix ix_tup (pv 5) pe_int (fun _ _ => rfl)) pa_nil)) (by rfl))
    (pss_cons (ps_for PassesOwn.never rfl (pi_str (pe_ix ix_tup (pv 5) pe_int (fun _ _ => rfl))) (pg_name (i := 7) sc_Lvalues.nd rfl (by first | exact Or.inl rfl | exact Or.inr rfl))
      (C8.pss_cut (ps_set (i := 10) sc_Lvalues.nd rfl (by first | exact Or.inl rfl | exact Or.inr rfl) (pe_ifExp (pt_cmpR op_notN (pv 9) pe_non (nomark _)) (pe_dget (unit1 hr.units) (pv 1) (pe_tup (pa_cons (pv 9) (pa_cons (pv 7) pa_nil))) (fun _ _ => rfl)) pe_non))
    (pss_one (ps_asg (pe_ifExp (pt_cmpR op_isN (pv 10) pe_non (nomark _)) (pe_tup (pa_cons (pv 8) (pa_cons pe_non pa_nil))) (pe_tup (pa_cons (pe_op op_add_str (pv 8) (pe_ix ix_tup (pv 10) pe_int (fun _ _ => rfl))) (pa_cons (pe_ix ix_tup (pv 10) pe_int (fun _ _ => rfl)) pa_nil)))) (pg_tup rfl (pgs_cons (pg_name (i := 8) sc_Lvalues.nd rfl (by first | exact Or.inl rfl | exact Or.inr rfl)) (pgs_cons (pg_name (i := 9) sc_Lvalues.nd rfl (by first | exact Or.inl rfl | exact Or.inr rfl)) pgs_nil)))))))
    (pss_one (ps_if (pt_cmpR op_notN (pv 9) pe_non (nomark _))
      (pss_one (ps_dput (unit1 hr.units) (pv 1) (pe_tup (pa_cons (pv 3) (pa_cons (pv 4) pa_nil))) (pe_tup (pa_cons (pv 8) (pa_cons (pv 9) pa_nil))) (by rfl)))
      pss_nil))))
      pss_nil))))))
    (pss_one (ps_ret (pv 1))))), ?_⟩
    obtain ⟨v, z, f, ss, rfl, hd, ok, small, q⟩ := h
    have hz4 := ok.1.small.2.1
    have h60 := ok.2.2.1
    have hzl : z.length ≤ sizeLine := Nat.le_trans hz4 (by decide)
    obtain ⟨a, t, xs, rfl, ht, hts, hA⟩ := expV_of hd
    have hl := hA.length
    have hcs : (callsOf z ss.length).length ≤ 240 := calls_few ok
    have ndc := calls_nodup (signs_nodup ok.1) ss.length
    have eval := laps_valOf ok
    have goodc : ∀ c, c ∈ callsOf z ss.length ↔ Good z ss c := fun c => callsOf_mem
    generalize ecs : callsOf z ss.length = cs at q hcs ndc eval goodc
    refine ⟨_, rfl, .ref a, z, f, ss, rfl, hd, ok, fun H1 l0 ys0 s1 nl0 hy0 hcv0 => ?_⟩
    rw [ecs] at hcv0
    refine ⟨l0, rfl, ⟨ys0, SqL.of hy0⟩, fun D nD => ?_⟩
    refine lc_list (xs := ys0) (fun j H' => Same H1 H' ∧ ∃ ps, H' D = some (.lst (ps.map V.ref)) ∧ ps.length = j ∧ PrsAt (off [D] H') ps ((cs.take j).map fun c => (ckey c, V.non))) ⟨same_new nD, [], upd_same, rfl, by rw [List.take_zero]; exact .nil⟩ (fun _ _ _ h => SqL.of (h.1 _ _ hy0)) ?_ ?_
    · rintro j x H2 hx ⟨s2, ps, hD, lps, hps⟩
      obtain ⟨pc, c, rfl, hc, hpc⟩ := hcv0.get hx
      refine ⟨rfl, _, rfl, (by show 2 ≤ sizeLine; decide), fun p np => ?_⟩
      have s3 := same_new (o := .tup [.ref pc, .non]) np
      have hp : upd H2 p (.tup [.ref pc, .non]) p = some (.tup [.ref pc, .non]) := upd_same
      revert s3 hp
      generalize upd H2 p (.tup [.ref pc, .non]) = H3
      intro s3 hp
      have hD3 := s3 _ _ hD
      have hpc3 : H3 pc = some (.tup ((ckey c).map kV)) := (CallAt.key (s3 _ _ (s2 _ _ hpc)))
      have nD1 : p ∉ [D] := fun zz => by
        rw [List.mem_singleton.1 zz, hD3] at hp
        cases hp
      have nD2 : pc ∉ [D] := fun zz => by
        rw [List.mem_singleton.1 zz, hD3] at hpc3
        cases hpc3
      have lj : j < cs.length := (List.getElem?_eq_some_iff.mp hc).1
      have kp : Keep [D] H3 (upd H3 D (.lst (ps.map V.ref ++ [.ref p]))) := Keep.pot List.mem_cons_self
      refine ⟨_, hD3, by rw [List.length_map, lps]; exact Nat.lt_of_lt_of_le (show j < 300 by omega) (by decide), fun b o e => (upd_ne (ne_of_none e nD)).trans (s3 _ _ (s2 b o e)), ps ++ [p], ?_, by rw [List.length_append, lps]; rfl, ?_⟩
      · rw [upd_same, List.map_append]
        rfl
      · rw [List.take_add_one, hc, List.map_append]
        exact ((hps.mono ((Keep.of s3).trans kp)).snoc (kp _ _ (off_of nD1 hp)) (kp _ _ (off_of nD2 hpc3)))
    rintro H2 ⟨s2, ps, hD, lps, hps⟩
    rw [hcv0.len, List.take_length] at hps
    refine ⟨D, ps, _, rfl, hD, hps.mono off_same, ?_, fun d nd => ?_⟩
    · rw [List.map_map]
      show (cs.map ckey).Nodup
      exact ckey_nodup ndc
    have s12 := Same.trans s1 s2
    have nd' : H d = none := by
      cases e : H d with
      | none => rfl
      | some o =>
        rw [s12 _ _ e] at nd
        cases nd
    have hO : ∀ l : List Lk.Cl, OvE (off [d] (upd H2 d (.dT (cs.map fun c => (ckey c, V.non))))) (look ([] : Ent)) (l.map fun c => (ckey c, V.non)) l := fun l => by
      induction l with
      | nil => exact .nil
      | cons c l ih => exact .cons rfl ih
    have s3 := same_new (o := .dT (cs.map fun c => (ckey c, V.non))) nd
    have hd3 : OvD [d] (upd H2 d (.dT (cs.map fun c => (ckey c, V.non)))) d cs (look ([] : Ent)) := ⟨_, upd_same, hO cs⟩
    revert s3 hd3
    generalize upd H2 d (.dT (cs.map fun c => (ckey c, V.non))) = H3
    intro s3 hd3
    have s03 := Same.trans s12 s3
    have from_ : ∀ {H1 H' : Hp}, Same H H1 → Keep [d] H1 H' → Same H H' := fun s k b o e => k.at_ (fun zz => by
      rw [List.mem_singleton.1 zz, nd'] at e
      cases e) (s b o e)
    obtain ⟨kvs3, hdd3, hE3⟩ := id hd3
    refine ⟨_, rfl, d, kvs3, rfl, hdd3, _, rfl, by rw [hE3.len]; omega, by rw [hE3.len]; omega, ?_⟩
    rw [Int.toNat_natCast, hE3.len]
    clear hE3 hdd3
    refine for_range (n := cs.length) (fun i σ H' => ∃ s2 s3 s4 s5 s6 s7 s8 s9 s10 : Option V, σ = [some (.ref a), some (.ref d), s2, s3, s4, s5, s6, s7, s8, s9, s10] ∧ Same H H' ∧ OvD [d] H' d cs (look (laps z ss cs i [])))
      ⟨_, _, _, _, _, _, _, _, _, rfl, s03, hd3⟩ ?_ ?_
    · rintro i σ H1 hi ⟨s2, s3, s4, s5, s6, s7, s8, s9, s10, rfl, sH1, hF⟩
      have cl0 : Closed z ss (laps z ss cs i []) := Closed.laps i .nil
      generalize eE : laps z ss cs i [] = E at hF cl0
      refine ⟨_, rfl, _, z, f, ss, rfl, hd.mono sH1, ok, fun H2 l ys sH2 nl hy hcv => ?_⟩
      rw [ecs] at hcv
      have hF2 := hF.same sH2
      have dl : l ∉ [d] := fun zz => by
        obtain ⟨_, e', _⟩ := hF2
        rw [List.mem_singleton.1 zz, e'] at hy
        cases hy
      have sH02 := Same.trans sH1 sH2
      refine ⟨l, rfl, ⟨ys, SqL.of hy⟩, for_list (xs := ys) (fun j σ H' => ∃ s2 s3 s4 s5 s6 s7 s8 s9 s10 : Option V, σ = [some (.ref a), some (.ref d), s2, s3, s4, s5, s6, s7, s8, s9, s10] ∧ Keep [d] H2 H' ∧ OvD [d] H' d cs (look ((cs.take j).foldl (lapOne z ss) E)) ∧ Closed z ss ((cs.take j).foldl (lapOne z ss) E))
        ⟨_, _, _, _, _, _, _, _, _, rfl, Keep.refl, hF2, cl0⟩ (fun j σ H' _ ⟨_, _, _, _, _, _, _, _, _, _, k, _⟩ => SqL.of (k.at_ dl hy)) ?_ ?_⟩
      · rintro j x σ H3 hx ⟨s2, s3, s4, s5, s6, s7, s8, s9, s10, rfl, k3, hF3, cl3⟩
        obtain ⟨p, c, rfl, hcj, hp⟩ := hcv.get hx
        rw [fold_snocV hcj]
        generalize (cs.take j).foldl (lapOne z ss) E = E3 at hF3 cl3
        have gc : Good z ss c := (goodc c).1 (List.mem_of_getElem? hcj)
        have cin : c ∈ cs := List.mem_of_getElem? hcj
        have sH3 : Same H H3 := from_ sH02 k3
        obtain ⟨kvs, hd3, hE3⟩ := id hF3
        have hp3 : CallAt H3 p c := by
          have hp' : CallAt (off [d] H2) p c := CallAt.out hp fun a ha => by
            rw [List.mem_singleton.1 ha]
            exact hF2.noTup
          exact (off_some (k3 _ _ hp')).2
        obtain ⟨ms, lst, k, rest, e1, e2, e3⟩ := move_is (f := f) ok gc
        obtain ⟨xi, hxi, hqi⟩ := hA.ix e1
        obtain ⟨pi, us, rfl, hpi, hq⟩ := hqi.items
        obtain ⟨mv', us', rfl, hM, hq⟩ := hq.one
        obtain ⟨lv, us'', rfl, _, hq⟩ := hq.one
        obtain rfl := hq.none
        obtain ⟨mi, mss, rfl, hmi, hms⟩ := hM.items
        obtain ⟨mr, emr, hmr⟩ := hms.ix e3
        refine ⟨p, _, rfl, SqT.of hp3, rfl, _, _, rfl, _, _, rfl, rfl, ?_⟩
        refine ⟨_, rfl, a, _, 2, _, rfl, rfl, seqT sH3 ht, rfl, _, rfl, t, xs, (c.1 : Int), _, rfl, rfl, seqT sH3 hts, atI_nat hxi, pi, _, 0, _, rfl, rfl, seqT sH3 hpi, rfl, _, rfl, a, _, 0, _, rfl, rfl, seqT sH3 ht, rfl, rfl, _, rfl, z, Ls.one c.2, k, rest, rfl, rfl, e2, mi, mss, (k : Int), mr, rfl, rfl, seqT sH3 hmi, atI_nat emr, ?_⟩
        refine ⟨_, rfl, rfl, _, rfl, ?_⟩
        cases em : mv z ss c with
        | none =>
          rw [mv_none ok gc.1 gc.2 em] at hmr
          obtain rfl := hmr.noneV
          rw [lapOne_stop em]
          exact iteF (iteF ⟨_, _, _, _, _, _, _, _, _, rfl, k3, hF3, cl3⟩)
        | some m =>
          obtain ⟨_, xw, yw, emv, ex, ey, lx, ly, ax, ay, hg⟩ := mv_ok ok em
          rw [emv] at hmr
          obtain ⟨pm, rfl, hpm⟩ := standV (a := xw) (b := yw) (s := m.2.2) (hmr.mono sH3)
          refine iteT ⟨_, rfl, _, rfl, _, rfl, (by show 2 ≤ sizeLine; decide), fun p2 np2 => ?_⟩
          have s4 := same_new (o := .tup [.int (c.1 : Int), .str (Ls.one c.2)]) np2
          have hp2 : CallAt (upd H3 p2 (.tup [.int (c.1 : Int), .str (Ls.one c.2)])) p2 c := upd_same
          revert s4 hp2
          generalize upd H3 p2 (.tup [.int (c.1 : Int), .str (Ls.one c.2)]) = H4
          intro s4 hp2
          have hd4 := s4 _ _ hd3
          have hE4 : OvE (off [d] H4) (look E3) kvs cs := hE3.mono (Keep.of s4)
          have k4 := k3.trans (Keep.of s4)
          obtain ⟨vc, evc, hvc⟩ := hE4.get cin
          refine ⟨d, vc, rfl, by rw [← evc]; exact DGet.t (k := ckey c) hd4 hp2.key, rfl, _, rfl, ?_⟩
          cases e6 : look E3 c with
          | some ww =>
            rw [e6] at hvc
            obtain ⟨pw, rfl, _⟩ := id hvc
            rw [lapOne_known e6]
            exact iteF ⟨_, _, _, _, _, _, _, _, _, rfl, k4, hF3.same s4, cl3⟩
          | none =>
            rw [e6] at hvc
            have hvc : vc = .non := hvc
            subst hvc
            have hpm4 := seqT s4 hpm
            refine iteT ⟨_, rfl, pm, _, 0, _, rfl, rfl, hpm4, rfl, _, rfl, pm, _, 2, _, rfl, rfl, hpm4, rfl, _, _, rfl, ?_⟩
            have exl : tx m.1 = xw := by
              rw [ex]
            rw [← exl]
            refine ⟨_, rfl, pm, _, 1, _, rfl, rfl, hpm4, rfl, yw, rfl, ?_⟩
            have lyl : yw.cps.size = yw.length := rfl
            let st : Option Wt → List Nat → V → Prop := fun r wd hr => match r with
              | some (w, g) => wd = w ∧ hr = .int (g : Int) ∧ g < ss.length
              | none => hr = .non
            refine for_it walk_str (fun jj σ H' => ∃ (s2 s6 s7 s10 : Option V) (wd : List Nat) (hr : V), σ = [some (.ref a), some (.ref d), s2, some (.int (c.1 : Int)), some (.str (Ls.one c.2)), some (.ref pm), s6, s7, some (.str (tx wd)), some hr, s10] ∧ st (rd (look E3) (m.2.1.take jj) (m.1, m.2.2)) wd hr ∧ wd.length ≤ 2000 + 2000 * jj ∧ Same H4 H')
              ⟨_, _, _, _, m.1, .int (m.2.2 : Int), rfl, by rw [List.take_zero]; exact ⟨rfl, rfl, hg⟩, by rw [ex]; simpa [Str.length] using lx, Same.refl _⟩ (fun _ _ _ _ _ => trivial) ?_ ?_
            · rintro jj x σ H5 H6 hk1 ⟨s2, s6, s7, s10, wd, hr, rfl, hst, lwd, sm5⟩ ⟨rfl, c1, hc1, rfl⟩
              have hc1' : m.2.1[jj]? = some c1 := by
                rw [ey]
                simpa using hc1
              have hj2 : jj < yw.length := hk1
              have c1in : c1 ∈ z.cps.toList := allIn_mem ay c1 (by rw [← ey]; exact List.mem_of_getElem? hc1')
              rw [take_snoc hc1', rd_append]
              refine ⟨fun σ H' => ∃ (mr : V), σ = [some (.ref a), some (.ref d), s2, some (.int (c.1 : Int)), some (.str (Ls.one c.2)), some (.ref pm), s6, some (.str (Ls.one c1)), some (.str (tx wd)), some hr, some mr] ∧ Same H6 H' ∧
                (match rd (look E3) (m.2.1.take jj) (m.1, m.2.2) with | none => mr = .non | some wg => OvAt H' mr (look E3 (wg.2, c1))), ?_, ?_⟩
              · refine ⟨_, rfl, rfl, _, rfl, ?_⟩
                cases hrd : rd (look E3) (m.2.1.take jj) (m.1, m.2.2) with
                | none =>
                  rw [hrd] at hst
                  have hst : hr = .non := hst
                  subst hst
                  exact iteF ⟨.non, rfl, Same.refl _, rfl⟩
                | some wg =>
                  obtain ⟨w, g1⟩ := wg
                  rw [hrd] at hst
                  obtain ⟨ewd, ehr, gg⟩ : wd = w ∧ hr = .int (g1 : Int) ∧ g1 < ss.length := hst
                  subst ewd ehr
                  have hd5 := sm5 _ _ hd4
                  refine iteT ⟨_, rfl, _, rfl, _, rfl, (by show 2 ≤ sizeLine; decide), fun p3 np3 => ?_⟩
                  have s7' := same_new (o := .tup [.int (g1 : Int), .str (Ls.one c1)]) np3
                  have hp3' : CallAt (upd H6 p3 (.tup [.int (g1 : Int), .str (Ls.one c1)])) p3 (g1, c1) := upd_same
                  obtain ⟨v1, ev1, hv1⟩ := hE4.get ((goodc (g1, c1)).2 ⟨gg, c1in⟩)
                  refine ⟨d, v1, rfl, by rw [← ev1]; exact DGet.t (k := ckey (g1, c1)) (s7' _ _ hd5) hp3'.key, v1, rfl, s7', ?_⟩
                  exact (hv1.mono off_same).mono (Same.trans sm5 s7')
              · rintro σ H7 ⟨mr, rfl, s7', hmr2⟩
                refine ⟨_, rfl, rfl, _, rfl, ?_⟩
                have stop : mr = .non → st ((rd (look E3) (m.2.1.take jj) (m.1, m.2.2)).bind (rd (look E3) [c1])) wd .non := fun e => by
                  cases hrd : rd (look E3) (m.2.1.take jj) (m.1, m.2.2) with
                  | none => rfl
                  | some wg =>
                    rw [hrd] at hmr2
                    cases el : look E3 (wg.2, c1) with
                    | none =>
                      show st (rd (look E3) [c1] wg) wd .non
                      rw [rd_none el]
                    | some w1 =>
                      have hmr2 : OvAt H7 mr (look E3 (wg.2, c1)) := hmr2
                      rw [el] at hmr2
                      obtain ⟨pw, e', _⟩ := hmr2
                      rw [e] at e'
                      cases e'
                by_cases en : mr = .non
                · subst en
                  refine iteT ⟨_, rfl, (by show 2 ≤ sizeLine; decide), fun p8 np8 => ?_⟩
                  refine ⟨p8, _, rfl, SqT.of upd_same, rfl, _, _, rfl, _, _, rfl, rfl, ?_⟩
                  exact ⟨_, _, _, _, wd, .non, rfl, stop rfl, by omega, Same.trans sm5 (Same.trans s7' (same_new np8))⟩
                · cases hrd : rd (look E3) (m.2.1.take jj) (m.1, m.2.2) with
                  | none =>
                    rw [hrd] at hmr2
                    exact absurd hmr2 en
                  | some wg =>
                    obtain ⟨w, g1⟩ := wg
                    rw [hrd] at hst hmr2
                    obtain ⟨ewd, ehr, gg⟩ : wd = w ∧ hr = .int (g1 : Int) ∧ g1 < ss.length := hst
                    subst ewd ehr
                    have hmr2 : OvAt H7 mr (look E3 (g1, c1)) := hmr2
                    cases el : look E3 (g1, c1) with
                    | none =>
                      rw [el] at hmr2
                      exact absurd hmr2 en
                    | some w1 =>
                      rw [el] at hmr2
                      obtain ⟨pw, rfl, hpw⟩ := hmr2
                      have lw1 : w1.1.length ≤ 2000 := small _ _ (cl3.val _ _ el)
                      have gw1 : w1.2 < ss.length := cl3.state ok _ _ el
                      have lcat : (tx wd ++ tx w1.1).length ≤ sizeLine := by
                        rw [cat_len, tx_len, tx_len]
                        exact Nat.le_trans (show wd.length + w1.1.length ≤ 5000000 by omega) (by decide)
                      have ecat : tx wd ++ tx w1.1 = tx (wd ++ w1.1) := str_ext (by
                        show ((tx wd).cps ++ (tx w1.1).cps).toList = (tx (wd ++ w1.1)).cps.toList
                        simp)
                      refine iteF ⟨_, rfl, _, rfl, pw, _, 0, _, rfl, rfl, SqT.of hpw, rfl, tx wd, tx w1.1, rfl, rfl, by rw [cat_len] at lcat; exact lcat, _, rfl, pw, _, 1, _, rfl, rfl, SqT.of hpw, rfl, (by show 2 ≤ sizeLine; decide), fun p8 np8 => ?_⟩
                      rw [ecat]
                      refine ⟨p8, _, rfl, SqT.of upd_same, rfl, _, _, rfl, _, _, rfl, rfl, ?_⟩
                      refine ⟨_, _, _, _, wd ++ w1.1, .int (w1.2 : Int), rfl, ?_, by rw [List.length_append]; omega, Same.trans sm5 (Same.trans s7' (same_new np8))⟩
                      show st (rd (look E3) [c1] (wd, g1)) _ _
                      rw [rd_some el]
                      exact ⟨rfl, rfl, gw1⟩
            · rintro σ H5 ⟨s2, s6, s7, s10, wd, hr, rfl, hst, lwd, sm5⟩
              have ett : m.2.1.take yw.cps.size = m.2.1 := List.take_of_length_le (by rw [ey]; simp)
              rw [ett] at hst
              refine ⟨_, rfl, rfl, _, rfl, ?_⟩
              have k5 := k4.trans (Keep.of sm5)
              have hd5 := sm5 _ _ hd4
              have hE5 := hE4.mono (Keep.of (S := [d]) sm5)
              cases hrd : rd (look E3) m.2.1 (m.1, m.2.2) with
              | none =>
                rw [hrd] at hst
                have hst : hr = .non := hst
                subst hst
                rw [lapOne_waits em hrd]
                exact iteF ⟨_, _, _, _, _, _, _, _, _, rfl, k5, ⟨kvs, hd5, hE5⟩, cl3⟩
              | some wg =>
                obtain ⟨w, g1⟩ := wg
                rw [hrd] at hst
                obtain ⟨ewd, ehr, gg⟩ : wd = w ∧ hr = .int (g1 : Int) ∧ g1 < ss.length := hst
                subst ewd ehr
                rw [lapOne_new e6 em hrd]
                refine iteT ⟨_, rfl, _, rfl, (by show 2 ≤ sizeLine; decide), fun p5 np5 => ?_⟩
                have s6 := same_new (o := .tup [.str (tx wd), .int (g1 : Int)]) np5
                have hp5 : upd H5 p5 (.tup [.str (tx wd), .int (g1 : Int)]) p5 = some (.tup [.str (tx wd), .int (g1 : Int)]) := upd_same
                revert s6 hp5
                generalize upd H5 p5 (.tup [.str (tx wd), .int (g1 : Int)]) = H6
                intro s6 hp5
                refine ⟨_, rfl, _, rfl, _, rfl, (by show 2 ≤ sizeLine; decide), fun p6 np6 => ?_⟩
                have s7 := same_new (o := .tup [.int (c.1 : Int), .str (Ls.one c.2)]) np6
                have hp6 : CallAt (upd H6 p6 (.tup [.int (c.1 : Int), .str (Ls.one c.2)])) p6 c := upd_same
                revert s7 hp6
                generalize upd H6 p6 (.tup [.int (c.1 : Int), .str (Ls.one c.2)]) = H7
                intro s7 hp6
                have s67 := Same.trans s6 s7
                have hd7 := s67 _ _ hd5
                have hp57 := s7 _ _ hp5
                refine ⟨d, _, rfl, DPut.t (k := ckey c) hd7 hp6.key (by rw [hE3.len]; exact Nat.lt_of_le_of_lt hcs (by decide)), ?_⟩
                have npn : p5 ∉ [d] := fun zz => by
                  rw [List.mem_singleton.1 zz, hd7] at hp57
                  cases hp57
                have kP : Keep [d] H7 (upd H7 d (.dT (putK kvs (ckey c) (.ref p5)))) := Keep.pot List.mem_cons_self
                have hnew : OvAt (off [d] H7) (.ref p5) (look (E3 ++ [(c, (wd, g1))]) c) := by
                  rw [look_new e6]
                  exact ⟨p5, rfl, off_of npn hp57⟩
                refine ⟨_, _, _, _, _, _, _, _, _, rfl, k5.trans ((Keep.of s67).trans kP), ⟨_, upd_same, ((hE5.mono (Keep.of s67)).put cin hnew fun e ne => look_other (fun z => ne z.symm)).mono kP⟩, .snoc cl3 e6 em hrd⟩
      · rintro σ H3 ⟨s2, s3, s4, s5, s6, s7, s8, s9, s10, rfl, k3, hF3, cl3⟩
        refine ⟨_, _, _, _, _, _, _, _, _, rfl, from_ sH02 k3, ?_⟩
        rw [laps_snocV, eE]
        have el : cs.take ys.length = cs := by
          rw [hcv.len, List.take_length]
        rw [el] at hF3
        exact hF3
    · rintro σ H1 ⟨s2, s3, s4, s5, s6, s7, s8, s9, s10, rfl, sH1, hF⟩
      refine ⟨_, rfl, ?_⟩
      rw [eval] at hF
      exact q H1 d sH1 nd' hF
end
end K12

namespace K12
open PySem PySem.Spec PyProof.Rows L2 G Lk
section
variable {P : Program} {w : World} {K : PySem.W.Frag} {mg : Str → Option Value} {base : Heap}
def plnM : Option Wt → PyData
  | none => .none
  | some w => .tuple [.str (tx w.1), .str "", .int (w.2 : Int)]
def sp_plain_move (K : PySem.W.Frag) : Sp := fun vs H Q _ => ∃ (v : V) (o : Option Wt), vs = [v] ∧ OvAt H v o ∧ ∀ (H' : Hp) (r : V), Same H H' → Dq K H' r (plnM o) → Q r H'
/-- def _plain_move(told): -/
theorem ok_plain_move (T : Tx K mg) : FnOk P w K mg base CX0 1 T.a__plain_move T.fd__plain_move ["told"] (sp_plain_move K) := by
  refine T.F__plain_move.ok sc_plain_move (fun vs H Q E h => ?_) (fun cdv A outer s H vs Q E hr h => ?_)
  · obtain ⟨_, _, rfl, _⟩ := h
    rfl
  · refine ⟨_, (pss_cons (ps_if (pt_cmpR op_isN (pv 0) pe_non (nomark _))
      (pss_one (ps_ret pe_non))
      pss_nil)
    (pss_cons (ps_asg (pv 0) (pg_tup rfl (pgs_cons (pg_name (i := 1) sc_plain_move.nd rfl (by first | exact Or.inl rfl | exact Or.inr rfl)) (pgs_cons (pg_name (i := 2) sc_plain_move.nd rfl (by first | exact Or.inl rfl | exact Or.inr rfl)) pgs_nil))))
    (pss_one (ps_ret (pe_tup (pa_cons (pv 1) (pa_cons pe_str (pa_cons (pv 2) pa_nil)))))))), ?_⟩
    obtain ⟨v, o, rfl, hv, q⟩ := h
    cases o with
    | none =>
      have hv : v = .non := hv
      subst hv
      exact ⟨_, rfl, rfl, _, rfl, iteT (q H .non (Same.refl _) .non)⟩
    | some w =>
      obtain ⟨p, rfl, hp⟩ := hv
      refine ⟨_, rfl, rfl, _, rfl, iteF ?_⟩
      refine ⟨_, rfl, p, _, rfl, SqT.of hp, rfl, _, _, rfl, _, _, rfl, rfl, ?_⟩
      refine ⟨_, rfl, _, rfl, (by show 3 ≤ sizeLine; decide), fun r nr => ?_⟩
      exact q _ _ (same_new nr) (.tup (SqT.of upd_same) (.cons (.str _) (.cons (.str _) (.cons (.int _) .nil))))
end
end K12

namespace K12
open PySem PySem.Spec PyProof.Rows L2 G Lk
section
variable {P : Program} {w : World} {K : PySem.W.Frag} {mg : Str → Option Value} {base : Heap}
/-- a state of the plain form -/
noncomputable def plainS (z : Str) (ss : List PyData) (s : Nat) : PyData := .tuple [.tuple (z.cps.toList.map fun c => plnM (valOf z ss (s, c))), lastD ss s]
noncomputable def plainE (z f : Str) (ss : List PyData) : PyData := .tuple [.str z, .str f, .tuple ((List.range ss.length).map (plainS z ss))]
def sp_plain_of (K : PySem.W.Frag) (mg : Str → Option Value) (T : Tx K mg) : Sp := fun vs H Q X => ∃ (v : V) (z f : Str) (ss : List PyData), vs = [v] ∧ Dq K H v (.tuple [.str z, .str f, .tuple ss]) ∧ StatesOk z ss ∧
  ((∃ c w, Val z ss c w ∧ 2000 < w.1.length) → tooManyE T.a_TooMany X H 2000) ∧
  ((∀ c w, Val z ss c w → w.1.length ≤ 2000) → ∀ (H' : Hp) (v' : V), Same H H' → Dq K H' v' (plainE z f ss) → Q v' H')
/-- def plain_of(expander): -/
theorem ok_plain_of (T : Tx K mg) : FnOk P w K mg base (L2.CX P w) 6 T.a_plain_of T.fd_plain_of ["expander"] (sp_plain_of K mg T) := by
  refine T.F_plain_of.okX sc_plain_of (fun vs H Q E h => ?_) (fun cdv A outer s H vs Q E hr h => ?_)
  · obtain ⟨_, _, _, _, rfl, _⟩ := h
    rfl
  · refine ⟨_, (pss_cons (ps_asg (pv 0) (pg_tup rfl (pgs_cons (pg_name (i := 3) sc_plain_of.nd rfl (by first | exact Or.inl rfl | exact Or.inr rfl)) (pgs_cons (pg_name (i := 4) sc_plain_of.nd rfl (by first | exact Or.inl rfl | exact Or.inr rfl)) (pgs_cons (pg_name (i := 5) sc_plain_of.nd rfl (by first | exact Or.inl rfl | exact Or.inr rfl)) pgs_nil)))))
    (pss_cons (ps_set (i := 1) sc_plain_of.nd rfl (by first | exact Or.inl rfl | exact Or.inr rfl) (pe_call (ok_values_of T) (hr.mono (by decide)) (by rfl) T.g_values_of T.F_values_of.kp T.b_values_of .nil (passes_call (takes_of rfl rfl rfl rfl) (fun _ _ _ _ h => h)) (pa_cons (pv 0) pa_nil)))
    (pss_cons (ps_set (i := 2) sc_plain_of.nd rfl (by first | exact Or.inl rfl | exact Or.inr rfl) (pe_lst pa_nil))
    (pss_cons (ps_for (passes_of rfl) rfl (pi_enumTu (by rfl) T.z_enumerate (pa_cons (pv 5) pa_nil)) (pg_tup rfl (pgs_cons (pg_name (i := 6) sc_plain_of.nd rfl (by first | exact Or.inl rfl | exact Or.inr rfl)) (pgs_cons (pg_tup rfl (pgs_cons (pg_name (i := 8) sc_plain_of.nd rfl (by first | exact Or.inl rfl | exact Or.inr rfl)) (pgs_cons (pg_name (i := 9) sc_plain_of.nd rfl (by first | exact Or.inl rfl | exact Or.inr rfl)) pgs_nil))) pgs_nil)))
      (pss_cons (ps_setLc (i := 7) (own := [("sign", 10)]) (g := gName 10) (by rfl) sc_plain_of.nd rfl rfl (sw_true rfl rfl rfl (by decide +kernel)) (pi_str (pv 3)) (blkOk_by (own := [("sign", 10)]) (N := N_plain_of) (sc := defScope s_plain_of) (by decide +kernel)) (fun _ _ _ _ _ => pg_name (i := 10) sc_plain_of.nd rfl (by first | exact Or.inl rfl | exact Or.inr rfl)) (fun _ _ _ _ _ => pts_nil) (fun _ _ _ _ _ => (pe_call (ok_plain_move T) (hr.mono (by decide)) (by rfl) T.g__plain_move T.F__plain_move.kp T.b__plain_move .nil pass0 (pa_cons (pe_dget1 (unit1 hr.units) (pv 1) (pe_tup (pa_cons (pv 6) (pa_cons (pv 10) pa_nil))) ⟨rfl, rfl, rfl, rfl⟩) pa_nil))))
    (pss_one (ps_expr (pe_bm PySem.F.plainAttrs_list PySem.F.slot_list_append PySem.F.type_list_append mt_append (pv 2) (pa_cons (pe_tup (pa_cons (pe_callTy call_tuple_of (by rfl) T.z_tuple (by decide +kernel) (pa_cons (pv 7) pa_nil)) (pa_cons (pv 9) pa_nil))) pa_nil))))))
    (pss_one (ps_ret (pe_tup (pa_cons (pv 3) (pa_cons (pv 4) (pa_cons (pe_callTy call_tuple_of (by rfl) T.z_tuple (by decide +kernel) (pa_cons (pv 2) pa_nil)) pa_nil)))))))))), ?_⟩
    obtain ⟨v, z, f, ss, rfl, hv, ok, kB, kQ⟩ := h
    have m2 : (2 : Nat) ≤ sizeLine := by decide
    have m3 : (3 : Nat) ≤ sizeLine := by decide
    obtain ⟨z1, z4, zc⟩ := ok.1.small
    have l60 : ss.length ≤ 60 := ok.2.2.1
    obtain ⟨a, t', xs, rfl, ht, hts, hA⟩ := expV_of hv
    have hl := hA.length
    refine ⟨_, rfl, a, _, rfl, ht, rfl, _, _, rfl, _, _, rfl, _, _, rfl, rfl, ?_⟩
    refine ⟨_, rfl, .ref a, z, f, ss, rfl, hv, ok, kB, fun hsm H2 d E s2 nd hV cl all => ?_⟩
    have q := kQ hsm
    have hlk := look_all ok cl all
    obtain ⟨kvs, hdd, hVE⟩ := hV.any (T := []) (fun a ha => nomatch ha)
    refine ⟨Nat.zero_le _, fun L nL => ?_⟩
    have s3 := same_new (o := .lst []) nL
    have hL3 : upd H2 L (.lst []) L = some (.lst []) := upd_same
    have nLH : H L = none := by
      cases e : H L with
      | none => rfl
      | some o =>
        rw [s2 _ _ e] at nL
        cases nL
    revert s3 hL3
    generalize upd H2 L (.lst []) = H3
    intro s3 hL3
    have s23 := Same.trans s2 s3
    have hd3 := s3 _ _ hdd
    have dL : d ≠ L := ne_of_none hdd nL
    have hVE3 : VlE (off [L] H3) kvs E := VlE.any (S := []) (hVE.mono (Keep.of s3)) fun b hb => by
      rw [List.mem_singleton.1 hb]
      intro us e
      rw [hL3] at e
      cases e
    refine ⟨_, rfl, t', xs, rfl, seqT s23 hts, ?_⟩
    refine for_it walk_enumTu (fun i σ H' => ∃ s6 s7 s8 s9 : Option V, σ = [some (.ref a), some (.ref d), some (.ref L), some (.str z), some (.str f), some (.ref t'), s6, s7, s8, s9, none] ∧ Sm L H3 H' ∧ ∃ us, H' L = some (.lst us) ∧ us.length = i ∧ DqAll K (sans H' L) us ((List.range i).map (plainS z ss)))
      ⟨_, _, _, _, rfl, Sm.refl, [], hL3, rfl, .nil⟩ (fun i σ H' _ ⟨_, _, _, _, _, sm, _⟩ => seqT (Sm.same_of s23 sm nLH) hts) ?_ ?_
    · rintro i x σ H4 H5 hi ⟨s6, s7, s8, s9, rfl, sm4, us, hL4, lus, hus⟩ ⟨pT, ia, y, rfl, nT, rfl, ea, ey⟩
      cases ea
      have hi2 : i < ss.length := by omega
      have s4 := Sm.same_of s23 sm4 nLH
      obtain ⟨ms, lst, e1, e2, e3⟩ := last_in ok hi2
      obtain ⟨y', ey', hyd⟩ := hA.ix e1
      have ey : xs[i]? = some y := ey
      rw [ey] at ey'
      cases ey'
      have sT := same_new (o := .tup [.int ((i : Nat) : Int), y]) nT
      have hpT : upd H4 pT (.tup [.int ((i : Nat) : Int), y]) pT = some (.tup [.int ((i : Nat) : Int), y]) := upd_same
      have hL5 := sT _ _ hL4
      revert sT hpT hL5
      generalize upd H4 pT (.tup [.int ((i : Nat) : Int), y]) = H5
      intro sT hpT hL5
      have s5 := Same.trans s4 sT
      obtain ⟨ps, us1, rfl, hps, hq⟩ := (hyd.mono s5).items
      obtain ⟨mv', us2, rfl, _, hq⟩ := hq.one
      obtain ⟨lv, us3, rfl, hlv, hq⟩ := hq.one
      obtain rfl := hq.none
      have sm5 : Sm L H3 H5 := sm4.trans (Sm.of sT)
      have hd5 := sm5.at_ dL hd3
      have hVE5 : VlE (off [L] H5) kvs E := hVE3.mono fun b o eo => off_of (off_some eo).1 (sm5.at_ (fun zz => (off_some eo).1 (by rw [zz]; exact List.mem_cons_self)) (off_some eo).2)
      refine ⟨pT, _, rfl, SqT.of hpT, rfl, _, _, rfl, _, _, rfl, ps, _, rfl, hps, rfl, _, _, rfl, _, _, rfl, rfl, rfl, ?_⟩
      refine ⟨_, rfl, z, rfl, fun D nD => ?_⟩
      refine lc_it walk_str (fun j H' => Same H5 H' ∧ ∃ ws, H' D = some (.lst ws) ∧ ws.length = j ∧ DqAll K (sans H' D) ws ((z.cps.toList.take j).map fun c => plnM (valOf z ss (i, c)))) ⟨same_new nD, [], upd_same, rfl, .nil⟩ (fun _ _ _ _ => trivial) ?_ ?_
      · rintro j x H6 H7 hj ⟨s6', ws, hD, lws, hws⟩ ⟨rfl, c, hc, rfl⟩
        have hcl : z.cps.toList[j]? = some c := by simpa using hc
        have hd6 := s6' _ _ hd5
        have hVE6 : VlE H7 kvs E := (hVE5.mono off_same).mono s6'
        refine ⟨rfl, _, rfl, d, rfl, .inr ⟨_, .inl hd6⟩, _, rfl, _, rfl, m2, fun p np => ?_⟩
        have s7' := same_new (o := .tup [.int ((i : Nat) : Int), .str ⟨#[c]⟩]) np
        have hp7 : CallAt (upd H7 p (.tup [.int ((i : Nat) : Int), .str ⟨#[c]⟩])) p (i, c) := upd_same
        have hD7 := s7' _ _ hD
        have hd7 := s7' _ _ hd6
        have hov : OvAt H7 ((valV kvs (ckey (i, c))).getD .non) (valOf z ss (i, c)) := by
          rw [← hlk]
          rcases hVE6.get (i, c) with ⟨v, w, e1, e2, e3⟩ | ⟨e1, e2⟩
          · rw [e1, e2]
            exact e3
          · rw [e1, e2]
            exact rfl
        refine ⟨_, DGet.t (k := ckey (i, c)) hd7 hp7.key, _, _, rfl, hov.mono s7', fun H8 r s8 hr => ?_⟩
        have hD8 := s8 _ _ hD7
        have s68 := Same.trans s7' s8
        have sm : Sm D H8 (upd H8 D (.lst (ws ++ [r]))) := Sm.pot
        have flat : hasList (plnM (valOf z ss (i, c))) = false := by
          cases valOf z ss (i, c) with
          | none => rfl
          | some w => simp [plnM, hasList, hasListAll]
        refine ⟨ws, hD8, ?_, fun b o e => (upd_ne (ne_of_none e nD)).trans (s68 _ _ (s6' b o e)), ws ++ [r], upd_same, by rw [List.length_append, lws]; rfl, ?_⟩
        · rw [lws]
          have hj : j < z.length := hj
          exact Nat.lt_of_lt_of_le (show j < 300 by omega) (by decide)
        · rw [take_snoc hcl, List.map_append]
          exact ((hws.mono (Sm.of s68)).mono sm).append (.cons ((hr.out hD8 flat).mono sm) .nil)
      rintro H6 ⟨s6', ws, hD, lws, hws⟩
      have ezt : z.cps.toList.take z.cps.size = z.cps.toList := List.take_of_length_le (by simp)
      rw [ezt] at hws
      have hws : DqAll K H6 ws (z.cps.toList.map fun c => plnM (valOf z ss (i, c))) := hws.mono sans_same
      have hL6 := s6' _ _ hL5
      have DL : D ≠ L := (ne_of_none hL5 nD).symm
      refine ⟨_, rfl, .inl ⟨rfl, _, SqL.of hL6⟩, _, rfl, D, ws, rfl, .inl ⟨SqL.of hD, fun p2 np2 => ?_⟩⟩
      have s7' := same_new (o := .tup ws) np2
      have hp2 : upd H6 p2 (.tup ws) p2 = some (.tup ws) := upd_same
      have hL7 := s7' _ _ hL6
      revert s7' hp2 hL7
      generalize upd H6 p2 (.tup ws) = H7
      intro s7' hp2 hL7
      refine ⟨_, rfl, m2, fun p3 np3 => ?_⟩
      have s8' := same_new (o := .tup [.ref p2, lv]) np3
      have hp3 : upd H7 p3 (.tup [.ref p2, lv]) p3 = some (.tup [.ref p2, lv]) := upd_same
      have hL8 := s8' _ _ hL7
      revert s8' hp3 hL8
      generalize upd H7 p3 (.tup [.ref p2, lv]) = H8
      intro s8' hp3 hL8
      have s58 := Same.trans s6' (Same.trans s7' s8')
      have hq : Dq K H8 (.ref p3) (plainS z ss i) := by
        unfold plainS
        rw [e2]
        exact .tup (SqT.of hp3) (.cons (.tup (SqT.of (s8' _ _ hp2)) ((hws.mono s7').mono s8')) (.cons (hlv.mono s58) .nil))
      have flat : hasList (plainS z ss i) = false := by
        have e5 : ∀ l : List Nat, hasListAll (l.map fun c => plnM (valOf z ss (i, c))) = false := fun l => hasListAll_of fun d hd => by
          obtain ⟨c, _, rfl⟩ := List.mem_map.1 hd
          cases valOf z ss (i, c) with
          | none => rfl
          | some w => simp [plnM, hasList, hasListAll]
        have e6 : hasList (lastD ss i) = false := by
          rw [e2]
          rcases e3 with rfl | ⟨w, rfl, _, _⟩ <;> rfl
        unfold plainS
        simp [hasList, hasListAll, e5, e6]
      refine ⟨L, us, _, rfl, rfl, hL8, ?_, ?_⟩
      · rw [lus]
        exact Nat.lt_of_lt_of_le (show i < 300 by omega) (by decide)
      have sm9 : Sm L H8 (upd H8 L (.lst (us ++ [.ref p3]))) := Sm.pot
      refine ⟨_, _, _, _, rfl, (sm5.trans (Sm.of s58)).trans sm9, us ++ [.ref p3], upd_same, by rw [List.length_append, lus]; rfl, ?_⟩
      rw [List.range_succ, List.map_append]
      exact (((hus.mono (Sm.of sT)).mono (Sm.of s58)).mono sm9).append (.cons ((hq.out hL8 flat).mono sm9) .nil)
    · rintro σ H4 ⟨s6, s7, s8, s9, rfl, sm4, us, hL4, lus, hus⟩
      rw [hl] at lus hus
      refine ⟨_, rfl, _, rfl, _, rfl, L, us, rfl, .inl ⟨SqL.of hL4, fun p np => ?_⟩⟩
      have s5 := same_new (o := .tup us) np
      refine ⟨m3, fun r nr => ?_⟩
      have s6' := same_new (o := .tup [.str z, .str f, .ref p]) nr
      refine q _ _ (Same.trans (Sm.same_of s23 sm4 nLH) (Same.trans s5 s6')) (.tup (SqT.of upd_same) (.cons (.str _) (.cons (.str _) (.cons (.tup (SqT.of (s6' _ _ upd_same)) ?_) .nil))))
      exact ((hus.mono sans_same).mono s5).mono s6'
end
end K12

namespace K12
open PySem PySem.Spec PyProof.Rows L2 G Lk
section
variable {P : Program} {w : World} {K : PySem.W.Frag} {mg : Str → Option Value} {base : Heap}
/-- where a move leads -/
def goalM : PyData → Option Int
  | .tuple [_, _, .int g] => some g
  | _ => none
def goalsS (s : PyData) : List Int := (movesOf s).filterMap goalM
def goalsD (s : PyData) : PyData := .list ((goalsS s).map PyData.int)
/-- states as they are written -/
def FormS (s : PyData) : Prop := ∃ (ms : List PyData) (l : PyData), s = .tuple [.tuple ms, l] ∧ ms.length ≤ 1000 ∧ ∀ m ∈ ms, m = .none ∨ ∃ (x y : Str) (g : Int), m = .tuple [.str x, .str y, .int g]
theorem dq_ints {H : Hp} : ∀ l : List Int, DqAll K H (l.map V.int) (l.map PyData.int)
  | [] => .nil
  | i :: l => .cons (.int i) (dq_ints l)
def sp_goals (K : PySem.W.Frag) : Sp := fun vs H Q _ => ∃ (v : V) (ss : List PyData), vs = [v] ∧ Dq K H v (.tuple ss) ∧ ss.length ≤ 1000 ∧ (∀ s ∈ ss, FormS s) ∧ ∀ (H' : Hp) (v' : V), Same H H' → Dq K H' v' (.list (ss.map goalsD)) → Q v' H'
/-- def _goals(states): -/
theorem ok_goals (T : Tx K mg) : FnOk P w K mg base CX0 1 T.a__goals T.fd__goals ["states"] (sp_goals K) := by
  refine T.F__goals.ok sc_goals (fun vs H Q E h => ?_) (fun cdv A outer s H vs Q E hr h => ?_)
  · obtain ⟨_, _, rfl, _⟩ := h
    rfl
  · refine ⟨_, (pss_one (ps_ret (pe_lc (own := [("moves", 2), ("_", 3)]) (g := gTup K 2 (gCons (gName 2) (gCons (gName 3) gNil))) (by rfl) sc_goals.nd (pi_tup (pv 0)) (blkOk_by (own := [("moves", 2), ("_", 3)]) (N := N_goals) (sc := defScope s_goals) (by decide +kernel)) (fun _ _ _ _ _ => (pg_tup rfl (pgs_cons (pg_name (i := 2) sc_goals.nd rfl (by first | exact Or.inl rfl | exact Or.inr rfl)) (pgs_cons (pg_name (i := 3) sc_goals.nd rfl (by first | exact Or.inl rfl | exact Or.inr rfl)) pgs_nil)))) (fun _ _ _ _ _ => pts_nil) (fun _ _ _ _ _ => (pe_lc (own := [("move", 1)]) (g := gName 1) (by rfl) sc_goals.nd ((pi_tup (pv 2)) : PI _ _ _ (iTup K _)) (by exact blkOk_by (own := [("move", 1)]) (N := N_goals) (sc := _ /- goals -/) (by rfl)) (fun _ _ _ _ _ => pg_name (i := 1) sc_goals.nd rfl (by first | exact Or.inl rfl | exact Or.inr rfl)) (fun _ _ _ _ _ => (pts_one (pt_cmpR op_notN (pv 1) pe_non (nomark _)))) (fun _ _ _ _ _ => (pe_ix (ix_tup : IxR _ (rIxT K)) (pv 1) pe_int (fun _ _ => rfl)))))))), ?_⟩
    obtain ⟨v, ss, rfl, hv, l1000, hF, q⟩ := h
    obtain ⟨a, xs, rfl, ha, hA⟩ := hv.items
    have hl := hA.length
    refine ⟨_, rfl, a, rfl, ⟨_, ha⟩, fun D nD => ?_⟩
    refine lc_tup (xs := xs) (fun i H' => Same H H' ∧ ∃ us, H' D = some (.lst us) ∧ us.length = i ∧ DqAll K (sans H' D) us ((ss.take i).map goalsD)) ⟨same_new nD, [], upd_same, rfl, by rw [List.take_zero]; exact .nil⟩ (fun _ _ _ h => seqT h.1 ha) ?_ ?_
    · rintro i x H1 hx ⟨s1, us, hD, lus, hus⟩
      have hi : i < xs.length := (List.getElem?_eq_some_iff.mp hx).1
      obtain ⟨sd, hsd⟩ : ∃ d, ss[i]? = some d := ⟨_, List.getElem?_eq_getElem (by omega)⟩
      obtain ⟨x', ex', hxd⟩ := hA.ix hsd
      rw [hx] at ex'
      cases ex'
      obtain ⟨ms, l, rfl, lms, hms⟩ := hF sd (List.mem_of_getElem? hsd)
      obtain ⟨p, us1, rfl, hp, hq⟩ := (hxd.mono s1).items
      obtain ⟨mv', us2, rfl, hM, hq⟩ := hq.one
      obtain ⟨lv, us3, rfl, _, hq⟩ := hq.one
      obtain rfl := hq.none
      obtain ⟨m, mss, rfl, hm, hmA⟩ := hM.items
      have hml := hmA.length
      refine ⟨p, _, rfl, hp, rfl, _, _, rfl, _, _, rfl, rfl, ?_⟩
      refine ⟨rfl, _, rfl, m, rfl, ⟨_, hm⟩, fun D2 nD2 => ?_⟩
      refine lc_tup (xs := mss) (fun k H' => Same H1 H' ∧ H' D2 = some (.lst ((((ms.take k).filterMap goalM)).map V.int))) ⟨same_new nD2, by rw [List.take_zero]; exact upd_same⟩ (fun _ _ _ h => seqT h.1 hm) ?_ ?_
      · rintro k y H2 hy ⟨s2, hD2⟩
        have hk : k < mss.length := (List.getElem?_eq_some_iff.mp hy).1
        obtain ⟨md, hmd⟩ : ∃ d, ms[k]? = some d := ⟨_, List.getElem?_eq_getElem (by omega)⟩
        obtain ⟨y', ey', hyd⟩ := hmA.ix hmd
        rw [hy] at ey'
        cases ey'
        refine ⟨rfl, _, rfl, rfl, _, rfl, ?_⟩
        have et : (ms.take (k + 1)).filterMap goalM = (ms.take k).filterMap goalM ++ [md].filterMap goalM := by
          rw [List.take_add_one, hmd, List.filterMap_append]
          rfl
        rcases hms md (List.mem_of_getElem? hmd) with rfl | ⟨x, z, g, rfl⟩
        · obtain rfl := hyd.noneV
          refine iteF ⟨s2, ?_⟩
          rw [et, show [PyData.none].filterMap goalM = [] from rfl, List.append_nil]
          exact hD2
        · obtain ⟨pm, us4, rfl, hpm, hq4⟩ := (hyd.mono s2).items
          obtain ⟨w1, us5, rfl, _, hq4⟩ := hq4.one
          obtain ⟨w2, us5, rfl, _, hq4⟩ := hq4.one
          obtain ⟨w3, us5, rfl, hw3, hq4⟩ := hq4.one
          obtain rfl := hq4.none
          obtain rfl := hw3.intV
          refine iteT ⟨_, rfl, pm, _, 2, _, rfl, rfl, hpm, rfl, _, hD2, ?_, fun b o e => (upd_ne (ne_of_none e nD2)).trans (s2 b o e), ?_⟩
          · rw [List.length_map]
            refine Nat.lt_of_le_of_lt (List.length_filterMap_le _ _) ?_
            rw [List.length_take]
            exact Nat.lt_of_lt_of_le (show min k ms.length < 2000 by omega) (by decide)
          · rw [upd_same, et, List.map_append]
            rfl
      · rintro H2 ⟨s2, hD2⟩
        rw [hml, List.take_length] at hD2
        have hD' := s2 _ _ hD
        have nDD : D2 ≠ D := (ne_of_none hD nD2).symm
        have sm : Sm D H2 (upd H2 D (.lst (us ++ [.ref D2]))) := Sm.pot
        have hq : Dq K (sans H2 D) (.ref D2) (goalsD (.tuple [.tuple ms, l])) := .lst (SqL.of (sans_of nDD hD2)) (dq_ints _)
        refine ⟨us, hD', by rw [lus]; exact Nat.lt_of_lt_of_le (show i < 2000 by omega) (by decide), fun b o e => (upd_ne (ne_of_none e nD)).trans (s2 _ _ (s1 b o e)), us ++ [.ref D2], upd_same, by rw [List.length_append, lus]; rfl, ?_⟩
        rw [List.take_add_one, hsd, List.map_append]
        exact ((hus.mono (Sm.of s2)).mono sm).append (.cons (hq.mono sm) .nil)
    · rintro H1 ⟨s1, us, hD, lus, hus⟩
      rw [hl, List.take_length] at hus
      exact q H1 _ s1 (.lst (SqL.of hD) (hus.mono sans_same))
end
end K12

namespace K12
open PySem PySem.Spec PyProof.Rows L2 G Lk
section
variable {P : Program} {w : World} {K : PySem.W.Frag} {mg : Str → Option Value} {base : Heap}
theorem ints_of {H : Hp} : ∀ {xs : List V} {l : List Int}, DqAll K H xs (l.map PyData.int) → xs = l.map V.int
  | xs, [], h => by
    obtain rfl := h.none
    rfl
  | xs, i :: l, h => by
    obtain ⟨x, us, rfl, hx, hu⟩ := (show DqAll K H xs (.int i :: l.map PyData.int) from h).one
    obtain rfl := hx.intV
    rw [ints_of hu]
    rfl
def rowsD (fs : List (List Int)) : PyData := .list (fs.map fun l => .list (l.map PyData.int))
def sp_led_to (K : PySem.W.Frag) : Sp := fun vs H Q _ => ∃ (fv bv : V) (fs : List (List Int)) (bs : List Int), vs = [fv, bv] ∧ Dq K H fv (rowsD fs) ∧ Dq K H bv (.list (bs.map PyData.int)) ∧ fs.length ≤ 60 ∧ bs.length ≤ 1000 ∧ (∀ l ∈ fs, l.length ≤ 1000 ∧ ∀ y ∈ l, 0 ≤ y ∧ y < fs.length) ∧ (∀ y ∈ bs, 0 ≤ y ∧ y < fs.length) ∧
  ∀ (H' : Hp) (r : Addr) (ys : List Int), Same H H' → H r = none → H' r = some (.lst (ys.map V.int)) → ys.Pairwise (· < ·) → (∀ x, x ∈ ys ↔ Reach fs bs x) → Q (.ref r) H'
/-- def _led_to(following, begin): -/
theorem ok_led_to (T : Tx K mg) : FnOk P w K mg base CX0 1 T.a__led_to T.fd__led_to ["following", "begin"] (sp_led_to K) := by
  refine T.F__led_to.ok sc_led_to (fun vs H Q E h => ?_) (fun cdv A outer s H vs Q E hr h => ?_)
  · obtain ⟨_, _, _, _, rfl, _⟩ := h
    rfl
  · refine ⟨_, (pss_cons (ps_setDc (i := 2) (own := [("state", 5)]) (g := gName 5) (by rfl) sc_led_to.nd rfl rfl (sw_trueD rfl rfl rfl (by decide +kernel)) (pi_list (pv 1)) (blkOk_by (own := [("state", 5)]) (N := N_led_to) (sc := defScope s_led_to) (by decide +kernel)) (fun _ _ _ _ _ => pg_name (i := 5) sc_led_to.nd rfl (by first | exact Or.inl rfl | exact Or.inr rfl)) (fun _ _ _ _ _ => pts_nil) (fun _ _ _ _ _ => (pv 5)) (fun _ _ _ _ _ => pe_bl))
    (pss_cons (ps_set (i := 3) sc_led_to.nd rfl (by first | exact Or.inl rfl | exact Or.inr rfl) (pe_callTy call_list_of (by rfl) T.z_list (by decide +kernel) (pa_cons (pv 1) pa_nil)))
    (pss_cons (ps_while PassesOwn.never (pt_truth (pv 3) (by intro _; rfl))
      (pss_cons (ps_set (i := 4) sc_led_to.nd rfl (by first | exact Or.inl rfl | exact Or.inr rfl) (pe_bm0 PySem.F.plainAttrs_list PySem.F.slot_list_pop PySem.F.type_list_pop mt_pop (pv 3)))
    (pss_one (ps_for PassesOwn.never rfl (pi_list (pe_ix ix_list (pv 0) (pv 4) (fun _ _ => rfl))) (pg_name (i := 5) sc_led_to.nd rfl (by first | exact Or.inl rfl | exact Or.inr rfl))
      (pss_one (ps_if (pt_cmp (pc_dnotin (unit1 hr.units) (pv 5) (pv 2)))
      (pss_cons (ps_dput (unit1 hr.units) (pv 2) (pv 5) pe_bl (by rfl))
    (pss_one (ps_expr (pe_bm PySem.F.plainAttrs_list PySem.F.slot_list_append PySem.F.type_list_append mt_append (pv 3) (pa_cons (pv 5) pa_nil)))))
      pss_nil))))))
    (pss_one (ps_ret (pe_callB (call_sortedDI rfl) (by rfl) T.z_sorted (by decide +kernel) (pa_cons (pv 2) pa_nil))))))), ?_⟩
    obtain ⟨fv, bv, fs, bs, rfl, hf, hb, l60, lb, hfs, hbs, q⟩ := h
    obtain ⟨F, fx, rfl, hF, hFA⟩ := Dq.listV (show Dq K H fv (.list (fs.map fun l => .list (l.map PyData.int))) from hf)
    obtain ⟨B, bx, rfl, hB, hBA⟩ := Dq.listV hb
    obtain rfl := ints_of hBA
    refine ⟨_, rfl, B, rfl, ⟨_, hB⟩, fun d nd => ?_⟩
    refine dc_list (xs := bs.map V.int) (fun i H' => Same H H' ∧ ∃ kvs ks, H' d = some (.dK kvs) ∧ keysN kvs ks ∧ ks.Nodup ∧ (∀ x, x ∈ ks ↔ x ∈ bs.take i) ∧ ks.length ≤ i) ⟨same_new nd, [], [], upd_same, rfl, .nil, by simp, Nat.le_refl _⟩ (fun _ _ _ h => seqL h.1 hB) ?_ ?_
    · rintro i x H1 hx ⟨s1, kvs, ks, hd, hk, ndk, hm, lk⟩
      have hxb : (bs.map V.int)[i]? = some x := hx
      rw [List.getElem?_map] at hxb
      obtain ⟨y, hy, rfl⟩ := Option.map_eq_some_iff.1 hxb
      have eT : bs.take (i + 1) = bs.take i ++ [y] := by
        rw [List.take_add_one, hy]
        rfl
      have lk2 := keysN_len hk
      have hi : i < bs.length := (List.getElem?_eq_some_iff.mp hy).1
      refine ⟨rfl, _, rfl, kvs, .inl y, rfl, hd, Nat.lt_of_le_of_lt (show kvs.length ≤ 1000 by omega) (by decide), fun b o e => (upd_ne (ne_of_none e nd)).trans (s1 b o e), ?_⟩
      by_cases hin : y ∈ ks
      · refine ⟨_, ks, upd_same, keysN_same hk hin _, ndk, fun x => ?_, by omega⟩
        rw [eT, List.mem_append, List.mem_singleton, hm]
        exact ⟨.inl, fun h => h.elim id fun e => by rw [e]; exact (hm y).1 hin⟩
      · refine ⟨_, ks ++ [y], upd_same, keysN_put hk hin _, ?_, fun x => ?_, by rw [List.length_append]; exact Nat.succ_le_succ lk⟩
        · exact List.nodup_append.2 ⟨ndk, List.nodup_cons.2 ⟨List.not_mem_nil, .nil⟩, fun a ha b hb e => hin (by rw [← List.mem_singleton.1 hb, ← e]; exact ha)⟩
        · rw [eT, List.mem_append, List.mem_append, hm]
    rintro H1 ⟨s1, kvs, ks, hd, hk, ndk, hm, lk⟩
    rw [List.length_map, List.take_length] at hm
    refine ⟨_, rfl, B, _, rfl, .inl (seqL s1 hB), fun W nW => ?_⟩
    have sW := same_new (o := .lst (bs.map V.int)) nW
    have hd2 := sW _ _ hd
    have hW2 : upd H1 W (.lst (bs.map V.int)) W = some (.lst (bs.map V.int)) := upd_same
    have s2 := Same.trans s1 sW
    have nWH : H W = none := by
      cases e : H W with
      | none => rfl
      | some o =>
        rw [s1 _ _ e] at nW
        cases nW
    have dW : d ≠ W := ne_of_none hd nW
    revert hd2 hW2 s2
    generalize upd H1 W (.lst (bs.map V.int)) = H2
    intro hd2 hW2 s2
    clear sW s1 hd lk
    dsimp only [gName]
    refine while_by (fun σ H' => ∃ (kvs : List (Key × V)) (ks ws : List Int) (s4 s5 : Option V), σ = [some (.ref F), some (.ref B), some (.ref d), some (.ref W), s4, s5] ∧ Same H H' ∧ H' d = some (.dK kvs) ∧ H' W = some (.lst (ws.map V.int)) ∧ keysN kvs ks ∧ ks.Nodup ∧ (∀ x ∈ ks, (0 ≤ x ∧ x < fs.length) ∧ Reach fs bs x) ∧
        (∀ x ∈ bs, x ∈ ks) ∧ (∀ x ∈ ws, x ∈ ks) ∧ (∀ x ∈ ks, x ∉ ws → ∀ l, fs[x.toNat]? = some l → ∀ y ∈ l, y ∈ ks) ∧ ws.length ≤ 1000 + ks.length)
      (fun _ H' => match H' d, H' W with | some (.dK kvs), some (.lst us) => 2 * (60 - kvs.length) + us.length | _, _ => 0) ?_ ?_ ?_
    · exact ⟨kvs, ks, bs, _, _, rfl, s2, hd2, hW2, hk, ndk, fun x hx => ⟨hbs x ((hm x).1 hx), .start ((hm x).1 hx)⟩, fun x hx => (hm x).2 hx, fun x hx => (hm x).2 hx, fun x hx n => absurd ((hm x).1 hx) n, by omega⟩
    · rintro σ H3 ⟨kvs, ks, ws, s4, s5, rfl, s3, hd3, hW3, hk3, nd3, hR, hB3, hw3, hcl, lw⟩
      have l60' := few_below nd3 fun x hx => (hR x hx).1
      have lkk := keysN_len hk3
      have dW3 := dW
      rcases List.eq_nil_or_concat ws with rfl | ⟨ws', now, rfl⟩
      · refine ⟨_, rfl, false, .inl ⟨[], SqL.of hW3, rfl⟩, if_false rfl ?_⟩
        refine ⟨_, rfl, d, kvs, ks, rfl, .inl hd3, hk3, by omega, fun ys p perm pw np => ?_⟩
        have nd' : ys.Nodup := (perm.nodup_iff).2 nd3
        refine q _ p ys (Same.trans s3 (same_new np)) ?_ upd_same ?_ fun x => ?_
        · cases e : H p with
          | none => rfl
          | some o =>
            rw [s3 _ _ e] at np
            cases np
        · have := List.Pairwise.and pw nd'
          exact this.imp fun ⟨h1, h2⟩ => by
            have : _ ≠ _ := h2
            omega
        · rw [perm.mem_iff]
          refine ⟨fun h => (hR x h).2, fun h => ?_⟩
          induction h with
          | start h => exact hB3 _ h
          | step _ e1 e2 ih => exact hcl _ ih List.not_mem_nil _ e1 _ e2
      · rw [List.concat_eq_append] at hW3 hw3 hcl lw
        have hnow : now ∈ ks := hw3 now (List.mem_append_right _ List.mem_cons_self)
        obtain ⟨⟨n0, n1⟩, hRn⟩ := hR now hnow
        obtain ⟨m, rfl⟩ := Int.eq_ofNat_of_zero_le n0
        have hm1 : m < fs.length := by omega
        obtain ⟨l, hl⟩ : ∃ l, fs[m]? = some l := ⟨_, List.getElem?_eq_getElem hm1⟩
        have hne : ((ws' ++ [(m : Int)]).map V.int) = ws'.map V.int ++ [V.int (m : Int)] := by
          rw [List.map_append]
          rfl
        rw [hne] at hW3
        refine ⟨_, rfl, true, .inl ⟨_, SqL.of hW3, by rw [List.isEmpty_eq_false_iff.2 (by simp)]; rfl⟩, if_true rfl ?_⟩
        refine ⟨_, rfl, .inl ⟨rfl, _, SqL.of hW3⟩, W, _, .int (m : Int), rfl, rfl, hW3, ?_, ?_⟩
        · rw [List.length_append, List.length_cons, List.length_nil, Nat.zero_add, Nat.add_sub_cancel, List.getElem?_append_right (Nat.le_refl _), Nat.sub_self]
          rfl
        rw [List.dropLast_concat]
        have sP : ∀ {us : List V}, Same H (upd H3 W (.lst us)) := fun b o e => (upd_ne (fun z => by rw [z, nWH] at e; cases e)).trans (s3 b o e)
        have hd4 : upd H3 W (.lst (ws'.map V.int)) d = some (.dK kvs) := (upd_ne dW).trans hd3
        have hW4 : upd H3 W (.lst (ws'.map V.int)) W = some (.lst (ws'.map V.int)) := upd_same
        have s4 : Same H (upd H3 W (.lst (ws'.map V.int))) := sP
        have emu : (match H3 d, H3 W with | some (.dK kvs), some (.lst us) => 2 * (60 - kvs.length) + us.length | _, _ => 0) = 2 * (60 - ks.length) + (ws'.length + 1) := by
          rw [hd3, hW3]
          show 2 * (60 - kvs.length) + (ws'.map V.int ++ [V.int (m : Int)]).length = _
          rw [lkk, List.length_append, List.length_map]
          rfl
        dsimp only
        rw [emu]
        revert hd4 hW4 s4
        generalize upd H3 W (.lst (ws'.map V.int)) = H4
        intro hd4 hW4 s4
        obtain ⟨v, ev, hv⟩ := hFA.ix (i := m) (d := .list (l.map PyData.int)) (by rw [List.getElem?_map, hl]; rfl)
        obtain ⟨R, rx, rfl, hRl, hRA⟩ := Dq.listV hv
        obtain rfl := ints_of hRA
        have hlf := hfs l (List.mem_of_getElem? hl)
        refine ⟨_, rfl, _, rfl, F, fx, (m : Int), .ref R, rfl, rfl, seqL s4 hF, atI_nat ev, R, rfl, ⟨_, seqL s4 hRl⟩, ?_⟩
        have lw' : ws'.length + 1 ≤ 1000 + ks.length := by
          rw [List.length_append] at lw
          exact lw
        have hcl' : ∀ x ∈ ks, x ∉ ws' → x ≠ (m : Int) → ∀ l, fs[x.toNat]? = some l → ∀ y ∈ l, y ∈ ks := fun x hx n1 n2 => hcl x hx fun h => (List.mem_append.1 h).elim n1 fun h => n2 (List.mem_singleton.1 h)
        have hw' : ∀ x ∈ ws', x ∈ ks := fun x hx => hw3 x (List.mem_append_left _ hx)
        have hM : 2 * (60 - ks.length) + ws'.length < 2 * (60 - ks.length) + (ws'.length + 1) := by omega
        generalize 2 * (60 - ks.length) + (ws'.length + 1) = M at hM ⊢
        clear hcl hw3 lw hne emu hW3 sP
        refine for_list (xs := l.map V.int) (fun j σ H' => ∃ (kvs : List (Key × V)) (ks ws : List Int) (s5 : Option V), σ = [some (.ref F), some (.ref B), some (.ref d), some (.ref W), some (.int (m : Int)), s5] ∧ Same H H' ∧ H' d = some (.dK kvs) ∧ H' W = some (.lst (ws.map V.int)) ∧ keysN kvs ks ∧ ks.Nodup ∧ (∀ x ∈ ks, (0 ≤ x ∧ x < fs.length) ∧ Reach fs bs x) ∧
          (∀ x ∈ bs, x ∈ ks) ∧ (∀ x ∈ ws, x ∈ ks) ∧ (∀ x ∈ ks, x ∉ ws → x ≠ (m : Int) → ∀ l, fs[x.toNat]? = some l → ∀ y ∈ l, y ∈ ks) ∧ (∀ y ∈ l.take j, y ∈ ks) ∧ ws.length ≤ 1000 + ks.length ∧ 2 * (60 - ks.length) + ws.length < M)
          ⟨kvs, ks, ws', _, rfl, s4, hd4, hW4, hk3, nd3, hR, hB3, hw', hcl', (fun y hy => by rw [List.take_zero] at hy; exact absurd hy List.not_mem_nil), by omega, hM⟩ (fun j σ H' _ ⟨_, _, _, _, _, s, _⟩ => seqL s hRl) ?_ ?_
        · rintro j x σ H5 hx ⟨kvs, ks, ws, s5, rfl, s5', hd5, hW5, hk5, nd5, hR5, hB5, hw5, hcl5, htk, lw5, hM5⟩
          have hxl : (l.map V.int)[j]? = some x := hx
          rw [List.getElem?_map] at hxl
          obtain ⟨y, hy, rfl⟩ := Option.map_eq_some_iff.1 hxl
          have lk5 := few_below nd5 fun x hx => (hR5 x hx).1
          have lkk5 := keysN_len hk5
          have eT : l.take (j + 1) = l.take j ++ [y] := by
            rw [List.take_add_one, hy]
            rfl
          have hyl : y ∈ l := List.mem_of_getElem? hy
          refine ⟨_, rfl, _, rfl, d, valV kvs (.inl y), rfl, DGet.k (k := .inl y) hd5, _, rfl, ?_⟩
          rw [keysN_val hk5]
          by_cases hin : y ∈ ks
          · refine if_false (by rw [decide_eq_true hin]; rfl) ?_
            refine ⟨kvs, ks, ws, _, rfl, s5', hd5, hW5, hk5, nd5, hR5, hB5, hw5, hcl5, fun z hz => ?_, lw5, hM5⟩
            rw [eT] at hz
            rcases List.mem_append.1 hz with h | h
            · exact htk z h
            · rw [List.mem_singleton.1 h]
              exact hin
          · refine if_true (by rw [decide_eq_false hin]; rfl) ?_
            have hyb := hlf.2 y hyl
            refine ⟨_, rfl, _, rfl, d, _, rfl, DPut.k (k := .inl y) hd5 (Nat.lt_of_le_of_lt (show kvs.length ≤ 1000 by omega) (by decide)), ?_⟩
            have hW6 : upd H5 d (.dK (putK kvs (.inl y) (.bl true))) W = some (.lst (ws.map V.int)) := (upd_ne dW.symm).trans hW5
            refine ⟨_, rfl, .inl ⟨rfl, _, SqL.of hW6⟩, _, rfl, W, _, _, rfl, rfl, hW6, ?_, ?_⟩
            · rw [List.length_map]
              exact Nat.lt_of_le_of_lt (show ws.length ≤ 2000 by omega) (by decide)
            have hk6 := keysN_put hk5 hin (.bl true)
            have nd6 : (ks ++ [y]).Nodup := List.nodup_append.2 ⟨nd5, List.nodup_cons.2 ⟨List.not_mem_nil, .nil⟩, fun a ha b hb e => hin (by rw [← List.mem_singleton.1 hb, ← e]; exact ha)⟩
            have hR6 : ∀ x ∈ ks ++ [y], (0 ≤ x ∧ x < fs.length) ∧ Reach fs bs x := fun x hx => (List.mem_append.1 hx).elim (hR5 x) fun h => by
              rw [List.mem_singleton.1 h]
              exact ⟨hyb, .step (x := (m : Int)) hRn hl hyl⟩
            have l6 := few_below nd6 fun x hx => (hR6 x hx).1
            rw [List.length_append, List.length_singleton] at l6
            refine ⟨_, ks ++ [y], ws ++ [y], _, rfl, ?_, ?_, ?_, hk6, nd6, hR6, fun x hx => List.mem_append_left _ (hB5 x hx), ?_, ?_, ?_, ?_, ?_⟩
            · intro b o e
              refine (upd_ne (fun z => by rw [z, nWH] at e; cases e)).trans ((upd_ne (fun z => by rw [z, nd] at e; cases e)).trans (s5' b o e))
            · exact (upd_ne dW).trans upd_same
            · rw [upd_same, List.map_append]
              rfl
            · intro x hx
              rcases List.mem_append.1 hx with h | h
              · exact List.mem_append_left _ (hw5 x h)
              · exact List.mem_append_right _ h
            · intro x hx n1 n2 l' e1 y' e2
              have hx' : x ∈ ks := (List.mem_append.1 hx).elim id fun h => absurd (List.mem_append_right _ h) n1
              exact List.mem_append_left _ (hcl5 x hx' (fun h => n1 (List.mem_append_left _ h)) n2 l' e1 y' e2)
            · intro z hz
              rw [eT] at hz
              rcases List.mem_append.1 hz with h | h
              · exact List.mem_append_left _ (htk z h)
              · exact List.mem_append_right _ h
            · rw [List.length_append, List.length_append]
              show ws.length + 1 ≤ 1000 + (ks.length + 1)
              omega
            · rw [List.length_append, List.length_append]
              show 2 * (60 - (ks.length + 1)) + (ws.length + 1) < M
              omega
        · rintro σ H5 ⟨kvs, ks, ws, s5, rfl, s5', hd5, hW5, hk5, nd5, hR5, hB5, hw5, hcl5, htk, lw5, hM5⟩
          rw [List.length_map, List.take_length] at htk
          refine ⟨⟨kvs, ks, ws, _, _, rfl, s5', hd5, hW5, hk5, nd5, hR5, hB5, hw5, fun x hx n l' e1 y e2 => ?_, lw5⟩, ?_⟩
          · by_cases e : x = (m : Int)
            · subst e
              have e1 : fs[m]? = some l' := e1
              rw [hl] at e1
              cases e1
              exact htk y e2
            · exact hcl5 x hx n e l' e1 y e2
          · rw [hd5, hW5]
            show 2 * (60 - kvs.length) + (ws.map V.int).length < M
            rw [keysN_len hk5, List.length_map]
            exact hM5
    · rintro σ H Q Q' hQ ⟨v, hv, k, ht, q⟩
      exact ⟨v, hv, k, ht, hQ _ _ q⟩
end
end K12

namespace K12
open PySem PySem.Spec PyProof.Rows L2 G Lk
section
variable {P : Program} {w : World} {K : PySem.W.Frag} {mg : Str → Option Value} {base : Heap}
def sp_reached_of (K : PySem.W.Frag) : Sp := fun vs H Q _ => ∃ (v : V) (ss : List PyData), vs = [v] ∧ Dq K H v (.tuple ss) ∧ 1 ≤ ss.length ∧ ss.length ≤ 60 ∧ (∀ s ∈ ss, FormS s ∧ ∀ y ∈ goalsS s, 0 ≤ y ∧ y < ss.length) ∧
  ∀ (H' : Hp) (r : Addr) (ys : List Int), Same H H' → H r = none → H' r = some (.lst (ys.map V.int)) → ys.Pairwise (· < ·) → (∀ x, x ∈ ys ↔ Reach (ss.map goalsS) [0] x) → Q (.ref r) H'
/-- def reached_of(states): -/
theorem ok_reached_of (T : Tx K mg) : FnOk P w K mg base CX0 2 T.a_reached_of T.fd_reached_of ["states"] (sp_reached_of K) := by
  refine T.F_reached_of.ok sc_reached_of (fun vs H Q E h => ?_) (fun cdv A outer s H vs Q E hr h => ?_)
  · obtain ⟨_, _, rfl, _⟩ := h
    rfl
  · refine ⟨_, (pss_one (ps_ret (pe_call (ok_led_to T) (hr.mono (by decide)) (by rfl) T.g__led_to T.F__led_to.kp T.b__led_to .nil pass0 (pa_cons (pe_call (ok_goals T) (hr.mono (by decide)) (by rfl) T.g__goals T.F__goals.kp T.b__goals .nil pass0 (pa_cons (pv 0) pa_nil)) (pa_cons (pe_lst (pa_cons pe_int pa_nil)) pa_nil))))), ?_⟩
    obtain ⟨v, ss, rfl, hv, l1, l60, hF, q⟩ := h
    refine ⟨_, rfl, v, ss, rfl, hv, by omega, fun s hs => (hF s hs).1, fun H1 w s1 hw => ?_⟩
    refine ⟨(by show 1 ≤ sizeLine; decide), fun L nL => ?_⟩
    have s2 := same_new (o := .lst [.int 0]) nL
    have s12 := Same.trans s1 s2
    have er : rowsD (ss.map goalsS) = .list (ss.map goalsD) := by
      unfold rowsD
      rw [List.map_map]
      rfl
    refine ⟨w, .ref L, ss.map goalsS, [0], rfl, by rw [er]; exact hw.mono s2, .lst (SqL.of upd_same) (dq_ints [0]), by rw [List.length_map]; exact l60, by decide, fun l hl => ?_, fun y hy => ?_, fun H2 r ys s3 nr hr hp hm => ?_⟩
    · obtain ⟨s, hs, rfl⟩ := List.mem_map.1 hl
      obtain ⟨hf, hg⟩ := hF s hs
      refine ⟨?_, fun y hy => by rw [List.length_map]; exact hg y hy⟩
      obtain ⟨ms, l, rfl, lms, _⟩ := hf
      exact Nat.le_trans (List.length_filterMap_le _ _) lms
    · rw [List.mem_singleton.1 hy, List.length_map]
      omega
    · refine q H2 r ys (Same.trans s12 s3) ?_ hr hp hm
      cases e : H r with
      | none => rfl
      | some o =>
        rw [s12 _ _ e] at nr
        cases nr
end
end K12

namespace K12
open PySem PySem.Spec PyProof.Rows L2 G Lk
section
variable {P : Program} {w : World} {K : PySem.W.Frag} {mg : Str → Option Value} {base : Heap}
noncomputable def goalsP (z : Str) (ss : List PyData) : List (List Int) := ((List.range ss.length).map (plainS z ss)).map goalsS
/-- a state at which each text may go on, and end -/
def PlainOk (z : Str) (ss : List PyData) (x : Int) : Prop := lastD ss x.toNat ≠ .none ∧ ∀ c ∈ z.cps.toList, valOf z ss (x.toNat, c) ≠ none
noncomputable def movesP (z : Str) (ss : List PyData) (s : Nat) : List PyData := z.cps.toList.map fun c => plnM (valOf z ss (s, c))
theorem plnM_form (o : Option Wt) : plnM o = .none ∨ ∃ (x y : Str) (g : Int), plnM o = .tuple [.str x, .str y, .int g] := by
  cases o with
  | none => exact .inl rfl
  | some w => exact .inr ⟨_, _, _, rfl⟩
theorem plainS_form {z : Str} {ss : List PyData} (z4 : z.length ≤ 4) (s : Nat) : FormS (plainS z ss s) := by
  refine ⟨_, _, rfl, ?_, fun m hm => ?_⟩
  · rw [List.length_map]
    have : z.cps.toList.length = z.length := by simp [Str.length]
    omega
  · obtain ⟨c, _, rfl⟩ := List.mem_map.1 hm
    exact plnM_form _
theorem plainS_goals {z : Str} {ss : List PyData} (ok : StatesOk z ss) (s : Nat) : ∀ y ∈ goalsS (plainS z ss s), 0 ≤ y ∧ y < (ss.length : Int) := by
  intro y hy
  have hy : y ∈ (z.cps.toList.map fun c => plnM (valOf z ss (s, c))).filterMap goalM := hy
  obtain ⟨m, hm, hg⟩ := List.mem_filterMap.1 hy
  obtain ⟨c, _, rfl⟩ := List.mem_map.1 hm
  cases e : valOf z ss (s, c) with
  | none =>
    rw [e] at hg
    cases hg
  | some w =>
    rw [e] at hg
    cases hg
    have := valOf_state ok e
    omega
theorem plnM_eqb {z : Str} (zc : ∀ c ∈ z.cps.toList, c < 1000) {o : Option Wt} (h : ∀ w, o = some w → ∀ c ∈ w.1, c ∈ z.cps.toList) : Eqb 1 (plnM o) := by
  cases o with
  | none => exact .none
  | some w =>
    refine .tup (n := 0) fun d hd => ?_
    simp only [List.mem_cons, List.not_mem_nil, or_false] at hd
    rcases hd with rfl | rfl | rfl
    · exact .str fun c hc => zc c (h w rfl c (by rw [tx_codes] at hc; exact hc))
    · exact .str (by decide +kernel)
    · exact .int _
theorem none_any (z : Str) (ss : List PyData) (s : Nat) : ((movesP z ss s).any fun m => PyData.eqv m .none) = true ↔ ∃ c ∈ z.cps.toList, valOf z ss (s, c) = none := by
  unfold movesP
  rw [List.any_map, List.any_eq_true]
  refine exists_congr fun c => and_congr_right fun _ => ?_
  show PyData.eqv (plnM (valOf z ss (s, c))) .none = true ↔ _
  cases valOf z ss (s, c) with
  | none => exact ⟨fun _ => rfl, fun _ => by simp [plnM, PyData.eqv]⟩
  | some w => exact ⟨fun h => (by simp [plnM, PyData.eqv] at h), fun h => nomatch h⟩
theorem val_letters {z : Str} {ss : List PyData} (ok : StatesOk z ss) : ∀ (n : Nat) (c : Lk.Cl) (w : Wt), ev z ss n c = some w → ∀ x ∈ w.1, x ∈ z.cps.toList
  | 0, c, w, h => by cases h
  | n + 1, c, w, h => by
    cases em : mv z ss c with
    | none =>
      rw [ev_stop em] at h
      cases h
    | some m =>
      rw [ev_step em] at h
      obtain ⟨_, xw, yw, _, ex, _, _, _, ax, _, _⟩ := mv_ok ok em
      have key : ∀ (l : List Nat) (a b : Wt), rd (ev z ss n) l a = some b → (∀ x ∈ a.1, x ∈ z.cps.toList) → ∀ x ∈ b.1, x ∈ z.cps.toList := by
        intro l
        induction l with
        | nil =>
          intro a b h ha
          cases h
          exact ha
        | cons d l ih =>
          intro a b h ha
          obtain ⟨v, e1, e2⟩ := rd_cons h
          refine ih _ _ e2 fun x hx => ?_
          rcases List.mem_append.1 hx with hx | hx
          · exact ha x hx
          · exact val_letters ok n _ v e1 x hx
      refine key _ _ _ h fun x hx => ?_
      have hx : x ∈ m.1 := hx
      rw [ex] at hx
      exact allIn_mem ax x hx
theorem reach_in {z : Str} {ss : List PyData} (ok : StatesOk z ss) {x : Int} (h : Reach (goalsP z ss) [0] x) : 0 ≤ x ∧ x < (ss.length : Int) := by
  cases h with
  | start h =>
    rw [List.mem_singleton.1 h]
    have := ok.2.1
    omega
  | step _ e1 e2 =>
    obtain ⟨s, hs, rfl⟩ := List.mem_map.1 (List.mem_of_getElem? e1)
    obtain ⟨i, _, rfl⟩ := List.mem_map.1 hs
    exact plainS_goals ok i _ e2
theorem plainS_flat {z : Str} {ss : List PyData} (ok : StatesOk z ss) {i : Nat} (hi : i < ss.length) : hasList (plainS z ss i) = false := by
  obtain ⟨ms, lst, e1, e2, e3⟩ := last_in ok hi
  have e5 : ∀ l : List Nat, hasListAll (l.map fun c => plnM (valOf z ss (i, c))) = false := fun l => hasListAll_of fun d hd => by
    obtain ⟨c, _, rfl⟩ := List.mem_map.1 hd
    cases valOf z ss (i, c) with
    | none => rfl
    | some w => simp [plnM, hasList, hasListAll]
  have e6 : hasList (lastD ss i) = false := by
    rw [e2]
    rcases e3 with rfl | ⟨w, rfl, _, _⟩ <;> rfl
  unfold plainS
  simp [hasList, hasListAll, e5, e6]
open Classical in
noncomputable def okB (z : Str) (ss : List PyData) (x : Int) : Bool := !decide (lastD ss x.toNat = .none) && !((movesP z ss x.toNat).any fun m => PyData.eqv m .none)
theorem okB_none {z : Str} {ss : List PyData} {x : Int} (h : lastD ss x.toNat = .none) : okB z ss x = false := by
  unfold okB
  simp [h]
theorem okB_some {z : Str} {ss : List PyData} {x : Int} (h : lastD ss x.toNat ≠ .none) : okB z ss x = !((movesP z ss x.toNat).any fun m => PyData.eqv m .none) := by
  unfold okB
  simp [h]
theorem okB_iff (z : Str) (ss : List PyData) (x : Int) : okB z ss x = true ↔ PlainOk z ss x := by
  unfold okB PlainOk
  rw [Bool.and_eq_true, Bool.not_eq_true', Bool.not_eq_true', decide_eq_false_iff_not]
  refine and_congr_right fun _ => ?_
  rw [Bool.eq_false_iff, Ne, none_any]
  exact ⟨fun h c hc e => h ⟨c, hc, e⟩, fun h ⟨c, hc, e⟩ => h c hc e⟩
def sp_ends_always (K : PySem.W.Frag) (mg : Str → Option Value) (T : Tx K mg) : Sp := fun vs H Q X => ∃ (v : V) (d : PyData), vs = [v] ∧ Dq K H v d ∧ Light d ∧ (expB d = false → ∀ H', Same H H' → X (.ref T.a_NoExpander) none H') ∧
  ∀ z f ss, d = .tuple [.str z, .str f, .tuple ss] → expB d = true → ((∃ c w, Val z ss c w ∧ 2000 < w.1.length) → tooManyE T.a_TooMany X H 2000) ∧
    ((∀ c w, Val z ss c w → w.1.length ≤ 2000) → ∀ (H' : Hp) (b : Bool), Same H H' → (b = true ↔ ∀ x, Reach (goalsP z ss) [0] x → PlainOk z ss x) → Q (.bl b) H')
/-- def ends_always(expander): -/
theorem ok_ends_always (T : Tx K mg) : FnOk P w K mg base (L2.CX P w) 8 T.a_ends_always T.fd_ends_always ["expander"] (sp_ends_always K mg T) := by
  refine T.F_ends_always.okX sc_ends_always (fun vs H Q E h => ?_) (fun cdv A outer s H vs Q E hr h => ?_)
  · obtain ⟨_, _, rfl, _⟩ := h
    rfl
  · refine ⟨_, (pss_cons (ps_expr (pe_call (ok_need_expander T) (hr.mono (by decide)) (by rfl) T.g_need_expander T.F_need_expander.kp T.b_need_expander .nil (passes_call (takes_of rfl rfl rfl rfl) (fun _ _ _ _ h => h)) (pa_cons (pv 0) pa_nil)))
    (pss_cons (ps_set (i := 1) sc_ends_always.nd rfl (by first | exact Or.inl rfl | exact Or.inr rfl) (pe_ix ix_tup (pe_call (ok_plain_of T) (hr.mono (by decide)) (by rfl) T.g_plain_of T.F_plain_of.kp T.b_plain_of .nil (passes_call (takes_of rfl rfl rfl rfl) (fun _ _ _ _ h => h)) (pa_cons (pv 0) pa_nil)) pe_int (fun _ _ => rfl)))
    (pss_cons (ps_setLc (i := 2) (own := [("state", 3)]) (g := gName 3) (by rfl) sc_ends_always.nd rfl rfl (sw_true rfl rfl rfl (by decide +kernel)) (pi_list (pe_call (ok_reached_of T) (hr.mono (by decide)) (by rfl) T.g_reached_of T.F_reached_of.kp T.b_reached_of .nil pass0 (pa_cons (pv 1) pa_nil))) (blkOk_by (own := [("state", 3)]) (N := N_ends_always) (sc := defScope s_ends_always) (by decide +kernel)) (fun _ _ _ _ _ => pg_name (i := 3) sc_ends_always.nd rfl (by first | exact Or.inl rfl | exact Or.inr rfl)) (fun _ _ _ _ _ => pts_nil) (fun _ _ _ _ _ => (pe_ix (ix_tup : IxR _ (rIxT K)) (pv 1) (pv 3) (fun _ _ => rfl))))
    (pss_one (ps_ret (pe_callB (cr_all rfl) (by rfl) T.z_all (by decide +kernel) (pa_cons (pe_lc (own := [("moves", 4), ("last", 5)]) (g := gTup K 2 (gCons (gName 4) (gCons (gName 5) gNil))) (by rfl) sc_ends_always.nd (pi_list (pv 2)) (blkOk_by (own := [("moves", 4), ("last", 5)]) (N := N_ends_always) (sc := defScope s_ends_always) (by decide +kernel)) (fun _ _ _ _ _ => (pg_tup rfl (pgs_cons (pg_name (i := 4) sc_ends_always.nd rfl (by first | exact Or.inl rfl | exact Or.inr rfl)) (pgs_cons (pg_name (i := 5) sc_ends_always.nd rfl (by first | exact Or.inl rfl | exact Or.inr rfl)) pgs_nil)))) (fun _ _ _ _ _ => pts_nil) (fun _ _ _ _ _ => (pe_and (pe_cmpR op_notN (pv 5) pe_non (nomark _)) (pe_one (pe_cmpR (op_notInTu (units65 hr) : OpR _ _ (rNotInTu K)) pe_non (pv 4) (by rfl)))))) pa_nil))))))), ?_⟩
    obtain ⟨v, d, rfl, hv, hz, kE, k⟩ := h
    refine ⟨_, rfl, v, d, rfl, hv, hz, kE, fun eb H1 s1 => ?_⟩
    obtain ⟨z, f, ss, rfl, hzs, ⟨hf, lf⟩, l1, l60, hss⟩ := expB_parts eb
    have ok : StatesOk z ss := ⟨hzs, l1, l60, hss⟩
    obtain ⟨z1, z4, zc⟩ := ok.1.small
    obtain ⟨k1, k2⟩ := k z f ss rfl eb
    refine ⟨_, rfl, v, z, f, ss, rfl, hv.mono s1, ok, fun hb => (k1 hb).mono s1, fun hs H2 v' s2 hv' => ?_⟩
    have q := k2 hs
    obtain ⟨a, us, rfl, ha, hq⟩ := (show Dq K H2 v' (.tuple [.str z, .str f, .tuple ((List.range ss.length).map (plainS z ss))]) from hv').items
    obtain ⟨w1, us1, rfl, _, hq⟩ := hq.one
    obtain ⟨w2, us2, rfl, _, hq⟩ := hq.one
    obtain ⟨st, us3, rfl, hst, hq⟩ := hq.one
    obtain rfl := hq.none
    have s12 := Same.trans s1 s2
    refine ⟨a, _, 2, _, rfl, rfl, ha, rfl, ?_⟩
    refine ⟨_, rfl, st, (List.range ss.length).map (plainS z ss), rfl, hst, by rw [List.length_map, List.length_range]; exact l1, by rw [List.length_map, List.length_range]; exact l60, fun s hs => ?_, fun H3 r ys s3 nr hr hp hm => ?_⟩
    · obtain ⟨i, _, rfl⟩ := List.mem_map.1 hs
      rw [List.length_map, List.length_range]
      exact ⟨plainS_form z4 i, plainS_goals ok i⟩
    obtain ⟨S, sx, rfl, hS, hSA⟩ := hst.items
    have hget : ∀ m : Nat, m < ss.length → ∃ sv, sx[m]? = some sv ∧ Dq K H2 sv (plainS z ss m) := fun m hm => hSA.ix (by
      rw [List.getElem?_map, List.getElem?_range hm]
      rfl)
    have lys : ys.length ≤ 60 := by
      have nd : ys.Nodup := hp.imp fun h => by
        intro e
        omega
      exact Nat.le_trans (few_below nd fun x hx => reach_in ok ((hm x).1 hx)) l60
    refine ⟨r, rfl, ⟨_, SqL.of hr⟩, fun D nD => ?_⟩
    refine lc_list (xs := ys.map V.int) (fun j H' => Same H3 H' ∧ ∃ us, H' D = some (.lst us) ∧ us.length = j ∧ DqAll K (sans H' D) us ((ys.take j).map fun x => plainS z ss x.toNat)) ⟨same_new nD, [], upd_same, rfl, .nil⟩ (fun _ _ _ h => SqL.of (h.1 _ _ hr)) ?_ ?_
    · rintro j x H4 hx ⟨s4, us, hD, lus, hus⟩
      have hj : j < ys.length := by
        have h1 := (List.getElem?_eq_some_iff.mp hx).1
        rw [List.length_map] at h1
        exact h1
      rw [List.getElem?_map] at hx
      obtain ⟨y, hy, rfl⟩ := Option.map_eq_some_iff.1 hx
      obtain ⟨y0, y1⟩ := reach_in ok ((hm y).1 (List.mem_of_getElem? hy))
      obtain ⟨m, rfl⟩ := Int.eq_ofNat_of_zero_le y0
      have hmn : m < ss.length := by omega
      obtain ⟨sv, e1, hsv⟩ := hget m hmn
      have s34 := Same.trans s3 s4
      have sm : Sm D H4 (upd H4 D (.lst (us ++ [sv]))) := Sm.pot
      refine ⟨rfl, _, rfl, _, rfl, S, sx, (m : Int), sv, rfl, rfl, seqT s34 hS, atI_nat e1, us, hD, ?_, fun b o e => (upd_ne (ne_of_none e nD)).trans (s4 b o e), us ++ [sv], upd_same, by rw [List.length_append, lus]; rfl, ?_⟩
      · rw [lus]
        exact Nat.lt_of_lt_of_le (show j < 300 by omega) (by decide)
      · rw [List.take_add_one, hy, List.map_append]
        exact (hus.mono sm).append (.cons (((hsv.mono s34).out hD (plainS_flat ok hmn)).mono sm) .nil)
    rintro H4 ⟨s4, us, hD, lus, hus⟩
    rw [List.length_map] at lus hus
    rw [List.take_length] at hus
    have hus : DqAll K H4 us (ys.map fun x => plainS z ss x.toNat) := hus.mono sans_same
    refine ⟨_, rfl, D, rfl, ⟨us, SqL.of hD⟩, fun D2 nD2 => ?_⟩
    refine lc_list (xs := us) (fun j H' => Same H4 H' ∧ H' D2 = some (.lst (((ys.take j).map (okB z ss)).map V.bl))) ⟨same_new nD2, by rw [List.take_zero]; exact upd_same⟩ (fun _ _ _ h => SqL.of (h.1 _ _ hD)) ?_ ?_
    · rintro j x H5 hx ⟨s5, hD2⟩
      have hj : j < us.length := (List.getElem?_eq_some_iff.mp hx).1
      obtain ⟨y, hy⟩ : ∃ y, ys[j]? = some y := ⟨_, List.getElem?_eq_getElem (by omega)⟩
      obtain ⟨x', ex', hxd⟩ := hus.ix (i := j) (d := plainS z ss y.toNat) (by rw [List.getElem?_map, hy]; rfl)
      rw [hx] at ex'
      cases ex'
      obtain ⟨p, vs1, rfl, hp', hq1⟩ := (show Dq K H5 x (.tuple [.tuple (movesP z ss y.toNat), lastD ss y.toNat]) from hxd.mono s5).items
      obtain ⟨mv', vs2, rfl, hM, hq1⟩ := hq1.one
      obtain ⟨lv, vs3, rfl, hlv, hq1⟩ := hq1.one
      obtain rfl := hq1.none
      obtain ⟨y0, y1⟩ := reach_in ok ((hm y).1 (List.mem_of_getElem? hy))
      have hyn : y.toNat < ss.length := by omega
      obtain ⟨ms, lst, e1, e2, e3⟩ := last_in ok hyn
      have fin : ∀ (H6 : Hp), Same H5 H6 → ∃ acc, H6 D2 = some (.lst acc) ∧ acc.length < sizeLine ∧ Same H4 (upd H6 D2 (.lst (acc ++ [.bl (okB z ss y)]))) ∧ upd H6 D2 (.lst (acc ++ [.bl (okB z ss y)])) D2 = some (.lst (((ys.take (j + 1)).map (okB z ss)).map V.bl)) := fun H6 s6 => by
        refine ⟨_, s6 _ _ hD2, ?_, fun b o e => (upd_ne (ne_of_none e nD2)).trans (s6 _ _ (s5 b o e)), ?_⟩
        · rw [List.length_map, List.length_map, List.length_take]
          exact Nat.lt_of_lt_of_le (show min j ys.length < 300 by omega) (by decide)
        · rw [upd_same, List.take_add_one, hy, List.map_append, List.map_append]
          rfl
      refine ⟨p, _, rfl, hp', rfl, _, _, rfl, _, _, rfl, rfl, ?_⟩
      refine ⟨rfl, _, rfl, rfl, _, rfl, ?_⟩
      rcases e3 with rfl | ⟨w, rfl, _, _⟩
      · rw [e2] at hlv
        obtain rfl := hlv.noneV
        refine iteF ?_
        have eo : okB z ss y = false := okB_none e2
        have h := fin H5 (Same.refl _)
        rw [eo] at h
        exact h
      · rw [e2] at hlv
        obtain rfl := hlv.strV
        have eqM : Eqb 2 (.tuple (movesP z ss y.toNat)) := .tup (n := 1) fun d hd => by
          obtain ⟨c, _, rfl⟩ := List.mem_map.1 hd
          exact plnM_eqb zc fun w e => by
            obtain ⟨n, hn⟩ := valOf_some.1 e
            exact val_letters ok n _ w hn
        refine iteT ⟨_, rfl, .none, movesP z ss y.toNat, .non, hM.dp eqM.lay, (Eqb.none (n := 0)).shaped (by decide), eqM.shaped (by decide), ?_⟩
        have eo : okB z ss y = !((movesP z ss y.toNat).any fun m => PyData.eqv m .none) := okB_some (fun h => by rw [e2] at h; cases h)
        have h := fin H5 (Same.refl _)
        rw [eo] at h
        exact h
    · rintro H5 ⟨s5, hD2⟩
      rw [lus, List.take_length] at hD2
      refine ⟨D2, ys.map (okB z ss), rfl, SqL.of hD2, q H5 _ (Same.trans s12 (Same.trans s3 (Same.trans s4 s5))) ?_⟩
      rw [List.all_map, List.all_eq_true]
      exact ⟨fun h x hx => (okB_iff z ss x).1 (h x ((hm x).2 hx)), fun h x hx => (okB_iff z ss x).2 (h x ((hm x).1 hx))⟩
end
end K12

namespace K12
open PySem PySem.Spec PyProof.Rows L2 G Lk
section
variable {P : Program} {w : World} {K : PySem.W.Frag} {mg : Str → Option Value} {base : Heap}
/-- a move that puts nothing back, or none -/
def plainM : PyData → Bool
  | .none => true
  | .tuple [_, .str b, _] => decide (V.str b = V.str "")
  | _ => false
def movesOf : PyData → List PyData
  | .tuple [.tuple ms, _] => ms
  | _ => []
def plainB : PyData → Bool
  | .tuple [_, _, .tuple ss] => (ss.map fun s => (movesOf s).map plainM).flatten.all id
  | _ => false
def sp_is_plain (K : PySem.W.Frag) (mg : Str → Option Value) (T : Tx K mg) : Sp := fun vs H Q E => ∃ (v : V) (d : PyData), vs = [v] ∧ Dq K H v d ∧ Light d ∧
  (expB d = false → ∀ H', Same H H' → E (.ref T.a_NoExpander) none H') ∧ (expB d = true → ∀ H', Same H H' → Q (.bl (plainB d)) H')
/-- def is_plain(expander): -/
theorem ok_is_plain (T : Tx K mg) : FnOk P w K mg base (L2.CX P w) 8 T.a_is_plain T.fd_is_plain ["expander"] (sp_is_plain K mg T) := by
  refine T.F_is_plain.okX sc_is_plain (fun vs H Q E h => ?_) (fun cdv A outer s H vs Q E hr h => ?_)
  · obtain ⟨_, _, rfl, _⟩ := h
    rfl
  · refine ⟨_, (pss_cons (ps_expr (pe_call (ok_need_expander T) (hr.mono (by decide)) (by rfl) T.g_need_expander T.F_need_expander.kp T.b_need_expander .nil (passes_call (takes_of rfl rfl rfl rfl) (fun _ _ _ _ h => h)) (pa_cons (pv 0) pa_nil)))
    (pss_cons (ps_set (i := 1) sc_is_plain.nd rfl (by first | exact Or.inl rfl | exact Or.inr rfl) (pe_ix ix_tup (pv 0) pe_int (fun _ _ => rfl)))
    (pss_one (ps_ret (pe_callB (cr_all rfl) (by rfl) T.z_all (by decide +kernel) (pa_cons (pe_lc2 (own := [("state", 2), ("move", 3)]) (vs1 := [3]) (g := gName 2) (g1 := gName 3) (by rfl) sc_is_plain.nd (pi_tup (pv 1)) (blkOk_by (own := [("state", 2), ("move", 3)]) (N := N_is_plain) (sc := defScope s_is_plain) (by decide +kernel)) (by decide) (fun _ _ _ _ _ => pg_name (i := 2) sc_is_plain.nd rfl (by first | exact Or.inl rfl | exact Or.inr rfl)) (fun _ _ _ _ _ => pts_nil) (fun _ _ _ _ _ => ((pi_tup (pe_ix (ix_tup : IxR _ (rIxT K)) (pv 2) pe_int (fun _ _ => rfl))) : PI _ _ _ (iTup K _))) (fun _ _ _ _ _ => pg_name (i := 3) sc_is_plain.nd rfl (by first | exact Or.inl rfl | exact Or.inr rfl)) (fun _ _ _ _ _ => pts_nil) (fun _ _ _ _ _ => (pe_or (pe_cmpR op_isN (pv 3) pe_non (nomark _)) (pe_one (pe_cmpR op_eq (pe_ix (ix_tup : IxR _ (rIxT K)) (pv 3) pe_int (fun _ _ => rfl)) pe_str (nomark _))))) ) pa_nil)))))), ?_⟩
    obtain ⟨v, d, rfl, hd, hz, kE, k⟩ := h
    refine ⟨_, rfl, v, d, rfl, hd, hz, kE, fun eb H1 s1 => ?_⟩
    obtain ⟨z, f, ss, rfl, hzs, _, l1, l60, hss⟩ := expB_parts eb
    obtain ⟨z1, z4, zc⟩ := hzs.small
    obtain ⟨a, t, xs, rfl, ht, hts, hA⟩ := expV_of (hd.mono s1)
    have hl := hA.length
    refine ⟨_, rfl, a, _, 2, _, rfl, rfl, ht, rfl, ?_⟩
    refine ⟨_, rfl, t, rfl, ⟨_, hts⟩, fun D nD => ?_⟩
    let bs : List PyData → List Bool := fun l => (l.map fun s => (movesOf s).map plainM).flatten
    refine lc2_out (xs := xs) (fun i H' => Same H1 H' ∧ H' D = some (.lst ((bs (ss.take i)).map V.bl)) ∧ (bs (ss.take i)).length ≤ 4 * i) ⟨same_new nD, upd_same, Nat.zero_le _⟩ (fun _ _ _ h => seqT h.1 hts) ?_ ?_
    · rintro i x H2 hx ⟨s2, hD, hlen⟩
      obtain ⟨s, _, hs, et, hq⟩ := dqAll_get' hA hx
      have hi : i < xs.length := (List.getElem?_eq_some_iff.mp hx).1
      obtain ⟨ms, l, rfl, lms, hll, hms⟩ := stateB_parts (hss s hs)
      obtain ⟨p, us, rfl, hp, hq1⟩ := hq.items
      obtain ⟨mv, us', rfl, hM, hq1⟩ := hq1.one
      obtain ⟨lv, us'', rfl, _, hq1⟩ := hq1.one
      obtain rfl := hq1.none
      obtain ⟨m0, mss, rfl, hm0, hmsA⟩ := hM.items
      have eb1 : bs (ss.take (i + 1)) = bs (ss.take i) ++ ms.map plainM := by
        show ((ss.take (i + 1)).map _).flatten = _
        rw [et, List.map_append, List.flatten_append]
        show _ ++ (List.map plainM ms ++ []) = _
        rw [List.append_nil]
      refine ⟨rfl, _, rfl, p, _, 0, _, rfl, rfl, seqT s2 hp, rfl, m0, rfl, ⟨_, seqT s2 hm0⟩, ?_⟩
      refine lc2_in (ys := mss) (fun j H' => Same H1 H' ∧ H' D = some (.lst ((bs (ss.take i) ++ (ms.take j).map plainM).map V.bl))) ⟨s2, by rw [List.take_zero, List.map_nil, List.append_nil]; exact hD⟩ (fun _ _ _ h => seqT h.1 hm0) ?_ ?_
      · rintro j y H3 hy ⟨s3, hD3⟩
        obtain ⟨m, _, hm, em, hqm⟩ := dqAll_get' hmsA hy
        have hj : j < mss.length := (List.getElem?_eq_some_iff.mp hy).1
        have hml := hmsA.length
        have hqm := hqm.mono s3
        have fin : ∀ b, b = plainM m → ∃ acc, H3 D = some (.lst acc) ∧ acc.length < sizeLine ∧ Same H1 (upd H3 D (.lst (acc ++ [V.bl b]))) ∧ upd H3 D (.lst (acc ++ [V.bl b])) D = some (.lst ((bs (ss.take i) ++ (ms.take (j + 1)).map plainM).map V.bl)) := by
          rintro b rfl
          refine ⟨_, hD3, ?_, fun q o eo => (upd_ne (ne_of_none eo nD)).trans (s3 _ _ eo), ?_⟩
          · rw [List.length_map, List.length_append, List.length_map, List.length_take]
            refine Nat.lt_of_lt_of_le (show _ < 1000 from ?_) (by decide)
            have := Nat.min_le_right j ms.length
            omega
          · rw [upd_same, em, List.map_append, List.map_append, List.map_append, List.map_append, List.append_assoc]
            rfl
        refine ⟨rfl, y, rfl, rfl, _, rfl, ?_⟩
        rcases moveB_parts (hms m hm) with rfl | ⟨a1, b1, g1, rfl, _, _, _⟩
        · obtain rfl := hqm.noneV
          exact iteT (fin _ rfl)
        · obtain ⟨pm, us2, rfl, hpm, hq2⟩ := hqm.items
          obtain ⟨x1, us3, rfl, _, hq2⟩ := hq2.one
          obtain ⟨x2, us4, rfl, hx2, hq2⟩ := hq2.one
          obtain ⟨x3, us5, rfl, _, hq2⟩ := hq2.one
          obtain rfl := hq2.none
          obtain rfl := hx2.strV
          refine iteF ⟨_, rfl, pm, _, 1, _, rfl, rfl, hpm, rfl, rfl, ?_⟩
          exact fin _ rfl
      · rintro H3 ⟨s3, hD3⟩
        refine ⟨s3, ?_, ?_⟩
        · rw [eb1, hD3, List.take_of_length_le (Nat.le_of_eq hmsA.length.symm)]
        · rw [eb1, List.length_append, List.length_map]
          omega
    · rintro H2 ⟨s2, hD, hlen⟩
      rw [List.take_of_length_le (Nat.le_of_eq hl.symm)] at hD
      refine ⟨D, _, rfl, SqL.of hD, ?_⟩
      exact k eb H2 (Same.trans s1 s2)
end
end K12

namespace K12
open PySem PySem.Spec PyProof.Rows L2 G Lk
section
variable {P : Program} {w : World} {K : PySem.W.Frag} {mg : Str → Option Value} {base : Heap}
def sp_plain (K : PySem.W.Frag) (mg : Str → Option Value) (T : Tx K mg) : Sp := fun vs H Q X => ∃ (v : V) (d : PyData), vs = [v] ∧ Dq K H v d ∧ Light d ∧ (expB d = false → ∀ H', Same H H' → X (.ref T.a_NoExpander) none H') ∧
  ∀ z f ss, d = .tuple [.str z, .str f, .tuple ss] → expB d = true → ((∃ c w, Val z ss c w ∧ 2000 < w.1.length) → tooManyE T.a_TooMany X H 2000) ∧
    ((∀ c w, Val z ss c w → w.1.length ≤ 2000) → ∀ (H' : Hp) (v' : V), Same H H' → Dq K H' v' (plainE z f ss) → Q v' H')
/-- def plain(expander): -/
theorem ok_plain (T : Tx K mg) : FnOk P w K mg base (L2.CX P w) 8 T.a_plain T.fd_plain ["expander"] (sp_plain K mg T) := by
  refine T.F_plain.okX sc_plain (fun vs H Q E h => ?_) (fun cdv A outer s H vs Q E hr h => ?_)
  · obtain ⟨_, _, rfl, _⟩ := h
    rfl
  · refine ⟨_, (pss_cons (ps_expr (pe_call (ok_need_expander T) (hr.mono (by decide)) (by rfl) T.g_need_expander T.F_need_expander.kp T.b_need_expander .nil (passes_call (takes_of rfl rfl rfl rfl) (fun _ _ _ _ h => h)) (pa_cons (pv 0) pa_nil)))
    (pss_one (ps_ret (pe_call (ok_plain_of T) (hr.mono (by decide)) (by rfl) T.g_plain_of T.F_plain_of.kp T.b_plain_of .nil (passes_call (takes_of rfl rfl rfl rfl) (fun _ _ _ _ h => h)) (pa_cons (pv 0) pa_nil))))), ?_⟩
    obtain ⟨v, d, rfl, hv, hz, kE, k⟩ := h
    refine ⟨_, rfl, v, d, rfl, hv, hz, kE, fun eb H1 s1 => ?_⟩
    obtain ⟨z, f, ss, rfl, hzs, ⟨hf, lf⟩, l1, l60, hss⟩ := expB_parts eb
    have ok : StatesOk z ss := ⟨hzs, l1, l60, hss⟩
    obtain ⟨k1, k2⟩ := k z f ss rfl eb
    exact ⟨_, rfl, v, z, f, ss, rfl, hv.mono s1, ok, fun hb => (k1 hb).mono s1, fun hs H2 v' s2 hv' => k2 hs H2 v' (Same.trans s1 s2) hv'⟩
end
end K12

namespace K12
open PySem PySem.Spec PyProof.Rows L2 G Lk
section
variable {P : Program} {w : World} {K : PySem.W.Frag} {mg : Str → Option Value} {base : Heap}
/-- a sign of z -/
def signB (z : Str) : PyData → Bool
  | .str y => decide (y.length = 1) && !(Builtin.Str.occurrences z y 0 z.length 1).isEmpty
  | _ => false
def sp_is_sign (K : PySem.W.Frag) : Sp := fun vs H Q _ => ∃ (z : Str) (v : V) (d : PyData), vs = [.str z, v] ∧ Dq K H v d ∧ Light d ∧ Q (.bl (signB z d)) H
/-- def is_sign(signs, thing): -/
theorem ok_is_sign (T : Tx K mg) : FnOk P w K mg base CX0 1 T.a_is_sign T.fd_is_sign ["signs", "thing"] (sp_is_sign K) := by
  refine T.F_is_sign.ok sc_is_sign (fun vs H Q E h => ?_) (fun cdv A outer s H vs Q E hr h => ?_)
  · obtain ⟨_, _, _, rfl, _⟩ := h
    rfl
  · refine ⟨_, (pss_one (ps_ret (pe_and (pe_callB call_isi (by rfl) T.z_isinstance (by decide +kernel) (pa_cons (pv 1) (pa_cons (pe_bltn (v := .ty "str") (by rfl) T.z_str (by decide +kernel) rfl) pa_nil))) (pe_and (pe_cmpR op_eq (pe_callB call_len_str (by rfl) T.z_len PySem.boot_len (pa_cons (pv 1) pa_nil)) pe_int (nomark _)) (pe_one (pe_cmpR op_in_str (pv 1) (pv 0) (by rfl))))))), ?_⟩
    obtain ⟨z, v, d, rfl, hd, hz, q⟩ := h
    refine ⟨v, rfl, v, .ty "str", _, _, _, rfl, .ty "str", hd.ty, kStr d, _, rfl, ?_⟩
    cases hd with
    | str y =>
      refine iteT ⟨_, rfl, y, rfl, light_str hz, rfl, _, rfl, ?_⟩
      have q : Q (.bl (decide (y.length = 1) && !(Builtin.Str.occurrences z y 0 z.length 1).isEmpty)) H := q
      have e1 : decide (V.int ((y.length : Nat) : Int) = V.int 1) = decide (y.length = 1) := decide_eq_decide.mpr ⟨fun h => by injection h with h; omega, fun h => by rw [h]; rfl⟩
      rw [e1]
      cases e : decide (y.length = 1) with
      | false =>
        rw [e] at q
        exact iteF q
      | true =>
        rw [e] at q
        exact iteT ⟨_, rfl, _, rfl, _, _, rfl, rfl, q⟩
    | non => exact iteF q
    | bl _ => exact iteF q
    | int _ => exact iteF q
    | lst _ _ => exact iteF q
    | tup _ _ => exact iteF q
    | emp _ => exact iteF q
end
end K12

namespace K12
open PySem PySem.Spec PyProof.Rows L2 G Lk
section
variable {P : Program} {w : World} {K : PySem.W.Frag} {mg : Str → Option Value} {base : Heap}
/-- a call of an expander -/
def callB : PyData → PyData → PyData → Bool
  | .tuple [.str z, _, .tuple ss], d, e => countB (ss.length : Nat) d && signB z e
  | _, _, _ => false
def sp_is_call (K : PySem.W.Frag) : Sp := fun vs H Q _ => ∃ (v x y : V) (z f : Str) (ss : List PyData) (d e : PyData), vs = [v, x, y] ∧ Dq K H v (.tuple [.str z, .str f, .tuple ss]) ∧ Dq K H x d ∧ Dq K H y e ∧ Light e ∧
  Q (.bl (callB (.tuple [.str z, .str f, .tuple ss]) d e)) H
/-- def is_call(expander, state, sign): -/
theorem ok_is_call (T : Tx K mg) : FnOk P w K mg base CX0 3 T.a_is_call T.fd_is_call ["expander", "state", "sign"] (sp_is_call K) := by
  refine T.F_is_call.ok sc_is_call (fun vs H Q E h => ?_) (fun cdv A outer s H vs Q E hr h => ?_)
  · obtain ⟨_, _, _, _, _, _, _, _, rfl, _⟩ := h
    rfl
  · refine ⟨_, (pss_cons (ps_asg (pv 0) (pg_tup rfl (pgs_cons (pg_name (i := 3) sc_is_call.nd rfl (by first | exact Or.inl rfl | exact Or.inr rfl)) (pgs_cons (pg_name (i := 4) sc_is_call.nd rfl (by first | exact Or.inl rfl | exact Or.inr rfl)) (pgs_cons (pg_name (i := 5) sc_is_call.nd rfl (by first | exact Or.inl rfl | exact Or.inr rfl)) pgs_nil)))))
    (pss_one (ps_ret (pe_and (pe_call (ok_is_number T) (hr.mono (by decide)) (by rfl) T.g_is_number T.F_is_number.kp T.b_is_number .nil pass0 (pa_cons (pe_callB call_len_seq (by rfl) T.z_len PySem.boot_len (pa_cons (pv 5) pa_nil)) (pa_cons (pv 1) pa_nil))) (pe_one (pe_call (ok_is_sign T) (hr.mono (by decide)) (by rfl) T.g_is_sign T.F_is_sign.kp T.b_is_sign .nil pass0 (pa_cons (pv 3) (pa_cons (pv 2) pa_nil)))))))), ?_⟩
    obtain ⟨v, x, y, z, f, ss, d, e, rfl, hv, hx, hy, hz, q⟩ := h
    obtain ⟨a, t, xs, rfl, ht, hts, hA⟩ := expV_of hv
    have q : Q (.bl (countB (ss.length : Nat) d && signB z e)) H := q
    refine ⟨_, rfl, a, _, rfl, ht, rfl, _, _, rfl, _, _, rfl, _, _, rfl, rfl, ?_⟩
    refine ⟨_, rfl, t, xs, rfl, .inr hts, _, rfl, _, x, d, rfl, hx, _, rfl, ?_⟩
    rw [hA.length]
    cases e1 : countB (ss.length : Nat) d with
    | false =>
      rw [e1] at q
      exact iteF q
    | true =>
      rw [e1] at q
      exact iteT ⟨_, rfl, _, rfl, z, y, e, rfl, hy, hz, q⟩
end
end K12

namespace K12
open PySem PySem.Spec PyProof.Rows L2 G Lk
section
variable {P : Program} {w : World} {K : PySem.W.Frag} {mg : Str → Option Value} {base : Heap}
def sp_need_call (K : PySem.W.Frag) (mg : Str → Option Value) (T : Tx K mg) : Sp := fun vs H Q E => ∃ (v x y : V) (z f : Str) (ss : List PyData) (d e : PyData), vs = [v, x, y] ∧ Dq K H v (.tuple [.str z, .str f, .tuple ss]) ∧ Dq K H x d ∧ Dq K H y e ∧ Light e ∧
  (callB (.tuple [.str z, .str f, .tuple ss]) d e = false → E (.ref T.a_NoCall) none H) ∧ (callB (.tuple [.str z, .str f, .tuple ss]) d e = true → Q .non H)
/-- def need_call(expander, state, sign): -/
theorem ok_need_call (T : Tx K mg) : FnOk P w K mg base (L2.CX P w) 4 T.a_need_call T.fd_need_call ["expander", "state", "sign"] (sp_need_call K mg T) := by
  refine T.F_need_call.okX sc_need_call (fun vs H Q E h => ?_) (fun cdv A outer s H vs Q E hr h => ?_)
  · obtain ⟨_, _, _, _, _, _, _, _, rfl, _⟩ := h
    rfl
  · refine ⟨_, (pss_one (ps_if (pt_not (pt_val (pe_call (ok_is_call T) (hr.mono (by decide)) (by rfl) T.g_is_call T.F_is_call.kp T.b_is_call .nil pass0 (pa_cons (pv 0) (pa_cons (pv 1) (pa_cons (pv 2) pa_nil))))))
      (pss_one (ps_raise rfl (takes_of rfl rfl rfl rfl) (pmk_own PySem.F.excBase_ValueError T.xi_NoCall T.g_NoCall T.k_NoCall (raises_own T.b_NoCall T.t_NoCall) (by rfl))))
      pss_nil)), ?_⟩
    obtain ⟨v, x, y, z, f, ss, d, e, rfl, hv, hx, hy, hz, kE, k⟩ := h
    refine ⟨_, rfl, _, rfl, _, rfl, v, x, y, z, f, ss, d, e, rfl, hv, hx, hy, hz, _, rfl, ?_⟩
    cases e1 : callB (.tuple [.str z, .str f, .tuple ss]) d e with
    | false => exact iteT (kE e1)
    | true => exact iteF (k e1)
end
end K12

namespace K12
open PySem PySem.Spec PyProof.Rows L2 G Lk
section
variable {P : Program} {w : World} {K : PySem.W.Frag} {mg : Str → Option Value} {base : Heap}
theorem callB_good {z f : Str} {ss : List PyData} {dx dy : PyData} (h : callB (.tuple [.str z, .str f, .tuple ss]) dx dy = true) : ∃ c : Lk.Cl, dx = .int (c.1 : Int) ∧ dy = .str (Ls.one c.2) ∧ Lk.Good z ss c := by
  have h : (countB (ss.length : Nat) dx && signB z dy) = true := h
  rw [Bool.and_eq_true] at h
  obtain ⟨h1, h2⟩ := h
  cases dx <;> try (cases h1; done)
  rename_i i
  cases dy <;> try (cases h2; done)
  rename_i y
  have h1 : (decide (0 ≤ i) && decide (i < ((ss.length : Nat) : Int))) = true := h1
  have h2 : (decide (y.length = 1) && !(Builtin.Str.occurrences z y 0 z.length 1).isEmpty) = true := h2
  rw [Bool.and_eq_true, decide_eq_true_eq, decide_eq_true_eq] at h1
  rw [Bool.and_eq_true, decide_eq_true_eq] at h2
  have ey : ∃ c, y = Ls.one c := by
    rcases str_cases y with rfl | ⟨c, r, rfl⟩
    · have := h2.1
      cases this
    · rw [tx_len] at h2
      have hr : r = [] := by
        cases r with
        | nil => rfl
        | cons a r =>
          have := h2.1
          simp at this
      rw [hr]
      exact ⟨c, rfl⟩
  obtain ⟨c, rfl⟩ := ey
  refine ⟨(i.toNat, c), ?_, rfl, ⟨?_, ?_⟩⟩
  · rw [show (((i.toNat, c) : Lk.Cl).1 : Int) = i by show ((i.toNat : Nat) : Int) = i; omega]
  · show i.toNat < ss.length
    omega
  · exact of_decide_eq_true ((PySem.StrLaws.found_one z c).symm.trans h2.2)
def valueD (w : Wt) : PyData := .tuple [.str (tx w.1), .int (w.2 : Int)]
def sp_value (K : PySem.W.Frag) (mg : Str → Option Value) (T : Tx K mg) : Sp := fun vs H Q X => ∃ (v x y : V) (d dx dy : PyData), vs = [v, x, y] ∧ Dq K H v d ∧ Dq K H x dx ∧ Dq K H y dy ∧ Light d ∧ Light dy ∧
  (expB d = false → ∀ H', Same H H' → X (.ref T.a_NoExpander) none H') ∧ (expB d = true → callB d dx dy = false → ∀ H', Same H H' → X (.ref T.a_NoCall) none H') ∧
  (∀ z f ss c, d = .tuple [.str z, .str f, .tuple ss] → expB d = true → callB d dx dy = true → dx = .int (c.1 : Int) → dy = .str (Ls.one c.2) → Lk.Good z ss c → ((∃ c w, Val z ss c w ∧ 2000 < w.1.length) → tooManyE T.a_TooMany X H 2000) ∧
    ((∀ c w, Val z ss c w → w.1.length ≤ 2000) → (∀ w, valOf z ss c = some w → ∀ H' r, Same H H' → Dq K H' r (valueD w) → Q r H') ∧
      (valOf z ss c = none → noOutE K T.a_NoOutcome X H (kindT z ss (threadOf z ss c)) ((threadOf z ss c).map callD))))
/-- def value(expander, state, sign): -/
theorem ok_value (T : Tx K mg) : FnOk P w K mg base (L2.CX P w) 8 T.a_value T.fd_value ["expander", "state", "sign"] (sp_value K mg T) := by
  refine T.F_value.okX sc_value (fun vs H Q E h => ?_) (fun cdv A outer s H vs Q E hr h => ?_)
  · obtain ⟨_, _, _, _, _, _, rfl, _⟩ := h
    rfl
  · refine ⟨_, (pss_cons (ps_expr (pe_call (ok_need_expander T) (hr.mono (by decide)) (by rfl) T.g_need_expander T.F_need_expander.kp T.b_need_expander .nil (passes_call (takes_of rfl rfl rfl rfl) (fun _ _ _ _ h => h)) (pa_cons (pv 0) pa_nil)))
    (pss_cons (ps_expr (pe_call (ok_need_call T) (hr.mono (by decide)) (by rfl) T.g_need_call T.F_need_call.kp T.b_need_call .nil (passes_call (takes_of rfl rfl rfl rfl) (fun _ _ _ _ h => h)) (pa_cons (pv 0) (pa_cons (pv 1) (pa_cons (pv 2) pa_nil)))))
    (pss_cons (ps_set (i := 3) sc_value.nd rfl (by first | exact Or.inl rfl | exact Or.inr rfl) (pe_call (ok_values_of T) (hr.mono (by decide)) (by rfl) T.g_values_of T.F_values_of.kp T.b_values_of .nil (passes_call (takes_of rfl rfl rfl rfl) (fun _ _ _ _ h => h)) (pa_cons (pv 0) pa_nil)))
    (pss_cons (ps_expr (pe_call (ok_need_value T) (hr.mono (by decide)) (by rfl) T.g__need_value T.F__need_value.kp T.b__need_value .nil (passes_call (takes_of rfl rfl rfl rfl) (fun _ _ _ _ h => h)) (pa_cons (pv 0) (pa_cons (pv 3) (pa_cons (pe_tup (pa_cons (pv 1) (pa_cons (pv 2) pa_nil))) pa_nil)))))
    (pss_one (ps_ret (pe_dget (unit1 hr.units) (pv 3) (pe_tup (pa_cons (pv 1) (pa_cons (pv 2) pa_nil))) (fun _ _ => rfl)))))))), ?_⟩
    obtain ⟨v, x, y, d, dx, dy, rfl, hv, hx, hy, hz, hzy, kE, kC, k⟩ := h
    refine ⟨_, rfl, v, d, rfl, hv, hz, kE, fun eb H1 s1 => ?_⟩
    obtain ⟨z, f, ss, rfl, hzs, ⟨hf, lf⟩, l1, l60, hss⟩ := expB_parts eb
    have ok : StatesOk z ss := ⟨hzs, l1, l60, hss⟩
    refine ⟨_, rfl, _, rfl, _, rfl, v, x, y, z, f, ss, dx, dy, rfl, hv.mono s1, hx.mono s1, hy.mono s1, hzy, fun ec => kC eb ec H1 s1, fun ec => ?_⟩
    obtain ⟨c, rfl, rfl, gc⟩ := callB_good ec
    obtain ⟨k1, k2⟩ := k z f ss c rfl eb ec rfl rfl gc
    obtain rfl := hx.intV
    obtain rfl := hy.strV
    refine ⟨_, rfl, v, z, f, ss, rfl, hv.mono s1, ok, fun hbig => (k1 hbig).mono s1, fun hsm H2 d E s2 nd hV cl all => ?_⟩
    obtain ⟨k3, k4⟩ := k2 hsm
    have hl := look_all ok cl all
    have s12 := Same.trans s1 s2
    refine ⟨_, rfl, _, rfl, _, rfl, _, rfl, (by show 2 ≤ sizeLine; decide), fun pn np => ?_⟩
    have s3 := same_new (o := .tup [.int (c.1 : Int), .str (Ls.one c.2)]) np
    have hpn : CallAt (upd H2 pn (.tup [.int (c.1 : Int), .str (Ls.one c.2)])) pn c := upd_same
    revert s3 hpn
    generalize upd H2 pn (.tup [.int (c.1 : Int), .str (Ls.one c.2)]) = H3
    intro s3 hpn
    have s13 := Same.trans s12 s3
    have hV3 : ValD [] H3 d E := (hV.same s3).any fun a ha => nomatch ha
    refine ⟨v, d, pn, z, f, ss, E, c, rfl, hv.mono s13, ok, hV3.pr, hl, hpn, gc, fun w hw => ?_, fun hn => (k4 hn).mono s13⟩
    obtain ⟨kvs, hd3, hE3⟩ := hV3
    refine ⟨_, rfl, _, rfl, _, rfl, (by show 2 ≤ sizeLine; decide), fun pk npk => ?_⟩
    have s4 := same_new (o := .tup [.int (c.1 : Int), .str (Ls.one c.2)]) npk
    have hpk : CallAt (upd H3 pk (.tup [.int (c.1 : Int), .str (Ls.one c.2)])) pk c := upd_same
    revert s4 hpk
    generalize upd H3 pk (.tup [.int (c.1 : Int), .str (Ls.one c.2)]) = H4
    intro s4 hpk
    have hE4 : VlE H4 kvs E := hE3.mono (Same.trans off_same s4)
    rcases hE4.get c with ⟨vv, ww, e5, e6, e7⟩ | ⟨e5, e6⟩
    · rw [hl, hw] at e6
      cases e6
      refine ⟨d, vv, rfl, ?_, ?_⟩
      · rw [← e5]
        exact DGet.t (k := ckey c) (s4 _ _ hd3) hpk.key
      · obtain ⟨pw, rfl, e8⟩ := e7
        exact k3 _ hw H4 (.ref pw) (Same.trans s13 s4) (.tup (SqT.of e8) (.cons (.str _) (.cons (.int _) .nil)))
    · rw [hl, hw] at e6
      cases e6
end
end K12

namespace K12
open PySem PySem.Spec PyProof.Rows L2 G Lk
section
variable {P : Program} {w : World} {K : PySem.W.Frag} {mg : Str → Option Value} {base : Heap}
theorem ove_none {H : Hp} {f : Lk.Cl → Option Wt} {kvs : List (List Key × V)} {cs : List Lk.Cl} (h : OvE H f kvs cs) {c : Lk.Cl} (n : c ∉ cs) : valV kvs (ckey c) = none := by
  induction h with
  | nil => rfl
  | @cons d v kvs cs a _ ih =>
    rw [valV_neg (fun z => n (by rw [← ckey_inj z]; exact List.mem_cons_self))]
    exact ih fun q => n (List.mem_cons_of_mem _ q)
theorem ove_snoc {H : Hp} {f : Lk.Cl → Option Wt} {kvs : List (List Key × V)} {cs : List Lk.Cl} (h : OvE H f kvs cs) {c : Lk.Cl} {v : V} (a : OvAt H v (f c)) : OvE H f (kvs ++ [(ckey c, v)]) (cs ++ [c]) := by
  induction h with
  | nil => exact .cons a .nil
  | cons b _ ih => exact .cons b ih
def sp_values (K : PySem.W.Frag) (mg : Str → Option Value) (T : Tx K mg) : Sp := fun vs H Q X => ∃ (v : V) (d : PyData), vs = [v] ∧ Dq K H v d ∧ Light d ∧ (expB d = false → ∀ H', Same H H' → X (.ref T.a_NoExpander) none H') ∧
  ∀ z f ss, d = .tuple [.str z, .str f, .tuple ss] → expB d = true → ((∃ c w, Val z ss c w ∧ 2000 < w.1.length) → tooManyE T.a_TooMany X H 2000) ∧
    ((∀ c w, Val z ss c w → w.1.length ≤ 2000) → ∀ (H' : Hp) (r : Addr), Same H H' → H r = none → OvD [r] H' r (callsOf z ss.length) (valOf z ss) → Q (.ref r) H')
/-- def values(expander): -/
theorem ok_values (T : Tx K mg) : FnOk P w K mg base (L2.CX P w) 8 T.a_values T.fd_values ["expander"] (sp_values K mg T) := by
  refine T.F_values.okX sc_values (fun vs H Q E h => ?_) (fun cdv A outer s H vs Q E hr h => ?_)
  · obtain ⟨_, _, rfl, _⟩ := h
    rfl
  · refine ⟨_, (pss_cons (ps_expr (pe_call (ok_need_expander T) (hr.mono (by decide)) (by rfl) T.g_need_expander T.F_need_expander.kp T.b_need_expander .nil (passes_call (takes_of rfl rfl rfl rfl) (fun _ _ _ _ h => h)) (pa_cons (pv 0) pa_nil)))
    (pss_cons (ps_set (i := 1) sc_values.nd rfl (by first | exact Or.inl rfl | exact Or.inr rfl) (pe_call (ok_values_of T) (hr.mono (by decide)) (by rfl) T.g_values_of T.F_values_of.kp T.b_values_of .nil (passes_call (takes_of rfl rfl rfl rfl) (fun _ _ _ _ h => h)) (pa_cons (pv 0) pa_nil)))
    (pss_one (ps_ret (pe_dcT (unit1 hr.units) (own := [("call", 2)]) (g := gName 2) (by rfl) sc_values.nd (pi_list (pe_call (ok_all_calls T) (hr.mono (by decide)) (by rfl) T.g_all_calls T.F_all_calls.kp T.b_all_calls .nil pass0 (pa_cons (pv 0) pa_nil))) (blkOk_by (own := [("call", 2)]) (N := N_values) (sc := defScope s_values) (by decide +kernel)) (fun _ _ _ _ _ => pg_name (i := 2) sc_values.nd rfl (by first | exact Or.inl rfl | exact Or.inr rfl)) (fun _ _ _ _ _ => pts_nil) (fun _ _ _ _ _ => (pv 2)) (fun _ _ _ _ _ => (pe_dget1 (unit1 hr.units) (pv 1) (pv 2) ⟨rfl, rfl, rfl, rfl⟩))))))), ?_⟩
    obtain ⟨v, d, rfl, hv, hz, kE, k⟩ := h
    refine ⟨_, rfl, v, d, rfl, hv, hz, kE, fun eb H1 s1 => ?_⟩
    obtain ⟨z, f, ss, rfl, hzs, ⟨hf, lf⟩, l1, l60, hss⟩ := expB_parts eb
    have ok : StatesOk z ss := ⟨hzs, l1, l60, hss⟩
    obtain ⟨k1, k2⟩ := k z f ss rfl eb
    refine ⟨_, rfl, v, z, f, ss, rfl, hv.mono s1, ok, fun hb => (k1 hb).mono s1, fun hs H2 d0 E s2 nd hV cl all => ?_⟩
    have q := k2 hs
    have hlk := look_all ok cl all
    obtain ⟨kvs, hdd, hVE⟩ := hV.any (T := []) (fun a ha => nomatch ha)
    have s12 := Same.trans s1 s2
    have ndc := calls_nodup (signs_nodup ok.1) ss.length
    have few := calls_few ok
    refine ⟨_, rfl, v, z, f, ss, rfl, hv.mono s12, ok, fun H3 l xs s3 nl hl3 hcs => ?_⟩
    generalize callsOf z ss.length = cs at q ndc few hcs
    have hd3 := s3 _ _ hdd
    refine ⟨l, rfl, ⟨xs, SqL.of hl3⟩, fun D nD => ?_⟩
    refine dp_list (xs := xs) (fun j H' => Same H3 H' ∧ ∃ ks, H' D = some (.dT ks) ∧ OvE (off [D] H') (valOf z ss) ks (cs.take j)) ⟨same_new nD, [], upd_same, by rw [List.take_zero]; exact .nil⟩ (fun _ _ _ h => SqL.of (h.1 _ _ hl3)) ?_ ?_
    · rintro j x H4 hx ⟨s4, ks, hD, hE⟩
      obtain ⟨p, c, rfl, hc, hp⟩ := hcs.get hx
      have hp4 : CallAt H4 p c := s4 _ _ hp
      have hd4 := s4 _ _ hd3
      have hVE4 : VlE (off [] H4) kvs E := hVE.mono (Keep.of (Same.trans s3 s4))
      have hov : OvAt (off [] H4) ((valV kvs (ckey c)).getD .non) (valOf z ss c) := by
        rw [← hlk]
        rcases hVE4.get c with ⟨v, w, e1, e2, e3⟩ | ⟨e1, e2⟩
        · rw [e1, e2]
          exact e3
        · rw [e1, e2]
          exact rfl
      have eT : cs.take (j + 1) = cs.take j ++ [c] := by
        rw [List.take_add_one, hc]
        rfl
      have nin : c ∉ cs.take j := fun h => by
        have h2 : (cs.take (j + 1)).Nodup := ndc.sublist (List.take_sublist _ _)
        rw [eT] at h2
        exact (List.nodup_append.1 h2).2.2 c h c List.mem_cons_self rfl
      have lk : ks.length ≤ 240 := by
        rw [hE.len, List.length_take]
        omega
      refine ⟨rfl, _, rfl, _, rfl, d0, rfl, .inr ⟨_, .inl hd4⟩, _, rfl, _, DGet.t (k := ckey c) hd4 hp4.key, _, DPut.t (k := ckey c) hD hp4.key (Nat.lt_of_le_of_lt lk (by decide)), fun b o e => (upd_ne (ne_of_none e nD)).trans (s4 b o e), _, upd_same, ?_⟩
      rw [putK_new (ove_none hE nin), eT]
      have kp : Keep [D] H4 (upd H4 D (.dT (ks ++ [(ckey c, (valV kvs (ckey c)).getD .non)]))) := Keep.pot List.mem_cons_self
      exact ove_snoc (hE.mono kp) ((hov.any fun b hb => by rw [List.mem_singleton.1 hb]; exact .dT hD).mono kp)
    · rintro H4 ⟨s4, ks, hD, hE⟩
      rw [hcs.len, List.take_length] at hE
      refine q H4 D (Same.trans s12 (Same.trans s3 s4)) ?_ ⟨ks, hD, hE⟩
      cases e : H D with
      | none => rfl
      | some o =>
        rw [s3 _ _ (s12 _ _ e)] at nD
        cases nD
end
end K12

namespace K12
open PySem PySem.Spec PyProof.Rows L2 G Lk
section
variable {P : Program} {w : World} {K : PySem.W.Frag} {mg : Str → Option Value} {base : Heap}
def valD : Option Wt → PyData
  | none => .none
  | some w => .tuple [.str (tx w.1), .int (w.2 : Int)]
theorem ove_vals {K : PySem.W.Frag} {H : Hp} {f : Lk.Cl → Option Wt} {kvs : List (List Key × V)} {cs : List Lk.Cl} (h : OvE H f kvs cs) : DqAll K H (kvs.map (·.2)) (cs.map fun c => valD (f c)) ∧ kvs.map (fun p => keyD p.1) = cs.map fun c => callD c := by
  induction h with
  | nil => exact ⟨.nil, rfl⟩
  | @cons c v kvs cs a _ ih =>
    refine ⟨.cons ?_ ih.1, ?_⟩
    · show Dq K H v (valD (f c))
      cases e : f c with
      | none =>
        rw [e] at a
        have a : v = .non := a
        subst a
        exact .non
      | some w =>
        rw [e] at a
        obtain ⟨p, rfl, hp⟩ := a
        exact .tup (SqT.of hp) (.cons (.str _) (.cons (.int _) .nil))
    · rw [List.map_cons, List.map_cons, ih.2]
      rfl
/-- the dict of all values, as it shows -/
noncomputable def shownV (z : Str) (ss : List PyData) : PyData := .dict (((callsOf z ss.length).map fun c => callD c).zip ((callsOf z ss.length).map fun c => valD (valOf z ss c)))
theorem ov_dq {K : PySem.W.Frag} {H : Hp} {v : V} {o : Option Wt} (a : OvAt H v o) : Dq K H v (valD o) := by
  cases o with
  | none =>
    have a : v = .non := a
    subst a
    exact .non
  | some w =>
    obtain ⟨p, rfl, hp⟩ := a
    exact .tup (SqT.of hp) (.cons (.str _) (.cons (.int _) .nil))
theorem valD_flat (o : Option Wt) : hasList (valD o) = false := by
  cases o with
  | none => rfl
  | some w => simp [valD, hasList, hasListAll]
theorem plnM_flat (o : Option Wt) : hasList (plnM o) = false := by
  cases o with
  | none => rfl
  | some w => simp [plnM, hasList, hasListAll]
theorem ove_keys {H : Hp} {f : Lk.Cl → Option Wt} {kvs : List (List Key × V)} {cs : List Lk.Cl} (h : OvE H f kvs cs) : kvs.map (fun p => keyD p.1) = cs.map fun c => callD c := by
  induction h with
  | nil => rfl
  | @cons c v kvs cs a _ ih =>
    rw [List.map_cons, List.map_cons, ih]
    rfl
theorem ove_dict {H : Hp} {z : Str} {ss : List PyData} {kvs : List (List Key × V)} (h : OvE H (valOf z ss) kvs (callsOf z ss.length)) : dictD kvs ((callsOf z ss.length).map fun c => valD (valOf z ss c)) = shownV z ss := by
  unfold dictD shownV
  rw [ove_keys h]
theorem shownV_ok {z : Str} {ss : List PyData} (ok : StatesOk z ss) (l4 : ss.length ≤ 4) (sz : ∀ c w, Val z ss c w → w.1.length ≤ 30) : (shownV z ss).showable = true ∧ (shownV z ss).depth ≤ 60 ∧ (shownV z ss).shown.length ≤ sizeLine := by
  have zc := ok.1.small.2.2
  have few := calls_few ok
  have hk : ∀ c ∈ callsOf z ss.length, Qk true 1 130 (callD c) ∧ Qk true 1 130 (valD (valOf z ss c)) := fun c hc => by
    obtain ⟨g1, g2⟩ := callsOf_mem.1 hc
    refine ⟨?_, ?_⟩
    · exact (tup2 (k := true) (n := 0) (B := 60) (.int (by omega) (by omega) (by decide)) (.str (by show 1 ≤ 60; decide) fun x hx => zc x (by
        have e : x = c.2 := by simpa [Ls.one] using hx
        rw [e]
        exact g2)) (by decide))
    · cases e : valOf z ss c with
      | none => exact (show Qk true 0 0 .none from .none).mono (by decide) (by decide)
      | some w =>
        have h1 := sz c w (valOf_some.1 e)
        obtain ⟨n, hn⟩ := valOf_some.1 e
        have h2 := val_letters ok n c w hn
        have h3 := valOf_state ok e
        exact (tup2 (k := true) (n := 0) (B := 60) (.str (by rw [tx_len]; omega) fun x hx => zc x (h2 x (by rw [tx_codes] at hx; exact hx))) (.int (by omega) (by omega) (by decide)) (by decide))
  refine dict_shows (k := true) (n := 1) (B := 130) (fun p hp => ?_) (by decide) ?_
  · obtain ⟨i, hi, e⟩ := List.mem_iff_getElem.1 hp
    rw [List.getElem_zip] at e
    rw [List.length_zip, List.length_map, List.length_map] at hi
    subst e
    rw [List.getElem_map, List.getElem_map]
    exact hk _ (List.getElem_mem _)
  · rw [List.length_zip, List.length_map, List.length_map, Nat.min_self]
    have := Nat.mul_le_mul few (Nat.le_refl (2 * (130 + 1)))
    exact Nat.le_trans this (by decide)
theorem plain_exp {z f : Str} {ss : List PyData} (he : expB (.tuple [.str z, .str f, .tuple ss]) = true) (sz : ∀ c w, Val z ss c w → w.1.length ≤ 2000) : expB (plainE z f ss) = true := by
  obtain ⟨z', f', ss', e, hzs, ⟨hf, lf⟩, l1, l60, hss⟩ := expB_parts he
  cases e
  have ok : StatesOk z ss := ⟨hzs, l1, l60, hss⟩
  have hst : ((List.range ss.length).map (plainS z ss)).all (stateB z (((List.range ss.length).map (plainS z ss)).length : Nat)) = true := by
    rw [List.length_map, List.length_range, List.all_eq_true]
    intro s hs
    obtain ⟨i, hi, rfl⟩ := List.mem_map.1 hs
    rw [List.mem_range] at hi
    obtain ⟨ms, lst, e1, e2, e3⟩ := last_in ok hi
    have zl : (z.cps.toList.map fun c => plnM (valOf z ss (i, c))).length = z.length := by
      rw [List.length_map]
      simp [Str.length]
    have hl : (isNone lst || shortB z lst) = true := by
      rcases e3 with rfl | ⟨w, rfl, aw, lw⟩
      · rfl
      · rw [shortB_of aw lw, Bool.or_true]
    have hm : ((z.cps.toList.map fun c => plnM (valOf z ss (i, c))).all fun m => isNone m || moveB z (ss.length : Nat) m) = true := by
      rw [List.all_eq_true]
      intro m hm
      obtain ⟨c, _, rfl⟩ := List.mem_map.1 hm
      cases ev : valOf z ss (i, c) with
      | none => rfl
      | some w =>
        obtain ⟨n, hn⟩ := valOf_some.1 ev
        have h1 := sz _ _ (valOf_some.1 ev)
        have h2 := valOf_state ok ev
        rw [Bool.or_eq_true]
        exact .inr (moveB_of (shortB_of (allIn_of fun x hx => val_letters ok n _ w hn x (by rw [tx_codes] at hx; exact hx)) (by rw [tx_len]; exact h1)) (by
          show (allIn z "" && decide (("" : Str).length ≤ 2000)) = true
          rfl) (by omega) (by omega))
    show stateB z (ss.length : Nat) (.tuple [.tuple (z.cps.toList.map fun c => plnM (valOf z ss (i, c))), lastD ss i]) = true
    rw [e2]
    show (decide ((z.cps.toList.map fun c => plnM (valOf z ss (i, c))).length = z.length) && ((isNone lst || shortB z lst) && ((z.cps.toList.map fun c => plnM (valOf z ss (i, c))).all fun m => isNone m || moveB z (ss.length : Nat) m))) = true
    rw [decide_eq_true zl, hl, hm]
    rfl
  show (signsB (.str z) && (shortB z (.str f) && ((decide (1 ≤ ((List.range ss.length).map (plainS z ss)).length) && decide (((List.range ss.length).map (plainS z ss)).length ≤ 60)) && ((List.range ss.length).map (plainS z ss)).all (stateB z (((List.range ss.length).map (plainS z ss)).length : Nat))))) = true
  have hsg : signsB (.str z) = true := hzs
  rw [hst, shortB_of hf lf, hsg, List.length_map, List.length_range, decide_eq_true l1, decide_eq_true l60]
  rfl
theorem plain_plain (z f : Str) (ss : List PyData) : plainB (plainE z f ss) = true := by
  show ((((List.range ss.length).map (plainS z ss)).map fun s => (movesOf s).map plainM).flatten.all id) = true
  rw [List.all_eq_true]
  intro b hb
  obtain ⟨l, hl, hbl⟩ := List.mem_flatten.1 hb
  obtain ⟨s, hs, rfl⟩ := List.mem_map.1 hl
  obtain ⟨i, _, rfl⟩ := List.mem_map.1 hs
  obtain ⟨m, hm, rfl⟩ := List.mem_map.1 hbl
  have hm : m ∈ z.cps.toList.map fun c => plnM (valOf z ss (i, c)) := hm
  obtain ⟨c, _, rfl⟩ := List.mem_map.1 hm
  cases valOf z ss (i, c) with
  | none => rfl
  | some w =>
    show decide (V.str "" = V.str "") = true
    exact decide_eq_true rfl
def sp_Lvalues_right (K : PySem.W.Frag) : Sp := fun vs H Q _ => ∃ (v : V) (d : Addr) (z f : Str) (ss : List PyData), vs = [v, .ref d] ∧ Dq K H v (.tuple [.str z, .str f, .tuple ss]) ∧ ExpD (.tuple [.str z, .str f, .tuple ss]) ∧ (∀ c w, Val z ss c w → w.1.length ≤ 30) ∧ OvD [] H d (callsOf z ss.length) (valOf z ss) ∧
  ∀ H', Same H H' → Q (.bl true) H'
/-- def _law_values_right(expander, known): -/
theorem ok_Lvalues_right (T : Tx K mg) : FnG P w K mg base CX0 9 T.a__law_values_right T.fd__law_values_right ["expander", "known"] (sp_Lvalues_right K) := by
  refine T.F__law_values_right.okG sc_Lvalues_right (fun vs H Q E h => ?_) (fun cdv A outer s H vs Q E gd hr h => ?_)
  · obtain ⟨_, _, _, _, _, rfl, _⟩ := h
    rfl
  · refine ⟨_, (pss_cons (ps_expr (pe_dclearT (pe_call (ok_values T) (hr.mono (by decide)) (by rfl) T.g_values T.F_values.kp T.b_values .nil passL (pa_cons (pv 0) pa_nil))))
    (pss_cons (ps_if (pt_cmpR op_ne (pe_callB (call_repr_dT gd hr.units) (by rfl) T.z_repr (by decide +kernel) (pa_cons (pe_call (ok_values T) (hr.mono (by decide)) (by rfl) T.g_values T.F_values.kp T.b_values .nil passL (pa_cons (pv 0) pa_nil)) pa_nil)) (pe_callB (call_repr_dT gd hr.units) (by rfl) T.z_repr (by decide +kernel) (pa_cons (pv 1) pa_nil)) (nomark _))
      (pss_one (ps_ret pe_bl))
      pss_nil)
    (pss_cons (ps_lock (ps_for PassesOwn.never rfl (pi_keys (pv 1)) (pg_tup rfl (pgs_cons (pg_name (i := 4) sc_Lvalues_right.nd rfl (by first | exact Or.inl rfl | exact Or.inr rfl)) (pgs_cons (pg_name (i := 5) sc_Lvalues_right.nd rfl (by first | exact Or.inl rfl | exact Or.inr rfl)) pgs_nil)))
      (pss_one (ps_if (PW.pt (pw_and (pt_cmpR op_notN (pe_dget (unit1 hr.units) (pv 1) (pe_tup (pa_cons (pv 4) (pa_cons (pv 5) pa_nil))) (fun _ _ => rfl)) pe_non (nomark _)) (pw_and1 (pt_cmpR (op_neD hr.units) (pe_call (ok_value T) (hr.mono (by decide)) (by rfl) T.g_value T.F_value.kp T.b_value .nil passL (pa_cons (pv 0) (pa_cons (pv 4) (pa_cons (pv 5) pa_nil)))) (pe_dget (unit1 hr.units) (pv 1) (pe_tup (pa_cons (pv 4) (pa_cons (pv 5) pa_nil))) (fun _ _ => rfl)) (nomark _)))))
      (pss_one (ps_ret pe_bl))
      pss_nil))))
    (pss_cons (ps_set (i := 2) sc_Lvalues_right.nd rfl (by first | exact Or.inl rfl | exact Or.inr rfl) (pe_lst pa_nil))
    (pss_cons (ps_for PassesOwn.never rfl (pi_enumTu (by rfl) T.z_enumerate (pa_cons (pe_ix ix_tup (pv 0) pe_int (fun _ _ => rfl)) pa_nil)) (pg_tup rfl (pgs_cons (pg_name (i := 4) sc_Lvalues_right.nd rfl (by first | exact Or.inl rfl | exact Or.inr rfl)) (pgs_cons (pg_tup rfl (pgs_cons (pg_name (i := 7) sc_Lvalues_right.nd rfl (by first | exact Or.inl rfl | exact Or.inr rfl)) (pgs_cons (pg_name (i := 8) sc_Lvalues_right.nd rfl (by first | exact Or.inl rfl | exact Or.inr rfl)) pgs_nil))) pgs_nil)))
      (pss_cons (ps_setLc (i := 6) (own := [("sign", 5)]) (g := gName 5) (by rfl) sc_Lvalues_right.nd rfl rfl (sw_true rfl rfl rfl (by decide +kernel)) (pi_str (pe_ix ix_tup (pv 0) pe_int (fun _ _ => rfl))) (blkOk_by (own := [("sign", 5)]) (N := N_Lvalues_right) (sc := defScope s_Lvalues_right) (by decide +kernel)) (fun _ _ _ _ _ => pg_name (i := 5) sc_Lvalues_right.nd rfl (by first | exact Or.inl rfl | exact Or.inr rfl)) (fun _ _ _ _ _ => pts_nil) (fun _ _ _ _ _ => (pe_dget (unit1 hr.units) (pv 1) (pe_tup (pa_cons (pv 4) (pa_cons (pv 5) pa_nil))) (fun _ _ => rfl))))
    (pss_one (ps_expr (pe_bm PySem.F.plainAttrs_list PySem.F.slot_list_append PySem.F.type_list_append mt_append (pv 2) (pa_cons (pe_tup (pa_cons (pe_callTy call_tuple_of (by rfl) T.z_tuple (by decide +kernel) (pa_cons (pe_lc (own := [("one", 9)]) (g := gName 9) (by rfl) sc_Lvalues_right.nd (pi_list (pv 6)) (blkOk_by (own := [("one", 9)]) (N := N_Lvalues_right) (sc := defScope s_Lvalues_right) (by decide +kernel)) (fun _ _ _ _ _ => pg_name (i := 9) sc_Lvalues_right.nd rfl (by first | exact Or.inl rfl | exact Or.inr rfl)) (fun _ _ _ _ _ => pts_nil) (fun _ _ _ _ _ => (pe_ifExp (pt_cmpR op_isN (pv 9) pe_non (nomark _)) pe_non (pe_tup (pa_cons (pe_ix (ix_tup : IxR _ (rIxT K)) (pv 9) pe_int (fun _ _ => rfl)) (pa_cons pe_str (pa_cons (pe_ix (ix_tup : IxR _ (rIxT K)) (pv 9) pe_int (fun _ _ => rfl)) pa_nil))))))) pa_nil)) (pa_cons (pv 8) pa_nil))) pa_nil))))))
    (pss_cons (ps_set (i := 3) sc_Lvalues_right.nd rfl (by first | exact Or.inl rfl | exact Or.inr rfl) (pe_call (ok_plain T) (hr.mono (by decide)) (by rfl) T.g_plain T.F_plain.kp T.b_plain .nil passL (pa_cons (pv 0) pa_nil)))
    (pss_one (ps_ret (pe_and (pe_cmpR (op_eqD hr.units) (pv 3) (pe_tup (pa_cons (pe_ix ix_tup (pv 0) pe_int (fun _ _ => rfl)) (pa_cons (pe_ix ix_tup (pv 0) pe_int (fun _ _ => rfl)) (pa_cons (pe_callTy call_tuple_of (by rfl) T.z_tuple (by decide +kernel) (pa_cons (pv 2) pa_nil)) pa_nil)))) (nomark _)) (pe_one (pe_cmpR op_isB (pe_call (ok_is_plain T) (hr.mono (by decide)) (by rfl) T.g_is_plain T.F_is_plain.kp T.b_is_plain .nil passL (pa_cons (pv 3) pa_nil)) pe_bl (nomark _)))))))))))), ?_⟩
    obtain ⟨v, d, z, f, ss, rfl, hv, hD, sz, ⟨kvs, hdd, hE⟩, q⟩ := h
    have he := hD.ok
    have ok := hD.states
    have small : ∀ c w, Val z ss c w → w.1.length ≤ 2000 := fun c w h => Nat.le_trans (sz c w h) (by decide)
    obtain ⟨z', f', ss', ee, hz', hf', l1, l4, hss⟩ := id hD
    cases ee
    have zc := ok.1.small.2.2
    have qs : ∀ (k : Bool), ∀ s ∈ ss, Qk k 3 106 s := fun k s hs => (hss s hs).q zc ok.1.small.2.1 l4
    have lE : Light (.tuple [.str z, .str f, .tuple ss]) := ((tup3 (k := true) (n := 4) (B := 428) (.str (by have := ok.1.small.2.1; omega) zc) (hf'.q zc (by decide)) (Qk.tup (qs true) (by omega)) (Nat.le_refl _)).mono (n' := 5) (B' := 1290) (by decide) (by decide)).light (by decide)
    have vals : ∀ {H1 : Hp} {Q' : VK}, Same H H1 → (∀ (H' : Hp) (r : Addr), Same H1 H' → H1 r = none → OvD [r] H' r (callsOf z ss.length) (valOf z ss) → Q' (.ref r) H') → sp_values K mg T [v] H1 Q' E0 := fun s1 k =>
      ⟨v, _, rfl, hv.mono s1, lE, (fun e => (Bool.false_ne_true (e.symm.trans he)).elim), fun z2 f2 ss2 e _ => by
        cases e
        exact ⟨(fun ⟨c, w, h, h2⟩ => absurd (small c w h) (Nat.not_le_of_lt h2)), fun _ => k⟩⟩
    refine ⟨_, rfl, ?_⟩
    dsimp only [tCons, tC, tNil, List.cons_append, List.nil_append]
    refine vals (Same.refl H) fun H1 r1 s1 n1 hO1 => ?_
    obtain ⟨kv1, hr1, hE1⟩ := hO1
    refine ⟨?_, r1, kv1, rfl, rfl, hr1, ?_⟩
    · exact .inr (.inr (.inl ⟨rfl, .inr ⟨_, hr1⟩⟩))
    have s2 : Same H (upd H1 r1 (.dT [])) := fun b o e => (upd_ne (ne_of_none e n1)).trans (s1 b o e)
    revert s2
    generalize upd H1 r1 (.dT []) = H2
    intro s2
    -- the dicts show alike
    have few4 := shownV_ok ok l4 sz
    refine ⟨_, rfl, ?_⟩
    dsimp only [tCons, tC, tNil, List.cons_append, List.nil_append]
    refine vals s2 fun H3 r3 s3 n3 hO3 => ?_
    obtain ⟨kv3, hr3, hE3⟩ := hO3
    have s23 := Same.trans s2 s3
    have hE3' : OvE H3 (valOf z ss) kv3 (callsOf z ss.length) := hE3.mono off_same
    have hE' : OvE H3 (valOf z ss) kvs (callsOf z ss.length) := (hE.mono off_same).mono s23
    have flat : hasListAll ((callsOf z ss.length).map fun c => valD (valOf z ss c)) = false := hasListAll_of fun d hd => by
      obtain ⟨c, _, rfl⟩ := List.mem_map.1 hd
      cases valOf z ss c with
      | none => rfl
      | some w => simp [valD, hasList, hasListAll]
    refine ⟨r3, kv3, _, rfl, hr3, (ove_vals hE3').1, flat, by rw [ove_dict hE3']; exact few4.1, by rw [ove_dict hE3']; exact few4.2.1, by rw [ove_dict hE3']; exact few4.2.2, ?_⟩
    refine ⟨_, rfl, d, kvs, _, rfl, s23 _ _ hdd, (ove_vals hE').1, flat, by rw [ove_dict hE']; exact few4.1, by rw [ove_dict hE']; exact few4.2.1, by rw [ove_dict hE']; exact few4.2.2, ?_⟩
    rw [ove_dict hE3', ove_dict hE']
    refine ⟨rfl, _, rfl, if_false (by simp) ?_⟩
    -- value by value
    have hd3 := s23 _ _ hdd
    refine ⟨d, _, hd3, True.intro, fun od => ?_⟩
    have hvF : Dq K (upd H3 d (.frz od (.dT kvs))) v (.tuple [.str z, .str f, .tuple ss]) := (hv.mono s23).locked hd3
    have hEF : OvE (off [d] (upd H3 d (.frz od (.dT kvs)))) (valOf z ss) kvs (callsOf z ss.length) := OvE.mono (OvE.any (S := []) (hE.mono (Keep.of s23)) fun b hb => by rw [List.mem_singleton.1 hb]; exact .dT hd3) (Keep.pot List.mem_cons_self)
    have hF : upd H3 d (.frz od (.dT kvs)) d = some (.frz od (.dT kvs)) := upd_same
    have kF : Keep [d] H3 (upd H3 d (.frz od (.dT kvs))) := Keep.pot List.mem_cons_self
    revert hvF hEF hF kF
    generalize upd H3 d (.frz od (.dT kvs)) = HF
    intro hvF hEF hF kF
    refine ⟨_, rfl, d, od, rfl, .inr ⟨kvs, hF, ?_⟩⟩
    refine for_it walk_keysT (fun i σ H' => ∃ t4 t5 : Option V, σ = [some v, some (.ref d), none, none, t4, t5, none, none, none, none] ∧ Same HF H') ⟨_, _, rfl, Same.refl _⟩ (fun i σ H' _ ⟨_, _, _, s⟩ => s _ _ hF) ?_ ?_
    · rintro i x σ H4 H5 hi ⟨t4, t5, rfl, s4⟩ hY
      obtain ⟨rfl, k, v', qa, ek, rfl, hqa⟩ := hY
      obtain ⟨c, hc, ekc, hov⟩ := hEF.at_ ek
      have ekc : k = ckey c := ekc
      subst ekc
      have hca : CallAt H5 qa c := hqa
      have hF4 := s4 _ _ hF
      have gc : Lk.Good z ss c := callsOf_mem.1 (List.mem_of_getElem? hc)
      have hget : ∃ v1, valV kvs (ckey c) = some v1 ∧ OvAt (off [d] HF) v1 (valOf z ss c) := hEF.get (List.mem_of_getElem? hc)
      obtain ⟨v1, ev1, hv1⟩ := hget
      refine ⟨qa, _, rfl, SqT.of hca, rfl, _, _, rfl, _, _, rfl, rfl, ?_⟩
      refine ⟨_, rfl, _, rfl, _, rfl, (by show 2 ≤ sizeLine; decide), fun p np => ?_⟩
      have s5 := same_new (o := .tup [.int (c.1 : Int), .str (Ls.one c.2)]) np
      have hp5 : CallAt (upd H5 p (.tup [.int (c.1 : Int), .str (Ls.one c.2)])) p c := upd_same
      have hF5 := s5 _ _ hF4
      refine ⟨d, v1, rfl, by rw [← ev1]; exact .inr ⟨kvs, ckey c, p, .inr ⟨od, hF5⟩, rfl, hp5.key, rfl⟩, rfl, _, rfl, ?_⟩
      revert s5 hF5
      generalize upd H5 p (.tup [.int (c.1 : Int), .str (Ls.one c.2)]) = H6
      intro s5 hF5
      have s46 := Same.trans s4 s5
      cases e : valOf z ss c with
      | none =>
        rw [e] at hv1
        have hv1 : v1 = .non := hv1
        subst hv1
        exact iteF (iteF ⟨_, _, rfl, s46⟩)
      | some w =>
        rw [e] at hv1
        obtain ⟨pw, rfl, hpw⟩ := hv1
        have hpw6 := s46 _ _ (off_some hpw).2
        have ecb : callB (.tuple [.str z, .str f, .tuple ss]) (.int (c.1 : Int)) (.str (Ls.one c.2)) = true := by
          show ((decide ((0 : Int) ≤ (c.1 : Int)) && decide ((c.1 : Int) < ((ss.length : Nat) : Int))) && (decide ((Ls.one c.2).length = 1) && !(Builtin.Str.occurrences z (Ls.one c.2) 0 z.length 1).isEmpty)) = true
          have hl : (Ls.one c.2).length = 1 := rfl
          have hf := PySem.StrLaws.found_one z c.2
          have g1 := gc.1
          rw [decide_eq_true (show (0 : Int) ≤ (c.1 : Int) by omega), decide_eq_true (show (c.1 : Int) < ((ss.length : Nat) : Int) by omega), decide_eq_true hl]
          exact hf.trans (decide_eq_true gc.2)
        refine iteT ⟨_, rfl, _, rfl, _, rfl, ?_⟩
        refine ⟨v, .int (c.1 : Int), .str (Ls.one c.2), _, _, _, rfl, hvF.mono s46, .int _, .str _, lE, by unfold Light; simp only [PyData.weight]; show 1 ≤ 1048576; decide, (fun e => (Bool.false_ne_true (e.symm.trans he)).elim), (fun _ e => (Bool.false_ne_true (e.symm.trans ecb)).elim), fun z2 f2 ss2 c2 e0 _ _ e1 e2 g2 => ?_⟩
        cases e0
        have ec2 : c2 = c := by
          obtain ⟨a1, a2⟩ := c
          obtain ⟨b1, b2⟩ := c2
          have h1 : ((a1 : Nat) : Int) = (b1 : Int) := by injection e1
          have h2 : Ls.one a2 = Ls.one b2 := by injection e2
          have h3 : a2 = b2 := by
            have := congrArg (fun s : Str => s.cps.toList) h2
            simpa [Ls.one] using this
          have h4 : a1 = b1 := by omega
          rw [h3, h4]
        subst ec2
        refine ⟨(fun ⟨c, w, h, h2⟩ => absurd (small c w h) (Nat.not_le_of_lt h2)), fun _ => ⟨fun w' ew H7 rv s7 hrv => ?_, fun h => by rw [e] at h; cases h⟩⟩
        rw [e] at ew
        cases ew
        have eqw : Eqb 1 (valueD w) := .tup (n := 0) fun d hd => by
          simp only [List.mem_cons, List.not_mem_nil, or_false] at hd
          rcases hd with rfl | rfl
          · exact .str fun x hx => zc x (by
              obtain ⟨n, hn⟩ := valOf_some.1 e
              exact val_letters ok n _ w hn x (by rw [tx_codes] at hx; exact hx))
          · exact .int _
        refine ⟨_, rfl, _, rfl, _, rfl, (by show 2 ≤ sizeLine; decide), fun p2 np2 => ?_⟩
        have s8 := same_new (o := .tup [.int (c2.1 : Int), .str (Ls.one c2.2)]) np2
        have hp8 : CallAt (upd H7 p2 (.tup [.int (c2.1 : Int), .str (Ls.one c2.2)])) p2 c2 := upd_same
        have s48 := Same.trans s46 (Same.trans s7 s8)
        have hF8 := s48 _ _ hF
        refine ⟨d, .ref pw, rfl, by rw [← ev1]; exact .inr ⟨kvs, ckey c2, p2, .inr ⟨od, hF8⟩, rfl, hp8.key, rfl⟩, ?_⟩
        have hy : Dq K (upd H7 p2 (.tup [.int (c2.1 : Int), .str (Ls.one c2.2)])) (.ref pw) (valueD w) := .tup (SqT.of (Same.trans s7 s8 _ _ hpw6)) (.cons (.str _) (.cons (.int _) .nil))
        refine neDq (hrv.mono s8) hy eqw eqw (by decide) (by decide) ⟨_, rfl, if_false (eqv_same eqw) ?_⟩
        exact ⟨_, _, rfl, s48⟩
    rintro σ H4 ⟨t4, t5, rfl, s4⟩
    refine ⟨s4 _ _ hF, ?_⟩
    have s35 := Keep.unlock hd3 (kF.trans (Keep.of s4))
    have hd5 : upd H4 d (.dT kvs) d = some (.dT kvs) := upd_same
    revert s35 hd5
    generalize upd H4 d (.dT kvs) = H5
    intro s35 hd5
    have s05 := Same.trans s23 s35
    obtain ⟨a, t', xs, rfl, ht, hts, hA⟩ := expV_of hv
    have hl := hA.length
    refine ⟨Nat.zero_le _, fun L nL => ?_⟩
    have s6 := same_new (o := .lst []) nL
    have hL6 : upd H5 L (.lst []) L = some (.lst []) := upd_same
    have nLH : H L = none := by
      cases e : H L with
      | none => rfl
      | some o =>
        rw [s05 _ _ e] at nL
        cases nL
    have dL : d ≠ L := ne_of_none hd5 nL
    revert s6 hL6
    generalize upd H5 L (.lst []) = H6
    intro s6 hL6
    have s06 := Same.trans s05 s6
    have hd6 := s6 _ _ hd5
    have hE6 : OvE (off [L] H6) (valOf z ss) kvs (callsOf z ss.length) := OvE.any (S := []) (hE.mono (Keep.of s06)) fun b hb => by
      rw [List.mem_singleton.1 hb]
      intro us e
      rw [hL6] at e
      cases e
    refine ⟨_, rfl, a, _, 2, _, rfl, rfl, seqT s06 ht, rfl, t', xs, rfl, seqT s06 hts, ?_⟩
    refine for_it walk_enumTu (fun i σ H' => ∃ t4 t5 t6 t7 t8 : Option V, σ = [some (.ref a), some (.ref d), some (.ref L), none, t4, t5, t6, t7, t8, none] ∧ Sm L H6 H' ∧ ∃ us, H' L = some (.lst us) ∧ us.length = i ∧ DqAll K (sans H' L) us ((List.range i).map (plainS z ss)))
      ⟨_, _, _, _, _, rfl, Sm.refl, [], hL6, rfl, .nil⟩ (fun i σ H' _ ⟨_, _, _, _, _, _, sm, _⟩ => seqT (Sm.same_of s06 sm nLH) hts) ?_ ?_
    · clear t4 t5
      rintro i x σ H7 H8 hi ⟨t4, t5, t6, t7, t8, rfl, sm7, us, hL7, lus, hus⟩ ⟨pT, ia, y, rfl, nT, rfl, ea, ey⟩
      cases ea
      have hi2 : i < ss.length := by omega
      have s07 := Sm.same_of s06 sm7 nLH
      obtain ⟨ms, lst, e1, e2, e3⟩ := last_in ok hi2
      obtain ⟨y', ey', hyd⟩ := hA.ix e1
      have ey : xs[i]? = some y := ey
      rw [ey] at ey'
      cases ey'
      have sT := same_new (o := .tup [.int ((i : Nat) : Int), y]) nT
      have hpT : upd H7 pT (.tup [.int ((i : Nat) : Int), y]) pT = some (.tup [.int ((i : Nat) : Int), y]) := upd_same
      have hL8 := sT _ _ hL7
      revert sT hpT hL8
      generalize upd H7 pT (.tup [.int ((i : Nat) : Int), y]) = H8
      intro sT hpT hL8
      have s08 := Same.trans s07 sT
      obtain ⟨ps, us1, rfl, hps, hq⟩ := (hyd.mono s08).items
      obtain ⟨mv', us2, rfl, _, hq⟩ := hq.one
      obtain ⟨lv, us3, rfl, hlv, hq⟩ := hq.one
      obtain rfl := hq.none
      have sm8 : Sm L H6 H8 := sm7.trans (Sm.of sT)
      have hd8 := sm8.at_ dL hd6
      have hE8 : OvE (off [L] H8) (valOf z ss) kvs (callsOf z ss.length) := hE6.mono fun b o eo => off_of (off_some eo).1 (sm8.at_ (fun zz => (off_some eo).1 (by rw [zz]; exact List.mem_cons_self)) (off_some eo).2)
      refine ⟨pT, _, rfl, SqT.of hpT, rfl, _, _, rfl, _, _, rfl, ps, _, rfl, hps, rfl, _, _, rfl, _, _, rfl, rfl, rfl, ?_⟩
      have m2 : (2 : Nat) ≤ sizeLine := by decide
      have m3 : (3 : Nat) ≤ sizeLine := by decide
      have ezt : z.cps.toList.take z.cps.size = z.cps.toList := List.take_of_length_le (by simp)
      have zl : z.cps.toList.length = z.length := by simp [Str.length]
      have z4 := ok.1.small.2.1
      -- row
      refine ⟨_, rfl, a, _, 0, _, rfl, rfl, seqT s08 ht, rfl, z, rfl, fun D nD => ?_⟩
      refine lc_it walk_str (fun j H' => Same H8 H' ∧ ∃ ws, H' D = some (.lst ws) ∧ ws.length = j ∧ DqAll K (sans H' D) ws ((z.cps.toList.take j).map fun c => valD (valOf z ss (i, c)))) ⟨same_new nD, [], upd_same, rfl, .nil⟩ (fun _ _ _ _ => trivial) ?_ ?_
      · rintro j x H9 H10 hj ⟨s9, ws, hD9, lws, hws⟩ ⟨rfl, c, hc, rfl⟩
        have hcl : z.cps.toList[j]? = some c := by simpa using hc
        refine ⟨rfl, _, rfl, _, rfl, _, rfl, m2, fun p np => ?_⟩
        have s11 := same_new (o := .tup [.int ((i : Nat) : Int), .str ⟨#[c]⟩]) np
        have hp11 : CallAt (upd H10 p (.tup [.int ((i : Nat) : Int), .str ⟨#[c]⟩])) p (i, c) := upd_same
        have hD11 := s11 _ _ hD9
        have hd11 := s11 _ _ (s9 _ _ hd8)
        have hE10 : OvE H10 (valOf z ss) kvs (callsOf z ss.length) := (hE8.mono off_same).mono s9
        obtain ⟨v1, ev1, hv1⟩ := hE10.get (c := (i, c)) (callsOf_mem.2 ⟨hi2, List.mem_of_getElem? hcl⟩)
        have hq1 := (ov_dq (K := K) hv1).mono s11
        revert s11 hp11 hD11 hd11 hq1
        generalize upd H10 p (.tup [.int ((i : Nat) : Int), .str ⟨#[c]⟩]) = H11
        intro s11 hp11 hD11 hd11 hq1
        have sm : Sm D H11 (upd H11 D (.lst (ws ++ [v1]))) := Sm.pot
        refine ⟨d, v1, rfl, by rw [← ev1]; exact DGet.t (k := ckey (i, c)) hd11 hp11.key, ws, hD11, ?_, fun b o e => (upd_ne (ne_of_none e nD)).trans (s11 _ _ (s9 b o e)), ws ++ [v1], upd_same, by rw [List.length_append, lws]; rfl, ?_⟩
        · rw [lws]
          have hj : j < z.length := hj
          exact Nat.lt_of_lt_of_le (show j < 300 by omega) (by decide)
        · rw [take_snoc hcl, List.map_append]
          exact ((hws.mono (Sm.of s11)).mono sm).append (.cons ((hq1.out hD11 (valD_flat _)).mono sm) .nil)
      rintro H9 ⟨s9, ws, hD9, lws, hws⟩
      rw [ezt] at hws
      have hws : DqAll K H9 ws (z.cps.toList.map fun c => valD (valOf z ss (i, c))) := hws.mono sans_same
      have hL9 := s9 _ _ hL8
      -- the state
      refine ⟨_, rfl, .inl ⟨rfl, _, SqL.of hL9⟩, _, rfl, D, rfl, ⟨ws, SqL.of hD9⟩, fun D2 nD2 => ?_⟩
      refine lc_list (xs := ws) (fun j H' => Same H9 H' ∧ ∃ vs, H' D2 = some (.lst vs) ∧ vs.length = j ∧ DqAll K (sans H' D2) vs ((z.cps.toList.take j).map fun c => plnM (valOf z ss (i, c)))) ⟨same_new nD2, [], upd_same, rfl, .nil⟩ (fun _ _ _ h => SqL.of (h.1 _ _ hD9)) ?_ ?_
      · rintro j x H10 hx ⟨s10, vs, hD2, lvs, hvs⟩
        have hj : j < ws.length := (List.getElem?_eq_some_iff.mp hx).1
        have hjz : j < z.length := by
          rw [hws.length, List.length_map, zl] at hj
          exact hj
        obtain ⟨c, hcl⟩ : ∃ c, z.cps.toList[j]? = some c := ⟨_, List.getElem?_eq_getElem (by omega)⟩
        obtain ⟨x', ex', hxd⟩ := hws.ix (i := j) (d := valD (valOf z ss (i, c))) (by rw [List.getElem?_map, hcl]; rfl)
        rw [hx] at ex'
        cases ex'
        have hxd := hxd.mono s10
        have fin : ∀ (H11 : Hp) (r : V), Same H10 H11 → Dq K H11 r (plnM (valOf z ss (i, c))) → ∃ acc, H11 D2 = some (.lst acc) ∧ acc.length < sizeLine ∧ Same H9 (upd H11 D2 (.lst (acc ++ [r]))) ∧ ∃ vs, upd H11 D2 (.lst (acc ++ [r])) D2 = some (.lst vs) ∧ vs.length = j + 1 ∧ DqAll K (sans (upd H11 D2 (.lst (acc ++ [r]))) D2) vs ((z.cps.toList.take (j + 1)).map fun c => plnM (valOf z ss (i, c))) := fun H11 r s11 hr => by
          have h11 := s11 _ _ hD2
          have sm : Sm D2 H11 (upd H11 D2 (.lst (vs ++ [r]))) := Sm.pot
          refine ⟨vs, h11, ?_, fun b o e => (upd_ne (ne_of_none e nD2)).trans (s11 _ _ (s10 b o e)), vs ++ [r], upd_same, by rw [List.length_append, lvs]; rfl, ?_⟩
          · rw [lvs]
            exact Nat.lt_of_lt_of_le (show j < 300 by omega) (by decide)
          · rw [take_snoc hcl, List.map_append]
            exact ((hvs.mono (Sm.of s11)).mono sm).append (.cons ((hr.out h11 (plnM_flat _)).mono sm) .nil)
        refine ⟨rfl, _, rfl, rfl, _, rfl, ?_⟩
        cases ev : valOf z ss (i, c) with
        | none =>
          rw [ev] at hxd fin
          obtain rfl := (show Dq K H10 x .none from hxd).noneV
          exact iteT (fin H10 .non (Same.refl _) .non)
        | some w =>
          rw [ev] at hxd fin
          obtain ⟨pw, vs1, rfl, hpw, hq1⟩ := (show Dq K H10 x (.tuple [.str (tx w.1), .int (w.2 : Int)]) from hxd).items
          obtain ⟨w1, vs2, rfl, h1, hq1⟩ := hq1.one
          obtain ⟨w2, vs3, rfl, h2, hq1⟩ := hq1.one
          obtain rfl := hq1.none
          obtain rfl := h1.strV
          obtain rfl := h2.intV
          refine iteF ⟨_, rfl, pw, _, 0, _, rfl, rfl, hpw, rfl, _, rfl, pw, _, 1, _, rfl, rfl, hpw, rfl, m3, fun p np => ?_⟩
          exact fin _ _ (same_new np) (.tup (SqT.of upd_same) (.cons (.str _) (.cons (.str _) (.cons (.int _) .nil))))
      rintro H10 ⟨s10, vs, hD2, lvs, hvs⟩
      have lwz : ws.length = z.cps.toList.length := by rw [hws.length, List.length_map]
      rw [lwz, List.take_length] at hvs
      have hvs : DqAll K H10 vs (z.cps.toList.map fun c => plnM (valOf z ss (i, c))) := hvs.mono sans_same
      have hL10 := s10 _ _ hL9
      refine ⟨D2, vs, rfl, .inl ⟨SqL.of hD2, fun p2 np2 => ?_⟩⟩
      have s11 := same_new (o := .tup vs) np2
      have hp2 : upd H10 p2 (.tup vs) p2 = some (.tup vs) := upd_same
      have hL11 := s11 _ _ hL10
      revert s11 hp2 hL11
      generalize upd H10 p2 (.tup vs) = H11
      intro s11 hp2 hL11
      refine ⟨_, rfl, m2, fun p3 np3 => ?_⟩
      have s12' := same_new (o := .tup [.ref p2, lv]) np3
      have hp3 : upd H11 p3 (.tup [.ref p2, lv]) p3 = some (.tup [.ref p2, lv]) := upd_same
      have hL12 := s12' _ _ hL11
      revert s12' hp3 hL12
      generalize upd H11 p3 (.tup [.ref p2, lv]) = H12
      intro s12' hp3 hL12
      have s812 := Same.trans s9 (Same.trans s10 (Same.trans s11 s12'))
      have hq : Dq K H12 (.ref p3) (plainS z ss i) := by
        unfold plainS
        rw [e2]
        exact .tup (SqT.of hp3) (.cons (.tup (SqT.of (s12' _ _ hp2)) ((hvs.mono s11).mono s12')) (.cons (hlv.mono s812) .nil))
      refine ⟨L, us, _, rfl, rfl, hL12, ?_, ?_⟩
      · rw [lus]
        exact Nat.lt_of_lt_of_le (show i < 300 by omega) (by decide)
      have smL : Sm L H12 (upd H12 L (.lst (us ++ [.ref p3]))) := Sm.pot
      refine ⟨_, _, _, _, _, rfl, (sm8.trans (Sm.of s812)).trans smL, us ++ [.ref p3], upd_same, by rw [List.length_append, lus]; rfl, ?_⟩
      rw [List.range_succ, List.map_append]
      exact (((hus.mono (Sm.of sT)).mono (Sm.of s812)).mono smL).append (.cons ((hq.out hL12 (plainS_flat ok hi2)).mono smL) .nil)
    rintro σ H7 ⟨t4, t5, t6, t7, t8, rfl, sm7, us, hL7, lus, hus⟩
    rw [hl] at lus hus
    have m3 : (3 : Nat) ≤ sizeLine := by decide
    have z4 := ok.1.small.2.1
    have zl : z.cps.toList.length = z.length := by simp [Str.length]
    have s07 : Same H H7 := Sm.same_of s06 sm7 nLH
    have lett : ∀ {c : Lk.Cl} {w : Wt}, valOf z ss c = some w → ∀ x ∈ w.1, x ∈ z.cps.toList := fun h => by
      obtain ⟨n, hn⟩ := valOf_some.1 h
      exact val_letters ok n _ _ hn
    have lastOk : ∀ i, i < ss.length → lastD ss i = .none ∨ ∃ w, lastD ss i = .str w ∧ allIn z w = true ∧ w.length ≤ 3 := fun i hi => by
      obtain ⟨ms, lst, e1, e2, e3⟩ := last_in ok hi
      obtain ⟨es, l, e4, _, _, hlast⟩ := hss _ (List.mem_of_getElem? e1)
      cases e4
      rcases hlast with rfl | ⟨w, rfl, hw⟩
      · exact .inl e2
      · exact .inr ⟨w, e2, allIn_of hw.2, hw.1⟩
    have qP : Qk true 5 17703 (plainE z f ss) := by
      refine tup3 (k := true) (n := 4) (B := 5900) (.str (by omega) zc) (hf'.q zc (by decide)) ?_ (by decide)
      refine Qk.tup (n := 3) (B := 1474) (fun d hd => ?_) (by rw [List.length_map, List.length_range]; omega)
      obtain ⟨i, hi, rfl⟩ := List.mem_map.1 hd
      rw [List.mem_range] at hi
      refine tup2 (k := true) (n := 2) (B := 736) ?_ ?_ (by decide)
      · refine Qk.tup (n := 1) (B := 183) (fun d hd => ?_) (by rw [List.length_map]; omega)
        obtain ⟨c, _, rfl⟩ := List.mem_map.1 hd
        cases ev : valOf z ss (i, c) with
        | none => exact (show Qk true 0 0 .none from .none).mono (by decide) (by decide)
        | some w =>
          have h1 := sz _ _ (valOf_some.1 ev)
          have h2 := valOf_state ok ev
          exact tup3 (k := true) (n := 0) (B := 60) (.str (by rw [tx_len]; omega) fun x hx => zc x (lett ev x (by rw [tx_codes] at hx; exact hx))) (.str (by decide) (by decide +kernel)) (.int (by omega) (by omega) (by decide)) (by decide)
      · rcases lastOk i hi with e | ⟨w, e, aw, lw⟩
        · rw [e]
          exact (show Qk true 0 0 .none from .none).mono (by decide) (by decide)
        · rw [e]
          exact (show Qk true 0 60 (.str w) from .str (by omega) fun x hx => zc x (allIn_mem aw x hx)).mono (by decide) (by decide)
    have eP : Eqb 5 (plainE z f ss) := by
      refine .tup (n := 4) fun d hd => ?_
      simp only [List.mem_cons, List.not_mem_nil, or_false] at hd
      rcases hd with rfl | rfl | rfl
      · exact .str zc
      · exact .str fun x hx => zc x (hf'.2 x hx)
      · refine .tup (n := 3) fun d hd => ?_
        obtain ⟨i, hi, rfl⟩ := List.mem_map.1 hd
        rw [List.mem_range] at hi
        refine .tup (n := 2) fun d hd => ?_
        simp only [List.mem_cons, List.not_mem_nil, or_false] at hd
        rcases hd with rfl | rfl
        · refine .tup (n := 1) fun d hd => ?_
          obtain ⟨c, _, rfl⟩ := List.mem_map.1 hd
          exact plnM_eqb zc fun w e => lett e
        · rcases lastOk i hi with e | ⟨w, e, aw, lw⟩
          · rw [e]
            exact .none
          · rw [e]
            exact .str fun x hx => zc x (allIn_mem aw x hx)
    refine ⟨_, rfl, ?_⟩
    dsimp only [tCons, tC, tNil, List.cons_append, List.nil_append]
    refine ⟨.ref a, _, rfl, hv.mono s07, lE, (fun e => (Bool.false_ne_true (e.symm.trans he)).elim), fun z2 f2 ss2 e _ => ?_⟩
    cases e
    refine ⟨(fun ⟨c, w, h, h2⟩ => absurd (small c w h) (Nat.not_le_of_lt h2)), fun _ H8 v8 s8 hv8 => ?_⟩
    have s08 := Same.trans s07 s8
    have hL8 := s8 _ _ hL7
    refine ⟨_, rfl, _, rfl, a, _, 0, _, rfl, rfl, seqT s08 ht, rfl, _, rfl, a, _, 1, _, rfl, rfl, seqT s08 ht, rfl, _, rfl, L, us, rfl, .inl ⟨SqL.of hL8, fun p np => ?_⟩⟩
    have s9 := same_new (o := .tup us) np
    refine ⟨m3, fun r nr => ?_⟩
    have s10 := same_new (o := .tup [.str z, .str f, .ref p]) nr
    have hy : Dq K (upd (upd H8 p (.tup us)) r (.tup [.str z, .str f, .ref p])) (.ref r) (plainE z f ss) := .tup (SqT.of upd_same) (.cons (.str _) (.cons (.str _) (.cons (.tup (SqT.of (s10 _ _ upd_same)) (((hus.mono sans_same).mono s8).mono (Same.trans s9 s10))) .nil)))
    refine eqDq ((hv8.mono s9).mono s10) hy eP eP (by decide) (by decide) ?_
    rw [SeqAt.eqv_refl _ eP.lay]
    refine ⟨_, rfl, iteT ⟨_, rfl, ?_⟩⟩
    dsimp only [tCons, tC, tNil, List.cons_append, List.nil_append]
    refine ⟨v8, plainE z f ss, rfl, (hv8.mono s9).mono s10, qP.light (by decide), (fun e => (Bool.false_ne_true (e.symm.trans (plain_exp he small))).elim), fun _ H9 s11 => ?_⟩
    rw [plain_plain]
    exact ⟨true, true, rfl, rfl, q _ (Same.trans s08 (Same.trans s9 (Same.trans s10 s11)))⟩
end
end K12

namespace K12
open PySem PySem.Spec PyProof.Rows L2 G Lk
section
variable {P : Program} {w : World} {K : PySem.W.Frag} {mg : Str → Option Value} {base : Heap}
section
variable {z f : Str} {ss : List PyData}
/-- the states of the plain form -/
noncomputable abbrev plainSS (z : Str) (ss : List PyData) : List PyData := (List.range ss.length).map (plainS z ss)
theorem occ_at {z : Str} {c k : Nat} {rest : List Nat} (h : Builtin.Str.occurrences z (Ls.one c) 0 z.length 1 = k :: rest) : z.cps.toList[k]? = some c := by
  have s := PySem.StrLaws.occ_spec z (Ls.one c) 0 z.length 1 k (by rw [h]; exact List.mem_cons_self ..)
  have e : (z.cps.extract k (k + 1) == #[c]) = true := s.2
  have e := eq_of_beq e
  have e2 := congrArg (fun a : Array Nat => a[0]?) e
  have hk : k < z.cps.size := by
    have := s.1
    have l1 : (Ls.one c).length = 1 := rfl
    have l2 : z.length = z.cps.size := rfl
    omega
  simp only [Array.getElem?_extract] at e2
  rw [if_pos (by omega)] at e2
  simpa using e2
theorem plain_mv (c : Lk.Cl) : mv z (plainSS z ss) c = if c.1 < ss.length ∧ c.2 ∈ z.cps.toList then (valOf z ss c).map fun w => (w.1, [], w.2) else none := by
  unfold mv moveD
  cases q : Builtin.Str.occurrences z (Ls.one c.2) 0 z.length 1 with
  | nil =>
    have e := PySem.StrLaws.found_one z c.2
    have e' : (!(Builtin.Str.occurrences z (Ls.one c.2) 0 z.length 1).isEmpty) = decide (c.2 ∈ z.cps.toList) := e
    rw [q] at e'
    rw [if_neg fun h => (of_decide_eq_false e'.symm) h.2]
    rfl
  | cons k rest =>
    have hk := occ_at q
    have hm : c.2 ∈ z.cps.toList := List.mem_of_getElem? hk
    dsimp only
    by_cases hc : c.1 < ss.length
    · rw [if_pos ⟨hc, hm⟩]
      have eg : (plainSS z ss).getD c.1 .none = plainS z ss c.1 := by
        rw [List.getD_eq_getElem?_getD, List.getElem?_map, List.getElem?_range hc]
        rfl
      rw [eg]
      have e2 : (Lk.movesOf (plainS z ss c.1)).getD k .none = plnM (valOf z ss c) := by
        show (z.cps.toList.map fun d => plnM (valOf z ss (c.1, d))).getD k .none = _
        rw [List.getD_eq_getElem?_getD, List.getElem?_map, hk]
        rfl
      rw [e2]
      cases valOf z ss c with
      | none => rfl
      | some w =>
        show mvM (.tuple [.str (tx w.1), .str "", .int (w.2 : Int)]) = some (w.1, [], w.2)
        show some ((tx w.1).cps.toList, ("" : Str).cps.toList, ((w.2 : Nat) : Int).toNat) = _
        rw [tx_codes]
        rfl
    · rw [if_neg fun h => hc h.1]
      have eg : (plainSS z ss).getD c.1 .none = .none := by
        rw [List.getD_eq_getElem?_getD, List.getElem?_eq_none (by rw [List.length_map, List.length_range]; exact Nat.le_of_not_lt hc)]
        rfl
      rw [eg]
      show mvM (([] : List PyData).getD k .none) = none
      rw [List.getD_nil]
      rfl
theorem plain_Val (ok : StatesOk z ss) {c : Lk.Cl} {w : Wt} : Val z (plainSS z ss) c w ↔ valOf z ss c = some w := by
  constructor
  · rintro ⟨n, h⟩
    cases n with
    | zero => cases h
    | succ n =>
      by_cases hg : c.1 < ss.length ∧ c.2 ∈ z.cps.toList
      · cases e : valOf z ss c with
        | none =>
          have em : mv z (plainSS z ss) c = none := by rw [plain_mv, if_pos hg, e]; rfl
          rw [ev_stop em] at h
          cases h
        | some v =>
          have em : mv z (plainSS z ss) c = some (v.1, [], v.2) := by rw [plain_mv, if_pos hg, e]; rfl
          rw [ev_step em] at h
          exact h
      · have em : mv z (plainSS z ss) c = none := by rw [plain_mv, if_neg hg]
        rw [ev_stop em] at h
        cases h
  · intro e
    have hg : c.1 < ss.length ∧ c.2 ∈ z.cps.toList := by
      obtain ⟨n, hn⟩ := valOf_some.1 e
      cases n with
      | zero => cases hn
      | succ n =>
        cases em : mv z ss c with
        | none =>
          rw [ev_stop em] at hn
          cases hn
        | some m => exact (mv_ok ok em).1
    have em : mv z (plainSS z ss) c = some (w.1, [], w.2) := by rw [plain_mv, if_pos hg, e]; rfl
    exact ⟨1, by rw [ev_step em]; rfl⟩
theorem plain_valOf (ok : StatesOk z ss) : valOf z (plainSS z ss) = valOf z ss := by
  funext c
  cases e : valOf z ss c with
  | none =>
    refine valOf_none.2 fun w h => ?_
    rw [(plain_Val ok).1 h] at e
    cases e
  | some w => exact valOf_some.2 ((plain_Val ok).2 e)
theorem plain_last (ok : StatesOk z ss) {g : Nat} (h : g < ss.length) : lastD (plainSS z ss) g = lastD ss g := by
  have eg : (plainSS z ss).getD g .none = plainS z ss g := by
    rw [List.getD_eq_getElem?_getD, List.getElem?_map, List.getElem?_range h]
    rfl
  unfold lastD
  rw [eg]
  rfl
theorem plain_out (ok : StatesOk z ss) (t : Str) : outOf z f (plainSS z ss) t = outOf z f ss t := by
  unfold outOf
  rw [plain_valOf ok]
  cases hr : rd (valOf z ss) t.cps.toList (f.cps.toList, 0) with
  | none => rfl
  | some b =>
    have gg : b.2 < ss.length := rd_good (a := (f.cps.toList, 0)) (fun c v h => valOf_state ok h) ok.2.1 hr
    show (match lastD (plainSS z ss) b.2 with | .str w => some (b.1 ++ w.cps.toList) | _ => none) = match lastD ss b.2 with | .str w => some (b.1 ++ w.cps.toList) | _ => none
    rw [plain_last ok gg]
/-- a way through states, by values -/
inductive Tr (z : Str) (ss : List PyData) : List Nat → Nat → Nat → List Nat → Prop
  | nil (g : Nat) : Tr z ss [] g g [g]
  | cons {g d h : Nat} {v : Wt} {l s : List Nat} : d ∈ z.cps.toList → valOf z ss (g, d) = some v → Tr z ss l v.2 h s → Tr z ss (d :: l) g h (g :: s)
theorem Tr.len {l s : List Nat} {g h : Nat} (t : Tr z ss l g h s) : s.length = l.length + 1 := by
  induction t with
  | nil => rfl
  | cons _ _ _ ih => rw [List.length_cons, List.length_cons, ih]
theorem Tr.inZ {l s : List Nat} {g h : Nat} (t : Tr z ss l g h s) : ∀ c ∈ l, c ∈ z.cps.toList := by
  induction t with
  | nil => exact fun c h => (List.not_mem_nil h).elim
  | cons hd _ _ ih =>
    intro c hc
    rcases List.mem_cons.1 hc with rfl | hc
    · exact hd
    · exact ih c hc
theorem Tr.stays (ok : StatesOk z ss) {l s : List Nat} {g h : Nat} (t : Tr z ss l g h s) (hg : g < ss.length) : (∀ x ∈ s, x < ss.length) ∧ h < ss.length := by
  induction t with
  | nil g => exact ⟨fun x hx => by rw [List.mem_singleton.1 hx]; exact hg, hg⟩
  | cons _ hv _ ih =>
    have q := ih (valOf_state ok hv)
    refine ⟨fun x hx => ?_, q.2⟩
    rcases List.mem_cons.1 hx with rfl | hx
    · exact hg
    · exact q.1 x hx
theorem Tr.from {l s : List Nat} {g h x : Nat} (t : Tr z ss l g h s) (hx : x ∈ s) (nd : s.Nodup) : ∃ l2 s2, Tr z ss l2 x h s2 ∧ s2.Nodup := by
  induction t with
  | nil g =>
    rw [List.mem_singleton.1 hx]
    exact ⟨_, _, .nil g, nd⟩
  | @cons g d h v l s hd hv tl ih =>
    rcases List.mem_cons.1 hx with rfl | hx
    · exact ⟨_, _, .cons hd hv tl, nd⟩
    · exact ih hx (List.nodup_cons.1 nd).2
theorem Tr.short {l s : List Nat} {g h : Nat} (t : Tr z ss l g h s) : ∃ l2 s2, Tr z ss l2 g h s2 ∧ s2.Nodup := by
  induction t with
  | nil g => exact ⟨_, _, .nil g, List.nodup_cons.2 ⟨List.not_mem_nil, .nil⟩⟩
  | @cons g d h v l s hd hv tl ih =>
    obtain ⟨l2, s2, t2, nd⟩ := ih
    by_cases e : g ∈ s2
    · exact t2.from e nd
    · exact ⟨_, _, .cons hd hv t2, List.nodup_cons.2 ⟨e, nd⟩⟩
theorem Tr.read {l s : List Nat} {g h : Nat} (t : Tr z ss l g h s) : ∀ u : List Nat, ∃ w, rd (valOf z ss) l (u, g) = some (w, h) := by
  induction t with
  | nil g => exact fun u => ⟨u, rfl⟩
  | @cons g d h v l s hd hv tl ih =>
    intro u
    obtain ⟨w, hw⟩ := ih (u ++ v.1)
    exact ⟨w, by rw [rd_some (a := (u, g)) hv]; exact hw⟩
theorem Tr.few (ok : StatesOk z ss) {l s : List Nat} {g h : Nat} (t : Tr z ss l g h s) (hg : g < ss.length) (nd : s.Nodup) : l.length + 1 ≤ ss.length := by
  have hb := (t.stays ok hg).1
  have nd2 : (s.map fun i : Nat => (i : Int)).Nodup := by
    refine List.pairwise_map.2 (nd.imp fun {a b} h e => h ?_)
    have e : (a : Int) = (b : Int) := e
    omega
  have := few_below (n := ss.length) nd2 fun x hx => by
    obtain ⟨i, hi, rfl⟩ := List.mem_map.1 hx
    have := hb i hi
    omega
  rw [List.length_map, t.len] at this
  exact this
theorem goalsP_at {i : Nat} {l : List Int} (h : (goalsP z ss)[i]? = some l) : i < ss.length ∧ l = (z.cps.toList.map fun c => plnM (valOf z ss (i, c))).filterMap goalM := by
  unfold goalsP at h
  rw [List.getElem?_map, List.getElem?_map] at h
  by_cases hi : i < ss.length
  · rw [List.getElem?_range hi] at h
    cases h
    exact ⟨hi, rfl⟩
  · rw [List.getElem?_eq_none (by rw [List.length_range]; exact Nat.le_of_not_lt hi)] at h
    cases h
theorem goal_in {i : Nat} {y : Int} (h : y ∈ (z.cps.toList.map fun c => plnM (valOf z ss (i, c))).filterMap goalM) : ∃ c v, c ∈ z.cps.toList ∧ valOf z ss (i, c) = some v ∧ y = (v.2 : Int) := by
  obtain ⟨m, hm, hg⟩ := List.mem_filterMap.1 h
  obtain ⟨c, hc, rfl⟩ := List.mem_map.1 hm
  cases e : valOf z ss (i, c) with
  | none =>
    rw [e] at hg
    cases hg
  | some v =>
    rw [e] at hg
    cases hg
    exact ⟨c, v, hc, e, rfl⟩
theorem Tr.snoc {l s : List Nat} {g h d : Nat} {v : Wt} (t : Tr z ss l g h s) (hd : d ∈ z.cps.toList) (hv : valOf z ss (h, d) = some v) : ∃ s', Tr z ss (l ++ [d]) g v.2 s' := by
  induction t with
  | nil g => exact ⟨_, .cons hd hv (.nil _)⟩
  | cons hd' hv' _ ih =>
    obtain ⟨s', t'⟩ := ih hv
    exact ⟨_, .cons hd' hv' t'⟩
theorem reach_tr {x : Int} (h : Reach (goalsP z ss) [0] x) : ∃ (l s : List Nat) (g : Nat), x = (g : Int) ∧ Tr z ss l 0 g s := by
  induction h with
  | start h =>
    rw [List.mem_singleton.1 h]
    exact ⟨[], _, 0, rfl, .nil 0⟩
  | step _ e1 e2 ih =>
    obtain ⟨l, s, g, rfl, t⟩ := ih
    obtain ⟨hi, rfl⟩ := goalsP_at e1
    obtain ⟨c, v, hc, hv, rfl⟩ := goal_in e2
    have hv : valOf z ss (g, c) = some v := hv
    obtain ⟨s', t'⟩ := t.snoc hc hv
    exact ⟨_, s', _, rfl, t'⟩
theorem tr_reach (ok : StatesOk z ss) {l s : List Nat} {g h : Nat} (t : Tr z ss l g h s) (hg : g < ss.length) (r : Reach (goalsP z ss) [0] (g : Int)) : Reach (goalsP z ss) [0] (h : Int) := by
  induction t with
  | nil => exact r
  | @cons g d h v l s hd hv tl ih =>
    refine ih (valOf_state ok hv) (.step r (l := (z.cps.toList.map fun c => plnM (valOf z ss (g, c))).filterMap goalM) ?_ ?_)
    · show (goalsP z ss)[g]? = _
      unfold goalsP
      rw [List.getElem?_map, List.getElem?_map, List.getElem?_range hg]
      rfl
    · refine List.mem_filterMap.2 ⟨_, List.mem_map.2 ⟨d, hd, rfl⟩, ?_⟩
      rw [hv]
      rfl
theorem read_all (ok : StatesOk z ss) (all : ∀ x, Reach (goalsP z ss) [0] x → PlainOk z ss x) : ∀ (l : List Nat) (u : List Nat) (g : Nat), (∀ c ∈ l, c ∈ z.cps.toList) → g < ss.length → Reach (goalsP z ss) [0] (g : Int) → ∃ w h, rd (valOf z ss) l (u, g) = some (w, h) ∧ h < ss.length ∧ Reach (goalsP z ss) [0] (h : Int)
  | [], u, g, _, hg, r => ⟨u, g, rfl, hg, r⟩
  | d :: l, u, g, hl, hg, r => by
    have hd := hl d List.mem_cons_self
    have ne := (all _ r).2 d hd
    cases e : valOf z ss (g, d) with
    | none => exact absurd e ne
    | some v =>
      obtain ⟨w, h, q1, q2, q3⟩ := read_all ok all l (u ++ v.1) v.2 (fun c hc => hl c (List.mem_cons_of_mem _ hc)) (valOf_state ok e) (tr_reach ok (.cons hd e (.nil _)) hg r)
      exact ⟨w, h, by rw [rd_some (a := (u, g)) e]; exact q1, q2, q3⟩
theorem rowT_mem {zl : List Nat} : ∀ {n : Nat} {l : List Nat}, l ∈ rowT zl n ↔ l.length = n ∧ ∀ c ∈ l, c ∈ zl
  | 0, l => by
    show l ∈ [[]] ↔ _
    rw [List.mem_singleton]
    constructor
    · rintro rfl
      exact ⟨rfl, fun c h => (List.not_mem_nil h).elim⟩
    · exact fun h => List.eq_nil_of_length_eq_zero h.1
  | n + 1, l => by
    show l ∈ (rowT zl n).flatMap _ ↔ _
    rw [List.mem_flatMap]
    constructor
    · rintro ⟨u, hu, h⟩
      obtain ⟨c, hc, rfl⟩ := List.mem_map.1 h
      obtain ⟨h1, h2⟩ := rowT_mem.1 hu
      refine ⟨by rw [List.length_append, h1]; rfl, fun d hd => ?_⟩
      rcases List.mem_append.1 hd with hd | hd
      · exact h2 d hd
      · rw [List.mem_singleton.1 hd]
        exact hc
    · rintro ⟨h1, h2⟩
      rcases List.eq_nil_or_concat l with rfl | ⟨u, c, rfl⟩
      · cases h1
      · rw [List.concat_eq_append] at h1 h2 ⊢
        rw [List.length_append] at h1
        refine ⟨u, rowT_mem.2 ⟨Nat.succ.inj h1, fun d hd => h2 d (List.mem_append_left _ hd)⟩, List.mem_map.2 ⟨c, h2 c (List.mem_append_right _ List.mem_cons_self), rfl⟩⟩
theorem textsT_mem {zl : List Nat} : ∀ {n : Nat} {l : List Nat}, l ∈ textsT zl n ↔ l.length ≤ n ∧ ∀ c ∈ l, c ∈ zl
  | 0, l => by
    have := rowT_mem (zl := zl) (n := 0) (l := l)
    show l ∈ rowT zl 0 ↔ _
    rw [this]
    exact ⟨fun h => ⟨by omega, h.2⟩, fun h => ⟨by omega, h.2⟩⟩
  | n + 1, l => by
    show l ∈ textsT zl n ++ rowT zl (n + 1) ↔ _
    rw [List.mem_append, textsT_mem, rowT_mem]
    constructor
    · rintro (⟨h1, h2⟩ | ⟨h1, h2⟩)
      · exact ⟨by omega, h2⟩
      · exact ⟨by omega, h2⟩
    · rintro ⟨h1, h2⟩
      by_cases e : l.length = n + 1
      · exact .inr ⟨e, h2⟩
      · exact .inl ⟨by omega, h2⟩
theorem out_none {t : Str} : outOf z f ss t = none ↔ ∀ u g, rd (valOf z ss) t.cps.toList (f.cps.toList, 0) = some (u, g) → ∀ w, lastD ss g ≠ .str w := by
  unfold outOf
  cases hr : rd (valOf z ss) t.cps.toList (f.cps.toList, 0) with
  | none => exact ⟨fun _ u g h => (by cases h), fun _ => rfl⟩
  | some b =>
    obtain ⟨u, g⟩ := b
    dsimp only
    constructor
    · intro h u' g' e w hw
      cases e
      rw [hw] at h
      cases h
    · intro h
      have := h u g rfl
      split
      · rename_i w hw
        exact absurd hw (this w)
      · rfl
/-- all texts of so few signs have an outcome just if all reached states are so -/
theorem whole_iff (ok : StatesOk z ss) {n : Nat} (hn : ss.length ≤ n) : (∀ l ∈ textsT z.cps.toList n, outOf z f ss (tx l) ≠ none) ↔ ∀ x, Reach (goalsP z ss) [0] x → PlainOk z ss x := by
  constructor
  · intro all x hx
    obtain ⟨l, s, g, rfl, t⟩ := reach_tr hx
    obtain ⟨l2, s2, t2, nd⟩ := t.short
    have few := t2.few ok ok.2.1 nd
    have hgl := (t2.stays ok ok.2.1).2
    obtain ⟨w, hw⟩ := t2.read f.cps.toList
    have q : ∀ l3 ∈ textsT z.cps.toList n, ∃ u g, rd (valOf z ss) l3 (f.cps.toList, 0) = some (u, g) ∧ lastD ss g ≠ .none := by
      intro l3 h3
      have := all l3 h3
      cases hr : rd (valOf z ss) l3 (f.cps.toList, 0) with
      | none => exact absurd (outOf_stuck (by rw [tx_codes]; exact hr)) this
      | some b => exact ⟨b.1, b.2, rfl, fun e => this (outOf_last (by rw [tx_codes]; exact hr) e)⟩
    constructor
    · obtain ⟨u, g', h1, h2⟩ := q l2 (textsT_mem.2 ⟨by omega, t2.inZ⟩)
      rw [hw] at h1
      cases h1
      exact h2
    · intro c hc e
      have e : valOf z ss (g, c) = none := e
      obtain ⟨u, g', h1, _⟩ := q (l2 ++ [c]) (textsT_mem.2 ⟨by rw [List.length_append, List.length_singleton]; omega, fun d hd => by
        rcases List.mem_append.1 hd with hd | hd
        · exact t2.inZ d hd
        · rw [List.mem_singleton.1 hd]; exact hc⟩)
      rw [rd_append, hw] at h1
      have h1 : rd (valOf z ss) [c] (w, g) = some (u, g') := h1
      rw [rd_none (a := (w, g)) e] at h1
      cases h1
  · intro all l hl e
    obtain ⟨_, hz⟩ := textsT_mem.1 hl
    obtain ⟨w, h, h1, h2, h3⟩ := read_all ok all l f.cps.toList 0 hz ok.2.1 (.start List.mem_cons_self)
    obtain ⟨ms, lst, e1, e2, e3⟩ := last_in ok h2
    have ne := (all _ h3).1
    have ne : lastD ss h ≠ .none := ne
    rcases e3 with rfl | ⟨w', rfl, _, _⟩
    · exact ne e2
    · exact out_none.1 e w h (by rw [tx_codes]; exact h1) w' e2
end
theorem rowT_size (zl : List Nat) : ∀ n, (rowT zl n).length = zl.length ^ n
  | 0 => rfl
  | n + 1 => by
    show ((rowT zl n).flatMap _).length = _
    rw [flat_len, rowT_size zl n, Nat.pow_succ]
theorem rows_few {k m : Nat} (h : (k = 1 ∧ m = 8) ∨ (k ≤ 4 ∧ m = 4)) : ∀ i ≤ m, k ^ i ≤ 1024 := by
  intro i hi
  rcases h with ⟨rfl, rfl⟩ | ⟨hk, rfl⟩
  · rw [Nat.one_pow]; decide
  · exact Nat.le_trans (Nat.pow_le_pow_left hk i) (Nat.le_trans (Nat.pow_le_pow_right (by decide) hi) (by decide))
def sp_law (K : PySem.W.Frag) : Sp := fun vs H Q _ => ∃ (a : Addr) (ns : List Int), vs = [.ref a] ∧ SqL K H a (ns.map V.int) ∧ ns.length ≤ 63 ∧ ∀ H', Q (.bl true) H'
theorem rd_bound {f : Lk.Cl → Option Wt} (hs : ∀ c v, f c = some v → v.1.length ≤ 30) : ∀ {l : List Nat} {a b : Wt}, rd f l a = some b → b.1.length ≤ a.1.length + 30 * l.length
  | [], a, b, h => by
    cases h
    exact Nat.le_refl _
  | d :: l, a, b, h => by
    obtain ⟨v, e1, e2⟩ := rd_cons h
    have h1 := rd_bound hs (a := (a.1 ++ v.1, v.2)) e2
    have h2 := hs _ _ e1
    have h3 : (a.1 ++ v.1, v.2).1.length = a.1.length + v.1.length := List.length_append
    rw [List.length_cons]
    omega
/-- def law(script): -/
theorem ok_law (T : Tx K mg) : FnG P w K mg base CX0 10 T.a_law T.fd_law ["script"] (sp_law K) := by
  refine T.F_law.okG sc_law (fun vs H Q E h => ?_) (fun cdv A outer s H vs Q E gd hr h => ?_)
  · obtain ⟨_, _, rfl, _⟩ := h
    rfl
  · refine ⟨_, (pss_cons (ps_set (i := 1) sc_law.nd rfl (by first | exact Or.inl rfl | exact Or.inr rfl) (pe_call (ok_Lpot_of T) (hr.mono (by decide)) (by rfl) T.g__law_pot_of T.F__law_pot_of.kp T.b__law_pot_of .nil pass0 (pa_cons (pv 0) pa_nil)))
    (pss_cons (ps_for PassesOwn.never rfl (pi_range1 (by rfl) T.z_range (pa_cons pe_int pa_nil)) (pg_name (i := 2) sc_law.nd rfl (by first | exact Or.inl rfl | exact Or.inr rfl))
      (pss_cons (ps_set (i := 3) sc_law.nd rfl (by first | exact Or.inl rfl | exact Or.inr rfl) (pe_call (ok_Lsome_expander T) (hr.mono (by decide)) (by rfl) T.g__law_some_expander T.F__law_some_expander.kp T.b__law_some_expander .nil pass0 (pa_cons (pv 1) (pa_cons pe_int pa_nil))))
    (pss_cons (ps_par (i := 5) (j := 6) (by rfl) sc_law.nd rfl rfl (by decide) rfl rfl (pa_cons (pe_call (ok_Lvalues T) (hr.mono (by decide)) (by rfl) T.g__law_values T.F__law_values.kp T.b__law_values .nil pass0 (pa_cons (pv 3) pa_nil)) (pa_cons (pe_callB (call_repr_data gd hr.units) (by rfl) T.z_repr (by decide +kernel) (pa_cons (pv 3) pa_nil)) pa_nil)) (by rfl))
    (pss_cons (ps_if (pt_not (pt_val (pe_callG (ok_Lvalues_right T) gd (hr.mono (by decide)) (by rfl) T.g__law_values_right T.F__law_values_right.kp T.b__law_values_right .nil pass0 (pa_cons (pv 3) (pa_cons (pv 5) pa_nil)))))
      (pss_one (ps_ret pe_bl))
      pss_nil)
    (pss_cons (ps_par (i := 7) (j := 8) (by rfl) sc_law.nd rfl rfl (by decide) rfl rfl (pa_cons (pe_call (ok_plain T) (hr.mono (by decide)) (by rfl) T.g_plain T.F_plain.kp T.b_plain .nil passL (pa_cons (pv 3) pa_nil)) (pa_cons pe_bl pa_nil)) (by rfl))
    (pss_cons (ps_for PassesOwn.never rfl (pi_list (pe_call (ok_Ltexts T) (hr.mono (by decide)) (by rfl) T.g__law_texts T.F__law_texts.kp T.b__law_texts .nil pass0 (pa_cons (pe_ix ix_tup (pv 3) pe_int (fun _ _ => rfl)) (pa_cons (pe_ifExp (pt_cmpR op_eq (pe_callB call_len_str (by rfl) T.z_len PySem.boot_len (pa_cons (pe_ix ix_tup (pv 3) pe_int (fun _ _ => rfl)) pa_nil)) pe_int (nomark _)) pe_int pe_int) pa_nil)))) (pg_name (i := 4) sc_law.nd rfl (by first | exact Or.inl rfl | exact Or.inr rfl))
      (pss_cons (ps_set (i := 9) sc_law.nd rfl (by first | exact Or.inl rfl | exact Or.inr rfl) (pe_call (ok_Loutcome T) (hr.mono (by decide)) (by rfl) T.g__law_outcome T.F__law_outcome.kp T.b__law_outcome .nil pass0 (pa_cons (pv 3) (pa_cons (pv 5) (pa_cons (pv 4) pa_nil)))))
    (pss_cons (ps_if (PW.pt (pw_or (pt_cmpR (op_neD hr.units) (pe_call (ok_Ltold T) (hr.mono (by decide)) (by rfl) T.g__law_told T.F__law_told.kp T.b__law_told .nil pass0 (pa_cons (pv 3) (pa_cons (pv 4) pa_nil))) (pv 9) (nomark _)) (pw_or1 (pt_cmpR (op_neD hr.units) (pe_call (ok_Ltold T) (hr.mono (by decide)) (by rfl) T.g__law_told T.F__law_told.kp T.b__law_told .nil pass0 (pa_cons (pv 7) (pa_cons (pv 4) pa_nil))) (pv 9) (nomark _)))))
      (pss_one (ps_ret pe_bl))
      pss_nil)
    (pss_cons (ps_if (pt_not (pt_val (pe_call (ok_Lrun_right T) (hr.mono (by decide)) (by rfl) T.g__law_run_right T.F__law_run_right.kp T.b__law_run_right .nil pass0 (pa_cons (pv 3) (pa_cons (pv 4) (pa_cons (pv 9) pa_nil))))))
      (pss_one (ps_ret pe_bl))
      pss_nil)
    (pss_one (ps_set (i := 8) sc_law.nd rfl (by first | exact Or.inl rfl | exact Or.inr rfl) (pe_and (pv 8) (pe_one (pe_cmpR op_notN (pv 9) pe_non (nomark _))))))))))
    (pss_one (ps_if (PW.pt (pw_or (pt_cmpR op_ne (pe_call (ok_ends_always T) (hr.mono (by decide)) (by rfl) T.g_ends_always T.F_ends_always.kp T.b_ends_always .nil passL (pa_cons (pv 3) pa_nil)) (pv 8) (nomark _)) (pw_or1 (pt_cmpR op_ne (pe_callB (call_repr_data gd hr.units) (by rfl) T.z_repr (by decide +kernel) (pa_cons (pv 3) pa_nil)) (pv 6) (nomark _)))))
      (pss_one (ps_ret pe_bl))
      pss_nil))))))))
    (pss_one (ps_ret pe_bl)))), ?_⟩
    obtain ⟨a, ns, rfl, hS, hlen, q⟩ := h
    refine ⟨_, rfl, a, ns, rfl, hS, hlen, fun H1 p c s1 np hp1 => ?_⟩
    refine ⟨5, rfl, by decide, by decide, for_range (n := 5) (fun _ σ H' => ∃ t2 t3 t4 t5 t6 t7 t8 t9 : Option V, σ = [some (.ref a), some (.ref p), t2, t3, t4, t5, t6, t7, t8, t9] ∧ Pot K H' p c)
      ⟨_, _, _, _, _, _, _, _, rfl, hp1⟩ ?_ ?_⟩
    · rintro i σ H3 hi ⟨t2, t3, t4, t5, t6, t7, t8, t9, rfl, hp3⟩
      refine ⟨_, rfl, p, c, 4, rfl, hp3, by decide, by decide, fun H4 v d sm4 hp4 hd hD hSz => ?_⟩
      have hE := hD.ok
      obtain ⟨z, f, ss, rfl, hz, hf, l1, l4, hss⟩ := id hD
      have ok := hD.states
      obtain ⟨z1, z4, zc⟩ := hz.small
      have hzl : z.length ≤ sizeLine := Nat.le_trans z4 (by decide)
      have sz := hSz z f ss rfl
      have svz : ∀ c w, valOf z ss c = some w → w.1.length ≤ 30 := fun c w h => sz c w (valOf_some.1 h)
      have small : ∀ c w, Val z ss c w → w.1.length ≤ 2000 := fun c w h => Nat.le_trans (sz c w h) (by decide)
      have qs : ∀ (k : Bool), ∀ s ∈ ss, Qk k 3 106 s := fun k s hs => (hss s hs).q zc z4 l4
      have qE : ∀ k : Bool, Qk k 5 1290 (.tuple [.str z, .str f, .tuple ss]) := fun k => (tup3 (k := k) (n := 4) (B := 428) (.str (by omega) zc) (hf.q zc (by decide)) (Qk.tup (qs k) (by omega)) (Nat.le_refl _)).mono (by decide) (by decide)
      have lE : Light (.tuple [.str z, .str f, .tuple ss]) := (qE true).light (by decide)
      have rE : ReprOk (.tuple [.str z, .str f, .tuple ss]) := by
        have h := (qE true).shows (by decide) (by decide)
        exact h.ok
      have hfi : allIn z f = true := allIn_of hf.2
      have hfl : f.length ≤ 3 := hf.1
      have hd4 := hd.mono sans_same
      obtain ⟨e, t, xs, rfl, ht, hts, hA⟩ := expV_of hd4
      refine ⟨_, rfl, .ref e, z, f, ss, rfl, hd4, ok, small, fun H5 d s5 nd hO => ?_⟩
      have hO5 : OvD [] H5 d (callsOf z ss.length) (valOf z ss) := hO.any fun b hb => (List.not_mem_nil hb).elim
      have hd5 := hd4.mono s5
      refine ⟨_, rfl, .ref e, _, rfl, hd5, rE, ?_⟩
      refine ⟨_, _, rfl, ?_⟩
      generalize hsh : PyData.shown (.tuple [.str z, .str f, .tuple ss]) = sh
      refine ⟨_, rfl, _, rfl, ?_⟩
      dsimp only [tCons, tC, tNil, List.cons_append, List.nil_append]
      refine ⟨.ref e, d, z, f, ss, rfl, hd5, hD, sz, hO5, fun H6 s6 => ⟨_, rfl, if_false rfl ?_⟩⟩
      have s56 := Same.trans s5 s6
      have hd6 := hd5.mono s6
      have hO6 := hO5.same s6
      refine ⟨_, rfl, ?_⟩
      dsimp only [tCons, tC, tNil, List.cons_append, List.nil_append]
      refine ⟨.ref e, _, rfl, hd6, lE, fun e => (Bool.false_ne_true (e.symm.trans hE)).elim, fun z' f' ss' e _ => ?_⟩
      cases e
      refine ⟨fun ⟨c, w, h, h2⟩ => absurd (small c w h) (Nat.not_le_of_lt h2), fun _ H7 v' s7 hv7 => ⟨_, _, rfl, ?_⟩⟩
      have s57 := Same.trans s56 s7
      have hd7 := hd6.mono s7
      have hO7 := hO6.same s7
      have ht7 := seqT s57 ht
      have hEp := plain_exp (z := z) (f := f) (ss := ss) hE small
      have svz2 : ∀ c w, Val z (plainSS z ss) c w → w.1.length ≤ 2000 := fun c w h => small c w (valOf_some.1 ((plain_Val ok).1 h))
      have qM : ∀ o : Option Wt, (∀ w, o = some w → w.1.length ≤ 30 ∧ (∀ x ∈ w.1, x < 1000) ∧ w.2 < 4) → Qk true 1 106 (plnM o) := fun o ho => by
        cases o with
        | none => exact (show Qk true 0 0 .none from .none).mono (by decide) (by decide)
        | some w =>
          obtain ⟨h1, h2, h3⟩ := ho w rfl
          exact (tup3 (k := true) (n := 0) (B := 34) (B' := 106) (.str (by rw [tx_len]; omega) fun x hx => h2 x (by rw [tx_codes] at hx; exact hx)) (.str (by decide +kernel) (by decide +kernel)) (.int (by omega) (by omega) (by decide)) (by decide)).mono (by decide) (by decide)
      have lP : Light (plainE z f ss) := by
        have qS : ∀ s ∈ plainSS z ss, Qk true 3 1000 s := fun s hs => by
          obtain ⟨j, hj, rfl⟩ := List.mem_map.1 hs
          rw [List.mem_range] at hj
          have qm : ∀ m ∈ z.cps.toList.map fun c => plnM (valOf z ss (j, c)), Qk true 1 106 m := fun m hm => by
            obtain ⟨c, hc, rfl⟩ := List.mem_map.1 hm
            refine qM _ fun w e => ⟨svz _ _ e, fun x hx => ?_, by have := valOf_state ok e; omega⟩
            obtain ⟨n, hn⟩ := valOf_some.1 e
            exact zc x (val_letters ok n _ w hn x hx)
          have ql : Qk true 2 428 (lastD ss j) := by
            obtain ⟨ms, lst, e1, e2, e3⟩ := last_in ok hj
            have hst := hss _ (List.mem_of_getElem? e1)
            obtain ⟨es, l, e4, hl4, hm4, hlast⟩ := hst
            cases e4
            rw [e2]
            rcases hlast with rfl | ⟨w', rfl, hw'⟩
            · exact (show Qk true 0 0 .none from .none).mono (by decide) (by decide)
            · exact ((hw'.q zc (by decide) : Qk true 0 3 _)).mono (by decide) (by decide)
          have lz : (z.cps.toList.map fun c => plnM (valOf z ss (j, c))).length * (106 + 1) ≤ 428 := by
            rw [List.length_map]
            have : z.cps.toList.length = z.length := by simp [Str.length]
            omega
          exact (tup2 (k := true) (n := 2) (B := 428) (B' := 1000) (Qk.tup qm lz) ql (by decide)).mono (by decide) (by decide)
        have lq : (plainSS z ss).length * (1000 + 1) ≤ 4004 := by
          rw [List.length_map, List.length_range]
          omega
        have := tup3 (k := true) (n := 4) (B := 4004) (B' := 12015) (Qk.str (n := 4) (k := true) (z := z) (B := 4004) (by omega) zc) ((hf.q zc (by decide) : Qk true 4 3 _).mono (by decide) (by decide)) (Qk.tup qS lq) (by decide)
        exact this.light (by decide)
      have hzs : z.cps.toList.length = z.length := by simp [Str.length]
      refine ⟨_, rfl, e, _, 0, _, rfl, rfl, ht7, rfl, ?_⟩
      refine ⟨_, rfl, e, _, 0, _, rfl, rfl, ht7, rfl, z, rfl, hzl, rfl, _, rfl, ?_⟩
      obtain ⟨m, x, hx, hm, hc⟩ : ∃ (m : Nat) (x : Int), x = (m : Int) ∧ ((z.length = 1 ∧ m = 8) ∨ (z.length ≤ 4 ∧ m = 4)) ∧ ((decide (V.int ((z.length : Nat) : Int) = V.int 1) = true ∧ x = 8) ∨ (decide (V.int ((z.length : Nat) : Int) = V.int 1) = false ∧ x = 4)) := by
        by_cases h : z.length = 1
        · exact ⟨8, 8, rfl, .inl ⟨h, rfl⟩, .inl ⟨decide_eq_true (by rw [h]; rfl), rfl⟩⟩
        · exact ⟨4, 4, rfl, .inr ⟨z4, rfl⟩, .inr ⟨decide_eq_false fun q => h (by
            have q : ((z.length : Nat) : Int) = 1 := by injection q
            omega), rfl⟩⟩
      have m8 : m ≤ 8 := by omega
      have m4 : 4 ≤ m := by omega
      have rows : ∀ i ≤ m, (rowT z.cps.toList i).length ≤ 1024 := fun i hi => by
        have hzs : z.cps.toList.length = z.length := by simp [Str.length]
        rw [rowT_size, hzs]
        exact rows_few hm i hi
      rcases hc with ⟨hc, ex⟩ | ⟨hc, ex⟩ <;> first | refine Lk.if_true hc ⟨z, m, (by show [V.str z, V.int 8] = _; rw [← hx, ex]), m8, z4, rows, fun H8 r s8 nr hr8 => ?_⟩ | refine Lk.if_false hc ⟨z, m, (by show [V.str z, V.int 4] = _; rw [← hx, ex]), m8, z4, rows, fun H8 r s8 nr hr8 => ?_⟩
      all_goals
        refine ⟨r, rfl, ⟨_, SqL.of hr8⟩, ?_⟩
        have s58 := Same.trans s57 s8
        have hd8 := hd7.mono s8
        have hO8 := hO7.same s8
        have hv8 := hv7.mono s8
        have hp8 : Pot K H8 p c := hp4.same (Same.trans s5 (Same.trans s6 (Same.trans s7 s8)))
        clear hA hts ht ht7 hd7 hO7 hv7 hd6 hO6 hd5 hO5 hO
        refine for_list (xs := strsV (textsT z.cps.toList m)) (fun j σ H' => ∃ t4 t9 : Option V, ∃ b : Bool, σ = [some (.ref a), some (.ref p), some (.int (0 + (i : Int))), some (.ref e), t4, some (.ref d), some (.str sh), some v', some (.bl b), t9] ∧ Same H8 H' ∧ (b = true ↔ ∀ l ∈ (textsT z.cps.toList m).take j, outOf z f ss (tx l) ≠ none))
          ⟨_, _, true, rfl, Same.refl _, ⟨fun _ l hl => (List.not_mem_nil (by rw [List.take_zero] at hl; exact hl)).elim, fun _ => rfl⟩⟩ (fun j σ H' _ ⟨_, _, _, _, s, _⟩ => SqL.of (s _ _ hr8)) ?_ ?_
        · rintro j x σ H9 hx ⟨t4, t9, b, rfl, s9, hb⟩
          have hx : (strsV (textsT z.cps.toList m))[j]? = some x := hx
          unfold strsV at hx
          rw [List.getElem?_map] at hx
          obtain ⟨l, hl, rfl⟩ := Option.map_eq_some_iff.1 hx
          obtain ⟨ll, lz⟩ := textsT_mem.1 (List.mem_of_getElem? hl)
          have tl : (tx l).length ≤ 8 := by rw [tx_len]; omega
          have ti : allIn z (tx l) = true := allIn_of fun c hc => lz c (by rw [tx_codes] at hc; exact hc)
          have et : (textsT z.cps.toList m).take (j + 1) = (textsT z.cps.toList m).take j ++ [l] := by
            rw [List.take_add_one, hl]
            rfl
          generalize htt : tx l = tt at tl ti ⊢
          have it : isText z (.str tt) = true := by
            show (allIn z tt && decide (tt.length ≤ 200)) = true
            rw [ti, decide_eq_true (show tt.length ≤ 200 by omega)]
            rfl
          have lt : Light (.str tt) := by
            unfold Light
            simp only [PyData.weight]
            show tt.length ≤ 1048576
            omega
          have ef : f.cps.toList.length = f.length := by simp [Str.length]
          have ett : tt.cps.toList.length = tt.length := by simp [Str.length]
          have lw : ∀ u g w, rd (valOf z ss) tt.cps.toList (f.cps.toList, 0) = some (u, g) → lastD ss g = .str w → (tx u ++ w).length ≤ 2000 := fun u g w hr hw => by
            have hub : u.length ≤ f.cps.toList.length + 30 * tt.cps.toList.length := rd_bound svz hr
            have gg : g < ss.length := rd_good (a := (f.cps.toList, 0)) (fun c v h => valOf_state ok h) ok.2.1 hr
            obtain ⟨ms, lst, e1, e2, e3⟩ := last_in ok gg
            have hst := hss _ (List.mem_of_getElem? e1)
            obtain ⟨es, l, e4, hl4, hm4, hlast⟩ := hst
            cases e4
            rw [e2] at hw
            subst hw
            rcases hlast with h | ⟨w', h, hw'⟩
            · cases h
            · cases h
              have := hw'.1
              rw [cat_len, tx_len]
              omega
          have lw2 : ∀ u g w, rd (valOf z (plainSS z ss)) tt.cps.toList (f.cps.toList, 0) = some (u, g) → lastD (plainSS z ss) g = .str w → (tx u ++ w).length ≤ 2000 := fun u g w hr hw => by
            rw [plain_valOf ok] at hr
            have gg : g < ss.length := rd_good (a := (f.cps.toList, 0)) (fun c v h => valOf_state ok h) ok.2.1 hr
            rw [plain_last ok gg] at hw
            exact lw u g w hr hw
          have hd9 := hd8.mono s9
          have hv9 := hv8.mono s9
          refine ⟨_, rfl, _, rfl, _, rfl, .ref e, d, z, f, tt, ss, rfl, hd9, ok, small, by omega, hO8.same s9, ti, by omega, fun H10 s10 => ?_⟩
          have hd10 := hd9.mono s10
          have hv10 := hv9.mono s10
          have zo : ∀ u, outOf z f ss tt = some u → ∀ x ∈ (tx u).cps.toList, x < 1000 := fun u hu x hx => by
            rw [tx_codes] at hx
            unfold outOf at hu
            cases hr : rd (valOf z ss) tt.cps.toList (f.cps.toList, 0) with
            | none =>
              rw [hr] at hu
              cases hu
            | some b =>
              rw [hr] at hu
              dsimp only at hu
              have gg : b.2 < ss.length := rd_good (a := (f.cps.toList, 0)) (fun c v h => valOf_state ok h) ok.2.1 hr
              obtain ⟨ms, lst, e1, e2, e3⟩ := last_in ok gg
              rcases e3 with rfl | ⟨w, rfl, aw, lw⟩
              · rw [e2] at hu
                cases hu
              · rw [e2] at hu
                have hu : some (b.1 ++ w.cps.toList) = some u := hu
                have hu := Option.some.inj hu
                subst hu
                rcases List.mem_append.1 hx with hx | hx
                · have key : ∀ (l : List Nat) (a b : Wt), rd (valOf z ss) l a = some b → (∀ x ∈ a.1, x ∈ z.cps.toList) → ∀ x ∈ b.1, x ∈ z.cps.toList := by
                    intro l
                    induction l with
                    | nil =>
                      intro a b h ha
                      cases h
                      exact ha
                    | cons d l ih =>
                      intro a b h ha
                      obtain ⟨v, e1, e2⟩ := rd_cons h
                      refine ih _ _ e2 fun x hx => ?_
                      rcases List.mem_append.1 hx with hx | hx
                      · exact ha x hx
                      · obtain ⟨n, hn⟩ := valOf_some.1 e1
                        exact val_letters ok n _ v hn x hx
                  exact zc x (key _ _ _ hr (fun x hx => allIn_mem hfi x hx) x hx)
                · exact zc x (allIn_mem aw x hx)
          have eqo : ∀ {H' : Hp} {Q : VK}, Q (.bl false) H' → rNeD K (outV (outOf z f ss tt)) (outV (outOf z f ss tt)) H' Q := fun {H' Q} q => by
            cases ho : outOf z f ss tt with
            | none => exact neDq (n := 0) (m := 0) .non .non .none .none (by decide) (by decide) q
            | some u =>
              refine neDq (n := 0) (m := 0) (.str _) (.str _) (.str (zo u ho)) (.str (zo u ho)) (by decide) (by decide) ?_
              rw [SeqAt.eqv_refl _ (Eqb.str (n := 0) (zo u ho)).lay]
              exact q
          refine ⟨_, rfl, _, rfl, ?_⟩
          dsimp only [tCons, tC, tNil, List.cons_append, List.nil_append]
          refine ⟨.ref e, z, f, tt, ss, rfl, hd10, lE, hE, small, it, lt, lw, fun H11 s11 => ?_⟩
          refine ⟨_, rfl, eqo ⟨_, rfl, if_false rfl ?_⟩⟩
          refine ⟨_, rfl, _, rfl, ?_⟩
          dsimp only [tCons, tC, tNil, List.cons_append, List.nil_append]
          refine ⟨v', z, f, tt, plainSS z ss, rfl, hv10.mono s11, lP, hEp, svz2, it, lt, lw2, fun H12 s12 => ?_⟩
          rw [plain_out ok]
          refine ⟨_, rfl, eqo ⟨_, rfl, if_false rfl ?_⟩⟩
          have s10_12 := Same.trans s10 (Same.trans s11 s12)
          refine ⟨_, rfl, _, rfl, _, rfl, ?_⟩
          dsimp only [tCons, tC, tNil, List.cons_append, List.nil_append]
          refine ⟨.ref e, z, f, tt, ss, rfl, hd9.mono s10_12, lE, hE, ok, ti, by omega, hfi, by omega, fun H13 s13 => ⟨_, rfl, if_false rfl ?_⟩⟩
          have s9_13 := Same.trans s9 (Same.trans s10_12 s13)
          have fin : ∀ b2 : Bool, (b2 = true ↔ outOf z f ss tt ≠ none ∧ b = true) → ∃ t4 t9 : Option V, ∃ b3 : Bool, ([some (.ref a), some (.ref p), some (.int (0 + (i : Int))), some (.ref e), some (.str tt), some (.ref d), some (.str sh), some v', some (.bl b2), some (outV (outOf z f ss tt))] : List (Option V)) = [some (.ref a), some (.ref p), some (.int (0 + (i : Int))), some (.ref e), t4, some (.ref d), some (.str sh), some v', some (.bl b3), t9] ∧ Same H8 H13 ∧ (b3 = true ↔ ∀ l ∈ (textsT z.cps.toList m).take (j + 1), outOf z f ss (tx l) ≠ none) := fun b2 h2 => by
            refine ⟨_, _, b2, rfl, s9_13, ?_⟩
            rw [h2, hb, et]
            constructor
            · rintro ⟨h3, h4⟩ l' hl'
              rcases List.mem_append.1 hl' with h | h
              · exact h4 l' h
              · rw [List.mem_singleton.1 h, htt]
                exact h3
            · intro h3
              exact ⟨by rw [← htt]; exact h3 l (List.mem_append_right _ List.mem_cons_self), fun l' h => h3 l' (List.mem_append_left _ h)⟩
          refine ⟨_, rfl, b, rfl, ?_⟩
          cases b with
          | false => exact iteF (fin false ⟨fun h => (by cases h), fun h => (by cases h.2)⟩)
          | true =>
            refine iteT ⟨_, rfl, rfl, ?_⟩
            refine fin _ ?_
            cases outOf z f ss tt with
            | none => exact ⟨fun h => (by cases h), fun h => absurd rfl h.1⟩
            | some u => exact ⟨fun _ => ⟨fun h => (by cases h), rfl⟩, fun _ => rfl⟩
        · rintro σ H9 ⟨t4, t9, b, rfl, s9, hb⟩
          unfold strsV at hb
          rw [List.length_map, List.take_length] at hb
          have hd9 := hd8.mono s9
          refine ⟨_, rfl, ?_⟩
          dsimp only [tCons, tC, tNil, List.cons_append, List.nil_append]
          refine ⟨.ref e, _, rfl, hd9, lE, fun e => (Bool.false_ne_true (e.symm.trans hE)).elim, fun z' f' ss' e _ => ?_⟩
          cases e
          refine ⟨fun ⟨c, w, h, h2⟩ => absurd (small c w h) (Nat.not_le_of_lt h2), fun _ H10 b2 s10 hb2 => ?_⟩
          have eb : b2 = b := by
            rw [Bool.eq_iff_iff, hb2, hb]
            exact (whole_iff ok (by omega)).symm
          subst eb
          refine ⟨_, rfl, rfl, _, rfl, if_false (by rw [decide_eq_true rfl]; rfl) ?_⟩
          refine ⟨_, rfl, .ref e, _, rfl, hd9.mono s10, rE, ?_⟩
          rw [hsh]
          refine ⟨_, rfl, rfl, _, rfl, if_false (by rw [decide_eq_true rfl]; rfl) ?_⟩
          exact ⟨_, _, _, _, _, _, _, _, rfl, hp8.same (Same.trans s9 s10)⟩
    · rintro σ H3 ⟨t2, t3, t4, t5, t6, t7, t8, t9, rfl, hp3⟩
      exact q H3
end
end K12

namespace K12
open PySem PySem.Spec PyProof.Rows L2 G Lk
theorem all_mk {l : PySem.W.OpenLaw} {w : World} {K : PySem.W.Frag} {h : Heap} {mg : Str → Option Value} {fa : Addr} (X : K.In h) (G : h.Ns mainGlobals mg) (hfa : mg "law" = some (.ref fa))
    {f0 : Addr} {od0 an0 : Option Addr} {sl0 : Array (Option Value)} {oc0 kV0 dc0 pm0 cd0 ct0 : Value}
    {f1 : Addr} {od1 an1 : Option Addr} {sl1 : Array (Option Value)} {oc1 kV1 dc1 pm1 cd1 ct1 : Value}
    {f2 : Addr} {od2 an2 : Option Addr} {sl2 : Array (Option Value)} {oc2 kV2 dc2 pm2 cd2 ct2 : Value}
    {f3 : Addr} {od3 an3 : Option Addr} {sl3 : Array (Option Value)} {oc3 kV3 dc3 pm3 cd3 ct3 : Value}
    {f4 : Addr} {od4 an4 : Option Addr} {sl4 : Array (Option Value)} {oc4 kV4 dc4 pm4 cd4 ct4 : Value}
    {f5 : Addr} {od5 an5 : Option Addr} {sl5 : Array (Option Value)} {oc5 kV5 dc5 pm5 cd5 ct5 : Value}
    {f6 : Addr} {od6 an6 : Option Addr} {sl6 : Array (Option Value)} {oc6 kV6 dc6 pm6 cd6 ct6 : Value}
    {f7 : Addr} {od7 an7 : Option Addr} {sl7 : Array (Option Value)} {oc7 kV7 dc7 pm7 cd7 ct7 : Value}
    {f8 : Addr} {od8 an8 : Option Addr} {sl8 : Array (Option Value)} {oc8 kV8 dc8 pm8 cd8 ct8 : Value}
    {f9 : Addr} {od9 an9 : Option Addr} {sl9 : Array (Option Value)} {oc9 kV9 dc9 pm9 cd9 ct9 : Value}
    {f10 : Addr} {od10 an10 : Option Addr} {sl10 : Array (Option Value)} {oc10 kV10 dc10 pm10 cd10 ct10 : Value}
    {f11 : Addr} {od11 an11 : Option Addr} {sl11 : Array (Option Value)} {oc11 kV11 dc11 pm11 cd11 ct11 : Value}
    {f12 : Addr} {od12 an12 : Option Addr} {sl12 : Array (Option Value)} {oc12 kV12 dc12 pm12 cd12 ct12 : Value}
    {f13 : Addr} {od13 an13 : Option Addr} {sl13 : Array (Option Value)} {oc13 kV13 dc13 pm13 cd13 ct13 : Value}
    {f14 : Addr} {od14 an14 : Option Addr} {sl14 : Array (Option Value)} {oc14 kV14 dc14 pm14 cd14 ct14 : Value}
    {f15 : Addr} {od15 an15 : Option Addr} {sl15 : Array (Option Value)} {oc15 kV15 dc15 pm15 cd15 ct15 : Value}
    {f16 : Addr} {od16 an16 : Option Addr} {sl16 : Array (Option Value)} {oc16 kV16 dc16 pm16 cd16 ct16 : Value}
    {f17 : Addr} {od17 an17 : Option Addr} {sl17 : Array (Option Value)} {oc17 kV17 dc17 pm17 cd17 ct17 : Value}
    {f18 : Addr} {od18 an18 : Option Addr} {sl18 : Array (Option Value)} {oc18 kV18 dc18 pm18 cd18 ct18 : Value}
    {f19 : Addr} {od19 an19 : Option Addr} {sl19 : Array (Option Value)} {oc19 kV19 dc19 pm19 cd19 ct19 : Value}
    {f20 : Addr} {od20 an20 : Option Addr} {sl20 : Array (Option Value)} {oc20 kV20 dc20 pm20 cd20 ct20 : Value}
    {f21 : Addr} {od21 an21 : Option Addr} {sl21 : Array (Option Value)} {oc21 kV21 dc21 pm21 cd21 ct21 : Value}
    {f22 : Addr} {od22 an22 : Option Addr} {sl22 : Array (Option Value)} {oc22 kV22 dc22 pm22 cd22 ct22 : Value}
    {f23 : Addr} {od23 an23 : Option Addr} {sl23 : Array (Option Value)} {oc23 kV23 dc23 pm23 cd23 ct23 : Value}
    {f24 : Addr} {od24 an24 : Option Addr} {sl24 : Array (Option Value)} {oc24 kV24 dc24 pm24 cd24 ct24 : Value}
    {f25 : Addr} {od25 an25 : Option Addr} {sl25 : Array (Option Value)} {oc25 kV25 dc25 pm25 cd25 ct25 : Value}
    {f26 : Addr} {od26 an26 : Option Addr} {sl26 : Array (Option Value)} {oc26 kV26 dc26 pm26 cd26 ct26 : Value}
    {f27 : Addr} {od27 an27 : Option Addr} {sl27 : Array (Option Value)} {oc27 kV27 dc27 pm27 cd27 ct27 : Value}
    {f28 : Addr} {od28 an28 : Option Addr} {sl28 : Array (Option Value)} {oc28 kV28 dc28 pm28 cd28 ct28 : Value}
    {f29 : Addr} {od29 an29 : Option Addr} {sl29 : Array (Option Value)} {oc29 kV29 dc29 pm29 cd29 ct29 : Value}
    {f30 : Addr} {od30 an30 : Option Addr} {sl30 : Array (Option Value)} {oc30 kV30 dc30 pm30 cd30 ct30 : Value}
    {f31 : Addr} {od31 an31 : Option Addr} {sl31 : Array (Option Value)} {oc31 kV31 dc31 pm31 cd31 ct31 : Value}
    {f32 : Addr} {od32 an32 : Option Addr} {sl32 : Array (Option Value)} {oc32 kV32 dc32 pm32 cd32 ct32 : Value}
    {f33 : Addr} {od33 an33 : Option Addr} {sl33 : Array (Option Value)} {oc33 kV33 dc33 pm33 cd33 ct33 : Value}
    {f34 : Addr} {od34 an34 : Option Addr} {sl34 : Array (Option Value)} {oc34 kV34 dc34 pm34 cd34 ct34 : Value}
    {f35 : Addr} {od35 an35 : Option Addr} {sl35 : Array (Option Value)} {oc35 kV35 dc35 pm35 cd35 ct35 : Value}
    {f36 : Addr} {od36 an36 : Option Addr} {sl36 : Array (Option Value)} {oc36 kV36 dc36 pm36 cd36 ct36 : Value}
    {f37 : Addr} {od37 an37 : Option Addr} {sl37 : Array (Option Value)} {oc37 kV37 dc37 pm37 cd37 ct37 : Value}
    {f38 D38 : Addr} {tD38 : Tok} {od38 an38 : Option Addr} {sl38 : Array (Option Value)} {oc38 dc38 pm38 cd38 ct38 : Value}
    {f39 : Addr} {od39 an39 : Option Addr} {sl39 : Array (Option Value)} {oc39 kV39 dc39 pm39 cd39 ct39 : Value}
    {f40 : Addr} {od40 an40 : Option Addr} {sl40 : Array (Option Value)} {oc40 kV40 dc40 pm40 cd40 ct40 : Value}
    {f41 : Addr} {od41 an41 : Option Addr} {sl41 : Array (Option Value)} {oc41 kV41 dc41 pm41 cd41 ct41 : Value}
    {f42 : Addr} {od42 an42 : Option Addr} {sl42 : Array (Option Value)} {oc42 kV42 dc42 pm42 cd42 ct42 : Value}
    {f43 : Addr} {od43 an43 : Option Addr} {sl43 : Array (Option Value)} {oc43 kV43 dc43 pm43 cd43 ct43 : Value}
    {f44 : Addr} {od44 an44 : Option Addr} {sl44 : Array (Option Value)} {oc44 kV44 dc44 pm44 cd44 ct44 : Value}
    {f45 : Addr} {od45 an45 : Option Addr} {sl45 : Array (Option Value)} {oc45 kV45 dc45 pm45 cd45 ct45 : Value}
    {f46 : Addr} {od46 an46 : Option Addr} {sl46 : Array (Option Value)} {oc46 kV46 dc46 pm46 cd46 ct46 : Value}
    {f47 : Addr} {od47 an47 : Option Addr} {sl47 : Array (Option Value)} {oc47 kV47 dc47 pm47 cd47 ct47 : Value}
    {f48 : Addr} {od48 an48 : Option Addr} {sl48 : Array (Option Value)} {oc48 kV48 dc48 pm48 cd48 ct48 : Value}
    {f49 : Addr} {od49 an49 : Option Addr} {sl49 : Array (Option Value)} {oc49 kV49 dc49 pm49 cd49 ct49 : Value}
    {f50 : Addr} {od50 an50 : Option Addr} {sl50 : Array (Option Value)} {oc50 kV50 dc50 pm50 cd50 ct50 : Value}
    {f51 : Addr} {od51 an51 : Option Addr} {sl51 : Array (Option Value)} {oc51 kV51 dc51 pm51 cd51 ct51 : Value}
    {f52 : Addr} {od52 an52 : Option Addr} {sl52 : Array (Option Value)} {oc52 kV52 dc52 pm52 cd52 ct52 : Value}
    {f53 : Addr} {od53 an53 : Option Addr} {sl53 : Array (Option Value)} {oc53 kV53 dc53 pm53 cd53 ct53 : Value}
    {f54 : Addr} {od54 an54 : Option Addr} {sl54 : Array (Option Value)} {oc54 kV54 dc54 pm54 cd54 ct54 : Value}
    {f55 : Addr} {od55 an55 : Option Addr} {sl55 : Array (Option Value)} {oc55 kV55 dc55 pm55 cd55 ct55 : Value}
    {f56 : Addr} {od56 an56 : Option Addr} {sl56 : Array (Option Value)} {oc56 kV56 dc56 pm56 cd56 ct56 : Value}
    {t_LETTERS : Tok}
    {t_MOST_SIGNS : Tok}
    {t_MOST_STATES : Tok}
    {t_MOST_TEXT : Tok}
    {t_MOST_WORD : Tok}
    {c_NoExpander : Addr}
    {c_NoText : Addr}
    {c_NoCall : Addr}
    {c_NoOutcome : Addr}
    {c_TooMany : Addr}
    {c_ScanError : Addr} {i_NoOutcome : Addr} {nm_NoOutcome q_NoOutcome : Str} {N_NoOutcome : Addr} {bs_NoOutcome : List Value} {sn_NoOutcome : List Str} {sub_NoOutcome : List Value} {ab_NoOutcome : Bool} {col_NoOutcome : Option Bool} {dd_NoOutcome : Option Addr} {m0_NoOutcome m1_NoOutcome m2_NoOutcome m3_NoOutcome m5_NoOutcome : Option Value}
    {iod_NoOutcome ian_NoOutcome : Option Addr} {isl_NoOutcome : Array (Option Value)} {ioc_NoOutcome ikV_NoOutcome idc_NoOutcome ipm_NoOutcome icd_NoOutcome ict_NoOutcome : Value}
    {i_TooMany : Addr} {nm_TooMany q_TooMany : Str} {N_TooMany : Addr} {bs_TooMany : List Value} {sn_TooMany : List Str} {sub_TooMany : List Value} {ab_TooMany : Bool} {col_TooMany : Option Bool} {dd_TooMany : Option Addr} {m0_TooMany m1_TooMany m2_TooMany m3_TooMany m5_TooMany : Option Value}
    {iod_TooMany ian_TooMany : Option Addr} {isl_TooMany : Array (Option Value)} {ioc_TooMany ikV_TooMany idc_TooMany ipm_TooMany icd_TooMany ict_TooMany : Value}
    (a0 : PySem.W.nsIn K mainGlobals "is_word" = some (some (.ref f0)))
    (l0 : K.lookup f0 = some ⟨oc0, od0, .func (PySem.W.fnOf "is_word" "is_word" (defArgs s_is_word) (defBody s_is_word) (defScope s_is_word) .none kV0 dc0 pm0 an0 cd0 ct0), sl0⟩)
    (c0 : PySem.W.codeIn K cd0 "is_word" = true)
    (k0 : PySem.W.keepIn K (.ref f0) = true)
    (a1 : PySem.W.nsIn K mainGlobals "is_text" = some (some (.ref f1)))
    (l1 : K.lookup f1 = some ⟨oc1, od1, .func (PySem.W.fnOf "is_text" "is_text" (defArgs s_is_text) (defBody s_is_text) (defScope s_is_text) .none kV1 dc1 pm1 an1 cd1 ct1), sl1⟩)
    (c1 : PySem.W.codeIn K cd1 "is_text" = true)
    (k1 : PySem.W.keepIn K (.ref f1) = true)
    (a2 : PySem.W.nsIn K mainGlobals "need_text" = some (some (.ref f2)))
    (l2 : K.lookup f2 = some ⟨oc2, od2, .func (PySem.W.fnOf "need_text" "need_text" (defArgs s_need_text) (defBody s_need_text) (defScope s_need_text) .none kV2 dc2 pm2 an2 cd2 ct2), sl2⟩)
    (c2 : PySem.W.codeIn K cd2 "need_text" = true)
    (k2 : PySem.W.keepIn K (.ref f2) = true)
    (a3 : PySem.W.nsIn K mainGlobals "is_expander" = some (some (.ref f3)))
    (l3 : K.lookup f3 = some ⟨oc3, od3, .func (PySem.W.fnOf "is_expander" "is_expander" (defArgs s_is_expander) (defBody s_is_expander) (defScope s_is_expander) .none kV3 dc3 pm3 an3 cd3 ct3), sl3⟩)
    (c3 : PySem.W.codeIn K cd3 "is_expander" = true)
    (k3 : PySem.W.keepIn K (.ref f3) = true)
    (a4 : PySem.W.nsIn K mainGlobals "need_expander" = some (some (.ref f4)))
    (l4 : K.lookup f4 = some ⟨oc4, od4, .func (PySem.W.fnOf "need_expander" "need_expander" (defArgs s_need_expander) (defBody s_need_expander) (defScope s_need_expander) .none kV4 dc4 pm4 an4 cd4 ct4), sl4⟩)
    (c4 : PySem.W.codeIn K cd4 "need_expander" = true)
    (k4 : PySem.W.keepIn K (.ref f4) = true)
    (a5 : PySem.W.nsIn K mainGlobals "is_plain" = some (some (.ref f5)))
    (l5 : K.lookup f5 = some ⟨oc5, od5, .func (PySem.W.fnOf "is_plain" "is_plain" (defArgs s_is_plain) (defBody s_is_plain) (defScope s_is_plain) .none kV5 dc5 pm5 an5 cd5 ct5), sl5⟩)
    (c5 : PySem.W.codeIn K cd5 "is_plain" = true)
    (k5 : PySem.W.keepIn K (.ref f5) = true)
    (a6 : PySem.W.nsIn K mainGlobals "need_call" = some (some (.ref f6)))
    (l6 : K.lookup f6 = some ⟨oc6, od6, .func (PySem.W.fnOf "need_call" "need_call" (defArgs s_need_call) (defBody s_need_call) (defScope s_need_call) .none kV6 dc6 pm6 an6 cd6 ct6), sl6⟩)
    (c6 : PySem.W.codeIn K cd6 "need_call" = true)
    (k6 : PySem.W.keepIn K (.ref f6) = true)
    (a7 : PySem.W.nsIn K mainGlobals "is_call" = some (some (.ref f7)))
    (l7 : K.lookup f7 = some ⟨oc7, od7, .func (PySem.W.fnOf "is_call" "is_call" (defArgs s_is_call) (defBody s_is_call) (defScope s_is_call) .none kV7 dc7 pm7 an7 cd7 ct7), sl7⟩)
    (c7 : PySem.W.codeIn K cd7 "is_call" = true)
    (k7 : PySem.W.keepIn K (.ref f7) = true)
    (a8 : PySem.W.nsIn K mainGlobals "is_sign" = some (some (.ref f8)))
    (l8 : K.lookup f8 = some ⟨oc8, od8, .func (PySem.W.fnOf "is_sign" "is_sign" (defArgs s_is_sign) (defBody s_is_sign) (defScope s_is_sign) .none kV8 dc8 pm8 an8 cd8 ct8), sl8⟩)
    (c8 : PySem.W.codeIn K cd8 "is_sign" = true)
    (k8 : PySem.W.keepIn K (.ref f8) = true)
    (a9 : PySem.W.nsIn K mainGlobals "is_number" = some (some (.ref f9)))
    (l9 : K.lookup f9 = some ⟨oc9, od9, .func (PySem.W.fnOf "is_number" "is_number" (defArgs s_is_number) (defBody s_is_number) (defScope s_is_number) .none kV9 dc9 pm9 an9 cd9 ct9), sl9⟩)
    (c9 : PySem.W.codeIn K cd9 "is_number" = true)
    (k9 : PySem.W.keepIn K (.ref f9) = true)
    (a10 : PySem.W.nsIn K mainGlobals "is_whole" = some (some (.ref f10)))
    (l10 : K.lookup f10 = some ⟨oc10, od10, .func (PySem.W.fnOf "is_whole" "is_whole" (defArgs s_is_whole) (defBody s_is_whole) (defScope s_is_whole) .none kV10 dc10 pm10 an10 cd10 ct10), sl10⟩)
    (c10 : PySem.W.codeIn K cd10 "is_whole" = true)
    (k10 : PySem.W.keepIn K (.ref f10) = true)
    (a11 : PySem.W.nsIn K mainGlobals "move_of" = some (some (.ref f11)))
    (l11 : K.lookup f11 = some ⟨oc11, od11, .func (PySem.W.fnOf "move_of" "move_of" (defArgs s_move_of) (defBody s_move_of) (defScope s_move_of) .none kV11 dc11 pm11 an11 cd11 ct11), sl11⟩)
    (c11 : PySem.W.codeIn K cd11 "move_of" = true)
    (k11 : PySem.W.keepIn K (.ref f11) = true)
    (a12 : PySem.W.nsIn K mainGlobals "_are_signs" = some (some (.ref f12)))
    (l12 : K.lookup f12 = some ⟨oc12, od12, .func (PySem.W.fnOf "_are_signs" "_are_signs" (defArgs s_are_signs) (defBody s_are_signs) (defScope s_are_signs) .none kV12 dc12 pm12 an12 cd12 ct12), sl12⟩)
    (c12 : PySem.W.codeIn K cd12 "_are_signs" = true)
    (k12 : PySem.W.keepIn K (.ref f12) = true)
    (a13 : PySem.W.nsIn K mainGlobals "_is_short_word" = some (some (.ref f13)))
    (l13 : K.lookup f13 = some ⟨oc13, od13, .func (PySem.W.fnOf "_is_short_word" "_is_short_word" (defArgs s_is_short_word) (defBody s_is_short_word) (defScope s_is_short_word) .none kV13 dc13 pm13 an13 cd13 ct13), sl13⟩)
    (c13 : PySem.W.codeIn K cd13 "_is_short_word" = true)
    (k13 : PySem.W.keepIn K (.ref f13) = true)
    (a14 : PySem.W.nsIn K mainGlobals "_are_states" = some (some (.ref f14)))
    (l14 : K.lookup f14 = some ⟨oc14, od14, .func (PySem.W.fnOf "_are_states" "_are_states" (defArgs s_are_states) (defBody s_are_states) (defScope s_are_states) .none kV14 dc14 pm14 an14 cd14 ct14), sl14⟩)
    (c14 : PySem.W.codeIn K cd14 "_are_states" = true)
    (k14 : PySem.W.keepIn K (.ref f14) = true)
    (a15 : PySem.W.nsIn K mainGlobals "_is_state" = some (some (.ref f15)))
    (l15 : K.lookup f15 = some ⟨oc15, od15, .func (PySem.W.fnOf "_is_state" "_is_state" (defArgs s_is_state) (defBody s_is_state) (defScope s_is_state) .none kV15 dc15 pm15 an15 cd15 ct15), sl15⟩)
    (c15 : PySem.W.codeIn K cd15 "_is_state" = true)
    (k15 : PySem.W.keepIn K (.ref f15) = true)
    (a16 : PySem.W.nsIn K mainGlobals "_is_move" = some (some (.ref f16)))
    (l16 : K.lookup f16 = some ⟨oc16, od16, .func (PySem.W.fnOf "_is_move" "_is_move" (defArgs s_is_move) (defBody s_is_move) (defScope s_is_move) .none kV16 dc16 pm16 an16 cd16 ct16), sl16⟩)
    (c16 : PySem.W.codeIn K cd16 "_is_move" = true)
    (k16 : PySem.W.keepIn K (.ref f16) = true)
    (a17 : PySem.W.nsIn K mainGlobals "reached_of" = some (some (.ref f17)))
    (l17 : K.lookup f17 = some ⟨oc17, od17, .func (PySem.W.fnOf "reached_of" "reached_of" (defArgs s_reached_of) (defBody s_reached_of) (defScope s_reached_of) .none kV17 dc17 pm17 an17 cd17 ct17), sl17⟩)
    (c17 : PySem.W.codeIn K cd17 "reached_of" = true)
    (k17 : PySem.W.keepIn K (.ref f17) = true)
    (a18 : PySem.W.nsIn K mainGlobals "_goals" = some (some (.ref f18)))
    (l18 : K.lookup f18 = some ⟨oc18, od18, .func (PySem.W.fnOf "_goals" "_goals" (defArgs s_goals) (defBody s_goals) (defScope s_goals) .none kV18 dc18 pm18 an18 cd18 ct18), sl18⟩)
    (c18 : PySem.W.codeIn K cd18 "_goals" = true)
    (k18 : PySem.W.keepIn K (.ref f18) = true)
    (a19 : PySem.W.nsIn K mainGlobals "_led_to" = some (some (.ref f19)))
    (l19 : K.lookup f19 = some ⟨oc19, od19, .func (PySem.W.fnOf "_led_to" "_led_to" (defArgs s_led_to) (defBody s_led_to) (defScope s_led_to) .none kV19 dc19 pm19 an19 cd19 ct19), sl19⟩)
    (c19 : PySem.W.codeIn K cd19 "_led_to" = true)
    (k19 : PySem.W.keepIn K (.ref f19) = true)
    (a20 : PySem.W.nsIn K mainGlobals "value" = some (some (.ref f20)))
    (l20 : K.lookup f20 = some ⟨oc20, od20, .func (PySem.W.fnOf "value" "value" (defArgs s_value) (defBody s_value) (defScope s_value) .none kV20 dc20 pm20 an20 cd20 ct20), sl20⟩)
    (c20 : PySem.W.codeIn K cd20 "value" = true)
    (k20 : PySem.W.keepIn K (.ref f20) = true)
    (a21 : PySem.W.nsIn K mainGlobals "values" = some (some (.ref f21)))
    (l21 : K.lookup f21 = some ⟨oc21, od21, .func (PySem.W.fnOf "values" "values" (defArgs s_values) (defBody s_values) (defScope s_values) .none kV21 dc21 pm21 an21 cd21 ct21), sl21⟩)
    (c21 : PySem.W.codeIn K cd21 "values" = true)
    (k21 : PySem.W.keepIn K (.ref f21) = true)
    (a22 : PySem.W.nsIn K mainGlobals "plain" = some (some (.ref f22)))
    (l22 : K.lookup f22 = some ⟨oc22, od22, .func (PySem.W.fnOf "plain" "plain" (defArgs s_plain) (defBody s_plain) (defScope s_plain) .none kV22 dc22 pm22 an22 cd22 ct22), sl22⟩)
    (c22 : PySem.W.codeIn K cd22 "plain" = true)
    (k22 : PySem.W.keepIn K (.ref f22) = true)
    (a23 : PySem.W.nsIn K mainGlobals "outcome" = some (some (.ref f23)))
    (l23 : K.lookup f23 = some ⟨oc23, od23, .func (PySem.W.fnOf "outcome" "outcome" (defArgs s_outcome) (defBody s_outcome) (defScope s_outcome) .none kV23 dc23 pm23 an23 cd23 ct23), sl23⟩)
    (c23 : PySem.W.codeIn K cd23 "outcome" = true)
    (k23 : PySem.W.keepIn K (.ref f23) = true)
    (a24 : PySem.W.nsIn K mainGlobals "ends_always" = some (some (.ref f24)))
    (l24 : K.lookup f24 = some ⟨oc24, od24, .func (PySem.W.fnOf "ends_always" "ends_always" (defArgs s_ends_always) (defBody s_ends_always) (defScope s_ends_always) .none kV24 dc24 pm24 an24 cd24 ct24), sl24⟩)
    (c24 : PySem.W.codeIn K cd24 "ends_always" = true)
    (k24 : PySem.W.keepIn K (.ref f24) = true)
    (a25 : PySem.W.nsIn K mainGlobals "words_of_text" = some (some (.ref f25)))
    (l25 : K.lookup f25 = some ⟨oc25, od25, .func (PySem.W.fnOf "words_of_text" "words_of_text" (defArgs s_words_of_text) (defBody s_words_of_text) (defScope s_words_of_text) .none kV25 dc25 pm25 an25 cd25 ct25), sl25⟩)
    (c25 : PySem.W.codeIn K cd25 "words_of_text" = true)
    (k25 : PySem.W.keepIn K (.ref f25) = true)
    (a26 : PySem.W.nsIn K mainGlobals "calls_of_text" = some (some (.ref f26)))
    (l26 : K.lookup f26 = some ⟨oc26, od26, .func (PySem.W.fnOf "calls_of_text" "calls_of_text" (defArgs s_calls_of_text) (defBody s_calls_of_text) (defScope s_calls_of_text) .none kV26 dc26 pm26 an26 cd26 ct26), sl26⟩)
    (c26 : PySem.W.codeIn K cd26 "calls_of_text" = true)
    (k26 : PySem.W.keepIn K (.ref f26) = true)
    (a27 : PySem.W.nsIn K mainGlobals "sizes_of" = some (some (.ref f27)))
    (l27 : K.lookup f27 = some ⟨oc27, od27, .func (PySem.W.fnOf "sizes_of" "sizes_of" (defArgs s_sizes_of) (defBody s_sizes_of) (defScope s_sizes_of) .none kV27 dc27 pm27 an27 cd27 ct27), sl27⟩)
    (c27 : PySem.W.codeIn K cd27 "sizes_of" = true)
    (k27 : PySem.W.keepIn K (.ref f27) = true)
    (a28 : PySem.W.nsIn K mainGlobals "values_of" = some (some (.ref f28)))
    (l28 : K.lookup f28 = some ⟨oc28, od28, .func (PySem.W.fnOf "values_of" "values_of" (defArgs s_values_of) (defBody s_values_of) (defScope s_values_of) .none kV28 dc28 pm28 an28 cd28 ct28), sl28⟩)
    (c28 : PySem.W.codeIn K cd28 "values_of" = true)
    (k28 : PySem.W.keepIn K (.ref f28) = true)
    (a29 : PySem.W.nsIn K mainGlobals "short_values" = some (some (.ref f29)))
    (l29 : K.lookup f29 = some ⟨oc29, od29, .func (PySem.W.fnOf "short_values" "short_values" (defArgs s_short_values) (defBody s_short_values) (defScope s_short_values) .none kV29 dc29 pm29 an29 cd29 ct29), sl29⟩)
    (c29 : PySem.W.codeIn K cd29 "short_values" = true)
    (k29 : PySem.W.keepIn K (.ref f29) = true)
    (a30 : PySem.W.nsIn K mainGlobals "plain_of" = some (some (.ref f30)))
    (l30 : K.lookup f30 = some ⟨oc30, od30, .func (PySem.W.fnOf "plain_of" "plain_of" (defArgs s_plain_of) (defBody s_plain_of) (defScope s_plain_of) .none kV30 dc30 pm30 an30 cd30 ct30), sl30⟩)
    (c30 : PySem.W.codeIn K cd30 "plain_of" = true)
    (k30 : PySem.W.keepIn K (.ref f30) = true)
    (a31 : PySem.W.nsIn K mainGlobals "_plain_move" = some (some (.ref f31)))
    (l31 : K.lookup f31 = some ⟨oc31, od31, .func (PySem.W.fnOf "_plain_move" "_plain_move" (defArgs s_plain_move) (defBody s_plain_move) (defScope s_plain_move) .none kV31 dc31 pm31 an31 cd31 ct31), sl31⟩)
    (c31 : PySem.W.codeIn K cd31 "_plain_move" = true)
    (k31 : PySem.W.keepIn K (.ref f31) = true)
    (a32 : PySem.W.nsIn K mainGlobals "all_calls" = some (some (.ref f32)))
    (l32 : K.lookup f32 = some ⟨oc32, od32, .func (PySem.W.fnOf "all_calls" "all_calls" (defArgs s_all_calls) (defBody s_all_calls) (defScope s_all_calls) .none kV32 dc32 pm32 an32 cd32 ct32), sl32⟩)
    (c32 : PySem.W.codeIn K cd32 "all_calls" = true)
    (k32 : PySem.W.keepIn K (.ref f32) = true)
    (a33 : PySem.W.nsIn K mainGlobals "_measure" = some (some (.ref f33)))
    (l33 : K.lookup f33 = some ⟨oc33, od33, .func (PySem.W.fnOf "_measure" "_measure" (defArgs s_measure) (defBody s_measure) (defScope s_measure) .none kV33 dc33 pm33 an33 cd33 ct33), sl33⟩)
    (c33 : PySem.W.codeIn K cd33 "_measure" = true)
    (k33 : PySem.W.keepIn K (.ref f33) = true)
    (a34 : PySem.W.nsIn K mainGlobals "_read_on" = some (some (.ref f34)))
    (l34 : K.lookup f34 = some ⟨oc34, od34, .func (PySem.W.fnOf "_read_on" "_read_on" (defArgs s_read_on) (defBody s_read_on) (defScope s_read_on) .none kV34 dc34 pm34 an34 cd34 ct34), sl34⟩)
    (c34 : PySem.W.codeIn K cd34 "_read_on" = true)
    (k34 : PySem.W.keepIn K (.ref f34) = true)
    (a35 : PySem.W.nsIn K mainGlobals "_need_value" = some (some (.ref f35)))
    (l35 : K.lookup f35 = some ⟨oc35, od35, .func (PySem.W.fnOf "_need_value" "_need_value" (defArgs s_need_value) (defBody s_need_value) (defScope s_need_value) .none kV35 dc35 pm35 an35 cd35 ct35), sl35⟩)
    (c35 : PySem.W.codeIn K cd35 "_need_value" = true)
    (k35 : PySem.W.keepIn K (.ref f35) = true)
    (a36 : PySem.W.nsIn K mainGlobals "_thread_of" = some (some (.ref f36)))
    (l36 : K.lookup f36 = some ⟨oc36, od36, .func (PySem.W.fnOf "_thread_of" "_thread_of" (defArgs s_thread_of) (defBody s_thread_of) (defScope s_thread_of) .none kV36 dc36 pm36 an36 cd36 ct36), sl36⟩)
    (c36 : PySem.W.codeIn K cd36 "_thread_of" = true)
    (k36 : PySem.W.keepIn K (.ref f36) = true)
    (a37 : PySem.W.nsIn K mainGlobals "_first_without" = some (some (.ref f37)))
    (l37 : K.lookup f37 = some ⟨oc37, od37, .func (PySem.W.fnOf "_first_without" "_first_without" (defArgs s_first_without) (defBody s_first_without) (defScope s_first_without) .none kV37 dc37 pm37 an37 cd37 ct37), sl37⟩)
    (c37 : PySem.W.codeIn K cd37 "_first_without" = true)
    (k37 : PySem.W.keepIn K (.ref f37) = true)
    (a38 : PySem.W.nsIn K mainGlobals "stands" = some (some (.ref f38)))
    (l38 : K.lookup f38 = some ⟨oc38, od38, .func (PySem.W.fnOf "stands" "stands" (defArgs s_stands) (defBody s_stands) (defScope s_stands) .none (.ref D38) dc38 pm38 an38 cd38 ct38), sl38⟩)
    (dk38 : PySem.W.nsIn K D38 "most" = some (some (.int 100 tD38)))
    (c38 : PySem.W.codeIn K cd38 "stands" = true)
    (k38 : PySem.W.keepIn K (.ref f38) = true)
    (a39 : PySem.W.nsIn K mainGlobals "_first_stand" = some (some (.ref f39)))
    (l39 : K.lookup f39 = some ⟨oc39, od39, .func (PySem.W.fnOf "_first_stand" "_first_stand" (defArgs s_first_stand) (defBody s_first_stand) (defScope s_first_stand) .none kV39 dc39 pm39 an39 cd39 ct39), sl39⟩)
    (c39 : PySem.W.codeIn K cd39 "_first_stand" = true)
    (k39 : PySem.W.keepIn K (.ref f39) = true)
    (a40 : PySem.W.nsIn K mainGlobals "_next_stand" = some (some (.ref f40)))
    (l40 : K.lookup f40 = some ⟨oc40, od40, .func (PySem.W.fnOf "_next_stand" "_next_stand" (defArgs s_next_stand) (defBody s_next_stand) (defScope s_next_stand) .none kV40 dc40 pm40 an40 cd40 ct40), sl40⟩)
    (c40 : PySem.W.codeIn K cd40 "_next_stand" = true)
    (k40 : PySem.W.keepIn K (.ref f40) = true)
    (a41 : PySem.W.nsIn K mainGlobals "_law_kneaded" = some (some (.ref f41)))
    (l41 : K.lookup f41 = some ⟨oc41, od41, .func (PySem.W.fnOf "_law_kneaded" "_law_kneaded" (defArgs s_Lkneaded) (defBody s_Lkneaded) (defScope s_Lkneaded) .none kV41 dc41 pm41 an41 cd41 ct41), sl41⟩)
    (c41 : PySem.W.codeIn K cd41 "_law_kneaded" = true)
    (k41 : PySem.W.keepIn K (.ref f41) = true)
    (a42 : PySem.W.nsIn K mainGlobals "_law_pot_of" = some (some (.ref f42)))
    (l42 : K.lookup f42 = some ⟨oc42, od42, .func (PySem.W.fnOf "_law_pot_of" "_law_pot_of" (defArgs s_Lpot_of) (defBody s_Lpot_of) (defScope s_Lpot_of) .none kV42 dc42 pm42 an42 cd42 ct42), sl42⟩)
    (c42 : PySem.W.codeIn K cd42 "_law_pot_of" = true)
    (k42 : PySem.W.keepIn K (.ref f42) = true)
    (a43 : PySem.W.nsIn K mainGlobals "_law_below" = some (some (.ref f43)))
    (l43 : K.lookup f43 = some ⟨oc43, od43, .func (PySem.W.fnOf "_law_below" "_law_below" (defArgs s_Lbelow) (defBody s_Lbelow) (defScope s_Lbelow) .none kV43 dc43 pm43 an43 cd43 ct43), sl43⟩)
    (c43 : PySem.W.codeIn K cd43 "_law_below" = true)
    (k43 : PySem.W.keepIn K (.ref f43) = true)
    (a44 : PySem.W.nsIn K mainGlobals "_law_pick" = some (some (.ref f44)))
    (l44 : K.lookup f44 = some ⟨oc44, od44, .func (PySem.W.fnOf "_law_pick" "_law_pick" (defArgs s_Lpick) (defBody s_Lpick) (defScope s_Lpick) .none kV44 dc44 pm44 an44 cd44 ct44), sl44⟩)
    (c44 : PySem.W.codeIn K cd44 "_law_pick" = true)
    (k44 : PySem.W.keepIn K (.ref f44) = true)
    (a45 : PySem.W.nsIn K mainGlobals "_law_some_word" = some (some (.ref f45)))
    (l45 : K.lookup f45 = some ⟨oc45, od45, .func (PySem.W.fnOf "_law_some_word" "_law_some_word" (defArgs s_Lsome_word) (defBody s_Lsome_word) (defScope s_Lsome_word) .none kV45 dc45 pm45 an45 cd45 ct45), sl45⟩)
    (c45 : PySem.W.codeIn K cd45 "_law_some_word" = true)
    (k45 : PySem.W.keepIn K (.ref f45) = true)
    (a46 : PySem.W.nsIn K mainGlobals "_law_some_expander" = some (some (.ref f46)))
    (l46 : K.lookup f46 = some ⟨oc46, od46, .func (PySem.W.fnOf "_law_some_expander" "_law_some_expander" (defArgs s_Lsome_expander) (defBody s_Lsome_expander) (defScope s_Lsome_expander) .none kV46 dc46 pm46 an46 cd46 ct46), sl46⟩)
    (c46 : PySem.W.codeIn K cd46 "_law_some_expander" = true)
    (k46 : PySem.W.keepIn K (.ref f46) = true)
    (a47 : PySem.W.nsIn K mainGlobals "_law_plainer" = some (some (.ref f47)))
    (l47 : K.lookup f47 = some ⟨oc47, od47, .func (PySem.W.fnOf "_law_plainer" "_law_plainer" (defArgs s_Lplainer) (defBody s_Lplainer) (defScope s_Lplainer) .none kV47 dc47 pm47 an47 cd47 ct47), sl47⟩)
    (c47 : PySem.W.codeIn K cd47 "_law_plainer" = true)
    (k47 : PySem.W.keepIn K (.ref f47) = true)
    (a48 : PySem.W.nsIn K mainGlobals "_law_calls" = some (some (.ref f48)))
    (l48 : K.lookup f48 = some ⟨oc48, od48, .func (PySem.W.fnOf "_law_calls" "_law_calls" (defArgs s_Lcalls) (defBody s_Lcalls) (defScope s_Lcalls) .none kV48 dc48 pm48 an48 cd48 ct48), sl48⟩)
    (c48 : PySem.W.codeIn K cd48 "_law_calls" = true)
    (k48 : PySem.W.keepIn K (.ref f48) = true)
    (a49 : PySem.W.nsIn K mainGlobals "_law_sizes" = some (some (.ref f49)))
    (l49 : K.lookup f49 = some ⟨oc49, od49, .func (PySem.W.fnOf "_law_sizes" "_law_sizes" (defArgs s_Lsizes) (defBody s_Lsizes) (defScope s_Lsizes) .none kV49 dc49 pm49 an49 cd49 ct49), sl49⟩)
    (c49 : PySem.W.codeIn K cd49 "_law_sizes" = true)
    (k49 : PySem.W.keepIn K (.ref f49) = true)
    (a50 : PySem.W.nsIn K mainGlobals "_law_values" = some (some (.ref f50)))
    (l50 : K.lookup f50 = some ⟨oc50, od50, .func (PySem.W.fnOf "_law_values" "_law_values" (defArgs s_Lvalues) (defBody s_Lvalues) (defScope s_Lvalues) .none kV50 dc50 pm50 an50 cd50 ct50), sl50⟩)
    (c50 : PySem.W.codeIn K cd50 "_law_values" = true)
    (k50 : PySem.W.keepIn K (.ref f50) = true)
    (a51 : PySem.W.nsIn K mainGlobals "_law_outcome" = some (some (.ref f51)))
    (l51 : K.lookup f51 = some ⟨oc51, od51, .func (PySem.W.fnOf "_law_outcome" "_law_outcome" (defArgs s_Loutcome) (defBody s_Loutcome) (defScope s_Loutcome) .none kV51 dc51 pm51 an51 cd51 ct51), sl51⟩)
    (c51 : PySem.W.codeIn K cd51 "_law_outcome" = true)
    (k51 : PySem.W.keepIn K (.ref f51) = true)
    (a52 : PySem.W.nsIn K mainGlobals "_law_texts" = some (some (.ref f52)))
    (l52 : K.lookup f52 = some ⟨oc52, od52, .func (PySem.W.fnOf "_law_texts" "_law_texts" (defArgs s_Ltexts) (defBody s_Ltexts) (defScope s_Ltexts) .none kV52 dc52 pm52 an52 cd52 ct52), sl52⟩)
    (c52 : PySem.W.codeIn K cd52 "_law_texts" = true)
    (k52 : PySem.W.keepIn K (.ref f52) = true)
    (a53 : PySem.W.nsIn K mainGlobals "_law_told" = some (some (.ref f53)))
    (l53 : K.lookup f53 = some ⟨oc53, od53, .func (PySem.W.fnOf "_law_told" "_law_told" (defArgs s_Ltold) (defBody s_Ltold) (defScope s_Ltold) .none kV53 dc53 pm53 an53 cd53 ct53), sl53⟩)
    (c53 : PySem.W.codeIn K cd53 "_law_told" = true)
    (k53 : PySem.W.keepIn K (.ref f53) = true)
    (a54 : PySem.W.nsIn K mainGlobals "_law_run_right" = some (some (.ref f54)))
    (l54 : K.lookup f54 = some ⟨oc54, od54, .func (PySem.W.fnOf "_law_run_right" "_law_run_right" (defArgs s_Lrun_right) (defBody s_Lrun_right) (defScope s_Lrun_right) .none kV54 dc54 pm54 an54 cd54 ct54), sl54⟩)
    (c54 : PySem.W.codeIn K cd54 "_law_run_right" = true)
    (k54 : PySem.W.keepIn K (.ref f54) = true)
    (a55 : PySem.W.nsIn K mainGlobals "_law_values_right" = some (some (.ref f55)))
    (l55 : K.lookup f55 = some ⟨oc55, od55, .func (PySem.W.fnOf "_law_values_right" "_law_values_right" (defArgs s_Lvalues_right) (defBody s_Lvalues_right) (defScope s_Lvalues_right) .none kV55 dc55 pm55 an55 cd55 ct55), sl55⟩)
    (c55 : PySem.W.codeIn K cd55 "_law_values_right" = true)
    (k55 : PySem.W.keepIn K (.ref f55) = true)
    (a56 : PySem.W.nsIn K mainGlobals "law" = some (some (.ref f56)))
    (l56 : K.lookup f56 = some ⟨oc56, od56, .func (PySem.W.fnOf "law" "law" (defArgs s_law) (defBody s_law) (defScope s_law) .none kV56 dc56 pm56 an56 cd56 ct56), sl56⟩)
    (c56 : PySem.W.codeIn K cd56 "law" = true)
    (k56 : PySem.W.keepIn K (.ref f56) = true)
    (z_abs : PySem.W.nsIn K mainGlobals "abs" = some none)
    (z_all : PySem.W.nsIn K mainGlobals "all" = some none)
    (z_any : PySem.W.nsIn K mainGlobals "any" = some none)
    (z_bool : PySem.W.nsIn K mainGlobals "bool" = some none)
    (z_dict : PySem.W.nsIn K mainGlobals "dict" = some none)
    (z_enumerate : PySem.W.nsIn K mainGlobals "enumerate" = some none)
    (z_int : PySem.W.nsIn K mainGlobals "int" = some none)
    (z_isinstance : PySem.W.nsIn K mainGlobals "isinstance" = some none)
    (z_len : PySem.W.nsIn K mainGlobals "len" = some none)
    (z_list : PySem.W.nsIn K mainGlobals "list" = some none)
    (z_max : PySem.W.nsIn K mainGlobals "max" = some none)
    (z_range : PySem.W.nsIn K mainGlobals "range" = some none)
    (z_repr : PySem.W.nsIn K mainGlobals "repr" = some none)
    (z_set : PySem.W.nsIn K mainGlobals "set" = some none)
    (z_sorted : PySem.W.nsIn K mainGlobals "sorted" = some none)
    (z_str : PySem.W.nsIn K mainGlobals "str" = some none)
    (z_sum : PySem.W.nsIn K mainGlobals "sum" = some none)
    (z_tuple : PySem.W.nsIn K mainGlobals "tuple" = some none)
    (m_LETTERS : PySem.W.nsIn K mainGlobals "LETTERS" = some (some (.str "abcdefghijklmnopqrstuvwxyz" t_LETTERS)))
    (m_MOST_SIGNS : PySem.W.nsIn K mainGlobals "MOST_SIGNS" = some (some (.int 4 t_MOST_SIGNS)))
    (m_MOST_STATES : PySem.W.nsIn K mainGlobals "MOST_STATES" = some (some (.int 60 t_MOST_STATES)))
    (m_MOST_TEXT : PySem.W.nsIn K mainGlobals "MOST_TEXT" = some (some (.int 200 t_MOST_TEXT)))
    (m_MOST_WORD : PySem.W.nsIn K mainGlobals "MOST_WORD" = some (some (.int 2000 t_MOST_WORD)))
    (n_NoExpander : PySem.W.nsIn K mainGlobals "NoExpander" = some (some (.ref c_NoExpander)))
    (n_NoText : PySem.W.nsIn K mainGlobals "NoText" = some (some (.ref c_NoText)))
    (n_NoCall : PySem.W.nsIn K mainGlobals "NoCall" = some (some (.ref c_NoCall)))
    (n_NoOutcome : PySem.W.nsIn K mainGlobals "NoOutcome" = some (some (.ref c_NoOutcome)))
    (n_TooMany : PySem.W.nsIn K mainGlobals "TooMany" = some (some (.ref c_TooMany)))
    (xi_NoExpander : PySem.W.excIn K c_NoExpander [.type "ValueError", .type "Exception", .type "BaseException", .type "object"] "ValueError.__new__" = true)
    (kc_NoExpander : PySem.W.keepIn K (.ref c_NoExpander) = true)
    (b_NoExpander : PySem.W.subIn K (.ref c_NoExpander) (.type "BaseException") = some true)
    (t_NoExpander : PySem.W.typeIn K (.ref c_NoExpander) = some (.type "type"))
    (ic_NoExpander : PySem.W.isClsIn K c_NoExpander = true)
    (xi_NoText : PySem.W.excIn K c_NoText [.type "ValueError", .type "Exception", .type "BaseException", .type "object"] "ValueError.__new__" = true)
    (kc_NoText : PySem.W.keepIn K (.ref c_NoText) = true)
    (b_NoText : PySem.W.subIn K (.ref c_NoText) (.type "BaseException") = some true)
    (t_NoText : PySem.W.typeIn K (.ref c_NoText) = some (.type "type"))
    (ic_NoText : PySem.W.isClsIn K c_NoText = true)
    (xi_NoCall : PySem.W.excIn K c_NoCall [.type "ValueError", .type "Exception", .type "BaseException", .type "object"] "ValueError.__new__" = true)
    (kc_NoCall : PySem.W.keepIn K (.ref c_NoCall) = true)
    (b_NoCall : PySem.W.subIn K (.ref c_NoCall) (.type "BaseException") = some true)
    (t_NoCall : PySem.W.typeIn K (.ref c_NoCall) = some (.type "type"))
    (ic_NoCall : PySem.W.isClsIn K c_NoCall = true)
    (hg_NoOutcome : PySem.W.findIn K (.ref c_NoOutcome) "__getattribute__" = some (some (.builtin "BaseException.__getattribute__")))
    (hk_NoOutcome : PySem.W.findIn K (.ref c_NoOutcome) "__getattr__" = some none)
    (b_NoOutcome : PySem.W.subIn K (.ref c_NoOutcome) (.type "BaseException") = some true)
    (hd_NoOutcome : PySem.W.hasDictIn K c_NoOutcome = true)
    (t_NoOutcome : PySem.W.typeIn K (.ref c_NoOutcome) = some (.type "type"))
    (ic_NoOutcome : PySem.W.isClsIn K c_NoOutcome = true)
    (nf_NoOutcome_kind : PySem.W.findIn K (.ref c_NoOutcome) "kind" = some none)
    (nf_NoOutcome_thread : PySem.W.findIn K (.ref c_NoOutcome) "thread" = some none)
    (xl_NoOutcome : K.lookup c_NoOutcome = some (excClassObj nm_NoOutcome q_NoOutcome c_NoOutcome N_NoOutcome bs_NoOutcome [.ref c_ScanError, .type "ValueError", .type "Exception", .type "BaseException", .type "object"] true sn_NoOutcome sub_NoOutcome ab_NoOutcome col_NoOutcome dd_NoOutcome m0_NoOutcome m1_NoOutcome m2_NoOutcome m3_NoOutcome m5_NoOutcome "ValueError.__new__"))
    (sa_NoOutcome : PySem.W.findIn K (.ref c_NoOutcome) "__setattr__" = some (some (.builtin "object.__setattr__")))
    (kc_NoOutcome : PySem.W.keepIn K (.ref c_NoOutcome) = true)
    (ii_NoOutcome : PySem.W.findIn K (.ref c_NoOutcome) "__init__" = some (some (.ref i_NoOutcome)))
    (it_NoOutcome : PySem.W.typeIn K (.ref i_NoOutcome) = some (.type "function"))
    (il_NoOutcome : K.lookup i_NoOutcome = some ⟨ioc_NoOutcome, iod_NoOutcome, .func (PySem.W.fnOf "__init__" "NoOutcome.__init__" (defArgs (inClass (top 3) 0)) (defBody (inClass (top 3) 0)) (defScope (inClass (top 3) 0)) .none ikV_NoOutcome idc_NoOutcome ipm_NoOutcome ian_NoOutcome icd_NoOutcome ict_NoOutcome), isl_NoOutcome⟩)
    (icd_NoOutcome : PySem.W.codeIn K icd_NoOutcome "NoOutcome.__init__" = true)
    (ik_NoOutcome : PySem.W.keepIn K (.ref i_NoOutcome) = true)
    (hg_TooMany : PySem.W.findIn K (.ref c_TooMany) "__getattribute__" = some (some (.builtin "BaseException.__getattribute__")))
    (hk_TooMany : PySem.W.findIn K (.ref c_TooMany) "__getattr__" = some none)
    (b_TooMany : PySem.W.subIn K (.ref c_TooMany) (.type "BaseException") = some true)
    (hd_TooMany : PySem.W.hasDictIn K c_TooMany = true)
    (t_TooMany : PySem.W.typeIn K (.ref c_TooMany) = some (.type "type"))
    (ic_TooMany : PySem.W.isClsIn K c_TooMany = true)
    (nf_TooMany_limit : PySem.W.findIn K (.ref c_TooMany) "limit" = some none)
    (xl_TooMany : K.lookup c_TooMany = some (excClassObj nm_TooMany q_TooMany c_TooMany N_TooMany bs_TooMany [.ref c_ScanError, .type "ValueError", .type "Exception", .type "BaseException", .type "object"] true sn_TooMany sub_TooMany ab_TooMany col_TooMany dd_TooMany m0_TooMany m1_TooMany m2_TooMany m3_TooMany m5_TooMany "ValueError.__new__"))
    (sa_TooMany : PySem.W.findIn K (.ref c_TooMany) "__setattr__" = some (some (.builtin "object.__setattr__")))
    (kc_TooMany : PySem.W.keepIn K (.ref c_TooMany) = true)
    (ii_TooMany : PySem.W.findIn K (.ref c_TooMany) "__init__" = some (some (.ref i_TooMany)))
    (it_TooMany : PySem.W.typeIn K (.ref i_TooMany) = some (.type "function"))
    (il_TooMany : K.lookup i_TooMany = some ⟨ioc_TooMany, iod_TooMany, .func (PySem.W.fnOf "__init__" "TooMany.__init__" (defArgs (inClass (top 2) 0)) (defBody (inClass (top 2) 0)) (defScope (inClass (top 2) 0)) .none ikV_TooMany idc_TooMany ipm_TooMany ian_TooMany icd_TooMany ict_TooMany), isl_TooMany⟩)
    (icd_TooMany : PySem.W.codeIn K icd_TooMany "TooMany.__init__" = true)
    (ik_TooMany : PySem.W.keepIn K (.ref i_TooMany) = true)
    (s_NoOutcome_NoOutcome : PySem.W.subIn K (.ref c_NoOutcome) (.ref c_NoOutcome) = some true)
    (s_TooMany_TooMany : PySem.W.subIn K (.ref c_TooMany) (.ref c_TooMany) = some true)
    : ∃ fd : FuncData, (∀ (s : Shared) (v : Value), BindsTo s fd ⟨[v], []⟩ [("script", v)]) ∧ ∀ base : Heap, K.In base → base.Ns mainGlobals mg → FnG l.prog w K mg base CX0 10 fa fd ["script"] (sp_law K) := by
  have e := hfa.symm.trans (PySem.W.mg_of X G a56)
  cases e
  have F0 := fun_mk (st := s_is_word) l0 c0 k0
  have b0 := F0.binds (ps := ["signs", "thing"]) fun _ _ _ _ _ _ us hl => match us, hl with | [_, _], _ => rfl
  have F1 := fun_mk (st := s_is_text) l1 c1 k1
  have b1 := F1.binds (ps := ["signs", "thing"]) fun _ _ _ _ _ _ us hl => match us, hl with | [_, _], _ => rfl
  have F2 := fun_mk (st := s_need_text) l2 c2 k2
  have b2 := F2.binds (ps := ["signs", "thing"]) fun _ _ _ _ _ _ us hl => match us, hl with | [_, _], _ => rfl
  have F3 := fun_mk (st := s_is_expander) l3 c3 k3
  have b3 := F3.binds (ps := ["thing"]) fun _ _ _ _ _ _ us hl => match us, hl with | [_], _ => rfl
  have F4 := fun_mk (st := s_need_expander) l4 c4 k4
  have b4 := F4.binds (ps := ["expander"]) fun _ _ _ _ _ _ us hl => match us, hl with | [_], _ => rfl
  have F5 := fun_mk (st := s_is_plain) l5 c5 k5
  have b5 := F5.binds (ps := ["expander"]) fun _ _ _ _ _ _ us hl => match us, hl with | [_], _ => rfl
  have F6 := fun_mk (st := s_need_call) l6 c6 k6
  have b6 := F6.binds (ps := ["expander", "state", "sign"]) fun _ _ _ _ _ _ us hl => match us, hl with | [_, _, _], _ => rfl
  have F7 := fun_mk (st := s_is_call) l7 c7 k7
  have b7 := F7.binds (ps := ["expander", "state", "sign"]) fun _ _ _ _ _ _ us hl => match us, hl with | [_, _, _], _ => rfl
  have F8 := fun_mk (st := s_is_sign) l8 c8 k8
  have b8 := F8.binds (ps := ["signs", "thing"]) fun _ _ _ _ _ _ us hl => match us, hl with | [_, _], _ => rfl
  have F9 := fun_mk (st := s_is_number) l9 c9 k9
  have b9 := F9.binds (ps := ["many", "thing"]) fun _ _ _ _ _ _ us hl => match us, hl with | [_, _], _ => rfl
  have F10 := fun_mk (st := s_is_whole) l10 c10 k10
  have b10 := F10.binds (ps := ["thing"]) fun _ _ _ _ _ _ us hl => match us, hl with | [_], _ => rfl
  have F11 := fun_mk (st := s_move_of) l11 c11 k11
  have b11 := F11.binds (ps := ["expander", "state", "sign"]) fun _ _ _ _ _ _ us hl => match us, hl with | [_, _, _], _ => rfl
  have F12 := fun_mk (st := s_are_signs) l12 c12 k12
  have b12 := F12.binds (ps := ["thing"]) fun _ _ _ _ _ _ us hl => match us, hl with | [_], _ => rfl
  have F13 := fun_mk (st := s_is_short_word) l13 c13 k13
  have b13 := F13.binds (ps := ["signs", "thing"]) fun _ _ _ _ _ _ us hl => match us, hl with | [_, _], _ => rfl
  have F14 := fun_mk (st := s_are_states) l14 c14 k14
  have b14 := F14.binds (ps := ["signs", "thing"]) fun _ _ _ _ _ _ us hl => match us, hl with | [_, _], _ => rfl
  have F15 := fun_mk (st := s_is_state) l15 c15 k15
  have b15 := F15.binds (ps := ["signs", "many", "thing"]) fun _ _ _ _ _ _ us hl => match us, hl with | [_, _, _], _ => rfl
  have F16 := fun_mk (st := s_is_move) l16 c16 k16
  have b16 := F16.binds (ps := ["signs", "many", "thing"]) fun _ _ _ _ _ _ us hl => match us, hl with | [_, _, _], _ => rfl
  have F17 := fun_mk (st := s_reached_of) l17 c17 k17
  have b17 := F17.binds (ps := ["states"]) fun _ _ _ _ _ _ us hl => match us, hl with | [_], _ => rfl
  have F18 := fun_mk (st := s_goals) l18 c18 k18
  have b18 := F18.binds (ps := ["states"]) fun _ _ _ _ _ _ us hl => match us, hl with | [_], _ => rfl
  have F19 := fun_mk (st := s_led_to) l19 c19 k19
  have b19 := F19.binds (ps := ["following", "begin"]) fun _ _ _ _ _ _ us hl => match us, hl with | [_, _], _ => rfl
  have F20 := fun_mk (st := s_value) l20 c20 k20
  have b20 := F20.binds (ps := ["expander", "state", "sign"]) fun _ _ _ _ _ _ us hl => match us, hl with | [_, _, _], _ => rfl
  have F21 := fun_mk (st := s_values) l21 c21 k21
  have b21 := F21.binds (ps := ["expander"]) fun _ _ _ _ _ _ us hl => match us, hl with | [_], _ => rfl
  have F22 := fun_mk (st := s_plain) l22 c22 k22
  have b22 := F22.binds (ps := ["expander"]) fun _ _ _ _ _ _ us hl => match us, hl with | [_], _ => rfl
  have F23 := fun_mk (st := s_outcome) l23 c23 k23
  have b23 := F23.binds (ps := ["expander", "text"]) fun _ _ _ _ _ _ us hl => match us, hl with | [_, _], _ => rfl
  have F24 := fun_mk (st := s_ends_always) l24 c24 k24
  have b24 := F24.binds (ps := ["expander"]) fun _ _ _ _ _ _ us hl => match us, hl with | [_], _ => rfl
  have F25 := fun_mk (st := s_words_of_text) l25 c25 k25
  have b25 := F25.binds (ps := ["expander", "found", "text"]) fun _ _ _ _ _ _ us hl => match us, hl with | [_, _, _], _ => rfl
  have F26 := fun_mk (st := s_calls_of_text) l26 c26 k26
  have b26 := F26.binds (ps := ["expander", "found", "text"]) fun _ _ _ _ _ _ us hl => match us, hl with | [_, _, _], _ => rfl
  have F27 := fun_mk (st := s_sizes_of) l27 c27 k27
  have b27 := F27.binds (ps := ["expander"]) fun _ _ _ _ _ _ us hl => match us, hl with | [_], _ => rfl
  have F28 := fun_mk (st := s_values_of) l28 c28 k28
  have b28 := F28.binds (ps := ["expander"]) fun _ _ _ _ _ _ us hl => match us, hl with | [_], _ => rfl
  have F29 := fun_mk (st := s_short_values) l29 c29 k29
  have b29 := F29.binds (ps := ["expander", "sizes"]) fun _ _ _ _ _ _ us hl => match us, hl with | [_, _], _ => rfl
  have F30 := fun_mk (st := s_plain_of) l30 c30 k30
  have b30 := F30.binds (ps := ["expander"]) fun _ _ _ _ _ _ us hl => match us, hl with | [_], _ => rfl
  have F31 := fun_mk (st := s_plain_move) l31 c31 k31
  have b31 := F31.binds (ps := ["told"]) fun _ _ _ _ _ _ us hl => match us, hl with | [_], _ => rfl
  have F32 := fun_mk (st := s_all_calls) l32 c32 k32
  have b32 := F32.binds (ps := ["expander"]) fun _ _ _ _ _ _ us hl => match us, hl with | [_], _ => rfl
  have F33 := fun_mk (st := s_measure) l33 c33 k33
  have b33 := F33.binds (ps := ["expander", "found", "opened", "call"]) fun _ _ _ _ _ _ us hl => match us, hl with | [_, _, _, _], _ => rfl
  have F34 := fun_mk (st := s_read_on) l34 c34 k34
  have b34 := F34.binds (ps := ["expander", "found", "row"]) fun _ _ _ _ _ _ us hl => match us, hl with | [_, _, _], _ => rfl
  have F35 := fun_mk (st := s_need_value) l35 c35 k35
  have b35 := F35.binds (ps := ["expander", "found", "call"]) fun _ _ _ _ _ _ us hl => match us, hl with | [_, _, _], _ => rfl
  have F36 := fun_mk (st := s_thread_of) l36 c36 k36
  have b36 := F36.binds (ps := ["expander", "found", "call"]) fun _ _ _ _ _ _ us hl => match us, hl with | [_, _, _], _ => rfl
  have F37 := fun_mk (st := s_first_without) l37 c37 k37
  have b37 := F37.binds (ps := ["expander", "found", "call"]) fun _ _ _ _ _ _ us hl => match us, hl with | [_, _, _], _ => rfl
  have F38 := fun_mk (st := s_stands) l38 c38 k38
  have FD38 : FunD K "stands" "stands" (defArgs s_stands) (defBody s_stands) (defScope s_stands) [] [("most", .int 100)] f38 _ := ⟨⟨_, _, _, _, _, _, _, _, _, _, rfl, l38, c38, .inl ⟨rfl, rfl⟩, .inr ⟨D38, rfl, fun q hq => by rw [List.mem_singleton.mp hq]; exact ⟨_, dk38, _, rfl⟩⟩⟩, k38⟩
  obtain ⟨ds38, dv38, b38⟩ := FD38.binds0 (ps := ["expander", "text", "most"]) 2 (by simp) rfl fun D doc pm an cdv ct us ks l1 l2 => match us, ks, l1, l2 with | [_, _], [_], _, _ => ⟨_, _, _, _, _, _, rfl, rfl, rfl⟩
  obtain ⟨_, kb38⟩ := FD38.kbinds0 (ps := ["expander", "text", "most"]) 2 ["most"] [] (fun us _ ws => us ++ ws) (by simp) (fun q hq => nomatch hq) (fun r1 _ r2 => r1.append r2) fun D doc pm an cdv ct us mv ws l1 l2 l3 => match us, mv, ws, l1, l2, l3 with | [_, _], [], [_], _, _, _ => rfl
  have F39 := fun_mk (st := s_first_stand) l39 c39 k39
  have b39 := F39.binds (ps := ["expander", "text"]) fun _ _ _ _ _ _ us hl => match us, hl with | [_, _], _ => rfl
  have F40 := fun_mk (st := s_next_stand) l40 c40 k40
  have b40 := F40.binds (ps := ["expander", "stand"]) fun _ _ _ _ _ _ us hl => match us, hl with | [_, _], _ => rfl
  have F41 := fun_mk (st := s_Lkneaded) l41 c41 k41
  have b41 := F41.binds (ps := ["seed", "lap"]) fun _ _ _ _ _ _ us hl => match us, hl with | [_, _], _ => rfl
  have F42 := fun_mk (st := s_Lpot_of) l42 c42 k42
  have b42 := F42.binds (ps := ["script"]) fun _ _ _ _ _ _ us hl => match us, hl with | [_], _ => rfl
  have F43 := fun_mk (st := s_Lbelow) l43 c43 k43
  have b43 := F43.binds (ps := ["pot", "bound"]) fun _ _ _ _ _ _ us hl => match us, hl with | [_, _], _ => rfl
  have F44 := fun_mk (st := s_Lpick) l44 c44 k44
  have b44 := F44.binds (ps := ["pot", "items"]) fun _ _ _ _ _ _ us hl => match us, hl with | [_, _], _ => rfl
  have F45 := fun_mk (st := s_Lsome_word) l45 c45 k45
  have b45 := F45.binds (ps := ["pot", "signs", "limit"]) fun _ _ _ _ _ _ us hl => match us, hl with | [_, _, _], _ => rfl
  have F46 := fun_mk (st := s_Lsome_expander) l46 c46 k46
  have b46 := F46.binds (ps := ["pot", "many"]) fun _ _ _ _ _ _ us hl => match us, hl with | [_, _], _ => rfl
  have F47 := fun_mk (st := s_Lplainer) l47 c47 k47
  have b47 := F47.binds (ps := ["state"]) fun _ _ _ _ _ _ us hl => match us, hl with | [_], _ => rfl
  have F48 := fun_mk (st := s_Lcalls) l48 c48 k48
  have b48 := F48.binds (ps := ["expander"]) fun _ _ _ _ _ _ us hl => match us, hl with | [_], _ => rfl
  have F49 := fun_mk (st := s_Lsizes) l49 c49 k49
  have b49 := F49.binds (ps := ["expander"]) fun _ _ _ _ _ _ us hl => match us, hl with | [_], _ => rfl
  have F50 := fun_mk (st := s_Lvalues) l50 c50 k50
  have b50 := F50.binds (ps := ["expander"]) fun _ _ _ _ _ _ us hl => match us, hl with | [_], _ => rfl
  have F51 := fun_mk (st := s_Loutcome) l51 c51 k51
  have b51 := F51.binds (ps := ["expander", "known", "text"]) fun _ _ _ _ _ _ us hl => match us, hl with | [_, _, _], _ => rfl
  have F52 := fun_mk (st := s_Ltexts) l52 c52 k52
  have b52 := F52.binds (ps := ["signs", "limit"]) fun _ _ _ _ _ _ us hl => match us, hl with | [_, _], _ => rfl
  have F53 := fun_mk (st := s_Ltold) l53 c53 k53
  have b53 := F53.binds (ps := ["expander", "text"]) fun _ _ _ _ _ _ us hl => match us, hl with | [_, _], _ => rfl
  have F54 := fun_mk (st := s_Lrun_right) l54 c54 k54
  have b54 := F54.binds (ps := ["expander", "text", "due"]) fun _ _ _ _ _ _ us hl => match us, hl with | [_, _, _], _ => rfl
  have F55 := fun_mk (st := s_Lvalues_right) l55 c55 k55
  have b55 := F55.binds (ps := ["expander", "known"]) fun _ _ _ _ _ _ us hl => match us, hl with | [_, _], _ => rfl
  have F56 := fun_mk (st := s_law) l56 c56 k56
  have b56 := F56.binds (ps := ["script"]) fun _ _ _ _ _ _ us hl => match us, hl with | [_], _ => rfl
  exact ⟨_, fun s v => .of_eq rfl, fun base _ _ => ok_law {
    a_is_word := f0
    fd_is_word := _
    g_is_word := PySem.W.mg_of X G a0
    F_is_word := F0
    b_is_word := b0
    a_is_text := f1
    fd_is_text := _
    g_is_text := PySem.W.mg_of X G a1
    F_is_text := F1
    b_is_text := b1
    a_need_text := f2
    fd_need_text := _
    g_need_text := PySem.W.mg_of X G a2
    F_need_text := F2
    b_need_text := b2
    a_is_expander := f3
    fd_is_expander := _
    g_is_expander := PySem.W.mg_of X G a3
    F_is_expander := F3
    b_is_expander := b3
    a_need_expander := f4
    fd_need_expander := _
    g_need_expander := PySem.W.mg_of X G a4
    F_need_expander := F4
    b_need_expander := b4
    a_is_plain := f5
    fd_is_plain := _
    g_is_plain := PySem.W.mg_of X G a5
    F_is_plain := F5
    b_is_plain := b5
    a_need_call := f6
    fd_need_call := _
    g_need_call := PySem.W.mg_of X G a6
    F_need_call := F6
    b_need_call := b6
    a_is_call := f7
    fd_is_call := _
    g_is_call := PySem.W.mg_of X G a7
    F_is_call := F7
    b_is_call := b7
    a_is_sign := f8
    fd_is_sign := _
    g_is_sign := PySem.W.mg_of X G a8
    F_is_sign := F8
    b_is_sign := b8
    a_is_number := f9
    fd_is_number := _
    g_is_number := PySem.W.mg_of X G a9
    F_is_number := F9
    b_is_number := b9
    a_is_whole := f10
    fd_is_whole := _
    g_is_whole := PySem.W.mg_of X G a10
    F_is_whole := F10
    b_is_whole := b10
    a_move_of := f11
    fd_move_of := _
    g_move_of := PySem.W.mg_of X G a11
    F_move_of := F11
    b_move_of := b11
    a__are_signs := f12
    fd__are_signs := _
    g__are_signs := PySem.W.mg_of X G a12
    F__are_signs := F12
    b__are_signs := b12
    a__is_short_word := f13
    fd__is_short_word := _
    g__is_short_word := PySem.W.mg_of X G a13
    F__is_short_word := F13
    b__is_short_word := b13
    a__are_states := f14
    fd__are_states := _
    g__are_states := PySem.W.mg_of X G a14
    F__are_states := F14
    b__are_states := b14
    a__is_state := f15
    fd__is_state := _
    g__is_state := PySem.W.mg_of X G a15
    F__is_state := F15
    b__is_state := b15
    a__is_move := f16
    fd__is_move := _
    g__is_move := PySem.W.mg_of X G a16
    F__is_move := F16
    b__is_move := b16
    a_reached_of := f17
    fd_reached_of := _
    g_reached_of := PySem.W.mg_of X G a17
    F_reached_of := F17
    b_reached_of := b17
    a__goals := f18
    fd__goals := _
    g__goals := PySem.W.mg_of X G a18
    F__goals := F18
    b__goals := b18
    a__led_to := f19
    fd__led_to := _
    g__led_to := PySem.W.mg_of X G a19
    F__led_to := F19
    b__led_to := b19
    a_value := f20
    fd_value := _
    g_value := PySem.W.mg_of X G a20
    F_value := F20
    b_value := b20
    a_values := f21
    fd_values := _
    g_values := PySem.W.mg_of X G a21
    F_values := F21
    b_values := b21
    a_plain := f22
    fd_plain := _
    g_plain := PySem.W.mg_of X G a22
    F_plain := F22
    b_plain := b22
    a_outcome := f23
    fd_outcome := _
    g_outcome := PySem.W.mg_of X G a23
    F_outcome := F23
    b_outcome := b23
    a_ends_always := f24
    fd_ends_always := _
    g_ends_always := PySem.W.mg_of X G a24
    F_ends_always := F24
    b_ends_always := b24
    a_words_of_text := f25
    fd_words_of_text := _
    g_words_of_text := PySem.W.mg_of X G a25
    F_words_of_text := F25
    b_words_of_text := b25
    a_calls_of_text := f26
    fd_calls_of_text := _
    g_calls_of_text := PySem.W.mg_of X G a26
    F_calls_of_text := F26
    b_calls_of_text := b26
    a_sizes_of := f27
    fd_sizes_of := _
    g_sizes_of := PySem.W.mg_of X G a27
    F_sizes_of := F27
    b_sizes_of := b27
    a_values_of := f28
    fd_values_of := _
    g_values_of := PySem.W.mg_of X G a28
    F_values_of := F28
    b_values_of := b28
    a_short_values := f29
    fd_short_values := _
    g_short_values := PySem.W.mg_of X G a29
    F_short_values := F29
    b_short_values := b29
    a_plain_of := f30
    fd_plain_of := _
    g_plain_of := PySem.W.mg_of X G a30
    F_plain_of := F30
    b_plain_of := b30
    a__plain_move := f31
    fd__plain_move := _
    g__plain_move := PySem.W.mg_of X G a31
    F__plain_move := F31
    b__plain_move := b31
    a_all_calls := f32
    fd_all_calls := _
    g_all_calls := PySem.W.mg_of X G a32
    F_all_calls := F32
    b_all_calls := b32
    a__measure := f33
    fd__measure := _
    g__measure := PySem.W.mg_of X G a33
    F__measure := F33
    b__measure := b33
    a__read_on := f34
    fd__read_on := _
    g__read_on := PySem.W.mg_of X G a34
    F__read_on := F34
    b__read_on := b34
    a__need_value := f35
    fd__need_value := _
    g__need_value := PySem.W.mg_of X G a35
    F__need_value := F35
    b__need_value := b35
    a__thread_of := f36
    fd__thread_of := _
    g__thread_of := PySem.W.mg_of X G a36
    F__thread_of := F36
    b__thread_of := b36
    a__first_without := f37
    fd__first_without := _
    g__first_without := PySem.W.mg_of X G a37
    F__first_without := F37
    b__first_without := b37
    a_stands := f38
    fd_stands := _
    g_stands := PySem.W.mg_of X G a38
    F_stands := F38
    b_stands := b38
    ds_stands := ds38
    dv_stands := dv38
    kb_stands := kb38
    a__first_stand := f39
    fd__first_stand := _
    g__first_stand := PySem.W.mg_of X G a39
    F__first_stand := F39
    b__first_stand := b39
    a__next_stand := f40
    fd__next_stand := _
    g__next_stand := PySem.W.mg_of X G a40
    F__next_stand := F40
    b__next_stand := b40
    a__law_kneaded := f41
    fd__law_kneaded := _
    g__law_kneaded := PySem.W.mg_of X G a41
    F__law_kneaded := F41
    b__law_kneaded := b41
    a__law_pot_of := f42
    fd__law_pot_of := _
    g__law_pot_of := PySem.W.mg_of X G a42
    F__law_pot_of := F42
    b__law_pot_of := b42
    a__law_below := f43
    fd__law_below := _
    g__law_below := PySem.W.mg_of X G a43
    F__law_below := F43
    b__law_below := b43
    a__law_pick := f44
    fd__law_pick := _
    g__law_pick := PySem.W.mg_of X G a44
    F__law_pick := F44
    b__law_pick := b44
    a__law_some_word := f45
    fd__law_some_word := _
    g__law_some_word := PySem.W.mg_of X G a45
    F__law_some_word := F45
    b__law_some_word := b45
    a__law_some_expander := f46
    fd__law_some_expander := _
    g__law_some_expander := PySem.W.mg_of X G a46
    F__law_some_expander := F46
    b__law_some_expander := b46
    a__law_plainer := f47
    fd__law_plainer := _
    g__law_plainer := PySem.W.mg_of X G a47
    F__law_plainer := F47
    b__law_plainer := b47
    a__law_calls := f48
    fd__law_calls := _
    g__law_calls := PySem.W.mg_of X G a48
    F__law_calls := F48
    b__law_calls := b48
    a__law_sizes := f49
    fd__law_sizes := _
    g__law_sizes := PySem.W.mg_of X G a49
    F__law_sizes := F49
    b__law_sizes := b49
    a__law_values := f50
    fd__law_values := _
    g__law_values := PySem.W.mg_of X G a50
    F__law_values := F50
    b__law_values := b50
    a__law_outcome := f51
    fd__law_outcome := _
    g__law_outcome := PySem.W.mg_of X G a51
    F__law_outcome := F51
    b__law_outcome := b51
    a__law_texts := f52
    fd__law_texts := _
    g__law_texts := PySem.W.mg_of X G a52
    F__law_texts := F52
    b__law_texts := b52
    a__law_told := f53
    fd__law_told := _
    g__law_told := PySem.W.mg_of X G a53
    F__law_told := F53
    b__law_told := b53
    a__law_run_right := f54
    fd__law_run_right := _
    g__law_run_right := PySem.W.mg_of X G a54
    F__law_run_right := F54
    b__law_run_right := b54
    a__law_values_right := f55
    fd__law_values_right := _
    g__law_values_right := PySem.W.mg_of X G a55
    F__law_values_right := F55
    b__law_values_right := b55
    a_law := fa
    fd_law := _
    g_law := PySem.W.mg_of X G a56
    F_law := F56
    b_law := b56
    z_abs := PySem.W.mg_none_of X G z_abs
    z_all := PySem.W.mg_none_of X G z_all
    z_any := PySem.W.mg_none_of X G z_any
    z_bool := PySem.W.mg_none_of X G z_bool
    z_dict := PySem.W.mg_none_of X G z_dict
    z_enumerate := PySem.W.mg_none_of X G z_enumerate
    z_int := PySem.W.mg_none_of X G z_int
    z_isinstance := PySem.W.mg_none_of X G z_isinstance
    z_len := PySem.W.mg_none_of X G z_len
    z_list := PySem.W.mg_none_of X G z_list
    z_max := PySem.W.mg_none_of X G z_max
    z_range := PySem.W.mg_none_of X G z_range
    z_repr := PySem.W.mg_none_of X G z_repr
    z_set := PySem.W.mg_none_of X G z_set
    z_sorted := PySem.W.mg_none_of X G z_sorted
    z_str := PySem.W.mg_none_of X G z_str
    z_sum := PySem.W.mg_none_of X G z_sum
    z_tuple := PySem.W.mg_none_of X G z_tuple
    t_LETTERS := t_LETTERS
    m_LETTERS := PySem.W.mg_of X G m_LETTERS
    t_MOST_SIGNS := t_MOST_SIGNS
    m_MOST_SIGNS := PySem.W.mg_of X G m_MOST_SIGNS
    t_MOST_STATES := t_MOST_STATES
    m_MOST_STATES := PySem.W.mg_of X G m_MOST_STATES
    t_MOST_TEXT := t_MOST_TEXT
    m_MOST_TEXT := PySem.W.mg_of X G m_MOST_TEXT
    t_MOST_WORD := t_MOST_WORD
    m_MOST_WORD := PySem.W.mg_of X G m_MOST_WORD
    a_NoExpander := c_NoExpander
    g_NoExpander := PySem.W.mg_of X G n_NoExpander
    a_NoText := c_NoText
    g_NoText := PySem.W.mg_of X G n_NoText
    a_NoCall := c_NoCall
    g_NoCall := PySem.W.mg_of X G n_NoCall
    a_NoOutcome := c_NoOutcome
    g_NoOutcome := PySem.W.mg_of X G n_NoOutcome
    a_TooMany := c_TooMany
    g_TooMany := PySem.W.mg_of X G n_TooMany
    xi_NoExpander := xi_NoExpander
    k_NoExpander := kc_NoExpander
    b_NoExpander := b_NoExpander
    t_NoExpander := t_NoExpander
    xi_NoText := xi_NoText
    k_NoText := kc_NoText
    b_NoText := b_NoText
    t_NoText := t_NoText
    xi_NoCall := xi_NoCall
    k_NoCall := kc_NoCall
    b_NoCall := b_NoCall
    t_NoCall := t_NoCall
    nf_NoOutcome_kind := nf_NoOutcome_kind
    nf_NoOutcome_thread := nf_NoOutcome_thread
    b_NoOutcome := b_NoOutcome
    t_NoOutcome := t_NoOutcome
    o_NoOutcome := ⟨⟨nm_NoOutcome, q_NoOutcome, N_NoOutcome, bs_NoOutcome, _, sn_NoOutcome, sub_NoOutcome, ab_NoOutcome, col_NoOutcome, dd_NoOutcome, m0_NoOutcome, m1_NoOutcome, m2_NoOutcome, m3_NoOutcome, m5_NoOutcome, xl_NoOutcome, refs_one⟩, sa_NoOutcome, b_NoOutcome, t_NoOutcome, kc_NoOutcome⟩
    x_NoOutcome := ⟨hg_NoOutcome, hk_NoOutcome, b_NoOutcome, hd_NoOutcome⟩
    i_NoOutcome := i_NoOutcome
    if_NoOutcome := _
    ii_NoOutcome := ii_NoOutcome
    it_NoOutcome := it_NoOutcome
    iF_NoOutcome := fun_mk (st := (inClass (top 3) 0)) il_NoOutcome icd_NoOutcome ik_NoOutcome
    ib_NoOutcome := (fun_mk (st := (inClass (top 3) 0)) il_NoOutcome icd_NoOutcome ik_NoOutcome).binds (ps := ["self", "kind", "thread"]) fun _ _ _ _ _ _ us hl => match us, hl with | [_, _, _], _ => rfl
    nf_TooMany_limit := nf_TooMany_limit
    b_TooMany := b_TooMany
    t_TooMany := t_TooMany
    o_TooMany := ⟨⟨nm_TooMany, q_TooMany, N_TooMany, bs_TooMany, _, sn_TooMany, sub_TooMany, ab_TooMany, col_TooMany, dd_TooMany, m0_TooMany, m1_TooMany, m2_TooMany, m3_TooMany, m5_TooMany, xl_TooMany, refs_one⟩, sa_TooMany, b_TooMany, t_TooMany, kc_TooMany⟩
    x_TooMany := ⟨hg_TooMany, hk_TooMany, b_TooMany, hd_TooMany⟩
    i_TooMany := i_TooMany
    if_TooMany := _
    ii_TooMany := ii_TooMany
    it_TooMany := it_TooMany
    iF_TooMany := fun_mk (st := (inClass (top 2) 0)) il_TooMany icd_TooMany ik_TooMany
    ib_TooMany := (fun_mk (st := (inClass (top 2) 0)) il_TooMany icd_TooMany ik_TooMany).binds (ps := ["self", "limit"]) fun _ _ _ _ _ _ us hl => match us, hl with | [_, _], _ => rfl
    e_NoOutcome_NoOutcome := exm_is b_NoOutcome ic_NoOutcome t_NoOutcome s_NoOutcome_NoOutcome
    e_TooMany_TooMany := exm_is b_TooMany ic_TooMany t_TooMany s_TooMany_TooMany
  }⟩

theorem walk {l : PySem.W.OpenLaw} {q : Program} {loose : List Str} {XP : (Str → Option Value) → Heap → Prop} {YP : World → Heap → Prop} {d : DefRec} {K : Params → PySem.W.Frag} (hn : l.most = some 63) (hdf : d.params.defaults = [])
    (hY : ∀ (w : World) (h : Heap), YP w h → (K w.params).In h)
    (F : ∀ (w : World) (mg : Str → Option Value) (fa : Addr) (h : Heap), (K w.params).In h → h.Ns mainGlobals mg → mg d.name = some (.ref fa) →
      ∃ fd : FuncData, (∀ (s : Shared) (u : Value), BindsTo s fd ⟨[u], []⟩ [("script", u)]) ∧ ∀ base : Heap, (K w.params).In base → base.Ns mainGlobals mg → FnG l.prog w (K w.params) mg base CX0 10 fa fd ["script"] (sp_law (K w.params))) :
    PySem.W.WalkO q loose XP YP l.row.toRowW d [] (fun f vs => PySem.call f vs) :=
  G.walk_ofG (n := 63) (k := 10) (x := "script") (CX := fun _ => CX0) (sp := sp_law) hn (by decide) hdf ⟨rfl, by decide, by decide⟩ hY F (fun _ _ a ns hl _ hS => ⟨a, ns, rfl, hS, hl, fun _ => rfl⟩) fun _ _ _ _ _ z => z
end K12

open PySem PySem.W PyProof.Rows in
set_option maxRecDepth 100000 in
set_option maxHeartbeats 0 in
theorem PySem.Challenge.cw_rescans_k12_whole_values_and_outcomes_holds : PySem.Challenge.rw_rescans_k12_whole_values_and_outcomes.Holds := by
  w_on; o_law; k_head; (case hw => w_witness2)
  k_fill
  refine K12.walk (l := PySem.Challenge.rw_rescans_k12_whole_values_and_outcomes) rfl rfl (fun w h Y => PySem.W.kIn_of Y) ?F
  case F =>
    intro w mg fa h KX G hmg
    refine' K12.all_mk KX G hmg ?a0 ?l0 ?c0 ?k0 ?a1 ?l1 ?c1 ?k1 ?a2 ?l2 ?c2 ?k2 ?a3 ?l3 ?c3 ?k3 ?a4 ?l4 ?c4 ?k4 ?a5 ?l5 ?c5 ?k5 ?a6 ?l6 ?c6 ?k6 ?a7 ?l7 ?c7 ?k7 ?a8 ?l8 ?c8 ?k8 ?a9 ?l9 ?c9 ?k9 ?a10 ?l10 ?c10 ?k10 ?a11 ?l11 ?c11 ?k11 ?a12 ?l12 ?c12 ?k12 ?a13 ?l13 ?c13 ?k13 ?a14 ?l14 ?c14 ?k14 ?a15 ?l15 ?c15 ?k15 ?a16 ?l16 ?c16 ?k16 ?a17 ?l17 ?c17 ?k17 ?a18 ?l18 ?c18 ?k18 ?a19 ?l19 ?c19 ?k19 ?a20 ?l20 ?c20 ?k20 ?a21 ?l21 ?c21 ?k21 ?a22 ?l22 ?c22 ?k22 ?a23 ?l23 ?c23 ?k23 ?a24 ?l24 ?c24 ?k24 ?a25 ?l25 ?c25 ?k25 ?a26 ?l26 ?c26 ?k26 ?a27 ?l27 ?c27 ?k27 ?a28 ?l28 ?c28 ?k28 ?a29 ?l29 ?c29 ?k29 ?a30 ?l30 ?c30 ?k30 ?a31 ?l31 ?c31 ?k31 ?a32 ?l32 ?c32 ?k32 ?a33 ?l33 ?c33 ?k33 ?a34 ?l34 ?c34 ?k34 ?a35 ?l35 ?c35 ?k35 ?a36 ?l36 ?c36 ?k36 ?a37 ?l37 ?c37 ?k37 ?a38 ?l38 ?dk38 ?c38 ?k38 ?a39 ?l39 ?c39 ?k39 ?a40 ?l40 ?c40 ?k40 ?a41 ?l41 ?c41 ?k41 ?a42 ?l42 ?c42 ?k42 ?a43 ?l43 ?c43 ?k43 ?a44 ?l44 ?c44 ?k44 ?a45 ?l45 ?c45 ?k45 ?a46 ?l46 ?c46 ?k46 ?a47 ?l47 ?c47 ?k47 ?a48 ?l48 ?c48 ?k48 ?a49 ?l49 ?c49 ?k49 ?a50 ?l50 ?c50 ?k50 ?a51 ?l51 ?c51 ?k51 ?a52 ?l52 ?c52 ?k52 ?a53 ?l53 ?c53 ?k53 ?a54 ?l54 ?c54 ?k54 ?a55 ?l55 ?c55 ?k55 ?a56 ?l56 ?c56 ?k56 ?z_abs ?z_all ?z_any ?z_bool ?z_dict ?z_enumerate ?z_int ?z_isinstance ?z_len ?z_list ?z_max ?z_range ?z_repr ?z_set ?z_sorted ?z_str ?z_sum ?z_tuple ?m_LETTERS ?m_MOST_SIGNS ?m_MOST_STATES ?m_MOST_TEXT ?m_MOST_WORD ?n_NoExpander ?n_NoText ?n_NoCall ?n_NoOutcome ?n_TooMany ?xi_NoExpander ?kc_NoExpander ?b_NoExpander ?t_NoExpander ?ic_NoExpander ?xi_NoText ?kc_NoText ?b_NoText ?t_NoText ?ic_NoText ?xi_NoCall ?kc_NoCall ?b_NoCall ?t_NoCall ?ic_NoCall ?hg_NoOutcome ?hk_NoOutcome ?b_NoOutcome ?hd_NoOutcome ?t_NoOutcome ?ic_NoOutcome ?nf_NoOutcome_kind ?nf_NoOutcome_thread ?xl_NoOutcome ?sa_NoOutcome ?kc_NoOutcome ?ii_NoOutcome ?it_NoOutcome ?il_NoOutcome ?icd_NoOutcome ?ik_NoOutcome ?hg_TooMany ?hk_TooMany ?b_TooMany ?hd_TooMany ?t_TooMany ?ic_TooMany ?nf_TooMany_limit ?xl_TooMany ?sa_TooMany ?kc_TooMany ?ii_TooMany ?it_TooMany ?il_TooMany ?icd_TooMany ?ik_TooMany ?s_NoOutcome_NoOutcome ?s_TooMany_TooMany
    (case a0 => k_is)
    (case l0 => k_is)
    (case c0 => k_is)
    (case k0 => k_is)
    (case a1 => k_is)
    (case l1 => k_is)
    (case c1 => k_is)
    (case k1 => k_is)
    (case a2 => k_is)
    (case l2 => k_is)
    (case c2 => k_is)
    (case k2 => k_is)
    (case a3 => k_is)
    (case l3 => k_is)
    (case c3 => k_is)
    (case k3 => k_is)
    (case a4 => k_is)
    (case l4 => k_is)
    (case c4 => k_is)
    (case k4 => k_is)
    (case a5 => k_is)
    (case l5 => k_is)
    (case c5 => k_is)
    (case k5 => k_is)
    (case a6 => k_is)
    (case l6 => k_is)
    (case c6 => k_is)
    (case k6 => k_is)
    (case a7 => k_is)
    (case l7 => k_is)
    (case c7 => k_is)
    (case k7 => k_is)
    (case a8 => k_is)
    (case l8 => k_is)
    (case c8 => k_is)
    (case k8 => k_is)
    (case a9 => k_is)
    (case l9 => k_is)
    (case c9 => k_is)
    (case k9 => k_is)
    (case a10 => k_is)
    (case l10 => k_is)
    (case c10 => k_is)
    (case k10 => k_is)
    (case a11 => k_is)
    (case l11 => k_is)
    (case c11 => k_is)
    (case k11 => k_is)
    (case a12 => k_is)
    (case l12 => k_is)
    (case c12 => k_is)
    (case k12 => k_is)
    (case a13 => k_is)
    (case l13 => k_is)
    (case c13 => k_is)
    (case k13 => k_is)
    (case a14 => k_is)
    (case l14 => k_is)
    (case c14 => k_is)
    (case k14 => k_is)
    (case a15 => k_is)
    (case l15 => k_is)
    (case c15 => k_is)
    (case k15 => k_is)
    (case a16 => k_is)
    (case l16 => k_is)
    (case c16 => k_is)
    (case k16 => k_is)
    (case a17 => k_is)
    (case l17 => k_is)
    (case c17 => k_is)
    (case k17 => k_is)
    (case a18 => k_is)
    (case l18 => k_is)
    (case c18 => k_is)
    (case k18 => k_is)
    (case a19 => k_is)
    (case l19 => k_is)
    (case c19 => k_is)
    (case k19 => k_is)
    (case a20 => k_is)
    (case l20 => k_is)
    (case c20 => k_is)
    (case k20 => k_is)
    (case a21 => k_is)
    (case l21 => k_is)
    (case c21 => k_is)
    (case k21 => k_is)
    (case a22 => k_is)
    (case l22 => k_is)
    (case c22 => k_is)
    (case k22 => k_is)
    (case a23 => k_is)
    (case l23 => k_is)
    (case c23 => k_is)
    (case k23 => k_is)
    (case a24 => k_is)
    (case l24 => k_is)
    (case c24 => k_is)
    (case k24 => k_is)
    (case a25 => k_is)
    (case l25 => k_is)
    (case c25 => k_is)
    (case k25 => k_is)
    (case a26 => k_is)
    (case l26 => k_is)
    (case c26 => k_is)
    (case k26 => k_is)
    (case a27 => k_is)
    (case l27 => k_is)
    (case c27 => k_is)
    (case k27 => k_is)
    (case a28 => k_is)
    (case l28 => k_is)
    (case c28 => k_is)
    (case k28 => k_is)
    (case a29 => k_is)
    (case l29 => k_is)
    (case c29 => k_is)
    (case k29 => k_is)
    (case a30 => k_is)
    (case l30 => k_is)
    (case c30 => k_is)
    (case k30 => k_is)
    (case a31 => k_is)
    (case l31 => k_is)
    (case c31 => k_is)
    (case k31 => k_is)
    (case a32 => k_is)
    (case l32 => k_is)
    (case c32 => k_is)
    (case k32 => k_is)
    (case a33 => k_is)
    (case l33 => k_is)
    (case c33 => k_is)
    (case k33 => k_is)
    (case a34 => k_is)
    (case l34 => k_is)
    (case c34 => k_is)
    (case k34 => k_is)
    (case a35 => k_is)
    (case l35 => k_is)
    (case c35 => k_is)
    (case k35 => k_is)
    (case a36 => k_is)
    (case l36 => k_is)
    (case c36 => k_is)
    (case k36 => k_is)
    (case a37 => k_is)
    (case l37 => k_is)
    (case c37 => k_is)
    (case k37 => k_is)
    (case a38 => k_is)
    (case l38 => k_is)
    (case dk38 => k_is)
    (case c38 => k_is)
    (case k38 => k_is)
    (case a39 => k_is)
    (case l39 => k_is)
    (case c39 => k_is)
    (case k39 => k_is)
    (case a40 => k_is)
    (case l40 => k_is)
    (case c40 => k_is)
    (case k40 => k_is)
    (case a41 => k_is)
    (case l41 => k_is)
    (case c41 => k_is)
    (case k41 => k_is)
    (case a42 => k_is)
    (case l42 => k_is)
    (case c42 => k_is)
    (case k42 => k_is)
    (case a43 => k_is)
    (case l43 => k_is)
    (case c43 => k_is)
    (case k43 => k_is)
    (case a44 => k_is)
    (case l44 => k_is)
    (case c44 => k_is)
    (case k44 => k_is)
    (case a45 => k_is)
    (case l45 => k_is)
    (case c45 => k_is)
    (case k45 => k_is)
    (case a46 => k_is)
    (case l46 => k_is)
    (case c46 => k_is)
    (case k46 => k_is)
    (case a47 => k_is)
    (case l47 => k_is)
    (case c47 => k_is)
    (case k47 => k_is)
    (case a48 => k_is)
    (case l48 => k_is)
    (case c48 => k_is)
    (case k48 => k_is)
    (case a49 => k_is)
    (case l49 => k_is)
    (case c49 => k_is)
    (case k49 => k_is)
    (case a50 => k_is)
    (case l50 => k_is)
    (case c50 => k_is)
    (case k50 => k_is)
    (case a51 => k_is)
    (case l51 => k_is)
    (case c51 => k_is)
    (case k51 => k_is)
    (case a52 => k_is)
    (case l52 => k_is)
    (case c52 => k_is)
    (case k52 => k_is)
    (case a53 => k_is)
    (case l53 => k_is)
    (case c53 => k_is)
    (case k53 => k_is)
    (case a54 => k_is)
    (case l54 => k_is)
    (case c54 => k_is)
    (case k54 => k_is)
    (case a55 => k_is)
    (case l55 => k_is)
    (case c55 => k_is)
    (case k55 => k_is)
    (case a56 => k_is)
    (case l56 => k_is)
    (case c56 => k_is)
    (case k56 => k_is)
    (case z_abs => k_is)
    (case z_all => k_is)
    (case z_any => k_is)
    (case z_bool => k_is)
    (case z_dict => k_is)
    (case z_enumerate => k_is)
    (case z_int => k_is)
    (case z_isinstance => k_is)
    (case z_len => k_is)
    (case z_list => k_is)
    (case z_max => k_is)
    (case z_range => k_is)
    (case z_repr => k_is)
    (case z_set => k_is)
    (case z_sorted => k_is)
    (case z_str => k_is)
    (case z_sum => k_is)
    (case z_tuple => k_is)
    (case m_LETTERS => k_is)
    (case m_MOST_SIGNS => k_is)
    (case m_MOST_STATES => k_is)
    (case m_MOST_TEXT => k_is)
    (case m_MOST_WORD => k_is)
    (case n_NoExpander => k_is)
    (case n_NoText => k_is)
    (case n_NoCall => k_is)
    (case n_NoOutcome => k_is)
    (case n_TooMany => k_is)
    (case xi_NoExpander => k_exc)
    (case kc_NoExpander => k_is)
    (case b_NoExpander => k_is)
    (case t_NoExpander => k_is)
    (case ic_NoExpander => k_is)
    (case xi_NoText => k_exc)
    (case kc_NoText => k_is)
    (case b_NoText => k_is)
    (case t_NoText => k_is)
    (case ic_NoText => k_is)
    (case xi_NoCall => k_exc)
    (case kc_NoCall => k_is)
    (case b_NoCall => k_is)
    (case t_NoCall => k_is)
    (case ic_NoCall => k_is)
    (case hg_NoOutcome => k_is)
    (case hk_NoOutcome => k_is)
    (case b_NoOutcome => k_is)
    (case hd_NoOutcome => k_is)
    (case t_NoOutcome => k_is)
    (case ic_NoOutcome => k_is)
    (case nf_NoOutcome_kind => k_is)
    (case nf_NoOutcome_thread => k_is)
    (case xl_NoOutcome => k_is)
    (case sa_NoOutcome => k_is)
    (case kc_NoOutcome => k_is)
    (case ii_NoOutcome => k_is)
    (case it_NoOutcome => k_is)
    (case il_NoOutcome => k_is)
    (case icd_NoOutcome => k_is)
    (case ik_NoOutcome => k_is)
    (case hg_TooMany => k_is)
    (case hk_TooMany => k_is)
    (case b_TooMany => k_is)
    (case hd_TooMany => k_is)
    (case t_TooMany => k_is)
    (case ic_TooMany => k_is)
    (case nf_TooMany_limit => k_is)
    (case xl_TooMany => k_is)
    (case sa_TooMany => k_is)
    (case kc_TooMany => k_is)
    (case ii_TooMany => k_is)
    (case it_TooMany => k_is)
    (case il_TooMany => k_is)
    (case icd_TooMany => k_is)
    (case ik_TooMany => k_is)
    (case s_NoOutcome_NoOutcome => first | rfl | k_is)
    (case s_TooMany_TooMany => first | rfl | k_is)

